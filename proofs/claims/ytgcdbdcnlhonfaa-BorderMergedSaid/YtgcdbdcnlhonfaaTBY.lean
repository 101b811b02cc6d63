/- What the functions of the layer border come to: whether a map is valid. Conditions: none. -/
import Derived.Test.YtgcdbdcnlhonfaaTBX
-- MOD TB
namespace Go.Xe
open Go
section
variable {P : Program} [Gl P] [Orc P] {rnd : Option Nat} {Q : FQ} {K : List FFr} {t : TT} {m : List Nat} {H : Heap}
variable {is : List FI} {d p : Pth} {w : Bool} {fa : FA} {args : List FA} {y : Value} {R : Value→Heap→Prop}
theorem VI.callVT (hp : gt p t=.bool w) (hf : dA t fa=y) (h : FV P y (args.map (dA t)) H R) (k : ∀ v H1,R v H1→VI P rnd Q K m is (st v d t) H1) : VI P rnd Q K m (.gd p w (.call fa args) d::is) t H:=by
 subst hf
 unfold FV at h
 split at h
 ·rename_i g a b e
  obtain⟨v,H1,h1,h2⟩:=h
  refine .gdT hp (.call e (H1:=H1) (v:=v) ?_) (k _ _ h2)
  have e2 : (⟨a⟩ : Array Value)++⟨args.map (dA t)⟩++⟨b⟩=⟨a++args.map (dA t)++b⟩:=by simp only[arr_app]
  rw[e2];exact h1
 ·rename_i l a b e
  obtain⟨v,H1,h1,h2⟩:=h
  refine .gdT hp (.yield e (H1:=H1) (v:=v) ?_) (k _ _ h2)
  have e2 : (⟨a⟩ : Array Value)++⟨args.map (dA t)⟩=⟨a++args.map (dA t)⟩:=by simp only[arr_app]
  rw[e2];exact h1
 ·exact h.elim
end
end Go.Xe
namespace Go.Xe.TBX
open Go Go.Xe Go.Proofs
open Nat renaming reduceLeDiff → qA, reduceSub → qB, reduceAdd → qC, reduceEqDiff → qD, reduceLT → qE
open Int renaming reduceNegSucc → qF, reduceEq → qG
open Go.Xe.V renaming seq → sA, block → sB, scope → sC, skip → sD, close → sE
open Go.Xe renaming pth → P
open Go.Xe.Rnd
set_option maxRecDepth 100000
set_option maxHeartbeats 3200000
set_option linter.unusedSimpArgs false
noncomputable def d100 : FCode:=(.seq (.run (.go (.move (.con (.slice none 0 0))) (P 0)::
[])) (.seq (.run (.go (.build [.nilFunc] [(0,1,(.con (.func (.func 117) ⟨[]⟩ ⟨[]⟩)))]) (P 1)::
.go (.build [.nilFunc] [(0,1,(.con (.func (.func 118) ⟨[]⟩ ⟨[]⟩)))]) (P 2)::
.go (.buildSlice 133 2 [.nilFunc,.nilFunc] [(0,1,(tm 1)),(1,1,(tm 2))]) (P 3)::
.go (.move (tm 3)) (P 0)::
[])) .ret))
theorem de100 : @compF Try.prog (Gl.none Try.prog) Try.f100 0=.mk d100 (mkTT 4) [] [.tmp (P 0)]:=by kernel_rfl
theorem dg100 : Try.prog.funcs[100]?=some Try.f100:=Try.func100
theorem do100 : okF Try.prog Try.f100=true:=by kernel_rfl
noncomputable def d102 : FCode:=(.seq (.run (.go (.move (.con (.bool false))) (P 4)::
[])) (.seq (.seq (.run (.go (.move (tm 0)) (P 7)::
.go (.len 0 (tm 7)) (P 8)::
.go (.move (.con (.int .i64 (.ofNat 0)))) (P 9)::
[])) (.block 0 (.loop (.seq (.run (.go (.bin .lss 3 (tm 9) (tm 8)) (P 10)::
[])) (.seq (.cond (tm 10) .skip (.exit 0)) (.seq (.block 1 (.seq (.run (.go (.indexAddr none 1 (tm 7) (tm 9)) (P 11)::
.go (.loadN 1 (tm 11)) (P 12)::
.go (.alloc 133 [.nilFunc]) (P 6)::
.un (.store 1 (tm 6) (tm 12))::
[])) (.seq (.run (.go (.move (tm 1)) (P 13)::
.go (.loadN 1 (tm 6)) (P 14)::
.go (.call (tm 13) [tm 14]) (P 15)::
.go (.un .not (tm 15)) (P 16)::
[])) (.cond (tm 16) (.seq (.run (.go (.move (.con (.bool false))) (P 4)::
[])) .ret) .skip)))) (.run (.go (.bin .add 3 (tm 9) (.con (.int .i64 (.ofNat 1)))) (P 17)::
.go (.move (tm 17)) (P 9)::
[])))))))) (.seq (.run (.go (.move (.con (.bool true))) (P 4)::
[])) .ret)))
theorem de102 : @compF Try.prog (Gl.none Try.prog) Try.f102 2=.mk d102 (mkTT 18) [(P 0),(P 1)] [.tmp (P 4)]:=by kernel_rfl
theorem dg102 : Try.prog.funcs[102]?=some Try.f102:=Try.func102
theorem do102 : okF Try.prog Try.f102=true:=by kernel_rfl
noncomputable def d103 : FCode:=(.seq (.run (.go (.box 133 (tm 0)) (P 3)::
.go (.move (.con (.bool false))) (P 4)::
[])) (.seq (.draw 7 (.go (.loadN 2 (tm 1)) (P 5)::
.go (.fieldAddr 0 (tm 3)) (P 6)::
.go (.load1 (tm 6)) (P 7)::
.go (.loadN 2 (tm 2)) (P 8)::
.go (.call (tm 7) [tm 8]) (P 9)::
.go (.call (.con (.func (.func 85) ⟨[]⟩ ⟨[]⟩)) [(tm 5),(tm 9)]) (P 10)::
.go (.move (tm 10)) (P 4)::
[]) [.rd none (.loadN 2 (tm 1)) (some (P 5)) [5],.ok,.ok,.ok,.ok,.ok,.ok]) .ret))
theorem de103 : @compF Try.prog (Gl.none Try.prog) Try.f103 3=.mk d103 (mkTT 11) [(P 0),(P 1),(P 2)] [.tmp (P 4)]:=by kernel_rfl
theorem dg103 : Try.prog.funcs[103]?=some Try.f103:=Try.func103
theorem do103 : okF Try.prog Try.f103=true:=by kernel_rfl
noncomputable def d69 : FCode:=(.seq (.run (.go (.box 62 (tm 0)) (P 2)::
.go (.box 62 (tm 1)) (P 3)::
.go (.move (.con (.bool false))) (P 4)::
[])) (.seq (.run (.go (.fieldAddr 0 (tm 2)) (P 5)::
.go (.load1 (tm 5)) (P 6)::
.go (.fieldAddr 1 (tm 2)) (P 7)::
.go (.load1 (tm 7)) (P 8)::
.go (.bin .leq 3 (tm 6) (tm 8)) (P 9)::
.go (.move (tm 9)) (P 10)::
.gd (P 10) true (.call (.con (.func (.func 100) ⟨[]⟩ ⟨[]⟩)) []) (P 11)::
.gd (P 10) true (.makeFunc 103 [] [(tm 3),(tm 2)]) (P 12)::
.gd (P 10) true (.call (.con (.func (.func 102) ⟨[]⟩ ⟨[]⟩)) [(tm 11),(tm 12)]) (P 13)::
.go (.pick (tm 10) (tm 13) (.con (.bool false))) (P 14)::
.go (.move (tm 14)) (P 4)::
[])) .ret))
theorem de69 : @compF Try.prog (Gl.none Try.prog) Try.f69 2=.mk d69 (mkTT 15) [(P 0),(P 1)] [.tmp (P 4)]:=by kernel_rfl
theorem dg69 : Try.prog.funcs[69]?=some Try.f69:=Try.func69
theorem do69 : okF Try.prog Try.f69=true:=by kernel_rfl
noncomputable def d89 : FCode:=(.seq (.run (.go (.box 34 (tm 0)) (P 2)::
.go (.box 74 (tm 1)) (P 3)::
.go (.move (.con (.bool false))) (P 4)::
[])) (.seq (.draw 23 (.go (.loadN 4 (tm 2)) (P 5)::
.go (.fieldAddr 0 (tm 3)) (P 6)::
.go (.load1 (tm 6)) (P 7)::
.go (.call (.con (.func (.func 108) ⟨[]⟩ ⟨[]⟩)) [(tm 5),(tm 7)]) (P 8)::
.go (.move (tm 8)) (P 9)::
.gd (P 9) true (.loadN 4 (tm 2)) (P 10)::
.gd (P 9) true (.fieldAddr 1 (tm 3)) (P 11)::
.gd (P 9) true (.load1 (tm 11)) (P 12)::
.gd (P 9) true (.call (.con (.func (.func 105) ⟨[]⟩ ⟨[]⟩)) [(tm 10),(tm 12)]) (P 13)::
.go (.pick (tm 9) (tm 13) (.con (.bool false))) (P 14)::
.go (.move (tm 14)) (P 15)::
.gd (P 15) true (.call (.con (.func (.func 109) ⟨[]⟩ ⟨[]⟩)) []) (P 16)::
.gd (P 15) true (.fieldAddr 2 (tm 3)) (P 17)::
.gd (P 15) true (.load1 (tm 17)) (P 18)::
.gd (P 15) true (.call (.con (.func (.func 85) ⟨[]⟩ ⟨[]⟩)) [(tm 16),(tm 18)]) (P 19)::
.go (.pick (tm 15) (tm 19) (.con (.bool false))) (P 20)::
.go (.move (tm 20)) (P 21)::
.gd (P 21) true (.fieldAddr 3 (tm 3)) (P 22)::
.gd (P 21) true (.loadN 2 (tm 22)) (P 23)::
.gd (P 21) true (.call (.con (.func (.func 87) ⟨[]⟩ ⟨[]⟩)) []) (P 24)::
.gd (P 21) true (.call (.con (.func (.func 69) ⟨[]⟩ ⟨[]⟩)) [(tm 23),(tm 24)]) (P 25)::
.go (.pick (tm 21) (tm 25) (.con (.bool false))) (P 26)::
.go (.move (tm 26)) (P 4)::
[]) [.ok,.ok,.ok,.ok,.ok,.ok,.ok,.ok,.ok,.ok,.ok,.ok,.ok,.rd (some ((P 15),true)) (.load1 (tm 17)) (some (P 18)) [9],.ok,.ok,.ok,.ok,.rd (some ((P 21),true)) (.loadN 2 (tm 22)) (some (P 23)) [20],.ok,.ok,.ok,.ok]) .ret))
theorem de89 : @compF Try.prog (Gl.none Try.prog) Try.f89 2=.mk d89 (mkTT 27) [(P 0),(P 1)] [.tmp (P 4)]:=by kernel_rfl
theorem dg89 : Try.prog.funcs[89]?=some Try.f89:=Try.func89
theorem do89 : okF Try.prog Try.f89=true:=by kernel_rfl
noncomputable def d91 : FCode:=(.seq (.run (.go (.box 34 (tm 0)) (P 2)::
.go (.box 76 (tm 1)) (P 3)::
.go (.move (.con (.bool false))) (P 4)::
[])) (.seq (.run (.go (.loadN 4 (tm 2)) (P 6)::
.go (.makeFunc 110 [tm 6] []) (P 7)::
.go (.move (tm 7)) (P 5)::
[])) (.seq (.run (.go (.move (tm 5)) (P 8)::
.go (.fieldAddr 0 (tm 3)) (P 9)::
.go (.load1 (tm 9)) (P 10)::
.go (.call (tm 8) [tm 10]) (P 11)::
.go (.move (tm 11)) (P 12)::
.gd (P 12) true (.move (tm 5)) (P 13)::
.gd (P 12) true (.fieldAddr 1 (tm 3)) (P 14)::
.gd (P 12) true (.load1 (tm 14)) (P 15)::
.gd (P 12) true (.call (tm 13) [tm 15]) (P 16)::
.go (.pick (tm 12) (tm 16) (.con (.bool false))) (P 17)::
.go (.move (tm 17)) (P 18)::
.gd (P 18) true (.fieldAddr 0 (tm 3)) (P 19)::
.gd (P 18) true (.load1 (tm 19)) (P 20)::
.gd (P 18) true (.fieldAddr 1 (tm 3)) (P 21)::
.gd (P 18) true (.load1 (tm 21)) (P 22)::
.gd (P 18) true (.bin .neq 3 (tm 20) (tm 22)) (P 23)::
.go (.pick (tm 18) (tm 23) (.con (.bool false))) (P 24)::
.go (.move (tm 24)) (P 4)::
[])) .ret)))
theorem de91 : @compF Try.prog (Gl.none Try.prog) Try.f91 2=.mk d91 (mkTT 25) [(P 0),(P 1)] [.tmp (P 4)]:=by kernel_rfl
theorem dg91 : Try.prog.funcs[91]?=some Try.f91:=Try.func91
theorem do91 : okF Try.prog Try.f91=true:=by kernel_rfl
theorem f117_fv (a b : Int) (X : Heap) : FV Try.prog (fn 117) [.agg ⟨A2 a b⟩] X (fun w X'=>w=I a∧Grow X X'):=f117_ok a b X
theorem f118_fv (a b : Int) (X : Heap) : FV Try.prog (fn 118) [.agg ⟨A2 a b⟩] X (fun w X'=>w=I b∧Grow X X'):=f118_ok a b X
theorem f100_ok (H : Heap) : F Try.prog 100 ⟨[]⟩ H (fun w X=>∃ i,w=.slice (some ⟨i,0,none⟩) 2 2∧Grow H X∧Bx X i [fn 117,fn 118] 133):=by
 refine F.entryL rfl dg100 do100 de100 rfl (by kernel_rfl) ?_
 simp only[sets]
 refine V.re [] (N:=4) zE zY ?_
 intro t hF hA
 refine zS ?_
 refine V.l0 ?_
 refine zS ?_
 refine V.l0 ?_
 refine zS ?_
 refine V.ret (V.rets rfl (Lv.retF (by simp +contextual (disch:=first|omega|simp only[nx];omega) only[D1,cells_alloc_at,cells_alloc_ne,cells_set_at,cells_set_ne,yres,yres1,yresL,qA,qB,qC,D5,hF,hA,↓reduceIte,qD,qE];rfl) ?_))
 refine⟨_,rfl,?_,?_⟩
 ·exact zW
 ·exact Bx.new _ _ _
theorem ld1 {X : Heap} {i : Nat} {a b : Nat} {e : TypeId} (h : Bx X i [fn a,fn b] e) {k : Nat} (hk : k<2) : yloadN 1 X (.pointer (some ⟨i,k,none⟩))=some (.agg ⟨[fn (if k=0 then a else b)]⟩):=by
 simp only[yloadN,h.2]
 match k,hk with
 | 0,_=>rfl
 | 1,_=>rfl
theorem f102_ok {H : Heap} {i : Nat} {fv : Value} {P : Nat→Prop} [DecidablePred P] (hb : Bx H i [fn 117,fn 118] 133) (hc : ∀ k X,k<2→Grow H X→FV Try.prog fv [.agg ⟨[fn (if k=0 then 117 else 118)]⟩] X (fun w X'=>w=.bool (decide (P k))∧Grow X X')) : Gives Try.prog 102 [.slice (some ⟨i,0,none⟩) 2 2,fv] H (.bool (decide (P 0∧P 1))):=by
 have hl : ∀ X,ylen 0 X (.slice (some ⟨i,0,none⟩) 2 2)=some (I 2):=fun _=>rfl
 refine F.entryL rfl dg102 do102 de102 rfl (by kernel_rfl) ?_
 simp only[sets]
 refine V.re [(0,.slice (some ⟨i,0,none⟩) 2 2),(1,fv)] (N:=18) zE zY ?_
 intro t hF hA
 simp only[Kn,and_true] at hA
 refine zS ?_
 refine V.l0 ?_
 refine zS ?_
 have zf:=@hl
 refine V.lz ?_
 refine zS ?_
 refine V.loop (fun z t mm X=>∃ (k : Nat),k≤2∧z=2-k∧mm=[]∧Grow H X∧(0<k→P 0)∧(1<k→P 1)∧Full 18 t∧Kn [(1,fv),(7,.slice (some ⟨i,0,none⟩) 2 2),(8,I 2),(9,I k)] t) 2 ?_ ?_
 ·exact⟨0,by omega,by omega,rfl,.refl _,fun h=>by omega,fun h=>by omega,zF,zK⟩
 clear hF hA
 rintro z t mm X ⟨k,hk,rfl,rfl,hg,p0,p1,hF,hA⟩
 simp only[Kn,and_true] at hA
 refine zS ?_
 refine V.l0 ?_
 refine zS ?_
 refine V.condP zP (fun hlt=>?_) (fun hlt=>?_)
 ·have hlt' : k<2:=by omega
  have ix:=own_idx (y:=i) (c:=2) hlt'
  have l1:=ld1 (hb.grow hg) hlt'
  obtain⟨g,hgg⟩ : ∃ g : Nat,g=(if k=0 then 117 else 118):=⟨_,rfl⟩
  have hcc:=fun X' (g' : Grow X X')=>hc k X' hlt' (hg.trans g')
  rw[← hgg] at l1
  simp only[← hgg] at hcc
  refine zS ?_
  have zf:=And.intro @ix<|@l1
  refine V.lz ?_
  refine V.heap (fun Y=>Grow X Y∧Bx Y X.next [fn g] 133) ⟨?_,?_⟩ ?_
  ·exact zW
  ·exact zB
  rintro X1 ⟨gx,bx⟩
  refine zS ?_
  refine V.run ?_
  have zf:=bx.2
  refine VI.sz 2 ?_
  simp only[ds]
  refine VI.callV (y:=fv) zA (by simp only[List.map_cons,List.map_nil,D6,D5,hF,hA,↓reduceIte,qD,qE];exact hcc X1 gx) (fun v X2 hv=>?_)
  obtain⟨rfl,g2⟩:=hv
  have hg2:=(hg.trans gx).trans g2
  refine VI.l0 ?_
  refine zS ?_
  have hk2 : k=0∨k=1:=by omega
  refine V.condP zP (fun hbad=>?_) (fun hbad=>?_)
  ·refine zS ?_
   refine V.l0 ?_
   refine zS ?_
   refine V.ret (V.rets rfl (Or.inr ⟨by simp,V.rets rfl (Lv.retG (by simp +contextual (disch:=first|omega|simp only[nx];omega) only[D1,cells_alloc_at,cells_alloc_ne,cells_set_at,cells_set_ne,yres,yres1,yresL,qA,qB,qC,D5,hF,hA,↓reduceIte,qD,qE];rfl) ?_ ?_)⟩))
   ·exact hg2
   ·congr 1
    refine (decide_eq_false (fun hh=>hbad ?_)).symm
    rcases hk2 with rfl|rfl
    ·exact hh.1
    ·exact hh.2
  ·have hgood:=Decidable.not_not.1 hbad
   refine zS ?_
   refine V.l0 ?_
   refine V.nil (Or.inl ⟨rfl,2-(k+1),by omega,?_⟩)
   refine⟨k+1,by omega,rfl,rfl,hg2,fun _=>?_,fun h=>?_,zF,zK⟩
   ·rcases hk2 with rfl|rfl
    ·exact hgood
    ·exact p0 (by omega)
   ·rcases hk2 with rfl|rfl
    ·omega
    ·exact hgood
 ·refine V.exit ?_
  refine zX ?_
  refine V.nil (Or.inr ⟨by simp,?_⟩)
  refine zX ?_
  refine zS ?_
  refine V.l0 ?_
  refine zS ?_
  refine V.ret (V.rets rfl (Lv.retG (by simp +contextual (disch:=first|omega|simp only[nx];omega) only[D1,cells_alloc_at,cells_alloc_ne,cells_set_at,cells_set_ne,yres,yres1,yresL,qA,qB,qC,D5,hF,hA,↓reduceIte,qD,qE];rfl) ?_ ?_))
  ·exact hg
  ·rw[decide_eq_true ⟨p0 (by omega),p1 (by omega)⟩]
theorem f103_ok {H : Heap} {a b g : Nat} {x y lo hi v : Int} (ha : Bx H a (A2 x y) 62) (hb : Bx H b (A2 lo hi) 62) (hf : ∀ X,FV Try.prog (fn g) [.agg ⟨A2 lo hi⟩] X (fun w X'=>w=I v∧Grow X X')) : Gives Try.prog 103 [.agg ⟨[fn g]⟩,PT a,PT b] H (.bool (decide (x≤v∧v≤y))):=by
 refine F.entryL rfl dg103 do103 de103 rfl (by kernel_rfl) ?_
 simp only[sets]
 refine V.re [(0,.agg ⟨[fn g]⟩),(1,PT a),(2,PT b)] (N:=11) zE zY ?_
 intro t hF hA
 simp only[Kn,and_true] at hA
 refine zS ?_
 refine V.l0 ?_
 refine V.heap (fun X=>Grow H X∧Bx X H.next [fn g] 133) ⟨?_,?_⟩ ?_
 ·exact zW
 ·exact zB
 rintro H1 ⟨g1,b1⟩
 have a1:=ha.grow g1
 have c1:=hb.grow g1
 refine zS ?_
 refine V.draw ?_
 have zf:=And.intro a1.2<|And.intro c1.2<|b1.2
 refine VD.nz 4 ?_
 simp only[ds]
 refine VD.callV zA (hf H1) zA (fun w2 H2 ⟨hw2,g2⟩=>?_)
 subst hw2
 have a2:=a1.grow g2
 refine VD.callA zA (f85_ok x y v _) zA (fun H3 g3=>?_)
 have a3:=a2.grow g3
 have m2:=g2.1
 have m3:=g3.1
 refine VD.d0 ?_ ?_ rfl ?_
 ·exact zM
 ·simp only[dcAll,dcOk,wantD,List.cons_append,List.nil_append,true_and,and_true]
  have zf:=And.intro a1.2<|And.intro a2.2<|a3.2
  exact zR
 refine zS ?_
 refine V.ret (V.rets rfl (Lv.retG (by simp +contextual (disch:=first|omega|simp only[nx];omega) only[D1,cells_alloc_at,cells_alloc_ne,cells_set_at,cells_set_ne,yres,yres1,yresL,qA,qB,qC,D5,hF,hA,↓reduceIte,qD,qE];rfl) ?_ ?_))
 ·exact (g1.trans g2).trans g3
 ·rfl
def wi (a b x y : Int) : Prop:=a≤b∧(x≤a∧a≤y)∧x≤b∧b≤y
instance (a b x y : Int) : Decidable (wi a b x y):=by unfold wi;infer_instance
theorem f69_ok (a b x y : Int) (H : Heap) : Gives Try.prog 69 [.agg ⟨A2 a b⟩,.agg ⟨A2 x y⟩] H (.bool (decide (wi a b x y))):=by
 refine F.entryL rfl dg69 do69 de69 rfl (by kernel_rfl) ?_
 simp only[sets]
 refine V.re [(0,.agg ⟨A2 a b⟩),(1,.agg ⟨A2 x y⟩)] (N:=15) zE zY ?_
 intro t hF hA
 simp only[Kn,and_true] at hA
 refine zS ?_
 refine V.l0 ?_
 refine V.heap (fun X=>Grow H X∧Bx X H.next (A2 a b) 62∧Bx X (H.next+1) (A2 x y) 62) ⟨?_,?_,?_⟩ ?_
 ·exact zW
 ·exact zB
 ·exact zB
 rintro H1 ⟨g1,b1,c1⟩
 refine zS ?_
 by_cases hab : a≤b
 ·have habt : (a≤b)=True:=eq_true hab
  refine V.run ?_
  have zf:=And.intro b1.2<|@habt
  refine VI.sz 6 ?_
  simp only[ds]
  refine VI.callRT zG zA (f100_ok H1) zA (fun w2 H2 ⟨i,hw2,g2,bi⟩=>?_)
  subst hw2
  refine VI.s0 1 ?_
  simp only[ds]
  have b2:=b1.grow g2
  have c2:=c1.grow g2
  have f102':=f102_ok (fv:=.func (.func 103) ⟨[]⟩ ⟨[PT (H.next+1),PT H.next]⟩) (P:=fun k=>x≤(if k=0 then a else b)∧(if k=0 then a else b)≤y) bi (fun k X hk g=>by
   by_cases h0 : k=0
   ·simp only[if_pos h0]
    exact f103_ok (c2.grow g) (b2.grow g) (f117_fv a b)
   ·simp only[if_neg h0]
    exact f103_ok (c2.grow g) (b2.grow g) (f118_fv a b))
  refine VI.callAT zG rfl (f102') zA (fun H3 g3=>?_)
  refine VI.l0 ?_
  refine zS ?_
  refine V.ret (V.rets rfl (Lv.retG (by simp +contextual (disch:=first|omega|simp only[nx];omega) only[D1,cells_alloc_at,cells_alloc_ne,cells_set_at,cells_set_ne,yres,yres1,yresL,qA,qB,qC,D5,hF,hA,↓reduceIte,qD,qE];rfl) ?_ ?_))
  ·exact (g1.trans g2).trans g3
  ·congr 1
   rw[decide_eq_decide]
   unfold wi
   simp[hab]
 ·have habf : (a≤b)=False:=eq_false hab
  refine V.run ?_
  have zf:=And.intro b1.2<|@habf
  refine VI.sz 6 ?_
  simp only[ds]
  refine VI.gdF zG ?_
  refine VI.s0 1 ?_
  simp only[ds]
  refine VI.gdF zG ?_
  refine VI.l0 ?_
  refine zS ?_
  refine V.ret (V.rets rfl (Lv.retG (by simp +contextual (disch:=first|omega|simp only[nx];omega) only[D1,cells_alloc_at,cells_alloc_ne,cells_set_at,cells_set_ne,yres,yres1,yresL,qA,qB,qC,D5,hF,hA,↓reduceIte,qD,qE];rfl) ?_ ?_))
  ·exact g1
  ·congr 1
   exact (decide_eq_false (fun h=>hab h.1)).symm
def sok (M : BM) (s : St) : Prop:=(0≤s.old∧s.old<M.O.length)∧(0≤s.new∧s.new<M.N)∧(0≤s.w∧s.w≤1000)∧wi s.lo s.hi 0 10000
instance (M : BM) (s : St) : Decidable (sok M s):=by unfold sok;infer_instance
theorem f89_ok {H : Heap} {o s j : Value} {M : BM} (h : MV H o s j M) (st : St) : Gives Try.prog 89 [.agg ⟨mc o s j M.N⟩,.agg ⟨s5 st⟩] H (.bool (decide (sok M st))):=by
 obtain⟨po,no,co,rfl⟩:=h.o.s.isS
 obtain⟨ps,ns,cs,rfl⟩:=h.s.isS
 obtain⟨pj,nj,cj,rfl⟩:=h.j.isS
 refine F.entryL rfl dg89 do89 de89 rfl (by kernel_rfl) ?_
 simp only[sets]
 refine V.re [(0,.agg ⟨mc (.slice po no co) (.slice ps ns cs) (.slice pj nj cj) M.N⟩),(1,.agg ⟨s5 st⟩)] (N:=27) zE zY ?_
 intro t hF hA
 simp only[Kn,and_true] at hA
 refine zS ?_
 refine V.l0 ?_
 refine V.heap (fun X=>Grow H X∧Bx X H.next (mc (.slice po no co) (.slice ps ns cs) (.slice pj nj cj) M.N) 34∧Bx X (H.next+1) (s5 st) 74) ⟨?_,?_,?_⟩ ?_
 ·exact zW
 ·exact zB
 ·exact zB
 rintro H1 ⟨g1,b1,c1⟩
 refine zS ?_
 refine V.draw ?_
 have zf:=And.intro b1.2<|c1.2
 refine VD.nz 3 ?_
 simp only[ds]
 refine VD.callA zA (f108_ok (h.grow g1) st.old) zA (fun H2 g2=>?_)
 have b2:=b1.grow g2
 have c2:=c1.grow g2
 have zf:=And.intro b2.2<|c2.2
 refine VD.nz 4 ?_
 simp only[ds]
 first|refine VD.callGt zG (fun hc=>zI) (fun hc=>f105_ok st.new) (fun hc=>zI) (fun H3 g3=>?_)|refine VD.callGf zG (fun hc=>zI) (fun hc=>f105_ok st.new) (fun hc=>zI) (fun H3 g3=>?_)
 have b3:=b2.grow g3
 have c3:=c2.grow g3
 have zf:=And.intro b3.2<|c3.2
 refine VD.nz 2 ?_
 simp only[ds]
 first|refine VD.callGt zG (fun hc=>zI) (fun hc=>f109_ok _) (fun hc=>zI) (fun H4 g4=>?_)|refine VD.callGf zG (fun hc=>zI) (fun hc=>f109_ok _) (fun hc=>zI) (fun H4 g4=>?_)
 have b4:=b3.grow g4
 have c4:=c3.grow g4
 have zf:=And.intro b4.2<|c4.2
 refine VD.nz 2 ?_
 simp only[ds]
 first|refine VD.callGt zG (fun hc=>zI) (fun hc=>f85_ok 0 1000 st.w _) (fun hc=>zI) (fun H5 g5=>?_)|refine VD.callGf zG (fun hc=>zI) (fun hc=>f85_ok 0 1000 st.w _) (fun hc=>zI) (fun H5 g5=>?_)
 have b5:=b4.grow g5
 have c5:=c4.grow g5
 have zf:=And.intro b5.2<|c5.2
 refine VD.nz 4 ?_
 simp only[ds]
 first|refine VD.callGt zG (fun hc=>zI) (fun hc=>f87_ok _) (fun hc=>zI) (fun H6 g6=>?_)|refine VD.callGf zG (fun hc=>zI) (fun hc=>f87_ok _) (fun hc=>zI) (fun H6 g6=>?_)
 have c6:=c5.grow g6
 first|refine VD.callGt zG (fun hc=>zI) (fun hc=>f69_ok st.lo st.hi 0 10000 _) (fun hc=>zI) (fun H7 g7=>?_)|refine VD.callGf zG (fun hc=>zI) (fun hc=>f69_ok st.lo st.hi 0 10000 _) (fun hc=>zI) (fun H7 g7=>?_)
 have c7:=c6.grow g7
 have m2:=g2.1
 have m3:=g3.1
 have m4:=g4.1
 have m5:=g5.1
 have m6:=g6.1
 have m7:=g7.1
 refine VD.d0 ?_ ?_ rfl ?_
 ·exact zM
 ·simp only[dcAll,dcOk,wantD,List.cons_append,List.nil_append,true_and,and_true]
  exact⟨fun hw q hq=>by simp only[wantD,D5,hF,hA,↓reduceIte,qD,qE,beq_iff_eq,decide_eq_false_iff_not,decide_eq_true_eq] at hw;simp only[List.mem_cons,List.not_mem_nil,or_false] at hq;(repeat (rcases hq with rfl|hq;exact⟨_,_,_,rfl,(by simp +contextual (disch:=first|omega|simp only[nx];omega) only[D4,qF,qG,qA,qB,qC,D5,hF,hA,↓reduceIte,qD,qE,if_true,not_false_eq_true,not_true_eq_false,hw,c1.2,c2.2,c3.2,c4.2,c5.2,c6.2,c7.2];with_reducible rfl),fun p hp=>by cases hp;simp only[D5,hF,hA,↓reduceIte,qD,qE,hw,if_true,not_false_eq_true];first|exact vEq_An|(simp[vEq,vEq0,all2];done)|assumption⟩));(try (subst hq;exact⟨_,_,_,rfl,(by simp +contextual (disch:=first|omega|simp only[nx];omega) only[D4,qF,qG,qA,qB,qC,D5,hF,hA,↓reduceIte,qD,qE,if_true,not_false_eq_true,not_true_eq_false,hw,c1.2,c2.2,c3.2,c4.2,c5.2,c6.2,c7.2];with_reducible rfl),fun p hp=>by cases hp;simp only[D5,hF,hA,↓reduceIte,qD,qE,hw,if_true,not_false_eq_true];first|exact vEq_An|(simp[vEq,vEq0,all2];done)|assumption⟩)),fun hw q hq=>by simp only[wantD,D5,hF,hA,↓reduceIte,qD,qE,beq_iff_eq,decide_eq_false_iff_not,decide_eq_true_eq] at hw;simp only[List.mem_cons,List.not_mem_nil,or_false] at hq;(repeat (rcases hq with rfl|hq;exact⟨_,_,_,rfl,(by simp +contextual (disch:=first|omega|simp only[nx];omega) only[D4,qF,qG,qA,qB,qC,D5,hF,hA,↓reduceIte,qD,qE,if_true,not_false_eq_true,not_true_eq_false,hw,c1.2,c2.2,c3.2,c4.2,c5.2,c6.2,c7.2];with_reducible rfl),fun p hp=>by cases hp;simp only[D5,hF,hA,↓reduceIte,qD,qE,hw,if_true,not_false_eq_true];first|exact vEq_An|(simp[vEq,vEq0,all2];done)|assumption⟩));(try (subst hq;exact⟨_,_,_,rfl,(by simp +contextual (disch:=first|omega|simp only[nx];omega) only[D4,qF,qG,qA,qB,qC,D5,hF,hA,↓reduceIte,qD,qE,if_true,not_false_eq_true,not_true_eq_false,hw,c1.2,c2.2,c3.2,c4.2,c5.2,c6.2,c7.2];with_reducible rfl),fun p hp=>by cases hp;simp only[D5,hF,hA,↓reduceIte,qD,qE,hw,if_true,not_false_eq_true];first|exact vEq_An|(simp[vEq,vEq0,all2];done)|assumption⟩))⟩
 refine zS ?_
 refine V.ret (V.rets rfl (Lv.retG (by simp +contextual (disch:=first|omega|simp only[nx];omega) only[D1,cells_alloc_at,cells_alloc_ne,cells_set_at,cells_set_ne,yres,yres1,yresL,qA,qB,qC,D5,hF,hA,↓reduceIte,qD,qE];rfl) ?_ ?_))
 ·exact (((((g1.trans g2).trans g3).trans g4).trans g5).trans g6).trans g7
 ·congr 1
  rw[decide_eq_decide]
  unfold sok
  simp only[and_assoc]
def jok (M : BM) (r : R2) : Prop:=(0≤r.1∧r.1<M.S.length)∧(0≤r.2∧r.2<M.S.length)∧r.1≠r.2
instance (M : BM) (r : R2) : Decidable (jok M r):=by unfold jok;infer_instance
theorem f110_fv {H : Heap} {o s j : Value} {M : BM} (h : MV H o s j M) (d : Int) : FV Try.prog (.func (.func 110) ⟨[.agg ⟨mc o s j M.N⟩]⟩ ⟨[]⟩) [I d] H (fun w X'=>w=.bool (decide (0≤d∧d<M.S.length))∧Grow H X'):=f110_ok h d
theorem f91_ok {H : Heap} {o s j : Value} {M : BM} (h : MV H o s j M) (r : R2) : Gives Try.prog 91 [.agg ⟨mc o s j M.N⟩,.agg ⟨q2 r⟩] H (.bool (decide (jok M r))):=by
 obtain⟨po,no,co,rfl⟩:=h.o.s.isS
 obtain⟨ps,ns,cs,rfl⟩:=h.s.isS
 obtain⟨pj,nj,cj,rfl⟩:=h.j.isS
 obtain⟨a,b⟩:=r
 refine F.entryL rfl dg91 do91 de91 rfl (by kernel_rfl) ?_
 simp only[sets]
 refine V.re [(0,.agg ⟨mc (.slice po no co) (.slice ps ns cs) (.slice pj nj cj) M.N⟩),(1,.agg ⟨q2 (a,b)⟩)] (N:=25) zE zY ?_
 intro t hF hA
 simp only[Kn,and_true] at hA
 refine zS ?_
 refine V.l0 ?_
 refine V.heap (fun X=>Grow H X∧Bx X H.next (mc (.slice po no co) (.slice ps ns cs) (.slice pj nj cj) M.N) 34∧Bx X (H.next+1) (A2 a b) 76) ⟨?_,?_,?_⟩ ?_
 ·exact zW
 ·exact zB
 ·exact zB
 rintro H1 ⟨g1,b1,c1⟩
 obtain⟨M0,hM0⟩ : ∃ M0,M0=mc (.slice po no co) (.slice ps ns cs) (.slice pj nj cj) M.N:=⟨_,rfl⟩
 have f110':=fun X (g : Grow H1 X) d=>f110_fv (h.grow (g1.trans g)) d
 refine zS ?_
 have zf:=b1.2
 refine V.lz ?_
 refine zS ?_
 refine V.run ?_
 have zf:=c1.2
 refine VI.sz 3 ?_
 simp only[ds]
 refine VI.callV (y:=.func (.func 110) ⟨[.agg ⟨mc (.slice po no co) (.slice ps ns cs) (.slice pj nj cj) M.N⟩]⟩ ⟨[]⟩) zA (by simp only[List.map_cons,List.map_nil,D6,D5,hF,hA,↓reduceIte,qD,qE];exact f110' H1 (.refl _) a) (fun v X2 hv=>?_)
 obtain⟨rfl,g2⟩:=hv
 have c2:=c1.grow g2
 by_cases ha : 0≤a∧a<(M.S.length : Int)
 ·have hat : (0≤a∧a<(M.S.length : Int))=True:=eq_true ha
  have zf:=And.intro c2.2<|@hat
  refine VI.sz 4 ?_
  simp only[ds]
  refine VI.callVT (by simp only[D5,hF,hA,↓reduceIte,qD,qE,hat,decide_true];try rfl) (y:=.func (.func 110) ⟨[.agg ⟨mc (.slice po no co) (.slice ps ns cs) (.slice pj nj cj) M.N⟩]⟩ ⟨[]⟩) zA (by simp only[List.map_cons,List.map_nil,D6,D5,hF,hA,↓reduceIte,qD,qE];exact f110' X2 g2 b) (fun v X3 hv=>?_)
  obtain⟨rfl,g3⟩:=hv
  have c3:=c2.grow g3
  have zf:=c3.2
  refine VI.lz ?_
  refine zS ?_
  refine V.ret (V.rets rfl (Lv.retG (by simp +contextual (disch:=first|omega|simp only[nx];omega) only[D1,cells_alloc_at,cells_alloc_ne,cells_set_at,cells_set_ne,yres,yres1,yresL,qA,qB,qC,D5,hF,hA,↓reduceIte,qD,qE];rfl) ?_ ?_))
  ·exact (g1.trans g2).trans g3
  ·congr 1
   rw[decide_eq_decide]
   unfold jok
   simp only[ha,true_and,and_assoc]
 ·have hat : (0≤a∧a<(M.S.length : Int))=False:=eq_false ha
  have zf:=And.intro c2.2<|@hat
  refine VI.sz 4 ?_
  simp only[ds]
  refine VI.gdF zG ?_
  refine VI.l0 ?_
  refine zS ?_
  refine V.ret (V.rets rfl (Lv.retG (by simp +contextual (disch:=first|omega|simp only[nx];omega) only[D1,cells_alloc_at,cells_alloc_ne,cells_set_at,cells_set_ne,yres,yres1,yresL,qA,qB,qC,D5,hF,hA,↓reduceIte,qD,qE];rfl) ?_ ?_))
  ·exact g1.trans g2
  ·congr 1
   exact (decide_eq_false (fun h=>ha h.1)).symm
theorem f89_fv {H : Heap} {o s j : Value} {M : BM} (h : MV H o s j M) (y : St) : FV Try.prog (.func (.func 89) ⟨[.agg ⟨mc o s j M.N⟩]⟩ ⟨[]⟩) [.agg ⟨s5 y⟩] H (fun w X'=>w=.bool (decide (sok M y))∧Grow H X'):=f89_ok h y
theorem f91_fv {H : Heap} {o s j : Value} {M : BM} (h : MV H o s j M) (y : R2) : FV Try.prog (.func (.func 91) ⟨[.agg ⟨mc o s j M.N⟩]⟩ ⟨[]⟩) [.agg ⟨q2 y⟩] H (fun w X'=>w=.bool (decide (jok M y))∧Grow H X'):=f91_ok h y
end Go.Xe.TBX
