/- What the functions of the layer border come to: whether a map's ranges hold its numbers. Conditions: none. -/
import Derived.Test.YtgcdbdcnlhonfaaTCM
-- MOD TB
namespace Go.Xe.TBX
open Go Go.Xe Go.Proofs
open Nat renaming reduceLeDiff → qA, reduceSub → qB, reduceAdd → qC, reduceEqDiff → qD, reduceLT → qE
open Int renaming reduceNegSucc → qF, reduceEq → qG
open Go.Xe.V renaming seq → sA, block → sB, scope → sC, skip → sD, close → sE
open Go.Xe renaming pth → P
open Go.Xe.Rnd
open Go.Xe.Sea (adl adl_1 adl_at mem_adl pix pix_at pix_adl adl_len)
set_option maxRecDepth 100000
set_option maxHeartbeats 3200000
set_option linter.unusedSimpArgs false
noncomputable def d61 : FCode:=(.seq (.run (.go (.box 34 (tm 0)) (P 1)::
.go (.alloc 96 [(.slice none 0 0),(.int .i64 (.ofNat 0)),(.slice none 0 0),(.slice none 0 0),(.int .i64 (.ofNat 0)),(.int .i64 (.ofNat 0)),(.int .i64 (.ofNat 0)),(.int .i64 (.ofNat 0)),(.int .i64 (.ofNat 0)),(.int .i64 (.ofNat 0)),(.int .i64 (.ofNat 0)),(.int .i64 (.ofNat 0)),(.int .i64 (.ofNat 0)),(.int .i64 (.ofNat 0)),(.int .i64 (.ofNat 0)),(.int .i64 (.ofNat 0)),(.int .i64 (.ofNat 0)),(.int .i64 (.ofNat 0)),(.int .i64 (.ofNat 0)),(.int .i64 (.ofNat 0)),(.map none)]) (P 2)::
.go (.move (.con (.int .i64 (.ofNat 0)))) (P 3)::
[])) (.seq (.seq (.run (.go (.loadN 4 (tm 1)) (P 8)::
.go (.call (.con (.func (.func 18) ⟨[]⟩ ⟨[]⟩)) [tm 8]) (P 9)::
.go (.move (tm 9)) (P 4)::
[])) (.seq (.run (.go (.move (tm 4)) (P 10)::
.go (.bin .neq 29 (tm 10) (.con (.int .i64 (.ofNat 0)))) (P 11)::
[])) (.cond (tm 11) (.seq (.run (.go (.build [(.slice none 0 0),(.int .i64 (.ofNat 0)),(.slice none 0 0),(.slice none 0 0),(.int .i64 (.ofNat 0)),(.int .i64 (.ofNat 0)),(.int .i64 (.ofNat 0)),(.int .i64 (.ofNat 0)),(.int .i64 (.ofNat 0)),(.int .i64 (.ofNat 0)),(.int .i64 (.ofNat 0)),(.int .i64 (.ofNat 0)),(.int .i64 (.ofNat 0)),(.int .i64 (.ofNat 0)),(.int .i64 (.ofNat 0)),(.int .i64 (.ofNat 0)),(.int .i64 (.ofNat 0)),(.int .i64 (.ofNat 0)),(.int .i64 (.ofNat 0)),(.int .i64 (.ofNat 0)),(.map none)] []) (P 12)::
.go (.move (tm 4)) (P 13)::
.un (.store 21 (tm 2) (tm 12))::
.go (.move (tm 13)) (P 3)::
[])) .ret) .skip))) (.seq (.run (.go (.loadN 4 (tm 1)) (P 14)::
.go (.call (.con (.func (.func 57) ⟨[]⟩ ⟨[]⟩)) [tm 14]) (P 15)::
.go (.alloc 96 [(.slice none 0 0),(.int .i64 (.ofNat 0)),(.slice none 0 0),(.slice none 0 0),(.int .i64 (.ofNat 0)),(.int .i64 (.ofNat 0)),(.int .i64 (.ofNat 0)),(.int .i64 (.ofNat 0)),(.int .i64 (.ofNat 0)),(.int .i64 (.ofNat 0)),(.int .i64 (.ofNat 0)),(.int .i64 (.ofNat 0)),(.int .i64 (.ofNat 0)),(.int .i64 (.ofNat 0)),(.int .i64 (.ofNat 0)),(.int .i64 (.ofNat 0)),(.int .i64 (.ofNat 0)),(.int .i64 (.ofNat 0)),(.int .i64 (.ofNat 0)),(.int .i64 (.ofNat 0)),(.map none)]) (P 5)::
.un (.store 21 (tm 5) (tm 15))::
[])) (.seq (.seq (.run (.go (.fieldAddr 0 (tm 5)) (P 16)::
.go (.fieldAddr 0 (tm 16)) (P 17)::
.go (.load1 (tm 17)) (P 18)::
.go (.len 0 (tm 18)) (P 19)::
.go (.move (.con (.int .i64 (.ofNat 0)))) (P 20)::
[])) (.block 0 (.loop (.seq (.run (.go (.bin .lss 3 (tm 20) (tm 19)) (P 21)::
[])) (.seq (.cond (tm 21) .skip (.exit 0)) (.seq (.block 1 (.seq (.run (.go (.move (tm 20)) (P 22)::
.go (.indexAddr none 1 (tm 18) (tm 20)) (P 23)::
.go (.load1 (tm 23)) (P 24)::
.go (.move (tm 22)) (P 6)::
.go (.move (tm 24)) (P 7)::
[])) (.seq (.run (.go (.loadN 21 (tm 5)) (P 25)::
.go (.move (tm 6)) (P 26)::
.go (.call (.con (.func (.func 95) ⟨[]⟩ ⟨[]⟩)) [(tm 25),(tm 26)]) (P 27)::
.go (.move (tm 7)) (P 28)::
.go (.call (.con (.func (.func 85) ⟨[]⟩ ⟨[]⟩)) [(tm 27),(tm 28)]) (P 29)::
.go (.un .not (tm 29)) (P 30)::
[])) (.cond (tm 30) (.seq (.run (.go (.build [(.slice none 0 0),(.int .i64 (.ofNat 0)),(.slice none 0 0),(.slice none 0 0),(.int .i64 (.ofNat 0)),(.int .i64 (.ofNat 0)),(.int .i64 (.ofNat 0)),(.int .i64 (.ofNat 0)),(.int .i64 (.ofNat 0)),(.int .i64 (.ofNat 0)),(.int .i64 (.ofNat 0)),(.int .i64 (.ofNat 0)),(.int .i64 (.ofNat 0)),(.int .i64 (.ofNat 0)),(.int .i64 (.ofNat 0)),(.int .i64 (.ofNat 0)),(.int .i64 (.ofNat 0)),(.int .i64 (.ofNat 0)),(.int .i64 (.ofNat 0)),(.int .i64 (.ofNat 0)),(.map none)] []) (P 31)::
.un (.store 21 (tm 2) (tm 31))::
.go (.move (.con (.int .i64 (.ofNat 9)))) (P 3)::
[])) .ret) .skip)))) (.run (.go (.bin .add 3 (tm 20) (.con (.int .i64 (.ofNat 1)))) (P 32)::
.go (.move (tm 32)) (P 20)::
[])))))))) (.seq (.run (.go (.loadN 21 (tm 5)) (P 33)::
.un (.store 21 (tm 2) (tm 33))::
.go (.move (.con (.int .i64 (.ofNat 0)))) (P 3)::
[])) .ret)))))
theorem de61 : @compF Try.prog (Gl.none Try.prog) Try.f61 1=.mk d61 (mkTT 34) [(P 0)] [.many (P 2) 21,.tmp (P 3)]:=by kernel_rfl
theorem dg61 : Try.prog.funcs[61]?=some Try.f61:=Try.func61
theorem do61 : okF Try.prog Try.f61=true:=by kernel_rfl
noncomputable def d65 : FCode:=(.seq (.run (.go (.box 26 (tm 0)) (P 1)::
.go (.move (.con (.bool false))) (P 2)::
[])) (.seq (.seq (.run (.go (.move (.con (.int .i64 (.ofNat 0)))) (P 3)::
[])) (.block 0 (.loop (.seq (.seq (.run (.go (.move (tm 3)) (P 7)::
.go (.fieldAddr 0 (tm 1)) (P 8)::
.go (.load1 (tm 8)) (P 9)::
.go (.len 0 (tm 9)) (P 10)::
.go (.bin .lss 3 (tm 7) (tm 10)) (P 11)::
[])) (.cond (tm 11) .skip (.exit 0))) (.seq (.block 1 (.seq (.run (.go (.move (.con (.int .i64 (.ofNat 0)))) (P 4)::
.go (.move (.con (.int .i64 (.ofNat 0)))) (P 5)::
[])) (.seq (.seq (.run (.go (.move (.con (.int .i64 (.ofNat 0)))) (P 6)::
[])) (.block 2 (.loop (.seq (.seq (.run (.go (.move (tm 6)) (P 14)::
.go (.fieldAddr 2 (tm 1)) (P 15)::
.go (.load1 (tm 15)) (P 16)::
.go (.len 0 (tm 16)) (P 17)::
.go (.bin .lss 3 (tm 14) (tm 17)) (P 18)::
[])) (.cond (tm 18) .skip (.exit 2))) (.seq (.block 3 (.seq (.run (.go (.fieldAddr 2 (tm 1)) (P 21)::
.go (.load1 (tm 21)) (P 22)::
.go (.move (tm 6)) (P 23)::
.go (.indexAddr none 5 (tm 22) (tm 23)) (P 24)::
.go (.fieldAddr 0 (tm 24)) (P 25)::
.go (.load1 (tm 25)) (P 26)::
.go (.move (tm 3)) (P 27)::
.go (.bin .eql 3 (tm 26) (tm 27)) (P 28)::
[])) (.cond (tm 28) (.seq (.run (.go (.move (tm 4)) (P 29)::
.go (.fieldAddr 2 (tm 1)) (P 30)::
.go (.load1 (tm 30)) (P 31)::
.go (.move (tm 6)) (P 32)::
.go (.indexAddr none 5 (tm 31) (tm 32)) (P 33)::
.go (.fieldAddr 3 (tm 33)) (P 34)::
.go (.fieldAddr 0 (tm 34)) (P 35)::
.go (.load1 (tm 35)) (P 36)::
.go (.bin .add 3 (tm 29) (tm 36)) (P 37)::
.go (.move (tm 37)) (P 4)::
[])) (.run (.go (.move (tm 5)) (P 38)::
.go (.fieldAddr 2 (tm 1)) (P 39)::
.go (.load1 (tm 39)) (P 40)::
.go (.move (tm 6)) (P 41)::
.go (.indexAddr none 5 (tm 40) (tm 41)) (P 42)::
.go (.fieldAddr 3 (tm 42)) (P 43)::
.go (.fieldAddr 1 (tm 43)) (P 44)::
.go (.load1 (tm 44)) (P 45)::
.go (.bin .add 3 (tm 38) (tm 45)) (P 46)::
.go (.move (tm 46)) (P 5)::
[]))) .skip))) (.run (.go (.move (tm 6)) (P 19)::
.go (.bin .add 3 (tm 19) (.con (.int .i64 (.ofNat 1)))) (P 20)::
.go (.move (tm 20)) (P 6)::
[]))))))) (.seq (.run (.go (.fieldAddr 0 (tm 1)) (P 47)::
.go (.load1 (tm 47)) (P 48)::
.go (.move (tm 3)) (P 49)::
.go (.indexAddr none 1 (tm 48) (tm 49)) (P 50)::
.go (.load1 (tm 50)) (P 51)::
.go (.move (tm 4)) (P 52)::
.go (.move (tm 5)) (P 53)::
.go (.call (.con (.func (.func 42) ⟨[]⟩ ⟨[]⟩)) [(tm 51),(tm 52),(tm 53)]) (P 54)::
.go (.un .not (tm 54)) (P 55)::
[])) (.cond (tm 55) (.seq (.run (.go (.move (.con (.bool false))) (P 2)::
[])) .ret) .skip))))) (.run (.go (.move (tm 3)) (P 12)::
.go (.bin .add 3 (tm 12) (.con (.int .i64 (.ofNat 1)))) (P 13)::
.go (.move (tm 13)) (P 3)::
[]))))))) (.seq (.run (.go (.move (.con (.bool true))) (P 2)::
[])) .ret)))
theorem de65 : @compF Try.prog (Gl.none Try.prog) Try.f65 1=.mk d65 (mkTT 56) [(P 0)] [.tmp (P 2)]:=by kernel_rfl
theorem dg65 : Try.prog.funcs[65]?=some Try.f65:=Try.func65
theorem do65 : okF Try.prog Try.f65=true:=by kernel_rfl
noncomputable def d31 : FCode:=(.seq (.run (.go (.box 26 (tm 0)) (P 1)::
.go (.move (.con (.int .i64 (.ofNat 0)))) (P 2)::
[])) (.seq (.seq (.run (.go (.loadN 4 (tm 1)) (P 4)::
.go (.call (.con (.func (.func 21) ⟨[]⟩ ⟨[]⟩)) [tm 4]) (P 5)::
.go (.move (tm 5)) (P 3)::
[])) (.seq (.run (.go (.move (tm 3)) (P 6)::
.go (.bin .neq 29 (tm 6) (.con (.int .i64 (.ofNat 0)))) (P 7)::
[])) (.cond (tm 7) (.seq (.run (.go (.move (tm 3)) (P 8)::
.go (.move (tm 8)) (P 2)::
[])) .ret) .skip))) (.seq (.seq (.run (.go (.loadN 4 (tm 1)) (P 9)::
.go (.call (.con (.func (.func 65) ⟨[]⟩ ⟨[]⟩)) [tm 9]) (P 10)::
.go (.un .not (tm 10)) (P 11)::
[])) (.cond (tm 11) (.seq (.run (.go (.move (.con (.int .i64 (.ofNat 9)))) (P 2)::
[])) .ret) .skip)) (.seq (.run (.go (.move (.con (.int .i64 (.ofNat 0)))) (P 2)::
[])) .ret))))
theorem de31 : @compF Try.prog (Gl.none Try.prog) Try.f31 1=.mk d31 (mkTT 12) [(P 0)] [.tmp (P 2)]:=by kernel_rfl
theorem dg31 : Try.prog.funcs[31]?=some Try.f31:=Try.func31
theorem do31 : okF Try.prog Try.f31=true:=by kernel_rfl
noncomputable def d49 : FCode:=(.seq (.run (.go (.box 26 (tm 0)) (P 1)::
.go (.move (.con (.bool false))) (P 2)::
[])) (.seq (.run (.go (.loadN 4 (tm 1)) (P 3)::
.go (.call (.con (.func (.func 16) ⟨[]⟩ ⟨[]⟩)) [tm 3]) (P 4)::
.go (.move (tm 4)) (P 5)::
.gd (P 5) true (.loadN 4 (tm 1)) (P 6)::
.gd (P 5) true (.call (.con (.func (.func 31) ⟨[]⟩ ⟨[]⟩)) [tm 6]) (P 7)::
.gd (P 5) true (.bin .eql 29 (tm 7) (.con (.int .i64 (.ofNat 0)))) (P 8)::
.go (.pick (tm 5) (tm 8) (.con (.bool false))) (P 9)::
.go (.move (tm 9)) (P 2)::
[])) .ret))
theorem de49 : @compF Try.prog (Gl.none Try.prog) Try.f49 1=.mk d49 (mkTT 10) [(P 0)] [.tmp (P 2)]:=by kernel_rfl
theorem dg49 : Try.prog.funcs[49]?=some Try.f49:=Try.func49
theorem do49 : okF Try.prog Try.f49=true:=by kernel_rfl
def lie (M : BM) : Prop:=∀ d : Nat,d<M.O.length→lot M d≤M.O.getD d 0∧M.O.getD d 0≤hit M d
instance (M : BM) : Decidable (lie M):=Nat.decidableBallLT _ _
def bE (M : BM) : Int:=if fltM M≠0 then fltM M else if lie M then 0 else 9
theorem bE_f {M : BM} (h : fltM M≠0) : bE M=fltM M:=by unfold bE;rw[if_pos h]
theorem bE_9 {M : BM} (h : fltM M=0) (hl : ¬ lie M) : bE M=9:=by unfold bE;rw[if_neg (fun k=>k h),if_neg hl]
theorem bE_0 {M : BM} : bE M=0↔fltM M=0∧lie M:=by
 unfold bE
 by_cases h : fltM M=0
 ·rw[if_neg (fun k=>k h)]
  by_cases hl : lie M
  ·rw[if_pos hl];exact iff_of_true rfl ⟨h,hl⟩
  ·rw[if_neg hl];exact iff_of_false (by decide) (fun k=>hl k.2)
 ·rw[if_pos h];exact iff_of_false h (fun k=>h k.1)
theorem bE_VM {M : BM} (h : bE M=0) : VM M:=by
 obtain⟨h1,_⟩:=bE_0.1 h
 obtain⟨a,b⟩:=fltM_0.1 h1
 exact VM.of a b
abbrev Z21 : List Value:=[.slice none 0 0,I 0,.slice none 0 0,.slice none 0 0,I 0,I 0,I 0,I 0,I 0,I 0,I 0,I 0,I 0,I 0,I 0,I 0,I 0,I 0,I 0,I 0,.map none]
theorem z_len : Z21.length=21:=rfl
theorem z_put {x : List Value} (h : x.length=21) : setCells Z21 0 ⟨x⟩=⟨Z21⟩:=by
 rw[setC_pre _ _ _ (by rw[z_len];omega),z_len,List.drop_eq_nil_of_le (by omega)]
 simp
theorem MpF_ne {X : Heap} {i j : Nat} {α : Type} {kt : TypeId} {ke : α→Value} {f : α→Option Value} {c : List Value} {e : TypeId} (m : MpF X i kt ke f) (b : Bx X j c e) : i≠j:=by
 intro hij
 subst hij
 obtain⟨es,⟨_,clk,h2⟩,_⟩:=m
 have h:=b.2
 unfold Heap.cellsAt at h
 unfold Heap.mapAt at h2
 cases hh : X.get i with
 | none=>rw[hh] at h;simp at h
 | some a=>
  rw[hh] at h h2
  cases a<;>simp at h h2
theorem f61_ok {H : Heap} {o s j : Value} {M : BM} (h : MV H o s j M) : F Try.prog 61 ⟨[.agg ⟨mc o s j M.N⟩]⟩ H (fun w X=>Grow H X∧((bE M≠0∧w=.tuple ⟨[.agg ⟨Z21⟩,I (bE M)]⟩)∨(bE M=0∧∃ mi,w=.tuple ⟨[.agg ⟨ac o s j M.N (oldF M) (newF M) (MPm mi)⟩,I 0]⟩∧MpF X mi 76 kj (mts M.J)))):=by
 have hlo:=h.o.len
 obtain⟨po,no,co,rfl⟩:=h.o.s.isS
 obtain⟨ps,ns,cs,rfl⟩:=h.s.isS
 obtain⟨pj,nj,cj,rfl⟩:=h.j.isS
 refine F.entryL rfl dg61 do61 de61 rfl (by kernel_rfl) ?_
 simp only[sets]
 refine V.re [(0,.agg ⟨mc (.slice po no co) (.slice ps ns cs) (.slice pj nj cj) M.N⟩)] (N:=34) zE zY ?_
 intro t hF hA
 simp only[Kn,and_true] at hA
 refine zS ?_
 refine V.l0 ?_
 refine V.heap (fun X=>Grow H X∧Bx X H.next (mc (.slice po no co) (.slice ps ns cs) (.slice pj nj cj) M.N) 34∧Bx X (H.next+1) Z21 96) ⟨?_,?_,?_⟩ ?_
 ·exact zW
 ·exact zB
 ·exact zB
 rintro H1 ⟨g1,b1,c1⟩
 obtain⟨e,he⟩ : ∃ e,e=fltM M:=⟨_,rfl⟩
 have f18':=f18_ok (h.grow g1)
 rw[← he] at f18'
 refine zS ?_
 refine V.run ?_
 have zf:=b1.2
 refine VI.sz 1 ?_
 simp only[ds]
 refine VI.callA rfl (f18') zA (fun H2 g2=>?_)
 have b2:=b1.grow g2
 have c2:=c1.grow g2
 have g12:=g1.trans g2
 have zok : Z21.all ok1=true:=rfl
 have zpu:=z_put z_len
 have n2:=c2.1
 refine VI.l0 ?_
 refine zS ?_
 refine V.l0 ?_
 refine zS ?_
 refine V.condP zP (fun hne=>?_) (fun hne=>?_)
 ·refine zS ?_
  have zf:=And.intro c2.2<|And.intro @zok<|And.intro @zpu<|@z_len
  refine V.lz ?_
  refine V.heap (fun X=>Grow H X∧Bx X (H.next+1) Z21 96) ⟨?_,?_⟩ ?_
  ·exact g12.set (by omega) _
  ·exact Bx.put c2.1 _ _
  rintro H3 ⟨g3,c3⟩
  refine zS ?_
  refine V.ret (V.rets rfl (Lv.retF (by simp +contextual (disch:=first|omega|simp only[nx];omega) only[D1,cells_alloc_at,cells_alloc_ne,cells_set_at,cells_set_ne,yres,yres1,yresL,qA,qB,qC,D5,hF,hA,↓reduceIte,qD,qE,c3.2];rfl) ?_))
  refine⟨g3,.inl ⟨?_,?_⟩⟩
  ·rw[bE_f (by rw[← he];exact hne),← he];exact hne
  ·rw[bE_f (by rw[← he];exact hne),← he]
 have h0 : fltM M=0:=by rw[← he];exact Decidable.not_not.1 hne
 obtain⟨hf1,hf2⟩:=fltM_0.1 h0
 have G:=VM.of hf1 hf2
 have hj20:=G.j20
 have hO4:=G.o4
 refine zS ?_
 refine V.run ?_
 have zf:=b2.2
 refine VI.sz 1 ?_
 simp only[ds]
 refine VI.callR zA (f57_ok (h.grow g12) G.s8 G.j (by omega)) zA (fun w3 H3 ⟨g3,mi,hw3,mp⟩=>?_)
 subst hw3
 have hok:=ac_ok (o:=.slice po no co) (s:=.slice ps ns cs) (j:=.slice pj nj cj) (N:=M.N) (f:=oldF M) (g:=newF M) (m:=MPm mi) ⟨_,_,_,rfl⟩ ⟨_,_,_,rfl⟩ ⟨_,_,_,rfl⟩ rfl
 have epu:=ac_put (o:=.slice po no co) (s:=.slice ps ns cs) (j:=.slice pj nj cj) (N:=M.N) (f:=oldF M) (g:=newF M) (m:=MPm mi) z_len
 have c3:=c2.grow g3
 have g13:=g12.trans g3
 have n3:=g3.1
 have mlt:=mp
 have zf:=And.intro @hok<|And.intro @epu<|And.intro @AC<|@z_len
 refine VI.lz ?_
 refine V.heap (fun X=>Grow H3 X∧Bx X H3.next (ac (.slice po no co) (.slice ps ns cs) (.slice pj nj cj) M.N (oldF M) (newF M) (MPm mi)) 96) ⟨?_,?_⟩ ?_
 ·exact (((Grow.refl H3).alloc _).set (Nat.le_refl _) _)
 ·exact Bx.put (by simp only[Heap.next_alloc];omega) _ _
 rintro H4 ⟨g4,d4⟩
 have c4:=c3.grow g4
 have g14:=g13.trans g4
 have mp4:=mp.grow g4
 refine zS ?_
 have zf:=And.intro d4.2<|And.intro @AC<|@hlo
 refine V.lz ?_
 refine zS ?_
 refine V.loop (fun z t mm X=>∃ (d : Nat),d≤M.O.length∧z=M.O.length-d∧mm=[]∧Grow H4 X∧(∀ q : Nat,q<d→lot M q≤M.O.getD q 0∧M.O.getD q 0≤hit M q)∧Full 34 t∧Kn [(2,PT (H.next+1)),(5,PT H3.next),(18,.slice po no co),(19,I M.O.length),(20,I d)] t) M.O.length ?_ ?_
 ·exact⟨0,by omega,by omega,rfl,.refl _,(fun q hq=>absurd hq (by omega)),zF,zK⟩
 clear hF hA
 rintro z t mm X ⟨d,hd,rfl,rfl,gX,hall,hF,hA⟩
 simp only[Kn,and_true] at hA
 have cX:=c4.grow gX
 have dX:=d4.grow gX
 have gHX:=g14.trans gX
 have nX:=gX.1
 have n4:=d4.1
 refine zS ?_
 refine V.l0 ?_
 refine zS ?_
 refine V.condP zP (fun hlt=>?_) (fun hlt=>?_)
 ·have hlt' : d<M.O.length:=by omega
  obtain⟨lp,lp1,lp2⟩:=h.o.at hlt'
  have lp3:=lp2 X gHX
  have ot:=G.ot hlt'
  rw[← ot.1] at lp3
  refine zS ?_
  have zf:=And.intro @lp1<|@lp3
  refine V.lz ?_
  refine zS ?_
  refine V.run ?_
  have zf:=And.intro dX.2<|@AC
  refine VI.sz 2 ?_
  simp only[ds]
  refine VI.callA rfl (f95_ok (h.grow gHX) G) zA (fun X2 g2'=>?_)
  refine VI.s0 1 ?_
  simp only[ds]
  refine VI.callA rfl (f85_ok (lot M d) (hit M d) (M.O.getD d 0) _) zA (fun X3 g3'=>?_)
  refine VI.l0 ?_
  have cX3:=(cX.grow g2').grow g3'
  have gX3:=(gHX.trans g2').trans g3'
  have nX3:=cX3.1
  refine zS ?_
  refine V.condP zP (fun hbad=>?_) (fun hbad=>?_)
  ·refine zS ?_
   have zf:=And.intro cX3.2<|And.intro @zok<|And.intro @zpu<|@z_len
   refine V.lz ?_
   refine V.heap (fun X=>Grow H X∧Bx X (H.next+1) Z21 96) ⟨?_,?_⟩ ?_
   ·exact gX3.set (by omega) _
   ·exact Bx.put cX3.1 _ _
   rintro H5 ⟨g5,c5⟩
   have e9 : bE M=9:=bE_9 h0 (fun hl=>hbad (hl d hlt'))
   refine zS ?_
   refine V.ret (V.rets rfl (Or.inr ⟨by simp,V.rets rfl (Lv.retF (by simp +contextual (disch:=first|omega|simp only[nx];omega) only[D1,cells_alloc_at,cells_alloc_ne,cells_set_at,cells_set_ne,yres,yres1,yresL,qA,qB,qC,D5,hF,hA,↓reduceIte,qD,qE,c5.2];rfl) ?_)⟩))
   exact⟨g5,.inl ⟨by omega,by rw[e9]⟩⟩
  ·refine zS ?_
   refine V.l0 ?_
   refine V.nil (Or.inl ⟨rfl,M.O.length-(d+1),by omega,?_⟩)
   refine⟨d+1,hlt',rfl,rfl,(gX.trans g2').trans g3',fun q hq=>?_,zF,zK⟩
   by_cases e : q=d
   ·subst e;exact Decidable.not_not.1 hbad
   ·exact hall q (by omega)
 ·obtain rfl : d=M.O.length:=by omega
  have e0 : bE M=0:=bE_0.2 ⟨h0,fun q hq=>hall q hq⟩
  have mpX:=mp4.grow gX
  refine V.exit ?_
  refine zX ?_
  refine V.nil (Or.inr ⟨by simp,?_⟩)
  refine zX ?_
  refine zS ?_
  have zf:=And.intro cX.2<|And.intro dX.2<|And.intro @AC<|And.intro @hok<|And.intro @epu<|@z_len
  refine V.lz ?_
  refine V.heap (fun X=>Grow H X∧Bx X (H.next+1) (ac (.slice po no co) (.slice ps ns cs) (.slice pj nj cj) M.N (oldF M) (newF M) (MPm mi)) 96∧MpF X mi 76 kj (mts M.J)) ⟨?_,?_,?_⟩ ?_
  ·exact gHX.set (by omega) _
  ·exact Bx.put cX.1 _ _
  ·exact mpX.loc (Nat.le_refl _) (by rw[Heap.get_set,if_neg (MpF_ne mpX cX)])
  rintro H5 ⟨g5,c5,m5⟩
  refine zS ?_
  refine V.ret (V.rets rfl (Lv.retF (by simp +contextual (disch:=first|omega|simp only[nx];omega) only[D1,cells_alloc_at,cells_alloc_ne,cells_set_at,cells_set_ne,yres,yres1,yresL,qA,qB,qC,D5,hF,hA,↓reduceIte,qD,qE,c5.2,AC];rfl) ?_))
  exact⟨g5,.inr ⟨e0,mi,rfl,m5⟩⟩
theorem f65_ok {H : Heap} {o s j : Value} {M : BM} (h : MV H o s j M) (G : VM M) : Gives Try.prog 65 [.agg ⟨mc o s j M.N⟩] H (.bool (decide (lie M))):=by
 have hl:=h.s.len
 have hlo:=h.o.len
 have hS8:=G.s8
 have hO4:=G.o4
 obtain⟨po,no,co,rfl⟩:=h.o.s.isS
 obtain⟨ps,ns,cs,rfl⟩:=h.s.isS
 obtain⟨pj,nj,cj,rfl⟩:=h.j.isS
 refine F.entryL rfl dg65 do65 de65 rfl (by kernel_rfl) ?_
 simp only[sets]
 refine V.re [(0,.agg ⟨mc (.slice po no co) (.slice ps ns cs) (.slice pj nj cj) M.N⟩)] (N:=56) zE zY ?_
 intro t hF hA
 simp only[Kn,and_true] at hA
 refine zS ?_
 refine V.l0 ?_
 refine V.heap (fun X=>Grow H X∧Bx X H.next (mc (.slice po no co) (.slice ps ns cs) (.slice pj nj cj) M.N) 26) ⟨?_,?_⟩ ?_
 ·exact zW
 ·exact zB
 rintro H1 ⟨g1,b1⟩
 refine zS ?_
 refine V.l0 ?_
 refine zS ?_
 refine V.loop (fun z t mm X=>∃ (d : Nat),d≤M.O.length∧z=M.O.length-d∧mm=[]∧Grow H1 X∧(∀ q : Nat,q<d→lot M q≤M.O.getD q 0∧M.O.getD q 0≤hit M q)∧Full 56 t∧Kn [(1,PT H.next),(3,I d)] t) M.O.length ?_ ?_
 ·exact⟨0,by omega,by omega,rfl,.refl _,(fun q hq=>absurd hq (by omega)),zF,zK⟩
 clear hF hA
 rintro z t mm X ⟨d,hd,rfl,rfl,gX,hall,hF,hA⟩
 simp only[Kn,and_true] at hA
 have bX:=b1.grow gX
 have gHX:=g1.trans gX
 refine zS ?_
 have zf:=And.intro bX.2<|@hlo
 refine V.lz ?_
 refine zS ?_
 refine V.condP zP (fun hlt=>?_) (fun hlt=>?_)
 ·have hlt' : d<M.O.length:=by omega
  obtain⟨lp,lp1,lp2⟩:=h.o.at hlt'
  have lp3:=lp2 X gHX
  have ot:=G.ot hlt'
  rw[← ot.1] at lp3
  refine zS ?_
  refine V.l0 ?_
  refine zS ?_
  refine V.l0 ?_
  refine zS ?_
  refine V.loop (fun z t mm Y=>∃ (k : Nat),k≤M.S.length∧z=M.S.length-k∧mm=[]∧Y=X∧Full 56 t∧Kn [(1,PT H.next),(3,I d),(4,I (pS k (fun i=>oldF M i=d∧TP i) (loF M))),(5,I (pS k (fun i=>oldF M i=d∧TP i) (hiF M))),(6,I k)] t) M.S.length ?_ ?_
  ·exact⟨0,by omega,by omega,rfl,rfl,zF,zK⟩
  clear hF hA
  rintro z t mm Y ⟨k,hk,rfl,rfl,hY,hF,hA⟩
  obtain rfl : X=Y:=hY.symm
  obtain⟨L,hL⟩ : ∃ L,L=pS k (fun i=>oldF M i=d∧TP i) (loF M):=⟨_,rfl⟩
  obtain⟨T,hT⟩ : ∃ L,L=pS k (fun i=>oldF M i=d∧TP i) (hiF M):=⟨_,rfl⟩
  rw[← hL,← hT] at hA
  simp only[Kn,and_true] at hA
  have bdL:=pS_bd (n:=k) (P:=fun i=>oldF M i=d∧TP i) (f:=loF M) (c:=10000) (by omega) (fun i hi=>G.lb (by omega))
  have bdT:=pS_bd (n:=k) (P:=fun i=>oldF M i=d∧TP i) (f:=hiF M) (c:=10000) (by omega) (fun i hi=>G.hb (by omega))
  rw[← hL] at bdL
  rw[← hT] at bdT
  refine zS ?_
  have zf:=And.intro bX.2<|@hl
  refine V.lz ?_
  refine zS ?_
  refine V.condP zP (fun hlk=>?_) (fun hlk=>?_)
  ·have hk' : k<M.S.length:=by omega
   obtain⟨si,so',h1,h2⟩:=h.s.at hk'
   obtain⟨_,h3,_,_,h4,h5,_⟩:=h2 X gHX
   rw[← oldF_at hk'] at h3
   rw[← loF_at hk'] at h4
   rw[← hiF_at hk'] at h5
   have hlh:=G.lh hk'
   have eL:=pS_1 (n:=k) (P:=fun i=>oldF M i=d∧TP i) (f:=loF M)
   have eT:=pS_1 (n:=k) (P:=fun i=>oldF M i=d∧TP i) (f:=hiF M)
   rw[← hL] at eL
   rw[← hT] at eT
   refine zS ?_
   have zf:=And.intro bX.2<|And.intro @h1<|@h3
   refine V.lz ?_
   refine zS ?_
   refine V.condP zP (fun he=>?_) (fun he=>?_)
   ·rw[if_pos ⟨he,trivial⟩] at eL eT
    refine zS ?_
    have zf:=And.intro bX.2<|And.intro @h1<|@h4
    refine V.lz ?_
    refine zS ?_
    have zf:=And.intro bX.2<|And.intro @h1<|@h5
    refine V.lz ?_
    refine zS ?_
    refine V.l0 ?_
    refine V.nil (Or.inl ⟨rfl,M.S.length-(k+1),by omega,?_⟩)
    refine⟨k+1,hk',rfl,rfl,rfl,?_⟩
    rw[eL,eT]
    exact⟨zF,zK⟩
   ·rw[if_neg (fun hh=>he hh.1)] at eL eT
    rw[Int.add_zero] at eL eT
    refine zS ?_
    refine V.l0 ?_
    refine V.nil (Or.inl ⟨rfl,M.S.length-(k+1),by omega,?_⟩)
    refine⟨k+1,hk',rfl,rfl,rfl,?_⟩
    rw[eL,eT]
    exact⟨zF,zK⟩
  obtain rfl : k=M.S.length:=by omega
  have hL' : L=lot M d:=hL
  have hT' : T=hit M d:=hT
  subst hL' hT'
  refine V.exit ?_
  refine zX ?_
  refine V.nil (Or.inr ⟨by simp,?_⟩)
  refine zX ?_
  refine zS ?_
  refine V.run ?_
  have zf:=And.intro bX.2<|And.intro @lp1<|@lp3
  refine VI.sz 7 ?_
  simp only[ds]
  refine VI.callA rfl (f42_ok (M.O.getD d 0) (lot M d) (hit M d) _) zA (fun X3 g3=>?_)
  refine VI.l0 ?_
  refine zS ?_
  refine V.condP zP (fun hbad=>?_) (fun hbad=>?_)
  ·refine zS ?_
   refine V.l0 ?_
   refine zS ?_
   refine V.ret (V.rets rfl (Or.inr ⟨by simp,V.rets rfl (Lv.retG (by simp +contextual (disch:=first|omega|simp only[nx];omega) only[D1,cells_alloc_at,cells_alloc_ne,cells_set_at,cells_set_ne,yres,yres1,yresL,qA,qB,qC,D5,hF,hA,↓reduceIte,qD,qE];rfl) ?_ ?_)⟩))
   ·exact gHX.trans g3
   ·congr 1
    exact (decide_eq_false (fun hl=>hbad (hl d hlt'))).symm
  ·refine zS ?_
   refine V.l0 ?_
   refine V.nil (Or.inl ⟨rfl,M.O.length-(d+1),by omega,?_⟩)
   refine⟨d+1,hlt',rfl,rfl,gX.trans g3,fun q hq=>?_,zF,zK⟩
   by_cases e : q=d
   ·subst e;exact Decidable.not_not.1 hbad
   ·exact hall q (by omega)
 ·obtain rfl : d=M.O.length:=by omega
  refine V.exit ?_
  refine zX ?_
  refine V.nil (Or.inr ⟨by simp,?_⟩)
  refine zX ?_
  refine zS ?_
  refine V.l0 ?_
  refine zS ?_
  refine V.ret (V.rets rfl (Lv.retG (by simp +contextual (disch:=first|omega|simp only[nx];omega) only[D1,cells_alloc_at,cells_alloc_ne,cells_set_at,cells_set_ne,yres,yres1,yresL,qA,qB,qC,D5,hF,hA,↓reduceIte,qD,qE];rfl) ?_ ?_))
  ·exact gHX
  ·congr 1
   exact (decide_eq_true (show lie M from fun q hq=>hall q hq)).symm
theorem f31_ok {H : Heap} {o s j : Value} {M : BM} (h : MV H o s j M) : Gives Try.prog 31 [.agg ⟨mc o s j M.N⟩] H (I (bE M)):=by
 obtain⟨po,no,co,rfl⟩:=h.o.s.isS
 obtain⟨ps,ns,cs,rfl⟩:=h.s.isS
 obtain⟨pj,nj,cj,rfl⟩:=h.j.isS
 refine F.entryL rfl dg31 do31 de31 rfl (by kernel_rfl) ?_
 simp only[sets]
 refine V.re [(0,.agg ⟨mc (.slice po no co) (.slice ps ns cs) (.slice pj nj cj) M.N⟩)] (N:=12) zE zY ?_
 intro t hF hA
 simp only[Kn,and_true] at hA
 refine zS ?_
 refine V.l0 ?_
 refine V.heap (fun X=>Grow H X∧Bx X H.next (mc (.slice po no co) (.slice ps ns cs) (.slice pj nj cj) M.N) 26) ⟨?_,?_⟩ ?_
 ·exact zW
 ·exact zB
 rintro H1 ⟨g1,b1⟩
 obtain⟨e,he⟩ : ∃ e,e=fltM M:=⟨_,rfl⟩
 have f21':=f21_ok (h.grow g1)
 rw[← he] at f21'
 refine zS ?_
 refine V.run ?_
 have zf:=b1.2
 refine VI.sz 1 ?_
 simp only[ds]
 refine VI.callA rfl (f21') zA (fun H2 g2=>?_)
 have b2:=b1.grow g2
 have g12:=g1.trans g2
 refine VI.l0 ?_
 refine zS ?_
 refine V.l0 ?_
 refine zS ?_
 refine V.condP zP (fun hne=>?_) (fun hne=>?_)
 ·refine zS ?_
  refine V.l0 ?_
  refine zS ?_
  refine V.ret (V.rets rfl (Lv.retG (by simp +contextual (disch:=first|omega|simp only[nx];omega) only[D1,cells_alloc_at,cells_alloc_ne,cells_set_at,cells_set_ne,yres,yres1,yresL,qA,qB,qC,D5,hF,hA,↓reduceIte,qD,qE];rfl) ?_ ?_))
  ·exact g12
  ·rw[bE_f (by rw[← he];exact hne),← he]
 have h0 : fltM M=0:=by rw[← he];exact Decidable.not_not.1 hne
 obtain⟨hf1,hf2⟩:=fltM_0.1 h0
 have G:=VM.of hf1 hf2
 refine zS ?_
 refine V.run ?_
 have zf:=b2.2
 refine VI.sz 1 ?_
 simp only[ds]
 refine VI.callA rfl (f65_ok (h.grow g12) G) zA (fun H3 g3=>?_)
 refine VI.l0 ?_
 refine zS ?_
 refine V.condP zP (fun hl=>?_) (fun hl=>?_)
 ·refine zS ?_
  refine V.l0 ?_
  refine zS ?_
  refine V.ret (V.rets rfl (Lv.retG (by simp +contextual (disch:=first|omega|simp only[nx];omega) only[D1,cells_alloc_at,cells_alloc_ne,cells_set_at,cells_set_ne,yres,yres1,yresL,qA,qB,qC,D5,hF,hA,↓reduceIte,qD,qE];rfl) ?_ ?_))
  ·exact g12.trans g3
  ·rw[bE_9 h0 hl]
 ·refine zS ?_
  refine V.l0 ?_
  refine zS ?_
  refine V.ret (V.rets rfl (Lv.retG (by simp +contextual (disch:=first|omega|simp only[nx];omega) only[D1,cells_alloc_at,cells_alloc_ne,cells_set_at,cells_set_ne,yres,yres1,yresL,qA,qB,qC,D5,hF,hA,↓reduceIte,qD,qE];rfl) ?_ ?_))
  ·exact g12.trans g3
  ·rw[bE_0.2 ⟨h0,Decidable.not_not.1 hl⟩]
def whole (M : BM) : Prop:=thin M∧bE M=0
instance (M : BM) : Decidable (whole M):=by unfold whole;infer_instance
theorem f49_ok {H : Heap} {o s j : Value} {M : BM} (h : MV H o s j M) : Gives Try.prog 49 [.agg ⟨mc o s j M.N⟩] H (.bool (decide (whole M))):=by
 obtain⟨po,no,co,rfl⟩:=h.o.s.isS
 obtain⟨ps,ns,cs,rfl⟩:=h.s.isS
 obtain⟨pj,nj,cj,rfl⟩:=h.j.isS
 refine F.entryL rfl dg49 do49 de49 rfl (by kernel_rfl) ?_
 simp only[sets]
 refine V.re [(0,.agg ⟨mc (.slice po no co) (.slice ps ns cs) (.slice pj nj cj) M.N⟩)] (N:=10) zE zY ?_
 intro t hF hA
 simp only[Kn,and_true] at hA
 refine zS ?_
 refine V.l0 ?_
 refine V.heap (fun X=>Grow H X∧Bx X H.next (mc (.slice po no co) (.slice ps ns cs) (.slice pj nj cj) M.N) 26) ⟨?_,?_⟩ ?_
 ·exact zW
 ·exact zB
 rintro H1 ⟨g1,b1⟩
 refine zS ?_
 refine V.run ?_
 have zf:=b1.2
 refine VI.sz 1 ?_
 simp only[ds]
 refine VI.callA rfl (f16_ok (h.grow g1)) zA (fun H2 g2=>?_)
 have b2:=b1.grow g2
 have g12:=g1.trans g2
 have zf:=b2.2
 refine VI.sz 2 ?_
 simp only[ds]
 first|refine VI.callGt zG (fun hc=>zI) (fun hc=>f31_ok (h.grow g12)) (fun hc=>zI) (fun H3 g3=>?_)|refine VI.callGf zG (fun hc=>zI) (fun hc=>f31_ok (h.grow g12)) (fun hc=>zI) (fun H3 g3=>?_)
 refine VI.l0 ?_
 refine zS ?_
 refine V.ret (V.rets rfl (Lv.retG (by simp +contextual (disch:=first|omega|simp only[nx];omega) only[D1,cells_alloc_at,cells_alloc_ne,cells_set_at,cells_set_ne,yres,yres1,yresL,qA,qB,qC,D5,hF,hA,↓reduceIte,qD,qE];rfl) ?_ ?_))
 ·exact g12.trans g3
 ·rfl
end Go.Xe.TBX
