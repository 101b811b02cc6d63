/- The statement RoundLearns: the function. Conditions: none. -/
import Derived.Test.YthgjooibimphiaaTRX
import Derived.Test.YthgjooibimphiaaZl
import Derived.WideShapes
import Derived.ChangeSame
import Derived.Below
-- MOD TR
namespace Go.Xe.TRX
open Go Go.Xe Go.Proofs
open Nat renaming reduceLeDiff → qA, reduceSub → qB, reduceAdd → qC, reduceEqDiff → qD, reduceLT → qE
open Int renaming reduceNegSucc → qF, reduceEq → qG
open Go.Xe.V renaming seq → sA, block → sB, scope → sC, skip → sD, close → sE
open Go.Xe renaming pth → P
set_option maxRecDepth 100000
set_option maxHeartbeats 3200000
set_option linter.unusedSimpArgs false
noncomputable def d5 : FCode:=(.seq (.run (.go (.move (.con (.bool false))) (P 4)::
[])) (.seq (.run (.go (.move (tm 0)) (P 11)::
.go (.move (tm 1)) (P 12)::
.go (.call (.con (.func (.func 35) ⟨[]⟩ ⟨[]⟩)) [(tm 11),(tm 12)]) (P 13)::
.go (.move (tm 13)) (P 10)::
.go (.extract (tm 10) 0) (P 14)::
.go (.extract (tm 10) 1) (P 15)::
.go (.alloc 59 [(.int .i64 (.ofNat 0)),(.int .i64 (.ofNat 0))]) (P 5)::
.un (.store 2 (tm 5) (tm 14))::
.go (.move (tm 15)) (P 6)::
[])) (.seq (.run (.go (.move (.con (.int .i64 (.ofNat 0)))) (P 7)::
[])) (.seq (.block 0 (.seq (.run (.go (.move (tm 0)) (P 17)::
.go (.call (.con (.func (.func 25) ⟨[]⟩ ⟨[]⟩)) [(tm 17),(.con (.int .i64 (.ofNat 2))),(.con (.int .i64 (.ofNat 100)))]) (P 18)::
.go (.un .not (tm 18)) (P 19)::
.go (.move (tm 19)) (P 16)::
[])) (.cond (tm 16) (.run (.go (.move (.con (.int .i64 (.ofNat 1)))) (P 7)::
[])) (.seq (.run (.go (.move (tm 1)) (P 21)::
.go (.call (.con (.func (.func 25) ⟨[]⟩ ⟨[]⟩)) [(tm 21),(.con (.int .i64 (.ofNat 0))),(.con (.int .i64 (.ofNat 10100)))]) (P 22)::
.go (.un .not (tm 22)) (P 23)::
.go (.move (tm 23)) (P 24)::
.gd (P 24) false (.move (tm 1)) (P 25)::
.gd (P 24) false (.move (tm 0)) (P 26)::
.gd (P 24) false (.bin .rem 3 (tm 25) (tm 26)) (P 27)::
.gd (P 24) false (.bin .neq 3 (tm 27) (.con (.int .i64 (.ofNat 0)))) (P 28)::
.go (.pick (tm 24) (.con (.bool true)) (tm 28)) (P 29)::
.go (.move (tm 29)) (P 20)::
[])) (.cond (tm 20) (.run (.go (.move (.con (.int .i64 (.ofNat 2)))) (P 7)::
[])) .skip))))) (.seq (.seq (.run (.go (.move (tm 7)) (P 30)::
.go (.bin .neq 29 (tm 30) (.con (.int .i64 (.ofNat 0)))) (P 31)::
[])) (.cond (tm 31) (.seq (.run (.go (.move (tm 6)) (P 32)::
.go (.move (tm 7)) (P 33)::
.go (.bin .eql 29 (tm 32) (tm 33)) (P 34)::
.go (.move (tm 34)) (P 35)::
.gd (P 35) true (.loadN 2 (tm 5)) (P 36)::
.gd (P 35) true (.build [(.int .i64 (.ofNat 0)),(.int .i64 (.ofNat 0))] []) (P 37)::
.gd (P 35) true (.bin .eql 59 (tm 36) (tm 37)) (P 38)::
.go (.pick (tm 35) (tm 38) (.con (.bool false))) (P 39)::
.go (.move (tm 39)) (P 40)::
.gd (P 40) true (.call (.con (.func (.func 17) ⟨[]⟩ ⟨[]⟩)) []) (P 41)::
.go (.pick (tm 40) (tm 41) (.con (.bool false))) (P 42)::
.go (.move (tm 42)) (P 4)::
[])) .ret) .skip)) (.seq (.run (.go (.move (tm 1)) (P 43)::
.go (.move (tm 1)) (P 44)::
.go (.move (tm 43)) (P 8)::
.go (.move (tm 44)) (P 9)::
[])) (.seq (.block 1 (.loop (.seq (.seq (.run (.go (.move (tm 8)) (P 45)::
.go (.bin .gtr 3 (tm 45) (.con (.int .i64 (.ofNat 0)))) (P 46)::
.go (.move (tm 46)) (P 47)::
.gd (P 47) true (.move (tm 0)) (P 48)::
.gd (P 47) true (.move (tm 1)) (P 49)::
.gd (P 47) true (.move (tm 8)) (P 50)::
.gd (P 47) true (.bin .sub 3 (tm 50) (.con (.int .i64 (.ofNat 1)))) (P 51)::
.gd (P 47) true (.call (.con (.func (.func 36) ⟨[]⟩ ⟨[]⟩)) [(tm 48),(tm 49),(tm 51)]) (P 52)::
.go (.pick (tm 47) (tm 52) (.con (.bool false))) (P 53)::
[])) (.cond (tm 53) .skip (.exit 1))) (.block 2 (.run (.go (.move (tm 8)) (P 54)::
.go (.bin .sub 3 (tm 54) (.con (.int .i64 (.ofNat 1)))) (P 55)::
.go (.move (tm 55)) (P 8)::
[])))))) (.seq (.block 3 (.loop (.seq (.seq (.run (.go (.move (tm 0)) (P 56)::
.go (.move (tm 1)) (P 57)::
.go (.move (tm 9)) (P 58)::
.go (.bin .add 3 (tm 58) (.con (.int .i64 (.ofNat 1)))) (P 59)::
.go (.call (.con (.func (.func 36) ⟨[]⟩ ⟨[]⟩)) [(tm 56),(tm 57),(tm 59)]) (P 60)::
[])) (.cond (tm 60) .skip (.exit 3))) (.block 4 (.run (.go (.move (tm 9)) (P 61)::
.go (.bin .add 3 (tm 61) (.con (.int .i64 (.ofNat 1)))) (P 62)::
.go (.move (tm 62)) (P 9)::
[])))))) (.seq (.draw 13 (.go (.move (tm 6)) (P 63)::
.go (.bin .eql 29 (tm 63) (.con (.int .i64 (.ofNat 0)))) (P 64)::
.go (.move (tm 64)) (P 65)::
.gd (P 65) true (.loadN 2 (tm 5)) (P 66)::
.gd (P 65) true (.move (tm 8)) (P 67)::
.gd (P 65) true (.move (tm 9)) (P 68)::
.gd (P 65) true (.call (.con (.func (.func 34) ⟨[]⟩ ⟨[]⟩)) [(tm 67),(tm 68)]) (P 69)::
.gd (P 65) true (.bin .eql 59 (tm 66) (tm 69)) (P 70)::
.go (.pick (tm 65) (tm 70) (.con (.bool false))) (P 71)::
.go (.move (tm 71)) (P 72)::
.gd (P 72) true (.call (.con (.func (.func 17) ⟨[]⟩ ⟨[]⟩)) []) (P 73)::
.go (.pick (tm 72) (tm 73) (.con (.bool false))) (P 74)::
.go (.move (tm 74)) (P 4)::
[]) [.ok,.ok,.ok,.rd (some ((P 65),true)) (.loadN 2 (tm 5)) (some (P 66)) [7],.ok,.ok,.ok,.ok,.ok,.ok,.ok,.ok,.ok]) .ret)))))))))
theorem de5 : @compF Try.prog (Gl.none Try.prog) Try.f5 2=.mk d5 (mkTT 75) [(P 0),(P 1)] [.tmp (P 4)]:=by kernel_rfl
theorem dg5 : Try.prog.funcs[5]?=some Try.f5:=Try.func5
theorem do5 : okF Try.prog Try.f5=true:=by kernel_rfl
abbrev PT (p : Nat) : Value:=.pointer (some ⟨p,0,none⟩)
theorem kl_int {n : Int} (h : (Lit.int .i64 n).wf=true) (k : Nat) : Try.prog.keyLits (k+1) 3 [I n]=some [.int .i64 n]:=by
 unfold Program.keyLits
 simp only[Try.underlying3]
 rw[if_pos ⟨trivial,h⟩]
theorem wf_k {x : Int} (h1 : -1000000000≤x) (h2 : x≤1000000000) : (Lit.int .i64 x).wf=true:=by
 simp only[Lit.wf,Bool.and_eq_true,decide_eq_true_eq]
 show (-9223372036854775808 : Int)≤x∧x≤9223372036854775807
 omega
theorem key59 {a b : Int} (ha : (Lit.int .i64 a).wf=true) (hb : (Lit.int .i64 b).wf=true) : (keyOf Try.prog 59 (.agg ⟨A2 a b⟩)).isSome=true:=by
 have c3 : Try.prog.cellsOf 3=1:=by kernel_rfl
 have c48 : Try.prog.cellsOf 59=2:=by kernel_rfl
 have h5 : (Program.keyType Try.prog 59 && (Value.agg ⟨[I a,I b]⟩).formed Try.prog 59)=true:=by kernel_rfl
 obtain⟨n,hn⟩ : ∃ n,Try.prog.types.size+1=n+2:=⟨Try.prog.types.size-1,by have : 2≤Try.prog.types.size:=Nat.le_of_ble_eq_true (by kernel_rfl);omega⟩
 unfold keyOf
 simp only[Try.underlying59]
 rw[if_pos h5,hn]
 unfold Program.keyLits
 simp only[Try.underlying59,c48]
 have e : (Value.agg ⟨[I a,I b]⟩).cells.toList=[I a,I b]:=rfl
 rw[e,if_pos ⟨rfl,by simp⟩]
 simp[c3,kl_int ha,kl_int hb]
theorem eql59 {a b c d : Int} (ha : (Lit.int .i64 a).wf=true) (hb : (Lit.int .i64 b).wf=true) (hc : (Lit.int .i64 c).wf=true) (hd : (Lit.int .i64 d).wf=true) : xbinOp Try.prog .eql 59 (.agg ⟨A2 a b⟩) (.agg ⟨A2 c d⟩)=some (.bool (decide (a=c∧b=d))):=by
 have h1 : xbin Try.prog .eql 59 (.agg ⟨A2 a b⟩) (.agg ⟨A2 c d⟩)=none:=rfl
 have h2 : xbinStr .eql (.agg ⟨A2 a b⟩) (.agg ⟨A2 c d⟩)=none:=rfl
 have h3 : xeqNil Try.prog false 59 (.agg ⟨A2 a b⟩) (.agg ⟨A2 c d⟩)=none:=by
  unfold xeqNil
  simp only[Try.underlying59]
 have h4 : keyedB Try.prog 59=true:=by kernel_rfl
 have h5 : Try.prog.eqGuardType Try.prog.depth 59=false:=by kernel_rfl
 unfold xbinOp
 rw[h1,h2]
 simp only[h3]
 unfold xeqAgg
 simp only[Try.underlying59]
 rw[if_pos ⟨h4,rfl,rfl,key59 ha hb,key59 hc hd,h5⟩]
 simp[valEq,cellsEq,cellEq]
theorem eql59s {a b : Int} (h1 : -1000000000≤a) (h2 : a≤1000000000) (h3 : -1000000000≤b) (h4 : b≤1000000000) : xbinOp Try.prog .eql 59 (.agg ⟨A2 a b⟩) (.agg ⟨A2 a b⟩)=some (.bool true):=by
 rw[eql59 (wf_k h1 h2) (wf_k h3 h4) (wf_k h1 h2) (wf_k h3 h4)]
 simp
theorem LV_cases (b n : Int) : ∃ x y e,LV b n=.tuple ⟨[.agg ⟨A2 x y⟩,I e]⟩∧((¬ (2≤b∧b≤100)∧x=0∧y=0∧e=1)∨((2≤b∧b≤100)∧(¬ (0≤n∧n≤10100)∨n.tmod b≠0)∧x=0∧y=0∧e=2)∨((2≤b∧b≤100)∧(0≤n∧n≤10100)∧n.tmod b=0∧x=max 0 (n-b+1)∧y=n+b-1∧e=0)):=by
 unfold LV
 by_cases h1 : ¬ (2≤b∧b≤100)
 ·rw[if_pos h1];exact⟨0,0,1,rfl,.inl ⟨h1,rfl,rfl,rfl⟩⟩
 ·rw[if_neg h1]
  by_cases h2 : ¬ (0≤n∧n≤10100)∨n.tmod b≠0
  ·rw[if_pos h2];exact⟨0,0,2,rfl,.inr (.inl ⟨Decidable.not_not.1 h1,h2,rfl,rfl,rfl⟩)⟩
  ·rw[if_neg h2];exact⟨_,_,0,rfl,.inr (.inr ⟨Decidable.not_not.1 h1,by omega,by omega,rfl,rfl,rfl⟩)⟩
theorem f5_ok {b n : Int} {H : Heap} : F Try.prog 5 ⟨[I b,I n]⟩ H (fun w _=>w=.bool true):=by
 obtain⟨x,y,e,hLV,hc⟩:=LV_cases b n
 have hq:=eql59s (a:=0) (b:=0) (by decide) (by decide) (by decide) (by decide)
 refine F.entryL rfl dg5 do5 de5 rfl (by kernel_rfl) ?_
 simp only[sets]
 refine V.re [(0,I b),(1,I n)] (N:=75) zE zY ?_
 intro t hF hA
 simp only[Kn,and_true] at hA
 refine zS ?_
 refine V.l0 ?_
 refine zS ?_
 refine V.run ?_
 refine VI.s0 2 ?_
 simp only[ds]
 refine VI.callA rfl (f35_ok b n _) zA (fun H2 g2=>?_)
 rw[hLV]
 refine VI.l0 ?_
 refine V.heap (fun X=>Grow H2 X∧Bx X H2.next (A2 x y) 59) ⟨?_,?_⟩ ?_
 ·exact zW
 ·exact zB
 rintro H3 ⟨g3,b3⟩
 refine zS ?_
 refine V.l0 ?_
 refine zS ?_
 refine V.run ?_
 refine VI.s0 1 ?_
 simp only[ds]
 refine VI.callA rfl (f25_ok b 2 100 _) zA (fun H4 g4=>?_)
 have b4:=b3.grow g4
 refine VI.l0 ?_
 refine zS ?_
 refine V.condP zP (fun c1=>?_) (fun c1=>?_)
 ·have hc' : x=0∧y=0∧e=1:=by omega
  obtain⟨rfl,rfl,rfl⟩:=hc'
  refine zS ?_
  refine V.l0 ?_
  refine zS ?_
  refine V.l0 ?_
  refine zS ?_
  refine V.condT zA ?_
  refine zS ?_
  refine V.run ?_
  have zf:=And.intro b4.2<|@hq
  refine VI.sz 9 ?_
  simp only[ds]
  refine VI.callAT zG rfl (f17_ok _) zA (fun Hf gf=>?_)
  refine VI.l0 ?_
  refine zS ?_
  refine V.ret (V.rets rfl (Lv.retF (by simp +contextual (disch:=first|omega|simp only[nx];omega) only[D1,cells_alloc_at,cells_alloc_ne,cells_set_at,cells_set_ne,yres,yres1,yresL,qA,qB,qC,D5,hF,hA,↓reduceIte,qD,qE];rfl) ?_))
  rfl
 ·have hb : 2≤b∧b≤100:=by omega
  have hb0 : ¬ b=0:=by omega
  refine zS ?_
  refine V.run ?_
  refine VI.s0 1 ?_
  simp only[ds]
  refine VI.callA rfl (f25_ok n 0 10100 _) zA (fun H5 g5=>?_)
  have b5:=b4.grow g5
  have zf:=@hb0
  refine VI.lz ?_
  refine zS ?_
  refine V.condP zP (fun c2=>?_) (fun c2=>?_)
  ·have hc' : x=0∧y=0∧e=2:=by omega
   obtain⟨rfl,rfl,rfl⟩:=hc'
   refine zS ?_
   refine V.l0 ?_
   refine zS ?_
   refine V.l0 ?_
   refine zS ?_
   refine V.condT zA ?_
   refine zS ?_
   refine V.run ?_
   have zf:=And.intro b5.2<|@hq
   refine VI.sz 9 ?_
   simp only[ds]
   refine VI.callAT zG rfl (f17_ok _) zA (fun Hf gf=>?_)
   refine VI.l0 ?_
   refine zS ?_
   refine V.ret (V.rets rfl (Lv.retF (by simp +contextual (disch:=first|omega|simp only[nx];omega) only[D1,cells_alloc_at,cells_alloc_ne,cells_set_at,cells_set_ne,yres,yres1,yresL,qA,qB,qC,D5,hF,hA,↓reduceIte,qD,qE];rfl) ?_))
   rfl
  ·have hn : (0≤n∧n≤10100)∧n.tmod b=0:=by omega
   obtain⟨hn,hm⟩:=hn
   have hc' : x=max 0 (n-b+1)∧y=n+b-1∧e=0:=by omega
   obtain⟨hx,hy,rfl⟩:=hc'
   refine zS ?_
   refine V.l0 ?_
   refine zS ?_
   refine V.condF zA ?_
   refine zS ?_
   refine V.l0 ?_
   refine zS ?_
   refine V.loop (fun r t m X=>∃ lo : Int,x≤lo∧lo≤n∧r=lo.toNat∧m=[]∧Grow H5 X∧Full 75 t∧Kn [(0,I b),(1,I n),(5,PT H2.next),(6,I 0),(8,I lo),(9,I n)] t) n.toNat ?_ ?_
   ·exact⟨n,by omega,by omega,rfl,rfl,.refl _,zF,zK⟩
   clear hF hA
   rintro r t m X ⟨lo,hl1,hl2,rfl,rfl,hg,hF,hA⟩
   simp only[Kn,and_true] at hA
   refine zS ?_
   refine V.run ?_
   refine VI.s0 7 ?_
   simp only[ds]
   first|refine VI.callGt zG (fun hc=>zI) (fun hc=>f36_ok hb hn (o:=lo-1) (by omega) _) (fun hc=>zI) (fun X2 gx=>?_)|refine VI.callGf zG (fun hc=>zI) (fun hc=>f36_ok hb hn (o:=lo-1) (by omega) _) (fun hc=>zI) (fun X2 gx=>?_)
   refine VI.l0 ?_
   refine zS ?_
   refine V.condP zP (fun c3=>?_) (fun c3=>?_)
   ·refine zS ?_
    refine V.l0 ?_
    refine zS ?_
    refine V.nil (Or.inl ⟨rfl,(lo-1).toNat,by omega,?_⟩)
    exact⟨lo-1,by omega,by omega,rfl,rfl,hg.trans gx,zF,zK⟩
   ·have hlo : lo=x:=by omega
    subst hlo
    refine V.exit ?_
    refine zX ?_
    refine V.nil (Or.inr ⟨by simp,?_⟩)
    refine zX ?_
    have g6:=hg.trans gx
    refine zS ?_
    refine V.re [(0,I b),(1,I n),(5,PT H2.next),(6,I 0),(8,I lo),(9,I n)] (N:=75) zF zK ?_
    clear hF hA
    intro t hF hA
    simp only[Kn,and_true] at hA
    refine V.loop (fun r t m X=>∃ hi : Int,n≤hi∧hi≤y∧r=(y-hi).toNat∧m=[]∧Grow H5 X∧Full 75 t∧Kn [(0,I b),(1,I n),(5,PT H2.next),(6,I 0),(8,I lo),(9,I hi)] t) (y-n).toNat ?_ ?_
    ·exact⟨n,by omega,by omega,rfl,rfl,g6,zF,zK⟩
    clear hF hA
    rintro r t m Y ⟨hi,hh1,hh2,rfl,rfl,hg2,hF,hA⟩
    simp only[Kn,and_true] at hA
    refine zS ?_
    refine V.run ?_
    refine VI.s0 4 ?_
    simp only[ds]
    refine VI.callA rfl (f36_ok hb hn (o:=hi+1) (by omega) _) zA (fun Y2 gy=>?_)
    refine VI.l0 ?_
    refine zS ?_
    refine V.condP zP (fun c4=>?_) (fun c4=>?_)
    ·refine zS ?_
     refine V.l0 ?_
     refine zS ?_
     refine V.nil (Or.inl ⟨rfl,(y-(hi+1)).toNat,by omega,?_⟩)
     exact⟨hi+1,by omega,by omega,rfl,rfl,hg2.trans gy,zF,zK⟩
    ·have hhi : hi=y:=by omega
     subst hhi
     refine V.exit ?_
     refine zX ?_
     refine V.nil (Or.inr ⟨by simp,?_⟩)
     refine zX ?_
     have b7:=b5.grow (hg2.trans gy)
     have hq2:=eql59s (a:=lo) (b:=hi) (by omega) (by omega) (by omega) (by omega)
     refine zS ?_
     refine V.re [(5,PT H2.next),(6,I 0),(8,I lo),(9,I hi)] (N:=75) zF zK ?_
     clear hF hA
     intro t hF hA
     simp only[Kn,and_true] at hA
     refine V.draw ?_
     have zf:=b7.2
     refine VD.nz 6 ?_
     simp only[ds]
     refine VD.callAT zG zA (f34_ok lo hi _) zA (fun Z gz=>?_)
     have b8:=b7.grow gz
     have zf:=@hq2
     refine VD.nz 3 ?_
     simp only[ds]
     refine VD.callAT zG zA (f17_ok _) zA (fun Z2 gz2=>?_)
     refine VD.d0 ?_ ?_ rfl ?_
     ·have:=gz.1
      have:=gz2.1
      exact zM
     ·simp only[dcAll,dcOk,wantD,List.cons_append,List.nil_append,true_and,and_true]
      have zf:=And.intro b7.2<|b8.2
      exact zR
     refine zS ?_
     refine V.ret (V.rets rfl (Lv.retF (by simp +contextual (disch:=first|omega|simp only[nx];omega) only[D1,cells_alloc_at,cells_alloc_ne,cells_set_at,cells_set_ne,yres,yres1,yresL,qA,qB,qC,D5,hF,hA,↓reduceIte,qD,qE];rfl) ?_))
     rfl
end Go.Xe.TRX
/- Rules of reasoning over the executable reading of the model's code (part Z16): arguments, by what their types allow. Conditions: none; for every program. -/
namespace Go.Xe
open Go Go.RowKit Go.ChangeShapes Go.WideShapes
end Go.Xe
/- The end of a call that has changed nothing of what was there: what a statement asks of the memory behind it. Conditions: as post_of_same's, but that new memory may be frozen. -/
namespace Go.Xe
open Go Go.RowKit Go.ChangeShapes Go.WideShapes
variable {H : Type} {enc : TypeId×Value→H} {P : Program}
theorem post_of_old {f : Func} {s : ChangeSpec} {apart fresh handsOn again : Bool} {W W' : World} {args : Array Value} {v : Value} {ds gs : List (DataW H)} {before pa pv : List MemPlace}
  (hW : DataW.Whole enc P f.params.toList s.vars apart W args.toList ds gs before)
  (hres : ∀ (b : Nat) (sp : Nat→Bool) (hd : Bool),DataW.TrodAll enc P W' b sp hd f.resultTypes.toList (v.resultList f.resultTypes.size) (s.fn H (ds++gs)).results [])
  (hargs : ∀ sp : Nat→Bool,(∀ p∈before,sp p.block=true)→DataW.TrodAll enc P W' 0 sp true f.params.toList args.toList (s.fn H (ds++gs)).args pa)
  (hvars : ∀ sp : Nat→Bool,(∀ p∈before,sp p.block=true)→DataW.TrodVars enc P W' sp s.vars (s.fn H (ds++gs)).vars pv)
  (hps : before=pa++pv) (hk : W.keptBut W' (·∈before)) (hfz : ∀ a : Addr,a.block<W.heap.size→W'.frozen? a=W.frozen? a)
  (hok : ∀ (j : Nat) (t : TypeId) (r : Value),f.resultTypes[j]?=some t→(v.resultList f.resultTypes.size)[j]?=some r→Value.okWide P W' .any 0 t r) :
  s.post enc P f apart fresh handsOn again W args v W':=by
 have old : ∀ p∈before,p.block<W.heap.size:=fun p hp=>hW.lt p hp
 have hold : ∀ p∈before,(fun b=>decide (b<W.heap.size)) p.block=true:=fun p hp=>by simpa using old p hp
 subst hps
 refine⟨ds,gs,_,[],pa,pv,hW,hres _ _ _,hargs _ hold,hvars _ hold,World.keptBut_mono (fun p hp=>⟨hp,.inr (List.mem_append.1 hp)⟩) hk,fun _=>?_⟩
 obtain⟨_,_,_,_,_,hz,hn⟩:=hW
 refine⟨hok,_,_,([]++pa)++pv,⟨[]++pa,pv,trodAll_append (hargs _ (fun _ _=>rfl)) (hres _ _ _),hvars _ (fun _ _=>rfl),rfl,?_,?_⟩,?_⟩
 ·intro b off hp
  have hp' : MemPlace.cell b off∈pa++pv:=by simpa using hp
  rw[hfz _ (old _ hp')]
  exact hz b off hp'
 ·intro ha
  simpa using hn ha
 ·intro p hp _
  simpa using hp
end Go.Xe
