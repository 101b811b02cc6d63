/- What the functions of the layer round come to: Divide, and the reference's. Conditions: none. -/
import Derived.Test.YthgjooibimphiaaTSB
-- MOD TR
namespace Go.Xe.TRX
open Go Go.Xe Go.Proofs
open Nat renaming reduceLeDiff → qA, reduceSub → qB, reduceAdd → qC, reduceEqDiff → qD, reduceLT → qE
open Int renaming reduceNegSucc → qF, reduceEq → qG
open Go.Xe.V renaming seq → sA, block → sB, scope → sC, skip → sD, close → sE
open Go.Xe renaming pth → P
open Go.Xe.Rnd
set_option maxRecDepth 100000
set_option maxHeartbeats 3200000
set_option linter.unusedSimpArgs false
noncomputable def d37 : FCode:=(.seq (.run (.go (.move (.con (.slice none 0 0))) (P 4)::
.go (.move (.con (.int .i64 (.ofNat 0)))) (P 5)::
[])) (.seq (.block 0 (.seq (.run (.go (.move (tm 0)) (P 7)::
.go (.len 0 (tm 7)) (P 8)::
.go (.bin .gtr 3 (tm 8) (.con (.int .i64 (.ofNat 12)))) (P 9)::
.go (.move (tm 9)) (P 6)::
[])) (.cond (tm 6) (.seq (.run (.go (.move (.con (.slice none 0 0))) (P 4)::
.go (.move (.con (.int .i64 (.ofNat 3)))) (P 5)::
[])) .ret) (.seq (.run (.go (.move (tm 0)) (P 11)::
.go (.call (.con (.func (.func 62) ⟨[]⟩ ⟨[]⟩)) []) (P 12)::
.go (.makeFunc 59 [tm 12] []) (P 13)::
.go (.call (.con (.func (.func 61) ⟨[]⟩ ⟨[]⟩)) [(tm 11),(tm 13)]) (P 14)::
.go (.un .not (tm 14)) (P 15)::
.go (.move (tm 15)) (P 16)::
.gd (P 16) false (.call (.con (.func (.func 63) ⟨[]⟩ ⟨[]⟩)) []) (P 17)::
.gd (P 16) false (.move (tm 1)) (P 18)::
.gd (P 16) false (.call (.con (.func (.func 59) ⟨[]⟩ ⟨[]⟩)) [(tm 17),(tm 18)]) (P 19)::
.gd (P 16) false (.un .not (tm 19)) (P 20)::
.go (.pick (tm 16) (.con (.bool true)) (tm 20)) (P 21)::
.go (.move (tm 21)) (P 10)::
[])) (.cond (tm 10) (.seq (.run (.go (.move (.con (.slice none 0 0))) (P 4)::
.go (.move (.con (.int .i64 (.ofNat 2)))) (P 5)::
[])) .ret) (.seq (.run (.go (.move (tm 0)) (P 23)::
.go (.call (.con (.func (.func 64) ⟨[]⟩ ⟨[]⟩)) [tm 23]) (P 24)::
.go (.bin .eql 3 (tm 24) (.con (.int .i64 (.ofNat 0)))) (P 25)::
.go (.move (tm 25)) (P 22)::
[])) (.cond (tm 22) (.seq (.run (.go (.move (.con (.slice none 0 0))) (P 4)::
.go (.move (.con (.int .i64 (.ofNat 7)))) (P 5)::
[])) .ret) .skip))))))) (.seq (.run (.go (.move (tm 0)) (P 26)::
.go (.move (tm 1)) (P 27)::
.go (.call (.con (.func (.func 65) ⟨[]⟩ ⟨[]⟩)) [(tm 26),(tm 27)]) (P 28)::
.go (.move (tm 28)) (P 4)::
.go (.move (.con (.int .i64 (.ofNat 0)))) (P 5)::
[])) .ret)))
theorem de37 : @compF Try.prog (Gl.none Try.prog) Try.f37 2=.mk d37 (mkTT 29) [(P 0),(P 1)] [.tmp (P 4),.tmp (P 5)]:=by kernel_rfl
theorem dg37 : Try.prog.funcs[37]?=some Try.f37:=Try.func37
theorem do37 : okF Try.prog Try.f37=true:=by kernel_rfl
def de (l : List Int) (tt : Int) : Int:=if 12<l.length then 3 else if ¬ (∀ v∈l,0≤v∧v≤10000)∨¬ (0≤tt∧tt≤100000) then 2 else if sm l=0 then 7 else 0
theorem de_0 {l : List Int} {tt : Int} : de l tt=0↔l.length≤12∧(∀ v∈l,0≤v∧v≤10000)∧(0≤tt∧tt≤100000)∧0<sm l:=by
 unfold de
 by_cases h1 : 12<l.length
 ·rw[if_pos h1];constructor<;>intro h<;>omega
 ·rw[if_neg h1]
  by_cases h2 : ¬ (∀ v∈l,0≤v∧v≤10000)∨¬ (0≤tt∧tt≤100000)
  ·rw[if_pos h2]
   refine⟨fun h=>by omega,fun ⟨_,h3,h4,_⟩=>?_⟩
   rcases h2 with h2|h2
   ·exact absurd h3 h2
   ·exact absurd h4 h2
  ·rw[if_neg h2]
   have h3 : ∀ v∈l,0≤v∧v≤10000:=Decidable.not_not.1 (fun h=>h2 (.inl h))
   have h4 : 0≤tt∧tt≤100000:=Decidable.not_not.1 (fun h=>h2 (.inr h))
   have h5:=(sm_bound h3).1
   by_cases h6 : sm l=0
   ·rw[if_pos h6];constructor<;>intro h<;>omega
   ·rw[if_neg h6];exact⟨fun _=>⟨by omega,h3,h4,by omega⟩,fun _=>rfl⟩
theorem f37_ok {H : Heap} {x : Value} {l : List Int} (tt : Int) (h : LS H x l) (hn : l.length≤1048576) : F Try.prog 37 ⟨[x,I tt]⟩ H (fun w X=>Grow H X∧((de l tt≠0∧w=.tuple ⟨[.slice none 0 0,I (de l tt)]⟩)∨(de l tt=0∧∃ v,w=.tuple ⟨[v,I 0]⟩∧LS X v (dv l tt)))):=by
 have hl:=h.len
 refine F.entryL rfl dg37 do37 de37 rfl (by kernel_rfl) ?_
 simp only[sets]
 refine V.re [(0,x),(1,I tt)] (N:=29) zE zY ?_
 intro t hF hA
 simp only[Kn,and_true] at hA
 refine zS ?_
 refine V.l0 ?_
 refine zS ?_
 have zf:=@hl
 refine V.lz ?_
 refine zS ?_
 refine V.condP zP (fun h1=>?_) (fun h1=>?_)
 ·have e1 : de l tt=3:=by unfold de;rw[if_pos (by omega)]
  refine zS ?_
  refine V.l0 ?_
  refine zS ?_
  refine V.ret (V.rets rfl (Lv.retF (by simp +contextual (disch:=first|omega|simp only[nx];omega) only[D1,cells_alloc_at,cells_alloc_ne,cells_set_at,cells_set_ne,yres,yres1,yresL,qA,qB,qC,D5,hF,hA,↓reduceIte,qD,qE];rfl) ?_))
  exact⟨.refl _,.inl ⟨by omega,by rw[e1]⟩⟩
 ·refine zS ?_
  refine V.run ?_
  refine VI.s0 1 ?_
  simp only[ds]
  refine VI.callA rfl (f62_ok _) zA (fun H2 g2=>?_)
  refine VI.s0 1 ?_
  simp only[ds]
  refine VI.callA rfl (f61_ok 0 10000 (h.grow g2) hn) zA (fun H3 g3=>?_)
  refine VI.s0 2 ?_
  simp only[ds]
  first|refine VI.callGt zG (fun hc=>zI) (fun hc=>f63_ok _) (fun hc=>zI) (fun H4 g4=>?_)|refine VI.callGf zG (fun hc=>zI) (fun hc=>f63_ok _) (fun hc=>zI) (fun H4 g4=>?_)
  refine VI.s0 1 ?_
  simp only[ds]
  first|refine VI.callGt zG (fun hc=>zI) (fun hc=>f59_ok 0 100000 tt _) (fun hc=>zI) (fun H5 g5=>?_)|refine VI.callGf zG (fun hc=>zI) (fun hc=>f59_ok 0 100000 tt _) (fun hc=>zI) (fun H5 g5=>?_)
  refine VI.l0 ?_
  have g5:=((g2.trans g3).trans g4).trans g5
  refine zS ?_
  refine V.condP zP (fun h2=>?_) (fun h2=>?_)
  ·have e1 : de l tt=2:=by
    unfold de
    rw[if_neg (by omega),if_pos]
    rcases h2 with h2|h2
    ·exact .inl h2
    ·exact .inr h2
   refine zS ?_
   refine V.l0 ?_
   refine zS ?_
   refine V.ret (V.rets rfl (Lv.retF (by simp +contextual (disch:=first|omega|simp only[nx];omega) only[D1,cells_alloc_at,cells_alloc_ne,cells_set_at,cells_set_ne,yres,yres1,yresL,qA,qB,qC,D5,hF,hA,↓reduceIte,qD,qE];rfl) ?_))
   exact⟨g5,.inl ⟨by omega,by rw[e1]⟩⟩
  ·have h3 : ∀ v∈l,0≤v∧v≤10000:=Decidable.not_not.1 (fun hh=>h2 (.inl hh))
   have h4 : 0≤tt∧tt≤100000:=Decidable.not_not.1 (fun hh=>h2 (.inr hh))
   refine zS ?_
   refine V.run ?_
   refine VI.s0 1 ?_
   simp only[ds]
   refine VI.callA rfl (f64_ok (h.grow g5) (by omega) (fun v hv=>by have:=h3 v hv;omega)) zA (fun H6 g6=>?_)
   refine VI.l0 ?_
   have g6:=g5.trans g6
   refine zS ?_
   refine V.condP zP (fun h5=>?_) (fun h5=>?_)
   ·have e1 : de l tt=7:=by
     unfold de
     rw[if_neg (by omega),if_neg (by rintro (hh|hh);exact hh h3;exact hh h4),if_pos h5]
    refine zS ?_
    refine V.l0 ?_
    refine zS ?_
    refine V.ret (V.rets rfl (Lv.retF (by simp +contextual (disch:=first|omega|simp only[nx];omega) only[D1,cells_alloc_at,cells_alloc_ne,cells_set_at,cells_set_ne,yres,yres1,yresL,qA,qB,qC,D5,hF,hA,↓reduceIte,qD,qE];rfl) ?_))
    exact⟨g6,.inl ⟨by omega,by rw[e1]⟩⟩
   ·have h6:=(sm_bound h3).1
    have e1 : de l tt=0:=de_0.2 ⟨by omega,h3,h4,by omega⟩
    refine zS ?_
    refine V.run ?_
    refine VI.s0 2 ?_
    simp only[ds]
    refine VI.callR zA (f65_ok (h.grow g6) (by omega) h3 h4 (by omega)) zA (fun v X ⟨g7,col,ho⟩=>?_)
    obtain⟨p,n,c,rfl⟩:=Oc.slice ho
    refine VI.l0 ?_
    refine zS ?_
    refine V.ret (V.rets rfl (Lv.retF (by simp +contextual (disch:=first|omega|simp only[nx];omega) only[D1,cells_alloc_at,cells_alloc_ne,cells_set_at,cells_set_ne,yres,yres1,yresL,qA,qB,qC,D5,hF,hA,↓reduceIte,qD,qE];rfl) ?_))
    exact⟨g6.trans g7,.inr ⟨e1,_,rfl,ho.ls⟩⟩
end Go.Xe.TRX
