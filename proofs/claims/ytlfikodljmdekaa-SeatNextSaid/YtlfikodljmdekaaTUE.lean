/- What the functions of the layer seat come to: SeatHouse. Conditions: none. -/
import Derived.Test.YtlfikodljmdekaaTVN
-- MOD TV
namespace Go.Xe.TVX
open Go Go.Xe Go.Proofs
open Nat renaming reduceLeDiff → qA, reduceSub → qB, reduceAdd → qC, reduceEqDiff → qD, reduceLT → qE
open Int renaming reduceNegSucc → qF, reduceEq → qG
open Go.Xe.V renaming seq → sA, block → sB, scope → sC, skip → sD, close → sE
open Go.Xe renaming pth → P
open Go.Xe.Sea
set_option maxRecDepth 100000
set_option maxHeartbeats 3200000
set_option linter.unusedSimpArgs false
noncomputable def d32 : FCode:=(.seq (.run (.go (.box 28 (tm 0)) (P 2)::
.go (.move (.con (.int .i64 (.ofNat 0)))) (P 4)::
.go (.move (.con (.int .i64 (.ofNat 0)))) (P 5)::
[])) (.seq (.seq (.run (.go (.loadN 3 (tm 2)) (P 10)::
.go (.move (tm 1)) (P 11)::
.go (.call (.con (.func (.func 54) ⟨[]⟩ ⟨[]⟩)) [(tm 10),(tm 11)]) (P 12)::
.go (.move (tm 12)) (P 6)::
[])) (.seq (.run (.go (.move (tm 6)) (P 13)::
.go (.bin .neq 26 (tm 13) (.con (.int .i64 (.ofNat 0)))) (P 14)::
[])) (.cond (tm 14) (.seq (.run (.go (.move (tm 6)) (P 15)::
.go (.move (.con (.int .i64 (.ofNat 0)))) (P 4)::
.go (.move (tm 15)) (P 5)::
[])) .ret) .skip))) (.seq (.run (.go (.loadN 3 (tm 2)) (P 17)::
.go (.move (tm 1)) (P 18)::
.go (.call (.con (.func (.func 55) ⟨[]⟩ ⟨[]⟩)) [(tm 17),(tm 18)]) (P 19)::
.go (.call (.con (.func (.func 63) ⟨[]⟩ ⟨[]⟩)) [tm 19]) (P 20)::
.go (.move (tm 20)) (P 16)::
.go (.extract (tm 16) 0) (P 21)::
.go (.extract (tm 16) 1) (P 22)::
.go (.extract (tm 16) 2) (P 23)::
.go (.alloc 78 [(.int .i64 (.ofNat 0)),(.int .i64 (.ofNat 0)),(.int .i64 (.ofNat 0)),(.int .i64 (.ofNat 0)),(.int .i64 (.ofNat 0)),(.int .i64 (.ofNat 0)),(.int .i64 (.ofNat 0)),(.int .i64 (.ofNat 0))]) (P 7)::
.go (.alloc 78 [(.int .i64 (.ofNat 0)),(.int .i64 (.ofNat 0)),(.int .i64 (.ofNat 0)),(.int .i64 (.ofNat 0)),(.int .i64 (.ofNat 0)),(.int .i64 (.ofNat 0)),(.int .i64 (.ofNat 0)),(.int .i64 (.ofNat 0))]) (P 8)::
.un (.store 8 (tm 7) (tm 21))::
.un (.store 8 (tm 8) (tm 22))::
.go (.move (tm 23)) (P 9)::
[])) (.seq (.seq (.run (.go (.move (tm 9)) (P 24)::
.go (.bin .neq 26 (tm 24) (.con (.int .i64 (.ofNat 0)))) (P 25)::
[])) (.cond (tm 25) (.seq (.run (.go (.move (tm 9)) (P 26)::
.go (.move (.con (.int .i64 (.ofNat 0)))) (P 4)::
.go (.move (tm 26)) (P 5)::
[])) .ret) .skip)) (.seq (.run (.go (.loadN 8 (tm 8)) (P 27)::
.go (.loadN 8 (tm 7)) (P 28)::
.go (.call (.con (.func (.func 64) ⟨[]⟩ ⟨[]⟩)) [(tm 27),(tm 28)]) (P 29)::
.go (.extract (tm 29) 0) (P 30)::
.go (.extract (tm 29) 1) (P 31)::
.go (.move (tm 30)) (P 4)::
.go (.move (tm 31)) (P 5)::
[])) .ret)))))
theorem de32 : @compF Try.prog (Gl.none Try.prog) Try.f32 2=.mk d32 (mkTT 32) [(P 0),(P 1)] [.tmp (P 4),.tmp (P 5)]:=by kernel_rfl
theorem dg32 : Try.prog.funcs[32]?=some Try.f32:=Try.func32
theorem do32 : okF Try.prog Try.f32=true:=by kernel_rfl
noncomputable def d31 : FCode:=(.seq (.run (.go (.box 28 (tm 0)) (P 2)::
.go (.move (.con (.int .i64 (.ofNat 0)))) (P 4)::
.go (.move (.con (.int .i64 (.ofNat 0)))) (P 5)::
[])) (.seq (.run (.go (.loadN 3 (tm 2)) (P 9)::
.go (.move (tm 1)) (P 10)::
.go (.call (.con (.func (.func 54) ⟨[]⟩ ⟨[]⟩)) [(tm 9),(tm 10)]) (P 11)::
.go (.move (tm 11)) (P 6)::
[])) (.seq (.block 0 (.seq (.run (.go (.move (tm 6)) (P 13)::
.go (.bin .neq 26 (tm 13) (.con (.int .i64 (.ofNat 0)))) (P 14)::
.go (.move (tm 14)) (P 12)::
[])) (.cond (tm 12) (.seq (.run (.go (.move (tm 6)) (P 15)::
.go (.move (.con (.int .i64 (.ofNat 0)))) (P 4)::
.go (.move (tm 15)) (P 5)::
[])) .ret) (.seq (.run (.go (.fieldAddr 0 (tm 2)) (P 17)::
.go (.load1 (tm 17)) (P 18)::
.go (.bin .eql 5 (tm 18) (.con (.int .u8 (.ofNat 5)))) (P 19)::
.go (.move (tm 19)) (P 16)::
[])) (.cond (tm 16) (.seq (.run (.go (.move (.con (.int .i64 (.ofNat 0)))) (P 4)::
.go (.move (.con (.int .i64 (.ofNat 8)))) (P 5)::
[])) .ret) .skip))))) (.seq (.run (.go (.loadN 3 (tm 2)) (P 21)::
.go (.move (tm 1)) (P 22)::
.go (.call (.con (.func (.func 55) ⟨[]⟩ ⟨[]⟩)) [(tm 21),(tm 22)]) (P 23)::
.go (.call (.con (.func (.func 63) ⟨[]⟩ ⟨[]⟩)) [tm 23]) (P 24)::
.go (.move (tm 24)) (P 20)::
.go (.extract (tm 20) 0) (P 25)::
.go (.extract (tm 20) 1) (P 26)::
.go (.extract (tm 20) 2) (P 27)::
.go (.alloc 78 [(.int .i64 (.ofNat 0)),(.int .i64 (.ofNat 0)),(.int .i64 (.ofNat 0)),(.int .i64 (.ofNat 0)),(.int .i64 (.ofNat 0)),(.int .i64 (.ofNat 0)),(.int .i64 (.ofNat 0)),(.int .i64 (.ofNat 0))]) (P 7)::
.go (.alloc 78 [(.int .i64 (.ofNat 0)),(.int .i64 (.ofNat 0)),(.int .i64 (.ofNat 0)),(.int .i64 (.ofNat 0)),(.int .i64 (.ofNat 0)),(.int .i64 (.ofNat 0)),(.int .i64 (.ofNat 0)),(.int .i64 (.ofNat 0))]) (P 8)::
.un (.store 8 (tm 7) (tm 25))::
.un (.store 8 (tm 8) (tm 26))::
.go (.move (tm 27)) (P 6)::
[])) (.seq (.seq (.run (.go (.move (tm 6)) (P 28)::
.go (.bin .neq 26 (tm 28) (.con (.int .i64 (.ofNat 0)))) (P 29)::
[])) (.cond (tm 29) (.seq (.run (.go (.move (tm 6)) (P 30)::
.go (.move (.con (.int .i64 (.ofNat 0)))) (P 4)::
.go (.move (tm 30)) (P 5)::
[])) .ret) .skip)) (.seq (.run (.go (.loadN 8 (tm 7)) (P 31)::
.go (.loadN 8 (tm 8)) (P 32)::
.go (.call (.con (.func (.func 64) ⟨[]⟩ ⟨[]⟩)) [(tm 31),(tm 32)]) (P 33)::
.go (.extract (tm 33) 0) (P 34)::
.go (.extract (tm 33) 1) (P 35)::
.go (.move (tm 34)) (P 4)::
.go (.move (tm 35)) (P 5)::
[])) .ret))))))
theorem de31 : @compF Try.prog (Gl.none Try.prog) Try.f31 2=.mk d31 (mkTT 36) [(P 0),(P 1)] [.tmp (P 4),.tmp (P 5)]:=by kernel_rfl
theorem dg31 : Try.prog.funcs[31]?=some Try.f31:=Try.func31
theorem do31 : okF Try.prog Try.f31=true:=by kernel_rfl
def LST (m S L : Int) (l : List Int) (p e : Int) : Prop:=(flt m S L l≠0∧p=0∧e=flt m S L l)∨(flt m S L l=0∧¬ (sure m S (vl L l)∧sure m (S+1) (vl L l))∧p=0∧e=10)∨(flt m S L l=0∧sure m S (vl L l)∧sure m (S+1) (vl L l)∧FB (otc m (S+1) (vl L l)).1 (otc m S (vl L l)).1 p e)
theorem f32_ok {H : Heap} {m S L : Int} {x : Value} {l : List Int} (h : LS H x l) : F Try.prog 32 ⟨[.agg ⟨A3 m S L⟩,x]⟩ H (fun w X=>Grow H X∧∃ p e,w=.tuple ⟨[I p,I e]⟩∧LST m S L l p e):=by
 obtain⟨px,nx',cx,rfl⟩:=h.s.isS
 refine F.entryL rfl dg32 do32 de32 rfl (by kernel_rfl) ?_
 simp only[sets]
 refine V.re [(0,.agg ⟨A3 m S L⟩),(1,.slice px nx' cx)] (N:=32) zE zY ?_
 intro t hF hA
 simp only[Kn,and_true] at hA
 refine zS ?_
 refine V.l0 ?_
 refine V.heap (fun X=>Grow H X∧Bx X H.next (A3 m S L) 28) ⟨?_,?_⟩ ?_
 ·exact zW
 ·exact zB
 rintro H1 ⟨g1,b1⟩
 refine zS ?_
 refine V.run ?_
 have zf:=b1.2
 refine VI.sz 2 ?_
 simp only[ds]
 refine VI.callA rfl (f54_ok (m:=m) (S:=S) (L:=L) (h.grow g1)) zA (fun H2 g2=>?_)
 have b2:=b1.grow g2
 have g12:=g1.trans g2
 refine VI.l0 ?_
 refine zS ?_
 refine V.l0 ?_
 refine zS ?_
 refine V.condP zP (fun he=>?_) (fun he=>?_)
 ·refine zS ?_
  refine V.l0 ?_
  refine zS ?_
  refine V.ret (V.rets rfl (Lv.retF (by simp +contextual (disch:=first|omega|simp only[nx];omega) only[D1,cells_alloc_at,cells_alloc_ne,cells_set_at,cells_set_ne,yres,yres1,yresL,qA,qB,qC,D5,hF,hA,↓reduceIte,qD,qE];rfl) ?_))
  exact⟨g12,_,_,rfl,.inl ⟨he,rfl,rfl⟩⟩
 have he0 : flt m S L l=0:=Decidable.not_not.1 he
 obtain⟨hr,hl8,hb⟩:=flt_0.1 he0
 have hm : 1≤m∧m≤5:=⟨hr.1,hr.2.1⟩
 have hvk:=vl_ok (L:=L) hb
 have hv8:=vl_8 (L:=L) hl8
 refine zS ?_
 refine V.run ?_
 have zf:=b2.2
 refine VI.sz 2 ?_
 simp only[ds]
 refine VI.callA rfl (f55_ok (m:=m) (S:=S) (L:=L) (h.grow g12) hl8 hb hm) zA (fun H3 g3=>?_)
 refine VI.callR zA (f63_ok (S:=S) (L:=L) (c:=gl0 l) hm hvk ⟨hr.2.2.1,hr.2.2.2.1⟩ hv8) zA (fun w4 H4 ⟨g4,a,b,e,hw4,hone⟩=>?_)
 subst hw4
 have g14:=(g12.trans g3).trans g4
 have n4:=g14.1
 have n8a:=n8_set0 a (fun _=>0)
 have n8b:=n8_set0 b (fun _=>0)
 have zf:=And.intro @n8_take<|And.intro @n8_len<|And.intro @n8_ok<|And.intro @n8a<|And.intro @n8b<|@n8_0
 refine VI.lz ?_
 refine V.heap (fun X=>Grow H X∧Bx X H4.next (n8 a) 78∧Bx X (H4.next+1) (n8 b) 78) ⟨?_,?_,?_⟩ ?_
 ·exact zW
 ·exact (Bx.put (by simp only[Heap.next_alloc];omega) _ _).set (by omega) _
 ·exact Bx.put (by simp only[Heap.next_alloc,Heap.next_set];omega) _ _
 rintro H5 ⟨g5,a5,b5⟩
 refine zS ?_
 refine V.l0 ?_
 refine zS ?_
 rcases hone with⟨rfl,ht⟩|⟨rfl,h1,h2,ea,eb⟩
 ·refine V.condP zP (fun hc0=>?_) (fun hc0=>?_)
  ·refine zS ?_
   refine V.l0 ?_
   refine zS ?_
   refine V.ret (V.rets rfl (Lv.retF (by simp +contextual (disch:=first|omega|simp only[nx];omega) only[D1,cells_alloc_at,cells_alloc_ne,cells_set_at,cells_set_ne,yres,yres1,yresL,qA,qB,qC,D5,hF,hA,↓reduceIte,qD,qE];rfl) ?_))
   exact⟨g5,_,_,rfl,.inr (.inl ⟨he0,ht,rfl,rfl⟩)⟩
  ·exact absurd (by decide) hc0
 ·refine V.condP zP (fun hc0=>?_) (fun hc0=>?_)
  ·exact absurd hc0 (by decide)
  refine zS ?_
  refine V.run ?_
  have zf:=And.intro a5.2<|And.intro b5.2<|And.intro @n8_take<|@n8_len
  refine VI.sz 2 ?_
  simp only[ds]
  refine VI.callR zA (f64_ok (a:=b) (b:=a)) zA (fun w6 H6 ⟨g6,p,e,hw6,hfb⟩=>?_)
  subst hw6
  refine VI.l0 ?_
  refine zS ?_
  refine V.ret (V.rets rfl (Lv.retF (by simp +contextual (disch:=first|omega|simp only[nx];omega) only[D1,cells_alloc_at,cells_alloc_ne,cells_set_at,cells_set_ne,yres,yres1,yresL,qA,qB,qC,D5,hF,hA,↓reduceIte,qD,qE];rfl) ?_))
  rw[ea,eb] at hfb
  exact⟨g5.trans g6,_,_,rfl,.inr (.inr ⟨he0,h1,h2,hfb⟩)⟩
def NXT (m S L : Int) (l : List Int) (p e : Int) : Prop:=(flt m S L l≠0∧p=0∧e=flt m S L l)∨(flt m S L l=0∧m=5∧p=0∧e=8)∨(flt m S L l=0∧m≠5∧¬ (sure m S (vl L l)∧sure m (S+1) (vl L l))∧p=0∧e=10)∨(flt m S L l=0∧m≠5∧sure m S (vl L l)∧sure m (S+1) (vl L l)∧FB (otc m S (vl L l)).1 (otc m (S+1) (vl L l)).1 p e)
theorem f31_ok {H : Heap} {m S L : Int} {x : Value} {l : List Int} (h : LS H x l) : F Try.prog 31 ⟨[.agg ⟨A3 m S L⟩,x]⟩ H (fun w X=>Grow H X∧∃ p e,w=.tuple ⟨[I p,I e]⟩∧NXT m S L l p e):=by
 obtain⟨px,nx',cx,rfl⟩:=h.s.isS
 refine F.entryL rfl dg31 do31 de31 rfl (by kernel_rfl) ?_
 simp only[sets]
 refine V.re [(0,.agg ⟨A3 m S L⟩),(1,.slice px nx' cx)] (N:=36) zE zY ?_
 intro t hF hA
 simp only[Kn,and_true] at hA
 refine zS ?_
 refine V.l0 ?_
 refine V.heap (fun X=>Grow H X∧Bx X H.next (A3 m S L) 28) ⟨?_,?_⟩ ?_
 ·exact zW
 ·exact zB
 rintro H1 ⟨g1,b1⟩
 refine zS ?_
 refine V.run ?_
 have zf:=b1.2
 refine VI.sz 2 ?_
 simp only[ds]
 refine VI.callA rfl (f54_ok (m:=m) (S:=S) (L:=L) (h.grow g1)) zA (fun H2 g2=>?_)
 have b2:=b1.grow g2
 have g12:=g1.trans g2
 refine VI.l0 ?_
 refine zS ?_
 refine V.l0 ?_
 refine zS ?_
 refine V.condP zP (fun he=>?_) (fun he=>?_)
 ·refine zS ?_
  refine V.l0 ?_
  refine zS ?_
  refine V.ret (V.rets rfl (Lv.retF (by simp +contextual (disch:=first|omega|simp only[nx];omega) only[D1,cells_alloc_at,cells_alloc_ne,cells_set_at,cells_set_ne,yres,yres1,yresL,qA,qB,qC,D5,hF,hA,↓reduceIte,qD,qE];rfl) ?_))
  exact⟨g12,_,_,rfl,.inl ⟨he,rfl,rfl⟩⟩
 have he0 : flt m S L l=0:=Decidable.not_not.1 he
 obtain⟨hr,hl8,hb⟩:=flt_0.1 he0
 have hm : 1≤m∧m≤5:=⟨hr.1,hr.2.1⟩
 have hvk:=vl_ok (L:=L) hb
 have hv8:=vl_8 (L:=L) hl8
 refine zS ?_
 have zf:=b2.2
 refine V.lz ?_
 refine zS ?_
 refine V.condP zP (fun h5=>?_) (fun h5=>?_)
 ·refine zS ?_
  refine V.l0 ?_
  refine zS ?_
  refine V.ret (V.rets rfl (Lv.retF (by simp +contextual (disch:=first|omega|simp only[nx];omega) only[D1,cells_alloc_at,cells_alloc_ne,cells_set_at,cells_set_ne,yres,yres1,yresL,qA,qB,qC,D5,hF,hA,↓reduceIte,qD,qE];rfl) ?_))
  exact⟨g12,_,_,rfl,.inr (.inl ⟨he0,h5,rfl,rfl⟩)⟩
 refine zS ?_
 refine V.run ?_
 have zf:=b2.2
 refine VI.sz 2 ?_
 simp only[ds]
 refine VI.callA rfl (f55_ok (m:=m) (S:=S) (L:=L) (h.grow g12) hl8 hb hm) zA (fun H3 g3=>?_)
 refine VI.callR zA (f63_ok (S:=S) (L:=L) (c:=gl0 l) hm hvk ⟨hr.2.2.1,hr.2.2.2.1⟩ hv8) zA (fun w4 H4 ⟨g4,a,b,e,hw4,hone⟩=>?_)
 subst hw4
 have g14:=(g12.trans g3).trans g4
 have n4:=g14.1
 have n8a:=n8_set0 a (fun _=>0)
 have n8b:=n8_set0 b (fun _=>0)
 have zf:=And.intro @n8_take<|And.intro @n8_len<|And.intro @n8_ok<|And.intro @n8a<|And.intro @n8b<|@n8_0
 refine VI.lz ?_
 refine V.heap (fun X=>Grow H X∧Bx X H4.next (n8 a) 78∧Bx X (H4.next+1) (n8 b) 78) ⟨?_,?_,?_⟩ ?_
 ·exact zW
 ·exact (Bx.put (by simp only[Heap.next_alloc];omega) _ _).set (by omega) _
 ·exact Bx.put (by simp only[Heap.next_alloc,Heap.next_set];omega) _ _
 rintro H5 ⟨g5,a5,b5⟩
 refine zS ?_
 refine V.l0 ?_
 refine zS ?_
 rcases hone with⟨rfl,ht⟩|⟨rfl,h1,h2,ea,eb⟩
 ·refine V.condP zP (fun hc0=>?_) (fun hc0=>?_)
  ·refine zS ?_
   refine V.l0 ?_
   refine zS ?_
   refine V.ret (V.rets rfl (Lv.retF (by simp +contextual (disch:=first|omega|simp only[nx];omega) only[D1,cells_alloc_at,cells_alloc_ne,cells_set_at,cells_set_ne,yres,yres1,yresL,qA,qB,qC,D5,hF,hA,↓reduceIte,qD,qE];rfl) ?_))
   exact⟨g5,_,_,rfl,.inr (.inr (.inl ⟨he0,h5,ht,rfl,rfl⟩))⟩
  ·exact absurd (by decide) hc0
 ·refine V.condP zP (fun hc0=>?_) (fun hc0=>?_)
  ·exact absurd hc0 (by decide)
  refine zS ?_
  refine V.run ?_
  have zf:=And.intro a5.2<|And.intro b5.2<|And.intro @n8_take<|@n8_len
  refine VI.sz 2 ?_
  simp only[ds]
  refine VI.callR zA (f64_ok (a:=a) (b:=b)) zA (fun w6 H6 ⟨g6,p,e,hw6,hfb⟩=>?_)
  subst hw6
  refine VI.l0 ?_
  refine zS ?_
  refine V.ret (V.rets rfl (Lv.retF (by simp +contextual (disch:=first|omega|simp only[nx];omega) only[D1,cells_alloc_at,cells_alloc_ne,cells_set_at,cells_set_ne,yres,yres1,yresL,qA,qB,qC,D5,hF,hA,↓reduceIte,qD,qE];rfl) ?_))
  rw[ea,eb] at hfb
  exact⟨g5.trans g6,_,_,rfl,.inr (.inr (.inr ⟨he0,h5,h1,h2,hfb⟩))⟩
end Go.Xe.TVX
/- What the functions of the layer seat come to: SeatHouse. Conditions: none. -/
-- MOD TV
namespace Go.Xe.TVX
open Go Go.Xe Go.Proofs
open Nat renaming reduceLeDiff → qA, reduceSub → qB, reduceAdd → qC, reduceEqDiff → qD, reduceLT → qE
open Int renaming reduceNegSucc → qF, reduceEq → qG
open Go.Xe.V renaming seq → sA, block → sB, scope → sC, skip → sD, close → sE
open Go.Xe renaming pth → P
open Go.Xe.Sea
set_option maxRecDepth 100000
set_option maxHeartbeats 3200000
set_option linter.unusedSimpArgs false
end Go.Xe.TVX
/- What the functions of the layer seat come to: shares, rounded down and up. Conditions: none. -/
-- MOD TV
namespace Go.Xe.TVX
open Go Go.Xe Go.Proofs
open Nat renaming reduceLeDiff → qA, reduceSub → qB, reduceAdd → qC, reduceEqDiff → qD, reduceLT → qE
open Int renaming reduceNegSucc → qF, reduceEq → qG
open Go.Xe.V renaming seq → sA, block → sB, scope → sC, skip → sD, close → sE
open Go.Xe renaming pth → P
open Go.Xe.Sea
set_option maxRecDepth 100000
set_option maxHeartbeats 3200000
set_option linter.unusedSimpArgs false
def shi (S : Int) (v : Nat→Int) (p : Nat) : Int:=(shr S v p).1+(if 1<(shr S v p).2 then 1 else (shr S v p).2)
end Go.Xe.TVX
/- What the functions of the layer seat come to: SeatQuotas. Conditions: none. -/
-- MOD TV
namespace Go.Xe.TVX
open Go Go.Xe Go.Proofs
open Nat renaming reduceLeDiff → qA, reduceSub → qB, reduceAdd → qC, reduceEqDiff → qD, reduceLT → qE
open Int renaming reduceNegSucc → qF, reduceEq → qG
open Go.Xe.V renaming seq → sA, block → sB, scope → sC, skip → sD, close → sE
open Go.Xe renaming pth → P
open Go.Xe.Sea
set_option maxRecDepth 100000
set_option maxHeartbeats 3200000
set_option linter.unusedSimpArgs false
noncomputable def d6 : FCode:=(.seq (.run (.go (.box 23 (tm 0)) (P 2)::
.go (.move (.con (.bool false))) (P 4)::
[])) (.seq (.seq (.run (.go (.move (tm 1)) (P 11)::
.go (.len 0 (tm 11)) (P 12)::
.go (.bin .gtr 3 (tm 12) (.con (.int .i64 (.ofNat 11)))) (P 13)::
[])) (.cond (tm 13) (.seq (.run (.go (.call (.con (.func (.func 20) ⟨[]⟩ ⟨[]⟩)) []) (P 14)::
.go (.move (tm 14)) (P 4)::
[])) .ret) .skip)) (.seq (.run (.go (.loadN 3 (tm 2)) (P 16)::
.go (.call (.con (.func (.func 22) ⟨[]⟩ ⟨[]⟩)) [tm 16]) (P 17)::
.go (.move (tm 1)) (P 18)::
.go (.call (.con (.func (.func 24) ⟨[]⟩ ⟨[]⟩)) [tm 18]) (P 19)::
.go (.call (.con (.func (.func 35) ⟨[]⟩ ⟨[]⟩)) [(tm 17),(tm 19)]) (P 20)::
.go (.move (tm 20)) (P 15)::
.go (.extract (tm 15) 0) (P 21)::
.go (.extract (tm 15) 1) (P 22)::
.go (.move (tm 21)) (P 5)::
.go (.move (tm 22)) (P 6)::
[])) (.seq (.seq (.run (.go (.loadN 3 (tm 2)) (P 23)::
.go (.move (tm 1)) (P 24)::
.go (.call (.con (.func (.func 25) ⟨[]⟩ ⟨[]⟩)) [(tm 23),(tm 24)]) (P 25)::
.go (.move (tm 25)) (P 7)::
[])) (.seq (.run (.go (.move (tm 7)) (P 26)::
.go (.bin .neq 26 (tm 26) (.con (.int .i64 (.ofNat 0)))) (P 27)::
[])) (.cond (tm 27) (.seq (.run (.go (.move (tm 6)) (P 28)::
.go (.move (tm 7)) (P 29)::
.go (.bin .eql 26 (tm 28) (tm 29)) (P 30)::
.go (.move (tm 30)) (P 31)::
.gd (P 31) true (.move (tm 5)) (P 32)::
.gd (P 31) true (.len 0 (tm 32)) (P 33)::
.gd (P 31) true (.bin .eql 3 (tm 33) (.con (.int .i64 (.ofNat 0)))) (P 34)::
.go (.pick (tm 31) (tm 34) (.con (.bool false))) (P 35)::
.go (.move (tm 35)) (P 36)::
.gd (P 36) true (.call (.con (.func (.func 20) ⟨[]⟩ ⟨[]⟩)) []) (P 37)::
.go (.pick (tm 36) (tm 37) (.con (.bool false))) (P 38)::
.go (.move (tm 38)) (P 4)::
[])) .ret) .skip))) (.seq (.seq (.run (.go (.move (tm 6)) (P 39)::
.go (.bin .neq 26 (tm 39) (.con (.int .i64 (.ofNat 0)))) (P 40)::
.go (.move (tm 40)) (P 41)::
.gd (P 41) false (.move (tm 5)) (P 42)::
.gd (P 41) false (.len 0 (tm 42)) (P 43)::
.gd (P 41) false (.move (tm 1)) (P 44)::
.gd (P 41) false (.len 0 (tm 44)) (P 45)::
.gd (P 41) false (.bin .neq 3 (tm 43) (tm 45)) (P 46)::
.go (.pick (tm 41) (.con (.bool true)) (tm 46)) (P 47)::
[])) (.cond (tm 47) (.seq (.run (.go (.move (.con (.bool false))) (P 4)::
[])) .ret) .skip)) (.seq (.run (.go (.loadN 3 (tm 2)) (P 48)::
.go (.move (tm 1)) (P 49)::
.go (.call (.con (.func (.func 36) ⟨[]⟩ ⟨[]⟩)) [(tm 48),(tm 49)]) (P 50)::
.go (.move (tm 50)) (P 8)::
[])) (.seq (.seq (.run (.go (.move (.con (.int .i64 (.ofNat 0)))) (P 9)::
[])) (.block 0 (.loop (.seq (.seq (.run (.go (.move (tm 9)) (P 51)::
.go (.move (tm 5)) (P 52)::
.go (.len 0 (tm 52)) (P 53)::
.go (.bin .lss 3 (tm 51) (tm 53)) (P 54)::
[])) (.cond (tm 54) .skip (.exit 0))) (.seq (.block 1 (.seq (.run (.go (.build [(.int .i64 (.ofNat 0)),(.int .i64 (.ofNat 0))] []) (P 57)::
.go (.alloc 49 [(.int .i64 (.ofNat 0)),(.int .i64 (.ofNat 0))]) (P 10)::
.un (.store 2 (tm 10) (tm 57))::
[])) (.seq (.seq (.draw 6 (.go (.loadN 3 (tm 2)) (P 58)::
.go (.move (tm 1)) (P 59)::
.go (.move (tm 9)) (P 60)::
.go (.indexAddr none 1 (tm 59) (tm 60)) (P 61)::
.go (.load1 (tm 61)) (P 62)::
.go (.call (.con (.func (.func 37) ⟨[]⟩ ⟨[]⟩)) [(tm 58),(tm 62)]) (P 63)::
[]) [.ok,.ok,.ok,.ok,.ok,.ok]) (.cond (tm 63) (.seq (.block 2 (.loop (.seq (.seq (.draw 13 (.go (.fieldAddr 0 (tm 10)) (P 64)::
.go (.load1 (tm 64)) (P 65)::
.go (.bin .add 3 (tm 65) (.con (.int .i64 (.ofNat 1)))) (P 66)::
.go (.move (tm 8)) (P 67)::
.go (.bin .mul 3 (tm 66) (tm 67)) (P 68)::
.go (.move (tm 1)) (P 69)::
.go (.move (tm 9)) (P 70)::
.go (.indexAddr none 1 (tm 69) (tm 70)) (P 71)::
.go (.load1 (tm 71)) (P 72)::
.go (.fieldAddr 1 (tm 2)) (P 73)::
.go (.load1 (tm 73)) (P 74)::
.go (.bin .mul 3 (tm 72) (tm 74)) (P 75)::
.go (.bin .leq 3 (tm 68) (tm 75)) (P 76)::
[]) [.ok,.ok,.ok,.ok,.ok,.ok,.ok,.ok,.ok,.ok,.ok,.ok,.ok]) (.cond (tm 76) .skip (.exit 2))) (.block 3 (.run (.go (.fieldAddr 0 (tm 10)) (P 77)::
.go (.load1 (tm 77)) (P 78)::
.go (.bin .add 3 (tm 78) (.con (.int .i64 (.ofNat 1)))) (P 79)::
.go (.fieldAddr 0 (tm 10)) (P 80)::
.un (.store 1 (tm 80) (tm 79))::
[])))))) (.block 4 (.loop (.seq (.seq (.draw 12 (.go (.fieldAddr 1 (tm 10)) (P 81)::
.go (.load1 (tm 81)) (P 82)::
.go (.move (tm 8)) (P 83)::
.go (.bin .mul 3 (tm 82) (tm 83)) (P 84)::
.go (.move (tm 1)) (P 85)::
.go (.move (tm 9)) (P 86)::
.go (.indexAddr none 1 (tm 85) (tm 86)) (P 87)::
.go (.load1 (tm 87)) (P 88)::
.go (.fieldAddr 1 (tm 2)) (P 89)::
.go (.load1 (tm 89)) (P 90)::
.go (.bin .mul 3 (tm 88) (tm 90)) (P 91)::
.go (.bin .lss 3 (tm 84) (tm 91)) (P 92)::
[]) [.ok,.ok,.ok,.ok,.ok,.ok,.ok,.ok,.ok,.ok,.ok,.ok]) (.cond (tm 92) .skip (.exit 4))) (.block 5 (.run (.go (.fieldAddr 1 (tm 10)) (P 93)::
.go (.load1 (tm 93)) (P 94)::
.go (.bin .add 3 (tm 94) (.con (.int .i64 (.ofNat 1)))) (P 95)::
.go (.fieldAddr 1 (tm 10)) (P 96)::
.un (.store 1 (tm 96) (tm 95))::
[]))))))) .skip)) (.seq (.draw 6 (.go (.move (tm 5)) (P 97)::
.go (.move (tm 9)) (P 98)::
.go (.indexAddr none 2 (tm 97) (tm 98)) (P 99)::
.go (.loadN 2 (tm 99)) (P 100)::
.go (.loadN 2 (tm 10)) (P 101)::
.go (.bin .neq 49 (tm 100) (tm 101)) (P 102)::
[]) [.ok,.ok,.ok,.ok,.ok,.ok]) (.cond (tm 102) (.seq (.run (.go (.move (.con (.bool false))) (P 4)::
[])) .ret) .skip))))) (.run (.go (.move (tm 9)) (P 55)::
.go (.bin .add 3 (tm 55) (.con (.int .i64 (.ofNat 1)))) (P 56)::
.go (.move (tm 56)) (P 9)::
[]))))))) (.seq (.run (.go (.call (.con (.func (.func 20) ⟨[]⟩ ⟨[]⟩)) []) (P 103)::
.go (.move (tm 103)) (P 4)::
[])) .ret))))))))
end Go.Xe.TVX
/- What the functions of the layer seat come to: SeatTimes. Conditions: none. -/
-- MOD TV
namespace Go.Xe.TVX
open Go Go.Xe Go.Proofs
open Nat renaming reduceLeDiff → qA, reduceSub → qB, reduceAdd → qC, reduceEqDiff → qD, reduceLT → qE
open Int renaming reduceNegSucc → qF, reduceEq → qG
open Go.Xe.V renaming seq → sA, block → sB, scope → sC, skip → sD, close → sE
open Go.Xe renaming pth → P
open Go.Xe.Sea
set_option maxRecDepth 100000
set_option maxHeartbeats 3200000
set_option linter.unusedSimpArgs false
theorem sm_scale {v : Nat→Int} {k : Int} : ∀ {n : Nat},sm (fun p=>k*v p) n=k*sm v n
 | 0=>by simp[sm]
 | n+1=>by simp only[sm];rw[sm_scale,Int.mul_add]
end Go.Xe.TVX
/- What the functions of the layer seat come to: SeatQuota. Conditions: none. -/
-- MOD TV
namespace Go.Xe.TVX
open Go Go.Xe Go.Proofs
open Nat renaming reduceLeDiff → qA, reduceSub → qB, reduceAdd → qC, reduceEqDiff → qD, reduceLT → qE
open Int renaming reduceNegSucc → qF, reduceEq → qG
open Go.Xe.V renaming seq → sA, block → sB, scope → sC, skip → sD, close → sE
open Go.Xe renaming pth → P
open Go.Xe.Sea
set_option maxRecDepth 100000
set_option maxHeartbeats 3200000
set_option linter.unusedSimpArgs false
theorem sm_mul {a : Nat→Int} {k : Int} {n : Nat} : sm (fun p=>a p*k) n=sm a n*k:=by
 have:=sm_scale (v:=a) (k:=k) (n:=n)
 rw[Int.mul_comm (sm a n) k,← this]
 exact sm_cong fun p _=>Int.mul_comm _ _
theorem shr_sums {S : Int} {v : Nat→Int} (hv : vok v) (hS : 0≤S∧S≤61) : sm (fun p=>(shr S v p).1) 8≤S∧(0<sm v 8→S≤sm (fun p=>shi S v p) 8):=by
 have ht:=sm_bd hv
 by_cases h0 : 0<sm v 8
 ·have e1 : ∀ p,p<8→v p*S=(shr S v p).1*sm v 8+(shr S v p).2:=by
   intro p _
   unfold shr
   split
   ·rename_i h;rw[h];simp
   ·have:=Int.mul_ediv_add_emod (v p*S) (sm v 8)
    rw[Int.mul_comm (sm v 8)] at this
    exact this.symm
  have e2 : sm v 8*S=sm (fun p=>(shr S v p).1) 8*sm v 8+sm (fun p=>(shr S v p).2) 8:=by
   rw[← sm_mul,← sm_mul,← sm_add]
   exact sm_cong e1
  have e3 : 0≤sm (fun p=>(shr S v p).2) 8:=by
   have:=sm_le (s:=fun _=>0) (t:=fun p=>(shr S v p).2) (n:=8) (fun p hp=>(shr_bd hv hS hp).2.1)
   rw[sm_0] at this;exact this
  refine⟨?_,fun _=>?_⟩
  ·have : sm (fun p=>(shr S v p).1) 8*sm v 8≤S*sm v 8:=by rw[Int.mul_comm S];omega
   exact Int.le_of_mul_le_mul_right this h0
  ·have e4 : sm (fun p=>(shr S v p).2) 8≤sm (fun p=>(shi S v p-(shr S v p).1)*sm v 8) 8:=by
    apply sm_le
    intro p hp
    have hb:=shr_bd hv hS hp
    show (shr S v p).2≤(shi S v p-(shr S v p).1)*sm v 8
    have e5 : shi S v p-(shr S v p).1=if 1<(shr S v p).2 then 1 else (shr S v p).2:=by unfold shi;omega
    rw[e5]
    split
    ·by_cases hz : v p=0
     ·have : (shr S v p).2=0:=by unfold shr;rw[if_pos hz]
      omega
     ·have:=hb.2.2.2 hz;omega
    ·have : (shr S v p).2=0∨(shr S v p).2=1:=by omega
     rcases this with h|h<;>rw[h]<;>omega
   rw[sm_mul] at e4
   have e6 : sm (fun p=>shi S v p-(shr S v p).1) 8=sm (fun p=>shi S v p) 8-sm (fun p=>(shr S v p).1) 8:=by
    have:=sm_add (s:=fun p=>shi S v p-(shr S v p).1) (t:=fun p=>(shr S v p).1) (n:=8)
    have e7 : sm (fun p=>shi S v p-(shr S v p).1+(shr S v p).1) 8=sm (fun p=>shi S v p) 8:=sm_cong fun p _=>by omega
    rw[e7] at this
    omega
   rw[e6,Int.sub_mul] at e4
   have : S*sm v 8≤sm (fun p=>shi S v p) 8*sm v 8:=by rw[Int.mul_comm S];omega
   exact Int.le_of_mul_le_mul_right this h0
 ·have hz : ∀ p,p<8→v p=0:=fun p hp=>by
   have:=sm_ge hv hp
   have:=(hv p hp).1
   omega
  refine⟨?_,fun h=>absurd h h0⟩
  have : sm (fun p=>(shr S v p).1) 8=sm (fun _=>0) 8:=sm_cong fun p hp=>by unfold shr;rw[if_pos (hz p hp)]
  rw[this,sm_0];exact hS.1
end Go.Xe.TVX
/- What the functions of the layer seat come to: SeatQuota. Conditions: none. -/
-- MOD TV
namespace Go.Xe.TVX
open Go Go.Xe Go.Proofs
open Nat renaming reduceLeDiff → qA, reduceSub → qB, reduceAdd → qC, reduceEqDiff → qD, reduceLT → qE
open Int renaming reduceNegSucc → qF, reduceEq → qG
open Go.Xe.V renaming seq → sA, block → sB, scope → sC, skip → sD, close → sE
open Go.Xe renaming pth → P
open Go.Xe.Sea
set_option maxRecDepth 100000
set_option maxHeartbeats 3200000
set_option linter.unusedSimpArgs false
theorem sm_ub {s : Nat→Int} {b : Int} : ∀ {n : Nat},(∀ p,p<n→0≤s p∧s p≤b)→0≤sm s n∧sm s n≤b*n
 | 0,_=>by simp[sm]
 | n+1,h=>by
  have h1:=sm_ub (s:=s) (b:=b) (n:=n) (fun p hp=>h p (by omega))
  have h2:=h n (by omega)
  simp only[sm]
  have e : b*((n+1 : Nat) : Int)=b*n+b:=by
   have : ((n+1 : Nat) : Int)=(n : Int)+1:=by omega
   rw[this,Int.mul_add];omega
  rw[e];omega
end Go.Xe.TVX
/- What the functions of the layer seat come to: whether seats are a result. Conditions: none. -/
-- MOD TV
namespace Go.Xe.TVX
open Go Go.Xe Go.Proofs
open Nat renaming reduceLeDiff → qA, reduceSub → qB, reduceAdd → qC, reduceEqDiff → qD, reduceLT → qE
open Int renaming reduceNegSucc → qF, reduceEq → qG
open Go.Xe.V renaming seq → sA, block → sB, scope → sC, skip → sD, close → sE
open Go.Xe renaming pth → P
open Go.Xe.Sea
set_option maxRecDepth 100000
set_option maxHeartbeats 3200000
set_option linter.unusedSimpArgs false
def due (S : Int) (v : Nat→Int) : Int:=if sm v 8=0 then 0 else S
def gal (S : Int) (v s : Nat→Int) : Prop:=(∀ p,p<8→¬ (0<s p∧v p=0))∧sm s 8=due S v
instance (v s : Nat→Int) : Decidable (∀ p,p<8→¬ (0<s p∧v p=0)):=Nat.decidableBallLT 8 fun p _=>¬ (0<s p∧v p=0)
instance (S : Int) (v s : Nat→Int) : Decidable (gal S v s):=by unfold gal;infer_instance
def fu (m S : Int) (v s : Nat→Int) : Nat→Q2
 | 0=>(0,1)
 | k+1=>if qlt (fu m S v s k) (lw (clq m S v (pix v k) (s (pix v k)))) then lw (clq m S v (pix v k) (s (pix v k))) else fu m S v s k
def la (m S : Int) (v s : Nat→Int) : Nat→Q2
 | 0=>(100000000,0)
 | k+1=>if 0<s (pix v k) then (if qlt (la m S v s k) (lw (clq m S v (pix v k) (s (pix v k)-1))) then la m S v s k else lw (clq m S v (pix v k) (s (pix v k)-1))) else la m S v s k
def jr (m S : Int) (v s : Nat→Int) : Prop:=if gal S v s∧¬ due S v=0 then ¬ qlt (la m S v s (adl v 8).length) (fu m S v s (adl v 8).length) else gal S v s
def jo (m S : Int) (v s : Nat→Int) : Prop:=if gal S v s∧¬ due S v=0 then qlt (fu m S v s (adl v 8).length) (la m S v s (adl v 8).length) else gal S v s
instance (m S : Int) (v s : Nat→Int) : Decidable (jr m S v s):=by unfold jr;infer_instance
instance (m S : Int) (v s : Nat→Int) : Decidable (jo m S v s):=by unfold jo;infer_instance
end Go.Xe.TVX
/- What the functions of the layer seat come to: ProveSeats, and SeatAll. Conditions: none. -/
-- MOD TV
namespace Go.Xe.TVX
open Go Go.Xe Go.Proofs
open Nat renaming reduceLeDiff → qA, reduceSub → qB, reduceAdd → qC, reduceEqDiff → qD, reduceLT → qE
open Int renaming reduceNegSucc → qF, reduceEq → qG
open Go.Xe.V renaming seq → sA, block → sB, scope → sC, skip → sD, close → sE
open Go.Xe renaming pth → P
open Go.Xe.Sea
set_option maxRecDepth 100000
set_option maxHeartbeats 3200000
set_option linter.unusedSimpArgs false
def PRV (m S L : Int) (l st : List Int) : Prop:=flt m S L l=0∧st.length=l.length∧(∀ x∈st,0≤x∧x≤S)∧jr m S (vl L l) (gl0 st)
instance (m S L : Int) (l st : List Int) : Decidable (PRV m S L l st):=by unfold PRV;infer_instance
end Go.Xe.TVX
/- What the functions of the layer seat come to: SeatAll. Conditions: none. -/
-- MOD TV
namespace Go.Xe.TVX
open Go Go.Xe Go.Proofs
open Nat renaming reduceLeDiff → qA, reduceSub → qB, reduceAdd → qC, reduceEqDiff → qD, reduceLT → qE
open Int renaming reduceNegSucc → qF, reduceEq → qG
open Go.Xe.V renaming seq → sA, block → sB, scope → sC, skip → sD, close → sE
open Go.Xe renaming pth → P
open Go.Xe.Sea
set_option maxRecDepth 100000
set_option maxHeartbeats 3200000
set_option linter.unusedSimpArgs false
end Go.Xe.TVX
