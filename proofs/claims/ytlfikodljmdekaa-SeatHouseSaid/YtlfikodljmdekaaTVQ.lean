/- What the functions of the layer seat come to: SeatHouse. Conditions: none. -/
import Derived.Test.YtlfikodljmdekaaTVN
-- MOD TV
namespace Go.Xe.TVX
open Go Go.Xe Go.Proofs
open Nat renaming reduceLeDiff → qA, reduceSub → qB, reduceAdd → qC, reduceEqDiff → qD, reduceLT → qE
open Int renaming reduceNegSucc → qF, reduceEq → qG
open Go.Xe.V renaming seq → sA, block → sB, scope → sC, skip → sD, close → sE
open Go.Xe renaming pth → P
open Go.Xe.Sea
set_option maxRecDepth 100000
set_option maxHeartbeats 3200000
set_option linter.unusedSimpArgs false
noncomputable def d32 : FCode:=(.seq (.run (.go (.box 28 (tm 0)) (P 2)::
.go (.move (.con (.int .i64 (.ofNat 0)))) (P 4)::
.go (.move (.con (.int .i64 (.ofNat 0)))) (P 5)::
[])) (.seq (.seq (.run (.go (.loadN 3 (tm 2)) (P 10)::
.go (.move (tm 1)) (P 11)::
.go (.call (.con (.func (.func 54) ⟨[]⟩ ⟨[]⟩)) [(tm 10),(tm 11)]) (P 12)::
.go (.move (tm 12)) (P 6)::
[])) (.seq (.run (.go (.move (tm 6)) (P 13)::
.go (.bin .neq 26 (tm 13) (.con (.int .i64 (.ofNat 0)))) (P 14)::
[])) (.cond (tm 14) (.seq (.run (.go (.move (tm 6)) (P 15)::
.go (.move (.con (.int .i64 (.ofNat 0)))) (P 4)::
.go (.move (tm 15)) (P 5)::
[])) .ret) .skip))) (.seq (.run (.go (.loadN 3 (tm 2)) (P 17)::
.go (.move (tm 1)) (P 18)::
.go (.call (.con (.func (.func 55) ⟨[]⟩ ⟨[]⟩)) [(tm 17),(tm 18)]) (P 19)::
.go (.call (.con (.func (.func 63) ⟨[]⟩ ⟨[]⟩)) [tm 19]) (P 20)::
.go (.move (tm 20)) (P 16)::
.go (.extract (tm 16) 0) (P 21)::
.go (.extract (tm 16) 1) (P 22)::
.go (.extract (tm 16) 2) (P 23)::
.go (.alloc 78 [(.int .i64 (.ofNat 0)),(.int .i64 (.ofNat 0)),(.int .i64 (.ofNat 0)),(.int .i64 (.ofNat 0)),(.int .i64 (.ofNat 0)),(.int .i64 (.ofNat 0)),(.int .i64 (.ofNat 0)),(.int .i64 (.ofNat 0))]) (P 7)::
.go (.alloc 78 [(.int .i64 (.ofNat 0)),(.int .i64 (.ofNat 0)),(.int .i64 (.ofNat 0)),(.int .i64 (.ofNat 0)),(.int .i64 (.ofNat 0)),(.int .i64 (.ofNat 0)),(.int .i64 (.ofNat 0)),(.int .i64 (.ofNat 0))]) (P 8)::
.un (.store 8 (tm 7) (tm 21))::
.un (.store 8 (tm 8) (tm 22))::
.go (.move (tm 23)) (P 9)::
[])) (.seq (.seq (.run (.go (.move (tm 9)) (P 24)::
.go (.bin .neq 26 (tm 24) (.con (.int .i64 (.ofNat 0)))) (P 25)::
[])) (.cond (tm 25) (.seq (.run (.go (.move (tm 9)) (P 26)::
.go (.move (.con (.int .i64 (.ofNat 0)))) (P 4)::
.go (.move (tm 26)) (P 5)::
[])) .ret) .skip)) (.seq (.run (.go (.loadN 8 (tm 8)) (P 27)::
.go (.loadN 8 (tm 7)) (P 28)::
.go (.call (.con (.func (.func 64) ⟨[]⟩ ⟨[]⟩)) [(tm 27),(tm 28)]) (P 29)::
.go (.extract (tm 29) 0) (P 30)::
.go (.extract (tm 29) 1) (P 31)::
.go (.move (tm 30)) (P 4)::
.go (.move (tm 31)) (P 5)::
[])) .ret)))))
theorem de32 : @compF Try.prog (Gl.none Try.prog) Try.f32 2=.mk d32 (mkTT 32) [(P 0),(P 1)] [.tmp (P 4),.tmp (P 5)]:=by kernel_rfl
theorem dg32 : Try.prog.funcs[32]?=some Try.f32:=Try.func32
theorem do32 : okF Try.prog Try.f32=true:=by kernel_rfl
noncomputable def d31 : FCode:=(.seq (.run (.go (.box 28 (tm 0)) (P 2)::
.go (.move (.con (.int .i64 (.ofNat 0)))) (P 4)::
.go (.move (.con (.int .i64 (.ofNat 0)))) (P 5)::
[])) (.seq (.run (.go (.loadN 3 (tm 2)) (P 9)::
.go (.move (tm 1)) (P 10)::
.go (.call (.con (.func (.func 54) ⟨[]⟩ ⟨[]⟩)) [(tm 9),(tm 10)]) (P 11)::
.go (.move (tm 11)) (P 6)::
[])) (.seq (.block 0 (.seq (.run (.go (.move (tm 6)) (P 13)::
.go (.bin .neq 26 (tm 13) (.con (.int .i64 (.ofNat 0)))) (P 14)::
.go (.move (tm 14)) (P 12)::
[])) (.cond (tm 12) (.seq (.run (.go (.move (tm 6)) (P 15)::
.go (.move (.con (.int .i64 (.ofNat 0)))) (P 4)::
.go (.move (tm 15)) (P 5)::
[])) .ret) (.seq (.run (.go (.fieldAddr 0 (tm 2)) (P 17)::
.go (.load1 (tm 17)) (P 18)::
.go (.bin .eql 5 (tm 18) (.con (.int .u8 (.ofNat 5)))) (P 19)::
.go (.move (tm 19)) (P 16)::
[])) (.cond (tm 16) (.seq (.run (.go (.move (.con (.int .i64 (.ofNat 0)))) (P 4)::
.go (.move (.con (.int .i64 (.ofNat 8)))) (P 5)::
[])) .ret) .skip))))) (.seq (.run (.go (.loadN 3 (tm 2)) (P 21)::
.go (.move (tm 1)) (P 22)::
.go (.call (.con (.func (.func 55) ⟨[]⟩ ⟨[]⟩)) [(tm 21),(tm 22)]) (P 23)::
.go (.call (.con (.func (.func 63) ⟨[]⟩ ⟨[]⟩)) [tm 23]) (P 24)::
.go (.move (tm 24)) (P 20)::
.go (.extract (tm 20) 0) (P 25)::
.go (.extract (tm 20) 1) (P 26)::
.go (.extract (tm 20) 2) (P 27)::
.go (.alloc 78 [(.int .i64 (.ofNat 0)),(.int .i64 (.ofNat 0)),(.int .i64 (.ofNat 0)),(.int .i64 (.ofNat 0)),(.int .i64 (.ofNat 0)),(.int .i64 (.ofNat 0)),(.int .i64 (.ofNat 0)),(.int .i64 (.ofNat 0))]) (P 7)::
.go (.alloc 78 [(.int .i64 (.ofNat 0)),(.int .i64 (.ofNat 0)),(.int .i64 (.ofNat 0)),(.int .i64 (.ofNat 0)),(.int .i64 (.ofNat 0)),(.int .i64 (.ofNat 0)),(.int .i64 (.ofNat 0)),(.int .i64 (.ofNat 0))]) (P 8)::
.un (.store 8 (tm 7) (tm 25))::
.un (.store 8 (tm 8) (tm 26))::
.go (.move (tm 27)) (P 6)::
[])) (.seq (.seq (.run (.go (.move (tm 6)) (P 28)::
.go (.bin .neq 26 (tm 28) (.con (.int .i64 (.ofNat 0)))) (P 29)::
[])) (.cond (tm 29) (.seq (.run (.go (.move (tm 6)) (P 30)::
.go (.move (.con (.int .i64 (.ofNat 0)))) (P 4)::
.go (.move (tm 30)) (P 5)::
[])) .ret) .skip)) (.seq (.run (.go (.loadN 8 (tm 7)) (P 31)::
.go (.loadN 8 (tm 8)) (P 32)::
.go (.call (.con (.func (.func 64) ⟨[]⟩ ⟨[]⟩)) [(tm 31),(tm 32)]) (P 33)::
.go (.extract (tm 33) 0) (P 34)::
.go (.extract (tm 33) 1) (P 35)::
.go (.move (tm 34)) (P 4)::
.go (.move (tm 35)) (P 5)::
[])) .ret))))))
theorem de31 : @compF Try.prog (Gl.none Try.prog) Try.f31 2=.mk d31 (mkTT 36) [(P 0),(P 1)] [.tmp (P 4),.tmp (P 5)]:=by kernel_rfl
theorem dg31 : Try.prog.funcs[31]?=some Try.f31:=Try.func31
theorem do31 : okF Try.prog Try.f31=true:=by kernel_rfl
def LST (m S L : Int) (l : List Int) (p e : Int) : Prop:=(flt m S L l≠0∧p=0∧e=flt m S L l)∨(flt m S L l=0∧¬ (sure m S (vl L l)∧sure m (S+1) (vl L l))∧p=0∧e=10)∨(flt m S L l=0∧sure m S (vl L l)∧sure m (S+1) (vl L l)∧FB (otc m (S+1) (vl L l)).1 (otc m S (vl L l)).1 p e)
theorem f32_ok {H : Heap} {m S L : Int} {x : Value} {l : List Int} (h : LS H x l) : F Try.prog 32 ⟨[.agg ⟨A3 m S L⟩,x]⟩ H (fun w X=>Grow H X∧∃ p e,w=.tuple ⟨[I p,I e]⟩∧LST m S L l p e):=by
 obtain⟨px,nx',cx,rfl⟩:=h.s.isS
 refine F.entryL rfl dg32 do32 de32 rfl (by kernel_rfl) ?_
 simp only[sets]
 refine V.re [(0,.agg ⟨A3 m S L⟩),(1,.slice px nx' cx)] (N:=32) zE zY ?_
 intro t hF hA
 simp only[Kn,and_true] at hA
 refine zS ?_
 refine V.l0 ?_
 refine V.heap (fun X=>Grow H X∧Bx X H.next (A3 m S L) 28) ⟨?_,?_⟩ ?_
 ·exact zW
 ·exact zB
 rintro H1 ⟨g1,b1⟩
 refine zS ?_
 refine V.run ?_
 have zf:=b1.2
 refine VI.sz 2 ?_
 simp only[ds]
 refine VI.callA rfl (f54_ok (m:=m) (S:=S) (L:=L) (h.grow g1)) zA (fun H2 g2=>?_)
 have b2:=b1.grow g2
 have g12:=g1.trans g2
 refine VI.l0 ?_
 refine zS ?_
 refine V.l0 ?_
 refine zS ?_
 refine V.condP zP (fun he=>?_) (fun he=>?_)
 ·refine zS ?_
  refine V.l0 ?_
  refine zS ?_
  refine V.ret (V.rets rfl (Lv.retF (by simp +contextual (disch:=first|omega|simp only[nx];omega) only[D1,cells_alloc_at,cells_alloc_ne,cells_set_at,cells_set_ne,yres,yres1,yresL,qA,qB,qC,D5,hF,hA,↓reduceIte,qD,qE];rfl) ?_))
  exact⟨g12,_,_,rfl,.inl ⟨he,rfl,rfl⟩⟩
 have he0 : flt m S L l=0:=Decidable.not_not.1 he
 obtain⟨hr,hl8,hb⟩:=flt_0.1 he0
 have hm : 1≤m∧m≤5:=⟨hr.1,hr.2.1⟩
 have hvk:=vl_ok (L:=L) hb
 have hv8:=vl_8 (L:=L) hl8
 refine zS ?_
 refine V.run ?_
 have zf:=b2.2
 refine VI.sz 2 ?_
 simp only[ds]
 refine VI.callA rfl (f55_ok (m:=m) (S:=S) (L:=L) (h.grow g12) hl8 hb hm) zA (fun H3 g3=>?_)
 refine VI.callR zA (f63_ok (S:=S) (L:=L) (c:=gl0 l) hm hvk ⟨hr.2.2.1,hr.2.2.2.1⟩ hv8) zA (fun w4 H4 ⟨g4,a,b,e,hw4,hone⟩=>?_)
 subst hw4
 have g14:=(g12.trans g3).trans g4
 have n4:=g14.1
 have n8a:=n8_set0 a (fun _=>0)
 have n8b:=n8_set0 b (fun _=>0)
 have zf:=And.intro @n8_take<|And.intro @n8_len<|And.intro @n8_ok<|And.intro @n8a<|And.intro @n8b<|@n8_0
 refine VI.lz ?_
 refine V.heap (fun X=>Grow H X∧Bx X H4.next (n8 a) 78∧Bx X (H4.next+1) (n8 b) 78) ⟨?_,?_,?_⟩ ?_
 ·exact zW
 ·exact (Bx.put (by simp only[Heap.next_alloc];omega) _ _).set (by omega) _
 ·exact Bx.put (by simp only[Heap.next_alloc,Heap.next_set];omega) _ _
 rintro H5 ⟨g5,a5,b5⟩
 refine zS ?_
 refine V.l0 ?_
 refine zS ?_
 rcases hone with⟨rfl,ht⟩|⟨rfl,h1,h2,ea,eb⟩
 ·refine V.condP zP (fun hc0=>?_) (fun hc0=>?_)
  ·refine zS ?_
   refine V.l0 ?_
   refine zS ?_
   refine V.ret (V.rets rfl (Lv.retF (by simp +contextual (disch:=first|omega|simp only[nx];omega) only[D1,cells_alloc_at,cells_alloc_ne,cells_set_at,cells_set_ne,yres,yres1,yresL,qA,qB,qC,D5,hF,hA,↓reduceIte,qD,qE];rfl) ?_))
   exact⟨g5,_,_,rfl,.inr (.inl ⟨he0,ht,rfl,rfl⟩)⟩
  ·exact absurd (by decide) hc0
 ·refine V.condP zP (fun hc0=>?_) (fun hc0=>?_)
  ·exact absurd hc0 (by decide)
  refine zS ?_
  refine V.run ?_
  have zf:=And.intro a5.2<|And.intro b5.2<|And.intro @n8_take<|@n8_len
  refine VI.sz 2 ?_
  simp only[ds]
  refine VI.callR zA (f64_ok (a:=b) (b:=a)) zA (fun w6 H6 ⟨g6,p,e,hw6,hfb⟩=>?_)
  subst hw6
  refine VI.l0 ?_
  refine zS ?_
  refine V.ret (V.rets rfl (Lv.retF (by simp +contextual (disch:=first|omega|simp only[nx];omega) only[D1,cells_alloc_at,cells_alloc_ne,cells_set_at,cells_set_ne,yres,yres1,yresL,qA,qB,qC,D5,hF,hA,↓reduceIte,qD,qE];rfl) ?_))
  rw[ea,eb] at hfb
  exact⟨g5.trans g6,_,_,rfl,.inr (.inr ⟨he0,h1,h2,hfb⟩)⟩
def NXT (m S L : Int) (l : List Int) (p e : Int) : Prop:=(flt m S L l≠0∧p=0∧e=flt m S L l)∨(flt m S L l=0∧m=5∧p=0∧e=8)∨(flt m S L l=0∧m≠5∧¬ (sure m S (vl L l)∧sure m (S+1) (vl L l))∧p=0∧e=10)∨(flt m S L l=0∧m≠5∧sure m S (vl L l)∧sure m (S+1) (vl L l)∧FB (otc m S (vl L l)).1 (otc m (S+1) (vl L l)).1 p e)
theorem f31_ok {H : Heap} {m S L : Int} {x : Value} {l : List Int} (h : LS H x l) : F Try.prog 31 ⟨[.agg ⟨A3 m S L⟩,x]⟩ H (fun w X=>Grow H X∧∃ p e,w=.tuple ⟨[I p,I e]⟩∧NXT m S L l p e):=by
 obtain⟨px,nx',cx,rfl⟩:=h.s.isS
 refine F.entryL rfl dg31 do31 de31 rfl (by kernel_rfl) ?_
 simp only[sets]
 refine V.re [(0,.agg ⟨A3 m S L⟩),(1,.slice px nx' cx)] (N:=36) zE zY ?_
 intro t hF hA
 simp only[Kn,and_true] at hA
 refine zS ?_
 refine V.l0 ?_
 refine V.heap (fun X=>Grow H X∧Bx X H.next (A3 m S L) 28) ⟨?_,?_⟩ ?_
 ·exact zW
 ·exact zB
 rintro H1 ⟨g1,b1⟩
 refine zS ?_
 refine V.run ?_
 have zf:=b1.2
 refine VI.sz 2 ?_
 simp only[ds]
 refine VI.callA rfl (f54_ok (m:=m) (S:=S) (L:=L) (h.grow g1)) zA (fun H2 g2=>?_)
 have b2:=b1.grow g2
 have g12:=g1.trans g2
 refine VI.l0 ?_
 refine zS ?_
 refine V.l0 ?_
 refine zS ?_
 refine V.condP zP (fun he=>?_) (fun he=>?_)
 ·refine zS ?_
  refine V.l0 ?_
  refine zS ?_
  refine V.ret (V.rets rfl (Lv.retF (by simp +contextual (disch:=first|omega|simp only[nx];omega) only[D1,cells_alloc_at,cells_alloc_ne,cells_set_at,cells_set_ne,yres,yres1,yresL,qA,qB,qC,D5,hF,hA,↓reduceIte,qD,qE];rfl) ?_))
  exact⟨g12,_,_,rfl,.inl ⟨he,rfl,rfl⟩⟩
 have he0 : flt m S L l=0:=Decidable.not_not.1 he
 obtain⟨hr,hl8,hb⟩:=flt_0.1 he0
 have hm : 1≤m∧m≤5:=⟨hr.1,hr.2.1⟩
 have hvk:=vl_ok (L:=L) hb
 have hv8:=vl_8 (L:=L) hl8
 refine zS ?_
 have zf:=b2.2
 refine V.lz ?_
 refine zS ?_
 refine V.condP zP (fun h5=>?_) (fun h5=>?_)
 ·refine zS ?_
  refine V.l0 ?_
  refine zS ?_
  refine V.ret (V.rets rfl (Lv.retF (by simp +contextual (disch:=first|omega|simp only[nx];omega) only[D1,cells_alloc_at,cells_alloc_ne,cells_set_at,cells_set_ne,yres,yres1,yresL,qA,qB,qC,D5,hF,hA,↓reduceIte,qD,qE];rfl) ?_))
  exact⟨g12,_,_,rfl,.inr (.inl ⟨he0,h5,rfl,rfl⟩)⟩
 refine zS ?_
 refine V.run ?_
 have zf:=b2.2
 refine VI.sz 2 ?_
 simp only[ds]
 refine VI.callA rfl (f55_ok (m:=m) (S:=S) (L:=L) (h.grow g12) hl8 hb hm) zA (fun H3 g3=>?_)
 refine VI.callR zA (f63_ok (S:=S) (L:=L) (c:=gl0 l) hm hvk ⟨hr.2.2.1,hr.2.2.2.1⟩ hv8) zA (fun w4 H4 ⟨g4,a,b,e,hw4,hone⟩=>?_)
 subst hw4
 have g14:=(g12.trans g3).trans g4
 have n4:=g14.1
 have n8a:=n8_set0 a (fun _=>0)
 have n8b:=n8_set0 b (fun _=>0)
 have zf:=And.intro @n8_take<|And.intro @n8_len<|And.intro @n8_ok<|And.intro @n8a<|And.intro @n8b<|@n8_0
 refine VI.lz ?_
 refine V.heap (fun X=>Grow H X∧Bx X H4.next (n8 a) 78∧Bx X (H4.next+1) (n8 b) 78) ⟨?_,?_,?_⟩ ?_
 ·exact zW
 ·exact (Bx.put (by simp only[Heap.next_alloc];omega) _ _).set (by omega) _
 ·exact Bx.put (by simp only[Heap.next_alloc,Heap.next_set];omega) _ _
 rintro H5 ⟨g5,a5,b5⟩
 refine zS ?_
 refine V.l0 ?_
 refine zS ?_
 rcases hone with⟨rfl,ht⟩|⟨rfl,h1,h2,ea,eb⟩
 ·refine V.condP zP (fun hc0=>?_) (fun hc0=>?_)
  ·refine zS ?_
   refine V.l0 ?_
   refine zS ?_
   refine V.ret (V.rets rfl (Lv.retF (by simp +contextual (disch:=first|omega|simp only[nx];omega) only[D1,cells_alloc_at,cells_alloc_ne,cells_set_at,cells_set_ne,yres,yres1,yresL,qA,qB,qC,D5,hF,hA,↓reduceIte,qD,qE];rfl) ?_))
   exact⟨g5,_,_,rfl,.inr (.inr (.inl ⟨he0,h5,ht,rfl,rfl⟩))⟩
  ·exact absurd (by decide) hc0
 ·refine V.condP zP (fun hc0=>?_) (fun hc0=>?_)
  ·exact absurd hc0 (by decide)
  refine zS ?_
  refine V.run ?_
  have zf:=And.intro a5.2<|And.intro b5.2<|And.intro @n8_take<|@n8_len
  refine VI.sz 2 ?_
  simp only[ds]
  refine VI.callR zA (f64_ok (a:=a) (b:=b)) zA (fun w6 H6 ⟨g6,p,e,hw6,hfb⟩=>?_)
  subst hw6
  refine VI.l0 ?_
  refine zS ?_
  refine V.ret (V.rets rfl (Lv.retF (by simp +contextual (disch:=first|omega|simp only[nx];omega) only[D1,cells_alloc_at,cells_alloc_ne,cells_set_at,cells_set_ne,yres,yres1,yresL,qA,qB,qC,D5,hF,hA,↓reduceIte,qD,qE];rfl) ?_))
  rw[ea,eb] at hfb
  exact⟨g5.trans g6,_,_,rfl,.inr (.inr (.inr ⟨he0,h5,h1,h2,hfb⟩))⟩
end Go.Xe.TVX
