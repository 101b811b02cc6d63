/- What the functions of the layer seat come to: SeatClaims. Conditions: none. -/
import Derived.Test.YtlfikodljmdekaaTUH
import Derived.Test.YtlfikodljmdekaaZm
import Derived.WideShapes
import Derived.ChangeSame
import Derived.Below
-- MOD TV
namespace Go.Xe.TVX
open Go Go.Xe Go.Proofs
open Nat renaming reduceLeDiff → qA, reduceSub → qB, reduceAdd → qC, reduceEqDiff → qD, reduceLT → qE
open Int renaming reduceNegSucc → qF, reduceEq → qG
open Go.Xe.V renaming seq → sA, block → sB, scope → sC, skip → sD, close → sE
open Go.Xe renaming pth → P
open Go.Xe.Sea
set_option maxRecDepth 100000
set_option maxHeartbeats 3200000
set_option linter.unusedSimpArgs false
noncomputable def d11 : FCode:=(.seq (.run (.go (.box 23 (tm 0)) (P 3)::
.go (.move (.con (.bool false))) (P 6)::
[])) (.seq (.seq (.run (.go (.loadN 3 (tm 3)) (P 10)::
.go (.move (tm 1)) (P 11)::
.go (.call (.con (.func (.func 48) ⟨[]⟩ ⟨[]⟩)) [(tm 10),(tm 11)]) (P 12)::
.go (.un .not (tm 12)) (P 13)::
.go (.move (tm 13)) (P 14)::
.gd (P 14) false (.fieldAddr 0 (tm 3)) (P 15)::
.gd (P 14) false (.load1 (tm 15)) (P 16)::
.gd (P 14) false (.bin .eql 5 (tm 16) (.con (.int .u8 (.ofNat 5)))) (P 17)::
.go (.pick (tm 14) (.con (.bool true)) (tm 17)) (P 18)::
.go (.move (tm 18)) (P 19)::
.gd (P 19) false (.move (tm 2)) (P 20)::
.gd (P 19) false (.len 0 (tm 20)) (P 21)::
.gd (P 19) false (.bin .gtr 3 (tm 21) (.con (.int .i64 (.ofNat 11)))) (P 22)::
.go (.pick (tm 19) (.con (.bool true)) (tm 22)) (P 23)::
[])) (.cond (tm 23) (.seq (.run (.go (.call (.con (.func (.func 20) ⟨[]⟩ ⟨[]⟩)) []) (P 24)::
.go (.move (tm 24)) (P 6)::
[])) .ret) .skip)) (.seq (.run (.go (.loadN 3 (tm 3)) (P 26)::
.go (.call (.con (.func (.func 22) ⟨[]⟩ ⟨[]⟩)) [tm 26]) (P 27)::
.go (.move (tm 1)) (P 28)::
.go (.call (.con (.func (.func 24) ⟨[]⟩ ⟨[]⟩)) [tm 28]) (P 29)::
.go (.call (.con (.func (.func 23) ⟨[]⟩ ⟨[]⟩)) [(tm 27),(tm 29)]) (P 30)::
.go (.move (tm 30)) (P 25)::
.go (.extract (tm 25) 0) (P 31)::
.go (.extract (tm 25) 1) (P 32)::
.go (.move (tm 31)) (P 7)::
.go (.move (tm 32)) (P 8)::
[])) (.seq (.seq (.run (.go (.move (tm 8)) (P 33)::
.go (.bin .eql 26 (tm 33) (.con (.int .i64 (.ofNat 0)))) (P 34)::
.go (.move (tm 34)) (P 35)::
.gd (P 35) true (.loadN 3 (tm 3)) (P 36)::
.gd (P 35) true (.move (tm 1)) (P 37)::
.gd (P 35) true (.move (tm 7)) (P 38)::
.gd (P 35) true (.call (.con (.func (.func 50) ⟨[]⟩ ⟨[]⟩)) [(tm 36),(tm 37),(tm 38)]) (P 39)::
.gd (P 35) true (.un .not (tm 39)) (P 40)::
.go (.pick (tm 35) (tm 40) (.con (.bool false))) (P 41)::
.go (.move (tm 41)) (P 42)::
.gd (P 42) false (.move (tm 8)) (P 43)::
.gd (P 42) false (.bin .neq 26 (tm 43) (.con (.int .i64 (.ofNat 0)))) (P 44)::
.gd (P 42) false (.move (tm 44)) (P 45)::
.gd (P 45) true (.move (tm 8)) (P 46)::
.gd (P 45) true (.bin .neq 26 (tm 46) (.con (.int .i64 (.ofNat 10)))) (P 47)::
.gd (P 42) false (.pick (tm 45) (tm 47) (.con (.bool false))) (P 48)::
.go (.pick (tm 42) (.con (.bool true)) (tm 48)) (P 49)::
[])) (.cond (tm 49) (.seq (.run (.go (.move (.con (.bool false))) (P 6)::
[])) .ret) .skip)) (.seq (.run (.go (.loadN 3 (tm 3)) (P 50)::
.go (.call (.con (.func (.func 22) ⟨[]⟩ ⟨[]⟩)) [tm 50]) (P 51)::
.go (.move (tm 1)) (P 52)::
.go (.call (.con (.func (.func 24) ⟨[]⟩ ⟨[]⟩)) [tm 52]) (P 53)::
.go (.move (tm 2)) (P 54)::
.go (.call (.con (.func (.func 24) ⟨[]⟩ ⟨[]⟩)) [tm 54]) (P 55)::
.go (.call (.con (.func (.func 29) ⟨[]⟩ ⟨[]⟩)) [(tm 51),(tm 53),(tm 55)]) (P 56)::
.go (.move (tm 56)) (P 9)::
[])) (.seq (.run (.go (.move (tm 9)) (P 57)::
.go (.loadN 3 (tm 3)) (P 58)::
.go (.move (tm 1)) (P 59)::
.go (.move (tm 2)) (P 60)::
.go (.call (.con (.func (.func 50) ⟨[]⟩ ⟨[]⟩)) [(tm 58),(tm 59),(tm 60)]) (P 61)::
.go (.bin .eql 4 (tm 57) (tm 61)) (P 62)::
.go (.move (tm 62)) (P 63)::
.gd (P 63) true (.move (tm 9)) (P 64)::
.gd (P 63) true (.un .not (tm 64)) (P 65)::
.gd (P 63) true (.move (tm 65)) (P 66)::
.gd (P 66) false (.move (tm 8)) (P 67)::
.gd (P 66) false (.bin .eql 26 (tm 67) (.con (.int .i64 (.ofNat 10)))) (P 68)::
.gd (P 63) true (.pick (tm 66) (.con (.bool true)) (tm 68)) (P 69)::
.gd (P 63) true (.move (tm 69)) (P 70)::
.gd (P 70) false (.move (tm 7)) (P 71)::
.gd (P 70) false (.move (tm 2)) (P 72)::
.gd (P 70) false (.call (.con (.func (.func 28) ⟨[]⟩ ⟨[]⟩)) [(tm 71),(tm 72)]) (P 73)::
.gd (P 63) true (.pick (tm 70) (.con (.bool true)) (tm 73)) (P 74)::
.go (.pick (tm 63) (tm 74) (.con (.bool false))) (P 75)::
.go (.move (tm 75)) (P 76)::
.gd (P 76) true (.call (.con (.func (.func 20) ⟨[]⟩ ⟨[]⟩)) []) (P 77)::
.go (.pick (tm 76) (tm 77) (.con (.bool false))) (P 78)::
.go (.move (tm 78)) (P 6)::
[])) .ret))))))
theorem de11 : @compF Try.prog (Gl.none Try.prog) Try.f11 3=.mk d11 (mkTT 79) [(P 0),(P 1),(P 2)] [.tmp (P 6)]:=by kernel_rfl
theorem dg11 : Try.prog.funcs[11]?=some Try.f11:=Try.func11
theorem do11 : okF Try.prog Try.f11=true:=by kernel_rfl
theorem fl_gl0 (l : List Int) : fl l.length (gl0 l)=l:=by
 apply List.ext_getElem
 ·rw[fl_len]
 ·intro i h1 h2
  rw[fl_at,gl0_at h2]
theorem sl_gl0 {l : List Int} (h : l.length≤8) : sl l=sm (gl0 l) 8:=by
 have e:=sl_fl (gl0 l) l.length
 rw[fl_gl0] at e
 have:=sm_out (v:=gl0 l) (n:=l.length) (k:=8-l.length) (fun p hp=>gl0_out hp)
 rw[show l.length+(8-l.length)=8 by omega] at this
 rw[e,this]
theorem vl_pos {L : Int} {l : List Int} {p : Nat} : 0<vl L l p↔adm L (gl0 l p):=by
 unfold vl vts
 split
 ·rename_i h
  exact⟨fun _=>h,fun _=>by have:=h.1;omega⟩
 ·rename_i h
  exact⟨fun k=>by omega,fun k=>absurd k h⟩
theorem vl_eq {L : Int} {l : List Int} {p : Nat} (h : 0<vl L l p) : gl0 l p=vl L l p:=by
 have:=vl_pos.1 h
 unfold vl vts
 rw[if_pos this]
theorem clm_prv {m S L : Int} {l st : List Int} (h0 : flt m S L l=0) (hm4 : 1≤m∧m≤4) : CLM m S L l st↔PRV m S L l st:=by
 obtain⟨hr,hl8,hb⟩:=flt_0.1 h0
 have hv:=vl_ok (L:=L) hb
 have hS : 0≤S∧S≤61:=⟨hr.2.2.1,by have:=hr.2.2.2.1;omega⟩
 have hpl : ∀ p,0<vl L l p→p<l.length:=fun p hp=>by
  apply Decidable.by_contra
  intro k
  rw[vl_out (by omega)] at hp
  omega
 have hsb : (∀ x∈st,0≤x∧x≤S)→∀ p,0≤gl0 st p∧gl0 st p≤S:=fun hx p=>by
  by_cases hp : p<st.length
  ·rw[gl0_at hp]
   exact hx _ (List.getElem_mem hp)
  ·rw[gl0_out (by omega)];omega
 constructor
 ·rintro⟨hll,hc,hsum⟩
  have hx : ∀ x∈st,0≤x∧x≤S:=fun x hx=>by
   obtain⟨i,hi,rfl⟩:=List.mem_iff_getElem.1 hx
   have:=(hc i (by omega)).1
   rw[gl0_at hi] at this
   exact this
  have hs:=hsb hx
  have g1 : ∀ p,p<8→¬ (0<gl0 st p∧vl L l p=0):=by
   rintro p hp ⟨a,b⟩
   by_cases k : p<l.length
   ·exact (hc p k).2.1 ⟨fun ha=>by have:=vl_pos.2 ha;omega,a⟩
   ·rw[gl0_out (by omega)] at a;omega
  have hsl:=sl_gl0 (l:=st) (by omega)
  rw[hsl] at hsum
  refine⟨h0,hll,hx,(jr_iff hv hS (fun p _=>by have:=hs p;omega)).2 ⟨⟨g1,?_⟩,fun p q hp hvp hq hvq hsq=>?_⟩⟩
  ·unfold due
   have h8:=sm_bd hv
   split
   ·rename_i hz
    have : sm (gl0 st) 8=sm (fun _=>0) 8:=sm_cong fun p hp=>by
     have n1:=g1 p hp
     have n2:=(hs p).1
     have n3:=(hv p hp).1
     have n4 : ¬ 0<vl L l p:=fun k=>by have:=(sm_pos' hv).2 ⟨p,hp,k⟩;omega
     apply Decidable.by_contra
     intro k
     exact n1 ⟨by omega,by omega⟩
    rw[this,sm_0]
   ·rcases hsum with k|k
    ·exact k
    ·exact absurd k.1 (by omega)
  ·by_cases e : q=p
   ·subst e
    exact clq_le' hv hS hp hvp (by omega) (by omega)
   ·have:=(hc p (hpl p hvp)).2.2 (vl_pos.1 hvp) q (hpl q hvq) e hsq (vl_pos.1 hvq)
    rw[vl_eq hvq,vl_eq hvp,ofq_cmp (S:=S) hm4 hvq hvp (by omega) (hs p).1] at this
    exact this
 ·rintro⟨_,hll,hx,hj⟩
  have hs:=hsb hx
  obtain⟨⟨g1,g2⟩,g3⟩:=(jr_iff hv hS (fun p _=>by have:=hs p;omega)).1 hj
  refine⟨hll,fun p hp=>⟨hs p,fun k=>?_,fun ha o ho hop hso hao=>?_⟩,?_⟩
  ·refine g1 p (by omega) ⟨k.2,?_⟩
   have n1:=(hv p (by omega)).1
   have n2 : ¬ 0<vl L l p:=fun hh=>k.1 (vl_pos.1 hh)
   omega
  ·have hvp:=vl_pos.2 ha
   have hvo:=vl_pos.2 hao
   rw[vl_eq hvo,vl_eq hvp,ofq_cmp (S:=S) hm4 hvo hvp (by omega) (hs p).1]
   exact g3 p o (by omega) hvp (by omega) hvo hso
  ·have hsl:=sl_gl0 (l:=st) (by omega)
   rw[hsl,g2]
   unfold due
   split
   ·rename_i hz
    exact .inr ⟨by omega,rfl⟩
   ·exact .inl rfl
theorem res_low {m S : Int} {v s : Nat→Int} (h5 : m≠5) (hv : vok v) (hS : 0≤S∧S≤61) (hv8 : ∀ p,¬ p<8→v p=0) (hsu : sure m S v) (hs : ∀ p,p<8→0≤s p) (R : RES m S v s) : ∀ p,p<8→s p=(otc m S v).1 p:=by
 have F:=otc_fin (m:=m) hv hS hv8
 have R0:=otc_res hv hS hv8 hsu
 have str : ∀ p t,0<v p→0≤t→qlt (clq m S v p (t+1)) (clq m S v p t):=fun p t h ht=>clq_str h5 h ht
 have key : ∀ p q,p<8→q<8→s p<(otc m S v).1 p→(otc m S v).1 q<s q→False:=by
  intro p q hp hq k1 k2
  have s0:=hs p hp
  have n0:=F.1.nn q
  have vp : 0<v p:=Decidable.by_contra fun k=>by
   have:=F.1.adm p (fun hh=>k hh.2)
   omega
  have vq : 0<v q:=by
   have n1:=R.1.1 q hq
   have n2:=(hv q hq).1
   apply Decidable.by_contra
   intro k
   exact n1 ⟨by omega,by omega⟩
  have s1:=F.1.strict str p q ((otc m S v).1 p-1) hp vp hq vq (by omega) (by omega)
  have c1:=clq_ok (m:=m) hv hS hq vq (s:=s q-1) (by omega)
  have c2:=clq_ok (m:=m) hv hS hq vq n0
  have c3:=clq_ok (m:=m) hv hS hp vp (s:=(otc m S v).1 p-1) (by omega)
  have c4:=clq_ok (m:=m) hv hS hp vp s0
  have d1:=clq_le' (m:=m) hv hS hq vq (s:=(otc m S v).1 q) (t:=s q-1) n0 (by omega)
  have d2:=clq_le' (m:=m) hv hS hp vp (s:=s p) (t:=(otc m S v).1 p-1) s0 (by omega)
  exact R.2 p q hp vp hq vq (by omega) (qlt_le c1 c3 c4 (le_qlt c1 c2 c3 d1 s1) d2)
 have hsum : sm s 8=sm (otc m S v).1 8:=R.1.2.trans R0.1.2.symm
 intro p hp
 apply Decidable.by_contra
 intro k
 by_cases k1 : s p<(otc m S v).1 p
 ·obtain⟨q,hq,k2⟩:=sm_other hsum hp k1
  exact key p q hp hq k1 k2
 ·obtain⟨q,hq,k2⟩:=sm_other hsum.symm hp (show (otc m S v).1 p<s p by omega)
  exact key q p hq hp k2 (by omega)
theorem bin_bb {b : Bool} : xbinOp Try.prog .eql 4 (.bool b) (.bool b)=some (.bool true):=by
 cases b<;>simp[xbinOp,xbin,Try.underlying4]
theorem f50_t {H : Heap} {m S L : Int} {x y : Value} {l st : List Int} (h : LS H x l) (hst : LS H y st) (h0 : flt m S L l=0) (hm4 : 1≤m∧m≤4) (hP : PRV m S L l st) : Gives Try.prog 50 [.agg ⟨A3 m S L⟩,x,y] H (.bool true):=by
 have f:=f50_ok h hst h0 hm4
 rw[@decide_eq_true _ (Classical.propDecidable _) ((clm_prv h0 hm4).2 hP)] at f
 exact f
theorem f50_f {H : Heap} {m S L : Int} {x y : Value} {l st : List Int} (h : LS H x l) (hst : LS H y st) (h0 : flt m S L l=0) (hm4 : 1≤m∧m≤4) (hP : ¬ PRV m S L l st) : Gives Try.prog 50 [.agg ⟨A3 m S L⟩,x,y] H (.bool false):=by
 have f:=f50_ok h hst h0 hm4
 rw[@decide_eq_false _ (Classical.propDecidable _) (fun k=>hP ((clm_prv h0 hm4).1 k))] at f
 exact f
theorem f11_all {H : Heap} {m S L : Int} {x y : Value} {l st : List Int} (hx : Sl H x (l.map I)) (hy : Sl H y (st.map I)) : F Try.prog 11 ⟨[.agg ⟨A3 m S L⟩,x,y]⟩ H (fun w _=>w=.bool true):=by
 have h : LS H x l:=⟨hx⟩
 have hst : LS H y st:=⟨hy⟩
 have hl:=h.len
 have hsl:=hst.len
 obtain⟨px,nx',cx,rfl⟩:=h.s.isS
 obtain⟨py,ny',cy,rfl⟩:=hst.s.isS
 refine F.entryL rfl dg11 do11 de11 rfl (by kernel_rfl) ?_
 simp only[sets]
 refine V.re [(0,.agg ⟨A3 m S L⟩),(1,.slice px nx' cx),(2,.slice py ny' cy)] (N:=79) zE zY ?_
 intro t hF hA
 simp only[Kn,and_true] at hA
 refine zS ?_
 refine V.l0 ?_
 refine V.heap (fun X=>Grow H X∧Bx X H.next (A3 m S L) 23) ⟨?_,?_⟩ ?_
 ·exact zW
 ·exact zB
 rintro H1 ⟨g1,b1⟩
 refine zS ?_
 refine V.run ?_
 have zf:=b1.2
 refine VI.sz 2 ?_
 simp only[ds]
 refine VI.callA rfl (f48_ok (m:=m) (S:=S) (L:=L) (h.grow g1)) zA (fun H2 g2=>?_)
 have b2:=b1.grow g2
 have g12:=g1.trans g2
 by_cases h0 : flt m S L l=0
 rotate_left
 ·have h0' : (flt m S L l=0)=False:=eq_false h0
  refine VI.line' (by simp +contextual (disch:=first|omega|simp only[nx];omega) only[D4,qF,qG,qA,qB,qC,D5,hF,hA,↓reduceIte,qD,qE,h0',not_true_eq_false,not_false_eq_true];with_reducible rfl) ?_
  refine zS ?_
  refine V.condT zA ?_
  refine zS ?_
  refine V.run ?_
  refine VI.callA rfl (f20_ok _) zA (fun H3 g3=>?_)
  refine VI.l0 ?_
  refine zS ?_
  refine V.ret (V.rets rfl (Lv.retF (by simp +contextual (disch:=first|omega|simp only[nx];omega) only[D1,cells_alloc_at,cells_alloc_ne,cells_set_at,cells_set_ne,yres,yres1,yresL,qA,qB,qC,D5,hF,hA,↓reduceIte,qD,qE];rfl) ?_))
  rfl
 have h0' : (flt m S L l=0)=True:=eq_true h0
 by_cases h5 : m=5
 ·have h5' : (m=5)=True:=eq_true h5
  refine VI.line' (by simp +contextual (disch:=first|omega|simp only[nx];omega) only[D4,qF,qG,qA,qB,qC,D5,hF,hA,↓reduceIte,qD,qE,h0',h5',b2.2,not_true_eq_false,not_false_eq_true];with_reducible rfl) ?_
  refine zS ?_
  refine V.condT zA ?_
  refine zS ?_
  refine V.run ?_
  refine VI.callA rfl (f20_ok _) zA (fun H3 g3=>?_)
  refine VI.l0 ?_
  refine zS ?_
  refine V.ret (V.rets rfl (Lv.retF (by simp +contextual (disch:=first|omega|simp only[nx];omega) only[D1,cells_alloc_at,cells_alloc_ne,cells_set_at,cells_set_ne,yres,yres1,yresL,qA,qB,qC,D5,hF,hA,↓reduceIte,qD,qE];rfl) ?_))
  rfl
 have h5' : (m=5)=False:=eq_false h5
 refine VI.line' (by simp +contextual (disch:=first|omega|simp only[nx];omega) only[D4,qF,qG,qA,qB,qC,D5,hF,hA,↓reduceIte,qD,qE,h0',h5',b2.2,hsl,not_true_eq_false,not_false_eq_true];with_reducible rfl) ?_
 refine zS ?_
 refine V.condP zP (fun hbig=>?_) (fun hbig=>?_)
 ·refine zS ?_
  refine V.run ?_
  refine VI.callA rfl (f20_ok _) zA (fun H3 g3=>?_)
  refine VI.l0 ?_
  refine zS ?_
  refine V.ret (V.rets rfl (Lv.retF (by simp +contextual (disch:=first|omega|simp only[nx];omega) only[D1,cells_alloc_at,cells_alloc_ne,cells_set_at,cells_set_ne,yres,yres1,yresL,qA,qB,qC,D5,hF,hA,↓reduceIte,qD,qE];rfl) ?_))
  rfl
 obtain⟨hr,hl8,hb⟩:=flt_0.1 h0
 have hm4 : 1≤m∧m≤4:=⟨hr.1,by have:=hr.2.1;omega⟩
 have hvk:=vl_ok (L:=L) hb
 have hv8:=vl_8 (L:=L) hl8
 have hS : 0≤S∧S≤61:=⟨hr.2.2.1,by have:=hr.2.2.2.1;omega⟩
 refine zS ?_
 refine V.run ?_
 have zf:=b2.2
 refine VI.sz 1 ?_
 simp only[ds]
 refine VI.callA rfl (f22_ok m S L _) zA (fun H3 g3=>?_)
 refine VI.s0 1 ?_
 simp only[ds]
 refine VI.callR zA (f24_ok (h.grow (g12.trans g3)) (by omega)) zA (fun w4 H4 ⟨g4,o4⟩=>?_)
 refine VI.callR zA (f23_ok (m:=m) (S:=S) (L:=L) (ow_ls o4) hS) zA (fun w5 H5 ⟨g5,s5⟩=>?_)
 have g25:=(g3.trans g4).trans g5
 have b5:=b2.grow g25
 have gH5:=g12.trans g25
 obtain⟨y1,e1,rfl,k1⟩:=s5.ok h0
 refine VI.l0 ?_
 refine zS ?_
 rcases k1 with⟨_,rfl,rfl⟩|⟨hsu,rfl,q1⟩
 ·refine V.run ?_
  have zf:=b5.2
  refine VI.sz 6 ?_
  simp only[ds]
  refine VI.gdF zG ?_
  refine VI.l0 ?_
  refine zS ?_
  refine V.condF zA ?_
  refine zS ?_
  refine V.run ?_
  have zf:=b5.2
  refine VI.sz 1 ?_
  simp only[ds]
  refine VI.callA rfl (f22_ok m S L _) zA (fun H6 g6=>?_)
  refine VI.s0 1 ?_
  simp only[ds]
  refine VI.callR zA (f24_ok (h.grow (gH5.trans g6)) (by omega)) zA (fun w7 H7 ⟨g7,o7⟩=>?_)
  refine VI.s0 1 ?_
  simp only[ds]
  refine VI.callR zA (f24_ok (hst.grow ((gH5.trans g6).trans g7)) (by omega)) zA (fun w8 H8 ⟨g8,o8⟩=>?_)
  have gH8:=((gH5.trans g6).trans g7).trans g8
  have b8:=((b5.grow g6).grow g7).grow g8
  have f29':=f29_ok (m:=m) (S:=S) (L:=L) ((ow_ls o7).grow g8) (ow_ls o8)
  by_cases hP : PRV m S L l st
  ·rw[decide_eq_true hP] at f29'
   refine VI.callA rfl (f29') zA (fun H9 g9=>?_)
   have gH9:=gH8.trans g9
   have b9:=b8.grow g9
   have f50':=f50_t (h.grow gH9) (hst.grow gH9) h0 hm4 hP
   refine VI.l0 ?_
   refine zS ?_
   refine V.run ?_
   have zf:=b9.2
   refine VI.sz 4 ?_
   simp only[ds]
   refine VI.callA rfl (f50') zA (fun Ha ga=>?_)
   have zf:=@bin_bb
   refine VI.sz 9 ?_
   simp only[ds]
   have zf:=@bin_bb
   refine VI.sz 2 ?_
   simp only[ds]
   refine VI.gdF zG ?_
   refine VI.s0 3 ?_
   simp only[ds]
   refine VI.callAT zG rfl (f20_ok _) zA (fun Hb gb=>?_)
   refine VI.l0 ?_
   refine zS ?_
   refine V.ret (V.rets rfl (Lv.retF (by simp +contextual (disch:=first|omega|simp only[nx];omega) only[D1,cells_alloc_at,cells_alloc_ne,cells_set_at,cells_set_ne,yres,yres1,yresL,qA,qB,qC,D5,hF,hA,↓reduceIte,qD,qE];rfl) ?_))
   rfl
  ·rw[decide_eq_false hP] at f29'
   refine VI.callA rfl (f29') zA (fun H9 g9=>?_)
   have gH9:=gH8.trans g9
   have b9:=b8.grow g9
   have f50':=f50_f (h.grow gH9) (hst.grow gH9) h0 hm4 hP
   refine VI.l0 ?_
   refine zS ?_
   refine V.run ?_
   have zf:=b9.2
   refine VI.sz 4 ?_
   simp only[ds]
   refine VI.callA rfl (f50') zA (fun Ha ga=>?_)
   have zf:=@bin_bb
   refine VI.sz 9 ?_
   simp only[ds]
   have zf:=@bin_bb
   refine VI.sz 2 ?_
   simp only[ds]
   refine VI.gdF zG ?_
   refine VI.s0 3 ?_
   simp only[ds]
   refine VI.callAT zG rfl (f20_ok _) zA (fun Hb gb=>?_)
   refine VI.l0 ?_
   refine zS ?_
   refine V.ret (V.rets rfl (Lv.retF (by simp +contextual (disch:=first|omega|simp only[nx];omega) only[D1,cells_alloc_at,cells_alloc_ne,cells_set_at,cells_set_ne,yres,yres1,yresL,qA,qB,qC,D5,hF,hA,↓reduceIte,qD,qE];rfl) ?_))
   rfl
 obtain⟨A,hA0⟩ : ∃ A,A=(otc m S (vl L l)).1:=⟨_,rfl⟩
 have F:=otc_fin (m:=m) hvk hS hv8
 have hbd:=Fin.bd F hS.1
 have hres:=otc_res hvk hS hv8 hsu
 have hgl:=gl0_fl (m:=m) (L:=L) hl8 hb hS
 have hlow:=fun (s : Nat→Int)=>res_low (s:=s) h5 hvk hS hv8 hsu
 rw[← hA0] at q1 hbd hres hgl hlow
 clear F
 have hpr : PRV m S L l (fl l.length A):=by
  refine⟨h0,fl_len _ _,fun x hx=>?_,?_⟩
  ·obtain⟨i,_,rfl⟩:=List.mem_map.1 hx
   exact hbd.1 i
  ·rw[jr_iff hvk hS (fun p _=>by rw[hgl];have:=hbd.1 p;omega),hgl]
   exact hres
 have f50a:=f50_t (h.grow gH5) q1 h0 hm4 hpr
 refine V.run ?_
 have zf:=b5.2
 refine VI.sz 6 ?_
 simp only[ds]
 refine VI.callAT zG rfl (f50a) zA (fun Hz gz=>?_)
 refine VI.line' (by simp +contextual (disch:=first|omega|simp only[nx];omega) only[D4,qF,qG,qA,qB,qC,D5,hF,hA,↓reduceIte,qD,qE,not_true_eq_false,not_false_eq_true];with_reducible rfl) ?_
 refine zS ?_
 refine V.condF zA ?_
 have gHz:=gH5.trans gz
 have bz:=b5.grow gz
 have qz:=q1.grow gz
 refine zS ?_
 refine V.run ?_
 have zf:=bz.2
 refine VI.sz 1 ?_
 simp only[ds]
 refine VI.callA rfl (f22_ok m S L _) zA (fun H6 g6=>?_)
 refine VI.s0 1 ?_
 simp only[ds]
 refine VI.callR zA (f24_ok (h.grow (gHz.trans g6)) (by omega)) zA (fun w7 H7 ⟨g7,o7⟩=>?_)
 refine VI.s0 1 ?_
 simp only[ds]
 refine VI.callR zA (f24_ok (hst.grow ((gHz.trans g6).trans g7)) (by omega)) zA (fun w8 H8 ⟨g8,o8⟩=>?_)
 have gz8:=(g6.trans g7).trans g8
 have gH8:=gHz.trans gz8
 have b8:=bz.grow gz8
 have q8:=qz.grow gz8
 have f29':=f29_ok (m:=m) (S:=S) (L:=L) ((ow_ls o7).grow g8) (ow_ls o8)
 by_cases hP : PRV m S L l st
 ·rw[decide_eq_true hP] at f29'
  refine VI.callA rfl (f29') zA (fun H9 g9=>?_)
  have gH9:=gH8.trans g9
  have b9:=b8.grow g9
  have f50':=f50_t (h.grow gH9) (hst.grow gH9) h0 hm4 hP
  have heq : fl l.length A=st:=by
   obtain⟨_,hll,hx,hj⟩:=hP
   have hsb : ∀ p,0≤gl0 st p∧gl0 st p≤S:=fun p=>by
    by_cases hp : p<st.length
    ·rw[gl0_at hp]
     exact hx _ (List.getElem_mem hp)
    ·rw[gl0_out (by omega)];omega
   have hR:=(jr_iff hvk hS (fun p _=>by have:=hsb p;omega)).1 hj
   have he:=hlow _ (fun p _=>(hsb p).1) hR
   apply List.ext_getElem
   ·rw[fl_len];omega
   ·intro i h1 h2
    rw[fl_at,← he i (by omega),gl0_at h2]
  refine VI.l0 ?_
  refine zS ?_
  refine V.run ?_
  have zf:=b9.2
  refine VI.sz 4 ?_
  simp only[ds]
  refine VI.callA rfl (f50') zA (fun Ha ga=>?_)
  have zf:=@bin_bb
  refine VI.sz 9 ?_
  simp only[ds]
  have zf:=@bin_bb
  refine VI.sz 2 ?_
  simp only[ds]
  have f28':=f28_ok ((q8.grow g9).grow ga) (hst.grow (gH9.trans ga)) (by rw[fl_len];omega)
  rw[decide_eq_true heq] at f28'
  refine VI.callAT zG rfl (f28') zA (fun Hb gb=>?_)
  refine VI.s0 3 ?_
  simp only[ds]
  refine VI.callAT zG rfl (f20_ok _) zA (fun Hc gc=>?_)
  refine VI.l0 ?_
  refine zS ?_
  refine V.ret (V.rets rfl (Lv.retF (by simp +contextual (disch:=first|omega|simp only[nx];omega) only[D1,cells_alloc_at,cells_alloc_ne,cells_set_at,cells_set_ne,yres,yres1,yresL,qA,qB,qC,D5,hF,hA,↓reduceIte,qD,qE];rfl) ?_))
  rfl
 ·rw[decide_eq_false hP] at f29'
  refine VI.callA rfl (f29') zA (fun H9 g9=>?_)
  have gH9:=gH8.trans g9
  have b9:=b8.grow g9
  have f50':=f50_f (h.grow gH9) (hst.grow gH9) h0 hm4 hP
  refine VI.l0 ?_
  refine zS ?_
  refine V.run ?_
  have zf:=b9.2
  refine VI.sz 4 ?_
  simp only[ds]
  refine VI.callA rfl (f50') zA (fun Ha ga=>?_)
  have zf:=@bin_bb
  refine VI.sz 9 ?_
  simp only[ds]
  have zf:=@bin_bb
  refine VI.sz 2 ?_
  simp only[ds]
  refine VI.gdF zG ?_
  refine VI.s0 3 ?_
  simp only[ds]
  refine VI.callAT zG rfl (f20_ok _) zA (fun Hb gb=>?_)
  refine VI.l0 ?_
  refine zS ?_
  refine V.ret (V.rets rfl (Lv.retF (by simp +contextual (disch:=first|omega|simp only[nx];omega) only[D1,cells_alloc_at,cells_alloc_ne,cells_set_at,cells_set_ne,yres,yres1,yresL,qA,qB,qC,D5,hF,hA,↓reduceIte,qD,qE];rfl) ?_))
  rfl
end Go.Xe.TVX
/- Rules of reasoning over the executable reading of the model's code (part Z16): arguments, by what their types allow. Conditions: none; for every program. -/
namespace Go.Xe
open Go Go.RowKit Go.ChangeShapes Go.WideShapes
theorem okWide_agg {P : Program} {w : World} {r : Reach} {base : Nat} {t : TypeId} {v : Value} {fs : Array Field} (ht : P.underlying t=some (.struct fs)) (h : Value.okWide P w r base t v) : ∃ cs,v=.agg cs:=by
 unfold Value.okWide at h
 rw[ht] at h
 obtain⟨cs,h,_⟩:=h
 exact⟨cs,h⟩
end Go.Xe
/- The end of a call that has changed nothing of what was there: what a statement asks of the memory behind it. Conditions: as post_of_same's, but that new memory may be frozen. -/
namespace Go.Xe
open Go Go.RowKit Go.ChangeShapes Go.WideShapes
variable {H : Type} {enc : TypeId×Value→H} {P : Program}
theorem post_of_old {f : Func} {s : ChangeSpec} {apart fresh handsOn again : Bool} {W W' : World} {args : Array Value} {v : Value} {ds gs : List (DataW H)} {before pa pv : List MemPlace}
  (hW : DataW.Whole enc P f.params.toList s.vars apart W args.toList ds gs before)
  (hres : ∀ (b : Nat) (sp : Nat→Bool) (hd : Bool),DataW.TrodAll enc P W' b sp hd f.resultTypes.toList (v.resultList f.resultTypes.size) (s.fn H (ds++gs)).results [])
  (hargs : ∀ sp : Nat→Bool,(∀ p∈before,sp p.block=true)→DataW.TrodAll enc P W' 0 sp true f.params.toList args.toList (s.fn H (ds++gs)).args pa)
  (hvars : ∀ sp : Nat→Bool,(∀ p∈before,sp p.block=true)→DataW.TrodVars enc P W' sp s.vars (s.fn H (ds++gs)).vars pv)
  (hps : before=pa++pv) (hk : W.keptBut W' (·∈before)) (hfz : ∀ a : Addr,a.block<W.heap.size→W'.frozen? a=W.frozen? a)
  (hok : ∀ (j : Nat) (t : TypeId) (r : Value),f.resultTypes[j]?=some t→(v.resultList f.resultTypes.size)[j]?=some r→Value.okWide P W' .any 0 t r) :
  s.post enc P f apart fresh handsOn again W args v W':=by
 have old : ∀ p∈before,p.block<W.heap.size:=fun p hp=>hW.lt p hp
 have hold : ∀ p∈before,(fun b=>decide (b<W.heap.size)) p.block=true:=fun p hp=>by simpa using old p hp
 subst hps
 refine⟨ds,gs,_,[],pa,pv,hW,hres _ _ _,hargs _ hold,hvars _ hold,World.keptBut_mono (fun p hp=>⟨hp,.inr (List.mem_append.1 hp)⟩) hk,fun _=>?_⟩
 obtain⟨_,_,_,_,_,hz,hn⟩:=hW
 refine⟨hok,_,_,([]++pa)++pv,⟨[]++pa,pv,trodAll_append (hargs _ (fun _ _=>rfl)) (hres _ _ _),hvars _ (fun _ _=>rfl),rfl,?_,?_⟩,?_⟩
 ·intro b off hp
  have hp' : MemPlace.cell b off∈pa++pv:=by simpa using hp
  rw[hfz _ (old _ hp')]
  exact hz b off hp'
 ·intro ha
  simpa using hn ha
 ·intro p hp _
  simpa using hp
end Go.Xe
