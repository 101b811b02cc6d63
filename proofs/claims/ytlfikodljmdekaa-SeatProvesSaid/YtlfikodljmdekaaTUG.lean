/- What the functions of the layer seat come to: ProveSeats, and SeatAll. Conditions: none. -/
import Derived.Test.YtlfikodljmdekaaTUC
-- MOD TV
namespace Go.Xe.TVX
open Go Go.Xe Go.Proofs
open Nat renaming reduceLeDiff → qA, reduceSub → qB, reduceAdd → qC, reduceEqDiff → qD, reduceLT → qE
open Int renaming reduceNegSucc → qF, reduceEq → qG
open Go.Xe.V renaming seq → sA, block → sB, scope → sC, skip → sD, close → sE
open Go.Xe renaming pth → P
open Go.Xe.Sea
set_option maxRecDepth 100000
set_option maxHeartbeats 3200000
set_option linter.unusedSimpArgs false
noncomputable def d29 : FCode:=(.seq (.run (.go (.box 28 (tm 0)) (P 3)::
.go (.move (.con (.bool false))) (P 6)::
[])) (.seq (.seq (.run (.go (.loadN 3 (tm 3)) (P 9)::
.go (.move (tm 1)) (P 10)::
.go (.call (.con (.func (.func 54) ⟨[]⟩ ⟨[]⟩)) [(tm 9),(tm 10)]) (P 11)::
.go (.bin .neq 26 (tm 11) (.con (.int .i64 (.ofNat 0)))) (P 12)::
.go (.move (tm 12)) (P 13)::
.gd (P 13) false (.move (tm 2)) (P 14)::
.gd (P 13) false (.len 0 (tm 14)) (P 15)::
.gd (P 13) false (.move (tm 1)) (P 16)::
.gd (P 13) false (.len 0 (tm 16)) (P 17)::
.gd (P 13) false (.bin .neq 3 (tm 15) (tm 17)) (P 18)::
.go (.pick (tm 13) (.con (.bool true)) (tm 18)) (P 19)::
.go (.move (tm 19)) (P 20)::
.gd (P 20) false (.move (tm 2)) (P 21)::
.gd (P 20) false (.loadN 3 (tm 3)) (P 22)::
.gd (P 20) false (.call (.con (.func (.func 59) ⟨[]⟩ ⟨[]⟩)) [tm 22]) (P 23)::
.gd (P 20) false (.makeFunc 60 [tm 23] []) (P 24)::
.gd (P 20) false (.call (.con (.func (.func 58) ⟨[]⟩ ⟨[]⟩)) [(tm 21),(tm 24)]) (P 25)::
.gd (P 20) false (.un .not (tm 25)) (P 26)::
.go (.pick (tm 20) (.con (.bool true)) (tm 26)) (P 27)::
[])) (.cond (tm 27) (.seq (.run (.go (.move (.con (.bool false))) (P 6)::
[])) .ret) .skip)) (.seq (.run (.go (.loadN 3 (tm 3)) (P 29)::
.go (.move (tm 1)) (P 30)::
.go (.call (.con (.func (.func 55) ⟨[]⟩ ⟨[]⟩)) [(tm 29),(tm 30)]) (P 31)::
.go (.move (tm 2)) (P 32)::
.go (.call (.con (.func (.func 62) ⟨[]⟩ ⟨[]⟩)) [tm 32]) (P 33)::
.go (.call (.con (.func (.func 61) ⟨[]⟩ ⟨[]⟩)) [(tm 31),(tm 33)]) (P 34)::
.go (.move (tm 34)) (P 28)::
.go (.extract (tm 28) 0) (P 35)::
.go (.extract (tm 28) 1) (P 36)::
.go (.move (tm 35)) (P 7)::
.go (.move (tm 36)) (P 8)::
[])) (.seq (.run (.go (.move (tm 7)) (P 37)::
.go (.move (tm 37)) (P 6)::
[])) .ret))))
theorem de29 : @compF Try.prog (Gl.none Try.prog) Try.f29 3=.mk d29 (mkTT 38) [(P 0),(P 1),(P 2)] [.tmp (P 6)]:=by kernel_rfl
theorem dg29 : Try.prog.funcs[29]?=some Try.f29:=Try.func29
theorem do29 : okF Try.prog Try.f29=true:=by kernel_rfl
def RES (m S : Int) (v s : Nat→Int) : Prop:=gal S v s∧∀ p q,p<8→0<v p→q<8→0<v q→0<s q→¬ qlt (clq m S v q (s q-1)) (clq m S v p (s p))
theorem fu_max {m S : Int} {v s : Nat→Int} (hv : vok v) (hS : 0≤S∧S≤61) (hs : ∀ p,p<8→0≤s p) : ∀ {k : Nat},k≤(adl v 8).length→qok (fu m S v s k)∧(∀ j,j<k→¬ qlt (fu m S v s k) (lw (clq m S v (pix v j) (s (pix v j)))))∧(fu m S v s k=(0,1)∨∃ j,j<k∧fu m S v s k=lw (clq m S v (pix v j) (s (pix v j))))
 | 0,_=>⟨⟨by simp[fu],by simp[fu],by simp[fu]⟩,fun j hj=>by omega,.inl rfl⟩
 | k+1,hk=>by
  obtain⟨h1,h2,h3⟩:=fu_max (m:=m) hv hS hs (show k≤(adl v 8).length by omega)
  have hok : ∀ j,j<k+1→qok (lw (clq m S v (pix v j) (s (pix v j)))):=fun j hj=>by
   obtain⟨_,hp8,hpv,_⟩:=pix_at (v:=v) (k:=j) (by omega)
   exact (lw_ok (clq_ok (m:=m) hv hS hp8 hpv (hs _ hp8))).1
  unfold fu
  split
  ·rename_i hl
   refine⟨hok k (by omega),fun j hj=>?_,.inr ⟨k,by omega,rfl⟩⟩
   rcases Nat.lt_succ_iff_lt_or_eq.1 hj with hj'|rfl
   ·exact fun hh=>h2 j hj' (qlt_tr h1 (hok k (by omega)) (hok j hj) hl hh)
   ·exact qlt_irr _
  ·rename_i hl
   refine⟨h1,fun j hj=>?_,?_⟩
   ·rcases Nat.lt_succ_iff_lt_or_eq.1 hj with hj'|rfl
    ·exact h2 j hj'
    ·exact hl
   ·rcases h3 with h3|⟨j,hj,h3⟩
    ·exact .inl h3
    ·exact .inr ⟨j,by omega,h3⟩
theorem la_min {m S : Int} {v s : Nat→Int} (hv : vok v) (hS : 0≤S∧S≤61) : ∀ {k : Nat},k≤(adl v 8).length→qok (la m S v s k)∧(∀ j,j<k→0<s (pix v j)→¬ qlt (lw (clq m S v (pix v j) (s (pix v j)-1))) (la m S v s k))∧(la m S v s k=(100000000,0)∨∃ j,j<k∧0<s (pix v j)∧la m S v s k=lw (clq m S v (pix v j) (s (pix v j)-1)))
 | 0,_=>⟨⟨by simp[la],by simp[la],by simp[la]⟩,fun j hj=>by omega,.inl rfl⟩
 | k+1,hk=>by
  obtain⟨h1,h2,h3⟩:=la_min (m:=m) (s:=s) hv hS (show k≤(adl v 8).length by omega)
  have hok : ∀ j,j<k+1→0<s (pix v j)→qok (lw (clq m S v (pix v j) (s (pix v j)-1))):=fun j hj hp=>by
   obtain⟨_,hp8,hpv,_⟩:=pix_at (v:=v) (k:=j) (by omega)
   exact (lw_ok (clq_ok (m:=m) hv hS hp8 hpv (by omega))).1
  unfold la
  split
  ·rename_i hpos
   split
   ·rename_i hl
    refine⟨h1,fun j hj hp=>?_,?_⟩
    ·rcases Nat.lt_succ_iff_lt_or_eq.1 hj with hj'|rfl
     ·exact h2 j hj' hp
     ·exact qlt_asymm h1 (hok j (by omega) hp) hl
    ·rcases h3 with h3|⟨j,hj,h3⟩
     ·exact .inl h3
     ·exact .inr ⟨j,by omega,h3⟩
   ·rename_i hl
    refine⟨hok k (by omega) hpos,fun j hj hp=>?_,.inr ⟨k,by omega,hpos,rfl⟩⟩
    rcases Nat.lt_succ_iff_lt_or_eq.1 hj with hj'|rfl
    ·exact fun hh=>hl (le_qlt h1 (hok j hj hp) (hok k (by omega) hpos) (h2 j hj' hp) hh)
    ·exact qlt_irr _
  ·rename_i hpos
   refine⟨h1,fun j hj hp=>?_,?_⟩
   ·rcases Nat.lt_succ_iff_lt_or_eq.1 hj with hj'|rfl
    ·exact h2 j hj' hp
    ·exact absurd hp hpos
   ·rcases h3 with h3|⟨j,hj,h3⟩
    ·exact .inl h3
    ·exact .inr ⟨j,by omega,h3⟩
theorem pix_of {v : Nat→Int} {p : Nat} (hp : p<8) (h : 0<v p) : ∃ j,j<(adl v 8).length∧pix v j=p:=by
 have e:=adl_at hp h
 refine⟨_,(List.getElem?_eq_some_iff.1 e).1,?_⟩
 unfold pix
 rw[List.getD_eq_getElem?_getD,e];rfl
theorem jr_iff {m S : Int} {v s : Nat→Int} (hv : vok v) (hS : 0≤S∧S≤61) (hs : ∀ p,p<8→0≤s p∧s p≤100) : jr m S v s↔RES m S v s:=by
 obtain⟨f1,f2,f3⟩:=fu_max (m:=m) hv hS (fun p hp=>(hs p hp).1) (Nat.le_refl (adl v 8).length)
 obtain⟨l1,l2,l3⟩:=la_min (m:=m) (s:=s) hv hS (Nat.le_refl (adl v 8).length)
 obtain⟨⟨qf,_⟩,⟨ql,_⟩⟩:=fu_qb (m:=m) hv hS hs (Nat.le_refl (adl v 8).length)
 unfold jr
 by_cases hg : gal S v s
 ·by_cases hd : due S v=0
  ·rw[if_neg (fun hh=>hh.2 hd)]
   refine⟨fun _=>⟨hg,fun p q _ _ hq _ hsq=>?_⟩,fun h=>h.1⟩
   exfalso
   have h0:=hg.2
   rw[hd] at h0
   have:=sm_lt (s:=fun _=>0) (t:=s) (n:=8) (p:=q) (fun i hi=>(hs i hi).1) hq hsq
   rw[sm_0] at this
   omega
  ·rw[if_pos ⟨hg,hd⟩]
   constructor
   ·intro h
    refine⟨hg,fun p q hp hvp hq hvq hsq hh=>?_⟩
    obtain⟨i,hi,rfl⟩:=pix_of hp hvp
    obtain⟨j,hj,rfl⟩:=pix_of hq hvq
    have o1:=clq_ok (m:=m) hv hS hp hvp (hs _ hp).1
    have o2:=clq_ok (m:=m) hv hS hq hvq (s:=s (pix v j)-1) (by omega)
    have k1:=(lw_lt o2 o1).2 hh
    have k2:=le_qlt l1 (lw_ok o2).1 (lw_ok o1).1 (l2 j hj hsq) k1
    exact h (qlt_le l1 (lw_ok o1).1 f1 k2 (f2 i hi))
   ·rintro⟨_,h⟩ hh
    rcases f3 with f3|⟨i,hi,f3⟩
    ·rw[f3] at hh
     unfold qlt at hh
     rw[if_neg (by simp)] at hh
     simp only at hh
     omega
    ·obtain⟨_,hp,hvp,_⟩:=pix_at (v:=v) hi
     have o1:=clq_ok (m:=m) hv hS hp hvp (hs _ hp).1
     rcases l3 with l3|⟨j,hj,hsq,l3⟩
     ·rw[l3] at hh
      by_cases hz : (fu m S v s (adl v 8).length).2=0
      ·rw[qlt_z rfl hz] at hh
       simp only at hh;omega
      ·exact qlt_zn rfl hz ⟨by simp,by simp,by simp⟩ f1 hh
     ·obtain⟨_,hq,hvq,_⟩:=pix_at (v:=v) hj
      have o2:=clq_ok (m:=m) hv hS hq hvq (s:=s (pix v j)-1) (by omega)
      rw[f3,l3,lw_lt o2 o1] at hh
      exact h _ _ hp hvp hq hvq hsq hh
 ·rw[if_neg (fun hh=>hg hh.1)]
  exact⟨fun h=>absurd h hg,fun h=>absurd h.1 hg⟩
def PRV (m S L : Int) (l st : List Int) : Prop:=flt m S L l=0∧st.length=l.length∧(∀ x∈st,0≤x∧x≤S)∧jr m S (vl L l) (gl0 st)
instance (m S L : Int) (l st : List Int) : Decidable (PRV m S L l st):=by unfold PRV;infer_instance
theorem f29_ok {H : Heap} {m S L : Int} {x y : Value} {l st : List Int} (h : LS H x l) (hst : LS H y st) : Gives Try.prog 29 [.agg ⟨A3 m S L⟩,x,y] H (.bool (decide (PRV m S L l st))):=by
 have hl:=h.len
 have hsl:=hst.len
 obtain⟨px,nx',cx,rfl⟩:=h.s.isS
 obtain⟨py,ny',cy,rfl⟩:=hst.s.isS
 refine F.entryL rfl dg29 do29 de29 rfl (by kernel_rfl) ?_
 simp only[sets]
 refine V.re [(0,.agg ⟨A3 m S L⟩),(1,.slice px nx' cx),(2,.slice py ny' cy)] (N:=38) zE zY ?_
 intro t hF hA
 simp only[Kn,and_true] at hA
 refine zS ?_
 refine V.l0 ?_
 refine V.heap (fun X=>Grow H X∧Bx X H.next (A3 m S L) 28) ⟨?_,?_⟩ ?_
 ·exact zW
 ·exact zB
 rintro H1 ⟨g1,b1⟩
 refine zS ?_
 refine V.run ?_
 have zf:=b1.2
 refine VI.sz 2 ?_
 simp only[ds]
 refine VI.callA rfl (f54_ok (m:=m) (S:=S) (L:=L) (h.grow g1)) zA (fun H2 g2=>?_)
 have b2:=b1.grow g2
 have g12:=g1.trans g2
 by_cases hbad : ¬ flt m S L l=0∨¬ st.length=l.length
 ·have hP : decide (PRV m S L l st)=false:=decide_eq_false (fun hh=>hbad.elim (fun k=>k hh.1) (fun k=>k hh.2.1))
  rw[hP]
  have hbb : (¬ flt m S L l=0∨¬ (st.length : Int)=l.length)=True:=eq_true (hbad.imp id (fun k=>by omega))
  have zf:=And.intro @hl<|And.intro @hsl<|@hbb
  refine VI.sz 9 ?_
  simp only[ds]
  have zf:=b2.2
  refine VI.sz 2 ?_
  simp only[ds]
  refine VI.gdF zG ?_
  refine VI.s0 1 ?_
  simp only[ds]
  refine VI.gdF zG ?_
  refine VI.l0 ?_
  refine zS ?_
  refine V.condT zA ?_
  refine zS ?_
  refine V.l0 ?_
  refine zS ?_
  refine V.ret (V.rets rfl (Lv.retG (by simp +contextual (disch:=first|omega|simp only[nx];omega) only[D1,cells_alloc_at,cells_alloc_ne,cells_set_at,cells_set_ne,yres,yres1,yresL,qA,qB,qC,D5,hF,hA,↓reduceIte,qD,qE];rfl) ?_ ?_))
  ·exact g12
  ·rfl
 ·have h0 : flt m S L l=0:=Decidable.by_contra fun k=>hbad (.inl k)
  have hll : st.length=l.length:=Decidable.by_contra fun k=>hbad (.inr k)
  obtain⟨hr,hl8,hb⟩:=flt_0.1 h0
  have hm : 1≤m∧m≤5:=⟨hr.1,hr.2.1⟩
  have hvk:=vl_ok (L:=L) hb
  have hS : 0≤S∧S≤61:=⟨hr.2.2.1,by have:=hr.2.2.2.1;omega⟩
  have hbb : (¬ flt m S L l=0∨¬ (st.length : Int)=l.length)=False:=eq_false (fun k=>k.elim (fun k=>k h0) (fun k=>k (by omega)))
  have zf:=And.intro @hl<|And.intro @hsl<|@hbb
  refine VI.sz 9 ?_
  simp only[ds]
  have zf:=b2.2
  refine VI.sz 2 ?_
  simp only[ds]
  refine VI.callAT zG rfl (f59_ok m S L H2) zA (fun H3 g3=>?_)
  refine VI.s0 1 ?_
  simp only[ds]
  have g13:=g12.trans g3
  have b3:=b2.grow g3
  refine VI.callAT zG rfl (f58_ok (hst.grow g13) (by omega) (fun X y _ _=>f60_fv 0 S X y)) zA (fun H4 g4=>?_)
  have b4:=b3.grow g4
  have g14:=g13.trans g4
  refine VI.l0 ?_
  refine zS ?_
  refine V.condP zP (fun hx=>?_) (fun hx=>?_)
  ·have hP : decide (PRV m S L l st)=false:=decide_eq_false (fun hh=>hx hh.2.2.1)
   rw[hP]
   refine zS ?_
   refine V.l0 ?_
   refine zS ?_
   refine V.ret (V.rets rfl (Lv.retG (by simp +contextual (disch:=first|omega|simp only[nx];omega) only[D1,cells_alloc_at,cells_alloc_ne,cells_set_at,cells_set_ne,yres,yres1,yresL,qA,qB,qC,D5,hF,hA,↓reduceIte,qD,qE];rfl) ?_ ?_))
   ·exact g14
   ·rfl
  have hx:=Decidable.not_not.1 hx
  have hsb : ∀ p,p<8→0≤gl0 st p∧gl0 st p≤100:=by
   intro p _
   by_cases hp : p<st.length
   ·rw[gl0_at hp]
    have:=hx _ (List.getElem_mem hp)
    omega
   ·rw[gl0_out (by omega)];omega
  refine zS ?_
  refine V.run ?_
  have zf:=b4.2
  refine VI.sz 2 ?_
  simp only[ds]
  refine VI.callA rfl (f55_ok (m:=m) (S:=S) (L:=L) (h.grow g14) hl8 hb hm) zA (fun H5 g5=>?_)
  refine VI.s0 1 ?_
  simp only[ds]
  refine VI.callA rfl (f62_ok ((hst.grow g14).grow g5) (by omega)) zA (fun H6 g6=>?_)
  refine VI.callA rfl (f61_ok (S:=S) (L:=L) (c:=gl0 l) (s:=gl0 st) hm hvk hS hsb) zA (fun H7 g7=>?_)
  refine VI.l0 ?_
  refine zS ?_
  refine V.l0 ?_
  refine zS ?_
  refine V.ret (V.rets rfl (Lv.retG (by simp +contextual (disch:=first|omega|simp only[nx];omega) only[D1,cells_alloc_at,cells_alloc_ne,cells_set_at,cells_set_ne,yres,yres1,yresL,qA,qB,qC,D5,hF,hA,↓reduceIte,qD,qE];rfl) ?_ ?_))
  ·exact ((g14.trans g5).trans g6).trans g7
  ·congr 1
   rw[decide_eq_decide]
   exact⟨fun k=>⟨h0,hll,hx,k⟩,fun k=>k.2.2.2⟩
end Go.Xe.TVX
/- What the functions of the layer seat come to: SeatAll. Conditions: none. -/
-- MOD TV
namespace Go.Xe.TVX
open Go Go.Xe Go.Proofs
open Nat renaming reduceLeDiff → qA, reduceSub → qB, reduceAdd → qC, reduceEqDiff → qD, reduceLT → qE
open Int renaming reduceNegSucc → qF, reduceEq → qG
open Go.Xe.V renaming seq → sA, block → sB, scope → sC, skip → sD, close → sE
open Go.Xe renaming pth → P
open Go.Xe.Sea
set_option maxRecDepth 100000
set_option maxHeartbeats 3200000
set_option linter.unusedSimpArgs false
end Go.Xe.TVX
/- What the functions of the layer seat come to: claims. Conditions: none. -/
-- MOD TV
namespace Go.Xe.TVX
open Go Go.Xe Go.Proofs
open Nat renaming reduceLeDiff → qA, reduceSub → qB, reduceAdd → qC, reduceEqDiff → qD, reduceLT → qE
open Int renaming reduceNegSucc → qF, reduceEq → qG
open Go.Xe.V renaming seq → sA, block → sB, scope → sC, skip → sD, close → sE
open Go.Xe renaming pth → P
open Go.Xe.Sea
set_option maxRecDepth 100000
set_option maxHeartbeats 3200000
set_option linter.unusedSimpArgs false
noncomputable def d70 : FCode:=(.seq (.run (.go (.alloc 101 [(.int .i64 (.ofNat 0)),(.int .i64 (.ofNat 0))]) (P 6)::
[])) (.seq (.seq (.run (.go (.move (tm 0)) (P 7)::
[])) (.block 0 (.seq (.run (.go (.bin .eql 5 (tm 7) (.con (.int .u8 (.ofNat 1)))) (P 9)::
.go (.move (tm 9)) (P 8)::
[])) (.cond (tm 8) (.seq (.run (.go (.move (tm 1)) (P 10)::
.go (.move (tm 2)) (P 11)::
.go (.build [(.int .i64 (.ofNat 0)),(.int .i64 (.ofNat 0))] [(0,1,(tm 10)),(1,1,(tm 11))]) (P 12)::
.un (.store 2 (tm 6) (tm 12))::
[])) .ret) (.seq (.run (.go (.bin .eql 5 (tm 7) (.con (.int .u8 (.ofNat 2)))) (P 14)::
.go (.move (tm 14)) (P 13)::
[])) (.cond (tm 13) (.seq (.run (.go (.move (tm 1)) (P 15)::
.go (.move (tm 2)) (P 16)::
.go (.bin .add 3 (tm 16) (.con (.int .i64 (.ofNat 1)))) (P 17)::
.go (.build [(.int .i64 (.ofNat 0)),(.int .i64 (.ofNat 0))] [(0,1,(tm 15)),(1,1,(tm 17))]) (P 18)::
.un (.store 2 (tm 6) (tm 18))::
[])) .ret) (.seq (.run (.go (.bin .eql 5 (tm 7) (.con (.int .u8 (.ofNat 3)))) (P 20)::
.go (.move (tm 20)) (P 19)::
[])) (.cond (tm 19) (.seq (.run (.go (.move (tm 1)) (P 21)::
.go (.move (tm 2)) (P 22)::
.go (.bin .mul 3 (.con (.int .i64 (.ofNat 2))) (tm 22)) (P 23)::
.go (.bin .add 3 (tm 23) (.con (.int .i64 (.ofNat 1)))) (P 24)::
.go (.build [(.int .i64 (.ofNat 0)),(.int .i64 (.ofNat 0))] [(0,1,(tm 21)),(1,1,(tm 24))]) (P 25)::
.un (.store 2 (tm 6) (tm 25))::
[])) .ret) .skip)))))))) (.seq (.seq (.run (.go (.move (tm 2)) (P 26)::
.go (.bin .eql 3 (tm 26) (.con (.int .i64 (.ofNat 0)))) (P 27)::
[])) (.cond (tm 27) (.seq (.run (.go (.move (tm 1)) (P 28)::
.go (.build [(.int .i64 (.ofNat 0)),(.int .i64 (.ofNat 0))] [(0,1,(tm 28)),(1,1,(.con (.int .i64 (.ofNat 0))))]) (P 29)::
.un (.store 2 (tm 6) (tm 29))::
[])) .ret) .skip)) (.seq (.run (.go (.move (tm 1)) (P 30)::
.go (.move (tm 1)) (P 31)::
.go (.bin .mul 3 (tm 30) (tm 31)) (P 32)::
.go (.move (tm 2)) (P 33)::
.go (.move (tm 2)) (P 34)::
.go (.bin .add 3 (tm 34) (.con (.int .i64 (.ofNat 1)))) (P 35)::
.go (.bin .mul 3 (tm 33) (tm 35)) (P 36)::
.go (.build [(.int .i64 (.ofNat 0)),(.int .i64 (.ofNat 0))] [(0,1,(tm 32)),(1,1,(tm 36))]) (P 37)::
.un (.store 2 (tm 6) (tm 37))::
[])) .ret))))
theorem de70 : @compF Try.prog (Gl.none Try.prog) Try.f70 3=.mk d70 (mkTT 38) [(P 0),(P 1),(P 2)] [.many (P 6) 2]:=by kernel_rfl
theorem dg70 : Try.prog.funcs[70]?=some Try.f70:=Try.func70
theorem do70 : okF Try.prog Try.f70=true:=by kernel_rfl
noncomputable def d71 : FCode:=(.seq (.run (.go (.box 101 (tm 0)) (P 2)::
.go (.box 101 (tm 1)) (P 3)::
.go (.move (.con (.bool false))) (P 4)::
[])) (.seq (.block 0 (.seq (.run (.go (.fieldAddr 1 (tm 2)) (P 6)::
.go (.load1 (tm 6)) (P 7)::
.go (.bin .eql 3 (tm 7) (.con (.int .i64 (.ofNat 0)))) (P 8)::
.go (.move (tm 8)) (P 9)::
.gd (P 9) true (.fieldAddr 1 (tm 3)) (P 10)::
.gd (P 9) true (.load1 (tm 10)) (P 11)::
.gd (P 9) true (.bin .eql 3 (tm 11) (.con (.int .i64 (.ofNat 0)))) (P 12)::
.go (.pick (tm 9) (tm 12) (.con (.bool false))) (P 13)::
.go (.move (tm 13)) (P 5)::
[])) (.cond (tm 5) (.seq (.run (.go (.fieldAddr 0 (tm 2)) (P 14)::
.go (.load1 (tm 14)) (P 15)::
.go (.fieldAddr 0 (tm 3)) (P 16)::
.go (.load1 (tm 16)) (P 17)::
.go (.bin .gtr 3 (tm 15) (tm 17)) (P 18)::
.go (.move (tm 18)) (P 4)::
[])) .ret) (.seq (.run (.go (.fieldAddr 1 (tm 2)) (P 20)::
.go (.load1 (tm 20)) (P 21)::
.go (.bin .eql 3 (tm 21) (.con (.int .i64 (.ofNat 0)))) (P 22)::
.go (.move (tm 22)) (P 19)::
[])) (.cond (tm 19) (.seq (.run (.go (.move (.con (.bool true))) (P 4)::
[])) .ret) (.seq (.run (.go (.fieldAddr 1 (tm 3)) (P 24)::
.go (.load1 (tm 24)) (P 25)::
.go (.bin .eql 3 (tm 25) (.con (.int .i64 (.ofNat 0)))) (P 26)::
.go (.move (tm 26)) (P 23)::
[])) (.cond (tm 23) (.seq (.run (.go (.move (.con (.bool false))) (P 4)::
[])) .ret) .skip))))))) (.seq (.run (.go (.fieldAddr 0 (tm 2)) (P 27)::
.go (.load1 (tm 27)) (P 28)::
.go (.fieldAddr 1 (tm 3)) (P 29)::
.go (.load1 (tm 29)) (P 30)::
.go (.bin .mul 3 (tm 28) (tm 30)) (P 31)::
.go (.fieldAddr 0 (tm 3)) (P 32)::
.go (.load1 (tm 32)) (P 33)::
.go (.fieldAddr 1 (tm 2)) (P 34)::
.go (.load1 (tm 34)) (P 35)::
.go (.bin .mul 3 (tm 33) (tm 35)) (P 36)::
.go (.bin .gtr 3 (tm 31) (tm 36)) (P 37)::
.go (.move (tm 37)) (P 4)::
[])) .ret)))
theorem de71 : @compF Try.prog (Gl.none Try.prog) Try.f71 2=.mk d71 (mkTT 38) [(P 0),(P 1)] [.tmp (P 4)]:=by kernel_rfl
theorem dg71 : Try.prog.funcs[71]?=some Try.f71:=Try.func71
theorem do71 : okF Try.prog Try.f71=true:=by kernel_rfl
def ofq (m c s : Int) : Q2:=if m=1 then (c,s) else if m=2 then (c,s+1) else if m=3 then (c,2*s+1) else if s=0 then (c,0) else (c*c,s*(s+1))
theorem f70_ok {H : Heap} {m c s : Int} (hc : 0≤c∧c≤10000) : F Try.prog 70 ⟨[.int .u8 m,I c,I s]⟩ H (fun w X=>Grow H X∧∃ a,w=Qv a∧(0≤s∧s≤100→a=ofq m c s)):=by
 have hq:=sq_bd hc
 refine F.entryL rfl dg70 do70 de70 rfl (by kernel_rfl) ?_
 simp only[sets]
 refine V.re [(0,.int .u8 m),(1,I c),(2,I s)] (N:=38) zE zY ?_
 intro t hF hA
 simp only[Kn,and_true] at hA
 refine zS ?_
 refine V.l0 ?_
 refine V.heap (fun X=>Grow H X∧Bx X H.next (A2 0 0) 101) ⟨?_,?_⟩ ?_
 ·exact zW
 ·exact zB
 rintro H1 ⟨g1,b1⟩
 refine zS ?_
 refine V.l0 ?_
 refine zS ?_
 refine V.l0 ?_
 refine zS ?_
 unfold ofq
 refine V.condP zP (fun h1=>?_) (fun h1=>?_)
 ·refine zS ?_
  have zf:=b1.2
  refine V.lz ?_
  refine zS ?_
  refine V.ret (V.rets rfl (Lv.retF (by simp +contextual (disch:=first|omega|simp only[nx];omega) only[D1,cells_alloc_at,cells_alloc_ne,cells_set_at,cells_set_ne,yres,yres1,yresL,qA,qB,qC,D5,hF,hA,↓reduceIte,qD,qE];rfl) ?_))
  exact⟨g1.set (Nat.le_refl _) _,(c,s),rfl,fun _=>by rw[if_pos h1]⟩
 rw[if_neg h1]
 refine zS ?_
 refine V.l0 ?_
 refine zS ?_
 refine V.condP zP (fun h2=>?_) (fun h2=>?_)
 ·refine zS ?_
  have zf:=b1.2
  refine V.lz ?_
  refine zS ?_
  refine V.ret (V.rets rfl (Lv.retF (by simp +contextual (disch:=first|omega|simp only[nx];omega) only[D1,cells_alloc_at,cells_alloc_ne,cells_set_at,cells_set_ne,yres,yres1,yresL,qA,qB,qC,D5,hF,hA,↓reduceIte,qD,qE];rfl) ?_))
  refine⟨g1.set (Nat.le_refl _) _,(c,IntKind.i64.wrap (s+1)),rfl,fun hs=>?_⟩
  rw[if_pos h2,wrap_i64 (by omega) (by omega)]
 rw[if_neg h2]
 refine zS ?_
 refine V.l0 ?_
 refine zS ?_
 refine V.condP zP (fun h3=>?_) (fun h3=>?_)
 ·refine zS ?_
  have zf:=b1.2
  refine V.lz ?_
  refine zS ?_
  refine V.ret (V.rets rfl (Lv.retF (by simp +contextual (disch:=first|omega|simp only[nx];omega) only[D1,cells_alloc_at,cells_alloc_ne,cells_set_at,cells_set_ne,yres,yres1,yresL,qA,qB,qC,D5,hF,hA,↓reduceIte,qD,qE];rfl) ?_))
  refine⟨g1.set (Nat.le_refl _) _,(c,IntKind.i64.wrap (IntKind.i64.wrap (2*s)+1)),rfl,fun hs=>?_⟩
  have e : IntKind.i64.wrap (2*s)=2*s:=wrap_i64 (by omega) (by omega)
  rw[if_pos h3,e,wrap_i64 (by omega) (by omega)]
 rw[if_neg h3]
 refine zS ?_
 refine V.l0 ?_
 refine zS ?_
 refine V.condP zP (fun h0=>?_) (fun h0=>?_)
 ·refine zS ?_
  have zf:=b1.2
  refine V.lz ?_
  refine zS ?_
  refine V.ret (V.rets rfl (Lv.retF (by simp +contextual (disch:=first|omega|simp only[nx];omega) only[D1,cells_alloc_at,cells_alloc_ne,cells_set_at,cells_set_ne,yres,yres1,yresL,qA,qB,qC,D5,hF,hA,↓reduceIte,qD,qE];rfl) ?_))
  exact⟨g1.set (Nat.le_refl _) _,(c,0),rfl,fun _=>by rw[if_pos h0]⟩
 refine zS ?_
 have zf:=b1.2
 refine V.lz ?_
 refine zS ?_
 refine V.ret (V.rets rfl (Lv.retF (by simp +contextual (disch:=first|omega|simp only[nx];omega) only[D1,cells_alloc_at,cells_alloc_ne,cells_set_at,cells_set_ne,yres,yres1,yresL,qA,qB,qC,D5,hF,hA,↓reduceIte,qD,qE];rfl) ?_))
 refine⟨g1.set (Nat.le_refl _) _,(c*c,IntKind.i64.wrap (s*IntKind.i64.wrap (s+1))),rfl,fun hs=>?_⟩
 have hb : 0≤s*(s+1)∧s*(s+1)≤100*101:=⟨Int.mul_nonneg hs.1 (by omega),Int.mul_le_mul hs.2 (by omega) (by omega) (by omega)⟩
 have e : IntKind.i64.wrap (s+1)=s+1:=wrap_i64 (by omega) (by omega)
 rw[if_neg h0,e,wrap_i64 (by omega) (by omega)]
theorem f71_ok {H : Heap} {a b : Q2} : F Try.prog 71 ⟨[Qv a,Qv b]⟩ H (fun w X=>Grow H X∧∃ r,w=.bool r∧(qok a→qok b→qb a→qb b→r=decide (qlt b a))):=by
 refine F.entryL rfl dg71 do71 de71 rfl (by kernel_rfl) ?_
 simp only[sets]
 refine V.re [(0,Qv a),(1,Qv b)] (N:=38) zE zY ?_
 intro t hF hA
 simp only[Kn,and_true] at hA
 refine zS ?_
 refine V.l0 ?_
 refine V.heap (fun X=>Grow H X∧Bx X H.next (A2 a.1 a.2) 101∧Bx X (H.next+1) (A2 b.1 b.2) 101) ⟨?_,?_,?_⟩ ?_
 ·exact zW
 ·exact zB
 ·exact zB
 rintro H1 ⟨g1,b1,c1⟩
 refine zS ?_
 have zf:=And.intro b1.2<|c1.2
 refine V.lz ?_
 refine zS ?_
 refine V.condP zP (fun h1=>?_) (fun h1=>?_)
 ·refine zS ?_
  have zf:=And.intro b1.2<|c1.2
  refine V.lz ?_
  refine zS ?_
  refine V.ret (V.rets rfl (Lv.retF (by simp +contextual (disch:=first|omega|simp only[nx];omega) only[D1,cells_alloc_at,cells_alloc_ne,cells_set_at,cells_set_ne,yres,yres1,yresL,qA,qB,qC,D5,hF,hA,↓reduceIte,qD,qE];rfl) ?_))
  refine⟨g1,_,rfl,fun _ _ _ _=>?_⟩
  rw[decide_eq_decide,qlt_z h1.2 h1.1]
 refine zS ?_
 have zf:=b1.2
 refine V.lz ?_
 refine zS ?_
 refine V.condP zP (fun h2=>?_) (fun h2=>?_)
 ·refine zS ?_
  refine V.l0 ?_
  refine zS ?_
  refine V.ret (V.rets rfl (Lv.retF (by simp +contextual (disch:=first|omega|simp only[nx];omega) only[D1,cells_alloc_at,cells_alloc_ne,cells_set_at,cells_set_ne,yres,yres1,yresL,qA,qB,qC,D5,hF,hA,↓reduceIte,qD,qE];rfl) ?_))
  refine⟨g1,_,rfl,fun oa ob _ _=>?_⟩
  exact (decide_eq_true (qlt_nzz (fun hb=>h1 ⟨h2,hb⟩) h2 ob oa)).symm
 refine zS ?_
 have zf:=c1.2
 refine V.lz ?_
 refine zS ?_
 refine V.condP zP (fun h3=>?_) (fun h3=>?_)
 ·refine zS ?_
  refine V.l0 ?_
  refine zS ?_
  refine V.ret (V.rets rfl (Lv.retF (by simp +contextual (disch:=first|omega|simp only[nx];omega) only[D1,cells_alloc_at,cells_alloc_ne,cells_set_at,cells_set_ne,yres,yres1,yresL,qA,qB,qC,D5,hF,hA,↓reduceIte,qD,qE];rfl) ?_))
  refine⟨g1,_,rfl,fun oa ob _ _=>?_⟩
  exact (decide_eq_false (qlt_zn h3 h2 ob oa)).symm
 refine zS ?_
 have zf:=And.intro b1.2<|c1.2
 refine V.lz ?_
 refine zS ?_
 refine V.ret (V.rets rfl (Lv.retF (by simp +contextual (disch:=first|omega|simp only[nx];omega) only[D1,cells_alloc_at,cells_alloc_ne,cells_set_at,cells_set_ne,yres,yres1,yresL,qA,qB,qC,D5,hF,hA,↓reduceIte,qD,qE];rfl) ?_))
 refine⟨g1,decide (IntKind.i64.wrap (b.1*a.2)<IntKind.i64.wrap (a.1*b.2)),rfl,fun oa ob ba bb=>?_⟩
 have e1:=mul_bd ba.1 bb.2
 have e2:=mul_bd bb.1 ba.2
 rw[wrap_i64 (by omega) (by omega),wrap_i64 (by omega) (by omega),decide_eq_decide,qlt_nz (fun h=>h2 h.2)]
theorem ofq_ok {m c s : Int} (hc : 0<c) (hs : 0≤s) : qok (ofq m c s):=by
 unfold ofq qok
 split
 ·exact⟨by omega,hs,fun _=>hc⟩
 ·split
  ·exact⟨by omega,by simp only;omega,fun _=>hc⟩
  ·split
   ·exact⟨by omega,by simp only;omega,fun _=>hc⟩
   ·split
    ·exact⟨by omega,by simp,fun _=>hc⟩
    ·exact⟨Int.mul_nonneg (by omega) (by omega),Int.mul_nonneg hs (by omega),fun _=>Int.mul_pos hc hc⟩
theorem ofq_qb {m c s : Int} (hc : 0≤c∧c≤10000) (hs : 0≤s∧s≤100) : qb (ofq m c s):=by
 have h1:=sq_bd hc
 have hb : 0≤s*(s+1)∧s*(s+1)≤100*101:=⟨Int.mul_nonneg hs.1 (by omega),Int.mul_le_mul hs.2 (by omega) (by omega) (by omega)⟩
 unfold ofq qb
 split
 ·simp only;omega
 ·split
  ·simp only;omega
  ·split
   ·simp only;omega
   ·split
    ·simp only;omega
    ·simp only;omega
theorem sq_iff {x y : Int} (hx : 0≤x) (hy : 0≤y) : x<y↔x*x<y*y:=by
 constructor
 ·exact sq_lt hx
 ·intro h
  apply Decidable.by_contra
  intro hn
  have:=Int.mul_le_mul (show y≤x by omega) (show y≤x by omega) hy hx
  omega
theorem qlt_sq {a b c d : Int} (ha : 0≤a) (hb : 0≤b) (hc : 0≤c) (hd : 0≤d) : qlt (a,b) (c,d)↔qlt (a*a,b*b) (c*c,d*d):=by
 have z : ∀ x : Int,x*x=0↔x=0:=fun x=>⟨fun h=>by rcases Int.mul_eq_zero.1 h with h|h<;>exact h,fun h=>by rw[h];rfl⟩
 by_cases hz : b=0∧d=0
 ·rw[qlt_z hz.1 hz.2,qlt_z ((z b).2 hz.1) ((z d).2 hz.2)]
  exact sq_iff ha hc
 ·rw[qlt_nz hz,qlt_nz (fun h=>hz ⟨(z b).1 h.1,(z d).1 h.2⟩)]
  simp only
  rw[mm2,mm2]
  exact sq_iff (Int.mul_nonneg ha hd) (Int.mul_nonneg hc hb)
theorem ofq_cmp {m S : Int} {v : Nat→Int} (hm : 1≤m∧m≤4) {p o : Nat} {s t : Int} (hp : 0<v p) (ho : 0<v o) (hs : 0≤s) (ht : 0≤t) : qlt (ofq m (v p) s) (ofq m (v o) t)↔qlt (clq m S v p s) (clq m S v o t):=by
 have h5 : m≠5:=by omega
 unfold clq
 rw[if_neg h5,if_neg h5]
 unfold ofq dsq
 by_cases h1 : m=1
 ·subst h1
  rw[if_pos rfl,if_pos rfl,if_neg (by omega),if_neg (by omega),if_neg (by omega),if_neg (by omega),if_neg (by omega),if_neg (by omega)]
  exact qlt_sq (by omega) hs (by omega) ht
 rw[if_neg h1,if_neg h1]
 by_cases h2 : m=2
 ·subst h2
  rw[if_pos rfl,if_pos rfl,if_neg (by omega),if_neg (by omega),if_pos rfl,if_neg (by omega),if_neg (by omega),if_pos rfl]
  exact qlt_sq (by omega) (by omega) (by omega) (by omega)
 rw[if_neg h2,if_neg h2]
 by_cases h3 : m=3
 ·subst h3
  rw[if_pos rfl,if_pos rfl,if_neg (by omega),if_pos rfl,if_neg (by omega),if_pos rfl]
  exact qlt_sq (by omega) (by omega) (by omega) (by omega)
 rw[if_neg h3,if_neg h3]
 have h4 : m=4:=by omega
 rw[if_pos h4,if_pos h4]
 have vp2:=Int.mul_pos hp hp
 have vo2:=Int.mul_pos ho ho
 have d : ∀ x : Int,0≤x→x≠0→0<x*(x+1):=fun x h0 h=>Int.mul_pos (by omega) (by omega)
 by_cases s0 : s=0<;>by_cases t0 : t=0
 ·subst s0 t0
  rw[if_pos rfl,if_pos rfl,qlt_z rfl rfl,qlt_z (by simp) (by simp)]
  exact sq_iff (by omega) (by omega)
 ·subst s0
  have:=d t ht t0
  rw[if_pos rfl,if_neg t0]
  exact iff_of_false (qlt_zn rfl (by simp only;omega) ⟨by simp only;omega,by simp,fun _=>hp⟩ ⟨by simp only;omega,by simp only;omega,by simp only;omega⟩)
   (qlt_zn (by simp) (by simp only;omega) ⟨by simp only;omega,by simp,fun _=>vp2⟩ ⟨by simp only;omega,by simp only;omega,by simp only;omega⟩)
 ·subst t0
  have:=d s hs s0
  rw[if_neg s0,if_pos rfl]
  exact iff_of_true (qlt_nzz (by simp only;omega) rfl ⟨by simp only;omega,by simp only;omega,by simp only;omega⟩ ⟨by simp only;omega,by simp,fun _=>ho⟩)
   (qlt_nzz (by simp only;omega) (by simp) ⟨by simp only;omega,by simp only;omega,by simp only;omega⟩ ⟨by simp only;omega,by simp,fun _=>vo2⟩)
 ·rw[if_neg s0,if_neg t0]
end Go.Xe.TVX
