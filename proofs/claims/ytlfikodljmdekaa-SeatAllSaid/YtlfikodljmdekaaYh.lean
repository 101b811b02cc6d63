/- What the functions of the layer seat come to: ProveSeats, and SeatAll. Conditions: none. -/
import Derived.Test.YtlfikodljmdekaaTUC
import Derived.Test.YtlfikodljmdekaaZm
import Derived.WideShapes
import Derived.ChangeSame
import Derived.Below
-- MOD TV
namespace Go.Xe.TVX
open Go Go.Xe Go.Proofs
open Nat renaming reduceLeDiff → qA, reduceSub → qB, reduceAdd → qC, reduceEqDiff → qD, reduceLT → qE
open Int renaming reduceNegSucc → qF, reduceEq → qG
open Go.Xe.V renaming seq → sA, block → sB, scope → sC, skip → sD, close → sE
open Go.Xe renaming pth → P
open Go.Xe.Sea
set_option maxRecDepth 100000
set_option maxHeartbeats 3200000
set_option linter.unusedSimpArgs false
noncomputable def d29 : FCode:=(.seq (.run (.go (.box 28 (tm 0)) (P 3)::
.go (.move (.con (.bool false))) (P 6)::
[])) (.seq (.seq (.run (.go (.loadN 3 (tm 3)) (P 9)::
.go (.move (tm 1)) (P 10)::
.go (.call (.con (.func (.func 54) ⟨[]⟩ ⟨[]⟩)) [(tm 9),(tm 10)]) (P 11)::
.go (.bin .neq 26 (tm 11) (.con (.int .i64 (.ofNat 0)))) (P 12)::
.go (.move (tm 12)) (P 13)::
.gd (P 13) false (.move (tm 2)) (P 14)::
.gd (P 13) false (.len 0 (tm 14)) (P 15)::
.gd (P 13) false (.move (tm 1)) (P 16)::
.gd (P 13) false (.len 0 (tm 16)) (P 17)::
.gd (P 13) false (.bin .neq 3 (tm 15) (tm 17)) (P 18)::
.go (.pick (tm 13) (.con (.bool true)) (tm 18)) (P 19)::
.go (.move (tm 19)) (P 20)::
.gd (P 20) false (.move (tm 2)) (P 21)::
.gd (P 20) false (.loadN 3 (tm 3)) (P 22)::
.gd (P 20) false (.call (.con (.func (.func 59) ⟨[]⟩ ⟨[]⟩)) [tm 22]) (P 23)::
.gd (P 20) false (.makeFunc 60 [tm 23] []) (P 24)::
.gd (P 20) false (.call (.con (.func (.func 58) ⟨[]⟩ ⟨[]⟩)) [(tm 21),(tm 24)]) (P 25)::
.gd (P 20) false (.un .not (tm 25)) (P 26)::
.go (.pick (tm 20) (.con (.bool true)) (tm 26)) (P 27)::
[])) (.cond (tm 27) (.seq (.run (.go (.move (.con (.bool false))) (P 6)::
[])) .ret) .skip)) (.seq (.run (.go (.loadN 3 (tm 3)) (P 29)::
.go (.move (tm 1)) (P 30)::
.go (.call (.con (.func (.func 55) ⟨[]⟩ ⟨[]⟩)) [(tm 29),(tm 30)]) (P 31)::
.go (.move (tm 2)) (P 32)::
.go (.call (.con (.func (.func 62) ⟨[]⟩ ⟨[]⟩)) [tm 32]) (P 33)::
.go (.call (.con (.func (.func 61) ⟨[]⟩ ⟨[]⟩)) [(tm 31),(tm 33)]) (P 34)::
.go (.move (tm 34)) (P 28)::
.go (.extract (tm 28) 0) (P 35)::
.go (.extract (tm 28) 1) (P 36)::
.go (.move (tm 35)) (P 7)::
.go (.move (tm 36)) (P 8)::
[])) (.seq (.run (.go (.move (tm 7)) (P 37)::
.go (.move (tm 37)) (P 6)::
[])) .ret))))
theorem de29 : @compF Try.prog (Gl.none Try.prog) Try.f29 3=.mk d29 (mkTT 38) [(P 0),(P 1),(P 2)] [.tmp (P 6)]:=by kernel_rfl
theorem dg29 : Try.prog.funcs[29]?=some Try.f29:=Try.func29
theorem do29 : okF Try.prog Try.f29=true:=by kernel_rfl
def RES (m S : Int) (v s : Nat→Int) : Prop:=gal S v s∧∀ p q,p<8→0<v p→q<8→0<v q→0<s q→¬ qlt (clq m S v q (s q-1)) (clq m S v p (s p))
theorem fu_max {m S : Int} {v s : Nat→Int} (hv : vok v) (hS : 0≤S∧S≤61) (hs : ∀ p,p<8→0≤s p) : ∀ {k : Nat},k≤(adl v 8).length→qok (fu m S v s k)∧(∀ j,j<k→¬ qlt (fu m S v s k) (lw (clq m S v (pix v j) (s (pix v j)))))∧(fu m S v s k=(0,1)∨∃ j,j<k∧fu m S v s k=lw (clq m S v (pix v j) (s (pix v j))))
 | 0,_=>⟨⟨by simp[fu],by simp[fu],by simp[fu]⟩,fun j hj=>by omega,.inl rfl⟩
 | k+1,hk=>by
  obtain⟨h1,h2,h3⟩:=fu_max (m:=m) hv hS hs (show k≤(adl v 8).length by omega)
  have hok : ∀ j,j<k+1→qok (lw (clq m S v (pix v j) (s (pix v j)))):=fun j hj=>by
   obtain⟨_,hp8,hpv,_⟩:=pix_at (v:=v) (k:=j) (by omega)
   exact (lw_ok (clq_ok (m:=m) hv hS hp8 hpv (hs _ hp8))).1
  unfold fu
  split
  ·rename_i hl
   refine⟨hok k (by omega),fun j hj=>?_,.inr ⟨k,by omega,rfl⟩⟩
   rcases Nat.lt_succ_iff_lt_or_eq.1 hj with hj'|rfl
   ·exact fun hh=>h2 j hj' (qlt_tr h1 (hok k (by omega)) (hok j hj) hl hh)
   ·exact qlt_irr _
  ·rename_i hl
   refine⟨h1,fun j hj=>?_,?_⟩
   ·rcases Nat.lt_succ_iff_lt_or_eq.1 hj with hj'|rfl
    ·exact h2 j hj'
    ·exact hl
   ·rcases h3 with h3|⟨j,hj,h3⟩
    ·exact .inl h3
    ·exact .inr ⟨j,by omega,h3⟩
theorem la_min {m S : Int} {v s : Nat→Int} (hv : vok v) (hS : 0≤S∧S≤61) : ∀ {k : Nat},k≤(adl v 8).length→qok (la m S v s k)∧(∀ j,j<k→0<s (pix v j)→¬ qlt (lw (clq m S v (pix v j) (s (pix v j)-1))) (la m S v s k))∧(la m S v s k=(100000000,0)∨∃ j,j<k∧0<s (pix v j)∧la m S v s k=lw (clq m S v (pix v j) (s (pix v j)-1)))
 | 0,_=>⟨⟨by simp[la],by simp[la],by simp[la]⟩,fun j hj=>by omega,.inl rfl⟩
 | k+1,hk=>by
  obtain⟨h1,h2,h3⟩:=la_min (m:=m) (s:=s) hv hS (show k≤(adl v 8).length by omega)
  have hok : ∀ j,j<k+1→0<s (pix v j)→qok (lw (clq m S v (pix v j) (s (pix v j)-1))):=fun j hj hp=>by
   obtain⟨_,hp8,hpv,_⟩:=pix_at (v:=v) (k:=j) (by omega)
   exact (lw_ok (clq_ok (m:=m) hv hS hp8 hpv (by omega))).1
  unfold la
  split
  ·rename_i hpos
   split
   ·rename_i hl
    refine⟨h1,fun j hj hp=>?_,?_⟩
    ·rcases Nat.lt_succ_iff_lt_or_eq.1 hj with hj'|rfl
     ·exact h2 j hj' hp
     ·exact qlt_asymm h1 (hok j (by omega) hp) hl
    ·rcases h3 with h3|⟨j,hj,h3⟩
     ·exact .inl h3
     ·exact .inr ⟨j,by omega,h3⟩
   ·rename_i hl
    refine⟨hok k (by omega) hpos,fun j hj hp=>?_,.inr ⟨k,by omega,hpos,rfl⟩⟩
    rcases Nat.lt_succ_iff_lt_or_eq.1 hj with hj'|rfl
    ·exact fun hh=>hl (le_qlt h1 (hok j hj hp) (hok k (by omega) hpos) (h2 j hj' hp) hh)
    ·exact qlt_irr _
  ·rename_i hpos
   refine⟨h1,fun j hj hp=>?_,?_⟩
   ·rcases Nat.lt_succ_iff_lt_or_eq.1 hj with hj'|rfl
    ·exact h2 j hj' hp
    ·exact absurd hp hpos
   ·rcases h3 with h3|⟨j,hj,h3⟩
    ·exact .inl h3
    ·exact .inr ⟨j,by omega,h3⟩
theorem pix_of {v : Nat→Int} {p : Nat} (hp : p<8) (h : 0<v p) : ∃ j,j<(adl v 8).length∧pix v j=p:=by
 have e:=adl_at hp h
 refine⟨_,(List.getElem?_eq_some_iff.1 e).1,?_⟩
 unfold pix
 rw[List.getD_eq_getElem?_getD,e];rfl
theorem jr_iff {m S : Int} {v s : Nat→Int} (hv : vok v) (hS : 0≤S∧S≤61) (hs : ∀ p,p<8→0≤s p∧s p≤100) : jr m S v s↔RES m S v s:=by
 obtain⟨f1,f2,f3⟩:=fu_max (m:=m) hv hS (fun p hp=>(hs p hp).1) (Nat.le_refl (adl v 8).length)
 obtain⟨l1,l2,l3⟩:=la_min (m:=m) (s:=s) hv hS (Nat.le_refl (adl v 8).length)
 obtain⟨⟨qf,_⟩,⟨ql,_⟩⟩:=fu_qb (m:=m) hv hS hs (Nat.le_refl (adl v 8).length)
 unfold jr
 by_cases hg : gal S v s
 ·by_cases hd : due S v=0
  ·rw[if_neg (fun hh=>hh.2 hd)]
   refine⟨fun _=>⟨hg,fun p q _ _ hq _ hsq=>?_⟩,fun h=>h.1⟩
   exfalso
   have h0:=hg.2
   rw[hd] at h0
   have:=sm_lt (s:=fun _=>0) (t:=s) (n:=8) (p:=q) (fun i hi=>(hs i hi).1) hq hsq
   rw[sm_0] at this
   omega
  ·rw[if_pos ⟨hg,hd⟩]
   constructor
   ·intro h
    refine⟨hg,fun p q hp hvp hq hvq hsq hh=>?_⟩
    obtain⟨i,hi,rfl⟩:=pix_of hp hvp
    obtain⟨j,hj,rfl⟩:=pix_of hq hvq
    have o1:=clq_ok (m:=m) hv hS hp hvp (hs _ hp).1
    have o2:=clq_ok (m:=m) hv hS hq hvq (s:=s (pix v j)-1) (by omega)
    have k1:=(lw_lt o2 o1).2 hh
    have k2:=le_qlt l1 (lw_ok o2).1 (lw_ok o1).1 (l2 j hj hsq) k1
    exact h (qlt_le l1 (lw_ok o1).1 f1 k2 (f2 i hi))
   ·rintro⟨_,h⟩ hh
    rcases f3 with f3|⟨i,hi,f3⟩
    ·rw[f3] at hh
     unfold qlt at hh
     rw[if_neg (by simp)] at hh
     simp only at hh
     omega
    ·obtain⟨_,hp,hvp,_⟩:=pix_at (v:=v) hi
     have o1:=clq_ok (m:=m) hv hS hp hvp (hs _ hp).1
     rcases l3 with l3|⟨j,hj,hsq,l3⟩
     ·rw[l3] at hh
      by_cases hz : (fu m S v s (adl v 8).length).2=0
      ·rw[qlt_z rfl hz] at hh
       simp only at hh;omega
      ·exact qlt_zn rfl hz ⟨by simp,by simp,by simp⟩ f1 hh
     ·obtain⟨_,hq,hvq,_⟩:=pix_at (v:=v) hj
      have o2:=clq_ok (m:=m) hv hS hq hvq (s:=s (pix v j)-1) (by omega)
      rw[f3,l3,lw_lt o2 o1] at hh
      exact h _ _ hp hvp hq hvq hsq hh
 ·rw[if_neg (fun hh=>hg hh.1)]
  exact⟨fun h=>absurd h hg,fun h=>absurd h.1 hg⟩
def PRV (m S L : Int) (l st : List Int) : Prop:=flt m S L l=0∧st.length=l.length∧(∀ x∈st,0≤x∧x≤S)∧jr m S (vl L l) (gl0 st)
instance (m S L : Int) (l st : List Int) : Decidable (PRV m S L l st):=by unfold PRV;infer_instance
theorem f29_ok {H : Heap} {m S L : Int} {x y : Value} {l st : List Int} (h : LS H x l) (hst : LS H y st) : Gives Try.prog 29 [.agg ⟨A3 m S L⟩,x,y] H (.bool (decide (PRV m S L l st))):=by
 have hl:=h.len
 have hsl:=hst.len
 obtain⟨px,nx',cx,rfl⟩:=h.s.isS
 obtain⟨py,ny',cy,rfl⟩:=hst.s.isS
 refine F.entryL rfl dg29 do29 de29 rfl (by kernel_rfl) ?_
 simp only[sets]
 refine V.re [(0,.agg ⟨A3 m S L⟩),(1,.slice px nx' cx),(2,.slice py ny' cy)] (N:=38) zE zY ?_
 intro t hF hA
 simp only[Kn,and_true] at hA
 refine zS ?_
 refine V.l0 ?_
 refine V.heap (fun X=>Grow H X∧Bx X H.next (A3 m S L) 28) ⟨?_,?_⟩ ?_
 ·exact zW
 ·exact zB
 rintro H1 ⟨g1,b1⟩
 refine zS ?_
 refine V.run ?_
 have zf:=b1.2
 refine VI.sz 2 ?_
 simp only[ds]
 refine VI.callA rfl (f54_ok (m:=m) (S:=S) (L:=L) (h.grow g1)) zA (fun H2 g2=>?_)
 have b2:=b1.grow g2
 have g12:=g1.trans g2
 by_cases hbad : ¬ flt m S L l=0∨¬ st.length=l.length
 ·have hP : decide (PRV m S L l st)=false:=decide_eq_false (fun hh=>hbad.elim (fun k=>k hh.1) (fun k=>k hh.2.1))
  rw[hP]
  have hbb : (¬ flt m S L l=0∨¬ (st.length : Int)=l.length)=True:=eq_true (hbad.imp id (fun k=>by omega))
  have zf:=And.intro @hl<|And.intro @hsl<|@hbb
  refine VI.sz 9 ?_
  simp only[ds]
  have zf:=b2.2
  refine VI.sz 2 ?_
  simp only[ds]
  refine VI.gdF zG ?_
  refine VI.s0 1 ?_
  simp only[ds]
  refine VI.gdF zG ?_
  refine VI.l0 ?_
  refine zS ?_
  refine V.condT zA ?_
  refine zS ?_
  refine V.l0 ?_
  refine zS ?_
  refine V.ret (V.rets rfl (Lv.retG (by simp +contextual (disch:=first|omega|simp only[nx];omega) only[D1,cells_alloc_at,cells_alloc_ne,cells_set_at,cells_set_ne,yres,yres1,yresL,qA,qB,qC,D5,hF,hA,↓reduceIte,qD,qE];rfl) ?_ ?_))
  ·exact g12
  ·rfl
 ·have h0 : flt m S L l=0:=Decidable.by_contra fun k=>hbad (.inl k)
  have hll : st.length=l.length:=Decidable.by_contra fun k=>hbad (.inr k)
  obtain⟨hr,hl8,hb⟩:=flt_0.1 h0
  have hm : 1≤m∧m≤5:=⟨hr.1,hr.2.1⟩
  have hvk:=vl_ok (L:=L) hb
  have hS : 0≤S∧S≤61:=⟨hr.2.2.1,by have:=hr.2.2.2.1;omega⟩
  have hbb : (¬ flt m S L l=0∨¬ (st.length : Int)=l.length)=False:=eq_false (fun k=>k.elim (fun k=>k h0) (fun k=>k (by omega)))
  have zf:=And.intro @hl<|And.intro @hsl<|@hbb
  refine VI.sz 9 ?_
  simp only[ds]
  have zf:=b2.2
  refine VI.sz 2 ?_
  simp only[ds]
  refine VI.callAT zG rfl (f59_ok m S L H2) zA (fun H3 g3=>?_)
  refine VI.s0 1 ?_
  simp only[ds]
  have g13:=g12.trans g3
  have b3:=b2.grow g3
  refine VI.callAT zG rfl (f58_ok (hst.grow g13) (by omega) (fun X y _ _=>f60_fv 0 S X y)) zA (fun H4 g4=>?_)
  have b4:=b3.grow g4
  have g14:=g13.trans g4
  refine VI.l0 ?_
  refine zS ?_
  refine V.condP zP (fun hx=>?_) (fun hx=>?_)
  ·have hP : decide (PRV m S L l st)=false:=decide_eq_false (fun hh=>hx hh.2.2.1)
   rw[hP]
   refine zS ?_
   refine V.l0 ?_
   refine zS ?_
   refine V.ret (V.rets rfl (Lv.retG (by simp +contextual (disch:=first|omega|simp only[nx];omega) only[D1,cells_alloc_at,cells_alloc_ne,cells_set_at,cells_set_ne,yres,yres1,yresL,qA,qB,qC,D5,hF,hA,↓reduceIte,qD,qE];rfl) ?_ ?_))
   ·exact g14
   ·rfl
  have hx:=Decidable.not_not.1 hx
  have hsb : ∀ p,p<8→0≤gl0 st p∧gl0 st p≤100:=by
   intro p _
   by_cases hp : p<st.length
   ·rw[gl0_at hp]
    have:=hx _ (List.getElem_mem hp)
    omega
   ·rw[gl0_out (by omega)];omega
  refine zS ?_
  refine V.run ?_
  have zf:=b4.2
  refine VI.sz 2 ?_
  simp only[ds]
  refine VI.callA rfl (f55_ok (m:=m) (S:=S) (L:=L) (h.grow g14) hl8 hb hm) zA (fun H5 g5=>?_)
  refine VI.s0 1 ?_
  simp only[ds]
  refine VI.callA rfl (f62_ok ((hst.grow g14).grow g5) (by omega)) zA (fun H6 g6=>?_)
  refine VI.callA rfl (f61_ok (S:=S) (L:=L) (c:=gl0 l) (s:=gl0 st) hm hvk hS hsb) zA (fun H7 g7=>?_)
  refine VI.l0 ?_
  refine zS ?_
  refine V.l0 ?_
  refine zS ?_
  refine V.ret (V.rets rfl (Lv.retG (by simp +contextual (disch:=first|omega|simp only[nx];omega) only[D1,cells_alloc_at,cells_alloc_ne,cells_set_at,cells_set_ne,yres,yres1,yresL,qA,qB,qC,D5,hF,hA,↓reduceIte,qD,qE];rfl) ?_ ?_))
  ·exact ((g14.trans g5).trans g6).trans g7
  ·congr 1
   rw[decide_eq_decide]
   exact⟨fun k=>⟨h0,hll,hx,k⟩,fun k=>k.2.2.2⟩
end Go.Xe.TVX
/- What the functions of the layer seat come to: SeatAll. Conditions: none. -/
-- MOD TV
namespace Go.Xe.TVX
open Go Go.Xe Go.Proofs
open Nat renaming reduceLeDiff → qA, reduceSub → qB, reduceAdd → qC, reduceEqDiff → qD, reduceLT → qE
open Int renaming reduceNegSucc → qF, reduceEq → qG
open Go.Xe.V renaming seq → sA, block → sB, scope → sC, skip → sD, close → sE
open Go.Xe renaming pth → P
open Go.Xe.Sea
set_option maxRecDepth 100000
set_option maxHeartbeats 3200000
set_option linter.unusedSimpArgs false
noncomputable def d49 : FCode:=(.seq (.run (.go (.move (.con (.int .i64 (.ofNat 0)))) (P 2)::
[])) (.seq (.run (.go (.move (.con (.int .i64 (.ofNat 0)))) (P 3)::
[])) (.seq (.seq (.run (.go (.move (.con (.int .i64 (.ofNat 0)))) (P 4)::
[])) (.block 0 (.loop (.seq (.seq (.run (.go (.move (tm 4)) (P 5)::
.go (.move (tm 0)) (P 6)::
.go (.len 0 (tm 6)) (P 7)::
.go (.bin .lss 3 (tm 5) (tm 7)) (P 8)::
[])) (.cond (tm 8) .skip (.exit 0))) (.seq (.block 1 (.run (.go (.move (tm 3)) (P 11)::
.go (.move (tm 0)) (P 12)::
.go (.move (tm 4)) (P 13)::
.go (.indexAddr none 1 (tm 12) (tm 13)) (P 14)::
.go (.load1 (tm 14)) (P 15)::
.go (.bin .add 3 (tm 11) (tm 15)) (P 16)::
.go (.move (tm 16)) (P 3)::
[]))) (.run (.go (.move (tm 4)) (P 9)::
.go (.bin .add 3 (tm 9) (.con (.int .i64 (.ofNat 1)))) (P 10)::
.go (.move (tm 10)) (P 4)::
[]))))))) (.seq (.run (.go (.move (tm 3)) (P 17)::
.go (.move (tm 17)) (P 2)::
[])) .ret))))
theorem de49 : @compF Try.prog (Gl.none Try.prog) Try.f49 1=.mk d49 (mkTT 18) [(P 0)] [.tmp (P 2)]:=by kernel_rfl
theorem dg49 : Try.prog.funcs[49]?=some Try.f49:=Try.func49
theorem do49 : okF Try.prog Try.f49=true:=by kernel_rfl
noncomputable def d10 : FCode:=(.seq (.run (.go (.box 23 (tm 0)) (P 2)::
.go (.move (.con (.bool false))) (P 4)::
[])) (.seq (.seq (.run (.go (.loadN 3 (tm 2)) (P 9)::
.go (.move (tm 1)) (P 10)::
.go (.call (.con (.func (.func 48) ⟨[]⟩ ⟨[]⟩)) [(tm 9),(tm 10)]) (P 11)::
.go (.un .not (tm 11)) (P 12)::
[])) (.cond (tm 12) (.seq (.run (.go (.call (.con (.func (.func 20) ⟨[]⟩ ⟨[]⟩)) []) (P 13)::
.go (.move (tm 13)) (P 4)::
[])) .ret) .skip)) (.seq (.run (.go (.loadN 3 (tm 2)) (P 15)::
.go (.call (.con (.func (.func 22) ⟨[]⟩ ⟨[]⟩)) [tm 15]) (P 16)::
.go (.move (tm 1)) (P 17)::
.go (.call (.con (.func (.func 24) ⟨[]⟩ ⟨[]⟩)) [tm 17]) (P 18)::
.go (.call (.con (.func (.func 23) ⟨[]⟩ ⟨[]⟩)) [(tm 16),(tm 18)]) (P 19)::
.go (.move (tm 19)) (P 14)::
.go (.extract (tm 14) 0) (P 20)::
.go (.extract (tm 14) 1) (P 21)::
.go (.move (tm 20)) (P 5)::
.go (.move (tm 21)) (P 6)::
[])) (.seq (.seq (.run (.go (.move (tm 6)) (P 22)::
.go (.bin .neq 26 (tm 22) (.con (.int .i64 (.ofNat 0)))) (P 23)::
[])) (.cond (tm 23) (.seq (.run (.go (.move (tm 6)) (P 24)::
.go (.bin .eql 26 (tm 24) (.con (.int .i64 (.ofNat 10)))) (P 25)::
.go (.move (tm 25)) (P 26)::
.gd (P 26) true (.move (tm 5)) (P 27)::
.gd (P 26) true (.len 0 (tm 27)) (P 28)::
.gd (P 26) true (.bin .eql 3 (tm 28) (.con (.int .i64 (.ofNat 0)))) (P 29)::
.go (.pick (tm 26) (tm 29) (.con (.bool false))) (P 30)::
.go (.move (tm 30)) (P 31)::
.gd (P 31) true (.call (.con (.func (.func 20) ⟨[]⟩ ⟨[]⟩)) []) (P 32)::
.go (.pick (tm 31) (tm 32) (.con (.bool false))) (P 33)::
.go (.move (tm 33)) (P 4)::
[])) .ret) .skip)) (.seq (.run (.go (.move (.con (.int .i64 (.ofNat 0)))) (P 7)::
[])) (.seq (.seq (.run (.go (.move (.con (.int .i64 (.ofNat 0)))) (P 8)::
[])) (.block 0 (.loop (.seq (.seq (.run (.go (.move (tm 8)) (P 34)::
.go (.move (tm 1)) (P 35)::
.go (.len 0 (tm 35)) (P 36)::
.go (.bin .lss 3 (tm 34) (tm 36)) (P 37)::
[])) (.cond (tm 37) .skip (.exit 0))) (.seq (.block 1 (.seq (.draw 6 (.go (.loadN 3 (tm 2)) (P 40)::
.go (.move (tm 1)) (P 41)::
.go (.move (tm 8)) (P 42)::
.go (.indexAddr none 1 (tm 41) (tm 42)) (P 43)::
.go (.load1 (tm 43)) (P 44)::
.go (.call (.con (.func (.func 37) ⟨[]⟩ ⟨[]⟩)) [(tm 40),(tm 44)]) (P 45)::
[]) [.ok,.ok,.ok,.ok,.ok,.ok]) (.cond (tm 45) (.run (.go (.fieldAddr 1 (tm 2)) (P 46)::
.go (.load1 (tm 46)) (P 47)::
.go (.move (tm 47)) (P 7)::
[])) (.seq (.run (.go (.move (tm 8)) (P 48)::
.go (.move (tm 5)) (P 49)::
.go (.len 0 (tm 49)) (P 50)::
.go (.bin .lss 3 (tm 48) (tm 50)) (P 51)::
.go (.move (tm 51)) (P 52)::
.gd (P 52) true (.move (tm 5)) (P 53)::
.gd (P 52) true (.move (tm 8)) (P 54)::
.gd (P 52) true (.indexAddr none 1 (tm 53) (tm 54)) (P 55)::
.gd (P 52) true (.load1 (tm 55)) (P 56)::
.gd (P 52) true (.bin .neq 3 (tm 56) (.con (.int .i64 (.ofNat 0)))) (P 57)::
.go (.pick (tm 52) (tm 57) (.con (.bool false))) (P 58)::
[])) (.cond (tm 58) (.seq (.run (.go (.move (.con (.bool false))) (P 4)::
[])) .ret) .skip))))) (.run (.go (.move (tm 8)) (P 38)::
.go (.bin .add 3 (tm 38) (.con (.int .i64 (.ofNat 1)))) (P 39)::
.go (.move (tm 39)) (P 8)::
[]))))))) (.seq (.run (.go (.move (tm 5)) (P 59)::
.go (.len 0 (tm 59)) (P 60)::
.go (.move (tm 1)) (P 61)::
.go (.len 0 (tm 61)) (P 62)::
.go (.bin .eql 3 (tm 60) (tm 62)) (P 63)::
.go (.move (tm 63)) (P 64)::
.gd (P 64) true (.move (tm 5)) (P 65)::
.gd (P 64) true (.call (.con (.func (.func 49) ⟨[]⟩ ⟨[]⟩)) [tm 65]) (P 66)::
.gd (P 64) true (.move (tm 7)) (P 67)::
.gd (P 64) true (.bin .eql 3 (tm 66) (tm 67)) (P 68)::
.go (.pick (tm 64) (tm 68) (.con (.bool false))) (P 69)::
.go (.move (tm 69)) (P 70)::
.gd (P 70) true (.loadN 3 (tm 2)) (P 71)::
.gd (P 70) true (.call (.con (.func (.func 22) ⟨[]⟩ ⟨[]⟩)) [tm 71]) (P 72)::
.gd (P 70) true (.move (tm 1)) (P 73)::
.gd (P 70) true (.call (.con (.func (.func 24) ⟨[]⟩ ⟨[]⟩)) [tm 73]) (P 74)::
.gd (P 70) true (.move (tm 5)) (P 75)::
.gd (P 70) true (.call (.con (.func (.func 24) ⟨[]⟩ ⟨[]⟩)) [tm 75]) (P 76)::
.gd (P 70) true (.call (.con (.func (.func 29) ⟨[]⟩ ⟨[]⟩)) [(tm 72),(tm 74),(tm 76)]) (P 77)::
.go (.pick (tm 70) (tm 77) (.con (.bool false))) (P 78)::
.go (.move (tm 78)) (P 79)::
.gd (P 79) true (.call (.con (.func (.func 20) ⟨[]⟩ ⟨[]⟩)) []) (P 80)::
.go (.pick (tm 79) (tm 80) (.con (.bool false))) (P 81)::
.go (.move (tm 81)) (P 4)::
[])) .ret)))))))
theorem de10 : @compF Try.prog (Gl.none Try.prog) Try.f10 2=.mk d10 (mkTT 82) [(P 0),(P 1)] [.tmp (P 4)]:=by kernel_rfl
theorem dg10 : Try.prog.funcs[10]?=some Try.f10:=Try.func10
theorem do10 : okF Try.prog Try.f10=true:=by kernel_rfl
theorem f49_ok {H : Heap} {x : Value} {l : List Int} (h : LS H x l) (hn : l.length≤100) (hb : ∀ v∈l,-10000000≤v∧v≤10000000) : Gives Try.prog 49 [x] H (I (sl l)):=by
 have hl:=h.len
 obtain⟨px,nx',cx,rfl⟩:=h.s.isS
 refine F.entryL rfl dg49 do49 de49 rfl (by kernel_rfl) ?_
 simp only[sets]
 refine V.re [(0,.slice px nx' cx)] (N:=18) zE zY ?_
 intro t hF hA
 simp only[Kn,and_true] at hA
 refine zS ?_
 refine V.l0 ?_
 refine zS ?_
 refine V.l0 ?_
 refine zS ?_
 refine V.l0 ?_
 refine zS ?_
 refine V.loop (fun z t m X=>∃ (k : Nat),k≤l.length∧z=l.length-k∧m=[]∧X=H∧(-(10000000*(k : Int))≤sl (l.take k)∧sl (l.take k)≤10000000*k)∧Full 18 t∧Kn [(0,.slice px nx' cx),(3,I (sl (l.take k))),(4,I k)] t) l.length ?_ ?_
 ·exact⟨0,by omega,by omega,rfl,rfl,by simp[sl],zF,zK⟩
 clear hF hA
 rintro z t m X ⟨k,hk,rfl,rfl,hX,hs,hF,hA⟩
 obtain rfl : H=X:=hX.symm
 simp only[Kn,and_true] at hA
 refine zS ?_
 have zf:=@hl
 refine V.lz ?_
 refine zS ?_
 refine V.condP zP (fun hlt=>?_) (fun hlt=>?_)
 ·have hlt' : k<l.length:=by omega
  obtain⟨p,hp,hx⟩:=h.at hlt'
  have hx1:=hx H (.refl _)
  have hbk:=hb _ (List.getElem_mem hlt')
  have e1 : sl (l.take (k+1))=sl (l.take k)+l[k]:=by rw[tk1 hlt',sl_app]
  refine zS ?_
  have zf:=And.intro @hp<|@hx1
  refine V.lz ?_
  refine zS ?_
  refine V.l0 ?_
  refine V.nil (Or.inl ⟨rfl,l.length-(k+1),by omega,?_⟩)
  refine⟨k+1,hlt',rfl,rfl,rfl,by rw[e1];omega,?_⟩
  rw[e1]
  exact⟨zF,zK⟩
 ·obtain rfl : k=l.length:=by omega
  rw[List.take_length] at hA hs
  refine V.exit ?_
  refine zX ?_
  refine V.nil (Or.inr ⟨by simp,?_⟩)
  refine zX ?_
  refine zS ?_
  refine V.l0 ?_
  refine zS ?_
  refine V.ret (V.rets rfl (Lv.retG (by simp +contextual (disch:=first|omega|simp only[nx];omega) only[D1,cells_alloc_at,cells_alloc_ne,cells_set_at,cells_set_ne,yres,yres1,yresL,qA,qB,qC,D5,hF,hA,↓reduceIte,qD,qE];rfl) ?_ ?_))
  ·exact .refl _
  ·rfl
theorem sl_fl (f : Nat→Int) : ∀ n,sl (fl n f)=sm f n
 | 0=>rfl
 | n+1=>by
  have e : fl (n+1) f=fl n f++[f n]:=by simp[fl,List.range_succ]
  rw[e,sl_app,sl_fl f n];rfl
theorem gl0_fl {m S L : Int} {l : List Int} (hl8 : l.length≤8) (hb : ∀ v∈l,0≤v∧v≤10000) (hS : 0≤S∧S≤61) : gl0 (fl l.length (otc m S (vl L l)).1)=(otc m S (vl L l)).1:=by
 have F:=otc_fin (m:=m) (vl_ok (L:=L) hb) hS (vl_8 (L:=L) hl8)
 funext p
 by_cases hp : p<l.length
 ·rw[gl0_at (by rw[fl_len];exact hp),fl_at]
 ·rw[gl0_out (by rw[fl_len];omega),F.1.adm p (fun hh=>by have:=hh.2;rw[vl_out (by omega)] at this;omega)]
theorem otc_res {m S : Int} {v : Nat→Int} (hv : vok v) (hS : 0≤S∧S≤61) (hv8 : ∀ p,¬ p<8→v p=0) (hs : sure m S v) : RES m S v (otc m S v).1:=by
 have F:=otc_fin (m:=m) hv hS hv8
 have n0:=F.1.nn
 refine⟨⟨fun p hp hh=>?_,?_⟩,fun p q hp hvp hq hvq hsq=>F.1.weak q p _ hq hvq hp hvp (by omega) (by omega)⟩
 ·have:=F.1.adm p (fun k=>by have:=k.2;omega)
  omega
 ·unfold due
  rcases sure_sum hv hS hv8 hs with⟨hsome,e⟩|⟨hn,e⟩
  ·have:=(sm_pos' hv).2 hsome
   rw[if_neg (by omega)];exact e
  ·have hz : sm v 8=0:=by
    have h1:=sm_bd hv
    apply Decidable.by_contra
    intro hh
    obtain⟨p,hp,h2⟩:=(sm_pos' hv).1 (by omega)
    exact hn p hp h2
   rw[if_pos hz,e,sm_0]
theorem f10_all {H : Heap} {m S L : Int} {x : Value} {l : List Int} (hx : Sl H x (l.map I)) : F Try.prog 10 ⟨[.agg ⟨A3 m S L⟩,x]⟩ H (fun w _=>w=.bool true):=by
 have h : LS H x l:=⟨hx⟩
 have hl:=h.len
 obtain⟨px,nx',cx,rfl⟩:=h.s.isS
 refine F.entryL rfl dg10 do10 de10 rfl (by kernel_rfl) ?_
 simp only[sets]
 refine V.re [(0,.agg ⟨A3 m S L⟩),(1,.slice px nx' cx)] (N:=82) zE zY ?_
 intro t hF hA
 simp only[Kn,and_true] at hA
 refine zS ?_
 refine V.l0 ?_
 refine V.heap (fun X=>Grow H X∧Bx X H.next (A3 m S L) 23) ⟨?_,?_⟩ ?_
 ·exact zW
 ·exact zB
 rintro H1 ⟨g1,b1⟩
 refine zS ?_
 refine V.run ?_
 have zf:=b1.2
 refine VI.sz 2 ?_
 simp only[ds]
 refine VI.callA rfl (f48_ok (m:=m) (S:=S) (L:=L) (h.grow g1)) zA (fun H2 g2=>?_)
 have b2:=b1.grow g2
 have g12:=g1.trans g2
 refine VI.l0 ?_
 refine zS ?_
 refine V.condP zP (fun h0=>?_) (fun h0=>?_)
 ·refine zS ?_
  refine V.run ?_
  refine VI.callA rfl (f20_ok _) zA (fun H3 g3=>?_)
  refine VI.l0 ?_
  refine zS ?_
  refine V.ret (V.rets rfl (Lv.retF (by simp +contextual (disch:=first|omega|simp only[nx];omega) only[D1,cells_alloc_at,cells_alloc_ne,cells_set_at,cells_set_ne,yres,yres1,yresL,qA,qB,qC,D5,hF,hA,↓reduceIte,qD,qE];rfl) ?_))
  rfl
 have h0 : flt m S L l=0:=Decidable.not_not.1 h0
 obtain⟨hr,hl8,hb⟩:=flt_0.1 h0
 have hvk:=vl_ok (L:=L) hb
 have hv8:=vl_8 (L:=L) hl8
 have hS : 0≤S∧S≤61:=⟨hr.2.2.1,by have:=hr.2.2.2.1;omega⟩
 refine zS ?_
 refine V.run ?_
 have zf:=b2.2
 refine VI.sz 1 ?_
 simp only[ds]
 refine VI.callA rfl (f22_ok m S L _) zA (fun H3 g3=>?_)
 refine VI.s0 1 ?_
 simp only[ds]
 refine VI.callR zA (f24_ok (h.grow (g12.trans g3)) (by omega)) zA (fun w4 H4 ⟨g4,o4⟩=>?_)
 refine VI.callR zA (f23_ok (m:=m) (S:=S) (L:=L) (ow_ls o4) hS) zA (fun w5 H5 ⟨g5,s5⟩=>?_)
 have g25:=(g3.trans g4).trans g5
 have b5:=b2.grow g25
 have gH5:=g12.trans g25
 obtain⟨y1,e1,rfl,k1⟩:=s5.ok h0
 refine VI.l0 ?_
 refine zS ?_
 refine V.l0 ?_
 refine zS ?_
 rcases k1 with⟨_,rfl,rfl⟩|⟨hsu,rfl,q1⟩
 ·refine V.condP zP (fun hc=>?_) (fun hc=>?_)
  ·have hl0 : ∀ X,ylen 0 X (.slice none 0 0)=some (I 0):=fun _=>rfl
   have hz : ((0 : Nat) : Int)=0:=rfl
   refine zS ?_
   refine V.run ?_
   have zf:=And.intro @hl0<|@hz
   refine VI.sz 8 ?_
   simp only[ds]
   refine VI.callAT zG rfl (f20_ok _) zA (fun Hb gb=>?_)
   refine VI.l0 ?_
   refine zS ?_
   refine V.ret (V.rets rfl (Lv.retF (by simp +contextual (disch:=first|omega|simp only[nx];omega) only[D1,cells_alloc_at,cells_alloc_ne,cells_set_at,cells_set_ne,yres,yres1,yresL,qA,qB,qC,D5,hF,hA,↓reduceIte,qD,qE];rfl) ?_))
   rfl
  ·exact absurd (by simp) hc
 refine V.condP zP (fun hc=>?_) (fun hc=>?_)
 ·exact absurd hc (by simp)
 obtain⟨A,hA0⟩ : ∃ A,A=(otc m S (vl L l)).1:=⟨_,rfl⟩
 have F:=otc_fin (m:=m) hvk hS hv8
 have hbd:=Fin.bd F hS.1
 have hres:=otc_res hvk hS hv8 hsu
 have hgl:=gl0_fl (m:=m) (L:=L) hl8 hb hS
 have hsum:=sl_fl (otc m S (vl L l)).1 l.length
 rw[← hA0] at q1 hbd hres hgl hsum
 have hAdm : ∀ p,vl L l p=0→A p=0:=fun p hp=>by rw[hA0];exact F.1.adm p (fun hh=>by have:=hh.2;omega)
 have hA8 : sm A 8=sm A l.length:=by
  have:=sm_out (v:=A) (n:=l.length) (k:=8-l.length) (fun p hp=>hAdm p (vl_out hp))
  rw[show l.length+(8-l.length)=8 by omega] at this
  exact this
 have hdue : sl (fl l.length A)=due S (vl L l):=by rw[hsum,← hA8];exact hres.1.2
 have ql:=q1.len
 rw[fl_len] at ql
 clear F
 have hpr : PRV m S L l (fl l.length A):=by
  refine⟨h0,fl_len _ _,fun x hx=>?_,?_⟩
  ·obtain⟨i,_,rfl⟩:=List.mem_map.1 hx
   exact hbd.1 i
  ·rw[jr_iff hvk hS (fun p _=>by rw[hgl];have:=hbd.1 p;omega),hgl]
   exact hres
 refine zS ?_
 refine V.l0 ?_
 refine zS ?_
 refine V.l0 ?_
 refine zS ?_
 refine V.loop (fun z t mm X=>∃ (p : Nat),p≤l.length∧z=l.length-p∧mm=[]∧Grow H5 X∧Full 82 t∧Kn [(1,.slice px nx' cx),(2,PT H.next),(5,y1),(7,I (if 0<sm (vl L l) p then S else 0)),(8,I p)] t) l.length ?_ ?_
 ·exact⟨0,by omega,by omega,rfl,.refl _,zF,zK⟩
 clear hF hA
 rintro z t mm X ⟨p,hp,rfl,rfl,hg,hF,hA⟩
 simp only[Kn,and_true] at hA
 have bx:=b5.grow hg
 refine zS ?_
 have zf:=@hl
 refine V.lz ?_
 refine zS ?_
 refine V.condP zP (fun hlt=>?_) (fun hlt=>?_)
 ·have hlt' : p<l.length:=by omega
  obtain⟨lp,lp1,lp2⟩:=h.at hlt'
  have lp3:=lp2 X (gH5.trans hg)
  obtain⟨ap,ap1,ap2⟩:=q1.at (k:=p) (by rw[fl_len];exact hlt')
  rw[fl_at] at ap2
  have hbp:=hb _ (List.getElem_mem hlt')
  have ev : vl L l p=if adm L l[p] then l[p] else 0:=by unfold vl vts;rw[gl0_at hlt']
  have es : sm (vl L l) (p+1)=sm (vl L l) p+vl L l p:=rfl
  have hs0 : 0≤sm (vl L l) p:=(sm_ub (s:=vl L l) (b:=10000) (n:=p) (fun i hi=>hvk i (by omega))).1
  refine zS ?_
  refine V.draw ?_
  have zf:=And.intro bx.2<|And.intro @lp1<|@lp3
  refine VD.nz 5 ?_
  simp only[ds]
  refine VD.callA zA (f37_ok m S L l[p] X) zA (fun X2 g2'=>?_)
  have bx2:=bx.grow g2'
  have hg2:=hg.trans g2'
  have ap3:=ap2 X2 hg2
  have m2:=g2'.1
  refine VD.d0 ?_ ?_ rfl ?_
  ·exact zM
  ·simp only[dcAll,dcOk,wantD,List.cons_append,List.nil_append,true_and,and_true]
  refine zS ?_
  refine V.condP zP (fun ha=>?_) (fun ha=>?_)
  ·refine zS ?_
   have zf:=bx2.2
   refine V.lz ?_
   refine zS ?_
   refine V.l0 ?_
   refine V.nil (Or.inl ⟨rfl,l.length-(p+1),by omega,?_⟩)
   refine⟨p+1,hlt',rfl,rfl,hg2,?_⟩
   have : 0<sm (vl L l) (p+1):=by rw[es,ev,if_pos ha];have:=ha.1;omega
   rw[if_pos this]
   exact⟨zF,zK⟩
  ·have ev0 : vl L l p=0:=by rw[ev,if_neg ha]
   have a0:=hAdm p ev0
   rw[a0] at ap3
   have hpl : ((p : Int)<(l.length : Int))=True:=eq_true (by omega)
   refine zS ?_
   refine V.line' (by simp +contextual (disch:=first|omega|simp only[nx];omega) only[D4,qF,qG,qA,qB,qC,D5,hF,hA,↓reduceIte,qD,qE,ql,hpl,ap1,ap3,ne_eq,not_true_eq_false,not_false_eq_true];with_reducible rfl) ?_
   refine zS ?_
   refine V.condF zA ?_
   refine zS ?_
   refine V.l0 ?_
   refine V.nil (Or.inl ⟨rfl,l.length-(p+1),by omega,?_⟩)
   refine⟨p+1,hlt',rfl,rfl,hg2,?_⟩
   rw[es,ev0,Int.add_zero]
   exact⟨zF,zK⟩
 ·obtain rfl : p=l.length:=by omega
  have q1X:=q1.grow hg
  have gX:=gH5.trans hg
  have f49':=f49_ok q1X (by rw[fl_len];omega) (fun v hv=>by
   obtain⟨i,_,rfl⟩:=List.mem_map.1 hv
   have:=hbd.1 i
   omega)
  have hdu : (if 0<sm (vl L l) l.length then S else 0)=due S (vl L l):=by
   rw[← vl_sum hl8]
   unfold due
   have:=sm_bd hvk
   by_cases hz : sm (vl L l) 8=0
   ·rw[if_neg (by omega),if_pos hz]
   ·rw[if_pos (by omega),if_neg hz]
  rw[hdu] at hA
  rw[hdue] at f49'
  have hee : (due S (vl L l)=due S (vl L l))=True:=eq_self _
  have hll : ((l.length : Int)=l.length)=True:=eq_self _
  refine V.exit ?_
  refine zX ?_
  refine V.nil (Or.inr ⟨by simp,?_⟩)
  refine zX ?_
  refine zS ?_
  refine V.run ?_
  have zf:=And.intro @ql<|And.intro @hl<|@hll
  refine VI.sz 7 ?_
  simp only[ds]
  refine VI.callAT zG rfl (f49') zA (fun Ha ga=>?_)
  have ba:=bx.grow ga
  have zf:=And.intro @hee<|ba.2
  refine VI.sz 5 ?_
  simp only[ds]
  refine VI.callAT zG rfl (f22_ok m S L Ha) zA (fun Hb gb=>?_)
  refine VI.s0 1 ?_
  simp only[ds]
  have gXb:=ga.trans gb
  refine VI.callRT zG zA (f24_ok (h.grow (gX.trans gXb)) (by omega)) zA (fun wc Hc ⟨gc,oc⟩=>?_)
  refine VI.s0 1 ?_
  simp only[ds]
  refine VI.callRT zG zA (f24_ok (q1X.grow (gXb.trans gc)) (by rw[fl_len];omega)) zA (fun wd Hd ⟨gd,od⟩=>?_)
  have f29':=f29_ok (m:=m) (S:=S) (L:=L) ((ow_ls oc).grow gd) (ow_ls od)
  rw[decide_eq_true hpr] at f29'
  refine VI.callAT zG rfl (f29') zA (fun He ge=>?_)
  refine VI.s0 2 ?_
  simp only[ds]
  refine VI.callAT zG rfl (f20_ok _) zA (fun Hf gf=>?_)
  refine VI.l0 ?_
  refine zS ?_
  refine V.ret (V.rets rfl (Lv.retF (by simp +contextual (disch:=first|omega|simp only[nx];omega) only[D1,cells_alloc_at,cells_alloc_ne,cells_set_at,cells_set_ne,yres,yres1,yresL,qA,qB,qC,D5,hF,hA,↓reduceIte,qD,qE];rfl) ?_))
  rfl
end Go.Xe.TVX
/- Rules of reasoning over the executable reading of the model's code (part Z16): arguments, by what their types allow. Conditions: none; for every program. -/
namespace Go.Xe
open Go Go.RowKit Go.ChangeShapes Go.WideShapes
theorem okWide_agg {P : Program} {w : World} {r : Reach} {base : Nat} {t : TypeId} {v : Value} {fs : Array Field} (ht : P.underlying t=some (.struct fs)) (h : Value.okWide P w r base t v) : ∃ cs,v=.agg cs:=by
 unfold Value.okWide at h
 rw[ht] at h
 obtain⟨cs,h,_⟩:=h
 exact⟨cs,h⟩
end Go.Xe
/- The end of a call that has changed nothing of what was there: what a statement asks of the memory behind it. Conditions: as post_of_same's, but that new memory may be frozen. -/
namespace Go.Xe
open Go Go.RowKit Go.ChangeShapes Go.WideShapes
variable {H : Type} {enc : TypeId×Value→H} {P : Program}
theorem post_of_old {f : Func} {s : ChangeSpec} {apart fresh handsOn again : Bool} {W W' : World} {args : Array Value} {v : Value} {ds gs : List (DataW H)} {before pa pv : List MemPlace}
  (hW : DataW.Whole enc P f.params.toList s.vars apart W args.toList ds gs before)
  (hres : ∀ (b : Nat) (sp : Nat→Bool) (hd : Bool),DataW.TrodAll enc P W' b sp hd f.resultTypes.toList (v.resultList f.resultTypes.size) (s.fn H (ds++gs)).results [])
  (hargs : ∀ sp : Nat→Bool,(∀ p∈before,sp p.block=true)→DataW.TrodAll enc P W' 0 sp true f.params.toList args.toList (s.fn H (ds++gs)).args pa)
  (hvars : ∀ sp : Nat→Bool,(∀ p∈before,sp p.block=true)→DataW.TrodVars enc P W' sp s.vars (s.fn H (ds++gs)).vars pv)
  (hps : before=pa++pv) (hk : W.keptBut W' (·∈before)) (hfz : ∀ a : Addr,a.block<W.heap.size→W'.frozen? a=W.frozen? a)
  (hok : ∀ (j : Nat) (t : TypeId) (r : Value),f.resultTypes[j]?=some t→(v.resultList f.resultTypes.size)[j]?=some r→Value.okWide P W' .any 0 t r) :
  s.post enc P f apart fresh handsOn again W args v W':=by
 have old : ∀ p∈before,p.block<W.heap.size:=fun p hp=>hW.lt p hp
 have hold : ∀ p∈before,(fun b=>decide (b<W.heap.size)) p.block=true:=fun p hp=>by simpa using old p hp
 subst hps
 refine⟨ds,gs,_,[],pa,pv,hW,hres _ _ _,hargs _ hold,hvars _ hold,World.keptBut_mono (fun p hp=>⟨hp,.inr (List.mem_append.1 hp)⟩) hk,fun _=>?_⟩
 obtain⟨_,_,_,_,_,hz,hn⟩:=hW
 refine⟨hok,_,_,([]++pa)++pv,⟨[]++pa,pv,trodAll_append (hargs _ (fun _ _=>rfl)) (hres _ _ _),hvars _ (fun _ _=>rfl),rfl,?_,?_⟩,?_⟩
 ·intro b off hp
  have hp' : MemPlace.cell b off∈pa++pv:=by simpa using hp
  rw[hfz _ (old _ hp')]
  exact hz b off hp'
 ·intro ha
  simpa using hn ha
 ·intro p hp _
  simpa using hp
end Go.Xe
