/- What the functions of the layer seat come to: SeatKind. Conditions: none. -/
import Derived.Test.YtlfikodljmdekaaTVJ
-- MOD TV
namespace Go.Xe.TVX
open Go Go.Xe Go.Proofs
open Nat renaming reduceLeDiff → qA, reduceSub → qB, reduceAdd → qC, reduceEqDiff → qD, reduceLT → qE
open Int renaming reduceNegSucc → qF, reduceEq → qG
open Go.Xe.V renaming seq → sA, block → sB, scope → sC, skip → sD, close → sE
open Go.Xe renaming pth → P
open Go.Xe.Sea
set_option maxRecDepth 100000
set_option maxHeartbeats 3200000
set_option linter.unusedSimpArgs false
theorem SR.ok {m S L : Int} {l : List Int} {X : Heap} {w : Value} (h : SR m S L l X w) (h0 : flt m S L l=0) : ∃ y e,w=.tuple ⟨[y,I e]⟩∧((¬ sure m S (vl L l)∧y=.slice none 0 0∧e=10)∨(sure m S (vl L l)∧e=0∧LS X y (fl l.length (otc m S (vl L l)).1))):=by
 obtain⟨y,e,hw,h⟩:=h
 refine⟨y,e,hw,?_⟩
 rcases h with⟨h,_⟩|⟨_,h⟩|⟨_,h⟩
 ·exact absurd h0 h
 ·exact .inl h
 ·exact .inr h
end Go.Xe.TVX
/- What the functions of the layer seat come to: SeatVotes. Conditions: none. -/
-- MOD TV
namespace Go.Xe.TVX
open Go Go.Xe Go.Proofs
open Nat renaming reduceLeDiff → qA, reduceSub → qB, reduceAdd → qC, reduceEqDiff → qD, reduceLT → qE
open Int renaming reduceNegSucc → qF, reduceEq → qG
open Go.Xe.V renaming seq → sA, block → sB, scope → sC, skip → sD, close → sE
open Go.Xe renaming pth → P
open Go.Xe.Sea
set_option maxRecDepth 100000
set_option maxHeartbeats 3200000
set_option linter.unusedSimpArgs false
noncomputable def d36 : FCode:=(.seq (.run (.go (.box 23 (tm 0)) (P 2)::
.go (.move (.con (.int .i64 (.ofNat 0)))) (P 4)::
[])) (.seq (.run (.go (.move (.con (.int .i64 (.ofNat 0)))) (P 5)::
[])) (.seq (.seq (.run (.go (.move (.con (.int .i64 (.ofNat 0)))) (P 6)::
[])) (.block 0 (.loop (.seq (.seq (.run (.go (.move (tm 6)) (P 7)::
.go (.move (tm 1)) (P 8)::
.go (.len 0 (tm 8)) (P 9)::
.go (.bin .lss 3 (tm 7) (tm 9)) (P 10)::
[])) (.cond (tm 10) .skip (.exit 0))) (.seq (.block 1 (.seq (.draw 6 (.go (.loadN 3 (tm 2)) (P 13)::
.go (.move (tm 1)) (P 14)::
.go (.move (tm 6)) (P 15)::
.go (.indexAddr none 1 (tm 14) (tm 15)) (P 16)::
.go (.load1 (tm 16)) (P 17)::
.go (.call (.con (.func (.func 37) ⟨[]⟩ ⟨[]⟩)) [(tm 13),(tm 17)]) (P 18)::
[]) [.ok,.ok,.ok,.ok,.ok,.ok]) (.cond (tm 18) (.run (.go (.move (tm 5)) (P 19)::
.go (.move (tm 1)) (P 20)::
.go (.move (tm 6)) (P 21)::
.go (.indexAddr none 1 (tm 20) (tm 21)) (P 22)::
.go (.load1 (tm 22)) (P 23)::
.go (.bin .add 3 (tm 19) (tm 23)) (P 24)::
.go (.move (tm 24)) (P 5)::
[])) .skip))) (.run (.go (.move (tm 6)) (P 11)::
.go (.bin .add 3 (tm 11) (.con (.int .i64 (.ofNat 1)))) (P 12)::
.go (.move (tm 12)) (P 6)::
[]))))))) (.seq (.run (.go (.move (tm 5)) (P 25)::
.go (.move (tm 25)) (P 4)::
[])) .ret))))
theorem de36 : @compF Try.prog (Gl.none Try.prog) Try.f36 2=.mk d36 (mkTT 26) [(P 0),(P 1)] [.tmp (P 4)]:=by kernel_rfl
theorem dg36 : Try.prog.funcs[36]?=some Try.f36:=Try.func36
theorem do36 : okF Try.prog Try.f36=true:=by kernel_rfl
noncomputable def d34 : FCode:=(.seq (.run (.go (.box 23 (tm 0)) (P 2)::
.go (.move (.con (.bool false))) (P 4)::
[])) (.seq (.run (.go (.loadN 3 (tm 2)) (P 5)::
.go (.move (tm 1)) (P 6)::
.go (.call (.con (.func (.func 36) ⟨[]⟩ ⟨[]⟩)) [(tm 5),(tm 6)]) (P 7)::
.go (.bin .gtr 3 (tm 7) (.con (.int .i64 (.ofNat 0)))) (P 8)::
.go (.move (tm 8)) (P 4)::
[])) .ret))
theorem de34 : @compF Try.prog (Gl.none Try.prog) Try.f34 2=.mk d34 (mkTT 9) [(P 0),(P 1)] [.tmp (P 4)]:=by kernel_rfl
theorem dg34 : Try.prog.funcs[34]?=some Try.f34:=Try.func34
theorem do34 : okF Try.prog Try.f34=true:=by kernel_rfl
theorem clq_le {m S : Int} {v : Nat→Int} (hv : vok v) (hS : 0≤S∧S≤61) {p : Nat} (hp : p<8) (h : 0<v p) : ∀ {n : Nat} {s : Int},0≤s→¬ qlt (clq m S v p s) (clq m S v p (s+n))
 | 0,s,_=>by
  have e : s+((0 : Nat) : Int)=s:=by omega
  rw[e];exact qlt_irr _
 | n+1,s,hs=>by
  have h1:=clq_le (m:=m) hv hS hp h (n:=n) hs
  have h2:=clq_dec (m:=m) hv hS hp h (s:=s+n) (by omega)
  have e : s+((n+1 : Nat) : Int)=s+n+1:=by omega
  rw[e]
  exact qlt_neg (clq_ok hv hS hp h hs) (clq_ok hv hS hp h (by omega)) (clq_ok hv hS hp h (by omega)) h1 h2
theorem clq_le' {m S : Int} {v : Nat→Int} (hv : vok v) (hS : 0≤S∧S≤61) {p : Nat} (hp : p<8) (h : 0<v p) {s t : Int} (hs : 0≤s) (hst : s≤t) : ¬ qlt (clq m S v p s) (clq m S v p t):=by
 have:=clq_le (m:=m) hv hS hp h (n:=(t-s).toNat) hs
 have e : s+((t-s).toNat : Int)=t:=by omega
 rw[e] at this
 exact this
theorem cross_no {m S S' : Int} {v v' : Nat→Int} (h5 : m≠5) (hv : vok v) (hv' : vok v') (hS : 0≤S∧S≤61) (hS' : 0≤S'∧S'≤61) {a b : Nat→Int} (A : Low v (clq m S v) a) (B : Low v' (clq m S' v') b) {p q : Nat} (hp : p<8) (hq : q<8)
  (vp : 0<v p) (vq : 0<v q) (vp' : 0<v' p) (vq' : 0<v' q) (h1 : b p<a p) (h2 : a q<b q) (k1 : ¬ qlt (clq m S' v' p (b p)) (clq m S v p (b p))) (k2 : ¬ qlt (clq m S v q (b q-1)) (clq m S' v' q (b q-1))) : False:=by
 have b0:=B.nn p
 have a0:=A.nn q
 have str : ∀ p t,0<v p→0≤t→qlt (clq m S v p (t+1)) (clq m S v p t):=fun p t h ht=>clq_str h5 h ht
 have s1:=A.strict str p q (a p-1) hp vp hq vq (by omega) (by omega)
 have w1:=B.weak q p (b q-1) hq vq' hp vp' (by omega) (by omega)
 apply w1
 have c1:=clq_ok (m:=m) hv hS hq vq (s:=b q-1) (by omega)
 have c2:=clq_ok (m:=m) hv hS hq vq a0
 have c3:=clq_ok (m:=m) hv hS hp vp (s:=a p-1) (by omega)
 have c4:=clq_ok (m:=m) hv hS hp vp b0
 have c5:=clq_ok (m:=m) hv' hS' hp vp' b0
 have c6:=clq_ok (m:=m) hv' hS' hq vq' (s:=b q-1) (by omega)
 have d1:=clq_le' (m:=m) hv hS hq vq (s:=a q) (t:=b q-1) a0 (by omega)
 have d2:=clq_le' (m:=m) hv hS hp vp (s:=b p) (t:=a p-1) b0 (by omega)
 have e1 : qlt (clq m S v q (b q-1)) (clq m S v p (a p-1)):=le_qlt c1 c2 c3 d1 s1
 have e2 : qlt (clq m S v q (b q-1)) (clq m S v p (b p)):=qlt_le c1 c3 c4 e1 d2
 have e3 : qlt (clq m S v q (b q-1)) (clq m S' v' p (b p)):=qlt_le c1 c4 c5 e2 k1
 exact le_qlt c6 c1 c5 k2 e3
theorem sm_other {a b : Nat→Int} (h : sm a 8=sm b 8) {q : Nat} (hq : q<8) (hl : a q<b q) : ∃ p,p<8∧b p<a p:=by
 apply Decidable.by_contra
 intro hn
 have : ∀ p,p<8→a p≤b p:=fun p hp=>by
  apply Decidable.by_contra
  intro hh
  exact hn ⟨p,hp,by omega⟩
 have:=sm_lt this hq hl
 omega
theorem sure_sum {m S : Int} {v : Nat→Int} (hv : vok v) (hS : 0≤S∧S≤61) (hv8 : ∀ p,¬ p<8→v p=0) (hs : sure m S v) : ((∃ p,p<8∧0<v p)∧sm (otc m S v).1 8=S)∨((∀ p,p<8→¬ 0<v p)∧(otc m S v).1=fun _=>0):=by
 have F:=otc_fin (m:=m) hv hS hv8
 rcases F.2 with⟨h,e,_⟩|⟨h,e,_⟩|⟨h,e1,e2,e3⟩
 ·exact .inr ⟨h,e⟩
 ·exact .inl ⟨h,e⟩
 ·exfalso
  obtain⟨T,hT⟩ : ∃ T,T=tp v (fun p=>clq m S v p ((otc m S v).1 p)) 8:=⟨_,rfl⟩
  rw[← hT] at e2 e3
  have hne : T≠[]:=fun h=>by rw[h] at e2;simp at e2;omega
  obtain⟨p,hp⟩:=List.exists_mem_of_ne_nil _ hne
  have hp8 : p<8:=by rw[hT] at hp;exact (mem_tp.1 hp).1
  have:=hs p hp8
  rw[e3] at this
  unfold up at this
  rw[if_pos hp] at this
  omega
theorem sm_out {v : Nat→Int} : ∀ {k n : Nat},(∀ p,n≤p→v p=0)→sm v (n+k)=sm v n
 | 0,_,_=>rfl
 | k+1,n,h=>by
  show sm v (n+k)+v (n+k)=_
  rw[sm_out h,h (n+k) (by omega)];omega
theorem vl_sum {L : Int} {l : List Int} (hl : l.length≤8) : sm (vl L l) 8=sm (vl L l) l.length:=by
 have:=sm_out (v:=vl L l) (n:=l.length) (k:=8-l.length) (fun p hp=>vl_out hp)
 rw[show l.length+(8-l.length)=8 by omega] at this
 exact this
theorem f36_ok {H : Heap} {m S L : Int} {x : Value} {l : List Int} (h : LS H x l) (hl8 : l.length≤8) (hb : ∀ v∈l,0≤v∧v≤10000) : Gives Try.prog 36 [.agg ⟨A3 m S L⟩,x] H (I (sm (vl L l) 8)):=by
 have hl:=h.len
 obtain⟨px,nx',cx,rfl⟩:=h.s.isS
 refine F.entryL rfl dg36 do36 de36 rfl (by kernel_rfl) ?_
 simp only[sets]
 refine V.re [(0,.agg ⟨A3 m S L⟩),(1,.slice px nx' cx)] (N:=26) zE zY ?_
 intro t hF hA
 simp only[Kn,and_true] at hA
 refine zS ?_
 refine V.l0 ?_
 refine V.heap (fun X=>Grow H X∧Bx X H.next (A3 m S L) 23) ⟨?_,?_⟩ ?_
 ·exact zW
 ·exact zB
 rintro H1 ⟨g1,b1⟩
 refine zS ?_
 refine V.l0 ?_
 refine zS ?_
 refine V.l0 ?_
 refine zS ?_
 refine V.loop (fun z t mm X=>∃ (k : Nat),k≤l.length∧z=l.length-k∧mm=[]∧Grow H X∧Bx X H.next (A3 m S L) 23∧(0≤sm (vl L l) k∧sm (vl L l) k≤10000*k)∧Full 26 t∧Kn [(1,.slice px nx' cx),(2,PT H.next),(5,I (sm (vl L l) k)),(6,I k)] t) l.length ?_ ?_
 ·exact⟨0,by omega,by omega,rfl,g1,b1,by simp[sm],zF,zK⟩
 clear hF hA
 rintro z t mm X ⟨k,hk,rfl,rfl,hg,bx,hsb,hF,hA⟩
 simp only[Kn,and_true] at hA
 refine zS ?_
 have zf:=@hl
 refine V.lz ?_
 refine zS ?_
 refine V.condP zP (fun hlt=>?_) (fun hlt=>?_)
 ·have hlt' : k<l.length:=by omega
  obtain⟨p,hp,hx⟩:=h.at hlt'
  have hx1:=hx X hg
  have hbk:=hb _ (List.getElem_mem hlt')
  have ev : sm (vl L l) (k+1)=sm (vl L l) k+(if adm L l[k] then l[k] else 0):=by
   show sm (vl L l) k+vl L l k=_
   congr 1
   unfold vl vts
   rw[gl0_at hlt']
  refine zS ?_
  refine V.draw ?_
  have zf:=And.intro bx.2<|And.intro @hp<|@hx1
  refine VD.nz 5 ?_
  simp only[ds]
  refine VD.callA zA (f37_ok m S L l[k] X) zA (fun X2 g2=>?_)
  have bx2:=bx.grow g2
  have hg2:=hg.trans g2
  have hx2:=hx X2 hg2
  have m2:=g2.1
  refine VD.d0 ?_ ?_ rfl ?_
  ·exact zM
  ·simp only[dcAll,dcOk,wantD,List.cons_append,List.nil_append,true_and,and_true]
  refine zS ?_
  refine V.condP zP (fun ha=>?_) (fun ha=>?_)
  ·rw[if_pos ha] at ev
   refine zS ?_
   have zf:=And.intro @hp<|@hx2
   refine V.lz ?_
   refine zS ?_
   refine V.l0 ?_
   refine V.nil (Or.inl ⟨rfl,l.length-(k+1),by omega,?_⟩)
   refine⟨k+1,hlt',rfl,rfl,hg2,bx2,by rw[ev];omega,?_⟩
   rw[ev]
   exact⟨zF,zK⟩
  ·rw[if_neg ha] at ev
   refine zS ?_
   refine V.l0 ?_
   refine V.nil (Or.inl ⟨rfl,l.length-(k+1),by omega,?_⟩)
   refine⟨k+1,hlt',rfl,rfl,hg2,bx2,by rw[ev];omega,?_⟩
   rw[ev,Int.add_zero]
   exact⟨zF,zK⟩
 ·obtain rfl : k=l.length:=by omega
  refine V.exit ?_
  refine zX ?_
  refine V.nil (Or.inr ⟨by simp,?_⟩)
  refine zX ?_
  refine zS ?_
  refine V.l0 ?_
  refine zS ?_
  refine V.ret (V.rets rfl (Lv.retG (by simp +contextual (disch:=first|omega|simp only[nx];omega) only[D1,cells_alloc_at,cells_alloc_ne,cells_set_at,cells_set_ne,yres,yres1,yresL,qA,qB,qC,D5,hF,hA,↓reduceIte,qD,qE];rfl) ?_ ?_))
  ·exact hg
  ·rw[vl_sum hl8]
theorem f34_ok {H : Heap} {m S L : Int} {x : Value} {l : List Int} (h : LS H x l) (hl8 : l.length≤8) (hb : ∀ v∈l,0≤v∧v≤10000) : Gives Try.prog 34 [.agg ⟨A3 m S L⟩,x] H (.bool (decide (0<sm (vl L l) 8))):=by
 obtain⟨px,nx',cx,rfl⟩:=h.s.isS
 refine F.entryL rfl dg34 do34 de34 rfl (by kernel_rfl) ?_
 simp only[sets]
 refine V.re [(0,.agg ⟨A3 m S L⟩),(1,.slice px nx' cx)] (N:=9) zE zY ?_
 intro t hF hA
 simp only[Kn,and_true] at hA
 refine zS ?_
 refine V.l0 ?_
 refine V.heap (fun X=>Grow H X∧Bx X H.next (A3 m S L) 23) ⟨?_,?_⟩ ?_
 ·exact zW
 ·exact zB
 rintro H1 ⟨g1,b1⟩
 refine zS ?_
 refine V.run ?_
 have zf:=b1.2
 refine VI.sz 2 ?_
 simp only[ds]
 refine VI.callA rfl (f36_ok (m:=m) (S:=S) (h.grow g1) hl8 hb) zA (fun H2 g2=>?_)
 refine VI.l0 ?_
 refine zS ?_
 refine V.ret (V.rets rfl (Lv.retG (by simp +contextual (disch:=first|omega|simp only[nx];omega) only[D1,cells_alloc_at,cells_alloc_ne,cells_set_at,cells_set_ne,yres,yres1,yresL,qA,qB,qC,D5,hF,hA,↓reduceIte,qD,qE];rfl) ?_ ?_))
 ·exact g1.trans g2
 ·rfl
theorem sure_none {m S : Int} {v : Nat→Int} (h : ∀ p,p<8→¬ 0<v p) (F : Fin v (clq m S v) S (otc m S v).1 (otc m S v).2) : (otc m S v).1=fun _=>0:=by
 rcases F.2 with⟨_,e,_⟩|⟨⟨p,h1,h2⟩,_⟩|⟨⟨p,h1,h2⟩,_⟩
 ·exact e
 ·exact absurd h2 (h p h1)
 ·exact absurd h2 (h p h1)
theorem sm_pos' {v : Nat→Int} (hv : vok v) : 0<sm v 8↔∃ p,p<8∧0<v p:=by
 constructor
 ·intro h
  apply Decidable.by_contra
  intro hn
  have : sm v 8=sm (fun _=>0) 8:=sm_cong fun p hp=>by
   apply Decidable.by_contra
   intro hh
   exact hn ⟨p,hp,by have:=(hv p hp).1;omega⟩
  rw[this,sm_0] at h
  omega
 ·rintro⟨p,hp,h⟩
  exact sm_pos hv hp h
theorem votes_ok {m S : Int} {v v' : Nat→Int} (hm : 1≤m∧m≤4) (hv : vok v) (hv' : vok v') (hS : 0≤S∧S≤61) (hv8 : ∀ p,¬ p<8→v p=0) (hv8' : ∀ p,¬ p<8→v' p=0) (s1 : sure m S v) (s2 : sure m S v') {k : Nat} (hk : k<8) (h1 : v k≤v' k) (h2 : ∀ p,p≠k→v' p=v p) :
  ∀ p,p<8→(p=k→(otc m S v).1 p≤(otc m S v').1 p)∧(p≠k→0<sm v 8→(otc m S v').1 p≤(otc m S v).1 p):=by
 have h5 : m≠5:=by omega
 have FA:=otc_fin (m:=m) hv hS hv8
 have FB:=otc_fin (m:=m) hv' hS hv8'
 have A:=FA.1
 have B:=FB.1
 have ec : ∀ q,q≠k→∀ s,clq m S v' q s=clq m S v q s:=fun q hq s=>by unfold clq;rw[if_neg h5,if_neg h5,h2 q hq]
 have ek : ∀ s,0≤s→¬ qlt (clq m S v' k s) (clq m S v k s):=by
  intro s hs
  unfold clq
  rw[if_neg h5,if_neg h5]
  have d0:=dsq_nn (m:=m) hs
  have hsq : v k*v k≤v' k*v' k:=(Int.mul_le_mul h1 h1 (hv k hk).1 (hv' k hk).1)
  unfold qlt
  split
  ·simp only;omega
  ·simp only
   have:=Int.mul_le_mul_of_nonneg_right hsq d0
   omega
 have vA : ∀ p,0<(otc m S v).1 p→p<8∧0<v p:=fun p hp=>by
  apply Decidable.by_contra
  intro hn
  have:=A.adm p hn
  omega
 have vB : ∀ p,0<(otc m S v').1 p→p<8∧0<v' p:=fun p hp=>by
  apply Decidable.by_contra
  intro hn
  have:=B.adm p hn
  omega
 by_cases hsome : ∃ p,p<8∧0<v p
 ·have hsome' : ∃ p,p<8∧0<v' p:=by
   obtain⟨p,hp,hvp⟩:=hsome
   by_cases e : p=k
   ·subst e;exact⟨p,hp,by omega⟩
   ·exact⟨p,hp,by rw[h2 p e];exact hvp⟩
  have eA : sm (otc m S v).1 8=S:=by
   rcases sure_sum hv hS hv8 s1 with⟨_,h⟩|⟨h,_⟩
   ·exact h
   ·obtain⟨p,hp,hvp⟩:=hsome;exact absurd hvp (h p hp)
  have eB : sm (otc m S v').1 8=S:=by
   rcases sure_sum hv' hS hv8' s2 with⟨_,h⟩|⟨h,_⟩
   ·exact h
   ·obtain⟨p,hp,hvp⟩:=hsome';exact absurd hvp (h p hp)
  have key : ∀ p q,p<8→q<8→q≠k→(otc m S v').1 p<(otc m S v).1 p→(otc m S v).1 q<(otc m S v').1 q→False:=by
   intro p q hp hq hqk g1 g2
   have n1:=B.nn p
   have n2:=A.nn q
   have vp:=(vA p (by omega)).2
   have vq':=(vB q (by omega)).2
   have vq : 0<v q:=by rw[← h2 q hqk];exact vq'
   have vp' : 0<v' p:=by
    by_cases e : p=k
    ·subst e;omega
    ·rw[h2 p e];exact vp
   refine cross_no h5 hv hv' hS hS A B hp hq vp vq vp' vq' g1 g2 ?_ ?_
   ·by_cases e : p=k
    ·subst e;exact ek _ n1
    ·rw[ec p e];exact qlt_irr _
   ·rw[ec q hqk];exact qlt_irr _
  have hkk : (otc m S v).1 k≤(otc m S v').1 k:=by
   apply Decidable.by_contra
   intro hn
   obtain⟨q,hq,g⟩:=sm_other (eB.trans eA.symm) hk (by omega)
   exact key k q hk hq (fun e=>by subst e;omega) (by omega) g
  intro p hp
  refine⟨fun e=>by subst e;exact hkk,fun hpk _=>?_⟩
  apply Decidable.by_contra
  intro hn
  obtain⟨q,hq,g⟩:=sm_other (eA.trans eB.symm) hp (by omega)
  exact key q p hq hp hpk g (by omega)
 ·have e0:=sure_none (fun p hp h=>hsome ⟨p,hp,h⟩) FA
  intro p hp
  refine⟨fun _=>by rw[e0];exact B.nn p,fun _ h=>?_⟩
  exact absurd ((sm_pos' hv).1 h) hsome
end Go.Xe.TVX
