/- What the functions of the layer seat come to: SeatKind. Conditions: none. -/
import Derived.Test.YtelfbgmhleneiaaTVJ
-- MOD TV
namespace Go.Xe.TVX
open Go Go.Xe Go.Proofs
open Nat renaming reduceLeDiff → qA, reduceSub → qB, reduceAdd → qC, reduceEqDiff → qD, reduceLT → qE
open Int renaming reduceNegSucc → qF, reduceEq → qG
open Go.Xe.V renaming seq → sA, block → sB, scope → sC, skip → sD, close → sE
open Go.Xe renaming pth → P
open Go.Xe.Sea
set_option maxRecDepth 100000
set_option maxHeartbeats 3200000
set_option linter.unusedSimpArgs false
theorem mm2 (a d : Int) : a*a*(d*d)=a*d*(a*d):=by ac_rfl
theorem sq_lt {x y : Int} (hx : 0≤x) (h : x<y) : x*x<y*y:=by
 have h1:=Int.mul_le_mul_of_nonneg_left (Int.le_of_lt h) hx
 have h2:=Int.mul_lt_mul_of_pos_right h (show 0<y by omega)
 omega
theorem SR.ok {m S L : Int} {l : List Int} {X : Heap} {w : Value} (h : SR m S L l X w) (h0 : flt m S L l=0) : ∃ y e,w=.tuple ⟨[y,I e]⟩∧((¬ sure m S (vl L l)∧y=.slice none 0 0∧e=10)∨(sure m S (vl L l)∧e=0∧LS X y (fl l.length (otc m S (vl L l)).1))):=by
 obtain⟨y,e,hw,h⟩:=h
 refine⟨y,e,hw,?_⟩
 rcases h with⟨h,_⟩|⟨_,h⟩|⟨_,h⟩
 ·exact absurd h0 h
 ·exact .inl h
 ·exact .inr h
end Go.Xe.TVX
/- What the functions of the layer seat come to: SeatVotes. Conditions: none. -/
-- MOD TV
namespace Go.Xe.TVX
open Go Go.Xe Go.Proofs
open Nat renaming reduceLeDiff → qA, reduceSub → qB, reduceAdd → qC, reduceEqDiff → qD, reduceLT → qE
open Int renaming reduceNegSucc → qF, reduceEq → qG
open Go.Xe.V renaming seq → sA, block → sB, scope → sC, skip → sD, close → sE
open Go.Xe renaming pth → P
open Go.Xe.Sea
set_option maxRecDepth 100000
set_option maxHeartbeats 3200000
set_option linter.unusedSimpArgs false
noncomputable def d36 : FCode:=(.seq (.run (.go (.box 23 (tm 0)) (P 2)::
.go (.move (.con (.int .i64 (.ofNat 0)))) (P 4)::
[])) (.seq (.run (.go (.move (.con (.int .i64 (.ofNat 0)))) (P 5)::
[])) (.seq (.seq (.run (.go (.move (.con (.int .i64 (.ofNat 0)))) (P 6)::
[])) (.block 0 (.loop (.seq (.seq (.run (.go (.move (tm 6)) (P 7)::
.go (.move (tm 1)) (P 8)::
.go (.len 0 (tm 8)) (P 9)::
.go (.bin .lss 3 (tm 7) (tm 9)) (P 10)::
[])) (.cond (tm 10) .skip (.exit 0))) (.seq (.block 1 (.seq (.draw 6 (.go (.loadN 3 (tm 2)) (P 13)::
.go (.move (tm 1)) (P 14)::
.go (.move (tm 6)) (P 15)::
.go (.indexAddr none 1 (tm 14) (tm 15)) (P 16)::
.go (.load1 (tm 16)) (P 17)::
.go (.call (.con (.func (.func 37) ⟨[]⟩ ⟨[]⟩)) [(tm 13),(tm 17)]) (P 18)::
[]) [.ok,.ok,.ok,.ok,.ok,.ok]) (.cond (tm 18) (.run (.go (.move (tm 5)) (P 19)::
.go (.move (tm 1)) (P 20)::
.go (.move (tm 6)) (P 21)::
.go (.indexAddr none 1 (tm 20) (tm 21)) (P 22)::
.go (.load1 (tm 22)) (P 23)::
.go (.bin .add 3 (tm 19) (tm 23)) (P 24)::
.go (.move (tm 24)) (P 5)::
[])) .skip))) (.run (.go (.move (tm 6)) (P 11)::
.go (.bin .add 3 (tm 11) (.con (.int .i64 (.ofNat 1)))) (P 12)::
.go (.move (tm 12)) (P 6)::
[]))))))) (.seq (.run (.go (.move (tm 5)) (P 25)::
.go (.move (tm 25)) (P 4)::
[])) .ret))))
theorem de36 : @compF Try.prog (Gl.none Try.prog) Try.f36 2=.mk d36 (mkTT 26) [(P 0),(P 1)] [.tmp (P 4)]:=by kernel_rfl
theorem dg36 : Try.prog.funcs[36]?=some Try.f36:=Try.func36
theorem do36 : okF Try.prog Try.f36=true:=by kernel_rfl
noncomputable def d34 : FCode:=(.seq (.run (.go (.box 23 (tm 0)) (P 2)::
.go (.move (.con (.bool false))) (P 4)::
[])) (.seq (.run (.go (.loadN 3 (tm 2)) (P 5)::
.go (.move (tm 1)) (P 6)::
.go (.call (.con (.func (.func 36) ⟨[]⟩ ⟨[]⟩)) [(tm 5),(tm 6)]) (P 7)::
.go (.bin .gtr 3 (tm 7) (.con (.int .i64 (.ofNat 0)))) (P 8)::
.go (.move (tm 8)) (P 4)::
[])) .ret))
theorem de34 : @compF Try.prog (Gl.none Try.prog) Try.f34 2=.mk d34 (mkTT 9) [(P 0),(P 1)] [.tmp (P 4)]:=by kernel_rfl
theorem dg34 : Try.prog.funcs[34]?=some Try.f34:=Try.func34
theorem do34 : okF Try.prog Try.f34=true:=by kernel_rfl
theorem clq_le {m S : Int} {v : Nat→Int} (hv : vok v) (hS : 0≤S∧S≤61) {p : Nat} (hp : p<8) (h : 0<v p) : ∀ {n : Nat} {s : Int},0≤s→¬ qlt (clq m S v p s) (clq m S v p (s+n))
 | 0,s,_=>by
  have e : s+((0 : Nat) : Int)=s:=by omega
  rw[e];exact qlt_irr _
 | n+1,s,hs=>by
  have h1:=clq_le (m:=m) hv hS hp h (n:=n) hs
  have h2:=clq_dec (m:=m) hv hS hp h (s:=s+n) (by omega)
  have e : s+((n+1 : Nat) : Int)=s+n+1:=by omega
  rw[e]
  exact qlt_neg (clq_ok hv hS hp h hs) (clq_ok hv hS hp h (by omega)) (clq_ok hv hS hp h (by omega)) h1 h2
theorem clq_le' {m S : Int} {v : Nat→Int} (hv : vok v) (hS : 0≤S∧S≤61) {p : Nat} (hp : p<8) (h : 0<v p) {s t : Int} (hs : 0≤s) (hst : s≤t) : ¬ qlt (clq m S v p s) (clq m S v p t):=by
 have:=clq_le (m:=m) hv hS hp h (n:=(t-s).toNat) hs
 have e : s+((t-s).toNat : Int)=t:=by omega
 rw[e] at this
 exact this
theorem sm_out {v : Nat→Int} : ∀ {k n : Nat},(∀ p,n≤p→v p=0)→sm v (n+k)=sm v n
 | 0,_,_=>rfl
 | k+1,n,h=>by
  show sm v (n+k)+v (n+k)=_
  rw[sm_out h,h (n+k) (by omega)];omega
theorem vl_sum {L : Int} {l : List Int} (hl : l.length≤8) : sm (vl L l) 8=sm (vl L l) l.length:=by
 have:=sm_out (v:=vl L l) (n:=l.length) (k:=8-l.length) (fun p hp=>vl_out hp)
 rw[show l.length+(8-l.length)=8 by omega] at this
 exact this
theorem f36_ok {H : Heap} {m S L : Int} {x : Value} {l : List Int} (h : LS H x l) (hl8 : l.length≤8) (hb : ∀ v∈l,0≤v∧v≤10000) : Gives Try.prog 36 [.agg ⟨A3 m S L⟩,x] H (I (sm (vl L l) 8)):=by
 have hl:=h.len
 obtain⟨px,nx',cx,rfl⟩:=h.s.isS
 refine F.entryL rfl dg36 do36 de36 rfl (by kernel_rfl) ?_
 simp only[sets]
 refine V.re [(0,.agg ⟨A3 m S L⟩),(1,.slice px nx' cx)] (N:=26) zE zY ?_
 intro t hF hA
 simp only[Kn,and_true] at hA
 refine zS ?_
 refine V.l0 ?_
 refine V.heap (fun X=>Grow H X∧Bx X H.next (A3 m S L) 23) ⟨?_,?_⟩ ?_
 ·exact zW
 ·exact zB
 rintro H1 ⟨g1,b1⟩
 refine zS ?_
 refine V.l0 ?_
 refine zS ?_
 refine V.l0 ?_
 refine zS ?_
 refine V.loop (fun z t mm X=>∃ (k : Nat),k≤l.length∧z=l.length-k∧mm=[]∧Grow H X∧Bx X H.next (A3 m S L) 23∧(0≤sm (vl L l) k∧sm (vl L l) k≤10000*k)∧Full 26 t∧Kn [(1,.slice px nx' cx),(2,PT H.next),(5,I (sm (vl L l) k)),(6,I k)] t) l.length ?_ ?_
 ·exact⟨0,by omega,by omega,rfl,g1,b1,by simp[sm],zF,zK⟩
 clear hF hA
 rintro z t mm X ⟨k,hk,rfl,rfl,hg,bx,hsb,hF,hA⟩
 simp only[Kn,and_true] at hA
 refine zS ?_
 have zf:=@hl
 refine V.lz ?_
 refine zS ?_
 refine V.condP zP (fun hlt=>?_) (fun hlt=>?_)
 ·have hlt' : k<l.length:=by omega
  obtain⟨p,hp,hx⟩:=h.at hlt'
  have hx1:=hx X hg
  have hbk:=hb _ (List.getElem_mem hlt')
  have ev : sm (vl L l) (k+1)=sm (vl L l) k+(if adm L l[k] then l[k] else 0):=by
   show sm (vl L l) k+vl L l k=_
   congr 1
   unfold vl vts
   rw[gl0_at hlt']
  refine zS ?_
  refine V.draw ?_
  have zf:=And.intro bx.2<|And.intro @hp<|@hx1
  refine VD.nz 5 ?_
  simp only[ds]
  refine VD.callA zA (f37_ok m S L l[k] X) zA (fun X2 g2=>?_)
  have bx2:=bx.grow g2
  have hg2:=hg.trans g2
  have hx2:=hx X2 hg2
  have m2:=g2.1
  refine VD.d0 ?_ ?_ rfl ?_
  ·exact zM
  ·simp only[dcAll,dcOk,wantD,List.cons_append,List.nil_append,true_and,and_true]
  refine zS ?_
  refine V.condP zP (fun ha=>?_) (fun ha=>?_)
  ·rw[if_pos ha] at ev
   refine zS ?_
   have zf:=And.intro @hp<|@hx2
   refine V.lz ?_
   refine zS ?_
   refine V.l0 ?_
   refine V.nil (Or.inl ⟨rfl,l.length-(k+1),by omega,?_⟩)
   refine⟨k+1,hlt',rfl,rfl,hg2,bx2,by rw[ev];omega,?_⟩
   rw[ev]
   exact⟨zF,zK⟩
  ·rw[if_neg ha] at ev
   refine zS ?_
   refine V.l0 ?_
   refine V.nil (Or.inl ⟨rfl,l.length-(k+1),by omega,?_⟩)
   refine⟨k+1,hlt',rfl,rfl,hg2,bx2,by rw[ev];omega,?_⟩
   rw[ev,Int.add_zero]
   exact⟨zF,zK⟩
 ·obtain rfl : k=l.length:=by omega
  refine V.exit ?_
  refine zX ?_
  refine V.nil (Or.inr ⟨by simp,?_⟩)
  refine zX ?_
  refine zS ?_
  refine V.l0 ?_
  refine zS ?_
  refine V.ret (V.rets rfl (Lv.retG (by simp +contextual (disch:=first|omega|simp only[nx];omega) only[D1,cells_alloc_at,cells_alloc_ne,cells_set_at,cells_set_ne,yres,yres1,yresL,qA,qB,qC,D5,hF,hA,↓reduceIte,qD,qE];rfl) ?_ ?_))
  ·exact hg
  ·rw[vl_sum hl8]
theorem f34_ok {H : Heap} {m S L : Int} {x : Value} {l : List Int} (h : LS H x l) (hl8 : l.length≤8) (hb : ∀ v∈l,0≤v∧v≤10000) : Gives Try.prog 34 [.agg ⟨A3 m S L⟩,x] H (.bool (decide (0<sm (vl L l) 8))):=by
 obtain⟨px,nx',cx,rfl⟩:=h.s.isS
 refine F.entryL rfl dg34 do34 de34 rfl (by kernel_rfl) ?_
 simp only[sets]
 refine V.re [(0,.agg ⟨A3 m S L⟩),(1,.slice px nx' cx)] (N:=9) zE zY ?_
 intro t hF hA
 simp only[Kn,and_true] at hA
 refine zS ?_
 refine V.l0 ?_
 refine V.heap (fun X=>Grow H X∧Bx X H.next (A3 m S L) 23) ⟨?_,?_⟩ ?_
 ·exact zW
 ·exact zB
 rintro H1 ⟨g1,b1⟩
 refine zS ?_
 refine V.run ?_
 have zf:=b1.2
 refine VI.sz 2 ?_
 simp only[ds]
 refine VI.callA rfl (f36_ok (m:=m) (S:=S) (h.grow g1) hl8 hb) zA (fun H2 g2=>?_)
 refine VI.l0 ?_
 refine zS ?_
 refine V.ret (V.rets rfl (Lv.retG (by simp +contextual (disch:=first|omega|simp only[nx];omega) only[D1,cells_alloc_at,cells_alloc_ne,cells_set_at,cells_set_ne,yres,yres1,yresL,qA,qB,qC,D5,hF,hA,↓reduceIte,qD,qE];rfl) ?_ ?_))
 ·exact g1.trans g2
 ·rfl
theorem sure_none {m S : Int} {v : Nat→Int} (h : ∀ p,p<8→¬ 0<v p) (F : Fin v (clq m S v) S (otc m S v).1 (otc m S v).2) : (otc m S v).1=fun _=>0:=by
 rcases F.2 with⟨_,e,_⟩|⟨⟨p,h1,h2⟩,_⟩|⟨⟨p,h1,h2⟩,_⟩
 ·exact e
 ·exact absurd h2 (h p h1)
 ·exact absurd h2 (h p h1)
theorem sm_pos' {v : Nat→Int} (hv : vok v) : 0<sm v 8↔∃ p,p<8∧0<v p:=by
 constructor
 ·intro h
  apply Decidable.by_contra
  intro hn
  have : sm v 8=sm (fun _=>0) 8:=sm_cong fun p hp=>by
   apply Decidable.by_contra
   intro hh
   exact hn ⟨p,hp,by have:=(hv p hp).1;omega⟩
  rw[this,sm_0] at h
  omega
 ·rintro⟨p,hp,h⟩
  exact sm_pos hv hp h
end Go.Xe.TVX
/- What the functions of the layer seat come to: SeatVotes. Conditions: none. -/
-- MOD TV
namespace Go.Xe.TVX
open Go Go.Xe Go.Proofs
open Nat renaming reduceLeDiff → qA, reduceSub → qB, reduceAdd → qC, reduceEqDiff → qD, reduceLT → qE
open Int renaming reduceNegSucc → qF, reduceEq → qG
open Go.Xe.V renaming seq → sA, block → sB, scope → sC, skip → sD, close → sE
open Go.Xe renaming pth → P
open Go.Xe.Sea
set_option maxRecDepth 100000
set_option maxHeartbeats 3200000
set_option linter.unusedSimpArgs false
theorem own_idx {y n c g : Nat} (h : g<n) : yindexAddr none 1 (.slice (some ⟨y,0,none⟩) n c) (I (g : Nat))=some (.pointer (some ⟨y,g,none⟩)):=by
 simp only[yindexAddr]
 rw[if_pos ⟨by omega,by omega⟩]
 simp
theorem Li_set (l : List Int) (k : Nat) (y : Int) : (Li l).set k (I y)=Li (l.set k y):=by simp[Li,List.map_set]
theorem gl0_set {l : List Int} {k : Nat} (hk : k<l.length) (y : Int) (q : Nat) : gl0 (l.set k y) q=if q=k then y else gl0 l q:=by
 unfold gl0
 rw[List.getD_eq_getElem?_getD,List.getElem?_set]
 by_cases h : k=q
 ·subst h;rw[if_pos rfl,if_pos hk,if_pos rfl];rfl
 ·rw[if_neg h,if_neg (fun e=>h e.symm),List.getD_eq_getElem?_getD]
theorem adm_le {L a b : Int} (h : a≤b) (hb : 0≤b) : (if adm L a then a else 0)≤if adm L b then b else 0:=by
 by_cases h1 : adm L a
 ·have h2 : adm L b:=⟨by have:=h1.1;omega,by have:=h1.2;omega⟩
  rw[if_pos h1,if_pos h2];exact h
 ·rw[if_neg h1]
  split<;>omega
end Go.Xe.TVX
/- What the functions of the layer seat come to: one seat more. Conditions: none. -/
-- MOD TV
namespace Go.Xe.TVX
open Go Go.Xe Go.Proofs
open Nat renaming reduceLeDiff → qA, reduceSub → qB, reduceAdd → qC, reduceEqDiff → qD, reduceLT → qE
open Int renaming reduceNegSucc → qF, reduceEq → qG
open Go.Xe.V renaming seq → sA, block → sB, scope → sC, skip → sD, close → sE
open Go.Xe renaming pth → P
open Go.Xe.Sea
set_option maxRecDepth 100000
set_option maxHeartbeats 3200000
set_option linter.unusedSimpArgs false
end Go.Xe.TVX
/- What the functions of the layer seat come to: SeatHouse. Conditions: none. -/
-- MOD TV
namespace Go.Xe.TVX
open Go Go.Xe Go.Proofs
open Nat renaming reduceLeDiff → qA, reduceSub → qB, reduceAdd → qC, reduceEqDiff → qD, reduceLT → qE
open Int renaming reduceNegSucc → qF, reduceEq → qG
open Go.Xe.V renaming seq → sA, block → sB, scope → sC, skip → sD, close → sE
open Go.Xe renaming pth → P
open Go.Xe.Sea
set_option maxRecDepth 100000
set_option maxHeartbeats 3200000
set_option linter.unusedSimpArgs false
end Go.Xe.TVX
/- What the functions of the layer seat come to: SeatHouse. Conditions: none. -/
-- MOD TV
namespace Go.Xe.TVX
open Go Go.Xe Go.Proofs
open Nat renaming reduceLeDiff → qA, reduceSub → qB, reduceAdd → qC, reduceEqDiff → qD, reduceLT → qE
open Int renaming reduceNegSucc → qF, reduceEq → qG
open Go.Xe.V renaming seq → sA, block → sB, scope → sC, skip → sD, close → sE
open Go.Xe renaming pth → P
open Go.Xe.Sea
set_option maxRecDepth 100000
set_option maxHeartbeats 3200000
set_option linter.unusedSimpArgs false
end Go.Xe.TVX
/- What the functions of the layer seat come to: shares, rounded down and up. Conditions: none. -/
-- MOD TV
namespace Go.Xe.TVX
open Go Go.Xe Go.Proofs
open Nat renaming reduceLeDiff → qA, reduceSub → qB, reduceAdd → qC, reduceEqDiff → qD, reduceLT → qE
open Int renaming reduceNegSucc → qF, reduceEq → qG
open Go.Xe.V renaming seq → sA, block → sB, scope → sC, skip → sD, close → sE
open Go.Xe renaming pth → P
open Go.Xe.Sea
set_option maxRecDepth 100000
set_option maxHeartbeats 3200000
set_option linter.unusedSimpArgs false
def shi (S : Int) (v : Nat→Int) (p : Nat) : Int:=(shr S v p).1+(if 1<(shr S v p).2 then 1 else (shr S v p).2)
end Go.Xe.TVX
/- What the functions of the layer seat come to: SeatQuotas. Conditions: none. -/
-- MOD TV
namespace Go.Xe.TVX
open Go Go.Xe Go.Proofs
open Nat renaming reduceLeDiff → qA, reduceSub → qB, reduceAdd → qC, reduceEqDiff → qD, reduceLT → qE
open Int renaming reduceNegSucc → qF, reduceEq → qG
open Go.Xe.V renaming seq → sA, block → sB, scope → sC, skip → sD, close → sE
open Go.Xe renaming pth → P
open Go.Xe.Sea
set_option maxRecDepth 100000
set_option maxHeartbeats 3200000
set_option linter.unusedSimpArgs false
end Go.Xe.TVX
/- What the functions of the layer seat come to: SeatTimes. Conditions: none. -/
-- MOD TV
namespace Go.Xe.TVX
open Go Go.Xe Go.Proofs
open Nat renaming reduceLeDiff → qA, reduceSub → qB, reduceAdd → qC, reduceEqDiff → qD, reduceLT → qE
open Int renaming reduceNegSucc → qF, reduceEq → qG
open Go.Xe.V renaming seq → sA, block → sB, scope → sC, skip → sD, close → sE
open Go.Xe renaming pth → P
open Go.Xe.Sea
set_option maxRecDepth 100000
set_option maxHeartbeats 3200000
set_option linter.unusedSimpArgs false
theorem qlt_scale {a b : Q2} {k : Int} (hk : 0<k) : qlt (k*a.1,a.2) (k*b.1,b.2)↔qlt a b:=by
 unfold qlt
 simp only
 split
 ·exact⟨fun h=>Int.lt_of_mul_lt_mul_left h (Int.le_of_lt hk),fun h=>Int.mul_lt_mul_of_pos_left h hk⟩
 ·rw[Int.mul_assoc,Int.mul_assoc]
  exact⟨fun h=>Int.lt_of_mul_lt_mul_left h (Int.le_of_lt hk),fun h=>Int.mul_lt_mul_of_pos_left h hk⟩
theorem sm_scale {v : Nat→Int} {k : Int} : ∀ {n : Nat},sm (fun p=>k*v p) n=k*sm v n
 | 0=>by simp[sm]
 | n+1=>by simp only[sm];rw[sm_scale,Int.mul_add]
end Go.Xe.TVX
/- What the functions of the layer seat come to: SeatQuota. Conditions: none. -/
-- MOD TV
namespace Go.Xe.TVX
open Go Go.Xe Go.Proofs
open Nat renaming reduceLeDiff → qA, reduceSub → qB, reduceAdd → qC, reduceEqDiff → qD, reduceLT → qE
open Int renaming reduceNegSucc → qF, reduceEq → qG
open Go.Xe.V renaming seq → sA, block → sB, scope → sC, skip → sD, close → sE
open Go.Xe renaming pth → P
open Go.Xe.Sea
set_option maxRecDepth 100000
set_option maxHeartbeats 3200000
set_option linter.unusedSimpArgs false
theorem sm_mul {a : Nat→Int} {k : Int} {n : Nat} : sm (fun p=>a p*k) n=sm a n*k:=by
 have:=sm_scale (v:=a) (k:=k) (n:=n)
 rw[Int.mul_comm (sm a n) k,← this]
 exact sm_cong fun p _=>Int.mul_comm _ _
theorem shr_sums {S : Int} {v : Nat→Int} (hv : vok v) (hS : 0≤S∧S≤61) : sm (fun p=>(shr S v p).1) 8≤S∧(0<sm v 8→S≤sm (fun p=>shi S v p) 8):=by
 have ht:=sm_bd hv
 by_cases h0 : 0<sm v 8
 ·have e1 : ∀ p,p<8→v p*S=(shr S v p).1*sm v 8+(shr S v p).2:=by
   intro p _
   unfold shr
   split
   ·rename_i h;rw[h];simp
   ·have:=Int.mul_ediv_add_emod (v p*S) (sm v 8)
    rw[Int.mul_comm (sm v 8)] at this
    exact this.symm
  have e2 : sm v 8*S=sm (fun p=>(shr S v p).1) 8*sm v 8+sm (fun p=>(shr S v p).2) 8:=by
   rw[← sm_mul,← sm_mul,← sm_add]
   exact sm_cong e1
  have e3 : 0≤sm (fun p=>(shr S v p).2) 8:=by
   have:=sm_le (s:=fun _=>0) (t:=fun p=>(shr S v p).2) (n:=8) (fun p hp=>(shr_bd hv hS hp).2.1)
   rw[sm_0] at this;exact this
  refine⟨?_,fun _=>?_⟩
  ·have : sm (fun p=>(shr S v p).1) 8*sm v 8≤S*sm v 8:=by rw[Int.mul_comm S];omega
   exact Int.le_of_mul_le_mul_right this h0
  ·have e4 : sm (fun p=>(shr S v p).2) 8≤sm (fun p=>(shi S v p-(shr S v p).1)*sm v 8) 8:=by
    apply sm_le
    intro p hp
    have hb:=shr_bd hv hS hp
    show (shr S v p).2≤(shi S v p-(shr S v p).1)*sm v 8
    have e5 : shi S v p-(shr S v p).1=if 1<(shr S v p).2 then 1 else (shr S v p).2:=by unfold shi;omega
    rw[e5]
    split
    ·by_cases hz : v p=0
     ·have : (shr S v p).2=0:=by unfold shr;rw[if_pos hz]
      omega
     ·have:=hb.2.2.2 hz;omega
    ·have : (shr S v p).2=0∨(shr S v p).2=1:=by omega
     rcases this with h|h<;>rw[h]<;>omega
   rw[sm_mul] at e4
   have e6 : sm (fun p=>shi S v p-(shr S v p).1) 8=sm (fun p=>shi S v p) 8-sm (fun p=>(shr S v p).1) 8:=by
    have:=sm_add (s:=fun p=>shi S v p-(shr S v p).1) (t:=fun p=>(shr S v p).1) (n:=8)
    have e7 : sm (fun p=>shi S v p-(shr S v p).1+(shr S v p).1) 8=sm (fun p=>shi S v p) 8:=sm_cong fun p _=>by omega
    rw[e7] at this
    omega
   rw[e6,Int.sub_mul] at e4
   have : S*sm v 8≤sm (fun p=>shi S v p) 8*sm v 8:=by rw[Int.mul_comm S];omega
   exact Int.le_of_mul_le_mul_right this h0
 ·have hz : ∀ p,p<8→v p=0:=fun p hp=>by
   have:=sm_ge hv hp
   have:=(hv p hp).1
   omega
  refine⟨?_,fun h=>absurd h h0⟩
  have : sm (fun p=>(shr S v p).1) 8=sm (fun _=>0) 8:=sm_cong fun p hp=>by unfold shr;rw[if_pos (hz p hp)]
  rw[this,sm_0];exact hS.1
end Go.Xe.TVX
/- What the functions of the layer seat come to: SeatQuota. Conditions: none. -/
-- MOD TV
namespace Go.Xe.TVX
open Go Go.Xe Go.Proofs
open Nat renaming reduceLeDiff → qA, reduceSub → qB, reduceAdd → qC, reduceEqDiff → qD, reduceLT → qE
open Int renaming reduceNegSucc → qF, reduceEq → qG
open Go.Xe.V renaming seq → sA, block → sB, scope → sC, skip → sD, close → sE
open Go.Xe renaming pth → P
open Go.Xe.Sea
set_option maxRecDepth 100000
set_option maxHeartbeats 3200000
set_option linter.unusedSimpArgs false
theorem sm_ub {s : Nat→Int} {b : Int} : ∀ {n : Nat},(∀ p,p<n→0≤s p∧s p≤b)→0≤sm s n∧sm s n≤b*n
 | 0,_=>by simp[sm]
 | n+1,h=>by
  have h1:=sm_ub (s:=s) (b:=b) (n:=n) (fun p hp=>h p (by omega))
  have h2:=h n (by omega)
  simp only[sm]
  have e : b*((n+1 : Nat) : Int)=b*n+b:=by
   have : ((n+1 : Nat) : Int)=(n : Int)+1:=by omega
   rw[this,Int.mul_add];omega
  rw[e];omega
end Go.Xe.TVX
/- What the functions of the layer seat come to: whether seats are a result. Conditions: none. -/
-- MOD TV
namespace Go.Xe.TVX
open Go Go.Xe Go.Proofs
open Nat renaming reduceLeDiff → qA, reduceSub → qB, reduceAdd → qC, reduceEqDiff → qD, reduceLT → qE
open Int renaming reduceNegSucc → qF, reduceEq → qG
open Go.Xe.V renaming seq → sA, block → sB, scope → sC, skip → sD, close → sE
open Go.Xe renaming pth → P
open Go.Xe.Sea
set_option maxRecDepth 100000
set_option maxHeartbeats 3200000
set_option linter.unusedSimpArgs false
def due (S : Int) (v : Nat→Int) : Int:=if sm v 8=0 then 0 else S
def gal (S : Int) (v s : Nat→Int) : Prop:=(∀ p,p<8→¬ (0<s p∧v p=0))∧sm s 8=due S v
instance (v s : Nat→Int) : Decidable (∀ p,p<8→¬ (0<s p∧v p=0)):=Nat.decidableBallLT 8 fun p _=>¬ (0<s p∧v p=0)
instance (S : Int) (v s : Nat→Int) : Decidable (gal S v s):=by unfold gal;infer_instance
def fu (m S : Int) (v s : Nat→Int) : Nat→Q2
 | 0=>(0,1)
 | k+1=>if qlt (fu m S v s k) (lw (clq m S v (pix v k) (s (pix v k)))) then lw (clq m S v (pix v k) (s (pix v k))) else fu m S v s k
def la (m S : Int) (v s : Nat→Int) : Nat→Q2
 | 0=>(100000000,0)
 | k+1=>if 0<s (pix v k) then (if qlt (la m S v s k) (lw (clq m S v (pix v k) (s (pix v k)-1))) then la m S v s k else lw (clq m S v (pix v k) (s (pix v k)-1))) else la m S v s k
def jr (m S : Int) (v s : Nat→Int) : Prop:=if gal S v s∧¬ due S v=0 then ¬ qlt (la m S v s (adl v 8).length) (fu m S v s (adl v 8).length) else gal S v s
def jo (m S : Int) (v s : Nat→Int) : Prop:=if gal S v s∧¬ due S v=0 then qlt (fu m S v s (adl v 8).length) (la m S v s (adl v 8).length) else gal S v s
instance (m S : Int) (v s : Nat→Int) : Decidable (jr m S v s):=by unfold jr;infer_instance
instance (m S : Int) (v s : Nat→Int) : Decidable (jo m S v s):=by unfold jo;infer_instance
end Go.Xe.TVX
/- What the functions of the layer seat come to: ProveSeats, and SeatAll. Conditions: none. -/
-- MOD TV
namespace Go.Xe.TVX
open Go Go.Xe Go.Proofs
open Nat renaming reduceLeDiff → qA, reduceSub → qB, reduceAdd → qC, reduceEqDiff → qD, reduceLT → qE
open Int renaming reduceNegSucc → qF, reduceEq → qG
open Go.Xe.V renaming seq → sA, block → sB, scope → sC, skip → sD, close → sE
open Go.Xe renaming pth → P
open Go.Xe.Sea
set_option maxRecDepth 100000
set_option maxHeartbeats 3200000
set_option linter.unusedSimpArgs false
def PRV (m S L : Int) (l st : List Int) : Prop:=flt m S L l=0∧st.length=l.length∧(∀ x∈st,0≤x∧x≤S)∧jr m S (vl L l) (gl0 st)
instance (m S L : Int) (l st : List Int) : Decidable (PRV m S L l st):=by unfold PRV;infer_instance
end Go.Xe.TVX
/- What the functions of the layer seat come to: SeatAll. Conditions: none. -/
-- MOD TV
namespace Go.Xe.TVX
open Go Go.Xe Go.Proofs
open Nat renaming reduceLeDiff → qA, reduceSub → qB, reduceAdd → qC, reduceEqDiff → qD, reduceLT → qE
open Int renaming reduceNegSucc → qF, reduceEq → qG
open Go.Xe.V renaming seq → sA, block → sB, scope → sC, skip → sD, close → sE
open Go.Xe renaming pth → P
open Go.Xe.Sea
set_option maxRecDepth 100000
set_option maxHeartbeats 3200000
set_option linter.unusedSimpArgs false
end Go.Xe.TVX
