/- What the functions of the layer seat come to: SeatWithin. Conditions: none. -/
import Derived.Test.YtelfbgmhleneiaaUAA
-- MOD TV
namespace Go.Xe.TVX
open Go Go.Xe Go.Proofs
open Nat renaming reduceLeDiff → qA, reduceSub → qB, reduceAdd → qC, reduceEqDiff → qD, reduceLT → qE
open Int renaming reduceNegSucc → qF, reduceEq → qG
open Go.Xe.V renaming seq → sA, block → sB, scope → sC, skip → sD, close → sE
open Go.Xe renaming pth → P
open Go.Xe.Sea
set_option maxRecDepth 100000
set_option maxHeartbeats 3200000
set_option linter.unusedSimpArgs false
theorem fl_gl {l : List Int} : fl l.length (gl0 l)=l:=by
 apply List.ext_getElem
 ·rw[fl_len]
 ·intro i h1 h2
  rw[fl_at,gl0_at h2]
theorem fl_cong {n : Nat} {f g : Nat→Int} (h : ∀ i,i<n→f i=g i) : fl n f=fl n g:=fl_eq.2 h
theorem within {m S L : Int} {R : List R2} {l : List Int} (h5 : m≠5) (hS : 0≤S∧S≤60) (hR8 : R.length≤8) (hR : ∀ r∈R,rok r) (hlen : l.length=R.length) (hb : ∀ q,q<R.length→gl0 (R.map (·.1)) q≤gl0 l q∧gl0 l q≤gl0 (R.map (·.2)) q) {p : Nat} (hp : p<R.length) :
  bLo m S L R p≤(otc m S (vl L l)).1 p∧(otc m S (vl L l)).2 p≤bHi m S L R p:=by
 have hS' : 0≤S∧S≤61:=by omega
 have lo : ∀ q,q<R.length→0≤gl0 (R.map (·.1)) q:=fun q hq=>by rw[gl0_map hq];exact (hR _ (List.getElem_mem hq)).2.1.1
 have hi : ∀ q,q<R.length→gl0 (R.map (·.2)) q≤10000:=fun q hq=>by rw[gl0_map hq];exact (hR _ (List.getElem_mem hq)).2.2.2
 have bdl : ∀ v∈l,0≤v∧v≤10000:=fun v hv=>by
  obtain⟨i,h1,rfl⟩:=List.mem_iff_getElem.1 hv
  have h2:=hb i (by omega)
  have h3:=lo i (by omega)
  have h4:=hi i (by omega)
  rw[gl0_at h1] at h2
  omega
 have bd1 : ∀ v∈(R.map (·.2)).set p (gl0 (R.map (·.1)) p),0≤v∧v≤10000:=fun v hv=>by
  rcases List.mem_or_eq_of_mem_set hv with hv|rfl
  ·obtain⟨r,hr,rfl⟩:=List.mem_map.1 hv
   exact (hR r hr).2.2
  ·rw[gl0_map hp];exact (hR _ (List.getElem_mem hp)).2.1
 have bd2 : ∀ v∈(R.map (·.1)).set p (gl0 (R.map (·.2)) p),0≤v∧v≤10000:=fun v hv=>by
  rcases List.mem_or_eq_of_mem_set hv with hv|rfl
  ·obtain⟨r,hr,rfl⟩:=List.mem_map.1 hv
   exact (hR r hr).2.1
  ·rw[gl0_map hp];exact (hR _ (List.getElem_mem hp)).2.2
 have le0:=vl_ok (L:=L) bdl
 have le1:=vl_ok (L:=L) bd1
 have le2:=vl_ok (L:=L) bd2
 have w0:=vl_8 (L:=L) (l:=l) (by omega)
 have w1:=vl_8 (L:=L) (l:=(R.map (·.2)).set p (gl0 (R.map (·.1)) p)) (by rw[List.length_set,List.length_map];exact hR8)
 have w2:=vl_8 (L:=L) (l:=(R.map (·.1)).set p (gl0 (R.map (·.2)) p)) (by rw[List.length_set,List.length_map];exact hR8)
 have p1 : p<(R.map (·.1)).length:=by rw[List.length_map];exact hp
 have p2 : p<(R.map (·.2)).length:=by rw[List.length_map];exact hp
 have vle : ∀ {a b : List Int} {q : Nat},gl0 a q≤gl0 b q→0≤gl0 b q→vl L a q≤vl L b q:=fun {a b q} h h0=>by
  unfold vl vts
  exact adm_le h h0
 have z : ∀ {a : List Int} {q : Nat},a.length=R.length→¬ q<R.length→vl L a q=0:=fun {a q} ha hq=>vl_out (by omega)
 have hpb:=hb p hp
 have hlp:=lo p hp
 constructor
 ·refine (mono h5 le0 le1 hS' w0 w1 (k:=p) (by omega) ?_ (fun q hq=>?_)).1
  ·refine vle ?_ (by omega)
   rw[gl0_set p2,if_pos rfl]
   omega
  ·by_cases hql : q<R.length
   ·have h1:=hb q hql
    have h2:=lo q hql
    refine vle ?_ ?_<;>rw[gl0_set p2,if_neg hq]<;>omega
   ·rw[z hlen hql,z (by rw[List.length_set,List.length_map]) hql];omega
 ·refine (mono h5 le2 le0 hS' w2 w0 (k:=p) (by omega) ?_ (fun q hq=>?_)).2
  ·refine vle ?_ ?_<;>rw[gl0_set p1,if_pos rfl]<;>omega
  ·by_cases hql : q<R.length
   ·have h1:=hb q hql
    have h2:=lo q hql
    refine vle ?_ ?_
    ·rw[gl0_set p1,if_neg hq];omega
    ·omega
   ·rw[z hlen hql,z (by rw[List.length_set,List.length_map]) hql];omega
structure WS (H : Heap) (x : Value) (ws : List Int) : Prop where
 sl : Sl H x (ws.map fun v=>.int .u16 v)
 bd : ∀ v∈ws,0≤v∧v≤65535
theorem WS.grow {A B : Heap} (g : Grow A B) {x : Value} {ws : List Int} (h : WS A x ws) : WS B x ws:=⟨h.sl.grow g,h.bd⟩
end Go.Xe.TVX
/- What the functions of the layer seat come to: all lists of counts in ranges. Conditions: none. -/
-- MOD TV
namespace Go.Xe.TVX
open Go Go.Xe Go.Proofs
open Nat renaming reduceLeDiff → qA, reduceSub → qB, reduceAdd → qC, reduceEqDiff → qD, reduceLT → qE
open Int renaming reduceNegSucc → qF, reduceEq → qG
open Go.Xe.V renaming seq → sA, block → sB, scope → sC, skip → sD, close → sE
open Go.Xe renaming pth → P
open Go.Xe.Sea
set_option maxRecDepth 100000
set_option maxHeartbeats 3200000
set_option linter.unusedSimpArgs false
noncomputable def d39 : FCode:=(.seq (.run (.go (.move (.con (.int .i64 (.ofNat 0)))) (P 2)::
[])) (.seq (.run (.go (.move (.con (.int .i64 (.ofNat 1)))) (P 3)::
[])) (.seq (.seq (.run (.go (.move (.con (.int .i64 (.ofNat 0)))) (P 4)::
[])) (.block 0 (.loop (.seq (.seq (.run (.go (.move (tm 4)) (P 5)::
.go (.move (tm 0)) (P 6)::
.go (.len 0 (tm 6)) (P 7)::
.go (.bin .lss 3 (tm 5) (tm 7)) (P 8)::
[])) (.cond (tm 8) .skip (.exit 0))) (.seq (.block 1 (.draw 16 (.go (.move (tm 3)) (P 11)::
.go (.move (tm 0)) (P 12)::
.go (.move (tm 4)) (P 13)::
.go (.indexAddr none 2 (tm 12) (tm 13)) (P 14)::
.go (.fieldAddr 1 (tm 14)) (P 15)::
.go (.load1 (tm 15)) (P 16)::
.go (.move (tm 0)) (P 17)::
.go (.move (tm 4)) (P 18)::
.go (.indexAddr none 2 (tm 17) (tm 18)) (P 19)::
.go (.fieldAddr 0 (tm 19)) (P 20)::
.go (.load1 (tm 20)) (P 21)::
.go (.bin .sub 3 (tm 16) (tm 21)) (P 22)::
.go (.bin .add 3 (tm 22) (.con (.int .i64 (.ofNat 1)))) (P 23)::
.go (.bin .mul 3 (tm 11) (tm 23)) (P 24)::
.go (.mm false [(.con (.int .i64 (.ofNat 1048576))),(tm 24)]) (P 25)::
.go (.move (tm 25)) (P 3)::
[]) [.ok,.ok,.ok,.ok,.ok,.ok,.ok,.ok,.ok,.ok,.ok,.ok,.ok,.ok,.ok,.ok])) (.run (.go (.move (tm 4)) (P 9)::
.go (.bin .add 3 (tm 9) (.con (.int .i64 (.ofNat 1)))) (P 10)::
.go (.move (tm 10)) (P 4)::
[]))))))) (.seq (.run (.go (.move (tm 3)) (P 26)::
.go (.move (tm 26)) (P 2)::
[])) .ret))))
theorem de39 : @compF Try.prog (Gl.none Try.prog) Try.f39 1=.mk d39 (mkTT 27) [(P 0)] [.tmp (P 2)]:=by kernel_rfl
theorem dg39 : Try.prog.funcs[39]?=some Try.f39:=Try.func39
theorem do39 : okF Try.prog Try.f39=true:=by kernel_rfl
def rs (w : Nat→Int) (n : Int) : Nat→Int
 | 0=>n
 | k+1=>rs w n k/w k
def prd (w : Nat→Int) : Nat→Int
 | 0=>1
 | k+1=>prd w k*w k
theorem rs_shift (w : Nat→Int) (n : Int) : ∀ k,rs w n (k+1)=rs (fun i=>w (i+1)) (n/w 0) k
 | 0=>rfl
 | k+1=>by
  have:=rs_shift w n k
  show rs w n (k+1)/w (k+1)=rs (fun i=>w (i+1)) (n/w 0) k/w (k+1)
  rw[this]
theorem prd_shift (w : Nat→Int) : ∀ k,prd w (k+1)=w 0*prd (fun i=>w (i+1)) k
 | 0=>by simp[prd]
 | k+1=>by
  have:=prd_shift w k
  show prd w (k+1)*w (k+1)=w 0*(prd (fun i=>w (i+1)) k*w (k+1))
  rw[this,Int.mul_assoc]
theorem dig : ∀ (k : Nat) (w d : Nat→Int),(∀ q,q<k→0≤d q∧d q<w q)→∃ n,0≤n∧n<prd w k∧∀ q,q<k→rs w n q%w q=d q
 | 0,w,d,_=>⟨0,by omega,by simp[prd],fun q hq=>by omega⟩
 | k+1,w,d,h=>by
  obtain⟨n,n0,n1,n2⟩:=dig k (fun i=>w (i+1)) (fun i=>d (i+1)) (fun q hq=>h (q+1) (by omega))
  have h0:=h 0 (by omega)
  have w0 : 0<w 0:=by omega
  have hp:=Int.mul_nonneg (Int.le_of_lt w0) n0
  refine⟨d 0+w 0*n,by omega,?_,fun q hq=>?_⟩
  ·rw[prd_shift]
   have:=Int.mul_le_mul_of_nonneg_left (show n≤prd (fun i=>w (i+1)) k-1 by omega) (Int.le_of_lt w0)
   rw[Int.mul_sub] at this
   omega
  ·have ed : (d 0+w 0*n)/w 0=n:=by
    rw[Int.add_mul_ediv_left _ _ (by omega),Int.ediv_eq_zero_of_lt h0.1 h0.2];omega
   cases q with
   | zero=>
    show (d 0+w 0*n)%w 0=d 0
    rw[Int.add_mul_emod_self_left,Int.emod_eq_of_lt h0.1 h0.2]
   | succ q=>
    rw[rs_shift,ed]
    exact n2 q (by omega)
theorem rs_bd {w : Nat→Int} {n : Int} (hn : 0≤n) : ∀ {k : Nat},(∀ q,q<k→1≤w q)→0≤rs w n k∧rs w n k≤n
 | 0,_=>⟨hn,Int.le_refl _⟩
 | k+1,h=>by
  have ih:=rs_bd (w:=w) hn (k:=k) (fun q hq=>h q (by omega))
  have hk:=h k (by omega)
  have h1:=Int.ediv_nonneg ih.1 (show 0≤w k by omega)
  have h2:=Int.ediv_le_self (w k) ih.1
  show 0≤rs w n k/w k∧rs w n k/w k≤n
  omega
def wdn (w : Nat→Int) : Nat→Int
 | 0=>1
 | k+1=>if wdn w k*w k<1048576 then wdn w k*w k else 1048576
theorem wdn_prd {w : Nat→Int} : ∀ {k : Nat},(∀ q,q<k→1≤w q)→1≤wdn w k∧wdn w k≤1048576∧(wdn w k=prd w k∨wdn w k=1048576∧1048576≤prd w k)
 | 0,_=>⟨by simp[wdn],by simp[wdn],.inl rfl⟩
 | k+1,h=>by
  obtain⟨h1,h2,h3⟩:=wdn_prd (w:=w) (k:=k) (fun q hq=>h q (by omega))
  have hk:=h k (by omega)
  have e1:=Int.mul_le_mul_of_nonneg_left hk (show 0≤wdn w k by omega)
  have e2:=Int.mul_le_mul_of_nonneg_left hk (show 0≤prd w k by omega)
  rw[Int.mul_one] at e1 e2
  unfold wdn
  show 1≤_∧_∧(_=prd w k*w k∨_=1048576∧1048576≤prd w k*w k)
  split
  ·refine⟨by omega,by omega,?_⟩
   rcases h3 with h3|h3
   ·rw[h3];exact .inl rfl
   ·omega
  ·refine⟨by omega,by omega,.inr ⟨rfl,?_⟩⟩
   rcases h3 with h3|h3
   ·rw[← h3];omega
   ·omega
def wv (R : List R2) (p : Nat) : Int:=gl0 (R.map (·.2)) p-gl0 (R.map (·.1)) p+1
theorem rok_gl {R : List R2} (hR : ∀ r∈R,rok r) {q : Nat} (hq : q<R.length) : 0≤gl0 (R.map (·.1)) q∧gl0 (R.map (·.1)) q≤gl0 (R.map (·.2)) q∧gl0 (R.map (·.2)) q≤10000:=by
 rw[gl0_map hq,gl0_map hq]
 have:=hR _ (List.getElem_mem hq)
 unfold rok at this
 omega
theorem wv_bd {R : List R2} (hR : ∀ r∈R,rok r) {q : Nat} (hq : q<R.length) : 1≤wv R q∧wv R q≤10001:=by
 have:=rok_gl hR hq
 unfold wv
 omega
def own (R : List R2) (n : Int) : List Int:=fl R.length fun q=>gl0 (R.map (·.1)) q+rs (wv R) n q%wv R q
theorem own_len {R : List R2} {n : Int} : (own R n).length=R.length:=fl_len _ _
theorem own_at {R : List R2} {n : Int} {q : Nat} (hq : q<R.length) : gl0 (own R n) q=gl0 (R.map (·.1)) q+rs (wv R) n q%wv R q:=by
 rw[gl0_at (by rw[own_len];exact hq)]
 unfold own
 rw[fl_at]
theorem own_in {R : List R2} (hR : ∀ r∈R,rok r) (n : Int) : ∀ q,q<R.length→gl0 (R.map (·.1)) q≤gl0 (own R n) q∧gl0 (own R n) q≤gl0 (R.map (·.2)) q:=fun q hq=>by
 rw[own_at hq]
 have:=wv_bd hR hq
 have h1:=Int.emod_nonneg (rs (wv R) n q) (show wv R q≠0 by omega)
 have h2:=Int.emod_lt_of_pos (rs (wv R) n q) (show 0<wv R q by omega)
 have h3 : wv R q=gl0 (R.map (·.2)) q-gl0 (R.map (·.1)) q+1:=rfl
 omega
theorem own_bd {R : List R2} (hR : ∀ r∈R,rok r) (n : Int) : ∀ v∈own R n,0≤v∧v≤10000:=fun v hv=>by
 obtain⟨i,h1,rfl⟩:=List.mem_iff_getElem.1 hv
 have hi : i<R.length:=by rw[own_len] at h1;exact h1
 have h2:=own_in hR n i hi
 have h3:=rok_gl hR hi
 rw[gl0_at h1] at h2
 omega
theorem own_all {R : List R2} (hR : ∀ r∈R,rok r) {l : List Int} (hl : l.length=R.length) (h : ∀ q,q<R.length→gl0 (R.map (·.1)) q≤gl0 l q∧gl0 l q≤gl0 (R.map (·.2)) q) : ∃ n,0≤n∧n<prd (wv R) R.length∧own R n=l:=by
 obtain⟨n,n0,n1,n2⟩:=dig R.length (wv R) (fun q=>gl0 l q-gl0 (R.map (·.1)) q) (fun q hq=>by
  have:=h q hq
  have h3 : wv R q=gl0 (R.map (·.2)) q-gl0 (R.map (·.1)) q+1:=rfl
  omega)
 refine⟨n,n0,n1,?_⟩
 have e:=fl_gl (l:=l)
 rw[hl] at e
 rw[← e]
 refine fl_cong fun q hq=>?_
 rw[n2 q hq]
 omega
def mnF (f : Nat→Int) : Nat→Int
 | 0=>99
 | n+1=>if f n<mnF f n then f n else mnF f n
def mxF (f : Nat→Int) : Nat→Int
 | 0=>-1
 | n+1=>if f n > mxF f n then f n else mxF f n
theorem mnF_is {f : Nat→Int} {a : Int} {n k : Nat} (h : ∀ i,i<n→a≤f i) (ha : a≤99) (hk : k<n) (he : f k=a) : mnF f n=a:=by
 have key : ∀ n,(∀ i,i<n→a≤f i)→a≤mnF f n∧∀ i,i<n→mnF f n≤f i:=by
  intro n
  induction n with
  | zero=>exact fun _=>⟨ha,fun i hi=>by omega⟩
  | succ n ih=>
   intro h
   obtain⟨h1,h2⟩:=ih (fun i hi=>h i (by omega))
   have h3:=h n (by omega)
   unfold mnF
   split
   ·refine⟨h3,fun i hi=>?_⟩
    rcases Nat.lt_succ_iff_lt_or_eq.1 hi with h4|rfl
    ·have:=h2 i h4;omega
    ·omega
   ·refine⟨h1,fun i hi=>?_⟩
    rcases Nat.lt_succ_iff_lt_or_eq.1 hi with h4|rfl
    ·exact h2 i h4
    ·omega
 obtain⟨h1,h2⟩:=key n h
 have:=h2 k hk
 omega
theorem mxF_is {f : Nat→Int} {a : Int} {n k : Nat} (h : ∀ i,i<n→f i≤a) (ha : -1≤a) (hk : k<n) (he : f k=a) : mxF f n=a:=by
 have key : ∀ n,(∀ i,i<n→f i≤a)→mxF f n≤a∧∀ i,i<n→f i≤mxF f n:=by
  intro n
  induction n with
  | zero=>exact fun _=>⟨ha,fun i hi=>by omega⟩
  | succ n ih=>
   intro h
   obtain⟨h1,h2⟩:=ih (fun i hi=>h i (by omega))
   have h3:=h n (by omega)
   unfold mxF
   split
   ·refine⟨h3,fun i hi=>?_⟩
    rcases Nat.lt_succ_iff_lt_or_eq.1 hi with h4|rfl
    ·have:=h2 i h4;omega
    ·omega
   ·refine⟨h1,fun i hi=>?_⟩
    rcases Nat.lt_succ_iff_lt_or_eq.1 hi with h4|rfl
    ·exact h2 i h4
    ·omega
 obtain⟨h1,h2⟩:=key n h
 have:=h2 k hk
 omega
def sA (m S L : Int) (R : List R2) (p : Nat) (n : Nat) : Int:=(otc m S (vl L (own R n))).1 p
def sB (m S L : Int) (R : List R2) (p : Nat) (n : Nat) : Int:=(otc m S (vl L (own R n))).2 p
theorem due_is {m S L : Int} {R : List R2} (h5 : m≠5) (hS : 0≤S∧S≤60) (hR8 : R.length≤8) (hR : ∀ r∈R,rok r) {W : Nat} (hW : (W : Int)=prd (wv R) R.length) {p : Nat} (hp : p<R.length) : mnF (sA m S L R p) W=bLo m S L R p∧mxF (sB m S L R p) W=bHi m S L R p:=by
 have wi:=fun n=>within (L:=L) h5 hS hR8 hR (own_len (R:=R) (n:=n)) (own_in hR n) hp
 have hS' : 0≤S∧S≤61:=by omega
 have p1 : p<(R.map (·.1)).length:=by rw[List.length_map];exact hp
 have p2 : p<(R.map (·.2)).length:=by rw[List.length_map];exact hp
 have lo : ∃ n : Nat,n<W∧own R n=(R.map (·.2)).set p (gl0 (R.map (·.1)) p):=by
  obtain⟨n,n0,n1,n2⟩:=own_all hR (l:=(R.map (·.2)).set p (gl0 (R.map (·.1)) p)) (by rw[List.length_set,List.length_map]) (fun q hq=>by
   have:=rok_gl hR hq
   rw[gl0_set p2]
   split
   ·rename_i e;subst e;omega
   ·omega)
  obtain⟨n',rfl⟩:=Int.eq_ofNat_of_zero_le n0
  exact⟨n',by omega,n2⟩
 have hi : ∃ n : Nat,n<W∧own R n=(R.map (·.1)).set p (gl0 (R.map (·.2)) p):=by
  obtain⟨n,n0,n1,n2⟩:=own_all hR (l:=(R.map (·.1)).set p (gl0 (R.map (·.2)) p)) (by rw[List.length_set,List.length_map]) (fun q hq=>by
   have:=rok_gl hR hq
   rw[gl0_set p1]
   split
   ·rename_i e;subst e;omega
   ·omega)
  obtain⟨n',rfl⟩:=Int.eq_ofNat_of_zero_le n0
  exact⟨n',by omega,n2⟩
 obtain⟨a,ha,ea⟩:=lo
 obtain⟨b,hb,eb⟩:=hi
 have bA:=fun n : Nat=>otc_hi (m:=m) (vl_ok (L:=L) (own_bd hR (n : Int))) hS' (vl_8 (L:=L) (by rw[own_len];exact hR8)) p
 have fA:=fun n : Nat=>Fin.bd (otc_fin (m:=m) (vl_ok (L:=L) (own_bd hR (n : Int))) hS' (vl_8 (L:=L) (by rw[own_len];exact hR8))) hS.1
 have e1 : sA m S L R p a=bLo m S L R p:=by unfold sA bLo;rw[ea]
 have e2 : sB m S L R p b=bHi m S L R p:=by unfold sB bHi;rw[eb]
 refine⟨mnF_is (k:=a) (fun i _=>(wi i).1) ?_ ha e1,mxF_is (k:=b) (fun i _=>(wi i).2) ?_ hb e2⟩
 ·rw[← e1]
  have:=(fA a).1 p
  unfold sA
  omega
 ·rw[← e2]
  have:=bA b
  have:=(fA b).2.1 p
  unfold sB
  omega
theorem flat_set {w : Nat} {x : List Value} (hx : x.length=w) : ∀ {l : List (List Value)} {g : Nat},(∀ y∈l,y.length=w)→g<l.length→setCells x (g*w) ⟨l.flatten⟩=⟨(l.set g x).flatten⟩:=by
 intro l g hl hg
 have hle : g*w+w≤l.length*w:=by
  have:=Nat.mul_le_mul_right w (show g+1≤l.length from hg)
  rw[Nat.add_mul,Nat.one_mul] at this
  exact this
 rw[setC_pre _ _ _ (by rw[flat_len hl,hx];omega)]
 have key : ∀ {l : List (List Value)} {g : Nat},(∀ y∈l,y.length=w)→g<l.length→l.flatten.take (g*w)++x++l.flatten.drop (g*w+x.length)=(l.set g x).flatten:=by
  intro l
  induction l with
  | nil=>intro g _ hg;simp at hg
  | cons y l ih=>
   intro g hl hg
   have hy:=hl y (by simp)
   cases g with
   | zero=>
    simp only[Nat.zero_mul,List.take_zero,List.nil_append,Nat.zero_add,List.set_cons_zero,List.flatten_cons]
    rw[hx,← hy,List.drop_left]
   | succ g=>
    have:=ih (g:=g) (fun z hz=>hl z (by simp[hz])) (by simpa using hg)
    simp only[List.set_cons_succ,List.flatten_cons,Nat.succ_mul]
    rw[← this,Nat.add_comm (g*w) w,← hy,List.take_length_add_append,Nat.add_assoc,List.drop_length_add_append]
    simp only[List.append_assoc]
 rw[key hl hg]
theorem mk_rng (H : Heap) (e : TypeId) (k : Nat) (hk : k≤1048576) : ymakeSlice e 16 [I 0,I 0] H (I k) (I k)=some (.slice (some ⟨H.next,0,none⟩) k k,H.alloc (.cells ⟨((List.replicate k ((0 : Int),(0 : Int))).map q2).flatten⟩ e true)):=by
 have e48 : (2 : Nat) ^ 48=281474976710656:=by decide
 have e2 : ((List.replicate k ((0 : Int),(0 : Int))).map q2).flatten=List.replicate (k*2) (I 0):=by
  rw[List.map_replicate]
  have : q2 (0,0)=List.replicate 2 (I 0):=rfl
  rw[this,List.flatten_replicate_replicate]
 have ez : zeros ⟨[I 0,I 0]⟩ ((k : Int).toNat*[I 0,I 0].length)=⟨List.replicate (k*2) (I 0)⟩:=by
  apply Array.toList_inj.1
  simp only[zeros,Array.toList_map,Array.toList_range,List.length_cons,List.length_nil,Int.toNat_natCast]
  apply List.ext_getElem
  ·simp
  ·intro j h1 h2
   have hj : j%2=0∨j%2=1:=by omega
   rcases hj with hj|hj<;>simp[hj]
 simp only[ymakeSlice]
 rw[if_pos ⟨by omega,by omega,by omega,by omega⟩,ez,e2]
 simp
def rg (n : Nat) (f : Nat→R2) : List R2:=(List.range n).map f
theorem rg_len (n : Nat) (f : Nat→R2) : (rg n f).length=n:=by simp[rg]
theorem rg_cong {n : Nat} {f g : Nat→R2} (h : ∀ i,i<n→f i=g i) : rg n f=rg n g:=List.map_congr_left fun i hi=>h i (List.mem_range.1 hi)
theorem rg_upd {n j : Nat} {f : Nat→R2} {y : R2} : (rg n f).set j y=rg n (fun i=>if i=j then y else f i):=by
 apply List.ext_getElem
 ·rw[List.length_set,rg_len,rg_len]
 ·intro i h1 h2
  rw[List.getElem_set]
  simp only[rg,List.getElem_map,List.getElem_range]
  by_cases e : j=i
  ·rw[if_pos e,if_pos e.symm]
  ·rw[if_neg e,if_neg (fun k=>e k.symm)]
def rf (n : Nat) (f : Nat→R2) : List Value:=((rg n f).map q2).flatten
theorem rf_len (n : Nat) (f : Nat→R2) : (rf n f).length=n*2:=by
 unfold rf
 rw[flat_len q2_w,List.length_map,rg_len]
theorem rf_set {n j : Nat} {f : Nat→R2} {a b : Int} (hj : j<n) : ((rf n f).set (j*2) (I a)).set (j*2+1) (I b)=rf n (fun i=>if i=j then (a,b) else f i):=by
 have h:=flat_set (w:=2) (x:=A2 a b) rfl (l:=(rg n f).map q2) (g:=j) q2_w (by rw[List.length_map,rg_len];exact hj)
 simp only[setC_cons,setC_nil] at h
 have h2:=congrArg Array.toList h
 simp only at h2
 unfold rf
 rw[← rg_upd,List.map_set,← h2]
theorem rf_get {n j : Nat} {f : Nat→R2} (hj : j<n) : (rf n f)[j*2]?=some (I (f j).1)∧(rf n f)[j*2+1]?=some (I (f j).2):=by
 have h:=flat_at (w:=2) (l:=(rg n f).map q2) (k:=j) (x:=q2 (f j)) q2_w (by simp[rg,hj])
 have e : ∀ i,i<2→((((rg n f).map q2).flatten.drop (j*2)).take 2)[i]?=((rg n f).map q2).flatten[j*2+i]?:=fun i hi=>by
  rw[List.getElem?_take,if_pos hi,List.getElem?_drop]
 rw[h] at e
 exact⟨(e 0 (by omega)).symm,(e 1 (by omega)).symm⟩
theorem own_idx2 {y n c g : Nat} (h : g<n) : yindexAddr none 2 (.slice (some ⟨y,0,none⟩) n c) (I (g : Nat))=some (.pointer (some ⟨y,g*2,none⟩)):=by
 simp only[yindexAddr]
 rw[if_pos ⟨by omega,by omega⟩]
 simp
theorem f39_ok {H : Heap} {x : Value} {R : List R2} (h : RS H x R) (hR8 : R.length≤8) (hR : ∀ r∈R,rok r) : Gives Try.prog 39 [x] H (I (wdn (wv R) R.length)):=by
 have hl:=h.len
 obtain⟨px,nx',cx,rfl⟩:=h.isS
 refine F.entryL rfl dg39 do39 de39 rfl (by kernel_rfl) ?_
 simp only[sets]
 refine V.re [(0,.slice px nx' cx)] (N:=27) zE zY ?_
 intro t hF hA
 simp only[Kn,and_true] at hA
 refine zS ?_
 refine V.l0 ?_
 refine zS ?_
 refine V.l0 ?_
 refine zS ?_
 refine V.l0 ?_
 refine zS ?_
 refine V.loop (fun z t mm X=>∃ (k : Nat),k≤R.length∧z=R.length-k∧mm=[]∧Grow H X∧Full 27 t∧Kn [(0,.slice px nx' cx),(3,I (wdn (wv R) k)),(4,I k)] t) R.length ?_ ?_
 ·exact⟨0,by omega,by omega,rfl,.refl _,zF,zK⟩
 clear hF hA
 rintro z t mm X ⟨k,hk,rfl,rfl,hg,hF,hA⟩
 simp only[Kn,and_true] at hA
 refine zS ?_
 have zf:=@hl
 refine V.lz ?_
 refine zS ?_
 refine V.condP zP (fun hlt=>?_) (fun hlt=>?_)
 ·have hlt' : k<R.length:=by omega
  obtain⟨i,o,h1,h2⟩:=h.at hlt'
  obtain⟨_,h4,h5⟩:=h2 X hg
  rw[← gl0_map (R:=R) (f:=(·.1)) hlt'] at h4
  rw[← gl0_map (R:=R) (f:=(·.2)) hlt'] at h5
  have hb:=rok_gl hR hlt'
  have hwv:=wv_bd hR hlt'
  obtain⟨d1,d2,_⟩:=wdn_prd (w:=wv R) (k:=k) (fun q hq=>(wv_bd hR (show q<R.length by omega)).1)
  have ew : gl0 (R.map (·.2)) k-gl0 (R.map (·.1)) k+1=wv R k:=rfl
  have hpb : 0≤wdn (wv R) k*wv R k∧wdn (wv R) k*wv R k≤1048576*10001:=⟨Int.mul_nonneg (by omega) (by omega),Int.mul_le_mul d2 hwv.2 (by omega) (by omega)⟩
  have es : (if wdn (wv R) k*wv R k<1048576 then wdn (wv R) k*wv R k else 1048576)=wdn (wv R) (k+1):=rfl
  refine zS ?_
  have zf:=And.intro @h1<|And.intro @h4<|And.intro @h5<|And.intro @ew<|@es
  refine V.dz ?_ ?_ rfl ?_
  ·exact zM
  ·simp only[dcAll,dcOk,wantD,List.cons_append,List.nil_append,true_and,and_true]
  refine zS ?_
  refine V.l0 ?_
  refine V.nil (Or.inl ⟨rfl,R.length-(k+1),by omega,?_⟩)
  exact⟨k+1,by omega,rfl,rfl,hg,zF,zK⟩
 ·obtain rfl : k=R.length:=by omega
  refine V.exit ?_
  refine zX ?_
  refine V.nil (Or.inr ⟨by simp,?_⟩)
  refine zX ?_
  refine zS ?_
  refine V.l0 ?_
  refine zS ?_
  refine V.ret (V.rets rfl (Lv.retG (by simp +contextual (disch:=first|omega|simp only[nx];omega) only[D1,cells_alloc_at,cells_alloc_ne,cells_set_at,cells_set_ne,yres,yres1,yresL,qA,qB,qC,D5,hF,hA,↓reduceIte,qD,qE];rfl) ?_ ?_))
  ·exact hg
  ·rfl
end Go.Xe.TVX
