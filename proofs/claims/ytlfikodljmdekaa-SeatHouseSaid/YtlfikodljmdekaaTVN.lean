/- What the functions of the layer seat come to: SeatKind. Conditions: none. -/
import Derived.Test.YtlfikodljmdekaaTVJ
-- MOD TV
namespace Go.Xe.TVX
open Go Go.Xe Go.Proofs
open Nat renaming reduceLeDiff → qA, reduceSub → qB, reduceAdd → qC, reduceEqDiff → qD, reduceLT → qE
open Int renaming reduceNegSucc → qF, reduceEq → qG
open Go.Xe.V renaming seq → sA, block → sB, scope → sC, skip → sD, close → sE
open Go.Xe renaming pth → P
open Go.Xe.Sea
set_option maxRecDepth 100000
set_option maxHeartbeats 3200000
set_option linter.unusedSimpArgs false
theorem SR.ok {m S L : Int} {l : List Int} {X : Heap} {w : Value} (h : SR m S L l X w) (h0 : flt m S L l=0) : ∃ y e,w=.tuple ⟨[y,I e]⟩∧((¬ sure m S (vl L l)∧y=.slice none 0 0∧e=10)∨(sure m S (vl L l)∧e=0∧LS X y (fl l.length (otc m S (vl L l)).1))):=by
 obtain⟨y,e,hw,h⟩:=h
 refine⟨y,e,hw,?_⟩
 rcases h with⟨h,_⟩|⟨_,h⟩|⟨_,h⟩
 ·exact absurd h0 h
 ·exact .inl h
 ·exact .inr h
end Go.Xe.TVX
/- What the functions of the layer seat come to: SeatVotes. Conditions: none. -/
-- MOD TV
namespace Go.Xe.TVX
open Go Go.Xe Go.Proofs
open Nat renaming reduceLeDiff → qA, reduceSub → qB, reduceAdd → qC, reduceEqDiff → qD, reduceLT → qE
open Int renaming reduceNegSucc → qF, reduceEq → qG
open Go.Xe.V renaming seq → sA, block → sB, scope → sC, skip → sD, close → sE
open Go.Xe renaming pth → P
open Go.Xe.Sea
set_option maxRecDepth 100000
set_option maxHeartbeats 3200000
set_option linter.unusedSimpArgs false
theorem clq_le {m S : Int} {v : Nat→Int} (hv : vok v) (hS : 0≤S∧S≤61) {p : Nat} (hp : p<8) (h : 0<v p) : ∀ {n : Nat} {s : Int},0≤s→¬ qlt (clq m S v p s) (clq m S v p (s+n))
 | 0,s,_=>by
  have e : s+((0 : Nat) : Int)=s:=by omega
  rw[e];exact qlt_irr _
 | n+1,s,hs=>by
  have h1:=clq_le (m:=m) hv hS hp h (n:=n) hs
  have h2:=clq_dec (m:=m) hv hS hp h (s:=s+n) (by omega)
  have e : s+((n+1 : Nat) : Int)=s+n+1:=by omega
  rw[e]
  exact qlt_neg (clq_ok hv hS hp h hs) (clq_ok hv hS hp h (by omega)) (clq_ok hv hS hp h (by omega)) h1 h2
theorem clq_le' {m S : Int} {v : Nat→Int} (hv : vok v) (hS : 0≤S∧S≤61) {p : Nat} (hp : p<8) (h : 0<v p) {s t : Int} (hs : 0≤s) (hst : s≤t) : ¬ qlt (clq m S v p s) (clq m S v p t):=by
 have:=clq_le (m:=m) hv hS hp h (n:=(t-s).toNat) hs
 have e : s+((t-s).toNat : Int)=t:=by omega
 rw[e] at this
 exact this
theorem cross_no {m S S' : Int} {v v' : Nat→Int} (h5 : m≠5) (hv : vok v) (hv' : vok v') (hS : 0≤S∧S≤61) (hS' : 0≤S'∧S'≤61) {a b : Nat→Int} (A : Low v (clq m S v) a) (B : Low v' (clq m S' v') b) {p q : Nat} (hp : p<8) (hq : q<8)
  (vp : 0<v p) (vq : 0<v q) (vp' : 0<v' p) (vq' : 0<v' q) (h1 : b p<a p) (h2 : a q<b q) (k1 : ¬ qlt (clq m S' v' p (b p)) (clq m S v p (b p))) (k2 : ¬ qlt (clq m S v q (b q-1)) (clq m S' v' q (b q-1))) : False:=by
 have b0:=B.nn p
 have a0:=A.nn q
 have str : ∀ p t,0<v p→0≤t→qlt (clq m S v p (t+1)) (clq m S v p t):=fun p t h ht=>clq_str h5 h ht
 have s1:=A.strict str p q (a p-1) hp vp hq vq (by omega) (by omega)
 have w1:=B.weak q p (b q-1) hq vq' hp vp' (by omega) (by omega)
 apply w1
 have c1:=clq_ok (m:=m) hv hS hq vq (s:=b q-1) (by omega)
 have c2:=clq_ok (m:=m) hv hS hq vq a0
 have c3:=clq_ok (m:=m) hv hS hp vp (s:=a p-1) (by omega)
 have c4:=clq_ok (m:=m) hv hS hp vp b0
 have c5:=clq_ok (m:=m) hv' hS' hp vp' b0
 have c6:=clq_ok (m:=m) hv' hS' hq vq' (s:=b q-1) (by omega)
 have d1:=clq_le' (m:=m) hv hS hq vq (s:=a q) (t:=b q-1) a0 (by omega)
 have d2:=clq_le' (m:=m) hv hS hp vp (s:=b p) (t:=a p-1) b0 (by omega)
 have e1 : qlt (clq m S v q (b q-1)) (clq m S v p (a p-1)):=le_qlt c1 c2 c3 d1 s1
 have e2 : qlt (clq m S v q (b q-1)) (clq m S v p (b p)):=qlt_le c1 c3 c4 e1 d2
 have e3 : qlt (clq m S v q (b q-1)) (clq m S' v' p (b p)):=qlt_le c1 c4 c5 e2 k1
 exact le_qlt c6 c1 c5 k2 e3
theorem sure_sum {m S : Int} {v : Nat→Int} (hv : vok v) (hS : 0≤S∧S≤61) (hv8 : ∀ p,¬ p<8→v p=0) (hs : sure m S v) : ((∃ p,p<8∧0<v p)∧sm (otc m S v).1 8=S)∨((∀ p,p<8→¬ 0<v p)∧(otc m S v).1=fun _=>0):=by
 have F:=otc_fin (m:=m) hv hS hv8
 rcases F.2 with⟨h,e,_⟩|⟨h,e,_⟩|⟨h,e1,e2,e3⟩
 ·exact .inr ⟨h,e⟩
 ·exact .inl ⟨h,e⟩
 ·exfalso
  obtain⟨T,hT⟩ : ∃ T,T=tp v (fun p=>clq m S v p ((otc m S v).1 p)) 8:=⟨_,rfl⟩
  rw[← hT] at e2 e3
  have hne : T≠[]:=fun h=>by rw[h] at e2;simp at e2;omega
  obtain⟨p,hp⟩:=List.exists_mem_of_ne_nil _ hne
  have hp8 : p<8:=by rw[hT] at hp;exact (mem_tp.1 hp).1
  have:=hs p hp8
  rw[e3] at this
  unfold up at this
  rw[if_pos hp] at this
  omega
theorem sure_none {m S : Int} {v : Nat→Int} (h : ∀ p,p<8→¬ 0<v p) (F : Fin v (clq m S v) S (otc m S v).1 (otc m S v).2) : (otc m S v).1=fun _=>0:=by
 rcases F.2 with⟨_,e,_⟩|⟨⟨p,h1,h2⟩,_⟩|⟨⟨p,h1,h2⟩,_⟩
 ·exact e
 ·exact absurd h2 (h p h1)
 ·exact absurd h2 (h p h1)
end Go.Xe.TVX
/- What the functions of the layer seat come to: SeatVotes. Conditions: none. -/
-- MOD TV
namespace Go.Xe.TVX
open Go Go.Xe Go.Proofs
open Nat renaming reduceLeDiff → qA, reduceSub → qB, reduceAdd → qC, reduceEqDiff → qD, reduceLT → qE
open Int renaming reduceNegSucc → qF, reduceEq → qG
open Go.Xe.V renaming seq → sA, block → sB, scope → sC, skip → sD, close → sE
open Go.Xe renaming pth → P
open Go.Xe.Sea
set_option maxRecDepth 100000
set_option maxHeartbeats 3200000
set_option linter.unusedSimpArgs false
end Go.Xe.TVX
/- What the functions of the layer seat come to: one seat more. Conditions: none. -/
-- MOD TV
namespace Go.Xe.TVX
open Go Go.Xe Go.Proofs
open Nat renaming reduceLeDiff → qA, reduceSub → qB, reduceAdd → qC, reduceEqDiff → qD, reduceLT → qE
open Int renaming reduceNegSucc → qF, reduceEq → qG
open Go.Xe.V renaming seq → sA, block → sB, scope → sC, skip → sD, close → sE
open Go.Xe renaming pth → P
open Go.Xe.Sea
set_option maxRecDepth 100000
set_option maxHeartbeats 3200000
set_option linter.unusedSimpArgs false
noncomputable def d64 : FCode:=(.seq (.run (.go (.box 78 (tm 0)) (P 2)::
.go (.box 78 (tm 1)) (P 3)::
.go (.move (.con (.int .i64 (.ofNat 0)))) (P 4)::
.go (.move (.con (.int .i64 (.ofNat 0)))) (P 5)::
[])) (.seq (.seq (.run (.go (.loadN 8 (tm 2)) (P 8)::
.go (.move (.con (.int .i64 (.ofNat 0)))) (P 9)::
[])) (.block 0 (.loop (.seq (.run (.go (.bin .lss 3 (tm 9) (.con (.int .i64 (.ofNat 8)))) (P 10)::
[])) (.seq (.cond (tm 10) .skip (.exit 0)) (.seq (.block 1 (.seq (.run (.go (.move (tm 9)) (P 11)::
.go (.index 8 1 true (tm 8) (tm 9)) (P 12)::
.go (.move (tm 11)) (P 6)::
.go (.move (tm 12)) (P 7)::
[])) (.seq (.run (.go (.move (tm 7)) (P 13)::
.go (.move (tm 6)) (P 14)::
.go (.indexAddr (some 8) 1 (tm 3) (tm 14)) (P 15)::
.go (.load1 (tm 15)) (P 16)::
.go (.bin .lss 3 (tm 13) (tm 16)) (P 17)::
[])) (.cond (tm 17) (.seq (.run (.go (.move (tm 6)) (P 18)::
.go (.move (tm 18)) (P 4)::
.go (.move (.con (.int .i64 (.ofNat 0)))) (P 5)::
[])) .ret) .skip)))) (.run (.go (.bin .add 3 (tm 9) (.con (.int .i64 (.ofNat 1)))) (P 19)::
.go (.move (tm 19)) (P 9)::
[])))))))) (.seq (.run (.go (.move (.con (.int .i64 (.ofNat 0)))) (P 4)::
.go (.move (.con (.int .i64 (.ofNat 7)))) (P 5)::
[])) .ret)))
theorem de64 : @compF Try.prog (Gl.none Try.prog) Try.f64 2=.mk d64 (mkTT 20) [(P 0),(P 1)] [.tmp (P 4),.tmp (P 5)]:=by kernel_rfl
theorem dg64 : Try.prog.funcs[64]?=some Try.f64:=Try.func64
theorem do64 : okF Try.prog Try.f64=true:=by kernel_rfl
noncomputable def d63 : FCode:=(.seq (.run (.go (.box 83 (tm 0)) (P 1)::
.go (.alloc 78 [(.int .i64 (.ofNat 0)),(.int .i64 (.ofNat 0)),(.int .i64 (.ofNat 0)),(.int .i64 (.ofNat 0)),(.int .i64 (.ofNat 0)),(.int .i64 (.ofNat 0)),(.int .i64 (.ofNat 0)),(.int .i64 (.ofNat 0))]) (P 2)::
.go (.alloc 78 [(.int .i64 (.ofNat 0)),(.int .i64 (.ofNat 0)),(.int .i64 (.ofNat 0)),(.int .i64 (.ofNat 0)),(.int .i64 (.ofNat 0)),(.int .i64 (.ofNat 0)),(.int .i64 (.ofNat 0)),(.int .i64 (.ofNat 0))]) (P 3)::
.go (.move (.con (.int .i64 (.ofNat 0)))) (P 4)::
[])) (.seq (.run (.go (.loadN 22 (tm 1)) (P 6)::
.go (.call (.con (.func (.func 56) ⟨[]⟩ ⟨[]⟩)) [tm 6]) (P 7)::
.go (.move (tm 7)) (P 5)::
.go (.extract (tm 5) 0) (P 8)::
.go (.extract (tm 5) 1) (P 9)::
.un (.store 8 (tm 2) (tm 8))::
.go (.move (tm 9)) (P 4)::
[])) (.seq (.seq (.run (.go (.move (tm 4)) (P 10)::
.go (.bin .neq 26 (tm 10) (.con (.int .i64 (.ofNat 0)))) (P 11)::
[])) (.cond (tm 11) (.seq (.run (.go (.build [(.int .i64 (.ofNat 0)),(.int .i64 (.ofNat 0)),(.int .i64 (.ofNat 0)),(.int .i64 (.ofNat 0)),(.int .i64 (.ofNat 0)),(.int .i64 (.ofNat 0)),(.int .i64 (.ofNat 0)),(.int .i64 (.ofNat 0))] []) (P 12)::
.go (.build [(.int .i64 (.ofNat 0)),(.int .i64 (.ofNat 0)),(.int .i64 (.ofNat 0)),(.int .i64 (.ofNat 0)),(.int .i64 (.ofNat 0)),(.int .i64 (.ofNat 0)),(.int .i64 (.ofNat 0)),(.int .i64 (.ofNat 0))] []) (P 13)::
.go (.move (tm 4)) (P 14)::
.un (.store 8 (tm 2) (tm 12))::
.un (.store 8 (tm 3) (tm 13))::
.go (.move (tm 14)) (P 4)::
[])) .ret) .skip)) (.seq (.run (.go (.fieldAddr 0 (tm 1)) (P 15)::
.go (.fieldAddr 1 (tm 15)) (P 16)::
.go (.load1 (tm 16)) (P 17)::
.go (.bin .add 3 (tm 17) (.con (.int .i64 (.ofNat 1)))) (P 18)::
.go (.fieldAddr 0 (tm 1)) (P 19)::
.go (.fieldAddr 1 (tm 19)) (P 20)::
.un (.store 1 (tm 20) (tm 18))::
[])) (.seq (.run (.go (.loadN 22 (tm 1)) (P 22)::
.go (.call (.con (.func (.func 56) ⟨[]⟩ ⟨[]⟩)) [tm 22]) (P 23)::
.go (.move (tm 23)) (P 21)::
.go (.extract (tm 21) 0) (P 24)::
.go (.extract (tm 21) 1) (P 25)::
.un (.store 8 (tm 3) (tm 24))::
.go (.move (tm 25)) (P 4)::
[])) (.seq (.draw 6 (.go (.loadN 8 (tm 2)) (P 26)::
.go (.loadN 8 (tm 3)) (P 27)::
.go (.move (tm 4)) (P 28)::
.un (.store 8 (tm 2) (tm 26))::
.un (.store 8 (tm 3) (tm 27))::
.go (.move (tm 28)) (P 4)::
[]) [.ok,.rd none (.loadN 8 (tm 3)) (some (P 27)) [4],.ok,.ok,.ok,.ok]) .ret))))))
theorem de63 : @compF Try.prog (Gl.none Try.prog) Try.f63 1=.mk d63 (mkTT 29) [(P 0)] [.many (P 2) 8,.many (P 3) 8,.tmp (P 4)]:=by kernel_rfl
theorem dg63 : Try.prog.funcs[63]?=some Try.f63:=Try.func63
theorem do63 : okF Try.prog Try.f63=true:=by kernel_rfl
def FB (a b : Nat→Int) (p e : Int) : Prop:=(∃ k : Nat,k<8∧a k<b k∧(∀ i,i<k→¬ a i<b i)∧p=k∧e=0)∨((∀ i,i<8→¬ a i<b i)∧p=0∧e=7)
theorem f64_ok {H : Heap} {a b : Nat→Int} : F Try.prog 64 ⟨[.agg ⟨n8 a⟩,.agg ⟨n8 b⟩]⟩ H (fun w X=>Grow H X∧∃ p e,w=.tuple ⟨[I p,I e]⟩∧FB a b p e):=by
 refine F.entryL rfl dg64 do64 de64 rfl (by kernel_rfl) ?_
 simp only[sets]
 refine V.re [(0,.agg ⟨n8 a⟩),(1,.agg ⟨n8 b⟩)] (N:=20) zE zY ?_
 intro t hF hA
 simp only[Kn,and_true] at hA
 refine zS ?_
 refine V.l0 ?_
 refine V.heap (fun X=>Grow H X∧Bx X H.next (n8 a) 78∧Bx X (H.next+1) (n8 b) 78) ⟨?_,?_,?_⟩ ?_
 ·exact zW
 ·exact zB
 ·exact zB
 rintro H1 ⟨g1,b1,c1⟩
 refine zS ?_
 have zf:=And.intro b1.2<|And.intro @n8_len<|@n8_take
 refine V.lz ?_
 refine zS ?_
 refine V.loop (fun z t mm X=>∃ (p : Nat),p≤8∧z=8-p∧mm=[]∧X=H1∧(∀ i,i<p→¬ a i<b i)∧Full 20 t∧Kn [(3,PT (H.next+1)),(8,.agg ⟨n8 a⟩),(9,I p)] t) 8 ?_ ?_
 ·exact⟨0,by omega,by omega,rfl,rfl,fun i hi=>by omega,zF,zK⟩
 clear hF hA
 rintro z t mm X ⟨p,hp,rfl,rfl,hX,hno,hF,hA⟩
 obtain rfl : H1=X:=hX.symm
 simp only[Kn,and_true] at hA
 refine zS ?_
 refine V.l0 ?_
 refine zS ?_
 refine V.condP zP (fun hlt=>?_) (fun hlt=>?_)
 ·have hlt' : p<8:=by omega
  have ix:=n8_ix (f:=a) hlt' (k:=.i64)
  have ia:=idx_arr (i:=H.next+1) (o:=0) (kd:=.i64) hlt'
  have ib:=n8_get (f:=b) hlt'
  refine zS ?_
  have zf:=@ix
  refine V.lz ?_
  refine zS ?_
  have zf:=And.intro c1.2<|And.intro @ia<|@ib
  refine V.lz ?_
  refine zS ?_
  refine V.condP zP (fun hb=>?_) (fun hb=>?_)
  ·refine zS ?_
   refine V.l0 ?_
   refine zS ?_
   refine V.ret (V.rets rfl (Or.inr ⟨by simp,V.rets rfl (Lv.retF (by simp +contextual (disch:=first|omega|simp only[nx];omega) only[D1,cells_alloc_at,cells_alloc_ne,cells_set_at,cells_set_ne,yres,yres1,yresL,qA,qB,qC,D5,hF,hA,↓reduceIte,qD,qE];rfl) ?_)⟩))
   exact⟨g1,_,_,rfl,.inl ⟨p,hlt',hb,hno,rfl,rfl⟩⟩
  ·refine zS ?_
   refine V.l0 ?_
   refine V.nil (Or.inl ⟨rfl,8-(p+1),by omega,?_⟩)
   refine⟨p+1,hlt',rfl,rfl,rfl,fun i hi=>?_,zF,zK⟩
   rcases Nat.lt_succ_iff_lt_or_eq.1 hi with h|rfl
   ·exact hno i h
   ·exact hb
 ·obtain rfl : p=8:=by omega
  refine V.exit ?_
  refine zX ?_
  refine V.nil (Or.inr ⟨by simp,?_⟩)
  refine zX ?_
  refine zS ?_
  refine V.l0 ?_
  refine zS ?_
  refine V.ret (V.rets rfl (Lv.retF (by simp +contextual (disch:=first|omega|simp only[nx];omega) only[D1,cells_alloc_at,cells_alloc_ne,cells_set_at,cells_set_ne,yres,yres1,yresL,qA,qB,qC,D5,hF,hA,↓reduceIte,qD,qE];rfl) ?_))
  exact⟨g1,_,_,rfl,.inr ⟨hno,rfl,rfl⟩⟩
def ONE (m S : Int) (v : Nat→Int) (w : Value) : Prop:=∃ a b e,w=.tuple ⟨[.agg ⟨n8 a⟩,.agg ⟨n8 b⟩,I e]⟩∧((e=10∧¬ (sure m S v∧sure m (S+1) v))∨(e=0∧sure m S v∧sure m (S+1) v∧a=(otc m S v).1∧b=(otc m (S+1) v).1))
theorem f63_ok {H : Heap} {m S L : Int} {c v : Nat→Int} (hm : 1≤m∧m≤5) (hv : vok v) (hS : 0≤S∧S≤60) (hv8 : ∀ p,¬ p<8→v p=0) :
  F Try.prog 63 ⟨[.agg ⟨pc m S L c v (sm v 8) (dvf m) (clf m)⟩]⟩ H (fun w X=>Grow H X∧ONE m S v w):=by
 refine F.entryL rfl dg63 do63 de63 rfl (by kernel_rfl) ?_
 simp only[sets]
 refine V.re [(0,.agg ⟨pc m S L c v (sm v 8) (dvf m) (clf m)⟩)] (N:=29) zE zY ?_
 intro t hF hA
 simp only[Kn,and_true] at hA
 refine zS ?_
 refine V.l0 ?_
 refine V.heap (fun X=>Grow H X∧Bx X H.next (pc m S L c v (sm v 8) (dvf m) (clf m)) 83∧Bx X (H.next+1) (n8 fun _=>0) 78∧Bx X (H.next+2) (n8 fun _=>0) 78) ⟨?_,?_,?_,?_⟩ ?_
 ·exact zW
 ·exact zB
 ·rw[← n8_0];exact zB
 ·rw[← n8_0];exact zB
 rintro H1 ⟨g1,b1,c1,d1⟩
 obtain⟨r1,hr1⟩ : ∃ r,r=(if sure m S v then (otc m S v).1 else fun _=>0):=⟨_,rfl⟩
 have f56a:=fun X=>f56_ok (H:=X) (L:=L) (c:=c) hm hv (show 0≤S∧S≤61 by omega) hv8
 rw[← hr1] at f56a
 have n8a:=n8_set0 r1 (fun _=>0)
 have n1:=d1.1
 refine zS ?_
 refine V.run ?_
 have zf:=And.intro b1.2<|@PC
 refine VI.sz 1 ?_
 simp only[ds]
 refine VI.callA rfl (f56a H1) zA (fun H2 g2=>?_)
 have b2:=b1.grow g2
 have c2:=c1.grow g2
 have d2:=d1.grow g2
 have g12:=g1.trans g2
 have zf:=And.intro c2.2<|And.intro @n8_take<|And.intro @n8_len<|And.intro @n8_ok<|@n8a
 refine VI.lz ?_
 refine V.heap (fun X=>Grow H X∧Bx X H.next (pc m S L c v (sm v 8) (dvf m) (clf m)) 83∧Bx X (H.next+1) (n8 r1) 78∧Bx X (H.next+2) (n8 fun _=>0) 78) ⟨?_,?_,?_,?_⟩ ?_
 ·exact zW
 ·exact b2.set (by omega) _
 ·exact Bx.put c2.1 _ _
 ·exact d2.set (by omega) _
 rintro H3 ⟨g3,b3,c3,d3⟩
 refine zS ?_
 refine V.l0 ?_
 refine zS ?_
 by_cases hs1 : sure m S v
 ·have e0 : ((if sure m S v then (0 : Int) else 10)≠0)=False:=by rw[if_pos hs1];simp
  refine V.condP zP (fun ht=>?_) (fun ht=>?_)
  ·exact absurd ht (by rw[if_pos hs1];simp)
  obtain⟨r2,hr2⟩ : ∃ r,r=(if sure m (S+1) v then (otc m (S+1) v).1 else fun _=>0):=⟨_,rfl⟩
  have f56b:=fun X=>f56_ok (H:=X) (L:=L) (c:=c) (m:=m) (S:=S+1) hm hv (by omega) hv8
  rw[← hr2] at f56b
  have n8b:=n8_set0 r2 (fun _=>0)
  have n8c:=n8_set0 r1 r1
  have n8d:=n8_set0 r2 r2
  have ve1:=n8_vEq r1
  have ve2:=n8_vEq r2
  refine zS ?_
  have zf:=And.intro b3.2<|@PC
  refine V.lz ?_
  refine V.heap (fun X=>Grow H X∧Bx X H.next (pc m (S+1) L c v (sm v 8) (dvf m) (clf m)) 83∧Bx X (H.next+1) (n8 r1) 78∧Bx X (H.next+2) (n8 fun _=>0) 78) ⟨?_,?_,?_,?_⟩ ?_
  ·exact zW
  ·exact Bx.put b3.1 _ _
  ·exact c3.set (by omega) _
  ·exact d3.set (by omega) _
  rintro H4 ⟨g4,b4,c4,d4⟩
  refine zS ?_
  refine V.run ?_
  have zf:=And.intro b4.2<|@PC
  refine VI.sz 1 ?_
  simp only[ds]
  refine VI.callA rfl (f56b H4) zA (fun H5 g5=>?_)
  have c5:=c4.grow g5
  have d5:=d4.grow g5
  have g15:=g4.trans g5
  have zf:=And.intro d5.2<|And.intro @n8_take<|And.intro @n8_len<|And.intro @n8_ok<|@n8b
  refine VI.lz ?_
  refine V.heap (fun X=>Grow H X∧Bx X (H.next+1) (n8 r1) 78∧Bx X (H.next+2) (n8 r2) 78) ⟨?_,?_,?_⟩ ?_
  ·exact zW
  ·exact c5.set (by omega) _
  ·exact Bx.put d5.1 _ _
  rintro H6 ⟨g6,c6,d6⟩
  refine zS ?_
  have zf:=And.intro c6.2<|And.intro d6.2<|And.intro @n8_take<|And.intro @n8_len<|And.intro @n8_ok<|And.intro @n8c<|@n8d
  refine V.dz ?_ ?_ rfl ?_
  ·exact zM
  ·simp only[dcAll,dcOk,wantD,List.cons_append,List.nil_append,true_and,and_true]
   have zf:=And.intro c6.2<|And.intro d6.2<|And.intro @n8_take<|And.intro @n8_len<|And.intro @n8_ok<|And.intro @n8c<|@n8d
   exact zR
  refine zS ?_
  refine V.ret (V.rets rfl (Lv.retF (by simp +contextual (disch:=first|omega|simp only[nx];omega) only[D1,cells_alloc_at,cells_alloc_ne,cells_set_at,cells_set_ne,yres,yres1,yresL,qA,qB,qC,D5,hF,hA,↓reduceIte,qD,qE,n8_take,n8_len];rfl) ?_))
  refine⟨?_,r1,r2,(if sure m (S+1) v then 0 else 10),rfl,?_⟩
  ·exact (g6.set (by omega) _).set (by omega) _
  by_cases hs2 : sure m (S+1) v
  ·rw[if_pos hs2] at hr2 ⊢
   rw[if_pos hs1] at hr1
   exact .inr ⟨rfl,hs1,hs2,hr1,hr2⟩
  ·rw[if_neg hs2]
   exact .inl ⟨rfl,fun h=>hs2 h.2⟩
 ·refine V.condP zP (fun ht=>?_) (fun ht=>?_)
  ·have n8z:=n8_set0 (fun _=>0) r1
   have n8y:=n8_set0 (fun _=>0) (fun _=>0)
   refine zS ?_
   have zf:=And.intro c3.2<|And.intro d3.2<|And.intro @n8_take<|And.intro @n8_len<|And.intro @n8_ok<|And.intro @n8z<|And.intro @n8y<|@n8_0
   refine V.lz ?_
   refine zS ?_
   refine V.ret (V.rets rfl (Lv.retF (by simp +contextual (disch:=first|omega|simp only[nx];omega) only[D1,cells_alloc_at,cells_alloc_ne,cells_set_at,cells_set_ne,yres,yres1,yresL,qA,qB,qC,D5,hF,hA,↓reduceIte,qD,qE,n8_take,n8_len];rfl) ?_))
   refine⟨?_,_,_,10,by rw[if_neg hs1],.inl ⟨rfl,fun h=>hs1 h.1⟩⟩
   exact (g3.set (by omega) _).set (by omega) _
  ·exact absurd ht (by rw[if_neg hs1];simp)
end Go.Xe.TVX
