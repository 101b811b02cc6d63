/- What the functions of the layer seat come to: results. Conditions: none. -/
import Derived.Test.YtelfbgmhleneiaaTVH
-- MOD TV
namespace Go.Xe.TVX
open Go Go.Xe Go.Proofs
open Nat renaming reduceLeDiff → qA, reduceSub → qB, reduceAdd → qC, reduceEqDiff → qD, reduceLT → qE
open Int renaming reduceNegSucc → qF, reduceEq → qG
open Go.Xe.V renaming seq → sA, block → sB, scope → sC, skip → sD, close → sE
open Go.Xe renaming pth → P
open Go.Xe.Sea
set_option maxRecDepth 100000
set_option maxHeartbeats 3200000
set_option linter.unusedSimpArgs false
noncomputable def d79 : FCode:=(.seq (.run (.go (.box 83 (tm 0)) (P 1)::
.go (.alloc 78 [(.int .i64 (.ofNat 0)),(.int .i64 (.ofNat 0)),(.int .i64 (.ofNat 0)),(.int .i64 (.ofNat 0)),(.int .i64 (.ofNat 0)),(.int .i64 (.ofNat 0)),(.int .i64 (.ofNat 0)),(.int .i64 (.ofNat 0))]) (P 2)::
.go (.alloc 78 [(.int .i64 (.ofNat 0)),(.int .i64 (.ofNat 0)),(.int .i64 (.ofNat 0)),(.int .i64 (.ofNat 0)),(.int .i64 (.ofNat 0)),(.int .i64 (.ofNat 0)),(.int .i64 (.ofNat 0)),(.int .i64 (.ofNat 0))]) (P 3)::
[])) (.seq (.run (.go (.alloc 126 [.nilFunc]) (P 4)::
[])) (.seq (.run (.go (.makeFunc 97 [] [(tm 1),(tm 2),(tm 3),(tm 4)]) (P 5)::
.un (.store 1 (tm 4) (tm 5))::
[])) (.seq (.run (.go (.load1 (tm 4)) (P 6)::
.go (.fieldAddr 0 (tm 1)) (P 7)::
.go (.fieldAddr 1 (tm 7)) (P 8)::
.go (.load1 (tm 8)) (P 9)::
.go (.call (tm 6) [tm 9]) (P 10)::
[])) (.seq (.draw 4 (.go (.loadN 8 (tm 2)) (P 11)::
.go (.loadN 8 (tm 3)) (P 12)::
.un (.store 8 (tm 2) (tm 11))::
.un (.store 8 (tm 3) (tm 12))::
[]) [.ok,.rd none (.loadN 8 (tm 3)) (some (P 12)) [3],.ok,.ok]) .ret)))))
theorem de79 : @compF Try.prog (Gl.none Try.prog) Try.f79 1=.mk d79 (mkTT 13) [(P 0)] [.many (P 2) 8,.many (P 3) 8]:=by kernel_rfl
theorem dg79 : Try.prog.funcs[79]?=some Try.f79:=Try.func79
theorem do79 : okF Try.prog Try.f79=true:=by kernel_rfl
noncomputable def d56 : FCode:=(.seq (.run (.go (.box 83 (tm 0)) (P 1)::
.go (.alloc 78 [(.int .i64 (.ofNat 0)),(.int .i64 (.ofNat 0)),(.int .i64 (.ofNat 0)),(.int .i64 (.ofNat 0)),(.int .i64 (.ofNat 0)),(.int .i64 (.ofNat 0)),(.int .i64 (.ofNat 0)),(.int .i64 (.ofNat 0))]) (P 2)::
.go (.move (.con (.int .i64 (.ofNat 0)))) (P 3)::
[])) (.seq (.run (.go (.loadN 22 (tm 1)) (P 7)::
.go (.call (.con (.func (.func 79) ⟨[]⟩ ⟨[]⟩)) [tm 7]) (P 8)::
.go (.move (tm 8)) (P 6)::
.go (.extract (tm 6) 0) (P 9)::
.go (.extract (tm 6) 1) (P 10)::
.go (.alloc 78 [(.int .i64 (.ofNat 0)),(.int .i64 (.ofNat 0)),(.int .i64 (.ofNat 0)),(.int .i64 (.ofNat 0)),(.int .i64 (.ofNat 0)),(.int .i64 (.ofNat 0)),(.int .i64 (.ofNat 0)),(.int .i64 (.ofNat 0))]) (P 4)::
.go (.alloc 78 [(.int .i64 (.ofNat 0)),(.int .i64 (.ofNat 0)),(.int .i64 (.ofNat 0)),(.int .i64 (.ofNat 0)),(.int .i64 (.ofNat 0)),(.int .i64 (.ofNat 0)),(.int .i64 (.ofNat 0)),(.int .i64 (.ofNat 0))]) (P 5)::
.un (.store 8 (tm 4) (tm 9))::
.un (.store 8 (tm 5) (tm 10))::
[])) (.seq (.seq (.run (.go (.loadN 8 (tm 4)) (P 11)::
.go (.loadN 8 (tm 5)) (P 12)::
.go (.bin .neq 78 (tm 11) (tm 12)) (P 13)::
[])) (.cond (tm 13) (.seq (.run (.go (.build [(.int .i64 (.ofNat 0)),(.int .i64 (.ofNat 0)),(.int .i64 (.ofNat 0)),(.int .i64 (.ofNat 0)),(.int .i64 (.ofNat 0)),(.int .i64 (.ofNat 0)),(.int .i64 (.ofNat 0)),(.int .i64 (.ofNat 0))] []) (P 14)::
.un (.store 8 (tm 2) (tm 14))::
.go (.move (.con (.int .i64 (.ofNat 10)))) (P 3)::
[])) .ret) .skip)) (.seq (.run (.go (.loadN 8 (tm 4)) (P 15)::
.un (.store 8 (tm 2) (tm 15))::
.go (.move (.con (.int .i64 (.ofNat 0)))) (P 3)::
[])) .ret))))
theorem de56 : @compF Try.prog (Gl.none Try.prog) Try.f56 1=.mk d56 (mkTT 16) [(P 0)] [.many (P 2) 8,.tmp (P 3)]:=by kernel_rfl
theorem dg56 : Try.prog.funcs[56]?=some Try.f56:=Try.func56
theorem do56 : okF Try.prog Try.f56=true:=by kernel_rfl
def otc (m S : Int) (v : Nat→Int) : (Nat→Int)×(Nat→Int):=giv v (clq m S v) 62 S (fun _=>0)
theorem n8_vEq (f : Nat→Int) : vEq 3 (.agg ⟨n8 f⟩) (.agg ⟨n8 f⟩)=true:=by
 simp only[vEq]
 exact all2_refl (fun x hx=>by
  obtain⟨i,_,rfl⟩:=List.mem_map.1 hx
  simp[vEq,vEq0])
theorem f79_ok {H : Heap} {m S L : Int} {c v : Nat→Int} (hm : 1≤m∧m≤5) (hv : vok v) (hS : 0≤S∧S≤61) (hv8 : ∀ p,¬ p<8→v p=0) :
  Gives Try.prog 79 [.agg ⟨pc m S L c v (sm v 8) (dvf m) (clf m)⟩] H (.tuple ⟨[.agg ⟨n8 (otc m S v).1⟩,.agg ⟨n8 (otc m S v).2⟩]⟩):=by
 refine F.entryL rfl dg79 do79 de79 rfl (by kernel_rfl) ?_
 simp only[sets]
 refine V.re [(0,.agg ⟨pc m S L c v (sm v 8) (dvf m) (clf m)⟩)] (N:=13) zE zY ?_
 intro t hF hA
 simp only[Kn,and_true] at hA
 refine zS ?_
 refine V.l0 ?_
 refine zS ?_
 refine V.l0 ?_
 refine V.heap (fun X=>Grow H X∧Bx X H.next (pc m S L c v (sm v 8) (dvf m) (clf m)) 83∧Bx X (H.next+1) (n8 fun _=>0) 78∧Bx X (H.next+2) (n8 fun _=>0) 78∧Bx X (H.next+3) [.nilFunc] 126) ⟨?_,?_,?_,?_,?_⟩ ?_
 ·exact zW
 ·exact zB
 ·rw[← n8_0];exact zB
 ·rw[← n8_0];exact zB
 ·exact zB
 rintro H1 ⟨g1,b1,c1,d1,e1⟩
 refine zS ?_
 have zf:=e1.2
 refine V.lz ?_
 refine V.heap (fun X=>Grow H X∧GCx m S L c v H.next (H.next+1) (H.next+2) (H.next+3) X (fun _=>0)) ⟨?_,?_⟩ ?_
 ·exact zW
 ·exact⟨b1.set (by omega) _,c1.set (by omega) _,d1.set (by omega) _,Bx.put e1.1 _ _⟩
 rintro H2 ⟨g2,x2⟩
 have f97':=f97_ok (f:=62) (left:=S) (X:=H2) hm hv hS hv8 (by omega) (by omega) (by omega) (fun _=>by omega) x2
 have fvc:=FV.fn (P:=Try.prog) (g:=97) (a:=[]) (b:=[PT H.next,PT (H.next+1),PT (H.next+2),PT (H.next+3)]) (l:=[I S]) f97'
 obtain⟨R,fvR,hR⟩ : ∃ R,FV Try.prog (.func (.func 97) ⟨[]⟩ ⟨[PT H.next,PT (H.next+1),PT (H.next+2),PT (H.next+3)]⟩) [I S] H2 R∧∀ w Y,R w Y→(GrowS (fun i=>i=H.next+1∨i=H.next+2) H2 Y∧Bx Y (H.next+1) (n8 (otc m S v).1) 78∧Bx Y (H.next+2) (n8 (otc m S v).2) 78):=⟨_,fvc,fun _ _ h=>h⟩
 clear fvc f97'
 refine zS ?_
 refine V.run ?_
 have zf:=And.intro x2.g.2<|And.intro x2.p.2<|@PC
 refine VI.sz 4 ?_
 simp only[ds]
 refine VI.callV (y:=.func (.func 97) ⟨[]⟩ ⟨[PT H.next,PT (H.next+1),PT (H.next+2),PT (H.next+3)]⟩) zA (by simp only[List.map_cons,List.map_nil,D6,D5,hF,hA,↓reduceIte,qD,qE];exact fvR) (fun w H3 hw=>?_)
 obtain⟨g3,l3,h3⟩:=hR _ _ hw
 have g13 : Grow H H3:=g3.grow g2 (fun i hi=>by omega)
 have n8a:=n8_set0 (otc m S v).1 (otc m S v).1
 have n8b:=n8_set0 (otc m S v).2 (otc m S v).2
 have ve1:=n8_vEq (otc m S v).1
 have ve2:=n8_vEq (otc m S v).2
 refine VI.l0 ?_
 refine zS ?_
 have zf:=And.intro l3.2<|And.intro h3.2<|And.intro @n8_take<|And.intro @n8_len<|And.intro @n8_ok<|And.intro @n8a<|@n8b
 refine V.dz ?_ ?_ rfl ?_
 ·exact zM
 ·simp only[dcAll,dcOk,wantD,List.cons_append,List.nil_append,true_and,and_true]
  have zf:=And.intro l3.2<|And.intro h3.2<|And.intro @n8_take<|And.intro @n8_len<|And.intro @n8_ok<|And.intro @n8a<|@n8b
  exact zR
 refine zS ?_
 refine V.ret (V.rets rfl (Lv.retG (by simp +contextual (disch:=first|omega|simp only[nx];omega) only[D1,cells_alloc_at,cells_alloc_ne,cells_set_at,cells_set_ne,yres,yres1,yresL,qA,qB,qC,D5,hF,hA,↓reduceIte,qD,qE,n8_take,n8_len];rfl) ?_ ?_))
 ·exact zW
 ·rfl
theorem key78 {f : Nat→Int} (h : ∀ i,i<8→-1000000000≤f i∧f i≤1000000000) : (keyOf Try.prog 78 (.agg ⟨n8 f⟩)).isSome=true:=by
 have c3 : Try.prog.cellsOf 3=1:=by kernel_rfl
 have c48 : Try.prog.cellsOf 78=8:=by kernel_rfl
 have h5 : (Program.keyType Try.prog 78 && (Value.agg ⟨n8 f⟩).formed Try.prog 78)=true:=by kernel_rfl
 obtain⟨n,hn⟩ : ∃ n,Try.prog.types.size+1=n+2:=⟨Try.prog.types.size-1,by have : 2≤Try.prog.types.size:=Nat.le_of_ble_eq_true (by kernel_rfl);omega⟩
 have w:=fun i hi=>wf_k (h i hi).1 (h i hi).2
 have w0:=w 0 (by omega)
 have w1:=w 1 (by omega)
 have w2:=w 2 (by omega)
 have w3:=w 3 (by omega)
 have w4:=w 4 (by omega)
 have w5:=w 5 (by omega)
 have w6:=w 6 (by omega)
 have w7:=w 7 (by omega)
 unfold keyOf
 simp only[Try.underlying78]
 rw[if_pos h5,hn]
 unfold Program.keyLits
 simp only[Try.underlying78,c48,c3]
 have e : (Value.agg ⟨n8 f⟩).cells.toList=[I (f 0),I (f 1),I (f 2),I (f 3),I (f 4),I (f 5),I (f 6),I (f 7)]:=rfl
 have hl : ([I (f 0),I (f 1),I (f 2),I (f 3),I (f 4),I (f 5),I (f 6),I (f 7)] : List Value).length=8:=rfl
 rw[e,if_pos hl]
 have er : List.range 8=[0,1,2,3,4,5,6,7]:=rfl
 rw[er]
 simp[kl_int w0,kl_int w1,kl_int w2,kl_int w3,kl_int w4,kl_int w5,kl_int w6,kl_int w7]
def eq8 (f g : Nat→Int) : Prop:=∀ i,i<8→f i=g i
instance (f g : Nat→Int) : Decidable (eq8 f g):=Nat.decidableBallLT 8 fun i _=>f i=g i
theorem neq78 {f g : Nat→Int} (hf : ∀ i,i<8→-1000000000≤f i∧f i≤1000000000) (hg : ∀ i,i<8→-1000000000≤g i∧g i≤1000000000) : xbinOp Try.prog .neq 78 (.agg ⟨n8 f⟩) (.agg ⟨n8 g⟩)=some (.bool (decide ¬ eq8 f g)):=by
 have h1 : xbin Try.prog .neq 78 (.agg ⟨n8 f⟩) (.agg ⟨n8 g⟩)=none:=rfl
 have h2 : xbinStr .neq (.agg ⟨n8 f⟩) (.agg ⟨n8 g⟩)=none:=rfl
 have h3 : xeqNil Try.prog true 78 (.agg ⟨n8 f⟩) (.agg ⟨n8 g⟩)=none:=by
  unfold xeqNil
  simp only[Try.underlying78]
 have h4 : keyedB Try.prog 78=true:=by kernel_rfl
 have h5 : Try.prog.eqGuardType Try.prog.depth 78=false:=by kernel_rfl
 unfold xbinOp
 rw[h1,h2]
 simp only[h3]
 unfold xeqAgg
 simp only[Try.underlying78]
 rw[if_pos ⟨h4,rfl,rfl,key78 hf,key78 hg,h5⟩]
 have e : valEq (.agg ⟨n8 f⟩) (.agg ⟨n8 g⟩)=decide (eq8 f g):=by
  show cellsEq [I (f 0),I (f 1),I (f 2),I (f 3),I (f 4),I (f 5),I (f 6),I (f 7)] [I (g 0),I (g 1),I (g 2),I (g 3),I (g 4),I (g 5),I (g 6),I (g 7)]=_
  simp only[cellsEq,cellEq]
  rw[Bool.eq_iff_iff]
  simp only[Bool.and_eq_true,decide_eq_true_eq,and_true,true_and]
  constructor
  ·rintro⟨a0,a1,a2,a3,a4,a5,a6,a7⟩ i hi
   match i,hi with
   | 0,_=>exact a0
   | 1,_=>exact a1
   | 2,_=>exact a2
   | 3,_=>exact a3
   | 4,_=>exact a4
   | 5,_=>exact a5
   | 6,_=>exact a6
   | 7,_=>exact a7
  ·intro h
   exact⟨h 0 (by omega),h 1 (by omega),h 2 (by omega),h 3 (by omega),h 4 (by omega),h 5 (by omega),h 6 (by omega),h 7 (by omega)⟩
 rw[e]
 simp
theorem otc_fin {m S : Int} {v : Nat→Int} (hv : vok v) (hS : 0≤S∧S≤61) (hv8 : ∀ p,¬ p<8→v p=0) : Fin v (clq m S v) S (otc m S v).1 (otc m S v).2:=by
 have v8 : ∀ p,0<v p→p<8:=fun p hp=>by
  apply Decidable.by_contra
  intro hn
  rw[hv8 p hn] at hp;omega
 refine giv_fin (fun p t hp ht=>clq_ok hv hS (v8 p hp) hp ht) (fun p t hp ht=>clq_dec hv hS (v8 p hp) hp ht) hS.1 (by omega) giv_low0 ?_
 rw[sm_0];omega
theorem sm_each {s : Nat→Int} (h : ∀ p,0≤s p) : ∀ {n p : Nat},p<n→s p≤sm s n
 | 0,_,hp=>absurd hp (Nat.not_lt_zero _)
 | n+1,p,hp=>by
  simp only[sm]
  have h0:=sm_le (s:=fun _=>0) (t:=s) (n:=n) (fun p _=>h p)
  rw[sm_0] at h0
  rcases Nat.lt_succ_iff_lt_or_eq.1 hp with h1|rfl
  ·have:=sm_each h h1
   have:=h n
   omega
  ·omega
theorem Fin.bd {v : Nat→Int} {c : Nat→Int→Q2} {S : Int} {low high : Nat→Int} (h : Fin v c S low high) (hS : 0≤S) : (∀ p,0≤low p∧low p≤S)∧(∀ p,low p≤high p∧high p≤low p+1)∧0≤sm low 8∧sm low 8≤S:=by
 have hs0:=sm_le (s:=fun _=>0) (t:=low) (n:=8) (fun p _=>h.1.nn p)
 rw[sm_0] at hs0
 have hle : sm low 8≤S:=by
  rcases h.2 with⟨_,e,_⟩|⟨_,e,_⟩|⟨_,e,_⟩
  ·rw[e,sm_0];exact hS
  ·omega
  ·omega
 refine⟨fun p=>⟨h.1.nn p,?_⟩,fun p=>?_,hs0,hle⟩
 ·by_cases hp : p<8
  ·have:=sm_each h.1.nn hp
   omega
  ·rw[h.1.adm p (fun hh=>hp hh.1)];exact hS
 ·rcases h.2 with⟨_,_,e⟩|⟨_,_,e⟩|⟨_,_,_,e⟩
  ·rw[e];omega
  ·rw[e];omega
  ·rw[e];unfold up;split<;>omega
def sure (m S : Int) (v : Nat→Int) : Prop:=eq8 (otc m S v).1 (otc m S v).2
instance (m S : Int) (v : Nat→Int) : Decidable (sure m S v):=by unfold sure;infer_instance
theorem f56_ok {H : Heap} {m S L : Int} {c v : Nat→Int} (hm : 1≤m∧m≤5) (hv : vok v) (hS : 0≤S∧S≤61) (hv8 : ∀ p,¬ p<8→v p=0) :
  Gives Try.prog 56 [.agg ⟨pc m S L c v (sm v 8) (dvf m) (clf m)⟩] H (.tuple ⟨[.agg ⟨n8 (if sure m S v then (otc m S v).1 else fun _=>0)⟩,I (if sure m S v then 0 else 10)]⟩):=by
 have hb:=Fin.bd (otc_fin (m:=m) hv hS hv8) hS.1
 have hne:=neq78 (f:=(otc m S v).1) (g:=(otc m S v).2) (fun i _=>by have:=hb.1 i;omega) (fun i _=>by have:=hb.1 i;have:=hb.2.1 i;omega)
 replace hne : xbinOp Try.prog .neq 78 (.agg ⟨n8 (otc m S v).1⟩) (.agg ⟨n8 (otc m S v).2⟩)=some (.bool (decide ¬ sure m S v)):=hne
 refine F.entryL rfl dg56 do56 de56 rfl (by kernel_rfl) ?_
 simp only[sets]
 refine V.re [(0,.agg ⟨pc m S L c v (sm v 8) (dvf m) (clf m)⟩)] (N:=16) zE zY ?_
 intro t hF hA
 simp only[Kn,and_true] at hA
 refine zS ?_
 refine V.l0 ?_
 refine V.heap (fun X=>Grow H X∧Bx X H.next (pc m S L c v (sm v 8) (dvf m) (clf m)) 83∧Bx X (H.next+1) (n8 fun _=>0) 78) ⟨?_,?_,?_⟩ ?_
 ·exact zW
 ·exact zB
 ·rw[← n8_0];exact zB
 rintro H1 ⟨g1,b1,c1⟩
 have n1:=c1.1
 refine zS ?_
 refine V.run ?_
 have zf:=And.intro b1.2<|@PC
 refine VI.sz 1 ?_
 simp only[ds]
 refine VI.callA rfl (f79_ok hm hv hS hv8) zA (fun H2 g2=>?_)
 have c2:=c1.grow g2
 have n2:=g2.1
 have n8a:=n8_set0 (otc m S v).1 (fun _=>0)
 have n8b:=n8_set0 (otc m S v).2 (fun _=>0)
 have zf:=And.intro @n8_take<|And.intro @n8_len<|And.intro @n8_ok<|And.intro @n8a<|And.intro @n8b<|@n8_0
 refine VI.lz ?_
 refine V.heap (fun X=>Grow H X∧Bx X (H.next+1) (n8 fun _=>0) 78∧Bx X H2.next (n8 (otc m S v).1) 78∧Bx X (H2.next+1) (n8 (otc m S v).2) 78) ⟨?_,?_,?_,?_⟩ ?_
 ·have g12:=g1.trans g2
  exact zW
 ·exact (((c2.alloc _).alloc _).set (by omega) _).set (by omega) _
 ·exact (Bx.put (by simp only[Heap.next_alloc];omega) _ _).set (by omega) _
 ·exact Bx.put (by simp only[Heap.next_alloc,Heap.next_set];omega) _ _
 rintro H3 ⟨g3,c3,d3,e3⟩
 have n8c:=n8_set0 (otc m S v).1 (fun _=>0)
 refine zS ?_
 have zf:=And.intro d3.2<|And.intro e3.2<|And.intro @n8_take<|And.intro @n8_len<|@hne
 refine V.lz ?_
 refine zS ?_
 refine V.condP zP (fun hz=>?_) (fun hz=>?_)
 ·rw[if_neg hz,if_neg hz]
  have n8z:=n8_set0 (fun _=>0) (fun _=>0)
  refine zS ?_
  have zf:=And.intro c3.2<|And.intro @n8_take<|And.intro @n8_len<|And.intro @n8_ok<|And.intro @n8z<|@n8_0
  refine V.lz ?_
  refine zS ?_
  refine V.ret (V.rets rfl (Lv.retG (by simp +contextual (disch:=first|omega|simp only[nx];omega) only[D1,cells_alloc_at,cells_alloc_ne,cells_set_at,cells_set_ne,yres,yres1,yresL,qA,qB,qC,D5,hF,hA,↓reduceIte,qD,qE,n8_take,n8_len];rfl) ?_ ?_))
  ·exact zW
  ·rfl
 ·rw[if_pos (Decidable.not_not.1 hz),if_pos (Decidable.not_not.1 hz)]
  refine zS ?_
  have zf:=And.intro c3.2<|And.intro d3.2<|And.intro @n8_take<|And.intro @n8_len<|And.intro @n8_ok<|And.intro @n8c<|@n8_0
  refine V.lz ?_
  refine zS ?_
  refine V.ret (V.rets rfl (Lv.retG (by simp +contextual (disch:=first|omega|simp only[nx];omega) only[D1,cells_alloc_at,cells_alloc_ne,cells_set_at,cells_set_ne,yres,yres1,yresL,qA,qB,qC,D5,hF,hA,↓reduceIte,qD,qE,n8_take,n8_len];rfl) ?_ ?_))
  ·exact zW
  ·rfl
end Go.Xe.TVX
