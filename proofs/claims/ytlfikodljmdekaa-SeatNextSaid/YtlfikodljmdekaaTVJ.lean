/- What the functions of the layer seat come to: results. Conditions: none. -/
import Derived.Test.YtlfikodljmdekaaTVH
-- MOD TV
namespace Go.Xe.TVX
open Go Go.Xe Go.Proofs
open Nat renaming reduceLeDiff → qA, reduceSub → qB, reduceAdd → qC, reduceEqDiff → qD, reduceLT → qE
open Int renaming reduceNegSucc → qF, reduceEq → qG
open Go.Xe.V renaming seq → sA, block → sB, scope → sC, skip → sD, close → sE
open Go.Xe renaming pth → P
open Go.Xe.Sea
set_option maxRecDepth 100000
set_option maxHeartbeats 3200000
set_option linter.unusedSimpArgs false
noncomputable def d79 : FCode:=(.seq (.run (.go (.box 83 (tm 0)) (P 1)::
.go (.alloc 78 [(.int .i64 (.ofNat 0)),(.int .i64 (.ofNat 0)),(.int .i64 (.ofNat 0)),(.int .i64 (.ofNat 0)),(.int .i64 (.ofNat 0)),(.int .i64 (.ofNat 0)),(.int .i64 (.ofNat 0)),(.int .i64 (.ofNat 0))]) (P 2)::
.go (.alloc 78 [(.int .i64 (.ofNat 0)),(.int .i64 (.ofNat 0)),(.int .i64 (.ofNat 0)),(.int .i64 (.ofNat 0)),(.int .i64 (.ofNat 0)),(.int .i64 (.ofNat 0)),(.int .i64 (.ofNat 0)),(.int .i64 (.ofNat 0))]) (P 3)::
[])) (.seq (.run (.go (.alloc 126 [.nilFunc]) (P 4)::
[])) (.seq (.run (.go (.makeFunc 97 [] [(tm 1),(tm 2),(tm 3),(tm 4)]) (P 5)::
.un (.store 1 (tm 4) (tm 5))::
[])) (.seq (.run (.go (.load1 (tm 4)) (P 6)::
.go (.fieldAddr 0 (tm 1)) (P 7)::
.go (.fieldAddr 1 (tm 7)) (P 8)::
.go (.load1 (tm 8)) (P 9)::
.go (.call (tm 6) [tm 9]) (P 10)::
[])) (.seq (.draw 4 (.go (.loadN 8 (tm 2)) (P 11)::
.go (.loadN 8 (tm 3)) (P 12)::
.un (.store 8 (tm 2) (tm 11))::
.un (.store 8 (tm 3) (tm 12))::
[]) [.ok,.rd none (.loadN 8 (tm 3)) (some (P 12)) [3],.ok,.ok]) .ret)))))
theorem de79 : @compF Try.prog (Gl.none Try.prog) Try.f79 1=.mk d79 (mkTT 13) [(P 0)] [.many (P 2) 8,.many (P 3) 8]:=by kernel_rfl
theorem dg79 : Try.prog.funcs[79]?=some Try.f79:=Try.func79
theorem do79 : okF Try.prog Try.f79=true:=by kernel_rfl
noncomputable def d56 : FCode:=(.seq (.run (.go (.box 83 (tm 0)) (P 1)::
.go (.alloc 78 [(.int .i64 (.ofNat 0)),(.int .i64 (.ofNat 0)),(.int .i64 (.ofNat 0)),(.int .i64 (.ofNat 0)),(.int .i64 (.ofNat 0)),(.int .i64 (.ofNat 0)),(.int .i64 (.ofNat 0)),(.int .i64 (.ofNat 0))]) (P 2)::
.go (.move (.con (.int .i64 (.ofNat 0)))) (P 3)::
[])) (.seq (.run (.go (.loadN 22 (tm 1)) (P 7)::
.go (.call (.con (.func (.func 79) ⟨[]⟩ ⟨[]⟩)) [tm 7]) (P 8)::
.go (.move (tm 8)) (P 6)::
.go (.extract (tm 6) 0) (P 9)::
.go (.extract (tm 6) 1) (P 10)::
.go (.alloc 78 [(.int .i64 (.ofNat 0)),(.int .i64 (.ofNat 0)),(.int .i64 (.ofNat 0)),(.int .i64 (.ofNat 0)),(.int .i64 (.ofNat 0)),(.int .i64 (.ofNat 0)),(.int .i64 (.ofNat 0)),(.int .i64 (.ofNat 0))]) (P 4)::
.go (.alloc 78 [(.int .i64 (.ofNat 0)),(.int .i64 (.ofNat 0)),(.int .i64 (.ofNat 0)),(.int .i64 (.ofNat 0)),(.int .i64 (.ofNat 0)),(.int .i64 (.ofNat 0)),(.int .i64 (.ofNat 0)),(.int .i64 (.ofNat 0))]) (P 5)::
.un (.store 8 (tm 4) (tm 9))::
.un (.store 8 (tm 5) (tm 10))::
[])) (.seq (.seq (.run (.go (.loadN 8 (tm 4)) (P 11)::
.go (.loadN 8 (tm 5)) (P 12)::
.go (.bin .neq 78 (tm 11) (tm 12)) (P 13)::
[])) (.cond (tm 13) (.seq (.run (.go (.build [(.int .i64 (.ofNat 0)),(.int .i64 (.ofNat 0)),(.int .i64 (.ofNat 0)),(.int .i64 (.ofNat 0)),(.int .i64 (.ofNat 0)),(.int .i64 (.ofNat 0)),(.int .i64 (.ofNat 0)),(.int .i64 (.ofNat 0))] []) (P 14)::
.un (.store 8 (tm 2) (tm 14))::
.go (.move (.con (.int .i64 (.ofNat 10)))) (P 3)::
[])) .ret) .skip)) (.seq (.run (.go (.loadN 8 (tm 4)) (P 15)::
.un (.store 8 (tm 2) (tm 15))::
.go (.move (.con (.int .i64 (.ofNat 0)))) (P 3)::
[])) .ret))))
theorem de56 : @compF Try.prog (Gl.none Try.prog) Try.f56 1=.mk d56 (mkTT 16) [(P 0)] [.many (P 2) 8,.tmp (P 3)]:=by kernel_rfl
theorem dg56 : Try.prog.funcs[56]?=some Try.f56:=Try.func56
theorem do56 : okF Try.prog Try.f56=true:=by kernel_rfl
def otc (m S : Int) (v : Nat→Int) : (Nat→Int)×(Nat→Int):=giv v (clq m S v) 62 S (fun _=>0)
theorem n8_vEq (f : Nat→Int) : vEq 3 (.agg ⟨n8 f⟩) (.agg ⟨n8 f⟩)=true:=by
 simp only[vEq]
 exact all2_refl (fun x hx=>by
  obtain⟨i,_,rfl⟩:=List.mem_map.1 hx
  simp[vEq,vEq0])
theorem f79_ok {H : Heap} {m S L : Int} {c v : Nat→Int} (hm : 1≤m∧m≤5) (hv : vok v) (hS : 0≤S∧S≤61) (hv8 : ∀ p,¬ p<8→v p=0) :
  Gives Try.prog 79 [.agg ⟨pc m S L c v (sm v 8) (dvf m) (clf m)⟩] H (.tuple ⟨[.agg ⟨n8 (otc m S v).1⟩,.agg ⟨n8 (otc m S v).2⟩]⟩):=by
 refine F.entryL rfl dg79 do79 de79 rfl (by kernel_rfl) ?_
 simp only[sets]
 refine V.re [(0,.agg ⟨pc m S L c v (sm v 8) (dvf m) (clf m)⟩)] (N:=13) zE zY ?_
 intro t hF hA
 simp only[Kn,and_true] at hA
 refine zS ?_
 refine V.l0 ?_
 refine zS ?_
 refine V.l0 ?_
 refine V.heap (fun X=>Grow H X∧Bx X H.next (pc m S L c v (sm v 8) (dvf m) (clf m)) 83∧Bx X (H.next+1) (n8 fun _=>0) 78∧Bx X (H.next+2) (n8 fun _=>0) 78∧Bx X (H.next+3) [.nilFunc] 126) ⟨?_,?_,?_,?_,?_⟩ ?_
 ·exact zW
 ·exact zB
 ·rw[← n8_0];exact zB
 ·rw[← n8_0];exact zB
 ·exact zB
 rintro H1 ⟨g1,b1,c1,d1,e1⟩
 refine zS ?_
 have zf:=e1.2
 refine V.lz ?_
 refine V.heap (fun X=>Grow H X∧GCx m S L c v H.next (H.next+1) (H.next+2) (H.next+3) X (fun _=>0)) ⟨?_,?_⟩ ?_
 ·exact zW
 ·exact⟨b1.set (by omega) _,c1.set (by omega) _,d1.set (by omega) _,Bx.put e1.1 _ _⟩
 rintro H2 ⟨g2,x2⟩
 have f97':=f97_ok (f:=62) (left:=S) (X:=H2) hm hv hS hv8 (by omega) (by omega) (by omega) (fun _=>by omega) x2
 have fvc:=FV.fn (P:=Try.prog) (g:=97) (a:=[]) (b:=[PT H.next,PT (H.next+1),PT (H.next+2),PT (H.next+3)]) (l:=[I S]) f97'
 obtain⟨R,fvR,hR⟩ : ∃ R,FV Try.prog (.func (.func 97) ⟨[]⟩ ⟨[PT H.next,PT (H.next+1),PT (H.next+2),PT (H.next+3)]⟩) [I S] H2 R∧∀ w Y,R w Y→(GrowS (fun i=>i=H.next+1∨i=H.next+2) H2 Y∧Bx Y (H.next+1) (n8 (otc m S v).1) 78∧Bx Y (H.next+2) (n8 (otc m S v).2) 78):=⟨_,fvc,fun _ _ h=>h⟩
 clear fvc f97'
 refine zS ?_
 refine V.run ?_
 have zf:=And.intro x2.g.2<|And.intro x2.p.2<|@PC
 refine VI.sz 4 ?_
 simp only[ds]
 refine VI.callV (y:=.func (.func 97) ⟨[]⟩ ⟨[PT H.next,PT (H.next+1),PT (H.next+2),PT (H.next+3)]⟩) zA (by simp only[List.map_cons,List.map_nil,D6,D5,hF,hA,↓reduceIte,qD,qE];exact fvR) (fun w H3 hw=>?_)
 obtain⟨g3,l3,h3⟩:=hR _ _ hw
 have g13 : Grow H H3:=g3.grow g2 (fun i hi=>by omega)
 have n8a:=n8_set0 (otc m S v).1 (otc m S v).1
 have n8b:=n8_set0 (otc m S v).2 (otc m S v).2
 have ve1:=n8_vEq (otc m S v).1
 have ve2:=n8_vEq (otc m S v).2
 refine VI.l0 ?_
 refine zS ?_
 have zf:=And.intro l3.2<|And.intro h3.2<|And.intro @n8_take<|And.intro @n8_len<|And.intro @n8_ok<|And.intro @n8a<|@n8b
 refine V.dz ?_ ?_ rfl ?_
 ·exact zM
 ·simp only[dcAll,dcOk,wantD,List.cons_append,List.nil_append,true_and,and_true]
  have zf:=And.intro l3.2<|And.intro h3.2<|And.intro @n8_take<|And.intro @n8_len<|And.intro @n8_ok<|And.intro @n8a<|@n8b
  exact zR
 refine zS ?_
 refine V.ret (V.rets rfl (Lv.retG (by simp +contextual (disch:=first|omega|simp only[nx];omega) only[D1,cells_alloc_at,cells_alloc_ne,cells_set_at,cells_set_ne,yres,yres1,yresL,qA,qB,qC,D5,hF,hA,↓reduceIte,qD,qE,n8_take,n8_len];rfl) ?_ ?_))
 ·exact zW
 ·rfl
theorem key78 {f : Nat→Int} (h : ∀ i,i<8→-1000000000≤f i∧f i≤1000000000) : (keyOf Try.prog 78 (.agg ⟨n8 f⟩)).isSome=true:=by
 have c3 : Try.prog.cellsOf 3=1:=by kernel_rfl
 have c48 : Try.prog.cellsOf 78=8:=by kernel_rfl
 have h5 : (Program.keyType Try.prog 78 && (Value.agg ⟨n8 f⟩).formed Try.prog 78)=true:=by kernel_rfl
 obtain⟨n,hn⟩ : ∃ n,Try.prog.types.size+1=n+2:=⟨Try.prog.types.size-1,by have : 2≤Try.prog.types.size:=Nat.le_of_ble_eq_true (by kernel_rfl);omega⟩
 have w:=fun i hi=>wf_k (h i hi).1 (h i hi).2
 have w0:=w 0 (by omega)
 have w1:=w 1 (by omega)
 have w2:=w 2 (by omega)
 have w3:=w 3 (by omega)
 have w4:=w 4 (by omega)
 have w5:=w 5 (by omega)
 have w6:=w 6 (by omega)
 have w7:=w 7 (by omega)
 unfold keyOf
 simp only[Try.underlying78]
 rw[if_pos h5,hn]
 unfold Program.keyLits
 simp only[Try.underlying78,c48,c3]
 have e : (Value.agg ⟨n8 f⟩).cells.toList=[I (f 0),I (f 1),I (f 2),I (f 3),I (f 4),I (f 5),I (f 6),I (f 7)]:=rfl
 have hl : ([I (f 0),I (f 1),I (f 2),I (f 3),I (f 4),I (f 5),I (f 6),I (f 7)] : List Value).length=8:=rfl
 rw[e,if_pos hl]
 have er : List.range 8=[0,1,2,3,4,5,6,7]:=rfl
 rw[er]
 simp[kl_int w0,kl_int w1,kl_int w2,kl_int w3,kl_int w4,kl_int w5,kl_int w6,kl_int w7]
def eq8 (f g : Nat→Int) : Prop:=∀ i,i<8→f i=g i
instance (f g : Nat→Int) : Decidable (eq8 f g):=Nat.decidableBallLT 8 fun i _=>f i=g i
theorem neq78 {f g : Nat→Int} (hf : ∀ i,i<8→-1000000000≤f i∧f i≤1000000000) (hg : ∀ i,i<8→-1000000000≤g i∧g i≤1000000000) : xbinOp Try.prog .neq 78 (.agg ⟨n8 f⟩) (.agg ⟨n8 g⟩)=some (.bool (decide ¬ eq8 f g)):=by
 have h1 : xbin Try.prog .neq 78 (.agg ⟨n8 f⟩) (.agg ⟨n8 g⟩)=none:=rfl
 have h2 : xbinStr .neq (.agg ⟨n8 f⟩) (.agg ⟨n8 g⟩)=none:=rfl
 have h3 : xeqNil Try.prog true 78 (.agg ⟨n8 f⟩) (.agg ⟨n8 g⟩)=none:=by
  unfold xeqNil
  simp only[Try.underlying78]
 have h4 : keyedB Try.prog 78=true:=by kernel_rfl
 have h5 : Try.prog.eqGuardType Try.prog.depth 78=false:=by kernel_rfl
 unfold xbinOp
 rw[h1,h2]
 simp only[h3]
 unfold xeqAgg
 simp only[Try.underlying78]
 rw[if_pos ⟨h4,rfl,rfl,key78 hf,key78 hg,h5⟩]
 have e : valEq (.agg ⟨n8 f⟩) (.agg ⟨n8 g⟩)=decide (eq8 f g):=by
  show cellsEq [I (f 0),I (f 1),I (f 2),I (f 3),I (f 4),I (f 5),I (f 6),I (f 7)] [I (g 0),I (g 1),I (g 2),I (g 3),I (g 4),I (g 5),I (g 6),I (g 7)]=_
  simp only[cellsEq,cellEq]
  rw[Bool.eq_iff_iff]
  simp only[Bool.and_eq_true,decide_eq_true_eq,and_true,true_and]
  constructor
  ·rintro⟨a0,a1,a2,a3,a4,a5,a6,a7⟩ i hi
   match i,hi with
   | 0,_=>exact a0
   | 1,_=>exact a1
   | 2,_=>exact a2
   | 3,_=>exact a3
   | 4,_=>exact a4
   | 5,_=>exact a5
   | 6,_=>exact a6
   | 7,_=>exact a7
  ·intro h
   exact⟨h 0 (by omega),h 1 (by omega),h 2 (by omega),h 3 (by omega),h 4 (by omega),h 5 (by omega),h 6 (by omega),h 7 (by omega)⟩
 rw[e]
 simp
theorem otc_fin {m S : Int} {v : Nat→Int} (hv : vok v) (hS : 0≤S∧S≤61) (hv8 : ∀ p,¬ p<8→v p=0) : Fin v (clq m S v) S (otc m S v).1 (otc m S v).2:=by
 have v8 : ∀ p,0<v p→p<8:=fun p hp=>by
  apply Decidable.by_contra
  intro hn
  rw[hv8 p hn] at hp;omega
 refine giv_fin (fun p t hp ht=>clq_ok hv hS (v8 p hp) hp ht) (fun p t hp ht=>clq_dec hv hS (v8 p hp) hp ht) hS.1 (by omega) giv_low0 ?_
 rw[sm_0];omega
theorem sm_each {s : Nat→Int} (h : ∀ p,0≤s p) : ∀ {n p : Nat},p<n→s p≤sm s n
 | 0,_,hp=>absurd hp (Nat.not_lt_zero _)
 | n+1,p,hp=>by
  simp only[sm]
  have h0:=sm_le (s:=fun _=>0) (t:=s) (n:=n) (fun p _=>h p)
  rw[sm_0] at h0
  rcases Nat.lt_succ_iff_lt_or_eq.1 hp with h1|rfl
  ·have:=sm_each h h1
   have:=h n
   omega
  ·omega
theorem Fin.bd {v : Nat→Int} {c : Nat→Int→Q2} {S : Int} {low high : Nat→Int} (h : Fin v c S low high) (hS : 0≤S) : (∀ p,0≤low p∧low p≤S)∧(∀ p,low p≤high p∧high p≤low p+1)∧0≤sm low 8∧sm low 8≤S:=by
 have hs0:=sm_le (s:=fun _=>0) (t:=low) (n:=8) (fun p _=>h.1.nn p)
 rw[sm_0] at hs0
 have hle : sm low 8≤S:=by
  rcases h.2 with⟨_,e,_⟩|⟨_,e,_⟩|⟨_,e,_⟩
  ·rw[e,sm_0];exact hS
  ·omega
  ·omega
 refine⟨fun p=>⟨h.1.nn p,?_⟩,fun p=>?_,hs0,hle⟩
 ·by_cases hp : p<8
  ·have:=sm_each h.1.nn hp
   omega
  ·rw[h.1.adm p (fun hh=>hp hh.1)];exact hS
 ·rcases h.2 with⟨_,_,e⟩|⟨_,_,e⟩|⟨_,_,_,e⟩
  ·rw[e];omega
  ·rw[e];omega
  ·rw[e];unfold up;split<;>omega
def sure (m S : Int) (v : Nat→Int) : Prop:=eq8 (otc m S v).1 (otc m S v).2
instance (m S : Int) (v : Nat→Int) : Decidable (sure m S v):=by unfold sure;infer_instance
theorem f56_ok {H : Heap} {m S L : Int} {c v : Nat→Int} (hm : 1≤m∧m≤5) (hv : vok v) (hS : 0≤S∧S≤61) (hv8 : ∀ p,¬ p<8→v p=0) :
  Gives Try.prog 56 [.agg ⟨pc m S L c v (sm v 8) (dvf m) (clf m)⟩] H (.tuple ⟨[.agg ⟨n8 (if sure m S v then (otc m S v).1 else fun _=>0)⟩,I (if sure m S v then 0 else 10)]⟩):=by
 have hb:=Fin.bd (otc_fin (m:=m) hv hS hv8) hS.1
 have hne:=neq78 (f:=(otc m S v).1) (g:=(otc m S v).2) (fun i _=>by have:=hb.1 i;omega) (fun i _=>by have:=hb.1 i;have:=hb.2.1 i;omega)
 replace hne : xbinOp Try.prog .neq 78 (.agg ⟨n8 (otc m S v).1⟩) (.agg ⟨n8 (otc m S v).2⟩)=some (.bool (decide ¬ sure m S v)):=hne
 refine F.entryL rfl dg56 do56 de56 rfl (by kernel_rfl) ?_
 simp only[sets]
 refine V.re [(0,.agg ⟨pc m S L c v (sm v 8) (dvf m) (clf m)⟩)] (N:=16) zE zY ?_
 intro t hF hA
 simp only[Kn,and_true] at hA
 refine zS ?_
 refine V.l0 ?_
 refine V.heap (fun X=>Grow H X∧Bx X H.next (pc m S L c v (sm v 8) (dvf m) (clf m)) 83∧Bx X (H.next+1) (n8 fun _=>0) 78) ⟨?_,?_,?_⟩ ?_
 ·exact zW
 ·exact zB
 ·rw[← n8_0];exact zB
 rintro H1 ⟨g1,b1,c1⟩
 have n1:=c1.1
 refine zS ?_
 refine V.run ?_
 have zf:=And.intro b1.2<|@PC
 refine VI.sz 1 ?_
 simp only[ds]
 refine VI.callA rfl (f79_ok hm hv hS hv8) zA (fun H2 g2=>?_)
 have c2:=c1.grow g2
 have n2:=g2.1
 have n8a:=n8_set0 (otc m S v).1 (fun _=>0)
 have n8b:=n8_set0 (otc m S v).2 (fun _=>0)
 have zf:=And.intro @n8_take<|And.intro @n8_len<|And.intro @n8_ok<|And.intro @n8a<|And.intro @n8b<|@n8_0
 refine VI.lz ?_
 refine V.heap (fun X=>Grow H X∧Bx X (H.next+1) (n8 fun _=>0) 78∧Bx X H2.next (n8 (otc m S v).1) 78∧Bx X (H2.next+1) (n8 (otc m S v).2) 78) ⟨?_,?_,?_,?_⟩ ?_
 ·have g12:=g1.trans g2
  exact zW
 ·exact (((c2.alloc _).alloc _).set (by omega) _).set (by omega) _
 ·exact (Bx.put (by simp only[Heap.next_alloc];omega) _ _).set (by omega) _
 ·exact Bx.put (by simp only[Heap.next_alloc,Heap.next_set];omega) _ _
 rintro H3 ⟨g3,c3,d3,e3⟩
 have n8c:=n8_set0 (otc m S v).1 (fun _=>0)
 refine zS ?_
 have zf:=And.intro d3.2<|And.intro e3.2<|And.intro @n8_take<|And.intro @n8_len<|@hne
 refine V.lz ?_
 refine zS ?_
 refine V.condP zP (fun hz=>?_) (fun hz=>?_)
 ·rw[if_neg hz,if_neg hz]
  have n8z:=n8_set0 (fun _=>0) (fun _=>0)
  refine zS ?_
  have zf:=And.intro c3.2<|And.intro @n8_take<|And.intro @n8_len<|And.intro @n8_ok<|And.intro @n8z<|@n8_0
  refine V.lz ?_
  refine zS ?_
  refine V.ret (V.rets rfl (Lv.retG (by simp +contextual (disch:=first|omega|simp only[nx];omega) only[D1,cells_alloc_at,cells_alloc_ne,cells_set_at,cells_set_ne,yres,yres1,yresL,qA,qB,qC,D5,hF,hA,↓reduceIte,qD,qE,n8_take,n8_len];rfl) ?_ ?_))
  ·exact zW
  ·rfl
 ·rw[if_pos (Decidable.not_not.1 hz),if_pos (Decidable.not_not.1 hz)]
  refine zS ?_
  have zf:=And.intro c3.2<|And.intro d3.2<|And.intro @n8_take<|And.intro @n8_len<|And.intro @n8_ok<|And.intro @n8c<|@n8_0
  refine V.lz ?_
  refine zS ?_
  refine V.ret (V.rets rfl (Lv.retG (by simp +contextual (disch:=first|omega|simp only[nx];omega) only[D1,cells_alloc_at,cells_alloc_ne,cells_set_at,cells_set_ne,yres,yres1,yresL,qA,qB,qC,D5,hF,hA,↓reduceIte,qD,qE,n8_take,n8_len];rfl) ?_ ?_))
  ·exact zW
  ·rfl
end Go.Xe.TVX
/- What the functions of the layer seat come to: Seats, and what the statements ask of rules and counts. Conditions: none. -/
-- MOD TV
namespace Go.Xe.TVX
open Go Go.Xe Go.Proofs
open Nat renaming reduceLeDiff → qA, reduceSub → qB, reduceAdd → qC, reduceEqDiff → qD, reduceLT → qE
open Int renaming reduceNegSucc → qF, reduceEq → qG
open Go.Xe.V renaming seq → sA, block → sB, scope → sC, skip → sD, close → sE
open Go.Xe renaming pth → P
open Go.Xe.Sea
set_option maxRecDepth 100000
set_option maxHeartbeats 3200000
set_option linter.unusedSimpArgs false
noncomputable def d22 : FCode := (.seq (.run (.go (.box 23 (tm 0)) (P 1)::
.go (.alloc 28 [(.int .u8 (.ofNat 0)),(.int .i64 (.ofNat 0)),(.int .i64 (.ofNat 0))]) (P 2)::
[])) (.seq (.run (.go (.fieldAddr 0 (tm 1)) (P 3)::
.go (.load1 (tm 3)) (P 4)::
.go (.fieldAddr 1 (tm 1)) (P 5)::
.go (.load1 (tm 5)) (P 6)::
.go (.fieldAddr 2 (tm 1)) (P 7)::
.go (.load1 (tm 7)) (P 8)::
.go (.build [(.int .u8 (.ofNat 0)),(.int .i64 (.ofNat 0)),(.int .i64 (.ofNat 0))] [(0,1,(tm 4)),(1,1,(tm 6)),(2,1,(tm 8))]) (P 9)::
.un (.store 3 (tm 2) (tm 9))::
[])) .ret))
theorem de22 : @compF Try.prog (Gl.none Try.prog) Try.f22 1 = .mk d22 (mkTT 10) [(P 0)] [.many (P 2) 3] := by kernel_rfl
theorem dg22 : Try.prog.funcs[22]? = some Try.f22 := Try.func22
theorem do22 : okF Try.prog Try.f22 = true := by kernel_rfl
noncomputable def d24 : FCode := (.seq (.run (.go (.move (.con (.slice none 0 0))) (P 2)::
[])) (.seq (.run (.go (.buildSlice 3 0 [] []) (P 3)::
.go (.move (tm 0)) (P 4)::
.go (.append 3 1 8 (tm 3) (tm 4)) (P 5)::
.go (.move (tm 5)) (P 2)::
[])) .ret))
theorem de24 : @compF Try.prog (Gl.none Try.prog) Try.f24 1 = .mk d24 (mkTT 6) [(P 0)] [.tmp (P 2)] := by kernel_rfl
theorem dg24 : Try.prog.funcs[24]? = some Try.f24 := Try.func24
theorem do24 : okF Try.prog Try.f24 = true := by kernel_rfl
noncomputable def d38 : FCode := (.seq (.run (.go (.move (.con (.bool false))) (P 6)::
[])) (.seq (.run (.go (.move (tm 0)) (P 7)::
.go (.move (tm 1)) (P 8)::
.go (.bin .geq 3 (tm 7) (tm 8)) (P 9)::
.go (.move (tm 9)) (P 10)::
.gd (P 10) true (.move (tm 0)) (P 11)::
.gd (P 10) true (.move (tm 2)) (P 12)::
.gd (P 10) true (.bin .leq 3 (tm 11) (tm 12)) (P 13)::
.go (.pick (tm 10) (tm 13) (.con (.bool false))) (P 14)::
.go (.move (tm 14)) (P 6)::
[])) .ret))
theorem de38 : @compF Try.prog (Gl.none Try.prog) Try.f38 3 = .mk d38 (mkTT 15) [(P 0),(P 1),(P 2)] [.tmp (P 6)] := by kernel_rfl
theorem dg38 : Try.prog.funcs[38]? = some Try.f38 := Try.func38
theorem do38 : okF Try.prog Try.f38 = true := by kernel_rfl
noncomputable def d51 : FCode := (.seq (.run (.go (.box 23 (tm 0)) (P 1)::
.go (.move (.con (.bool false))) (P 2)::
[])) (.seq (.run (.go (.fieldAddr 0 (tm 1)) (P 3)::
.go (.load1 (tm 3)) (P 4)::
.go (.bin .geq 5 (tm 4) (.con (.int .u8 (.ofNat 1)))) (P 5)::
.go (.move (tm 5)) (P 6)::
.gd (P 6) true (.fieldAddr 0 (tm 1)) (P 7)::
.gd (P 6) true (.load1 (tm 7)) (P 8)::
.gd (P 6) true (.bin .leq 5 (tm 8) (.con (.int .u8 (.ofNat 5)))) (P 9)::
.go (.pick (tm 6) (tm 9) (.con (.bool false))) (P 10)::
.go (.move (tm 10)) (P 11)::
.gd (P 11) true (.fieldAddr 1 (tm 1)) (P 12)::
.gd (P 11) true (.load1 (tm 12)) (P 13)::
.gd (P 11) true (.call (.con (.func (.func 38) ⟨[]⟩ ⟨[]⟩)) [(tm 13),(.con (.int .i64 (.ofNat 0))),(.con (.int .i64 (.ofNat 60)))]) (P 14)::
.go (.pick (tm 11) (tm 14) (.con (.bool false))) (P 15)::
.go (.move (tm 15)) (P 16)::
.gd (P 16) true (.fieldAddr 2 (tm 1)) (P 17)::
.gd (P 16) true (.load1 (tm 17)) (P 18)::
.gd (P 16) true (.call (.con (.func (.func 38) ⟨[]⟩ ⟨[]⟩)) [(tm 18),(.con (.int .i64 (.ofNat 0))),(.con (.int .i64 (.ofNat 10000)))]) (P 19)::
.go (.pick (tm 16) (tm 19) (.con (.bool false))) (P 20)::
.go (.move (tm 20)) (P 2)::
[])) .ret))
theorem de51 : @compF Try.prog (Gl.none Try.prog) Try.f51 1 = .mk d51 (mkTT 21) [(P 0)] [.tmp (P 2)] := by kernel_rfl
theorem dg51 : Try.prog.funcs[51]? = some Try.f51 := Try.func51
theorem do51 : okF Try.prog Try.f51 = true := by kernel_rfl
noncomputable def d57 : FCode := (.seq (.run (.go (.box 23 (tm 0)) (P 2)::
.go (.move (.con (.int .i64 (.ofNat 0)))) (P 4)::
[])) (.seq (.seq (.run (.go (.loadN 3 (tm 2)) (P 6)::
.go (.call (.con (.func (.func 51) ⟨[]⟩ ⟨[]⟩)) [tm 6]) (P 7)::
.go (.un .not (tm 7)) (P 8)::
[])) (.cond (tm 8) (.seq (.run (.go (.move (.con (.int .i64 (.ofNat 1)))) (P 4)::
[])) .ret) .skip)) (.seq (.seq (.run (.go (.move (tm 1)) (P 9)::
.go (.len 0 (tm 9)) (P 10)::
.go (.bin .gtr 3 (tm 10) (.con (.int .i64 (.ofNat 8)))) (P 11)::
[])) (.cond (tm 11) (.seq (.run (.go (.move (.con (.int .i64 (.ofNat 3)))) (P 4)::
[])) .ret) .skip)) (.seq (.seq (.run (.go (.move (.con (.int .i64 (.ofNat 0)))) (P 5)::
[])) (.block 0 (.loop (.seq (.seq (.run (.go (.move (tm 5)) (P 12)::
.go (.move (tm 1)) (P 13)::
.go (.len 0 (tm 13)) (P 14)::
.go (.bin .lss 3 (tm 12) (tm 14)) (P 15)::
[])) (.cond (tm 15) .skip (.exit 0))) (.seq (.block 1 (.seq (.run (.go (.move (tm 1)) (P 18)::
.go (.move (tm 5)) (P 19)::
.go (.indexAddr none 1 (tm 18) (tm 19)) (P 20)::
.go (.load1 (tm 20)) (P 21)::
.go (.call (.con (.func (.func 38) ⟨[]⟩ ⟨[]⟩)) [(tm 21),(.con (.int .i64 (.ofNat 0))),(.con (.int .i64 (.ofNat 10000)))]) (P 22)::
.go (.un .not (tm 22)) (P 23)::
[])) (.cond (tm 23) (.seq (.run (.go (.move (.con (.int .i64 (.ofNat 2)))) (P 4)::
[])) .ret) .skip))) (.run (.go (.move (tm 5)) (P 16)::
.go (.bin .add 3 (tm 16) (.con (.int .i64 (.ofNat 1)))) (P 17)::
.go (.move (tm 17)) (P 5)::
[]))))))) (.seq (.run (.go (.move (.con (.int .i64 (.ofNat 0)))) (P 4)::
[])) .ret)))))
theorem de57 : @compF Try.prog (Gl.none Try.prog) Try.f57 2 = .mk d57 (mkTT 24) [(P 0),(P 1)] [.tmp (P 4)] := by kernel_rfl
theorem dg57 : Try.prog.funcs[57]? = some Try.f57 := Try.func57
theorem do57 : okF Try.prog Try.f57 = true := by kernel_rfl
noncomputable def d25 : FCode := (.seq (.run (.go (.box 23 (tm 0)) (P 2)::
.go (.move (.con (.int .i64 (.ofNat 0)))) (P 4)::
[])) (.seq (.run (.go (.loadN 3 (tm 2)) (P 5)::
.go (.move (tm 1)) (P 6)::
.go (.call (.con (.func (.func 57) ⟨[]⟩ ⟨[]⟩)) [(tm 5),(tm 6)]) (P 7)::
.go (.move (tm 7)) (P 4)::
[])) .ret))
theorem de25 : @compF Try.prog (Gl.none Try.prog) Try.f25 2 = .mk d25 (mkTT 8) [(P 0),(P 1)] [.tmp (P 4)] := by kernel_rfl
theorem dg25 : Try.prog.funcs[25]? = some Try.f25 := Try.func25
theorem do25 : okF Try.prog Try.f25 = true := by kernel_rfl
noncomputable def d37 : FCode := (.seq (.run (.go (.box 23 (tm 0)) (P 2)::
.go (.move (.con (.bool false))) (P 4)::
[])) (.seq (.run (.go (.move (tm 1)) (P 5)::
.go (.bin .gtr 3 (tm 5) (.con (.int .i64 (.ofNat 0)))) (P 6)::
.go (.move (tm 6)) (P 7)::
.gd (P 7) true (.move (tm 1)) (P 8)::
.gd (P 7) true (.fieldAddr 2 (tm 2)) (P 9)::
.gd (P 7) true (.load1 (tm 9)) (P 10)::
.gd (P 7) true (.bin .geq 3 (tm 8) (tm 10)) (P 11)::
.go (.pick (tm 7) (tm 11) (.con (.bool false))) (P 12)::
.go (.move (tm 12)) (P 4)::
[])) .ret))
theorem de37 : @compF Try.prog (Gl.none Try.prog) Try.f37 2 = .mk d37 (mkTT 13) [(P 0),(P 1)] [.tmp (P 4)] := by kernel_rfl
theorem dg37 : Try.prog.funcs[37]? = some Try.f37 := Try.func37
theorem do37 : okF Try.prog Try.f37 = true := by kernel_rfl
noncomputable def d33 : FCode := (.seq (.run (.go (.box 23 (tm 0)) (P 1)::
.go (.alloc 23 [(.int .u8 (.ofNat 0)),(.int .i64 (.ofNat 0)),(.int .i64 (.ofNat 0))]) (P 2)::
[])) (.seq (.run (.go (.fieldAddr 1 (tm 1)) (P 3)::
.go (.load1 (tm 3)) (P 4)::
.go (.bin .add 3 (tm 4) (.con (.int .i64 (.ofNat 1)))) (P 5)::
.go (.fieldAddr 1 (tm 1)) (P 6)::
.un (.store 1 (tm 6) (tm 5))::
[])) (.seq (.run (.go (.loadN 3 (tm 1)) (P 7)::
.un (.store 3 (tm 2) (tm 7))::
[])) .ret)))
theorem de33 : @compF Try.prog (Gl.none Try.prog) Try.f33 1 = .mk d33 (mkTT 8) [(P 0)] [.many (P 2) 3] := by kernel_rfl
theorem dg33 : Try.prog.funcs[33]? = some Try.f33 := Try.func33
theorem do33 : okF Try.prog Try.f33 = true := by kernel_rfl
theorem gl0_bd {l : List Int} (hb : ∀ v ∈ l, 0 ≤ v ∧ v ≤ 10000) : ∀ i, 0 ≤ gl0 l i ∧ gl0 l i ≤ 10000 := by
  intro i
  unfold gl0
  by_cases hi : i < l.length
  · rw [List.getD_eq_getElem?_getD, List.getElem?_eq_getElem hi]
    exact hb _ (List.getElem_mem hi)
  · rw [List.getD_eq_getElem?_getD, List.getElem?_eq_none (by omega)]
    simp
theorem gl0_at {l : List Int} {i : Nat} (hi : i < l.length) : gl0 l i = l[i] := by
  unfold gl0
  rw [List.getD_eq_getElem?_getD, List.getElem?_eq_getElem hi]; rfl
theorem gl0_out {l : List Int} {i : Nat} (hi : l.length ≤ i) : gl0 l i = 0 := by
  unfold gl0
  rw [List.getD_eq_getElem?_getD, List.getElem?_eq_none hi]; rfl
abbrev vl (L : Int) (l : List Int) : Nat → Int := vts L (gl0 l)
theorem vl_out {L : Int} {l : List Int} {p : Nat} (h : l.length ≤ p) : vl L l p = 0 := by
  unfold vl vts
  rw [gl0_out h]
  split <;> rfl
theorem vl_8 {L : Int} {l : List Int} (hl : l.length ≤ 8) : ∀ p, ¬ p < 8 → vl L l p = 0 := fun p hp => vl_out (by omega)
theorem vl_ok {L : Int} {l : List Int} (hb : ∀ v ∈ l, 0 ≤ v ∧ v ≤ 10000) : vok (vl L l) := vts_vok fun i _ => gl0_bd hb i
theorem flt_0 {m S L : Int} {l : List Int} : flt m S L l = 0 ↔ rvalid m S L ∧ l.length ≤ 8 ∧ ∀ v ∈ l, 0 ≤ v ∧ v ≤ 10000 := by
  unfold flt
  by_cases h1 : rvalid m S L
  · rw [if_pos h1]
    by_cases h2 : l.length ≤ 8
    · rw [if_pos h2]
      by_cases h3 : ∀ v ∈ l, 0 ≤ v ∧ v ≤ 10000
      · rw [if_pos h3]; exact iff_of_true rfl ⟨h1, h2, h3⟩
      · rw [if_neg h3]; exact iff_of_false (by omega) (fun h => h3 h.2.2)
    · rw [if_neg h2]; exact iff_of_false (by omega) (fun h => h2 h.2.1)
  · rw [if_neg h1]; exact iff_of_false (by omega) (fun h => h1 h.1)
def fl (n : Nat) (f : Nat → Int) : List Int := (List.range n).map f
theorem fl_len (n : Nat) (f : Nat → Int) : (fl n f).length = n := by simp [fl]
theorem fl_at {n : Nat} {f : Nat → Int} {i : Nat} (h : i < (fl n f).length) : (fl n f)[i] = f i := by simp [fl]
def SR (m S L : Int) (l : List Int) (X : Heap) (w : Value) : Prop := ∃ y e, w = .tuple ⟨[y, I e]⟩ ∧
  ((flt m S L l ≠ 0 ∧ y = .slice none 0 0 ∧ e = flt m S L l) ∨ (flt m S L l = 0 ∧ ¬ sure m S (vl L l) ∧ y = .slice none 0 0 ∧ e = 10) ∨
   (flt m S L l = 0 ∧ sure m S (vl L l) ∧ e = 0 ∧ LS X y (fl l.length (otc m S (vl L l)).1)))
theorem f22_ok (m S L : Int) (H : Heap) : Gives Try.prog 22 [.agg ⟨A3 m S L⟩] H (.agg ⟨A3 m S L⟩) := by
  refine F.entryL rfl dg22 do22 de22 rfl (by kernel_rfl) ?_
  simp only[sets]
  refine V.re [(0, .agg ⟨A3 m S L⟩)] (N := 10) zE zY ?_
  intro t hF hA
  simp only[Kn, and_true] at hA
  refine zS ?_
  refine V.l0 ?_
  refine zS ?_
  refine V.l0 ?_
  refine zS ?_
  refine V.ret (V.rets rfl (Lv.retG (by simp +contextual (disch := first|omega|simp only[nx];omega) only[D1, cells_alloc_at, cells_alloc_ne, cells_set_at, cells_set_ne, yres, yres1, yresL, qA, qB, qC, D5,hF,hA,↓reduceIte,qD,qE]; rfl) ?_ ?_))
  · exact zW
  · rfl
theorem f24_ok {H : Heap} {x : Value} {l : List Int} (h : LS H x l) (hn : l.length ≤ 1048576) : F Try.prog 24 ⟨[x]⟩ H (fun v X => Grow H X ∧ Ow H X 3 v (Li l)) := by
  have gh : Grow H (H.alloc (.cells ⟨[]⟩ 3 true)) := (Grow.refl H).alloc _
  obtain ⟨w, H', k1, k2, k3, k4⟩ := Ow.append (H0 := H) (e := 3) (bytes := 8) (s := .slice (some ⟨H.next, 0, none⟩) 0 0) (l := []) gh (.inr ⟨H.next, Nat.le_refl _, Nat.lt_succ_self _, rfl, cells_alloc _ _ _ _⟩) (h.s.grow gh) (Li_ok l) (by simp [Li_len]; omega) (by simp [Li_len]; omega)
  rw [List.nil_append] at k2
  refine F.entryL rfl dg24 do24 de24 rfl (by kernel_rfl) ?_
  simp only[sets]
  refine V.re [(0, x)] (N := 6) zE zY ?_
  intro t hF hA
  simp only[Kn, and_true] at hA
  refine zS ?_
  refine V.l0 ?_
  refine zS ?_
  have zf:=@k1
  refine V.lz ?_
  refine zS ?_
  refine V.ret (V.rets rfl (Lv.retF (by simp +contextual (disch := first|omega|simp only[nx];omega) only[D1, cells_alloc_at, cells_alloc_ne, cells_set_at, cells_set_ne, yres, yres1, yresL, qA, qB, qC, D5,hF,hA,↓reduceIte,qD,qE]; rfl) ?_))
  exact ⟨k3, k2⟩
theorem ow_ls {H0 X : Heap} {v : Value} {l : List Int} (h : Ow H0 X 3 v (Li l)) : LS X v l := ⟨h.sl⟩
theorem f38_ok (n a b : Int) (H : Heap) : Gives Try.prog 38 [I n, I a, I b] H (.bool (decide (a ≤ n ∧ n ≤ b))) := by
  refine F.entryL rfl dg38 do38 de38 rfl (by kernel_rfl) ?_
  simp only[sets]
  refine V.re [(0, I n), (1, I a), (2, I b)] (N := 15) zE zY ?_
  intro t hF hA
  simp only[Kn, and_true] at hA
  refine zS ?_
  refine V.l0 ?_
  refine zS ?_
  refine V.l0 ?_
  refine zS ?_
  refine V.ret (V.rets rfl (Lv.retG (by simp +contextual (disch := first|omega|simp only[nx];omega) only[D1, cells_alloc_at, cells_alloc_ne, cells_set_at, cells_set_ne, yres, yres1, yresL, qA, qB, qC, D5,hF,hA,↓reduceIte,qD,qE]; rfl) ?_ ?_))
  · exact zW
  · rfl
theorem f51_ok (m S L : Int) (H : Heap) : Gives Try.prog 51 [.agg ⟨A3 m S L⟩] H (.bool (decide (rvalid m S L))) := by
  refine F.entryL rfl dg51 do51 de51 rfl (by kernel_rfl) ?_
  simp only[sets]
  refine V.re [(0, .agg ⟨A3 m S L⟩)] (N := 21) zE zY ?_
  intro t hF hA
  simp only[Kn, and_true] at hA
  refine zS ?_
  refine V.l0 ?_
  refine V.heap (fun X => Grow H X ∧ Bx X H.next (A3 m S L) 23) ⟨?_, ?_⟩ ?_
  · exact zW
  · exact zB
  rintro H1 ⟨g1, b1⟩
  refine zS ?_
  refine V.run ?_
  have zf:=b1.2
  refine VI.sz 9 ?_
  simp only[ds]
  have zf:=b1.2
  refine VI.sz 2 ?_
  simp only[ds]
  first | refine VI.callGt zG (fun hc => zI) (fun hc => f38_ok S 0 60 _) (fun hc => zI) (fun H2 g2 => ?_) | refine VI.callGf zG (fun hc => zI) (fun hc => f38_ok S 0 60 _) (fun hc => zI) (fun H2 g2 => ?_)
  have b2 := b1.grow g2
  have zf:=b2.2
  refine VI.sz 4 ?_
  simp only[ds]
  first | refine VI.callGt zG (fun hc => zI) (fun hc => f38_ok L 0 10000 _) (fun hc => zI) (fun H3 g3 => ?_) | refine VI.callGf zG (fun hc => zI) (fun hc => f38_ok L 0 10000 _) (fun hc => zI) (fun H3 g3 => ?_)
  refine VI.l0 ?_
  refine zS ?_
  refine V.ret (V.rets rfl (Lv.retG (by simp +contextual (disch := first|omega|simp only[nx];omega) only[D1, cells_alloc_at, cells_alloc_ne, cells_set_at, cells_set_ne, yres, yres1, yresL, qA, qB, qC, D5,hF,hA,↓reduceIte,qD,qE]; rfl) ?_ ?_))
  · exact (g1.trans g2).trans g3
  · congr 1
    rw [decide_eq_decide]
    unfold rvalid
    simp only[and_assoc]
theorem f57_ok {H : Heap} {m S L : Int} {x : Value} {l : List Int} (h : LS H x l) : Gives Try.prog 57 [.agg ⟨A3 m S L⟩, x] H (I (flt m S L l)) := by
  have hl := h.len
  refine F.entryL rfl dg57 do57 de57 rfl (by kernel_rfl) ?_
  simp only[sets]
  refine V.re [(0, .agg ⟨A3 m S L⟩), (1, x)] (N := 24) zE zY ?_
  intro t hF hA
  simp only[Kn, and_true] at hA
  refine zS ?_
  refine V.l0 ?_
  refine V.heap (fun X => Grow H X ∧ Bx X H.next (A3 m S L) 23) ⟨?_, ?_⟩ ?_
  · exact zW
  · exact zB
  rintro H1 ⟨g1, b1⟩
  refine zS ?_
  refine V.run ?_
  have zf:=b1.2
  refine VI.sz 1 ?_
  simp only[ds]
  refine VI.callA rfl (f51_ok m S L _) zA (fun H2 g2 => ?_)
  have g12 := g1.trans g2
  unfold flt
  refine VI.l0 ?_
  refine zS ?_
  refine V.condP zP (fun hv => ?_) (fun hv => ?_)
  · refine zS ?_
    refine V.l0 ?_
    refine zS ?_
    refine V.ret (V.rets rfl (Lv.retG (by simp +contextual (disch := first|omega|simp only[nx];omega) only[D1, cells_alloc_at, cells_alloc_ne, cells_set_at, cells_set_ne, yres, yres1, yresL, qA, qB, qC, D5,hF,hA,↓reduceIte,qD,qE]; rfl) ?_ ?_))
    · exact g12
    · rw [if_neg hv]
  rw [if_pos (Decidable.not_not.1 hv)]
  refine zS ?_
  have zf:=@hl
  refine V.lz ?_
  refine zS ?_
  refine V.condP zP (fun hn => ?_) (fun hn => ?_)
  · refine zS ?_
    refine V.l0 ?_
    refine zS ?_
    refine V.ret (V.rets rfl (Lv.retG (by simp +contextual (disch := first|omega|simp only[nx];omega) only[D1, cells_alloc_at, cells_alloc_ne, cells_set_at, cells_set_ne, yres, yres1, yresL, qA, qB, qC, D5,hF,hA,↓reduceIte,qD,qE]; rfl) ?_ ?_))
    · exact g12
    · rw [if_neg (by omega)]
  have hn8 : l.length ≤ 8 := by omega
  rw [if_pos hn8]
  refine zS ?_
  refine V.l0 ?_
  refine zS ?_
  refine V.loop (fun z t m X => ∃ (k : Nat), k ≤ l.length ∧ z = l.length - k ∧ m = [] ∧ Grow H X ∧ (∀ v ∈ l.take k, 0 ≤ v ∧ v ≤ 10000) ∧ Full 24 t ∧ Kn [(1, x), (5, I k)] t) l.length ?_ ?_
  · exact ⟨0, by omega, by omega, rfl, g12, by simp, zF, zK⟩
  clear hF hA
  rintro z t m' X ⟨k, hk, rfl, rfl, hg, hall, hF, hA⟩
  simp only[Kn, and_true] at hA
  refine zS ?_
  have zf:=@hl
  refine V.lz ?_
  refine zS ?_
  refine V.condP zP (fun hlt => ?_) (fun hlt => ?_)
  · have hlt' : k < l.length := by omega
    obtain ⟨p, hp, hx⟩ := h.at hlt'
    have hx1 := hx X hg
    refine zS ?_
    refine V.run ?_
    have zf:=And.intro @hp<|@hx1
    refine VI.sz 4 ?_
    simp only[ds]
    refine VI.callA rfl (f38_ok l[k] 0 10000 _) zA (fun X2 g2' => ?_)
    refine VI.l0 ?_
    refine zS ?_
    refine V.condP zP (fun hb => ?_) (fun hb => ?_)
    · refine zS ?_
      refine V.l0 ?_
      refine zS ?_
      refine V.ret (V.rets rfl (Or.inr ⟨by simp, V.rets rfl (Lv.retG (by simp +contextual (disch := first|omega|simp only[nx];omega) only[D1, cells_alloc_at, cells_alloc_ne, cells_set_at, cells_set_ne, yres, yres1, yresL, qA, qB, qC, D5,hF,hA,↓reduceIte,qD,qE]; rfl) ?_ ?_)⟩))
      · exact hg.trans g2'
      · rw [if_neg (fun hh => hb (hh _ (List.getElem_mem hlt')))]
    · refine zS ?_
      refine V.l0 ?_
      refine V.nil (Or.inl ⟨rfl, l.length - (k + 1), by omega, ?_⟩)
      refine ⟨k + 1, hlt', rfl, rfl, hg.trans g2', ?_, zF, zK⟩
      intro v hv
      rw [tk1 hlt'] at hv
      rcases List.mem_append.1 hv with hv | hv
      · exact hall v hv
      · rw [List.mem_singleton.1 hv]; exact Decidable.not_not.1 hb
  · obtain rfl : k = l.length := by omega
    rw [List.take_length] at hall
    refine V.exit ?_
    refine zX ?_
    refine V.nil (Or.inr ⟨by simp, ?_⟩)
    refine zX ?_
    refine zS ?_
    refine V.l0 ?_
    refine zS ?_
    refine V.ret (V.rets rfl (Lv.retG (by simp +contextual (disch := first|omega|simp only[nx];omega) only[D1, cells_alloc_at, cells_alloc_ne, cells_set_at, cells_set_ne, yres, yres1, yresL, qA, qB, qC, D5,hF,hA,↓reduceIte,qD,qE]; rfl) ?_ ?_))
    · exact hg
    · rw [if_pos hall]
theorem f25_ok {H : Heap} {m S L : Int} {x : Value} {l : List Int} (h : LS H x l) : Gives Try.prog 25 [.agg ⟨A3 m S L⟩, x] H (I (flt m S L l)) := by
  refine F.entryL rfl dg25 do25 de25 rfl (by kernel_rfl) ?_
  simp only[sets]
  refine V.re [(0, .agg ⟨A3 m S L⟩), (1, x)] (N := 8) zE zY ?_
  intro t hF hA
  simp only[Kn, and_true] at hA
  refine zS ?_
  refine V.l0 ?_
  refine V.heap (fun X => Grow H X ∧ Bx X H.next (A3 m S L) 23) ⟨?_, ?_⟩ ?_
  · exact zW
  · exact zB
  rintro H1 ⟨g1, b1⟩
  refine zS ?_
  refine V.run ?_
  have zf:=b1.2
  refine VI.sz 2 ?_
  simp only[ds]
  refine VI.callA rfl (f57_ok (h.grow g1)) zA (fun H2 g2 => ?_)
  refine VI.l0 ?_
  refine zS ?_
  refine V.ret (V.rets rfl (Lv.retG (by simp +contextual (disch := first|omega|simp only[nx];omega) only[D1, cells_alloc_at, cells_alloc_ne, cells_set_at, cells_set_ne, yres, yres1, yresL, qA, qB, qC, D5,hF,hA,↓reduceIte,qD,qE]; rfl) ?_ ?_))
  · exact g1.trans g2
  · rfl
theorem f37_ok (m S L n : Int) (H : Heap) : Gives Try.prog 37 [.agg ⟨A3 m S L⟩, I n] H (.bool (decide (adm L n))) := by
  refine F.entryL rfl dg37 do37 de37 rfl (by kernel_rfl) ?_
  simp only[sets]
  refine V.re [(0, .agg ⟨A3 m S L⟩), (1, I n)] (N := 13) zE zY ?_
  intro t hF hA
  simp only[Kn, and_true] at hA
  refine zS ?_
  refine V.l0 ?_
  refine zS ?_
  refine V.l0 ?_
  refine zS ?_
  refine V.ret (V.rets rfl (Lv.retG (by simp +contextual (disch := first|omega|simp only[nx];omega) only[D1, cells_alloc_at, cells_alloc_ne, cells_set_at, cells_set_ne, yres, yres1, yresL, qA, qB, qC, D5,hF,hA,↓reduceIte,qD,qE]; rfl) ?_ ?_))
  · exact zW
  · rfl
theorem f33_ok (m S L : Int) (hS : 0 ≤ S ∧ S ≤ 60) (H : Heap) : Gives Try.prog 33 [.agg ⟨A3 m S L⟩] H (.agg ⟨A3 m (S + 1) L⟩) := by
  refine F.entryL rfl dg33 do33 de33 rfl (by kernel_rfl) ?_
  simp only[sets]
  refine V.re [(0, .agg ⟨A3 m S L⟩)] (N := 8) zE zY ?_
  intro t hF hA
  simp only[Kn, and_true] at hA
  refine zS ?_
  refine V.l0 ?_
  refine zS ?_
  refine V.l0 ?_
  refine zS ?_
  refine V.l0 ?_
  refine zS ?_
  refine V.ret (V.rets rfl (Lv.retG (by simp +contextual (disch := first|omega|simp only[nx];omega) only[D1, cells_alloc_at, cells_alloc_ne, cells_set_at, cells_set_ne, yres, yres1, yresL, qA, qB, qC, D5,hF,hA,↓reduceIte,qD,qE]; rfl) ?_ ?_))
  · exact zW
  · rfl
end Go.Xe.TVX
