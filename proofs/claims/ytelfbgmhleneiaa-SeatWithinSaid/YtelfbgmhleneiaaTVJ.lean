/- What the functions of the layer seat come to: results. Conditions: none. -/
import Derived.Test.YtelfbgmhleneiaaTVH
-- MOD TV
namespace Go.Xe.TVX
open Go Go.Xe Go.Proofs
open Nat renaming reduceLeDiff → qA, reduceSub → qB, reduceAdd → qC, reduceEqDiff → qD, reduceLT → qE
open Int renaming reduceNegSucc → qF, reduceEq → qG
open Go.Xe.V renaming seq → sA, block → sB, scope → sC, skip → sD, close → sE
open Go.Xe renaming pth → P
open Go.Xe.Sea
set_option maxRecDepth 100000
set_option maxHeartbeats 3200000
set_option linter.unusedSimpArgs false
noncomputable def d79 : FCode:=(.seq (.run (.go (.box 83 (tm 0)) (P 1)::
.go (.alloc 78 [(.int .i64 (.ofNat 0)),(.int .i64 (.ofNat 0)),(.int .i64 (.ofNat 0)),(.int .i64 (.ofNat 0)),(.int .i64 (.ofNat 0)),(.int .i64 (.ofNat 0)),(.int .i64 (.ofNat 0)),(.int .i64 (.ofNat 0))]) (P 2)::
.go (.alloc 78 [(.int .i64 (.ofNat 0)),(.int .i64 (.ofNat 0)),(.int .i64 (.ofNat 0)),(.int .i64 (.ofNat 0)),(.int .i64 (.ofNat 0)),(.int .i64 (.ofNat 0)),(.int .i64 (.ofNat 0)),(.int .i64 (.ofNat 0))]) (P 3)::
[])) (.seq (.run (.go (.alloc 126 [.nilFunc]) (P 4)::
[])) (.seq (.run (.go (.makeFunc 97 [] [(tm 1),(tm 2),(tm 3),(tm 4)]) (P 5)::
.un (.store 1 (tm 4) (tm 5))::
[])) (.seq (.run (.go (.load1 (tm 4)) (P 6)::
.go (.fieldAddr 0 (tm 1)) (P 7)::
.go (.fieldAddr 1 (tm 7)) (P 8)::
.go (.load1 (tm 8)) (P 9)::
.go (.call (tm 6) [tm 9]) (P 10)::
[])) (.seq (.draw 4 (.go (.loadN 8 (tm 2)) (P 11)::
.go (.loadN 8 (tm 3)) (P 12)::
.un (.store 8 (tm 2) (tm 11))::
.un (.store 8 (tm 3) (tm 12))::
[]) [.ok,.rd none (.loadN 8 (tm 3)) (some (P 12)) [3],.ok,.ok]) .ret)))))
theorem de79 : @compF Try.prog (Gl.none Try.prog) Try.f79 1=.mk d79 (mkTT 13) [(P 0)] [.many (P 2) 8,.many (P 3) 8]:=by kernel_rfl
theorem dg79 : Try.prog.funcs[79]?=some Try.f79:=Try.func79
theorem do79 : okF Try.prog Try.f79=true:=by kernel_rfl
def otc (m S : Int) (v : Nat→Int) : (Nat→Int)×(Nat→Int):=giv v (clq m S v) 62 S (fun _=>0)
theorem n8_vEq (f : Nat→Int) : vEq 3 (.agg ⟨n8 f⟩) (.agg ⟨n8 f⟩)=true:=by
 simp only[vEq]
 exact all2_refl (fun x hx=>by
  obtain⟨i,_,rfl⟩:=List.mem_map.1 hx
  simp[vEq,vEq0])
theorem f79_ok {H : Heap} {m S L : Int} {c v : Nat→Int} (hm : 1≤m∧m≤5) (hv : vok v) (hS : 0≤S∧S≤61) (hv8 : ∀ p,¬ p<8→v p=0) :
  Gives Try.prog 79 [.agg ⟨pc m S L c v (sm v 8) (dvf m) (clf m)⟩] H (.tuple ⟨[.agg ⟨n8 (otc m S v).1⟩,.agg ⟨n8 (otc m S v).2⟩]⟩):=by
 refine F.entryL rfl dg79 do79 de79 rfl (by kernel_rfl) ?_
 simp only[sets]
 refine V.re [(0,.agg ⟨pc m S L c v (sm v 8) (dvf m) (clf m)⟩)] (N:=13) zE zY ?_
 intro t hF hA
 simp only[Kn,and_true] at hA
 refine zS ?_
 refine V.l0 ?_
 refine zS ?_
 refine V.l0 ?_
 refine V.heap (fun X=>Grow H X∧Bx X H.next (pc m S L c v (sm v 8) (dvf m) (clf m)) 83∧Bx X (H.next+1) (n8 fun _=>0) 78∧Bx X (H.next+2) (n8 fun _=>0) 78∧Bx X (H.next+3) [.nilFunc] 126) ⟨?_,?_,?_,?_,?_⟩ ?_
 ·exact zW
 ·exact zB
 ·rw[← n8_0];exact zB
 ·rw[← n8_0];exact zB
 ·exact zB
 rintro H1 ⟨g1,b1,c1,d1,e1⟩
 refine zS ?_
 have zf:=e1.2
 refine V.lz ?_
 refine V.heap (fun X=>Grow H X∧GCx m S L c v H.next (H.next+1) (H.next+2) (H.next+3) X (fun _=>0)) ⟨?_,?_⟩ ?_
 ·exact zW
 ·exact⟨b1.set (by omega) _,c1.set (by omega) _,d1.set (by omega) _,Bx.put e1.1 _ _⟩
 rintro H2 ⟨g2,x2⟩
 have f97':=f97_ok (f:=62) (left:=S) (X:=H2) hm hv hS hv8 (by omega) (by omega) (by omega) (fun _=>by omega) x2
 have fvc:=FV.fn (P:=Try.prog) (g:=97) (a:=[]) (b:=[PT H.next,PT (H.next+1),PT (H.next+2),PT (H.next+3)]) (l:=[I S]) f97'
 obtain⟨R,fvR,hR⟩ : ∃ R,FV Try.prog (.func (.func 97) ⟨[]⟩ ⟨[PT H.next,PT (H.next+1),PT (H.next+2),PT (H.next+3)]⟩) [I S] H2 R∧∀ w Y,R w Y→(GrowS (fun i=>i=H.next+1∨i=H.next+2) H2 Y∧Bx Y (H.next+1) (n8 (otc m S v).1) 78∧Bx Y (H.next+2) (n8 (otc m S v).2) 78):=⟨_,fvc,fun _ _ h=>h⟩
 clear fvc f97'
 refine zS ?_
 refine V.run ?_
 have zf:=And.intro x2.g.2<|And.intro x2.p.2<|@PC
 refine VI.sz 4 ?_
 simp only[ds]
 refine VI.callV (y:=.func (.func 97) ⟨[]⟩ ⟨[PT H.next,PT (H.next+1),PT (H.next+2),PT (H.next+3)]⟩) zA (by simp only[List.map_cons,List.map_nil,D6,D5,hF,hA,↓reduceIte,qD,qE];exact fvR) (fun w H3 hw=>?_)
 obtain⟨g3,l3,h3⟩:=hR _ _ hw
 have g13 : Grow H H3:=g3.grow g2 (fun i hi=>by omega)
 have n8a:=n8_set0 (otc m S v).1 (otc m S v).1
 have n8b:=n8_set0 (otc m S v).2 (otc m S v).2
 have ve1:=n8_vEq (otc m S v).1
 have ve2:=n8_vEq (otc m S v).2
 refine VI.l0 ?_
 refine zS ?_
 have zf:=And.intro l3.2<|And.intro h3.2<|And.intro @n8_take<|And.intro @n8_len<|And.intro @n8_ok<|And.intro @n8a<|@n8b
 refine V.dz ?_ ?_ rfl ?_
 ·exact zM
 ·simp only[dcAll,dcOk,wantD,List.cons_append,List.nil_append,true_and,and_true]
  have zf:=And.intro l3.2<|And.intro h3.2<|And.intro @n8_take<|And.intro @n8_len<|And.intro @n8_ok<|And.intro @n8a<|@n8b
  exact zR
 refine zS ?_
 refine V.ret (V.rets rfl (Lv.retG (by simp +contextual (disch:=first|omega|simp only[nx];omega) only[D1,cells_alloc_at,cells_alloc_ne,cells_set_at,cells_set_ne,yres,yres1,yresL,qA,qB,qC,D5,hF,hA,↓reduceIte,qD,qE,n8_take,n8_len];rfl) ?_ ?_))
 ·exact zW
 ·rfl
def eq8 (f g : Nat→Int) : Prop:=∀ i,i<8→f i=g i
instance (f g : Nat→Int) : Decidable (eq8 f g):=Nat.decidableBallLT 8 fun i _=>f i=g i
theorem otc_fin {m S : Int} {v : Nat→Int} (hv : vok v) (hS : 0≤S∧S≤61) (hv8 : ∀ p,¬ p<8→v p=0) : Fin v (clq m S v) S (otc m S v).1 (otc m S v).2:=by
 have v8 : ∀ p,0<v p→p<8:=fun p hp=>by
  apply Decidable.by_contra
  intro hn
  rw[hv8 p hn] at hp;omega
 refine giv_fin (fun p t hp ht=>clq_ok hv hS (v8 p hp) hp ht) (fun p t hp ht=>clq_dec hv hS (v8 p hp) hp ht) hS.1 (by omega) giv_low0 ?_
 rw[sm_0];omega
theorem sm_each {s : Nat→Int} (h : ∀ p,0≤s p) : ∀ {n p : Nat},p<n→s p≤sm s n
 | 0,_,hp=>absurd hp (Nat.not_lt_zero _)
 | n+1,p,hp=>by
  simp only[sm]
  have h0:=sm_le (s:=fun _=>0) (t:=s) (n:=n) (fun p _=>h p)
  rw[sm_0] at h0
  rcases Nat.lt_succ_iff_lt_or_eq.1 hp with h1|rfl
  ·have:=sm_each h h1
   have:=h n
   omega
  ·omega
theorem Fin.bd {v : Nat→Int} {c : Nat→Int→Q2} {S : Int} {low high : Nat→Int} (h : Fin v c S low high) (hS : 0≤S) : (∀ p,0≤low p∧low p≤S)∧(∀ p,low p≤high p∧high p≤low p+1)∧0≤sm low 8∧sm low 8≤S:=by
 have hs0:=sm_le (s:=fun _=>0) (t:=low) (n:=8) (fun p _=>h.1.nn p)
 rw[sm_0] at hs0
 have hle : sm low 8≤S:=by
  rcases h.2 with⟨_,e,_⟩|⟨_,e,_⟩|⟨_,e,_⟩
  ·rw[e,sm_0];exact hS
  ·omega
  ·omega
 refine⟨fun p=>⟨h.1.nn p,?_⟩,fun p=>?_,hs0,hle⟩
 ·by_cases hp : p<8
  ·have:=sm_each h.1.nn hp
   omega
  ·rw[h.1.adm p (fun hh=>hp hh.1)];exact hS
 ·rcases h.2 with⟨_,_,e⟩|⟨_,_,e⟩|⟨_,_,_,e⟩
  ·rw[e];omega
  ·rw[e];omega
  ·rw[e];unfold up;split<;>omega
def sure (m S : Int) (v : Nat→Int) : Prop:=eq8 (otc m S v).1 (otc m S v).2
instance (m S : Int) (v : Nat→Int) : Decidable (sure m S v):=by unfold sure;infer_instance
end Go.Xe.TVX
/- What the functions of the layer seat come to: Seats, and what the statements ask of rules and counts. Conditions: none. -/
-- MOD TV
namespace Go.Xe.TVX
open Go Go.Xe Go.Proofs
open Nat renaming reduceLeDiff → qA, reduceSub → qB, reduceAdd → qC, reduceEqDiff → qD, reduceLT → qE
open Int renaming reduceNegSucc → qF, reduceEq → qG
open Go.Xe.V renaming seq → sA, block → sB, scope → sC, skip → sD, close → sE
open Go.Xe renaming pth → P
open Go.Xe.Sea
set_option maxRecDepth 100000
set_option maxHeartbeats 3200000
set_option linter.unusedSimpArgs false
noncomputable def d22 : FCode := (.seq (.run (.go (.box 23 (tm 0)) (P 1)::
.go (.alloc 28 [(.int .u8 (.ofNat 0)),(.int .i64 (.ofNat 0)),(.int .i64 (.ofNat 0))]) (P 2)::
[])) (.seq (.run (.go (.fieldAddr 0 (tm 1)) (P 3)::
.go (.load1 (tm 3)) (P 4)::
.go (.fieldAddr 1 (tm 1)) (P 5)::
.go (.load1 (tm 5)) (P 6)::
.go (.fieldAddr 2 (tm 1)) (P 7)::
.go (.load1 (tm 7)) (P 8)::
.go (.build [(.int .u8 (.ofNat 0)),(.int .i64 (.ofNat 0)),(.int .i64 (.ofNat 0))] [(0,1,(tm 4)),(1,1,(tm 6)),(2,1,(tm 8))]) (P 9)::
.un (.store 3 (tm 2) (tm 9))::
[])) .ret))
theorem de22 : @compF Try.prog (Gl.none Try.prog) Try.f22 1 = .mk d22 (mkTT 10) [(P 0)] [.many (P 2) 3] := by kernel_rfl
theorem dg22 : Try.prog.funcs[22]? = some Try.f22 := Try.func22
theorem do22 : okF Try.prog Try.f22 = true := by kernel_rfl
noncomputable def d38 : FCode := (.seq (.run (.go (.move (.con (.bool false))) (P 6)::
[])) (.seq (.run (.go (.move (tm 0)) (P 7)::
.go (.move (tm 1)) (P 8)::
.go (.bin .geq 3 (tm 7) (tm 8)) (P 9)::
.go (.move (tm 9)) (P 10)::
.gd (P 10) true (.move (tm 0)) (P 11)::
.gd (P 10) true (.move (tm 2)) (P 12)::
.gd (P 10) true (.bin .leq 3 (tm 11) (tm 12)) (P 13)::
.go (.pick (tm 10) (tm 13) (.con (.bool false))) (P 14)::
.go (.move (tm 14)) (P 6)::
[])) .ret))
theorem de38 : @compF Try.prog (Gl.none Try.prog) Try.f38 3 = .mk d38 (mkTT 15) [(P 0),(P 1),(P 2)] [.tmp (P 6)] := by kernel_rfl
theorem dg38 : Try.prog.funcs[38]? = some Try.f38 := Try.func38
theorem do38 : okF Try.prog Try.f38 = true := by kernel_rfl
noncomputable def d51 : FCode := (.seq (.run (.go (.box 23 (tm 0)) (P 1)::
.go (.move (.con (.bool false))) (P 2)::
[])) (.seq (.run (.go (.fieldAddr 0 (tm 1)) (P 3)::
.go (.load1 (tm 3)) (P 4)::
.go (.bin .geq 5 (tm 4) (.con (.int .u8 (.ofNat 1)))) (P 5)::
.go (.move (tm 5)) (P 6)::
.gd (P 6) true (.fieldAddr 0 (tm 1)) (P 7)::
.gd (P 6) true (.load1 (tm 7)) (P 8)::
.gd (P 6) true (.bin .leq 5 (tm 8) (.con (.int .u8 (.ofNat 5)))) (P 9)::
.go (.pick (tm 6) (tm 9) (.con (.bool false))) (P 10)::
.go (.move (tm 10)) (P 11)::
.gd (P 11) true (.fieldAddr 1 (tm 1)) (P 12)::
.gd (P 11) true (.load1 (tm 12)) (P 13)::
.gd (P 11) true (.call (.con (.func (.func 38) ⟨[]⟩ ⟨[]⟩)) [(tm 13),(.con (.int .i64 (.ofNat 0))),(.con (.int .i64 (.ofNat 60)))]) (P 14)::
.go (.pick (tm 11) (tm 14) (.con (.bool false))) (P 15)::
.go (.move (tm 15)) (P 16)::
.gd (P 16) true (.fieldAddr 2 (tm 1)) (P 17)::
.gd (P 16) true (.load1 (tm 17)) (P 18)::
.gd (P 16) true (.call (.con (.func (.func 38) ⟨[]⟩ ⟨[]⟩)) [(tm 18),(.con (.int .i64 (.ofNat 0))),(.con (.int .i64 (.ofNat 10000)))]) (P 19)::
.go (.pick (tm 16) (tm 19) (.con (.bool false))) (P 20)::
.go (.move (tm 20)) (P 2)::
[])) .ret))
theorem de51 : @compF Try.prog (Gl.none Try.prog) Try.f51 1 = .mk d51 (mkTT 21) [(P 0)] [.tmp (P 2)] := by kernel_rfl
theorem dg51 : Try.prog.funcs[51]? = some Try.f51 := Try.func51
theorem do51 : okF Try.prog Try.f51 = true := by kernel_rfl
noncomputable def d37 : FCode := (.seq (.run (.go (.box 23 (tm 0)) (P 2)::
.go (.move (.con (.bool false))) (P 4)::
[])) (.seq (.run (.go (.move (tm 1)) (P 5)::
.go (.bin .gtr 3 (tm 5) (.con (.int .i64 (.ofNat 0)))) (P 6)::
.go (.move (tm 6)) (P 7)::
.gd (P 7) true (.move (tm 1)) (P 8)::
.gd (P 7) true (.fieldAddr 2 (tm 2)) (P 9)::
.gd (P 7) true (.load1 (tm 9)) (P 10)::
.gd (P 7) true (.bin .geq 3 (tm 8) (tm 10)) (P 11)::
.go (.pick (tm 7) (tm 11) (.con (.bool false))) (P 12)::
.go (.move (tm 12)) (P 4)::
[])) .ret))
theorem de37 : @compF Try.prog (Gl.none Try.prog) Try.f37 2 = .mk d37 (mkTT 13) [(P 0),(P 1)] [.tmp (P 4)] := by kernel_rfl
theorem dg37 : Try.prog.funcs[37]? = some Try.f37 := Try.func37
theorem do37 : okF Try.prog Try.f37 = true := by kernel_rfl
theorem gl0_bd {l : List Int} (hb : ∀ v ∈ l, 0 ≤ v ∧ v ≤ 10000) : ∀ i, 0 ≤ gl0 l i ∧ gl0 l i ≤ 10000 := by
  intro i
  unfold gl0
  by_cases hi : i < l.length
  · rw [List.getD_eq_getElem?_getD, List.getElem?_eq_getElem hi]
    exact hb _ (List.getElem_mem hi)
  · rw [List.getD_eq_getElem?_getD, List.getElem?_eq_none (by omega)]
    simp
theorem gl0_at {l : List Int} {i : Nat} (hi : i < l.length) : gl0 l i = l[i] := by
  unfold gl0
  rw [List.getD_eq_getElem?_getD, List.getElem?_eq_getElem hi]; rfl
theorem gl0_out {l : List Int} {i : Nat} (hi : l.length ≤ i) : gl0 l i = 0 := by
  unfold gl0
  rw [List.getD_eq_getElem?_getD, List.getElem?_eq_none hi]; rfl
abbrev vl (L : Int) (l : List Int) : Nat → Int := vts L (gl0 l)
theorem vl_out {L : Int} {l : List Int} {p : Nat} (h : l.length ≤ p) : vl L l p = 0 := by
  unfold vl vts
  rw [gl0_out h]
  split <;> rfl
theorem vl_8 {L : Int} {l : List Int} (hl : l.length ≤ 8) : ∀ p, ¬ p < 8 → vl L l p = 0 := fun p hp => vl_out (by omega)
theorem vl_ok {L : Int} {l : List Int} (hb : ∀ v ∈ l, 0 ≤ v ∧ v ≤ 10000) : vok (vl L l) := vts_vok fun i _ => gl0_bd hb i
def fl (n : Nat) (f : Nat → Int) : List Int := (List.range n).map f
theorem fl_len (n : Nat) (f : Nat → Int) : (fl n f).length = n := by simp [fl]
theorem fl_at {n : Nat} {f : Nat → Int} {i : Nat} (h : i < (fl n f).length) : (fl n f)[i] = f i := by simp [fl]
def SR (m S L : Int) (l : List Int) (X : Heap) (w : Value) : Prop := ∃ y e, w = .tuple ⟨[y, I e]⟩ ∧
  ((flt m S L l ≠ 0 ∧ y = .slice none 0 0 ∧ e = flt m S L l) ∨ (flt m S L l = 0 ∧ ¬ sure m S (vl L l) ∧ y = .slice none 0 0 ∧ e = 10) ∨
   (flt m S L l = 0 ∧ sure m S (vl L l) ∧ e = 0 ∧ LS X y (fl l.length (otc m S (vl L l)).1)))
theorem f22_ok (m S L : Int) (H : Heap) : Gives Try.prog 22 [.agg ⟨A3 m S L⟩] H (.agg ⟨A3 m S L⟩) := by
  refine F.entryL rfl dg22 do22 de22 rfl (by kernel_rfl) ?_
  simp only[sets]
  refine V.re [(0, .agg ⟨A3 m S L⟩)] (N := 10) zE zY ?_
  intro t hF hA
  simp only[Kn, and_true] at hA
  refine zS ?_
  refine V.l0 ?_
  refine zS ?_
  refine V.l0 ?_
  refine zS ?_
  refine V.ret (V.rets rfl (Lv.retG (by simp +contextual (disch := first|omega|simp only[nx];omega) only[D1, cells_alloc_at, cells_alloc_ne, cells_set_at, cells_set_ne, yres, yres1, yresL, qA, qB, qC, D5,hF,hA,↓reduceIte,qD,qE]; rfl) ?_ ?_))
  · exact zW
  · rfl
theorem ow_ls {H0 X : Heap} {v : Value} {l : List Int} (h : Ow H0 X 3 v (Li l)) : LS X v l := ⟨h.sl⟩
theorem f38_ok (n a b : Int) (H : Heap) : Gives Try.prog 38 [I n, I a, I b] H (.bool (decide (a ≤ n ∧ n ≤ b))) := by
  refine F.entryL rfl dg38 do38 de38 rfl (by kernel_rfl) ?_
  simp only[sets]
  refine V.re [(0, I n), (1, I a), (2, I b)] (N := 15) zE zY ?_
  intro t hF hA
  simp only[Kn, and_true] at hA
  refine zS ?_
  refine V.l0 ?_
  refine zS ?_
  refine V.l0 ?_
  refine zS ?_
  refine V.ret (V.rets rfl (Lv.retG (by simp +contextual (disch := first|omega|simp only[nx];omega) only[D1, cells_alloc_at, cells_alloc_ne, cells_set_at, cells_set_ne, yres, yres1, yresL, qA, qB, qC, D5,hF,hA,↓reduceIte,qD,qE]; rfl) ?_ ?_))
  · exact zW
  · rfl
theorem f51_ok (m S L : Int) (H : Heap) : Gives Try.prog 51 [.agg ⟨A3 m S L⟩] H (.bool (decide (rvalid m S L))) := by
  refine F.entryL rfl dg51 do51 de51 rfl (by kernel_rfl) ?_
  simp only[sets]
  refine V.re [(0, .agg ⟨A3 m S L⟩)] (N := 21) zE zY ?_
  intro t hF hA
  simp only[Kn, and_true] at hA
  refine zS ?_
  refine V.l0 ?_
  refine V.heap (fun X => Grow H X ∧ Bx X H.next (A3 m S L) 23) ⟨?_, ?_⟩ ?_
  · exact zW
  · exact zB
  rintro H1 ⟨g1, b1⟩
  refine zS ?_
  refine V.run ?_
  have zf:=b1.2
  refine VI.sz 9 ?_
  simp only[ds]
  have zf:=b1.2
  refine VI.sz 2 ?_
  simp only[ds]
  first | refine VI.callGt zG (fun hc => zI) (fun hc => f38_ok S 0 60 _) (fun hc => zI) (fun H2 g2 => ?_) | refine VI.callGf zG (fun hc => zI) (fun hc => f38_ok S 0 60 _) (fun hc => zI) (fun H2 g2 => ?_)
  have b2 := b1.grow g2
  have zf:=b2.2
  refine VI.sz 4 ?_
  simp only[ds]
  first | refine VI.callGt zG (fun hc => zI) (fun hc => f38_ok L 0 10000 _) (fun hc => zI) (fun H3 g3 => ?_) | refine VI.callGf zG (fun hc => zI) (fun hc => f38_ok L 0 10000 _) (fun hc => zI) (fun H3 g3 => ?_)
  refine VI.l0 ?_
  refine zS ?_
  refine V.ret (V.rets rfl (Lv.retG (by simp +contextual (disch := first|omega|simp only[nx];omega) only[D1, cells_alloc_at, cells_alloc_ne, cells_set_at, cells_set_ne, yres, yres1, yresL, qA, qB, qC, D5,hF,hA,↓reduceIte,qD,qE]; rfl) ?_ ?_))
  · exact (g1.trans g2).trans g3
  · congr 1
    rw [decide_eq_decide]
    unfold rvalid
    simp only[and_assoc]
theorem f37_ok (m S L n : Int) (H : Heap) : Gives Try.prog 37 [.agg ⟨A3 m S L⟩, I n] H (.bool (decide (adm L n))) := by
  refine F.entryL rfl dg37 do37 de37 rfl (by kernel_rfl) ?_
  simp only[sets]
  refine V.re [(0, .agg ⟨A3 m S L⟩), (1, I n)] (N := 13) zE zY ?_
  intro t hF hA
  simp only[Kn, and_true] at hA
  refine zS ?_
  refine V.l0 ?_
  refine zS ?_
  refine V.l0 ?_
  refine zS ?_
  refine V.ret (V.rets rfl (Lv.retG (by simp +contextual (disch := first|omega|simp only[nx];omega) only[D1, cells_alloc_at, cells_alloc_ne, cells_set_at, cells_set_ne, yres, yres1, yresL, qA, qB, qC, D5,hF,hA,↓reduceIte,qD,qE]; rfl) ?_ ?_))
  · exact zW
  · rfl
end Go.Xe.TVX
