/- What the functions of the layer miss come to: lists of numbers that are left. Conditions: none. -/
import Derived.Test.YtglkpemncjoefaaTNE
-- MOD TM
namespace Go.Xe.TMX
open Go Go.Xe Go.Proofs Go.Xe.Mth
open Nat renaming reduceLeDiff → qA, reduceSub → qB, reduceAdd → qC, reduceEqDiff → qD, reduceLT → qE
open Int renaming reduceNegSucc → qF, reduceEq → qG
open Go.Xe.V renaming seq → sA, block → sB, scope → sC, skip → sD, close → sE
open Go.Xe renaming pth → P
set_option maxRecDepth 100000
set_option maxHeartbeats 3200000
set_option linter.unusedSimpArgs false
noncomputable def d96 : FCode := (.seq (.run (.go (.move (.con (.int .i64 (.ofNat 0)))) (P 4)::
[])) (.seq (.seq (.run (.go (.move (.tmp (P 0))) (P 6)::
.go (.len 0 (.tmp (P 6))) (P 7)::
.go (.move (.con (.int .i64 (.ofNat 0)))) (P 8)::
[])) (.block 0 (.loop (.seq (.run (.go (.bin .lss 3 (.tmp (P 8)) (.tmp (P 7))) (P 9)::
[])) (.seq (.cond (.tmp (P 9)) .skip (.exit 0)) (.seq (.block 1 (.seq (.run (.go (.move (.tmp (P 8))) (P 10)::
.go (.move (.tmp (P 10))) (P 5)::
[])) (.seq (.run (.go (.move (.tmp (P 1))) (P 11)::
.go (.move (.tmp (P 0))) (P 12)::
.go (.move (.tmp (P 5))) (P 13)::
.go (.indexAddr none 1 (.tmp (P 12)) (.tmp (P 13))) (P 14)::
.go (.load1 (.tmp (P 14))) (P 15)::
.go (.call (.tmp (P 11)) [(.tmp (P 15))]) (P 16)::
[])) (.cond (.tmp (P 16)) (.seq (.run (.go (.move (.tmp (P 5))) (P 17)::
.go (.move (.tmp (P 17))) (P 4)::
[])) .ret) .skip)))) (.run (.go (.bin .add 3 (.tmp (P 8)) (.con (.int .i64 (.ofNat 1)))) (P 18)::
.go (.move (.tmp (P 18))) (P 8)::
[])))))))) (.seq (.run (.go (.move (.con (.int .i64 (.negSucc 0)))) (P 4)::
[])) .ret)))
theorem de96 : @compF Try.prog (Gl.none Try.prog) Try.f96 2 = .mk d96 (mkTT 19) [(P 0),(P 1)] [.tmp (P 4)] := by kernel_rfl
theorem dg96 : Try.prog.funcs[96]? = some Try.f96 := Try.func96
theorem do96 : okF Try.prog Try.f96 = true := by kernel_rfl
noncomputable def d84 : FCode := (.seq (.run (.go (.move (.con (.slice none 0 0))) (P 4)::
[])) (.seq (.run (.go (.move (.tmp (P 0))) (P 8)::
.go (.move (.tmp (P 1))) (P 9)::
.go (.call (.con (.func (.func 96) ⟨[]⟩ ⟨[]⟩)) [(.tmp (P 8)),(.tmp (P 9))]) (P 10)::
.go (.move (.tmp (P 10))) (P 5)::
[])) (.seq (.seq (.run (.go (.move (.tmp (P 5))) (P 11)::
.go (.bin .eql 3 (.tmp (P 11)) (.con (.int .i64 (.negSucc 0)))) (P 12)::
[])) (.cond (.tmp (P 12)) (.seq (.run (.go (.move (.tmp (P 0))) (P 13)::
.go (.move (.tmp (P 13))) (P 4)::
[])) .ret) .skip)) (.seq (.seq (.run (.go (.move (.tmp (P 5))) (P 14)::
.go (.bin .add 3 (.tmp (P 14)) (.con (.int .i64 (.ofNat 1)))) (P 15)::
.go (.move (.tmp (P 15))) (P 6)::
[])) (.block 0 (.loop (.seq (.seq (.run (.go (.move (.tmp (P 6))) (P 16)::
.go (.move (.tmp (P 0))) (P 17)::
.go (.len 0 (.tmp (P 17))) (P 18)::
.go (.bin .lss 3 (.tmp (P 16)) (.tmp (P 18))) (P 19)::
[])) (.cond (.tmp (P 19)) .skip (.exit 0))) (.seq (.block 1 (.seq (.run (.go (.move (.tmp (P 0))) (P 22)::
.go (.move (.tmp (P 6))) (P 23)::
.go (.indexAddr none 1 (.tmp (P 22)) (.tmp (P 23))) (P 24)::
.go (.load1 (.tmp (P 24))) (P 25)::
.go (.move (.tmp (P 25))) (P 7)::
[])) (.seq (.run (.go (.move (.tmp (P 1))) (P 26)::
.go (.move (.tmp (P 7))) (P 27)::
.go (.call (.tmp (P 26)) [(.tmp (P 27))]) (P 28)::
.go (.un .not (.tmp (P 28))) (P 29)::
[])) (.cond (.tmp (P 29)) (.seq (.run (.go (.move (.tmp (P 0))) (P 30)::
.go (.move (.tmp (P 5))) (P 31)::
.go (.move (.tmp (P 7))) (P 32)::
.go (.indexAddr none 1 (.tmp (P 30)) (.tmp (P 31))) (P 33)::
.un (.store 1 (.tmp (P 33)) (.tmp (P 32)))::
[])) (.run (.go (.move (.tmp (P 5))) (P 34)::
.go (.bin .add 3 (.tmp (P 34)) (.con (.int .i64 (.ofNat 1)))) (P 35)::
.go (.move (.tmp (P 35))) (P 5)::
[]))) .skip)))) (.run (.go (.move (.tmp (P 6))) (P 20)::
.go (.bin .add 3 (.tmp (P 20)) (.con (.int .i64 (.ofNat 1)))) (P 21)::
.go (.move (.tmp (P 21))) (P 6)::
[]))))))) (.seq (.run (.go (.move (.tmp (P 0))) (P 36)::
.go (.move (.tmp (P 5))) (P 37)::
.go (.slice 3 1 (.tmp (P 36)) (some (.tmp (P 37))) none) (P 38)::
.un (.clear 1 [(.int .i64 (.ofNat 0))] (.tmp (P 38)))::
[])) (.seq (.run (.go (.move (.tmp (P 0))) (P 39)::
.go (.move (.tmp (P 5))) (P 40)::
.go (.slice 3 1 (.tmp (P 39)) none (some (.tmp (P 40)))) (P 41)::
.go (.move (.tmp (P 41))) (P 4)::
[])) .ret))))))
theorem de84 : @compF Try.prog (Gl.none Try.prog) Try.f84 2 = .mk d84 (mkTT 42) [(P 0),(P 1)] [.tmp (P 4)] := by kernel_rfl
theorem dg84 : Try.prog.funcs[84]? = some Try.f84 := Try.func84
theorem do84 : okF Try.prog Try.f84 = true := by kernel_rfl
theorem f96_ok {H : Heap} {v fv : Value} {l : List Int} {p : Int → Bool} {J : Heap → Prop} {U : Nat → Prop} (hJ : ∀ X, J X → Sl X v (l.map I)) (hn : l.length ≤ 1048576)
    (hf : ∀ z ∈ l, ∀ X, J X → FV Try.prog fv [I z] X (fun r X' => r = .bool (p z) ∧ J X' ∧ GrowS U X X')) (h0 : J H) :
    F Try.prog 96 ⟨[v, fv]⟩ H (fun w H' => J H' ∧ GrowS U H H' ∧ ∃ r : Int, w = I r ∧ ((r = -1 ∧ ∀ z ∈ l, p z = false) ∨ ∃ (k : Nat) (h : k < l.length), r = k ∧ p l[k] = true ∧ ∀ z ∈ l.take k, p z = false)) := by
  have hlen : ylen 0 H v = some (I l.length) := by rw [(hJ H h0).len, List.length_map]
  refine F.entryL rfl dg96 do96 de96 rfl (by kernel_rfl) ?_
  simp only[sets]
  refine V.re [(0, v), (1, fv)] (N := 19) (by intro i; simp only[full_st, Full.mk]) (by simp only[Kn, gt_st, full_st, Full.mk, ↓reduceIte, qD, qE, decide_true, and_self]) ?_
  intro t hF hA
  simp only[Kn, and_true] at hA
  (repeat first|apply sA|apply sB|apply sC|apply sD|apply sE)
  refine V.line' (by simp +contextual (disch := first|omega|simp only[nx];omega) only[D4,qF,qG,qA,qB,qC,D5,hF,hA,↓reduceIte,qD,qE]; with_reducible rfl) ?_
  (repeat first|apply sA|apply sB|apply sC|apply sD|apply sE)
  refine V.line' (by simp +contextual (disch := first|omega|simp only[nx];omega) only[D4,qF,qG,qA,qB,qC,D5,hF,hA,↓reduceIte,qD,qE, hlen]; with_reducible rfl) ?_
  (repeat first|apply sA|apply sB|apply sC|apply sD|apply sE)
  refine V.loop (fun n t m X => ∃ (k : Nat), k ≤ l.length ∧ n = l.length - k ∧ (∀ x ∈ l.take k, p x = false) ∧ m = [] ∧ J X ∧ GrowS U H X ∧ Full 19 t ∧ Kn [(0, v), (1, fv), (7, I l.length), (8, I k)] t) l.length ?_ ?_
  · exact ⟨0, by omega, by omega, by simp, rfl, h0, .refl _, (by intro;simp only[full_st,hF]), (by simp only[Kn, D5,hF,hA,↓reduceIte,qD,qE,and_self,and_true,true_and];try (repeat' constructor))⟩
  clear hF hA
  rintro n t m X ⟨k, hk, rfl, hall, rfl, hj, hg, hF, hA⟩
  simp only[Kn, and_true] at hA
  (repeat first|apply sA|apply sB|apply sC|apply sD|apply sE)
  refine V.line' (by simp +contextual (disch := first|omega|simp only[nx];omega) only[D4,qF,qG,qA,qB,qC,D5,hF,hA,↓reduceIte,qD,qE]; with_reducible rfl) ?_
  (repeat first|apply sA|apply sB|apply sC|apply sD|apply sE)
  refine V.condP (by simp only[D6,D5,hF,hA,↓reduceIte,qD,qE]; rfl) (fun hlt => ?_) (fun hlt => ?_)
  · have hlt' : k < l.length := by omega
    obtain ⟨q, hq1, hq2⟩ := (hJ X hj).get (n := k) (k := k) (x := I l[k]) (kd := .i64) (by simp [hlt']) rfl
    have hy := hf l[k] (by simp) X hj
    (repeat first|apply sA|apply sB|apply sC|apply sD|apply sE)
    refine V.line' (by simp +contextual (disch := first|omega|simp only[nx];omega) only[D4,qF,qG,qA,qB,qC,D5,hF,hA,↓reduceIte,qD,qE]; with_reducible rfl) ?_
    (repeat first|apply sA|apply sB|apply sC|apply sD|apply sE)
    refine V.run ?_
    refine VI.steps' 5 (by simp +contextual (disch := first|omega|simp only[nx];omega) only[D4,qF,qG,qA,qB,qC,D5,hF,hA,↓reduceIte,qD,qE, hq1, hq2 _ (Grow.refl _)]; with_reducible rfl) ?_
    simp only[ds]
    refine VI.callV (y := fv) (by simp only[D6,D5,hF,hA,↓reduceIte,qD,qE]; try rfl) (by simp only[List.map_cons, List.map_nil, D6,D5,hF,hA,↓reduceIte,qD,qE]; exact hy) (fun r X' hr => ?_)
    obtain ⟨rfl, hj', hg'⟩ := hr
    refine VI.line' (by simp +contextual (disch := first|omega|simp only[nx];omega) only[D4,qF,qG,qA,qB,qC,D5,hF,hA,↓reduceIte,qD,qE]; with_reducible rfl) ?_
    (repeat first|apply sA|apply sB|apply sC|apply sD|apply sE)
    refine V.condB (by simp only[D6,D5,hF,hA,↓reduceIte,qD,qE]; rfl) (fun h => ?_) (fun h => ?_)
    · (repeat first|apply sA|apply sB|apply sC|apply sD|apply sE)
      refine V.line' (by simp +contextual (disch := first|omega|simp only[nx];omega) only[D4,qF,qG,qA,qB,qC,D5,hF,hA,↓reduceIte,qD,qE]; with_reducible rfl) ?_
      (repeat first|apply sA|apply sB|apply sC|apply sD|apply sE)
      refine V.ret (V.rets rfl (Or.inr ⟨by simp, V.rets rfl (Lv.retF (by simp only[yres, yres1, D5,hF,hA,↓reduceIte,qD,qE]; rfl) ?_)⟩))
      exact ⟨hj', hg.trans hg', _, rfl, .inr ⟨k, hlt', rfl, h, hall⟩⟩
    · (repeat first|apply sA|apply sB|apply sC|apply sD|apply sE)
      refine V.line' (by simp +contextual (disch := first|omega|simp only[nx];omega) only[D4,qF,qG,qA,qB,qC,D5,hF,hA,↓reduceIte,qD,qE]; with_reducible rfl) ?_
      refine V.nil (Or.inl ⟨rfl, l.length - (k + 1), by omega, ?_⟩)
      refine ⟨k + 1, by omega, rfl, ?_, rfl, hj', hg.trans hg', (by intro;simp only[full_st,hF]), (by simp only[Kn, D5,hF,hA,↓reduceIte,qD,qE,and_self,and_true,true_and];try (repeat' constructor))⟩
      intro x hx
      rw [tk hlt'] at hx
      rcases List.mem_append.1 hx with hx | hx
      · exact hall x hx
      · rw [List.mem_singleton.1 hx]; simpa using h
  · refine V.exit ?_
    (repeat first | refine V.pass ?_ | refine V.here ?_ | refine V.out (by decide) ?_)
    refine V.nil (Or.inr ⟨by simp, ?_⟩)
    (repeat first | refine V.pass ?_ | refine V.here ?_ | refine V.out (by decide) ?_)
    (repeat first|apply sA|apply sB|apply sC|apply sD|apply sE)
    refine V.line' (by simp +contextual (disch := first|omega|simp only[nx];omega) only[D4,qF,qG,qA,qB,qC,D5,hF,hA,↓reduceIte,qD,qE]; with_reducible rfl) ?_
    (repeat first|apply sA|apply sB|apply sC|apply sD|apply sE)
    refine V.ret (V.rets rfl (Lv.retF (by simp +contextual (disch := first|omega|simp only[nx];omega) only[D1, cells_alloc_at, cells_alloc_ne, cells_set_at, cells_set_ne, yres, yres1, yresL, qA, qB, qC, D5,hF,hA,↓reduceIte,qD,qE]; rfl) ?_))
    have e : l.take k = l := List.take_of_length_le (by omega)
    rw [e] at hall
    exact ⟨hj, hg, _, rfl, .inl ⟨rfl, hall⟩⟩
def cells_ok (p : Int → Bool) (l : List Int) (k i : Nat) (c : List Value) : Prop := c.length = l.length ∧ i = ((l.take k).filter fun z => !p z).length ∧ c.take i = ((l.take k).filter fun z => !p z).map I ∧ c.drop k = (l.drop k).map I
theorem cells_le {p : Int → Bool} {l : List Int} {k i : Nat} {c : List Value} (h : cells_ok p l k i c) : i ≤ k := by
  rw [h.2.1]
  exact Nat.le_trans (List.length_filter_le _ _) (by rw [List.length_take]; omega)
theorem cells_skip {p : Int → Bool} {l : List Int} {k i : Nat} {c : List Value} (h : cells_ok p l k i c) (hk : k < l.length) (hp : p l[k] = true) : cells_ok p l (k + 1) i c := by
  obtain ⟨h1, h2, h3, h4⟩ := h
  have e : (l.take (k + 1)).filter (fun z => !p z) = (l.take k).filter fun z => !p z := by rw [tk hk, List.filter_append]; simp [hp]
  refine ⟨h1, by rw [e]; exact h2, by rw [e]; exact h3, ?_⟩
  rw [← List.drop_drop, h4, ← List.map_drop, List.drop_drop]
theorem cells_put {p : Int → Bool} {l : List Int} {k i : Nat} {c : List Value} (h : cells_ok p l k i c) (hk : k < l.length) (hp : p l[k] = false) : cells_ok p l (k + 1) (i + 1) (c.set i (I l[k])) := by
  have hi := cells_le h
  obtain ⟨h1, h2, h3, h4⟩ := h
  have e : (l.take (k + 1)).filter (fun z => !p z) = ((l.take k).filter fun z => !p z) ++ [l[k]] := by rw [tk hk, List.filter_append]; simp [hp]
  refine ⟨by rw [List.length_set]; exact h1, by rw [e, List.length_append, ← h2]; rfl, ?_, ?_⟩
  · rw [e, List.map_append, ← h3]
    have hil : i < (c.set i (I l[k])).length := by rw [List.length_set]; omega
    rw [List.take_succ_eq_append_getElem hil, List.take_set_of_le (Nat.le_refl _)]
    simp
  · rw [List.drop_set_of_lt (by omega), ← List.drop_drop, h4, ← List.map_drop, List.drop_drop]
theorem cells_get {p : Int → Bool} {l : List Int} {k i : Nat} {c : List Value} (h : cells_ok p l k i c) (hk : k < l.length) : c[k]? = some (I l[k]) := by
  have h4 := h.2.2.2
  have : (c.drop k)[0]? = ((l.drop k).map I)[0]? := by rw [h4]
  simpa [hk] using this
theorem f84_ok {H : Heap} {y : Nat} {fv : Value} {l : List Int} {p : Int → Bool} {J : Heap → Prop} {U : Nat → Prop} (hy : ¬ U y) (hl0 : l ≠ []) (hn : l.length ≤ 1048576) (hb : Bx H y (l.map I) 3)
    (sJ : ∀ X c, J X → y < X.next → J (X.set y (.cells c 3 true)))
    (hf : ∀ z ∈ l, ∀ X, J X → FV Try.prog fv [I z] X (fun r X' => r = .bool (p z) ∧ J X' ∧ GrowS U X X')) (h0 : J H) :
    F Try.prog 84 ⟨[.slice (some ⟨y, 0, none⟩) l.length l.length, fv]⟩ H (fun w H' => J H' ∧ GrowS (fun i => U i ∨ i = y) H H' ∧ Sl H' w ((l.filter fun z => !p z).map I) ∧ ∃ n c, w = .slice (some ⟨y, 0, none⟩) n c) := by
  have hlen0 : 0 < l.length := by cases l with | nil => exact absurd rfl hl0 | cons => simp
  have sb : ∀ {X : Heap}, Bx X y (l.map I) 3 → Sl X (.slice (some ⟨y, 0, none⟩) l.length l.length) (l.map I) := fun h => .at h.1 h.2 (Nat.le_refl _) (by simp) (by simp) (fun k x hx => by simpa using hx)
  refine F.entryL rfl dg84 do84 de84 rfl (by kernel_rfl) ?_
  simp only[sets]
  refine V.re [(0, .slice (some ⟨y, 0, none⟩) l.length l.length), (1, fv)] (N := 42) (by intro i; simp only[full_st, Full.mk]) (by simp only[Kn, gt_st, full_st, Full.mk, ↓reduceIte, qD, qE, decide_true, and_self]) ?_
  intro t hF hA
  simp only[Kn, and_true] at hA
  (repeat first|apply sA|apply sB|apply sC|apply sD|apply sE)
  refine V.line' (by simp +contextual (disch := first|omega|simp only[nx];omega) only[D4,qF,qG,qA,qB,qC,D5,hF,hA,↓reduceIte,qD,qE]; with_reducible rfl) ?_
  (repeat first|apply sA|apply sB|apply sC|apply sD|apply sE)
  refine V.run ?_
  refine VI.steps' 2 (by simp +contextual (disch := first|omega|simp only[nx];omega) only[D4,qF,qG,qA,qB,qC,D5,hF,hA,↓reduceIte,qD,qE]; with_reducible rfl) ?_
  simp only[ds]
  refine VI.callR (by simp only[D6,D5,hF,hA,↓reduceIte,qD,qE]; try rfl) (f96_ok (J := fun X => J X ∧ Bx X y (l.map I) 3) (U := U) (fun X h => sb h.2) hn (fun z hz X h => FV.mono (hf z hz X h.1) (fun r X' q => ⟨q.1, ⟨q.2.1, h.2.growS q.2.2 hy⟩, q.2.2⟩)) ⟨h0, hb⟩) (by simp only[D6,D5,hF,hA,↓reduceIte,qD,qE]; try rfl) (fun v2 H2 ⟨⟨j2, b2⟩, g2, r, q2, hr⟩ => ?_)
  subst q2
  rcases hr with ⟨rfl, hall⟩ | ⟨r, hrl, rfl, hpr, hall⟩
  · refine VI.line' (by simp +contextual (disch := first|omega|simp only[nx];omega) only[D4,qF,qG,qA,qB,qC,D5,hF,hA,↓reduceIte,qD,qE]; with_reducible rfl) ?_
    (repeat first|apply sA|apply sB|apply sC|apply sD|apply sE)
    refine V.line' (by simp +contextual (disch := first|omega|simp only[nx];omega) only[D4,qF,qG,qA,qB,qC,D5,hF,hA,↓reduceIte,qD,qE]; with_reducible rfl) ?_
    (repeat first|apply sA|apply sB|apply sC|apply sD|apply sE)
    refine V.condT (by simp only[D6,D5,hF,hA,↓reduceIte,qD,qE]) ?_
    (repeat first|apply sA|apply sB|apply sC|apply sD|apply sE)
    refine V.line' (by simp +contextual (disch := first|omega|simp only[nx];omega) only[D4,qF,qG,qA,qB,qC,D5,hF,hA,↓reduceIte,qD,qE]; with_reducible rfl) ?_
    (repeat first|apply sA|apply sB|apply sC|apply sD|apply sE)
    refine V.ret (V.rets rfl (Lv.retF (by simp +contextual (disch := first|omega|simp only[nx];omega) only[D1, cells_alloc_at, cells_alloc_ne, cells_set_at, cells_set_ne, yres, yres1, yresL, qA, qB, qC, D5,hF,hA,↓reduceIte,qD,qE]; rfl) ?_))
    refine ⟨j2, g2.mono (fun i h => .inl h), ?_, _, _, rfl⟩
    have e : l.filter (fun z => !p z) = l := List.filter_eq_self.2 (fun z hz => by simp [hall z hz])
    rw [e]
    exact sb b2
  · refine VI.line' (by simp +contextual (disch := first|omega|simp only[nx];omega) only[D4,qF,qG,qA,qB,qC,D5,hF,hA,↓reduceIte,qD,qE]; with_reducible rfl) ?_
    (repeat first|apply sA|apply sB|apply sC|apply sD|apply sE)
    have nr : ¬ ((r : Int) = -1) := by omega
    refine V.line' (by simp +contextual (disch := first|omega|simp only[nx];omega) only[D4,qF,qG,qA,qB,qC,D5,hF,hA,↓reduceIte,qD,qE, nr]; with_reducible rfl) ?_
    (repeat first|apply sA|apply sB|apply sC|apply sD|apply sE)
    refine V.condF (by simp only[D6,D5,hF,hA,↓reduceIte,qD,qE]) ?_
    (repeat first|apply sA|apply sB|apply sC|apply sD|apply sE)
    have er : (r : Int) + 1 = ((r + 1 : Nat) : Int) := rfl
    refine V.line' (by simp +contextual (disch := first|omega|simp only[nx];omega) only[D4,qF,qG,qA,qB,qC,D5,hF,hA,↓reduceIte,qD,qE, er]; with_reducible rfl) ?_
    (repeat first|apply sA|apply sB|apply sC|apply sD|apply sE)
    have hc0 : cells_ok p l (r + 1) r (l.map I) := by
      have e : (l.take r).filter (fun z => !p z) = l.take r := List.filter_eq_self.2 (fun z hz => by simp [hall z hz])
      have e2 : (l.take (r + 1)).filter (fun z => !p z) = l.take r := by rw [tk hrl, List.filter_append, e]; simp [hpr]
      refine ⟨by simp, ?_, ?_, ?_⟩
      · rw [e2, List.length_take]; omega
      · rw [e2, List.map_take]
      · rw [List.map_drop]
    refine V.loop (fun n t m X => ∃ (k i : Nat) (c : List Value), k ≤ l.length ∧ n = l.length - k ∧ cells_ok p l k i c ∧ i < k ∧ m = [] ∧ J X ∧ Bx X y c 3 ∧ GrowS (fun i => U i ∨ i = y) H X ∧ Full 42 t ∧ Kn [(0, .slice (some ⟨y, 0, none⟩) l.length l.length), (1, fv), (5, I i), (6, I k)] t) (l.length - (r + 1)) ?_ ?_
    · exact ⟨r + 1, r, l.map I, by omega, rfl, hc0, by omega, rfl, j2, b2, g2.mono (fun i h => .inl h), (by intro;simp only[full_st,hF]), (by simp only[Kn, D5,hF,hA,↓reduceIte,qD,qE,and_self,and_true,true_and];try (repeat' constructor))⟩
    clear hF hA hc0 b2 j2 hall hpr er nr
    have hyl : ∀ X, ylen 0 X (.slice (some ⟨y, 0, none⟩) l.length l.length) = some (I l.length) := fun _ => rfl
    rintro n t m X ⟨k, i, c, hk, rfl, hc, hik, rfl, hj, hbx, hg, hF, hA⟩
    simp only[Kn, and_true] at hA
    (repeat first|apply sA|apply sB|apply sC|apply sD|apply sE)
    refine V.line' (by simp +contextual (disch := first|omega|simp only[nx];omega) only[D4,qF,qG,qA,qB,qC,D5,hF,hA,↓reduceIte,qD,qE, hyl]; with_reducible rfl) ?_
    (repeat first|apply sA|apply sB|apply sC|apply sD|apply sE)
    refine V.condP (by simp only[D6,D5,hF,hA,↓reduceIte,qD,qE]; rfl) (fun hlt => ?_) (fun hlt => ?_)
    · have hlt' : k < l.length := by omega
      have hcl := hc.1
      have sx : Sl X (.slice (some ⟨y, 0, none⟩) l.length l.length) c := .at hbx.1 hbx.2 (Nat.le_refl _) hcl (by simp [hcl]) (fun k x hx => by simpa using hx)
      obtain ⟨q, hq1, hq2⟩ := sx.get (n := k) (k := k) (x := I l[k]) (kd := .i64) (cells_get hc hlt') rfl
      have hyf := hf l[k] (by simp) X hj
      (repeat first|apply sA|apply sB|apply sC|apply sD|apply sE)
      refine V.line' (by simp +contextual (disch := first|omega|simp only[nx];omega) only[D4,qF,qG,qA,qB,qC,D5,hF,hA,↓reduceIte,qD,qE, hq1, hq2 _ (Grow.refl _)]; with_reducible rfl) ?_
      (repeat first|apply sA|apply sB|apply sC|apply sD|apply sE)
      refine V.run ?_
      refine VI.steps' 2 (by simp +contextual (disch := first|omega|simp only[nx];omega) only[D4,qF,qG,qA,qB,qC,D5,hF,hA,↓reduceIte,qD,qE]; with_reducible rfl) ?_
      simp only[ds]
      refine VI.callV (y := fv) (by simp only[D6,D5,hF,hA,↓reduceIte,qD,qE]; try rfl) (by simp only[List.map_cons, List.map_nil, D6,D5,hF,hA,↓reduceIte,qD,qE]; exact hyf) (fun r' X' hr => ?_)
      obtain ⟨rfl, hj', hg'⟩ := hr
      have hb' := hbx.growS hg' hy
      have hgg : GrowS (fun i => U i ∨ i = y) H X' := hg.trans (hg'.mono (fun i h => .inl h))
      refine VI.line' (by simp +contextual (disch := first|omega|simp only[nx];omega) only[D4,qF,qG,qA,qB,qC,D5,hF,hA,↓reduceIte,qD,qE]; with_reducible rfl) ?_
      (repeat first|apply sA|apply sB|apply sC|apply sD|apply sE)
      refine V.cut (fun e t m Y => e = .normal ∧ m = [] ∧ ∃ (i' : Nat) (c' : List Value), cells_ok p l (k + 1) i' c' ∧ i' < k + 1 ∧ J Y ∧ Bx Y y c' 3 ∧ GrowS (fun i => U i ∨ i = y) H Y ∧ Full 42 t ∧ Kn [(0, .slice (some ⟨y, 0, none⟩) l.length l.length), (1, fv), (5, I i'), (6, I k)] t) ?_ ?_
      · refine V.condB (by simp only[D6,D5,hF,hA,↓reduceIte,qD,qE]; rfl) (fun h => ?_) (fun h => ?_)
        · have hp : p l[k] = false := by simpa using h
          have hil : i < c.length := by omega
          have sx' : Sl X' (.slice (some ⟨y, 0, none⟩) l.length l.length) c := .at hb'.1 hb'.2 (Nat.le_refl _) hcl (by simp [hcl]) (fun k x hx => by simpa using hx)
          have hadr : yindexAddr none 1 (.slice (some ⟨y, 0, none⟩) l.length l.length) (I i) = some (.pointer (some ⟨y, i, none⟩)) := by
            unfold yindexAddr
            simp only
            rw [if_pos ⟨by omega, by omega⟩]
            congr 4
            omega
          have ei : (i : Int) + 1 = ((i + 1 : Nat) : Int) := rfl
          (repeat first|apply sA|apply sB|apply sC|apply sD|apply sE)
          refine V.line' (by simp +contextual (disch := first|omega|simp only[nx];omega) only[D4,qF,qG,qA,qB,qC,D5,hF,hA,↓reduceIte,qD,qE, hadr, hb'.2, hil]; with_reducible rfl) ?_
          (repeat first|apply sA|apply sB|apply sC|apply sD|apply sE)
          refine V.line' (by simp +contextual (disch := first|omega|simp only[nx];omega) only[D4,qF,qG,qA,qB,qC,D5,hF,hA,↓reduceIte,qD,qE, ei]; with_reducible rfl) ?_
          exact ⟨rfl, rfl, i + 1, c.set i (I l[k]), cells_put hc hlt' hp, by omega, sJ _ _ hj' hb'.1, ⟨hb'.1, cells_set _ _ _ _ _⟩, hgg.set (.inl (.inr rfl)) _, (by intro;simp only[full_st,hF]), (by simp only[Kn, D5,hF,hA,↓reduceIte,qD,qE,and_self,and_true,true_and];try (repeat' constructor))⟩
        · have hp : p l[k] = true := by simpa using h
          (repeat first|apply sA|apply sB|apply sC|apply sD|apply sE)
          exact ⟨rfl, rfl, i, c, cells_skip hc hlt' hp, by omega, hj', hb', hgg, (by intro;simp only[full_st,hF]), (by simp only[Kn, D5,hF,hA,↓reduceIte,qD,qE,and_self,and_true,true_and];try (repeat' constructor))⟩
      clear hF hA
      rintro e t m Y ⟨rfl, rfl, i', c', hc', hik', hj2, hb2, hg2, hF, hA⟩
      simp only[Kn, and_true] at hA
      have ek : (k : Int) + 1 = ((k + 1 : Nat) : Int) := rfl
      (repeat first|apply sA|apply sB|apply sC|apply sD|apply sE)
      refine V.line' (by simp +contextual (disch := first|omega|simp only[nx];omega) only[D4,qF,qG,qA,qB,qC,D5,hF,hA,↓reduceIte,qD,qE, ek]; with_reducible rfl) ?_
      refine V.nil (Or.inl ⟨rfl, l.length - (k + 1), by omega, ?_⟩)
      exact ⟨k + 1, i', c', by omega, rfl, hc', hik', rfl, hj2, hb2, hg2, (by intro;simp only[full_st,hF]), (by simp only[Kn, D5,hF,hA,↓reduceIte,qD,qE,and_self,and_true,true_and];try (repeat' constructor))⟩
    · obtain rfl : k = l.length := by omega
      refine V.exit ?_
      (repeat first | refine V.pass ?_ | refine V.here ?_ | refine V.out (by decide) ?_)
      refine V.nil (Or.inr ⟨by simp, ?_⟩)
      (repeat first | refine V.pass ?_ | refine V.here ?_ | refine V.out (by decide) ?_)
      (repeat first|apply sA|apply sB|apply sC|apply sD|apply sE)
      have hcl := hc.1
      have c31 : Try.prog.cellsOf 3 = 1 := by kernel_rfl
      have hbe : X.cellsAt y = some (⟨c⟩, 3, true) := hbx.2
      have hxb0 : xbound none l.length l.length = some l.length := rfl
      have hxb1 : xbound none 0 i = some 0 := rfl
      have hs1 : yslice Try.prog 3 1 X (.slice (some ⟨y, 0, none⟩) l.length l.length) (some (I i)) none = some (.slice (some ⟨y, i, none⟩) (l.length - i) (l.length - i)) := by
        unfold yslice
        simp only[hbe, hxb0, xb (show i ≤ l.length by omega)]
        rw [if_pos (Or.inr (Or.inl trivial)), if_neg (by omega), Nat.mul_one, Nat.zero_add]
      have hzl : (zeros ⟨[I 0]⟩ ((l.length - i) * 1)).toList.length = l.length - i := by simp [zeros]
      have hs2 : yclear 1 [I 0] X (.slice (some ⟨y, i, none⟩) (l.length - i) (l.length - i)) = some (X.set y (.cells ⟨c.take i ++ (zeros ⟨[I 0]⟩ ((l.length - i) * 1)).toList ++ c.drop (i + (zeros ⟨[I 0]⟩ ((l.length - i) * 1)).toList.length)⟩ 3 true)) := by
        unfold yclear
        simp only[hbe]
        rw [if_neg (by omega), if_pos (by rw [arr_size, hcl]; omega), setC_pre _ _ _ (by rw [hzl, hcl]; omega)]
      generalize hZ : (c.take i ++ (zeros ⟨[I 0]⟩ ((l.length - i) * 1)).toList ++ c.drop (i + (zeros ⟨[I 0]⟩ ((l.length - i) * 1)).toList.length)) = Z at hs2
      have hZl : Z.length = l.length := by rw [← hZ, List.length_append, List.length_append, List.length_take, List.length_drop, hzl, hcl]; omega
      have hZt : Z.take i = c.take i := by
        rw [← hZ, List.append_assoc, List.take_append_of_le_length (by rw [List.length_take]; omega), List.take_take, Nat.min_self]
      have hbz : Bx (X.set y (.cells ⟨Z⟩ 3 true)) y Z 3 := ⟨hbx.1, cells_set _ _ _ _ _⟩
      have hs3 : yslice Try.prog 3 1 (X.set y (.cells ⟨Z⟩ 3 true)) (.slice (some ⟨y, 0, none⟩) l.length l.length) none (some (I i)) = some (.slice (some ⟨y, 0, none⟩) i l.length) := by
        unfold yslice
        simp only[hbz.2, hxb1, xb (show i ≤ l.length by omega)]
        rw [if_pos (Or.inr (Or.inl trivial)), if_neg (by omega)]
        rfl
      refine V.line' (by simp +contextual (disch := first|omega|simp only[nx];omega) only[D4,qF,qG,qA,qB,qC,D5,hF,hA,↓reduceIte,qD,qE, hs1, hs2]; with_reducible rfl) ?_
      (repeat first|apply sA|apply sB|apply sC|apply sD|apply sE)
      refine V.line' (by simp +contextual (disch := first|omega|simp only[nx];omega) only[D4,qF,qG,qA,qB,qC,D5,hF,hA,↓reduceIte,qD,qE, hs3]; with_reducible rfl) ?_
      (repeat first|apply sA|apply sB|apply sC|apply sD|apply sE)
      refine V.ret (V.rets rfl (Lv.retF (by simp +contextual (disch := first|omega|simp only[nx];omega) only[D1, cells_alloc_at, cells_alloc_ne, cells_set_at, cells_set_ne, yres, yres1, yresL, qA, qB, qC, D5,hF,hA,↓reduceIte,qD,qE]; rfl) ?_))
      have hct := hc.2.2.1
      rw [List.take_of_length_le (Nat.le_refl _)] at hct
      refine ⟨sJ _ _ hj hbx.1, hg.set (.inl (.inr rfl)) _, ?_, _, _, rfl⟩
      refine .at hbz.1 hbz.2 (by omega) ?_ (by rw [arr_size, hZl]; omega) ?_
      · rw [← hct, List.length_take]; omega
      · intro q x hx
        rw [← hct, ← hZt] at hx
        rw [arr_get, Nat.zero_add]
        rw [List.getElem?_take] at hx
        split at hx
        · exact hx
        · cases hx
end Go.Xe.TMX
