/- What the functions of the layer flow come to: the sizes to which a truth leads. Conditions: none. -/
import Derived.Test.YtcgnigeddgeffaaTGC
-- MOD TF
namespace Go.Xe.TFX
open Go Go.Xe Go.Proofs
open Nat renaming reduceLeDiff → qA, reduceSub → qB, reduceAdd → qC, reduceEqDiff → qD, reduceLT → qE
open Int renaming reduceNegSucc → qF, reduceEq → qG
open Go.Xe.Flw
set_option maxRecDepth 100000
set_option maxHeartbeats 3200000
set_option linter.unusedSimpArgs false
noncomputable def d66 : FCode := (.seq (.run (.go (.box 38 (.tmp (pth 0))) (pth 2)::
.go (.box 42 (.tmp (pth 1))) (pth 3)::
.go (.move (.con (.slice none 0 0))) (pth 4)::
.go (.move (.con (.bool false))) (pth 5)::
[])) (.seq (.run (.go (.fieldAddr 0 (.tmp (pth 3))) (pth 9)::
.go (.load1 (.tmp (pth 9))) (pth 10)::
.go (.call (.con (.func (.func 111) ⟨[]⟩ ⟨[]⟩)) [(.tmp (pth 10))]) (pth 11)::
.go (.move (.tmp (pth 11))) (pth 6)::
.go (.move (.con (.bool true))) (pth 5)::
[])) (.seq (.run (.go (.move (.tmp (pth 4))) (pth 12)::
.go (.move (.tmp (pth 6))) (pth 13)::
.go (.buildSlice 26 1 [(.slice none 0 0)] [(0,1,(.tmp (pth 13)))]) (pth 14)::
.go (.append 26 1 24 (.tmp (pth 12)) (.tmp (pth 14))) (pth 15)::
.go (.move (.tmp (pth 15))) (pth 4)::
[])) (.seq (.seq (.run (.go (.fieldAddr 1 (.tmp (pth 2))) (pth 16)::
.go (.load1 (.tmp (pth 16))) (pth 17)::
.go (.len 0 (.tmp (pth 17))) (pth 18)::
.go (.move (.con (.int .i64 (.ofNat 0)))) (pth 19)::
[])) (.block 0 (.loop (.seq (.run (.go (.bin .lss 3 (.tmp (pth 19)) (.tmp (pth 18))) (pth 20)::
[])) (.seq (.cond (.tmp (pth 20)) .skip (.exit 0)) (.seq (.block 1 (.seq (.run (.go (.move (.tmp (pth 19))) (pth 21)::
.go (.move (.tmp (pth 21))) (pth 7)::
[])) (.seq (.run (.go (.fieldAddr 1 (.tmp (pth 3))) (pth 22)::
.go (.load1 (.tmp (pth 22))) (pth 23)::
.go (.move (.tmp (pth 7))) (pth 24)::
.go (.indexAddr none 1 (.tmp (pth 23)) (.tmp (pth 24))) (pth 25)::
.go (.load1 (.tmp (pth 25))) (pth 26)::
.go (.buildSlice 3 1 [(.int .i64 (.ofNat 0))] [(0,1,(.tmp (pth 26)))]) (pth 27)::
.go (.move (.tmp (pth 6))) (pth 28)::
.go (.append 3 1 8 (.tmp (pth 27)) (.tmp (pth 28))) (pth 29)::
.go (.move (.tmp (pth 29))) (pth 8)::
[])) (.seq (.draw 12 (.go (.move (.tmp (pth 5))) (pth 30)::
.go (.move (.tmp (pth 30))) (pth 31)::
.gd (pth 31) true (.loadN 4 (.tmp (pth 2))) (pth 32)::
.gd (pth 31) true (.move (.tmp (pth 8))) (pth 33)::
.gd (pth 31) true (.fieldAddr 2 (.tmp (pth 3))) (pth 34)::
.gd (pth 31) true (.load1 (.tmp (pth 34))) (pth 35)::
.gd (pth 31) true (.move (.tmp (pth 7))) (pth 36)::
.gd (pth 31) true (.indexAddr none 1 (.tmp (pth 35)) (.tmp (pth 36))) (pth 37)::
.gd (pth 31) true (.load1 (.tmp (pth 37))) (pth 38)::
.gd (pth 31) true (.call (.con (.func (.func 112) ⟨[]⟩ ⟨[]⟩)) [(.tmp (pth 32)),(.tmp (pth 33)),(.tmp (pth 38))]) (pth 39)::
.go (.pick (.tmp (pth 31)) (.tmp (pth 39)) (.con (.bool false))) (pth 40)::
.go (.move (.tmp (pth 40))) (pth 5)::
[]) [.ok,.ok,.ok,.ok,.ok,.ok,.ok,.ok,.ok,.ok,.ok,.ok]) (.seq (.draw 13 (.go (.move (.tmp (pth 8))) (pth 41)::
.go (.fieldAddr 2 (.tmp (pth 3))) (pth 42)::
.go (.load1 (.tmp (pth 42))) (pth 43)::
.go (.move (.tmp (pth 7))) (pth 44)::
.go (.indexAddr none 1 (.tmp (pth 43)) (.tmp (pth 44))) (pth 45)::
.go (.load1 (.tmp (pth 45))) (pth 46)::
.go (.fieldAddr 3 (.tmp (pth 3))) (pth 47)::
.go (.load1 (.tmp (pth 47))) (pth 48)::
.go (.move (.tmp (pth 7))) (pth 49)::
.go (.indexAddr none 1 (.tmp (pth 48)) (.tmp (pth 49))) (pth 50)::
.go (.load1 (.tmp (pth 50))) (pth 51)::
.go (.call (.con (.func (.func 113) ⟨[]⟩ ⟨[]⟩)) [(.tmp (pth 41)),(.tmp (pth 46)),(.tmp (pth 51))]) (pth 52)::
.go (.move (.tmp (pth 52))) (pth 6)::
[]) [.ok,.ok,.ok,.ok,.ok,.ok,.ok,.ok,.ok,.ok,.ok,.ok,.ok]) (.seq (.run (.go (.move (.tmp (pth 5))) (pth 53)::
.go (.move (.tmp (pth 53))) (pth 54)::
.gd (pth 54) true (.move (.tmp (pth 6))) (pth 55)::
.gd (pth 54) true (.call (.con (.func (.func 114) ⟨[]⟩ ⟨[]⟩)) [(.con (.int .i64 (.ofNat 0))),(.tmp (pth 55))]) (pth 56)::
.gd (pth 54) true (.bin .eql 3 (.tmp (pth 56)) (.con (.int .i64 (.ofNat 0)))) (pth 57)::
.go (.pick (.tmp (pth 54)) (.tmp (pth 57)) (.con (.bool false))) (pth 58)::
.go (.move (.tmp (pth 58))) (pth 5)::
[])) (.run (.go (.move (.tmp (pth 4))) (pth 59)::
.go (.move (.tmp (pth 6))) (pth 60)::
.go (.buildSlice 26 1 [(.slice none 0 0)] [(0,1,(.tmp (pth 60)))]) (pth 61)::
.go (.append 26 1 24 (.tmp (pth 59)) (.tmp (pth 61))) (pth 62)::
.go (.move (.tmp (pth 62))) (pth 4)::
[])))))))) (.run (.go (.bin .add 3 (.tmp (pth 19)) (.con (.int .i64 (.ofNat 1)))) (pth 63)::
.go (.move (.tmp (pth 63))) (pth 19)::
[])))))))) (.seq (.run (.go (.move (.tmp (pth 4))) (pth 64)::
.go (.move (.tmp (pth 5))) (pth 65)::
.go (.move (.tmp (pth 64))) (pth 4)::
.go (.move (.tmp (pth 65))) (pth 5)::
[])) .ret)))))
theorem de66 : @compF Try.prog (Gl.none Try.prog) Try.f66 2 = .mk d66 (mkTT 66) [(pth 0),(pth 1)] [.tmp (pth 4),.tmp (pth 5)] := by kernel_rfl
theorem dg66 : Try.prog.funcs[66]? = some Try.f66 := Try.func66
theorem do66 : okF Try.prog Try.f66 = true := by kernel_rfl
def rw (X : Tr) : Nat → List Int
  | 0 => X.F
  | k + 1 => nxt (X.B.getD k 0 :: rw X k) (X.D.getD k []) (X.M.getD k [])
def cn (T : Tb) (X : Tr) : Nat → Prop
  | 0 => True
  | k + 1 => (cn T X k ∧ cd T.Rt (X.B.getD k 0 :: rw X k) (X.D.getD k [])) ∧ ∀ n ∈ rw X (k + 1), 0 ≤ n
instance cnd (T : Tb) (X : Tr) : ∀ k, Decidable (cn T X k)
  | 0 => inferInstanceAs (Decidable True)
  | k + 1 => by
    have := cnd T X k
    unfold cn
    infer_instance
def szs (X : Tr) (k : Nat) : List (List Int) := (List.range k).map (rw X)
theorem szs_s (X : Tr) (k : Nat) : szs X (k + 1) = szs X k ++ [rw X k] := by unfold szs; rw [List.range_succ, List.map_append]; rfl
theorem szs_len (X : Tr) (k : Nat) : (szs X k).length = k := by simp [szs]
theorem getD_nest {L : List (List Int)} {k : Nat} (h : k < L.length) : L.getD k [] = L[k] := by simp [h]
theorem fmin_z : ∀ (l : List Int) (x : Int), (0 ≤ x → (l.foldl min x = 0 ↔ x = 0 ∧ ∀ n ∈ l, 0 ≤ n) ∨ 0 < x) ∧ l.foldl min x ≤ x
  | [], x => ⟨fun _ => .inl (by simp), Int.le_refl _⟩
  | y :: l, x => by
    have := fmin_z l (min x y)
    simp only [List.foldl_cons]
    exact ⟨fun h => by
      by_cases hx : 0 < x
      · exact .inr hx
      · left
        have hx0 : x = 0 := by omega
        subst hx0
        by_cases hy : 0 ≤ y
        · have e : min 0 y = 0 := by omega
          rw [e] at this ⊢
          rcases this.1 (Int.le_refl _) with h | h
          · rw [h]; simp [hy]
          · omega
        · have h2 := this.2
          constructor
          · intro h; omega
          · rintro ⟨_, h⟩
            have := h y (by simp)
            omega, by omega⟩
theorem least_z (l : List Int) : l.foldl min 0 = 0 ↔ ∀ n ∈ l, 0 ≤ n := by
  rcases (fmin_z l 0).1 (Int.le_refl _) with h | h
  · rw [h]; simp
  · omega
theorem rw_len {T : Tb} {X : Tr} (hv : val T) (hh : hld T X) : ∀ k, k ≤ T.B.length → (rw X k).length = grp T
  | 0, _ => hh.1
  | k + 1, hk => by
    obtain ⟨q1, q2, q3, q4, q5, q6, q7⟩ := hh
    have hm : k < X.M.length := by omega
    simp only [rw, nxt]
    rw [nxk_len, getD_nest hm, ← (q7 _ (List.getElem_mem hm)).1]
    exact hv.2.2.2.1
theorem f66_ok {H : Heap} {c b r n f e d o : Value} {T : Tb} {X : Tr} (h : TV H c b r n T) (hx : XV H f e d o X) (hft : fit T) (hv : val T) (hh : hld T X) : F Try.prog 66 ⟨[.agg ⟨[c, b, r, n]⟩, .agg ⟨[f, e, d, o]⟩]⟩ H (fun w Y => Grow H Y ∧ ∃ s, w = .tuple ⟨[s, .bool (decide (cn T X T.B.length))]⟩ ∧ Nest RI Y s (szs X (T.B.length + 1))) := by
  have hlb : ∀ X, ylen 0 X b = some (I T.B.length) := h.b.len
  have hrl := rw_len hv hh
  obtain ⟨q1, q2, q3, q4, q5, q6, q7⟩ := hh
  obtain ⟨v1, v2, v3, v4, _⟩ := hv
  obtain ⟨t1, t2⟩ := hft
  have hBl := q3.1
  refine F.entryL rfl dg66 do66 de66 rfl (by kernel_rfl) ?_
  simp only [sets]
  refine V.re [(0, .agg ⟨[c, b, r, n]⟩), (1, .agg ⟨[f, e, d, o]⟩)] (N := 66) (by intro i; simp only [full_st, Full.mk]) (by simp only [Kn, gt_st, full_st, Full.mk, ↓reduceIte, qD, qE, decide_true, and_self]) ?_
  intro t hF hA
  simp only [Kn, and_true] at hA
  (repeat first|apply V.seq|apply V.block|apply V.scope|apply V.skip|apply V.close)
  refine V.line' (by simp +contextual (disch := first|omega|simp only [nx];omega) only [D4,qF,qG,qA,qB,qC,D5,hF,hA,↓reduceIte,qD,qE]; with_reducible rfl) ?_
  refine V.heap (fun X => Grow H X ∧ Bx X H.next [c, b, r, n] 38 ∧ Bx X (H.next + 1) [f, e, d, o] 42) ⟨?_, ?_, ?_⟩ ?_
  · (repeat first | assumption | exact Grow.refl _ | refine Grow.alloc ?_ _ | refine Grow.set ?_ (by first|omega|simp only [nx];omega) _)
  · (repeat first | assumption | exact Bx.new _ _ _ | exact Bx.newAt (by first|omega|simp only [nx];omega) | refine Bx.put (by first|omega|simp only [nx];omega) _ _ | refine Bx.alloc ?_ _ | refine Bx.set ?_ (by first|omega|simp only [nx];omega) _)
  · (repeat first | assumption | exact Bx.new _ _ _ | exact Bx.newAt (by first|omega|simp only [nx];omega) | refine Bx.put (by first|omega|simp only [nx];omega) _ _ | refine Bx.alloc ?_ _ | refine Bx.set ?_ (by first|omega|simp only [nx];omega) _)
  rintro H1 ⟨g1, b1, c1⟩
  have k1 := hx.grow g1
  have h1 := h.grow g1
  (repeat first|apply V.seq|apply V.block|apply V.scope|apply V.skip|apply V.close)
  refine V.run ?_
  refine VI.steps' 2 (by simp +contextual (disch := first|omega|simp only [nx];omega) only [D4,qF,qG,qA,qB,qC,D5,hF,hA,↓reduceIte,qD,qE, c1.2]; with_reducible rfl) ?_
  simp only [ds]
  refine VI.callR (by simp only [D6,D5,hF,hA,↓reduceIte,qD,qE]; try rfl) (f111_ok k1.f (by omega)) (by simp only [D6,D5,hF,hA,↓reduceIte,qD,qE]; try rfl) (fun w0 H2 ⟨g2, o2⟩ => ?_)
  refine VI.line' (by simp +contextual (disch := first|omega|simp only [nx];omega) only [D4,qF,qG,qA,qB,qC,D5,hF,hA,↓reduceIte,qD,qE]; with_reducible rfl) ?_
  (repeat first|apply V.seq|apply V.block|apply V.scope|apply V.skip|apply V.close)
  have hw0 : From RI H1.next H2 w0 X.F := ⟨ow_ri o2, fun i hi => o2.from i hi⟩
  obtain ⟨w, H3, e1, e2, e3, e4, e5, e6⟩ := OwN.pushB (H0 := H1) (L := []) (s := .slice none 0 0) (e := 26) (ri.from _) (bytes := 24) g2.1 OwN.nil hw0 (by intro i _ hb; simp [blk] at hb) (by decide) (by decide)
  obtain ⟨p1, p2, _, _⟩ := sl1 (ri.sl hw0.1)
  have g13 : Grow H1 H3 := e3.grow g2 (Nat.le_refl _)
  have b3 := b1.grow g13
  have hw3 : From RI H1.next H3 w0 X.F := (ri.from _).apart e4 (by intro i _ hb; simp [blk] at hb) hw0
  refine V.line' (by simp +contextual (disch := first|omega|simp only [nx];omega) only [D4,qF,qG,qA,qB,qC,D5,hF,hA,↓reduceIte,qD,qE, e1, p1, p2]; with_reducible rfl) ?_
  (repeat first|apply V.seq|apply V.block|apply V.scope|apply V.skip|apply V.close)
  refine V.line' (by simp +contextual (disch := first|omega|simp only [nx];omega) only [D4,qF,qG,qA,qB,qC,D5,hF,hA,↓reduceIte,qD,qE, b3.2, hlb]; with_reducible rfl) ?_
  (repeat first|apply V.seq|apply V.block|apply V.scope|apply V.skip|apply V.close)
  refine V.loop (fun z t m Z => ∃ (k : Nat) (s y : Value) (p : Prop) (dp : Decidable p), k ≤ T.B.length ∧ z = T.B.length - k ∧ m = [] ∧ Grow H1 Z ∧ OwN (From RI H1.next) H1 Z 26 s (szs X (k + 1)) ∧ From RI H1.next Z y (rw X k) ∧ (p ↔ cn T X k) ∧ Full 66 t ∧ Kn [(2, .pointer (some ⟨H.next, 0, none⟩)), (3, .pointer (some ⟨H.next + 1, 0, none⟩)), (4, s), (5, .bool (decide p)), (6, y), (18, I T.B.length), (19, I k)] t) T.B.length ?_ ?_
  · exact ⟨0, w, w0, True, inferInstance, by omega, by omega, rfl, g13, e2, hw3, Iff.rfl, (by intro i; simp only [full_st, hF]), (by simp only [Kn, D5,hF,hA,↓reduceIte,qD,qE, and_self, and_true, true_and]; try (repeat' constructor))⟩
  clear hF hA
  rintro z t m Z ⟨k, s, y, p, dp, hk, rfl, rfl, hg, os, hy, hp, hF, hA⟩
  simp only [Kn, and_true] at hA
  have bz := b1.grow hg
  have cz := c1.grow hg
  have kz := k1.grow hg
  have hz := h1.grow hg
  (repeat first|apply V.seq|apply V.block|apply V.scope|apply V.skip|apply V.close)
  refine V.line' (by simp +contextual (disch := first|omega|simp only [nx];omega) only [D4,qF,qG,qA,qB,qC,D5,hF,hA,↓reduceIte,qD,qE]; with_reducible rfl) ?_
  (repeat first|apply V.seq|apply V.block|apply V.scope|apply V.skip|apply V.close)
  refine V.condP (by simp only [D6,D5,hF,hA,↓reduceIte,qD,qE]; rfl) (fun hlt => ?_) (fun hlt => ?_)
  · have hlt' : k < T.B.length := by omega
    have lB : k < X.B.length := by omega
    have lD : k < X.D.length := by omega
    have lM : k < X.M.length := by omega
    have hrow := hrl k hk
    obtain ⟨q, hq, hqx⟩ := kz.b.at lB
    have hq1 := hqx Z (.refl _)
    obtain ⟨qd, xd, hqd, hqdx⟩ := kz.d.at ri lD
    have hqdk := hqd .i64
    obtain ⟨qm, xm, hqm, hqmx⟩ := kz.m.at ri lM
    have hqmk := hqm .i64
    (repeat first|apply V.seq|apply V.block|apply V.scope|apply V.skip|apply V.close)
    refine V.line' (by simp +contextual (disch := first|omega|simp only [nx];omega) only [D4,qF,qG,qA,qB,qC,D5,hF,hA,↓reduceIte,qD,qE]; with_reducible rfl) ?_
    (repeat first|apply V.seq|apply V.block|apply V.scope|apply V.skip|apply V.close)
    have gb : Grow Z (Z.alloc (.cells ⟨[I X.B[k]]⟩ 3 true)) := (Grow.refl Z).alloc _
    have ob : Ow Z (Z.alloc (.cells ⟨[I X.B[k]]⟩ 3 true)) 3 (.slice (some ⟨Z.next, 0, none⟩) 1 1) [I X.B[k]] := .inr ⟨Z.next, Nat.le_refl _, Nat.lt_succ_self _, rfl, cells_alloc _ _ _ _⟩
    obtain ⟨u, Z1, a1, a2, a3, a4⟩ := Ow.append (e := 3) (bytes := 8) gb ob (ri.grow gb hy.1) (by simp [ok1_int]) (by simp only [List.length_cons, List.length_nil, List.length_map]; omega) (by simp only [List.length_cons, List.length_nil, List.length_map]; omega)
    have hu : RI Z1 u (X.B[k] :: rw X k) := a2.sl
    refine V.line' (by simp +contextual (disch := first|omega|simp only [nx];omega) only [D4,qF,qG,qA,qB,qC,D5,hF,hA,↓reduceIte,qD,qE, cz.2, hq, hq1, a1]; with_reducible rfl) ?_
    (repeat first|apply V.seq|apply V.block|apply V.scope|apply V.skip|apply V.close)
    have b1' := bz.grow a3
    have c1' := cz.grow a3
    have hd1 := hqdx Z1 a3
    have hD2 := q5 _ (List.getElem_mem lD)
    refine V.draw ?_
    refine VD.dins 9 (by simp +contextual (disch := first|omega|simp only [nx];omega) only [D4,qF,qG,qA,qB,qC,D5,hF,hA,↓reduceIte,qD,qE, b1'.2, c1'.2, hqdk, hd1.1]; with_reducible rfl) ?_
    simp only [ds]
    first | refine VD.callGt (by simp only [D5,hF,hA,↓reduceIte,qD,qE]; try rfl) (fun hc => by simp only [D6,D5,hF,hA,↓reduceIte,qD,qE, hc, and_self, and_true, true_and, not_false_eq_true]; try rfl) (fun hc => f112_ok (hz.grow a3) hu hd1.2 (by omega) (by simp only [List.length_cons]; omega) (by omega)) (fun hc => by simp only [D6,D5,hF,hA,↓reduceIte,qD,qE, hc, and_self, and_true, true_and, not_false_eq_true]; try rfl) (fun Z2 gz2 => ?_) | refine VD.callGf (by simp only [D5,hF,hA,↓reduceIte,qD,qE]; try rfl) (fun hc => by simp only [D6,D5,hF,hA,↓reduceIte,qD,qE, hc, and_self, and_true, true_and, not_false_eq_true]; try rfl) (fun hc => f112_ok (hz.grow a3) hu hd1.2 (by omega) (by simp only [List.length_cons]; omega) (by omega)) (fun hc => by simp only [D6,D5,hF,hA,↓reduceIte,qD,qE, hc, and_self, and_true, true_and, not_false_eq_true]; try rfl) (fun Z2 gz2 => ?_)
    refine VD.lineD' (by simp +contextual (disch := first|omega|simp only [nx];omega) only [D4,qF,qG,qA,qB,qC,D5,hF,hA,↓reduceIte,qD,qE]; with_reducible rfl) ?_ ?_ rfl ?_
    · have m2 := gz2.1
      simp only [monoG, List.cons_append, List.nil_append, Heap.next_set, Heap.next_alloc, Nat.le_refl, true_and, and_true] <;> omega
    · simp only [dcAll, dcOk, wantD, List.cons_append, List.nil_append, true_and, and_true]
    have c2' := c1'.grow gz2
    have hd2 := hqdx Z2 (a3.trans gz2)
    have hm2 := hqmx Z2 (a3.trans gz2)
    have hM2 := (q7 _ (List.getElem_mem lM)).1
    (repeat first|apply V.seq|apply V.block|apply V.scope|apply V.skip|apply V.close)
    refine V.draw ?_
    refine VD.dins 9 (by simp +contextual (disch := first|omega|simp only [nx];omega) only [D4,qF,qG,qA,qB,qC,D5,hF,hA,↓reduceIte,qD,qE, c2'.2, hqdk, hd2.1, hqmk, hm2.1]; with_reducible rfl) ?_
    simp only [ds]
    refine VD.dins 2 (by simp +contextual (disch := first|omega|simp only [nx];omega) only [D4,qF,qG,qA,qB,qC,D5,hF,hA,↓reduceIte,qD,qE, c2'.2, hqdk, hd2.1, hqmk, hm2.1]; with_reducible rfl) ?_
    simp only [ds]
    refine VD.callR (by simp only [D6,D5,hF,hA,↓reduceIte,qD,qE]; try rfl) (f113_ok (ri.grow gz2 hu) hd2.2 hm2.2 (by simp only [List.length_cons]; omega) (by simp only [List.length_cons]; omega) (by omega) (by omega)) (by simp only [D6,D5,hF,hA,↓reduceIte,qD,qE]; try rfl) (fun y3 Z3 ⟨gz3, o3⟩ => ?_)
    refine VD.lineD' (by simp +contextual (disch := first|omega|simp only [nx];omega) only [D4,qF,qG,qA,qB,qC,D5,hF,hA,↓reduceIte,qD,qE]; with_reducible rfl) ?_ ?_ rfl ?_
    · have m3 := gz3.1
      simp only [monoG, List.cons_append, List.nil_append, Heap.next_set, Heap.next_alloc, Nat.le_refl, true_and, and_true] <;> omega
    · simp only [dcAll, dcOk, wantD, List.cons_append, List.nil_append, true_and, and_true]
    have er : rw X (k + 1) = nxt (X.B[k] :: rw X k) X.D[k] X.M[k] := by
      simp only [rw, getD_at lB, getD_nest lD, getD_nest lM]
    have hl3 : (nxt (X.B[k] :: rw X k) X.D[k] X.M[k]).length = grp T := by rw [← er]; exact hrl (k + 1) hlt'
    (repeat first|apply V.seq|apply V.block|apply V.scope|apply V.skip|apply V.close)
    refine V.run ?_
    refine VI.steps' 3 (by simp +contextual (disch := first|omega|simp only [nx];omega) only [D4,qF,qG,qA,qB,qC,D5,hF,hA,↓reduceIte,qD,qE]; with_reducible rfl) ?_
    simp only [ds]
    first | refine VI.callGt (by simp only [D5,hF,hA,↓reduceIte,qD,qE]; try rfl) (fun hc => by simp only [D6,D5,hF,hA,↓reduceIte,qD,qE, hc, and_self, and_true, true_and, not_false_eq_true]; try rfl) (fun hc => f114_ok 0 (ow_ri o3) (by omega)) (fun hc => by simp only [D6,D5,hF,hA,↓reduceIte,qD,qE, hc, and_self, and_true, true_and, not_false_eq_true]; try rfl) (fun Z4 gz4 => ?_) | refine VI.callGf (by simp only [D5,hF,hA,↓reduceIte,qD,qE]; try rfl) (fun hc => by simp only [D6,D5,hF,hA,↓reduceIte,qD,qE, hc, and_self, and_true, true_and, not_false_eq_true]; try rfl) (fun hc => f114_ok 0 (ow_ri o3) (by omega)) (fun hc => by simp only [D6,D5,hF,hA,↓reduceIte,qD,qE, hc, and_self, and_true, true_and, not_false_eq_true]; try rfl) (fun Z4 gz4 => ?_)
    refine VI.line' (by simp +contextual (disch := first|omega|simp only [nx];omega) only [D4,qF,qG,qA,qB,qC,D5,hF,hA,↓reduceIte,qD,qE]; with_reducible rfl) ?_
    (repeat first|apply V.seq|apply V.block|apply V.scope|apply V.skip|apply V.close)
    have g04 : Grow Z Z2 := a3.trans gz2
    have os2 := os.keep (ri.from _) g04
    have os4 := (os2.keep (ri.from _) gz3).keep (ri.from _) gz4
    have hy4 : From RI H1.next Z4 y3 (rw X (k + 1)) := by
      rw [er]
      exact ⟨ri.grow gz4 (ow_ri o3), fun i hi => Nat.le_trans hg.1 (Nat.le_trans g04.1 (o3.from i hi))⟩
    have hsep : SepN s y3 := os2.sepNew (Nat.le_refl _) o3.from
    obtain ⟨w', Z5, f1, f2, f3, f4, f5, f6⟩ := OwN.pushB (H0 := H1) (e := 26) (ri.from _) (bytes := 24) (Nat.le_trans hg.1 (Nat.le_trans g04.1 (Nat.le_trans gz3.1 gz4.1))) os4 hy4 hsep (by rw [szs_len]; omega) (by rw [szs_len]; omega)
    obtain ⟨p1, p2, _, _⟩ := sl1 (ri.sl hy4.1)
    refine V.line' (by simp +contextual (disch := first|omega|simp only [nx];omega) only [D4,qF,qG,qA,qB,qC,D5,hF,hA,↓reduceIte,qD,qE, f1, p1, p2]; with_reducible rfl) ?_
    (repeat first|apply V.seq|apply V.block|apply V.scope|apply V.skip|apply V.close)
    refine V.line' (by simp +contextual (disch := first|omega|simp only [nx];omega) only [D4,qF,qG,qA,qB,qC,D5,hF,hA,↓reduceIte,qD,qE]; with_reducible rfl) ?_
    refine V.nil (Or.inl ⟨rfl, T.B.length - (k + 1), by omega, ?_⟩)
    refine ⟨k + 1, w', y3, _, _, by omega, rfl, rfl, f3.grow (hg.trans (g04.trans (gz3.trans gz4))) (Nat.le_refl _), ?_, (ri.from _).apart f4 hsep hy4, ?_, (by intro i; simp only [full_st, hF]), (by simp only [Kn, D5,hF,hA,↓reduceIte,qD,qE, and_self, and_true, true_and]; try (repeat' constructor))⟩
    · rw [szs_s]; exact f2
    · rw [least_z, ← er]
      simp only [cn, getD_at lB, getD_nest lD, hp]
  · have ek : k = T.B.length := by omega
    subst ek
    refine V.exit ?_
    (repeat first | refine V.pass ?_ | refine V.here ?_ | refine V.out (by decide) ?_)
    refine V.nil (Or.inr ⟨by simp, ?_⟩)
    (repeat first | refine V.pass ?_ | refine V.here ?_ | refine V.out (by decide) ?_)
    (repeat first|apply V.seq|apply V.block|apply V.scope|apply V.skip|apply V.close)
    refine V.line' (by simp +contextual (disch := first|omega|simp only [nx];omega) only [D4,qF,qG,qA,qB,qC,D5,hF,hA,↓reduceIte,qD,qE]; with_reducible rfl) ?_
    (repeat first|apply V.seq|apply V.block|apply V.scope|apply V.skip|apply V.close)
    refine V.ret (V.rets rfl (Lv.retF (by simp +contextual (disch := first|omega|simp only [nx];omega) only [D1, cells_alloc_at, cells_alloc_ne, cells_set_at, cells_set_ne, yres, yres1, yresL, qA, qB, qC, D5,hF,hA,↓reduceIte,qD,qE]; rfl) ?_))
    refine ⟨g1.trans hg, s, ?_, os.nest.weak (fun _ _ h => h.1)⟩
    rw [decide_eq_decide.2 hp]
end Go.Xe.TFX
