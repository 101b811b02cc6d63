/- What the functions of the layer miss come to: the numbers that are left, of several areas. Conditions: none. -/
import Derived.Test.YtglkpemncjoefaaZt
-- MOD TM
namespace Go.Xe.TMX
open Go Go.Xe Go.Proofs Go.Xe.Mth
open Nat renaming reduceLeDiff → qA, reduceSub → qB, reduceAdd → qC, reduceEqDiff → qD, reduceLT → qE
open Int renaming reduceNegSucc → qF, reduceEq → qG
open Go.Xe.V renaming seq → sA, block → sB, scope → sC, skip → sD, close → sE
open Go.Xe renaming pth → P
set_option maxRecDepth 100000
set_option maxHeartbeats 3200000
set_option linter.unusedSimpArgs false
noncomputable def d64 : FCode := (.seq (.run (.go (.move (.con (.bool false))) (P 4)::
[])) (.seq (.seq (.run (.go (.move (.tmp (P 0))) (P 7)::
.go (.len 0 (.tmp (P 7))) (P 8)::
.go (.move (.con (.int .i64 (.ofNat 0)))) (P 9)::
[])) (.block 0 (.loop (.seq (.run (.go (.bin .lss 3 (.tmp (P 9)) (.tmp (P 8))) (P 10)::
[])) (.seq (.cond (.tmp (P 10)) .skip (.exit 0)) (.seq (.block 1 (.seq (.run (.go (.indexAddr none 4 (.tmp (P 7)) (.tmp (P 9))) (P 11)::
.go (.loadN 4 (.tmp (P 11))) (P 12)::
.go (.alloc 28 [(.int .i64 (.ofNat 0)),(.int .i64 (.ofNat 0)),(.int .i64 (.ofNat 0)),(.int .i64 (.ofNat 0))]) (P 6)::
.un (.store 4 (.tmp (P 6)) (.tmp (P 12)))::
[])) (.seq (.run (.go (.move (.tmp (P 1))) (P 13)::
.go (.loadN 4 (.tmp (P 6))) (P 14)::
.go (.call (.tmp (P 13)) [(.tmp (P 14))]) (P 15)::
.go (.un .not (.tmp (P 15))) (P 16)::
[])) (.cond (.tmp (P 16)) (.seq (.run (.go (.move (.con (.bool false))) (P 4)::
[])) .ret) .skip)))) (.run (.go (.bin .add 3 (.tmp (P 9)) (.con (.int .i64 (.ofNat 1)))) (P 17)::
.go (.move (.tmp (P 17))) (P 9)::
[])))))))) (.seq (.run (.go (.move (.con (.bool true))) (P 4)::
[])) .ret)))
theorem de64 : @compF Try.prog (Gl.none Try.prog) Try.f64 2 = .mk d64 (mkTT 18) [(P 0),(P 1)] [.tmp (P 4)] := by kernel_rfl
theorem dg64 : Try.prog.funcs[64]? = some Try.f64 := Try.func64
theorem do64 : okF Try.prog Try.f64 = true := by kernel_rfl
noncomputable def d34 : FCode := (.seq (.run (.go (.box 36 (.tmp (P 1))) (P 3)::
.go (.alloc 53 [(.int .i64 (.ofNat 0)),(.int .i64 (.ofNat 0))]) (P 4)::
.go (.move (.con (.int .i64 (.ofNat 0)))) (P 5)::
[])) (.seq (.block 0 (.seq (.run (.go (.move (.tmp (P 0))) (P 12)::
.go (.len 0 (.tmp (P 12))) (P 13)::
.go (.bin .gtr 3 (.tmp (P 13)) (.con (.int .i64 (.ofNat 6)))) (P 14)::
.go (.move (.tmp (P 14))) (P 11)::
[])) (.cond (.tmp (P 11)) (.seq (.run (.go (.build [(.int .i64 (.ofNat 0)),(.int .i64 (.ofNat 0))] []) (P 15)::
.un (.store 2 (.tmp (P 4)) (.tmp (P 15)))::
.go (.move (.con (.int .i64 (.ofNat 3)))) (P 5)::
[])) .ret) (.seq (.run (.go (.move (.tmp (P 0))) (P 17)::
.go (.call (.con (.func (.func 64) ⟨[]⟩ ⟨[]⟩)) [(.tmp (P 17)),(.con (.func (.func 54) ⟨[]⟩ ⟨[]⟩))]) (P 18)::
.go (.un .not (.tmp (P 18))) (P 19)::
.go (.move (.tmp (P 19))) (P 16)::
[])) (.cond (.tmp (P 16)) (.seq (.run (.go (.build [(.int .i64 (.ofNat 0)),(.int .i64 (.ofNat 0))] []) (P 20)::
.un (.store 2 (.tmp (P 4)) (.tmp (P 20)))::
.go (.move (.con (.int .i64 (.ofNat 1)))) (P 5)::
[])) .ret) (.seq (.run (.go (.loadN 2 (.tmp (P 3))) (P 22)::
.go (.call (.con (.func (.func 65) ⟨[]⟩ ⟨[]⟩)) [(.tmp (P 22))]) (P 23)::
.go (.un .not (.tmp (P 23))) (P 24)::
.go (.move (.tmp (P 24))) (P 21)::
[])) (.cond (.tmp (P 21)) (.seq (.run (.go (.build [(.int .i64 (.ofNat 0)),(.int .i64 (.ofNat 0))] []) (P 25)::
.un (.store 2 (.tmp (P 4)) (.tmp (P 25)))::
.go (.move (.con (.int .i64 (.ofNat 2)))) (P 5)::
[])) .ret) .skip))))))) (.seq (.run (.go (.call (.con (.func (.func 53) ⟨[]⟩ ⟨[]⟩)) []) (P 26)::
.go (.move (.tmp (P 26))) (P 6)::
[])) (.seq (.run (.go (.alloc 53 [(.int .i64 (.ofNat 0)),(.int .i64 (.ofNat 0))]) (P 7)::
[])) (.seq (.seq (.run (.go (.move (.tmp (P 0))) (P 27)::
.go (.len 0 (.tmp (P 27))) (P 28)::
.go (.move (.con (.int .i64 (.ofNat 0)))) (P 29)::
[])) (.block 1 (.loop (.seq (.run (.go (.bin .lss 3 (.tmp (P 29)) (.tmp (P 28))) (P 30)::
[])) (.seq (.cond (.tmp (P 30)) .skip (.exit 1)) (.seq (.block 2 (.seq (.run (.go (.indexAddr none 4 (.tmp (P 27)) (.tmp (P 29))) (P 31)::
.go (.loadN 4 (.tmp (P 31))) (P 32)::
.go (.alloc 28 [(.int .i64 (.ofNat 0)),(.int .i64 (.ofNat 0)),(.int .i64 (.ofNat 0)),(.int .i64 (.ofNat 0))]) (P 9)::
.un (.store 4 (.tmp (P 9)) (.tmp (P 32)))::
[])) (.seq (.run (.go (.loadN 4 (.tmp (P 9))) (P 33)::
.go (.move (.tmp (P 6))) (P 34)::
.go (.build [(.int .i64 (.ofNat 0)),(.int .i64 (.ofNat 0)),(.int .i64 (.ofNat 0)),(.int .i64 (.ofNat 0)),.nilFunc] [(0,4,(.tmp (P 33))),(4,1,(.tmp (P 34)))]) (P 35)::
.go (.loadN 2 (.tmp (P 3))) (P 36)::
.go (.build [(.int .i64 (.ofNat 0)),(.int .i64 (.ofNat 0)),(.int .i64 (.ofNat 0)),(.int .i64 (.ofNat 0)),.nilFunc,(.int .i64 (.ofNat 0)),(.int .i64 (.ofNat 0))] [(0,5,(.tmp (P 35))),(5,2,(.tmp (P 36)))]) (P 37)::
.go (.call (.con (.func (.func 66) ⟨[]⟩ ⟨[]⟩)) [(.tmp (P 37))]) (P 38)::
.go (.move (.tmp (P 38))) (P 10)::
[])) (.seq (.seq (.run (.go (.move (.tmp (P 10))) (P 39)::
.go (.len 0 (.tmp (P 39))) (P 40)::
.go (.bin .eql 3 (.tmp (P 40)) (.con (.int .i64 (.ofNat 0)))) (P 41)::
[])) (.cond (.tmp (P 41)) (.seq (.run (.go (.build [(.int .i64 (.ofNat 0)),(.int .i64 (.ofNat 0))] []) (P 42)::
.un (.store 2 (.tmp (P 4)) (.tmp (P 42)))::
.go (.move (.con (.int .i64 (.ofNat 9)))) (P 5)::
[])) .ret) .skip)) (.seq (.draw 7 (.go (.fieldAddr 0 (.tmp (P 7))) (P 43)::
.go (.load1 (.tmp (P 43))) (P 44)::
.go (.move (.tmp (P 10))) (P 45)::
.go (.call (.con (.func (.func 67) ⟨[]⟩ ⟨[]⟩)) [(.tmp (P 45))]) (P 46)::
.go (.bin .add 3 (.tmp (P 44)) (.tmp (P 46))) (P 47)::
.go (.fieldAddr 0 (.tmp (P 7))) (P 48)::
.un (.store 1 (.tmp (P 48)) (.tmp (P 47)))::
[]) [.ok,.rd none (.load1 (.tmp (P 43))) (some (P 44)) [4],.ok,.ok,.ok,.ok,.ok]) (.draw 7 (.go (.fieldAddr 1 (.tmp (P 7))) (P 49)::
.go (.load1 (.tmp (P 49))) (P 50)::
.go (.move (.tmp (P 10))) (P 51)::
.go (.call (.con (.func (.func 68) ⟨[]⟩ ⟨[]⟩)) [(.tmp (P 51))]) (P 52)::
.go (.bin .add 3 (.tmp (P 50)) (.tmp (P 52))) (P 53)::
.go (.fieldAddr 1 (.tmp (P 7))) (P 54)::
.un (.store 1 (.tmp (P 54)) (.tmp (P 53)))::
[]) [.ok,.rd none (.load1 (.tmp (P 49))) (some (P 50)) [4],.ok,.ok,.ok,.ok,.ok])))))) (.run (.go (.bin .add 3 (.tmp (P 29)) (.con (.int .i64 (.ofNat 1)))) (P 55)::
.go (.move (.tmp (P 55))) (P 29)::
[])))))))) (.seq (.run (.go (.loadN 2 (.tmp (P 7))) (P 56)::
.un (.store 2 (.tmp (P 4)) (.tmp (P 56)))::
.go (.move (.con (.int .i64 (.ofNat 0)))) (P 5)::
[])) .ret))))))
theorem de34 : @compF Try.prog (Gl.none Try.prog) Try.f34 2 = .mk d34 (mkTT 57) [(P 0),(P 1)] [.many (P 4) 2,.tmp (P 5)] := by kernel_rfl
theorem dg34 : Try.prog.funcs[34]? = some Try.f34 := Try.func34
theorem do34 : okF Try.prog Try.f34 = true := by kernel_rfl
noncomputable def d39 : FCode := (.seq (.run (.go (.box 28 (.tmp (P 0))) (P 2)::
.go (.box 36 (.tmp (P 1))) (P 3)::
.go (.alloc 53 [(.int .i64 (.ofNat 0)),(.int .i64 (.ofNat 0))]) (P 4)::
.go (.move (.con (.int .i64 (.ofNat 0)))) (P 5)::
[])) (.seq (.run (.go (.loadN 4 (.tmp (P 2))) (P 6)::
.go (.buildSlice 28 1 [(.int .i64 (.ofNat 0)),(.int .i64 (.ofNat 0)),(.int .i64 (.ofNat 0)),(.int .i64 (.ofNat 0))] [(0,4,(.tmp (P 6)))]) (P 7)::
.go (.loadN 2 (.tmp (P 3))) (P 8)::
.go (.call (.con (.func (.func 34) ⟨[]⟩ ⟨[]⟩)) [(.tmp (P 7)),(.tmp (P 8))]) (P 9)::
.go (.extract (.tmp (P 9)) 0) (P 10)::
.go (.extract (.tmp (P 9)) 1) (P 11)::
.un (.store 2 (.tmp (P 4)) (.tmp (P 10)))::
.go (.move (.tmp (P 11))) (P 5)::
[])) .ret))
theorem de39 : @compF Try.prog (Gl.none Try.prog) Try.f39 2 = .mk d39 (mkTT 12) [(P 0),(P 1)] [.many (P 4) 2,.tmp (P 5)] := by kernel_rfl
theorem dg39 : Try.prog.funcs[39]? = some Try.f39 := Try.func39
theorem do39 : okF Try.prog Try.f39 = true := by kernel_rfl
abbrev Q4 : Type := Int × Int × Int × Int
def q4 (r : Q4) : List Value := A4 r.1 r.2.1 r.2.2.1 r.2.2.2
def arq (r : Q4) : Prop := ar r.1 r.2.1 r.2.2.1 r.2.2.2
instance (r : Q4) : Decidable (arq r) := by unfold arq; infer_instance
def mn (l : List Int) : Int := mnk l l.length
def mx (l : List Int) : Int := mxk l l.length
theorem fmin_le : ∀ (l : List Int) (x : Int), l.foldl min x ≤ x ∧ ∀ y ∈ l, l.foldl min x ≤ y
  | [], x => ⟨Int.le_refl _, by simp⟩
  | z :: l, x => by
    have h := fmin_le l (min x z)
    simp only[List.foldl_cons]
    refine ⟨by omega, fun y hy => ?_⟩
    rcases List.mem_cons.1 hy with rfl | hy
    · omega
    · exact h.2 y hy
theorem fmax_ge : ∀ (l : List Int) (x : Int), x ≤ l.foldl max x ∧ ∀ y ∈ l, y ≤ l.foldl max x
  | [], x => ⟨Int.le_refl _, by simp⟩
  | z :: l, x => by
    have h := fmax_ge l (max x z)
    simp only[List.foldl_cons]
    refine ⟨by omega, fun y hy => ?_⟩
    rcases List.mem_cons.1 hy with rfl | hy
    · omega
    · exact h.2 y hy
theorem fmin_mem : ∀ (l : List Int) (x : Int), l.foldl min x ∈ x :: l
  | [], x => by simp
  | z :: l, x => by
    have h := fmin_mem l (min x z)
    simp only[List.foldl_cons]
    rcases List.mem_cons.1 h with h | h
    · rw [h]; rcases Int.le_total x z with k | k
      · rw [Int.min_eq_left k]; simp
      · rw [Int.min_eq_right k]; simp
    · simp [h]
theorem fmax_mem : ∀ (l : List Int) (x : Int), l.foldl max x ∈ x :: l
  | [], x => by simp
  | z :: l, x => by
    have h := fmax_mem l (max x z)
    simp only[List.foldl_cons]
    rcases List.mem_cons.1 h with h | h
    · rw [h]; rcases Int.le_total x z with k | k
      · rw [Int.max_eq_right k]; simp
      · rw [Int.max_eq_left k]; simp
    · simp [h]
theorem mn_cons (x : Int) (l : List Int) : mn (x :: l) = l.foldl min x := by simp [mn, mnk]
theorem mx_cons (x : Int) (l : List Int) : mx (x :: l) = l.foldl max x := by simp [mx, mxk]
theorem mn_mem {l : List Int} (h : l ≠ []) : mn l ∈ l := by
  cases l with
  | nil => exact absurd rfl h
  | cons x l => rw [mn_cons]; exact fmin_mem l x
theorem mx_mem {l : List Int} (h : l ≠ []) : mx l ∈ l := by
  cases l with
  | nil => exact absurd rfl h
  | cons x l => rw [mx_cons]; exact fmax_mem l x
theorem mn_le {l : List Int} {y : Int} (h : y ∈ l) : mn l ≤ y := by
  cases l with
  | nil => simp at h
  | cons x l =>
    rw [mn_cons]
    rcases List.mem_cons.1 h with rfl | h
    · exact (fmin_le l _).1
    · exact (fmin_le l x).2 y h
theorem mx_ge {l : List Int} {y : Int} (h : y ∈ l) : y ≤ mx l := by
  cases l with
  | nil => simp at h
  | cons x l =>
    rw [mx_cons]
    rcases List.mem_cons.1 h with rfl | h
    · exact (fmax_ge l _).1
    · exact (fmax_ge l x).2 y h
theorem leftL_mem {a b c d n q : Nat} {z : Int} : z ∈ leftL a b c d n q ↔ ∃ u : Nat, z = u ∧ u ≤ b ∧ exc a u c d n q = false := by
  unfold leftL nums
  simp only[List.mem_filter, List.mem_map, List.mem_range]
  constructor
  · rintro ⟨⟨u, h1, rfl⟩, h2⟩
    refine ⟨u, by omega, by omega, ?_⟩
    have e : ((0 + u : Nat) : Int).toNat = u := by omega
    rw [e] at h2
    simpa using h2
  · rintro ⟨u, rfl, h1, h2⟩
    refine ⟨⟨u, by omega, by omega⟩, ?_⟩
    simp [h2]
theorem leftL_len (a b c d n q : Nat) : (leftL a b c d n q).length ≤ b + 1 := by
  have := List.length_filter_le (fun z : Int => !exc a z.toNat c d n q) (nums 0 (b + 1))
  have e : (nums 0 (b + 1)).length = b + 1 := by simp [nums]
  unfold leftL
  omega
def lfq (n q : Int) (r : Q4) : List Int := leftL r.1.toNat r.2.1.toNat r.2.2.1.toNat r.2.2.2.toNat n.toNat q.toNat
def tot (L : List Q4) (n q : Int) : Int × Int × Int :=
  if 6 < L.length then (0, 0, 3) else if ¬ (∀ r ∈ L, arq r) then (0, 0, 1) else if ¬ lv n q then (0, 0, 2)
  else if ∃ r ∈ L, lfq n q r = [] then (0, 0, 9) else ((L.map fun r => mn (lfq n q r)).sum, (L.map fun r => mx (lfq n q r)).sum, 0)
theorem sum_tk {f : Q4 → Int} {L : List Q4} {k : Nat} (h : k < L.length) : ((L.take (k + 1)).map f).sum = ((L.take k).map f).sum + f L[k] := by
  rw [tk h, List.map_append, List.sum_append]; simp only[List.map_cons, List.map_nil, List.sum_cons, List.sum_nil, Int.add_zero]
theorem Sw.lenA {w : Nat} {H : Heap} {v : Value} {l : List (List Value)} (h : Sw w H v l) (X : Heap) : ylen 0 X v = some (.int .i64 l.length) := by
  cases h with
  | nil => rfl
  | spot => rfl
  | «at» hi hc hn hl hs hv => simp only[ylen, hl]
theorem Sl.growS {U : Nat → Prop} {A B : Heap} {y k c : Nat} {v : Value} {l : List Value} (h : Sl A v l) (e : v = .slice (some ⟨y, 0, none⟩) k c) (g : GrowS U A B) (hu : ¬ U y) : Sl B v l := by
  cases h with
  | nil => cases e
  | spot i o s => cases e
  | «at» hi hc hn hl hs hv =>
    cases e
    exact .at (Nat.lt_of_lt_of_le hi g.1) ((g.cells hi hu).trans hc) hn hl hs hv
theorem f64_ok {H : Heap} {v : Value} {L : List Q4} (hS : Sw 4 H v (L.map q4)) (hn : L.length ≤ 1048576) : Gives Try.prog 64 [v, .func (.func 54) ⟨[]⟩ ⟨[]⟩] H (.bool (decide (∀ r ∈ L, arq r))) := by
  have hlen : ylen 0 H v = some (I L.length) := by rw [hS.len, List.length_map]
  refine F.entryL rfl dg64 do64 de64 rfl (by kernel_rfl) ?_
  simp only[sets]
  refine V.re [(0, v), (1, .func (.func 54) ⟨[]⟩ ⟨[]⟩)] (N := 18) (by intro i; simp only[full_st, Full.mk]) (by simp only[Kn, gt_st, full_st, Full.mk, ↓reduceIte, qD, qE, decide_true, and_self]) ?_
  intro t hF hA
  simp only[Kn, and_true] at hA
  (repeat first|apply sA|apply sB|apply sC|apply sD|apply sE)
  refine V.line' (by simp +contextual (disch := first|omega|simp only[nx];omega) only[D4,qF,qG,qA,qB,qC,D5,hF,hA,↓reduceIte,qD,qE]; with_reducible rfl) ?_
  (repeat first|apply sA|apply sB|apply sC|apply sD|apply sE)
  refine V.line' (by simp +contextual (disch := first|omega|simp only[nx];omega) only[D4,qF,qG,qA,qB,qC,D5,hF,hA,↓reduceIte,qD,qE, hlen]; with_reducible rfl) ?_
  (repeat first|apply sA|apply sB|apply sC|apply sD|apply sE)
  refine V.loop (fun n t m X => ∃ (k : Nat), k ≤ L.length ∧ n = L.length - k ∧ (∀ r ∈ L.take k, arq r) ∧ m = [] ∧ Grow H X ∧ Full 18 t ∧ Kn [(1, .func (.func 54) ⟨[]⟩ ⟨[]⟩), (7, v), (8, I L.length), (9, I k)] t) L.length ?_ ?_
  · exact ⟨0, by omega, by omega, by simp, rfl, .refl _, (by intro;simp only[full_st,hF]), (by simp only[Kn, D5,hF,hA,↓reduceIte,qD,qE,and_self,and_true,true_and];try (repeat' constructor))⟩
  clear hF hA
  rintro n t m X ⟨k, hk, rfl, hall, rfl, hg, hF, hA⟩
  simp only[Kn, and_true] at hA
  (repeat first|apply sA|apply sB|apply sC|apply sD|apply sE)
  refine V.line' (by simp +contextual (disch := first|omega|simp only[nx];omega) only[D4,qF,qG,qA,qB,qC,D5,hF,hA,↓reduceIte,qD,qE]; with_reducible rfl) ?_
  (repeat first|apply sA|apply sB|apply sC|apply sD|apply sE)
  refine V.condP (by simp only[D6,D5,hF,hA,↓reduceIte,qD,qE]; rfl) (fun hlt => ?_) (fun hlt => ?_)
  · have hlt' : k < L.length := by omega
    obtain ⟨q, hq1, hq2⟩ := hS.get (w := 4) (by decide) (n := k) (k := k) (x := q4 L[k]) (kd := .i64) (by simp [hlt']) rfl
    have hq3 := hq2 _ hg
    obtain ⟨a, b, c, d, hr⟩ : ∃ a b c d, L[k] = (a, b, c, d) := ⟨_, _, _, _, rfl⟩
    rw [hr] at hq3
    have e0 : q4 (a, b, c, d) = A4 a b c d := rfl
    rw [e0] at hq3
    (repeat first|apply sA|apply sB|apply sC|apply sD|apply sE)
    refine V.line' (by simp +contextual (disch := first|omega|simp only[nx];omega) only[D4,qF,qG,qA,qB,qC,D5,hF,hA,↓reduceIte,qD,qE, hq1, hq3]; with_reducible rfl) ?_
    refine V.heap (fun Y => Grow X Y ∧ Bx Y X.next (A4 a b c d) 28) ⟨?_, ?_⟩ ?_
    · (repeat first | assumption | exact Grow.refl _ | refine Grow.alloc ?_ _ | refine Grow.set ?_ (by first|omega|simp only[nx];omega) _)
    · (repeat first | assumption | exact Bx.new _ _ _ | exact Bx.newAt (by first|omega|simp only[nx];omega) | refine Bx.put (by first|omega|simp only[nx];omega) _ _ | refine Bx.alloc ?_ _ | refine Bx.set ?_ (by first|omega|simp only[nx];omega) _)
    rintro X1 ⟨g1, b1⟩
    (repeat first|apply sA|apply sB|apply sC|apply sD|apply sE)
    refine V.run ?_
    refine VI.steps' 2 (by simp +contextual (disch := first|omega|simp only[nx];omega) only[D4,qF,qG,qA,qB,qC,D5,hF,hA,↓reduceIte,qD,qE, b1.2]; with_reducible rfl) ?_
    simp only[ds]
    refine VI.callA (by simp only[D6,D5,hF,hA,↓reduceIte,qD,qE]; rfl) (f54_ok a b c d X1) (by simp only[List.map_cons, List.map_nil, D6,D5,hF,hA,↓reduceIte,qD,qE]) (fun X2 hg2 => ?_)
    refine VI.line' (by simp +contextual (disch := first|omega|simp only[nx];omega) only[D4,qF,qG,qA,qB,qC,D5,hF,hA,↓reduceIte,qD,qE]; with_reducible rfl) ?_
    (repeat first|apply sA|apply sB|apply sC|apply sD|apply sE)
    refine V.condP (by simp only[D6,D5,hF,hA,↓reduceIte,qD,qE]; rfl) (fun h => ?_) (fun h => ?_)
    · (repeat first|apply sA|apply sB|apply sC|apply sD|apply sE)
      refine V.line' (by simp +contextual (disch := first|omega|simp only[nx];omega) only[D4,qF,qG,qA,qB,qC,D5,hF,hA,↓reduceIte,qD,qE]; with_reducible rfl) ?_
      (repeat first|apply sA|apply sB|apply sC|apply sD|apply sE)
      refine V.ret (V.rets rfl (Or.inr ⟨by simp, V.rets rfl (Lv.retG (by simp +contextual (disch := first|omega|simp only[nx];omega) only[D1, cells_alloc_at, cells_alloc_ne, cells_set_at, cells_set_ne, yres, yres1, yresL, qA, qB, qC, D5,hF,hA,↓reduceIte,qD,qE]; rfl) ?_ ?_)⟩))
      · exact (hg.trans g1).trans hg2
      · congr 1
        exact (decide_eq_false (fun hx => h (by have := hx L[k] (List.getElem_mem hlt'); rw [hr] at this; exact this))).symm
    · (repeat first|apply sA|apply sB|apply sC|apply sD|apply sE)
      refine V.line' (by simp +contextual (disch := first|omega|simp only[nx];omega) only[D4,qF,qG,qA,qB,qC,D5,hF,hA,↓reduceIte,qD,qE]; with_reducible rfl) ?_
      refine V.nil (Or.inl ⟨rfl, L.length - (k + 1), by omega, ?_⟩)
      refine ⟨k + 1, by omega, rfl, ?_, rfl, (hg.trans g1).trans hg2, (by intro;simp only[full_st,hF]), (by simp only[Kn, D5,hF,hA,↓reduceIte,qD,qE,and_self,and_true,true_and];try (repeat' constructor))⟩
      intro r hrr
      rw [tk hlt'] at hrr
      rcases List.mem_append.1 hrr with hrr | hrr
      · exact hall r hrr
      · rw [List.mem_singleton.1 hrr, hr]; exact Decidable.not_not.1 h
  · refine V.exit ?_
    (repeat first | refine V.pass ?_ | refine V.here ?_ | refine V.out (by decide) ?_)
    refine V.nil (Or.inr ⟨by simp, ?_⟩)
    (repeat first | refine V.pass ?_ | refine V.here ?_ | refine V.out (by decide) ?_)
    (repeat first|apply sA|apply sB|apply sC|apply sD|apply sE)
    refine V.line' (by simp +contextual (disch := first|omega|simp only[nx];omega) only[D4,qF,qG,qA,qB,qC,D5,hF,hA,↓reduceIte,qD,qE]; with_reducible rfl) ?_
    (repeat first|apply sA|apply sB|apply sC|apply sD|apply sE)
    refine V.ret (V.rets rfl (Lv.retG (by simp +contextual (disch := first|omega|simp only[nx];omega) only[D1, cells_alloc_at, cells_alloc_ne, cells_set_at, cells_set_ne, yres, yres1, yresL, qA, qB, qC, D5,hF,hA,↓reduceIte,qD,qE]; rfl) ?_ ?_))
    · exact hg
    · have e : L.take k = L := List.take_of_length_le (by omega)
      rw [e] at hall
      rw [decide_eq_true hall]
theorem f34_ok {H : Heap} {v : Value} {L : List Q4} {n q : Int} (hS : Sw 4 H v (L.map q4)) (hn : L.length ≤ 1048576) : Gives Try.prog 34 [v, .agg ⟨A2 n q⟩] H (.tuple ⟨[.agg ⟨A2 (tot L n q).1 (tot L n q).2.1⟩, I (tot L n q).2.2]⟩) := by
  have hlen : ∀ X, ylen 0 X v = some (I L.length) := fun X => by rw [Sw.lenA hS X, List.length_map]
  refine F.entryL rfl dg34 do34 de34 rfl (by kernel_rfl) ?_
  simp only[sets]
  refine V.re [(0, v), (1, .agg ⟨A2 n q⟩)] (N := 57) (by intro i; simp only[full_st, Full.mk]) (by simp only[Kn, gt_st, full_st, Full.mk, ↓reduceIte, qD, qE, decide_true, and_self]) ?_
  intro t hF hA
  simp only[Kn, and_true] at hA
  (repeat first|apply sA|apply sB|apply sC|apply sD|apply sE)
  refine V.line' (by simp +contextual (disch := first|omega|simp only[nx];omega) only[D4,qF,qG,qA,qB,qC,D5,hF,hA,↓reduceIte,qD,qE]; with_reducible rfl) ?_
  refine V.heap (fun X => Grow H X ∧ Bx X H.next (A2 n q) 36 ∧ Bx X (H.next + 1) (A2 0 0) 53) ⟨?_, ?_, ?_⟩ ?_
  · (repeat first | assumption | exact Grow.refl _ | refine Grow.alloc ?_ _ | refine Grow.set ?_ (by first|omega|simp only[nx];omega) _)
  · (repeat first | assumption | exact Bx.new _ _ _ | exact Bx.newAt (by first|omega|simp only[nx];omega) | refine Bx.put (by first|omega|simp only[nx];omega) _ _ | refine Bx.alloc ?_ _ | refine Bx.set ?_ (by first|omega|simp only[nx];omega) _)
  · (repeat first | assumption | exact Bx.new _ _ _ | exact Bx.newAt (by first|omega|simp only[nx];omega) | refine Bx.put (by first|omega|simp only[nx];omega) _ _ | refine Bx.alloc ?_ _ | refine Bx.set ?_ (by first|omega|simp only[nx];omega) _)
  rintro H1 ⟨g1, b1, c1⟩
  have nc1 := c1.1
  (repeat first|apply sA|apply sB|apply sC|apply sD|apply sE)
  refine V.line' (by simp +contextual (disch := first|omega|simp only[nx];omega) only[D4,qF,qG,qA,qB,qC,D5,hF,hA,↓reduceIte,qD,qE, hlen]; with_reducible rfl) ?_
  (repeat first|apply sA|apply sB|apply sC|apply sD|apply sE)
  refine V.condP (by simp only[D6,D5,hF,hA,↓reduceIte,qD,qE]; rfl) (fun h1 => ?_) (fun h1 => ?_)
  · have ht : tot L n q = (0, 0, 3) := by unfold tot; rw [if_pos (by omega)]
    (repeat first|apply sA|apply sB|apply sC|apply sD|apply sE)
    refine V.line' (by simp +contextual (disch := first|omega|simp only[nx];omega) only[D4,qF,qG,qA,qB,qC,D5,hF,hA,↓reduceIte,qD,qE, c1.2]; with_reducible rfl) ?_
    (repeat first|apply sA|apply sB|apply sC|apply sD|apply sE)
    refine V.ret (V.rets rfl (Lv.retG (by simp +contextual (disch := first|omega|simp only[nx];omega) only[D1, cells_alloc_at, cells_alloc_ne, cells_set_at, cells_set_ne, yres, yres1, yresL, qA, qB, qC, D5,hF,hA,↓reduceIte,qD,qE, cells_set]; rfl) ?_ ?_))
    · (repeat first | assumption | exact Grow.refl _ | refine Grow.alloc ?_ _ | refine Grow.set ?_ (by first|omega|simp only[nx];omega) _)
    · rw [ht]
  have h1' : ¬ 6 < L.length := by omega
  (repeat first|apply sA|apply sB|apply sC|apply sD|apply sE)
  refine V.run ?_
  refine VI.steps' 1 (by simp +contextual (disch := first|omega|simp only[nx];omega) only[D4,qF,qG,qA,qB,qC,D5,hF,hA,↓reduceIte,qD,qE]; with_reducible rfl) ?_
  simp only[ds]
  refine VI.callA rfl (f64_ok (hS.grow g1) hn) (by simp only[D6,D5,hF,hA,↓reduceIte,qD,qE]; try rfl) (fun H2 g2 => ?_)
  have b2 := b1.grow g2
  have c2 := c1.grow g2
  have nc2 := c2.1
  refine VI.line' (by simp +contextual (disch := first|omega|simp only[nx];omega) only[D4,qF,qG,qA,qB,qC,D5,hF,hA,↓reduceIte,qD,qE]; with_reducible rfl) ?_
  (repeat first|apply sA|apply sB|apply sC|apply sD|apply sE)
  refine V.condP (by simp only[D6,D5,hF,hA,↓reduceIte,qD,qE]; rfl) (fun h2 => ?_) (fun h2 => ?_)
  · have ht : tot L n q = (0, 0, 1) := by unfold tot; rw [if_neg h1', if_pos h2]
    (repeat first|apply sA|apply sB|apply sC|apply sD|apply sE)
    refine V.line' (by simp +contextual (disch := first|omega|simp only[nx];omega) only[D4,qF,qG,qA,qB,qC,D5,hF,hA,↓reduceIte,qD,qE, c2.2]; with_reducible rfl) ?_
    (repeat first|apply sA|apply sB|apply sC|apply sD|apply sE)
    refine V.ret (V.rets rfl (Lv.retG (by simp +contextual (disch := first|omega|simp only[nx];omega) only[D1, cells_alloc_at, cells_alloc_ne, cells_set_at, cells_set_ne, yres, yres1, yresL, qA, qB, qC, D5,hF,hA,↓reduceIte,qD,qE, cells_set]; rfl) ?_ ?_))
    · have gg := g1.trans g2
      (repeat first | assumption | exact Grow.refl _ | refine Grow.alloc ?_ _ | refine Grow.set ?_ (by first|omega|simp only[nx];omega) _)
    · rw [ht]
  (repeat first|apply sA|apply sB|apply sC|apply sD|apply sE)
  refine V.run ?_
  refine VI.steps' 1 (by simp +contextual (disch := first|omega|simp only[nx];omega) only[D4,qF,qG,qA,qB,qC,D5,hF,hA,↓reduceIte,qD,qE, b2.2]; with_reducible rfl) ?_
  simp only[ds]
  refine VI.callA rfl (f65_ok n q _) (by simp only[D6,D5,hF,hA,↓reduceIte,qD,qE]; try rfl) (fun H3 g3 => ?_)
  have b3 := b2.grow g3
  have c3 := c2.grow g3
  have nc3 := c3.1
  refine VI.line' (by simp +contextual (disch := first|omega|simp only[nx];omega) only[D4,qF,qG,qA,qB,qC,D5,hF,hA,↓reduceIte,qD,qE]; with_reducible rfl) ?_
  (repeat first|apply sA|apply sB|apply sC|apply sD|apply sE)
  refine V.condP (by simp only[D6,D5,hF,hA,↓reduceIte,qD,qE]; rfl) (fun h3 => ?_) (fun h3 => ?_)
  · have ht : tot L n q = (0, 0, 2) := by unfold tot; rw [if_neg h1', if_neg (by simpa using h2), if_pos h3]
    (repeat first|apply sA|apply sB|apply sC|apply sD|apply sE)
    refine V.line' (by simp +contextual (disch := first|omega|simp only[nx];omega) only[D4,qF,qG,qA,qB,qC,D5,hF,hA,↓reduceIte,qD,qE, c3.2]; with_reducible rfl) ?_
    (repeat first|apply sA|apply sB|apply sC|apply sD|apply sE)
    refine V.ret (V.rets rfl (Lv.retG (by simp +contextual (disch := first|omega|simp only[nx];omega) only[D1, cells_alloc_at, cells_alloc_ne, cells_set_at, cells_set_ne, yres, yres1, yresL, qA, qB, qC, D5,hF,hA,↓reduceIte,qD,qE, cells_set]; rfl) ?_ ?_))
    · have gg := (g1.trans g2).trans g3
      (repeat first | assumption | exact Grow.refl _ | refine Grow.alloc ?_ _ | refine Grow.set ?_ (by first|omega|simp only[nx];omega) _)
    · rw [ht]
  have h2' : ∀ r ∈ L, arq r := Decidable.not_not.1 h2
  have h3' : lv n q := Decidable.not_not.1 h3
  obtain ⟨n, q, rfl, rfl, hn1, hq1⟩ : ∃ n' q' : Nat, n = n' ∧ q = q' ∧ n' ≤ 1000 ∧ q' ≤ 1000 := by
    obtain ⟨⟨k1, k2⟩, k3, k4⟩ := h3'
    exact ⟨n.toNat, q.toNat, by omega, by omega, by omega, by omega⟩
  have htot : tot L n q = if ∃ r ∈ L, lfq n q r = [] then (0, 0, 9) else ((L.map fun r => mn (lfq n q r)).sum, (L.map fun r => mx (lfq n q r)).sum, 0) := by unfold tot; rw [if_neg h1', if_neg (by simpa using h2), if_neg h3]
  clear h2 h3
  (repeat first|apply sA|apply sB|apply sC|apply sD|apply sE)
  refine V.run ?_
  refine VI.callR (by simp only[D6,D5,hF,hA,↓reduceIte,qD,qE]; try rfl) (f53_ok _) (by simp only[D6,D5,hF,hA,↓reduceIte,qD,qE]; try rfl) (fun v4 H4 ⟨i, j, x, hv4, hi, hj, hx, g4, w4⟩ => ?_)
  subst hv4
  have b4 := b3.grow g4
  have c4 := c3.grow g4
  have nc4 := c4.1
  have hxH : x < H4.next := by
    obtain ⟨es, hm, _⟩ := w4.2.2.2.2
    exact hm.1
  have hiH := w4.1.1
  have hjH := w4.2.1.1
  refine VI.line' (by simp +contextual (disch := first|omega|simp only[nx];omega) only[D4,qF,qG,qA,qB,qC,D5,hF,hA,↓reduceIte,qD,qE]; with_reducible rfl) ?_
  (repeat first|apply sA|apply sB|apply sC|apply sD|apply sE)
  refine V.line' (by simp +contextual (disch := first|omega|simp only[nx];omega) only[D4,qF,qG,qA,qB,qC,D5,hF,hA,↓reduceIte,qD,qE]; with_reducible rfl) ?_
  refine V.heap (fun X => Grow H4 X ∧ Bx X H4.next (A2 0 0) 53) ⟨?_, ?_⟩ ?_
  · (repeat first | assumption | exact Grow.refl _ | refine Grow.alloc ?_ _ | refine Grow.set ?_ (by first|omega|simp only[nx];omega) _)
  · (repeat first | assumption | exact Bx.new _ _ _ | exact Bx.newAt (by first|omega|simp only[nx];omega) | refine Bx.put (by first|omega|simp only[nx];omega) _ _ | refine Bx.alloc ?_ _ | refine Bx.set ?_ (by first|omega|simp only[nx];omega) _)
  rintro H5 ⟨g5, d5⟩
  have b5 := b4.grow g5
  have c5 := c4.grow g5
  have w5 := w4.grow g5
  have g05 : Grow H H5 := (((g1.trans g2).trans g3).trans g4).trans g5
  (repeat first|apply sA|apply sB|apply sC|apply sD|apply sE)
  refine V.line' (by simp +contextual (disch := first|omega|simp only[nx];omega) only[D4,qF,qG,qA,qB,qC,D5,hF,hA,↓reduceIte,qD,qE, hlen]; with_reducible rfl) ?_
  (repeat first|apply sA|apply sB|apply sC|apply sD|apply sE)
  refine V.loop (fun r t m X => ∃ (k : Nat) (lo hi : Int), k ≤ L.length ∧ r = L.length - k ∧ (∀ z ∈ L.take k, lfq n q z ≠ []) ∧ lo = ((L.take k).map fun r => mn (lfq n q r)).sum ∧ hi = ((L.take k).map fun r => mx (lfq n q r)).sum ∧ (0 ≤ lo ∧ lo ≤ 50 * k) ∧ (0 ≤ hi ∧ hi ≤ 50 * k) ∧ m = [] ∧ Grow H X ∧ Bx X H.next (A2 n q) 36 ∧ Bx X (H.next + 1) (A2 0 0) 53 ∧ Bx X H4.next (A2 lo hi) 53 ∧ Wy X i j x ∧ Full 57 t ∧ Kn [(3, PT H.next), (4, PT (H.next + 1)), (6, cw i j), (7, PT H4.next), (27, v), (28, I L.length), (29, I k)] t) L.length ?_ ?_
  · exact ⟨0, 0, 0, by omega, by omega, by simp, by simp, by simp, by omega, by omega, rfl, g05, b5, c5, d5, w5, (by intro;simp only[full_st,hF]), (by simp only[Kn, D5,hF,hA,↓reduceIte,qD,qE,and_self,and_true,true_and];try (repeat' constructor))⟩
  clear hF hA
  rintro r t m X ⟨k, lo, hi', hk, rfl, hall, elo, ehi, blo, bhi, rfl, hg, bX, cX, dX, wX, hF, hA⟩
  simp only[Kn, and_true] at hA
  (repeat first|apply sA|apply sB|apply sC|apply sD|apply sE)
  refine V.line' (by simp +contextual (disch := first|omega|simp only[nx];omega) only[D4,qF,qG,qA,qB,qC,D5,hF,hA,↓reduceIte,qD,qE]; with_reducible rfl) ?_
  (repeat first|apply sA|apply sB|apply sC|apply sD|apply sE)
  refine V.condP (by simp only[D6,D5,hF,hA,↓reduceIte,qD,qE]; rfl) (fun hlt => ?_) (fun hlt => ?_)
  · have hlt' : k < L.length := by omega
    obtain ⟨p, hp1, hp2⟩ := hS.get (w := 4) (by decide) (n := k) (k := k) (x := q4 L[k]) (kd := .i64) (by simp [hlt']) rfl
    have hp3 := hp2 _ hg
    have hal := h2' L[k] (List.getElem_mem hlt')
    have slo := sum_tk (f := fun r => mn (lfq n q r)) hlt'
    have shi := sum_tk (f := fun r => mx (lfq n q r)) hlt'
    have htk := tk hlt'
    have hmem := List.getElem_mem hlt'
    generalize L[k] = z at *
    obtain ⟨a, b, c, d⟩ := z
    obtain ⟨a, b, c, d, ea, eb, ec, ed, k1, k3, k4⟩ := ar_nat hal
    subst ea eb ec ed
    have e0 : q4 ((a : Int), (b : Int), (c : Int), (d : Int)) = A4 a b c d := rfl
    rw [e0] at hp3
    have e1 : lfq n q ((a : Int), (b : Int), (c : Int), (d : Int)) = leftL a b c d n q := by unfold lfq; simp only[Int.toNat_natCast]
    simp only[e1] at slo shi
    (repeat first|apply sA|apply sB|apply sC|apply sD|apply sE)
    refine V.line' (by simp +contextual (disch := first|omega|simp only[nx];omega) only[D4,qF,qG,qA,qB,qC,D5,hF,hA,↓reduceIte,qD,qE, hp1, hp3]; with_reducible rfl) ?_
    refine V.heap (fun Y => Grow X Y ∧ Bx Y X.next (A4 a b c d) 28) ⟨?_, ?_⟩ ?_
    · (repeat first | assumption | exact Grow.refl _ | refine Grow.alloc ?_ _ | refine Grow.set ?_ (by first|omega|simp only[nx];omega) _)
    · (repeat first | assumption | exact Bx.new _ _ _ | exact Bx.newAt (by first|omega|simp only[nx];omega) | refine Bx.put (by first|omega|simp only[nx];omega) _ _ | refine Bx.alloc ?_ _ | refine Bx.set ?_ (by first|omega|simp only[nx];omega) _)
    rintro X1 ⟨gx1, q1⟩
    have bX1 := bX.grow gx1
    have cX1 := cX.grow gx1
    have dX1 := dX.grow gx1
    have wX1 := wX.grow gx1
    (repeat first|apply sA|apply sB|apply sC|apply sD|apply sE)
    refine V.run ?_
    refine VI.steps' 5 (by simp +contextual (disch := first|omega|simp only[nx];omega) only[D4,qF,qG,qA,qB,qC,D5,hF,hA,↓reduceIte,qD,qE, q1.2, bX1.2]; with_reducible rfl) ?_
    simp only[ds]
    refine VI.callR (by simp only[D6,D5,hF,hA,↓reduceIte,qD,qE]; try rfl) (f66_ok (a := a) (b := b) (c := c) (d := d) (n := n) (q := q) k1 k3 k4 ⟨hn1, hq1⟩ wX1) (by simp only[D6,D5,hF,hA,↓reduceIte,qD,qE]; try rfl) (fun v2 X2 ⟨gx2, wX2, s2, y2, k2, z2, e2, hy2⟩ => ?_)
    have bX2 := bX1.growX gx2 (by omega)
    have cX2 := cX1.growX gx2 (by omega)
    have dX2 := dX1.growX gx2 (by omega)
    have gg2 : Grow H X2 := GrowX.grow gx2 (hg.trans gx1) (by omega)
    have hl2 : ylen 0 X2 v2 = some (I (leftL a b c d n q).length) := by rw [s2.len, List.length_map]
    have hll := leftL_len a b c d n q
    refine VI.line' (by simp +contextual (disch := first|omega|simp only[nx];omega) only[D4,qF,qG,qA,qB,qC,D5,hF,hA,↓reduceIte,qD,qE]; with_reducible rfl) ?_
    (repeat first|apply sA|apply sB|apply sC|apply sD|apply sE)
    refine V.line' (by simp +contextual (disch := first|omega|simp only[nx];omega) only[D4,qF,qG,qA,qB,qC,D5,hF,hA,↓reduceIte,qD,qE, hl2]; with_reducible rfl) ?_
    (repeat first|apply sA|apply sB|apply sC|apply sD|apply sE)
    refine V.condP (by simp only[D6,D5,hF,hA,↓reduceIte,qD,qE]; rfl) (fun h0 => ?_) (fun h0 => ?_)
    · have hemp : leftL a b c d n q = [] := List.eq_nil_of_length_eq_zero (by omega)
      have ht : tot L n q = (0, 0, 9) := by rw [htot, if_pos ⟨_, hmem, by rw [e1]; exact hemp⟩]
      have ncX := cX2.1
      (repeat first|apply sA|apply sB|apply sC|apply sD|apply sE)
      refine V.line' (by simp +contextual (disch := first|omega|simp only[nx];omega) only[D4,qF,qG,qA,qB,qC,D5,hF,hA,↓reduceIte,qD,qE, cX2.2]; with_reducible rfl) ?_
      (repeat first|apply sA|apply sB|apply sC|apply sD|apply sE)
      refine V.ret (V.rets rfl (Or.inr ⟨by simp, V.rets rfl (Lv.retG (by simp +contextual (disch := first|omega|simp only[nx];omega) only[D1, cells_alloc_at, cells_alloc_ne, cells_set_at, cells_set_ne, yres, yres1, yresL, qA, qB, qC, D5,hF,hA,↓reduceIte,qD,qE, cells_set]; rfl) ?_ ?_)⟩))
      · (repeat first | assumption | exact Grow.refl _ | refine Grow.alloc ?_ _ | refine Grow.set ?_ (by first|omega|simp only[nx];omega) _)
      · rw [ht]
    · have hne : leftL a b c d n q ≠ [] := fun h => h0 (by rw [h]; rfl)
      have hpos : 0 < (leftL a b c d n q).length := by omega
      obtain ⟨um, hum1, hum2, _⟩ := leftL_mem.1 (mn_mem hne)
      obtain ⟨ux, hux1, hux2, _⟩ := leftL_mem.1 (mx_mem hne)
      have emn : mnk (leftL a b c d n q) (leftL a b c d n q).length = mn (leftL a b c d n q) := rfl
      have emx : mxk (leftL a b c d n q) (leftL a b c d n q).length = mx (leftL a b c d n q) := rfl
      generalize hm1 : mn (leftL a b c d n q) = m1 at *
      generalize hm2 : mx (leftL a b c d n q) = m2 at *
      (repeat first|apply sA|apply sB|apply sC|apply sD|apply sE)
      refine V.draw ?_
      refine VD.dins 3 (by simp +contextual (disch := first|omega|simp only[nx];omega) only[D4,qF,qG,qA,qB,qC,D5,hF,hA,↓reduceIte,qD,qE, dX2.2]; with_reducible rfl) ?_
      simp only[ds]
      have f67 := f67_ok s2 (by omega) hpos
      rw [emn] at f67
      refine VD.callA (by simp only[D6,D5,hF,hA,↓reduceIte,qD,qE]; try rfl) (f67) (by simp only[D6,D5,hF,hA,↓reduceIte,qD,qE]; try rfl) (fun X3 gx3 => ?_)
      have dX3 := dX2.grow gx3
      refine VD.lineD' (by simp +contextual (disch := first|omega|simp only[nx];omega) only[D4,qF,qG,qA,qB,qC,D5,hF,hA,↓reduceIte,qD,qE, dX3.2]; with_reducible rfl) ?_ ?_ rfl ?_
      · have := gx3.1
        simp only[monoG, List.cons_append, List.nil_append, Heap.next_set, Heap.next_alloc, Nat.le_refl, true_and, and_true] <;> omega
      · simp only[dcAll, dcOk, wantD, List.cons_append, List.nil_append, true_and, and_true]
        exact fun _ q hq => by simp only[List.mem_cons, List.not_mem_nil, or_false] at hq; (repeat (rcases hq with rfl | hq; exact ⟨_, _, _, rfl, (by simp +contextual (disch := first|omega|simp only[nx];omega) only[D4,qF,qG,qA,qB,qC,D5,hF,hA,↓reduceIte,qD,qE, dX2.2, dX3.2]; with_reducible rfl), fun p hp => by cases hp; simp only[D5,hF,hA,↓reduceIte,qD,qE]; first | exact vEq_An | (simp [vEq, vEq0, all2]; done) | assumption⟩)); (try (subst hq; exact ⟨_, _, _, rfl, (by simp +contextual (disch := first|omega|simp only[nx];omega) only[D4,qF,qG,qA,qB,qC,D5,hF,hA,↓reduceIte,qD,qE, dX2.2, dX3.2]; with_reducible rfl), fun p hp => by cases hp; simp only[D5,hF,hA,↓reduceIte,qD,qE]; first | exact vEq_An | (simp [vEq, vEq0, all2]; done) | assumption⟩))
      refine V.heap (fun Y => GrowS (· = H4.next) X3 Y ∧ Bx Y H4.next (A2 (lo + m1) hi') 53) ⟨GrowS.setAt _ _ _, ?_⟩ ?_
      · have := dX3.1
        (repeat first | assumption | exact Bx.new _ _ _ | exact Bx.newAt (by first|omega|simp only[nx];omega) | refine Bx.put (by first|omega|simp only[nx];omega) _ _ | refine Bx.alloc ?_ _ | refine Bx.set ?_ (by first|omega|simp only[nx];omega) _)
      rintro X4 ⟨gx4, dX4⟩
      have bX4 := (bX2.grow gx3).growS gx4 (by omega)
      have cX4 := (cX2.grow gx3).growS gx4 (by omega)
      have wX4 := (wX2.grow gx3).growS gx4 (by omega) (by omega) (by omega)
      have hyn := dX1.1
      have s4 : Sl X4 v2 _ := Sl.growS (s2.grow gx3) e2 gx4 (by omega)
      have gg4 : Grow H X4 := GrowS.grow gx4 (gg2.trans gx3) (by intro k hk; omega)
      (repeat first|apply sA|apply sB|apply sC|apply sD|apply sE)
      refine V.draw ?_
      refine VD.dins 3 (by simp +contextual (disch := first|omega|simp only[nx];omega) only[D4,qF,qG,qA,qB,qC,D5,hF,hA,↓reduceIte,qD,qE, dX4.2]; with_reducible rfl) ?_
      simp only[ds]
      have f68 := f68_ok s4 (by omega) hpos
      rw [emx] at f68
      refine VD.callA (by simp only[D6,D5,hF,hA,↓reduceIte,qD,qE]; try rfl) (f68) (by simp only[D6,D5,hF,hA,↓reduceIte,qD,qE]; try rfl) (fun X5 gx5 => ?_)
      have dX5 := dX4.grow gx5
      refine VD.lineD' (by simp +contextual (disch := first|omega|simp only[nx];omega) only[D4,qF,qG,qA,qB,qC,D5,hF,hA,↓reduceIte,qD,qE, dX5.2]; with_reducible rfl) ?_ ?_ rfl ?_
      · have := gx5.1
        simp only[monoG, List.cons_append, List.nil_append, Heap.next_set, Heap.next_alloc, Nat.le_refl, true_and, and_true] <;> omega
      · simp only[dcAll, dcOk, wantD, List.cons_append, List.nil_append, true_and, and_true]
        exact fun _ q hq => by simp only[List.mem_cons, List.not_mem_nil, or_false] at hq; (repeat (rcases hq with rfl | hq; exact ⟨_, _, _, rfl, (by simp +contextual (disch := first|omega|simp only[nx];omega) only[D4,qF,qG,qA,qB,qC,D5,hF,hA,↓reduceIte,qD,qE, dX4.2, dX5.2]; with_reducible rfl), fun p hp => by cases hp; simp only[D5,hF,hA,↓reduceIte,qD,qE]; first | exact vEq_An | (simp [vEq, vEq0, all2]; done) | assumption⟩)); (try (subst hq; exact ⟨_, _, _, rfl, (by simp +contextual (disch := first|omega|simp only[nx];omega) only[D4,qF,qG,qA,qB,qC,D5,hF,hA,↓reduceIte,qD,qE, dX4.2, dX5.2]; with_reducible rfl), fun p hp => by cases hp; simp only[D5,hF,hA,↓reduceIte,qD,qE]; first | exact vEq_An | (simp [vEq, vEq0, all2]; done) | assumption⟩))
      refine V.heap (fun Y => GrowS (· = H4.next) X5 Y ∧ Bx Y H4.next (A2 (lo + m1) (hi' + m2)) 53) ⟨GrowS.setAt _ _ _, ?_⟩ ?_
      · have := dX5.1
        (repeat first | assumption | exact Bx.new _ _ _ | exact Bx.newAt (by first|omega|simp only[nx];omega) | refine Bx.put (by first|omega|simp only[nx];omega) _ _ | refine Bx.alloc ?_ _ | refine Bx.set ?_ (by first|omega|simp only[nx];omega) _)
      rintro X6 ⟨gx6, dX6⟩
      have bX6 := (bX4.grow gx5).growS gx6 (by omega)
      have cX6 := (cX4.grow gx5).growS gx6 (by omega)
      have wX6 := (wX4.grow gx5).growS gx6 (by omega) (by omega) (by omega)
      have gg6 : Grow H X6 := GrowS.grow gx6 (gg4.trans gx5) (by intro k hk; omega)
      (repeat first|apply sA|apply sB|apply sC|apply sD|apply sE)
      refine V.line' (by simp +contextual (disch := first|omega|simp only[nx];omega) only[D4,qF,qG,qA,qB,qC,D5,hF,hA,↓reduceIte,qD,qE]; with_reducible rfl) ?_
      refine V.nil (Or.inl ⟨rfl, L.length - (k + 1), by omega, ?_⟩)
      refine ⟨k + 1, lo + m1, hi' + m2, by omega, rfl, ?_, by rw [slo, elo], by rw [shi, ehi], by omega, by omega, rfl, gg6, bX6, cX6, dX6, wX6, (by intro;simp only[full_st,hF]), (by simp only[Kn, D5,hF,hA,↓reduceIte,qD,qE,and_self,and_true,true_and];try (repeat' constructor))⟩
      intro r hr
      rw [htk] at hr
      rcases List.mem_append.1 hr with hr | hr
      · exact hall r hr
      · rw [List.mem_singleton.1 hr, e1]; exact hne
  · obtain rfl : k = L.length := by omega
    have e : L.take L.length = L := List.take_of_length_le (Nat.le_refl _)
    rw [e] at hall elo ehi
    have ht : tot L n q = (lo, hi', 0) := by rw [htot, if_neg (by rintro ⟨r, h1, h2⟩; exact hall r h1 h2), ← elo, ← ehi]
    have ncX := cX.1
    refine V.exit ?_
    (repeat first | refine V.pass ?_ | refine V.here ?_ | refine V.out (by decide) ?_)
    refine V.nil (Or.inr ⟨by simp, ?_⟩)
    (repeat first | refine V.pass ?_ | refine V.here ?_ | refine V.out (by decide) ?_)
    (repeat first|apply sA|apply sB|apply sC|apply sD|apply sE)
    refine V.line' (by simp +contextual (disch := first|omega|simp only[nx];omega) only[D4,qF,qG,qA,qB,qC,D5,hF,hA,↓reduceIte,qD,qE, cX.2, dX.2]; with_reducible rfl) ?_
    (repeat first|apply sA|apply sB|apply sC|apply sD|apply sE)
    refine V.ret (V.rets rfl (Lv.retG (by simp +contextual (disch := first|omega|simp only[nx];omega) only[D1, cells_alloc_at, cells_alloc_ne, cells_set_at, cells_set_ne, yres, yres1, yresL, qA, qB, qC, D5,hF,hA,↓reduceIte,qD,qE, cells_set]; rfl) ?_ ?_))
    · (repeat first | assumption | exact Grow.refl _ | refine Grow.alloc ?_ _ | refine Grow.set ?_ (by first|omega|simp only[nx];omega) _)
    · rw [ht]
theorem f39_ok (a b c d n q : Int) (H : Heap) : Gives Try.prog 39 [.agg ⟨A4 a b c d⟩, .agg ⟨A2 n q⟩] H (.tuple ⟨[.agg ⟨A2 (tot [(a, b, c, d)] n q).1 (tot [(a, b, c, d)] n q).2.1⟩, I (tot [(a, b, c, d)] n q).2.2]⟩) := by
  refine F.entryL rfl dg39 do39 de39 rfl (by kernel_rfl) ?_
  simp only[sets]
  refine V.re [(0, .agg ⟨A4 a b c d⟩), (1, .agg ⟨A2 n q⟩)] (N := 12) (by intro i; simp only[full_st, Full.mk]) (by simp only[Kn, gt_st, full_st, Full.mk, ↓reduceIte, qD, qE, decide_true, and_self]) ?_
  intro t hF hA
  simp only[Kn, and_true] at hA
  (repeat first|apply sA|apply sB|apply sC|apply sD|apply sE)
  refine V.line' (by simp +contextual (disch := first|omega|simp only[nx];omega) only[D4,qF,qG,qA,qB,qC,D5,hF,hA,↓reduceIte,qD,qE]; with_reducible rfl) ?_
  refine V.heap (fun X => Grow H X ∧ Bx X H.next (A4 a b c d) 28 ∧ Bx X (H.next + 1) (A2 n q) 36 ∧ Bx X (H.next + 2) (A2 0 0) 53) ⟨?_, ?_, ?_, ?_⟩ ?_
  · (repeat first | assumption | exact Grow.refl _ | refine Grow.alloc ?_ _ | refine Grow.set ?_ (by first|omega|simp only[nx];omega) _)
  · (repeat first | assumption | exact Bx.new _ _ _ | exact Bx.newAt (by first|omega|simp only[nx];omega) | refine Bx.put (by first|omega|simp only[nx];omega) _ _ | refine Bx.alloc ?_ _ | refine Bx.set ?_ (by first|omega|simp only[nx];omega) _)
  · (repeat first | assumption | exact Bx.new _ _ _ | exact Bx.newAt (by first|omega|simp only[nx];omega) | refine Bx.put (by first|omega|simp only[nx];omega) _ _ | refine Bx.alloc ?_ _ | refine Bx.set ?_ (by first|omega|simp only[nx];omega) _)
  · (repeat first | assumption | exact Bx.new _ _ _ | exact Bx.newAt (by first|omega|simp only[nx];omega) | refine Bx.put (by first|omega|simp only[nx];omega) _ _ | refine Bx.alloc ?_ _ | refine Bx.set ?_ (by first|omega|simp only[nx];omega) _)
  rintro H1 ⟨g1, b1, c1, d1⟩
  have nd1 := d1.1
  (repeat first|apply sA|apply sB|apply sC|apply sD|apply sE)
  refine V.run ?_
  refine VI.steps' 3 (by simp +contextual (disch := first|omega|simp only[nx];omega) only[D4,qF,qG,qA,qB,qC,D5,hF,hA,↓reduceIte,qD,qE, b1.2, c1.2]; with_reducible rfl) ?_
  simp only[ds]
  have gn := (Grow.refl H1).alloc (.cells ⟨A4 a b c d⟩ 28 true)
  refine VI.callA rfl (f34_ok (L := [(a, b, c, d)]) (n := n) (q := q) (Sw.one (Bx.new _ (A4 a b c d) 28) rfl) (by simp)) (by simp only[D6,D5,hF,hA,↓reduceIte,qD,qE]; try rfl) (fun H2 g2 => ?_)
  have d2 := (d1.grow gn).grow g2
  have nd2 := d2.1
  refine VI.line' (by simp +contextual (disch := first|omega|simp only[nx];omega) only[D4,qF,qG,qA,qB,qC,D5,hF,hA,↓reduceIte,qD,qE, d2.2]; with_reducible rfl) ?_
  (repeat first|apply sA|apply sB|apply sC|apply sD|apply sE)
  refine V.ret (V.rets rfl (Lv.retG (by simp +contextual (disch := first|omega|simp only[nx];omega) only[D1, cells_alloc_at, cells_alloc_ne, cells_set_at, cells_set_ne, yres, yres1, yresL, qA, qB, qC, D5,hF,hA,↓reduceIte,qD,qE, cells_set]; rfl) ?_ ?_))
  · have gg := (g1.trans gn).trans g2
    (repeat first | assumption | exact Grow.refl _ | refine Grow.alloc ?_ _ | refine Grow.set ?_ (by first|omega|simp only[nx];omega) _)
  · rfl
end Go.Xe.TMX
