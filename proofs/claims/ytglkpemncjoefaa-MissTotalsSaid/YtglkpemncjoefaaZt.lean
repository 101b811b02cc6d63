/- What the functions of the layer miss come to: the numbers that are left, their least and greatest. Conditions: none. -/
import Derived.Test.YtglkpemncjoefaaTNG
import Derived.Test.YtglkpemncjoefaaTNE
-- MOD TM
namespace Go.Xe.TMX
open Go Go.Xe Go.Proofs Go.Xe.Mth
open Nat renaming reduceLeDiff → qA, reduceSub → qB, reduceAdd → qC, reduceEqDiff → qD, reduceLT → qE
open Int renaming reduceNegSucc → qF, reduceEq → qG
open Go.Xe.V renaming seq → sA, block → sB, scope → sC, skip → sD, close → sE
open Go.Xe renaming pth → P
set_option maxRecDepth 100000
set_option maxHeartbeats 3200000
set_option linter.unusedSimpArgs false
noncomputable def d66 : FCode := (.seq (.run (.go (.box 108 (.tmp (P 0))) (P 1)::
.go (.move (.con (.slice none 0 0))) (P 2)::
[])) (.seq (.draw 9 (.go (.fieldAddr 0 (.tmp (P 1))) (P 3)::
.go (.loadN 5 (.tmp (P 3))) (P 4)::
.go (.call (.con (.func (.func 79) ⟨[]⟩ ⟨[]⟩)) [(.tmp (P 4))]) (P 5)::
.go (.call (.con (.func (.func 75) ⟨[]⟩ ⟨[]⟩)) [(.tmp (P 5))]) (P 6)::
.go (.call (.con (.func (.func 74) ⟨[]⟩ ⟨[]⟩)) [(.tmp (P 6))]) (P 7)::
.go (.loadN 7 (.tmp (P 1))) (P 8)::
.go (.makeFunc 85 [(.tmp (P 8))] []) (P 9)::
.go (.call (.con (.func (.func 84) ⟨[]⟩ ⟨[]⟩)) [(.tmp (P 7)),(.tmp (P 9))]) (P 10)::
.go (.move (.tmp (P 10))) (P 2)::
[]) [.ok,.ok,.ok,.ok,.ok,.rd none (.loadN 7 (.tmp (P 1))) (some (P 8)) [0,3,4],.ok,.ok,.ok]) .ret))
theorem de66 : @compF Try.prog (Gl.none Try.prog) Try.f66 1 = .mk d66 (mkTT 11) [(P 0)] [.tmp (P 2)] := by kernel_rfl
theorem dg66 : Try.prog.funcs[66]? = some Try.f66 := Try.func66
theorem do66 : okF Try.prog Try.f66 = true := by kernel_rfl
noncomputable def d67 : FCode := (.seq (.run (.go (.move (.con (.int .i64 (.ofNat 0)))) (P 2)::
[])) (.seq (.seq (.run (.go (.move (.tmp (P 0))) (P 5)::
.go (.len 0 (.tmp (P 5))) (P 6)::
.go (.bin .lss 3 (.tmp (P 6)) (.con (.int .i64 (.ofNat 1)))) (P 7)::
[])) (.cond (.tmp (P 7)) (.run (.go (.call (.con (.chan none)) []) (P 8)::
.un (.call (.con (.chan none)) [])::
[])) .skip)) (.seq (.run (.go (.move (.tmp (P 0))) (P 9)::
.go (.indexAddr none 1 (.tmp (P 9)) (.con (.int .i64 (.ofNat 0)))) (P 10)::
.go (.load1 (.tmp (P 10))) (P 11)::
.go (.move (.tmp (P 11))) (P 3)::
[])) (.seq (.seq (.run (.go (.move (.con (.int .i64 (.ofNat 1)))) (P 4)::
[])) (.block 0 (.loop (.seq (.seq (.run (.go (.move (.tmp (P 4))) (P 12)::
.go (.move (.tmp (P 0))) (P 13)::
.go (.len 0 (.tmp (P 13))) (P 14)::
.go (.bin .lss 3 (.tmp (P 12)) (.tmp (P 14))) (P 15)::
[])) (.cond (.tmp (P 15)) .skip (.exit 0))) (.seq (.block 1 (.run (.go (.move (.tmp (P 3))) (P 18)::
.go (.move (.tmp (P 0))) (P 19)::
.go (.move (.tmp (P 4))) (P 20)::
.go (.indexAddr none 1 (.tmp (P 19)) (.tmp (P 20))) (P 21)::
.go (.load1 (.tmp (P 21))) (P 22)::
.go (.mm false [(.tmp (P 18)),(.tmp (P 22))]) (P 23)::
.go (.move (.tmp (P 23))) (P 3)::
[]))) (.run (.go (.move (.tmp (P 4))) (P 16)::
.go (.bin .add 3 (.tmp (P 16)) (.con (.int .i64 (.ofNat 1)))) (P 17)::
.go (.move (.tmp (P 17))) (P 4)::
[]))))))) (.seq (.run (.go (.move (.tmp (P 3))) (P 24)::
.go (.move (.tmp (P 24))) (P 2)::
[])) .ret)))))
theorem de67 : @compF Try.prog (Gl.none Try.prog) Try.f67 1 = .mk d67 (mkTT 25) [(P 0)] [.tmp (P 2)] := by kernel_rfl
theorem dg67 : Try.prog.funcs[67]? = some Try.f67 := Try.func67
theorem do67 : okF Try.prog Try.f67 = true := by kernel_rfl
noncomputable def d68 : FCode := (.seq (.run (.go (.move (.con (.int .i64 (.ofNat 0)))) (P 2)::
[])) (.seq (.seq (.run (.go (.move (.tmp (P 0))) (P 5)::
.go (.len 0 (.tmp (P 5))) (P 6)::
.go (.bin .lss 3 (.tmp (P 6)) (.con (.int .i64 (.ofNat 1)))) (P 7)::
[])) (.cond (.tmp (P 7)) (.run (.go (.call (.con (.chan none)) []) (P 8)::
.un (.call (.con (.chan none)) [])::
[])) .skip)) (.seq (.run (.go (.move (.tmp (P 0))) (P 9)::
.go (.indexAddr none 1 (.tmp (P 9)) (.con (.int .i64 (.ofNat 0)))) (P 10)::
.go (.load1 (.tmp (P 10))) (P 11)::
.go (.move (.tmp (P 11))) (P 3)::
[])) (.seq (.seq (.run (.go (.move (.con (.int .i64 (.ofNat 1)))) (P 4)::
[])) (.block 0 (.loop (.seq (.seq (.run (.go (.move (.tmp (P 4))) (P 12)::
.go (.move (.tmp (P 0))) (P 13)::
.go (.len 0 (.tmp (P 13))) (P 14)::
.go (.bin .lss 3 (.tmp (P 12)) (.tmp (P 14))) (P 15)::
[])) (.cond (.tmp (P 15)) .skip (.exit 0))) (.seq (.block 1 (.run (.go (.move (.tmp (P 3))) (P 18)::
.go (.move (.tmp (P 0))) (P 19)::
.go (.move (.tmp (P 4))) (P 20)::
.go (.indexAddr none 1 (.tmp (P 19)) (.tmp (P 20))) (P 21)::
.go (.load1 (.tmp (P 21))) (P 22)::
.go (.mm true [(.tmp (P 18)),(.tmp (P 22))]) (P 23)::
.go (.move (.tmp (P 23))) (P 3)::
[]))) (.run (.go (.move (.tmp (P 4))) (P 16)::
.go (.bin .add 3 (.tmp (P 16)) (.con (.int .i64 (.ofNat 1)))) (P 17)::
.go (.move (.tmp (P 17))) (P 4)::
[]))))))) (.seq (.run (.go (.move (.tmp (P 3))) (P 24)::
.go (.move (.tmp (P 24))) (P 2)::
[])) .ret)))))
theorem de68 : @compF Try.prog (Gl.none Try.prog) Try.f68 1 = .mk d68 (mkTT 25) [(P 0)] [.tmp (P 2)] := by kernel_rfl
theorem dg68 : Try.prog.funcs[68]? = some Try.f68 := Try.func68
theorem do68 : okF Try.prog Try.f68 = true := by kernel_rfl
def leftL (a b c d n q : Nat) : List Int := (nums 0 (b + 1)).filter fun z => !exc a z.toNat c d n q
theorem f66_ok {a b c d n q : Nat} (hab : a + b ≤ 50) (hc : c ≤ a) (hd : d ≤ c) (hnq : n ≤ 1000 ∧ q ≤ 1000) {H : Heap} {i j x : Nat} (hw : Wy H i j x) :
    F Try.prog 66 ⟨[tv a b c d i j n q]⟩ H (fun v H' => GrowX x H H' ∧ Wy H' i j x ∧ Sl H' v ((leftL a b c d n q).map I) ∧ ∃ y k c, v = .slice (some ⟨y, 0, none⟩) k c ∧ H.next ≤ y) := by
  have hi := hw.1.1
  have hj := hw.2.1.1
  obtain ⟨es, hm, _⟩ := hw.2.2.2.2
  have hx := hm.1
  clear hm
  refine F.entryL rfl dg66 do66 de66 rfl (by kernel_rfl) ?_
  simp only[sets]
  refine V.re [(0, tv a b c d i j n q)] (N := 11) (by intro i; simp only[full_st, Full.mk]) (by simp only[Kn, gt_st, full_st, Full.mk, ↓reduceIte, qD, qE, decide_true, and_self]) ?_
  intro t hF hA
  simp only[Kn, and_true] at hA
  (repeat first|apply sA|apply sB|apply sC|apply sD|apply sE)
  refine V.line' (by simp +contextual (disch := first|omega|simp only[nx];omega) only[D4,qF,qG,qA,qB,qC,D5,hF,hA,↓reduceIte,qD,qE]; with_reducible rfl) ?_
  refine V.heap (fun X => Grow H X ∧ Bx X H.next [I a, I b, I c, I d, cw i j, I n, I q] 108) ⟨?_, ?_⟩ ?_
  · (repeat first | assumption | exact Grow.refl _ | refine Grow.alloc ?_ _ | refine Grow.set ?_ (by first|omega|simp only[nx];omega) _)
  · (repeat first | assumption | exact Bx.new _ _ _ | exact Bx.newAt (by first|omega|simp only[nx];omega) | refine Bx.put (by first|omega|simp only[nx];omega) _ _ | refine Bx.alloc ?_ _ | refine Bx.set ?_ (by first|omega|simp only[nx];omega) _)
  rintro H1 ⟨g1, b1⟩
  (repeat first|apply sA|apply sB|apply sC|apply sD|apply sE)
  refine V.draw ?_
  refine VD.dins 2 (by simp +contextual (disch := first|omega|simp only[nx];omega) only[D4,qF,qG,qA,qB,qC,D5,hF,hA,↓reduceIte,qD,qE, b1.2]; with_reducible rfl) ?_
  simp only[ds]
  refine VD.callA (by simp only[D6,D5,hF,hA,↓reduceIte,qD,qE]; try rfl) (f79_ok a b c d (cw i j) _) (by simp only[D6,D5,hF,hA,↓reduceIte,qD,qE]; try rfl) (fun H2 g2 => ?_)
  refine VD.callR (by simp only[D6,D5,hF,hA,↓reduceIte,qD,qE]; try rfl) (f75_ok 0 b _) (by simp only[D6,D5,hF,hA,↓reduceIte,qD,qE]; try rfl) (fun v3 H3 ⟨p, q3, hp, g3, b3⟩ => ?_)
  subst q3
  have eb : ((0 : Nat) : Int) + ((b + 1 : Nat) : Int) - 1 = b := by omega
  have b3' : Bx H3 p (A2 ((0 : Nat) : Int) (((0 : Nat) : Int) + ((b + 1 : Nat) : Int) - 1)) 53 := by rw [eb]; exact b3
  refine VD.callR (by simp only[D6,D5,hF,hA,↓reduceIte,qD,qE]; try rfl) (f74_ok (f89_iter 0 (b + 1) (by omega) b3') (by omega) (Nat.le_refl _) (fun y hy => by subst hy; exact ⟨b3.1, rfl⟩)) (by simp only[D6,D5,hF,hA,↓reduceIte,qD,qE]; try rfl) (fun v4 H4 ⟨g4, o4⟩ => ?_)
  rcases o4 with ⟨_, h0⟩ | ⟨y, hy1, hy2, q4, hyc⟩
  · exact absurd h0 (by simp [nums])
  subst q4
  have nb := b1.1
  have b2 := b1.grow g2
  have b3x := b2.grow g3
  have b4 := b3x.grow g4
  have g24 := (g2.trans g3).trans g4
  have w4 := (hw.grow g1).grow g24
  have n1 := g1.1
  have n24 := g24.1
  have n3 := (g2.trans g3).1
  rw [List.length_map]
  refine VD.dins 2 (by simp +contextual (disch := first|omega|simp only[nx];omega) only[D4,qF,qG,qA,qB,qC,D5,hF,hA,↓reduceIte,qD,qE, b4.2]; with_reducible rfl) ?_
  simp only[ds]
  have hnum : ∀ z ∈ nums 0 (b + 1), ∃ u : Nat, z = u ∧ u ≤ b := by
    intro z hz
    obtain ⟨w, hw, rfl⟩ := List.mem_map.1 hz
    exact ⟨w, by omega, by have := List.mem_range.1 hw; omega⟩
  have hfv : ∀ z ∈ nums 0 (b + 1), ∀ X, Wy X i j x → FV Try.prog (.func (.func 85) ⟨[tv a b c d i j n q]⟩ ⟨[]⟩) [I z] X (fun r X' => r = .bool (exc a z.toNat c d n q) ∧ Wy X' i j x ∧ GrowS (· = x) X X') := by
    intro z hz X hX
    obtain ⟨u, rfl, hu⟩ := hnum z hz
    exact F.mono (f85_ok (b := b) (u := u) (by omega) hc hd hnq hX) (fun r X' h => ⟨h.1, h.2.2, GrowS.x h.2.1 rfl⟩)
  refine VD.callR (by simp only[D6,D5,hF,hA,↓reduceIte,qD,qE]; try rfl) (f84_ok (U := (· = x)) (J := fun X => Wy X i j x) (p := fun z => exc a z.toNat c d n q) (l := nums 0 (b + 1)) (show ¬ (y = x) by omega) (by simp [nums]) (by simp [nums]; omega) ⟨hy2, hyc⟩ (fun X c h hyX => h.growS (U := (· = y)) (GrowS.setAt X y _) (by omega) (by omega) (by omega)) hfv w4) (by simp only[D6,D5,hF,hA,↓reduceIte,qD,qE]; try rfl) (fun v5 H5 ⟨w5, g5, s5, y5, c5, e5⟩ => ?_)
  have b5 := b4.growS g5 (by omega)
  refine VD.lineD' (by simp +contextual (disch := first|omega|simp only[nx];omega) only[D4,qF,qG,qA,qB,qC,D5,hF,hA,↓reduceIte,qD,qE]; with_reducible rfl) ?_ ?_ rfl ?_
  · have m2 := g2.1
    have m3 := g3.1
    have m4 := g4.1
    have m5 := g5.1
    simp only[monoG, List.cons_append, List.nil_append, Heap.next_set, Heap.next_alloc, Nat.le_refl, true_and, and_true] <;> omega
  · simp only[dcAll, dcOk, wantD, List.cons_append, List.nil_append, true_and, and_true]
    exact fun _ q hq => by simp only[List.mem_cons, List.not_mem_nil, or_false] at hq; (repeat (rcases hq with rfl | hq; exact ⟨_, _, _, rfl, (by simp +contextual (disch := first|omega|simp only[nx];omega) only[D4,qF,qG,qA,qB,qC,D5,hF,hA,↓reduceIte,qD,qE, b1.2, b2.2, b3x.2, b4.2, b5.2]; with_reducible rfl), fun p hp => by cases hp; simp only[D5,hF,hA,↓reduceIte,qD,qE]; first | exact vEq_An | (simp [vEq, vEq0, all2]; done) | assumption⟩)); (try (subst hq; exact ⟨_, _, _, rfl, (by simp +contextual (disch := first|omega|simp only[nx];omega) only[D4,qF,qG,qA,qB,qC,D5,hF,hA,↓reduceIte,qD,qE, b1.2, b2.2, b3x.2, b4.2, b5.2]; with_reducible rfl), fun p hp => by cases hp; simp only[D5,hF,hA,↓reduceIte,qD,qE]; first | exact vEq_An | (simp [vEq, vEq0, all2]; done) | assumption⟩))
  (repeat first|apply sA|apply sB|apply sC|apply sD|apply sE)
  refine V.ret (V.rets rfl (Lv.retF (by simp +contextual (disch := first|omega|simp only[nx];omega) only[D1, cells_alloc_at, cells_alloc_ne, cells_set_at, cells_set_ne, yres, yres1, yresL, qA, qB, qC, D5,hF,hA,↓reduceIte,qD,qE]; rfl) ?_))
  refine ⟨⟨by have := g5.1; omega, fun k hk hkx => ?_⟩, w5, s5, y, y5, c5, e5, by omega⟩
  rw [g5.2 k (by omega) (by omega), (g1.trans g24).2 k hk]
def mnk (l : List Int) (k : Nat) : Int := ((l.take k).drop 1).foldl min (l.headD 0)
def mxk (l : List Int) (k : Nat) : Int := ((l.take k).drop 1).foldl max (l.headD 0)
theorem tk_drop {l : List Int} {k : Nat} (h1 : 1 ≤ k) (h : k < l.length) : (l.take (k + 1)).drop 1 = (l.take k).drop 1 ++ [l[k]] := by
  rw [tk h, List.drop_append_of_le_length (by rw [List.length_take]; omega)]
theorem f67_ok {H : Heap} {v : Value} {l : List Int} (hS : Sl H v (l.map I)) (hn : l.length ≤ 1048576) (h0 : 0 < l.length) : Gives Try.prog 67 [v] H (I (mnk l l.length)) := by
  have hlen : ylen 0 H v = some (I l.length) := by rw [hS.len, List.length_map]
  obtain ⟨q0, hq1, hq2⟩ := hS.get (n := 0) (k := 0) (x := I l[0]) (kd := .i64) (by simp [h0]) rfl
  have n1 : ¬ ((l.length : Int) < 1) := by omega
  have e0 : mnk l 1 = l[0] := by
    unfold mnk
    cases l with
    | nil => simp at h0
    | cons x xs => simp
  refine F.entryL rfl dg67 do67 de67 rfl (by kernel_rfl) ?_
  simp only[sets]
  refine V.re [(0, v)] (N := 25) (by intro i; simp only[full_st, Full.mk]) (by simp only[Kn, gt_st, full_st, Full.mk, ↓reduceIte, qD, qE, decide_true, and_self]) ?_
  intro t hF hA
  simp only[Kn, and_true] at hA
  (repeat first|apply sA|apply sB|apply sC|apply sD|apply sE)
  refine V.line' (by simp +contextual (disch := first|omega|simp only[nx];omega) only[D4,qF,qG,qA,qB,qC,D5,hF,hA,↓reduceIte,qD,qE]; with_reducible rfl) ?_
  (repeat first|apply sA|apply sB|apply sC|apply sD|apply sE)
  refine V.line' (by simp +contextual (disch := first|omega|simp only[nx];omega) only[D4,qF,qG,qA,qB,qC,D5,hF,hA,↓reduceIte,qD,qE, hlen, n1]; with_reducible rfl) ?_
  (repeat first|apply sA|apply sB|apply sC|apply sD|apply sE)
  refine V.condF (by simp only[D6,D5,hF,hA,↓reduceIte,qD,qE]) ?_
  (repeat first|apply sA|apply sB|apply sC|apply sD|apply sE)
  refine V.line' (by simp +contextual (disch := first|omega|simp only[nx];omega) only[D4,qF,qG,qA,qB,qC,D5,hF,hA,↓reduceIte,qD,qE, hq1, hq2 _ (Grow.refl _)]; with_reducible rfl) ?_
  (repeat first|apply sA|apply sB|apply sC|apply sD|apply sE)
  refine V.line' (by simp +contextual (disch := first|omega|simp only[nx];omega) only[D4,qF,qG,qA,qB,qC,D5,hF,hA,↓reduceIte,qD,qE]; with_reducible rfl) ?_
  (repeat first|apply sA|apply sB|apply sC|apply sD|apply sE)
  refine V.loop (fun n t m X => ∃ (k : Nat), 1 ≤ k ∧ k ≤ l.length ∧ n = l.length - k ∧ m = [] ∧ X = H ∧ Full 25 t ∧ Kn [(0, v), (3, I (mnk l k)), (4, I k)] t) (l.length - 1) ?_ ?_
  · refine ⟨1, by omega, by omega, rfl, rfl, rfl, ?_⟩
    rw [e0]
    exact ⟨(by intro;simp only[full_st,hF]), (by simp only[Kn, D5,hF,hA,↓reduceIte,qD,qE,and_self,and_true,true_and];try (repeat' constructor))⟩
  clear hF hA
  rintro n t m X ⟨k, hk1, hk, rfl, rfl, rfl, hF, hA⟩
  simp only[Kn, and_true] at hA
  (repeat first|apply sA|apply sB|apply sC|apply sD|apply sE)
  refine V.line' (by simp +contextual (disch := first|omega|simp only[nx];omega) only[D4,qF,qG,qA,qB,qC,D5,hF,hA,↓reduceIte,qD,qE, hlen]; with_reducible rfl) ?_
  (repeat first|apply sA|apply sB|apply sC|apply sD|apply sE)
  refine V.condP (by simp only[D6,D5,hF,hA,↓reduceIte,qD,qE]; rfl) (fun hlt => ?_) (fun hlt => ?_)
  · have hlt' : k < l.length := by omega
    obtain ⟨q, hq3, hq4⟩ := hS.get (n := k) (k := k) (x := I l[k]) (kd := .i64) (by simp [hlt']) rfl
    have em : (if l[k] < mnk l k then l[k] else mnk l k) = mnk l (k + 1) := by
      unfold mnk
      rw [tk_drop hk1 hlt', List.foldl_append]
      simp only[List.foldl_cons, List.foldl_nil]
      omega
    have ek : (k : Int) + 1 = ((k + 1 : Nat) : Int) := rfl
    (repeat first|apply sA|apply sB|apply sC|apply sD|apply sE)
    refine V.line' (by simp +contextual (disch := first|omega|simp only[nx];omega) only[D4,qF,qG,qA,qB,qC,D5,hF,hA,↓reduceIte,qD,qE, hq3, hq4 _ (Grow.refl _), em]; with_reducible rfl) ?_
    (repeat first|apply sA|apply sB|apply sC|apply sD|apply sE)
    refine V.line' (by simp +contextual (disch := first|omega|simp only[nx];omega) only[D4,qF,qG,qA,qB,qC,D5,hF,hA,↓reduceIte,qD,qE, ek]; with_reducible rfl) ?_
    refine V.nil (Or.inl ⟨rfl, l.length - (k + 1), by omega, ?_⟩)
    exact ⟨k + 1, by omega, by omega, rfl, rfl, rfl, (by intro;simp only[full_st,hF]), (by simp only[Kn, D5,hF,hA,↓reduceIte,qD,qE,and_self,and_true,true_and];try (repeat' constructor))⟩
  · obtain rfl : k = l.length := by omega
    refine V.exit ?_
    (repeat first | refine V.pass ?_ | refine V.here ?_ | refine V.out (by decide) ?_)
    refine V.nil (Or.inr ⟨by simp, ?_⟩)
    (repeat first | refine V.pass ?_ | refine V.here ?_ | refine V.out (by decide) ?_)
    (repeat first|apply sA|apply sB|apply sC|apply sD|apply sE)
    refine V.line' (by simp +contextual (disch := first|omega|simp only[nx];omega) only[D4,qF,qG,qA,qB,qC,D5,hF,hA,↓reduceIte,qD,qE]; with_reducible rfl) ?_
    (repeat first|apply sA|apply sB|apply sC|apply sD|apply sE)
    refine V.ret (V.rets rfl (Lv.retG (by simp +contextual (disch := first|omega|simp only[nx];omega) only[D1, cells_alloc_at, cells_alloc_ne, cells_set_at, cells_set_ne, yres, yres1, yresL, qA, qB, qC, D5,hF,hA,↓reduceIte,qD,qE]; rfl) ?_ ?_))
    · exact .refl _
    · rfl
theorem f68_ok {H : Heap} {v : Value} {l : List Int} (hS : Sl H v (l.map I)) (hn : l.length ≤ 1048576) (h0 : 0 < l.length) : Gives Try.prog 68 [v] H (I (mxk l l.length)) := by
  have hlen : ylen 0 H v = some (I l.length) := by rw [hS.len, List.length_map]
  obtain ⟨q0, hq1, hq2⟩ := hS.get (n := 0) (k := 0) (x := I l[0]) (kd := .i64) (by simp [h0]) rfl
  have n1 : ¬ ((l.length : Int) < 1) := by omega
  have e0 : mxk l 1 = l[0] := by
    unfold mxk
    cases l with
    | nil => simp at h0
    | cons x xs => simp
  refine F.entryL rfl dg68 do68 de68 rfl (by kernel_rfl) ?_
  simp only[sets]
  refine V.re [(0, v)] (N := 25) (by intro i; simp only[full_st, Full.mk]) (by simp only[Kn, gt_st, full_st, Full.mk, ↓reduceIte, qD, qE, decide_true, and_self]) ?_
  intro t hF hA
  simp only[Kn, and_true] at hA
  (repeat first|apply sA|apply sB|apply sC|apply sD|apply sE)
  refine V.line' (by simp +contextual (disch := first|omega|simp only[nx];omega) only[D4,qF,qG,qA,qB,qC,D5,hF,hA,↓reduceIte,qD,qE]; with_reducible rfl) ?_
  (repeat first|apply sA|apply sB|apply sC|apply sD|apply sE)
  refine V.line' (by simp +contextual (disch := first|omega|simp only[nx];omega) only[D4,qF,qG,qA,qB,qC,D5,hF,hA,↓reduceIte,qD,qE, hlen, n1]; with_reducible rfl) ?_
  (repeat first|apply sA|apply sB|apply sC|apply sD|apply sE)
  refine V.condF (by simp only[D6,D5,hF,hA,↓reduceIte,qD,qE]) ?_
  (repeat first|apply sA|apply sB|apply sC|apply sD|apply sE)
  refine V.line' (by simp +contextual (disch := first|omega|simp only[nx];omega) only[D4,qF,qG,qA,qB,qC,D5,hF,hA,↓reduceIte,qD,qE, hq1, hq2 _ (Grow.refl _)]; with_reducible rfl) ?_
  (repeat first|apply sA|apply sB|apply sC|apply sD|apply sE)
  refine V.line' (by simp +contextual (disch := first|omega|simp only[nx];omega) only[D4,qF,qG,qA,qB,qC,D5,hF,hA,↓reduceIte,qD,qE]; with_reducible rfl) ?_
  (repeat first|apply sA|apply sB|apply sC|apply sD|apply sE)
  refine V.loop (fun n t m X => ∃ (k : Nat), 1 ≤ k ∧ k ≤ l.length ∧ n = l.length - k ∧ m = [] ∧ X = H ∧ Full 25 t ∧ Kn [(0, v), (3, I (mxk l k)), (4, I k)] t) (l.length - 1) ?_ ?_
  · refine ⟨1, by omega, by omega, rfl, rfl, rfl, ?_⟩
    rw [e0]
    exact ⟨(by intro;simp only[full_st,hF]), (by simp only[Kn, D5,hF,hA,↓reduceIte,qD,qE,and_self,and_true,true_and];try (repeat' constructor))⟩
  clear hF hA
  rintro n t m X ⟨k, hk1, hk, rfl, rfl, rfl, hF, hA⟩
  simp only[Kn, and_true] at hA
  (repeat first|apply sA|apply sB|apply sC|apply sD|apply sE)
  refine V.line' (by simp +contextual (disch := first|omega|simp only[nx];omega) only[D4,qF,qG,qA,qB,qC,D5,hF,hA,↓reduceIte,qD,qE, hlen]; with_reducible rfl) ?_
  (repeat first|apply sA|apply sB|apply sC|apply sD|apply sE)
  refine V.condP (by simp only[D6,D5,hF,hA,↓reduceIte,qD,qE]; rfl) (fun hlt => ?_) (fun hlt => ?_)
  · have hlt' : k < l.length := by omega
    obtain ⟨q, hq3, hq4⟩ := hS.get (n := k) (k := k) (x := I l[k]) (kd := .i64) (by simp [hlt']) rfl
    have em : (if l[k] > mxk l k then l[k] else mxk l k) = mxk l (k + 1) := by
      unfold mxk
      rw [tk_drop hk1 hlt', List.foldl_append]
      simp only[List.foldl_cons, List.foldl_nil]
      omega
    have ek : (k : Int) + 1 = ((k + 1 : Nat) : Int) := rfl
    (repeat first|apply sA|apply sB|apply sC|apply sD|apply sE)
    refine V.line' (by simp +contextual (disch := first|omega|simp only[nx];omega) only[D4,qF,qG,qA,qB,qC,D5,hF,hA,↓reduceIte,qD,qE, hq3, hq4 _ (Grow.refl _), em]; with_reducible rfl) ?_
    (repeat first|apply sA|apply sB|apply sC|apply sD|apply sE)
    refine V.line' (by simp +contextual (disch := first|omega|simp only[nx];omega) only[D4,qF,qG,qA,qB,qC,D5,hF,hA,↓reduceIte,qD,qE, ek]; with_reducible rfl) ?_
    refine V.nil (Or.inl ⟨rfl, l.length - (k + 1), by omega, ?_⟩)
    exact ⟨k + 1, by omega, by omega, rfl, rfl, rfl, (by intro;simp only[full_st,hF]), (by simp only[Kn, D5,hF,hA,↓reduceIte,qD,qE,and_self,and_true,true_and];try (repeat' constructor))⟩
  · obtain rfl : k = l.length := by omega
    refine V.exit ?_
    (repeat first | refine V.pass ?_ | refine V.here ?_ | refine V.out (by decide) ?_)
    refine V.nil (Or.inr ⟨by simp, ?_⟩)
    (repeat first | refine V.pass ?_ | refine V.here ?_ | refine V.out (by decide) ?_)
    (repeat first|apply sA|apply sB|apply sC|apply sD|apply sE)
    refine V.line' (by simp +contextual (disch := first|omega|simp only[nx];omega) only[D4,qF,qG,qA,qB,qC,D5,hF,hA,↓reduceIte,qD,qE]; with_reducible rfl) ?_
    (repeat first|apply sA|apply sB|apply sC|apply sD|apply sE)
    refine V.ret (V.rets rfl (Lv.retG (by simp +contextual (disch := first|omega|simp only[nx];omega) only[D1, cells_alloc_at, cells_alloc_ne, cells_set_at, cells_set_ne, yres, yres1, yresL, qA, qB, qC, D5,hF,hA,↓reduceIte,qD,qE]; rfl) ?_ ?_))
    · exact .refl _
    · rfl
end Go.Xe.TMX
/- Rules of reasoning over the executable reading of the model's code (part Z20): slices whose elements have several cells each. Conditions: none; for every program. -/
namespace Go.Xe
open Go
inductive Sw (w : Nat) (H : Heap) : Value → List (List Value) → Prop
  | nil : Sw w H (.slice none 0 0) []
  | spot (i o s : Nat) : Sw w H (.slice (some ⟨i, o, some s⟩) 0 0) []
  | at {i o n c : Nat} {a : Array Value} {el : TypeId} {rw : Bool} {l : List (List Value)} (hi : i < H.next) (hc : H.cellsAt i = some (a, el, rw)) (hn : n ≤ c) (hl : l.length = n) (hs : o + n * w ≤ a.size) (hv : ∀ k x, l[k]? = some x → a.extract (o + k * w) (o + k * w + w) = ⟨x⟩) : Sw w H (.slice (some ⟨i, o, none⟩) n c) l
theorem Sw.grow {w : Nat} {A B : Heap} (g : Grow A B) {v : Value} {l : List (List Value)} (h : Sw w A v l) : Sw w B v l := by
  cases h with
  | nil => exact .nil
  | spot i o s => exact .spot i o s
  | «at» hi hc hn hl hs hv => exact .at (Nat.lt_of_lt_of_le hi g.1) ((g.cells hi).trans hc) hn hl hs hv
theorem Sw.len {w : Nat} {H : Heap} {v : Value} {l : List (List Value)} (h : Sw w H v l) : ylen 0 H v = some (.int .i64 l.length) := by
  cases h with
  | nil => rfl
  | spot => rfl
  | «at» hi hc hn hl hs hv => simp only [ylen, hl]
theorem Sw.get {w : Nat} {H : Heap} {v : Value} {l : List (List Value)} (h : Sw w H v l) (hw : 0 < w) {n : Int} {k : Nat} {x : List Value} (hx : l[k]? = some x) (hn : n = (k : Int)) {kd : IntKind} : ∃ p, yindexAddr none w v (.int kd n) = some p ∧ ∀ H', Grow H H' → yloadN w H' p = some (.agg ⟨x⟩) := by
  have hk : k < l.length := (List.getElem?_eq_some_iff.1 hx).1
  cases h with
  | nil => cases hx
  | spot => cases hx
  | «at» hi hc hn' hl hs hv =>
    rename_i i o n0 c a el rw
    subst hn
    refine ⟨.pointer (some ⟨i, o + k * w, none⟩), ?_, fun H' g => ?_⟩
    · simp only [yindexAddr]
      rw [if_pos ⟨by omega, by omega⟩]
      simp
    · simp only [yloadN, (g.cells hi).trans hc]
      have h1 : k * w + w ≤ n0 * w := by
        have : (k + 1) * w ≤ n0 * w := Nat.mul_le_mul_right w (by omega)
        rw [Nat.succ_mul] at this; exact this
      rw [if_pos ⟨by omega, by omega⟩, hv k x hx]
theorem Sw.one {w : Nat} {H : Heap} {i : Nat} {c : List Value} {e : TypeId} (h : Bx H i c e) (hc : c.length = w) : Sw w H (.slice (some ⟨i, 0, none⟩) 1 1) [c] := by
  refine .at h.1 h.2 (Nat.le_refl _) rfl (by show 0 + 1 * w ≤ c.length; omega) ?_
  intro k x hx
  cases k with
  | zero =>
    simp only [List.getElem?_cons_zero, Option.some.injEq] at hx
    subst hx
    subst hc
    apply Array.ext'
    simp
  | succ k => simp at hx
end Go.Xe
