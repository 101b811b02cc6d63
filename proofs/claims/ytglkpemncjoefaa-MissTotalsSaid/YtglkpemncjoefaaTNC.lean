/- What the functions of the layer miss come to: what a level excludes. Conditions: none. -/
import Derived.Test.YtglkpemncjoefaaTNB
-- MOD TM
namespace Go.Xe.TMX
open Go Go.Xe Go.Proofs Go.Xe.Mth
open Nat renaming reduceLeDiff → qA, reduceSub → qB, reduceAdd → qC, reduceEqDiff → qD, reduceLT → qE
open Int renaming reduceNegSucc → qF, reduceEq → qG
open Go.Xe.V renaming seq → sA, block → sB, scope → sC, skip → sD, close → sE
open Go.Xe renaming pth → P
set_option maxRecDepth 100000
set_option maxHeartbeats 3200000
set_option linter.unusedSimpArgs false
noncomputable def d94 : FCode := (.seq (.run (.go (.move (.con (.int .i64 (.ofNat 0)))) (P 2)::
[])) (.seq (.run (.go (.move (.con (.int .i64 (.ofNat 0)))) (P 3)::
[])) (.seq (.seq (.run (.go (.move (.tmp (P 0))) (P 6)::
.go (.len 0 (.tmp (P 6))) (P 7)::
.go (.move (.con (.int .i64 (.ofNat 0)))) (P 8)::
[])) (.block 0 (.loop (.seq (.run (.go (.bin .lss 3 (.tmp (P 8)) (.tmp (P 7))) (P 9)::
[])) (.seq (.cond (.tmp (P 9)) .skip (.exit 0)) (.seq (.block 1 (.seq (.run (.go (.indexAddr none 1 (.tmp (P 6)) (.tmp (P 8))) (P 10)::
.go (.load1 (.tmp (P 10))) (P 11)::
.go (.move (.tmp (P 11))) (P 5)::
[])) (.seq (.run (.go (.move (.tmp (P 5))) (P 12)::
.go (.move (.tmp (P 3))) (P 13)::
.go (.bin .neq 3 (.tmp (P 12)) (.tmp (P 13))) (P 14)::
[])) (.cond (.tmp (P 14)) (.seq (.run (.go (.move (.tmp (P 5))) (P 15)::
.go (.move (.tmp (P 15))) (P 2)::
[])) .ret) .skip)))) (.run (.go (.bin .add 3 (.tmp (P 8)) (.con (.int .i64 (.ofNat 1)))) (P 16)::
.go (.move (.tmp (P 16))) (P 8)::
[])))))))) (.seq (.run (.go (.move (.tmp (P 3))) (P 17)::
.go (.move (.tmp (P 17))) (P 2)::
[])) .ret))))
theorem de94 : @compF Try.prog (Gl.none Try.prog) Try.f94 1 = .mk d94 (mkTT 18) [(P 0)] [.tmp (P 2)] := by kernel_rfl
theorem dg94 : Try.prog.funcs[94]? = some Try.f94 := Try.func94
theorem do94 : okF Try.prog Try.f94 = true := by kernel_rfl
noncomputable def d83 : FCode := (.seq (.run (.go (.box 36 (.tmp (P 0))) (P 2)::
.go (.box 36 (.tmp (P 1))) (P 3)::
.go (.move (.con (.int .i64 (.ofNat 0)))) (P 4)::
[])) (.seq (.run (.go (.fieldAddr 0 (.tmp (P 2))) (P 10)::
.go (.load1 (.tmp (P 10))) (P 11)::
.go (.conv .u64 (.tmp (P 11))) (P 12)::
.go (.fieldAddr 1 (.tmp (P 3))) (P 13)::
.go (.load1 (.tmp (P 13))) (P 14)::
.go (.conv .u64 (.tmp (P 14))) (P 15)::
.go (.call (.con (.func (.func 93) ⟨[]⟩ ⟨[]⟩)) [(.tmp (P 12)),(.tmp (P 15))]) (P 16)::
.go (.move (.tmp (P 16))) (P 9)::
.go (.extract (.tmp (P 9)) 0) (P 17)::
.go (.extract (.tmp (P 9)) 1) (P 18)::
.go (.move (.tmp (P 17))) (P 5)::
.go (.move (.tmp (P 18))) (P 6)::
[])) (.seq (.run (.go (.fieldAddr 0 (.tmp (P 3))) (P 20)::
.go (.load1 (.tmp (P 20))) (P 21)::
.go (.conv .u64 (.tmp (P 21))) (P 22)::
.go (.fieldAddr 1 (.tmp (P 2))) (P 23)::
.go (.load1 (.tmp (P 23))) (P 24)::
.go (.conv .u64 (.tmp (P 24))) (P 25)::
.go (.call (.con (.func (.func 93) ⟨[]⟩ ⟨[]⟩)) [(.tmp (P 22)),(.tmp (P 25))]) (P 26)::
.go (.move (.tmp (P 26))) (P 19)::
.go (.extract (.tmp (P 19)) 0) (P 27)::
.go (.extract (.tmp (P 19)) 1) (P 28)::
.go (.move (.tmp (P 27))) (P 7)::
.go (.move (.tmp (P 28))) (P 8)::
[])) (.seq (.run (.go (.move (.tmp (P 5))) (P 29)::
.go (.move (.tmp (P 7))) (P 30)::
.go (.call (.con (.func (.func 95) ⟨[]⟩ ⟨[]⟩)) [(.tmp (P 29)),(.tmp (P 30))]) (P 31)::
.go (.move (.tmp (P 6))) (P 32)::
.go (.move (.tmp (P 8))) (P 33)::
.go (.call (.con (.func (.func 95) ⟨[]⟩ ⟨[]⟩)) [(.tmp (P 32)),(.tmp (P 33))]) (P 34)::
.go (.buildSlice 3 2 [(.int .i64 (.ofNat 0)),(.int .i64 (.ofNat 0))] [(0,1,(.tmp (P 31))),(1,1,(.tmp (P 34)))]) (P 35)::
.go (.call (.con (.func (.func 94) ⟨[]⟩ ⟨[]⟩)) [(.tmp (P 35))]) (P 36)::
.go (.move (.tmp (P 36))) (P 4)::
[])) .ret))))
theorem de83 : @compF Try.prog (Gl.none Try.prog) Try.f83 2 = .mk d83 (mkTT 37) [(P 0),(P 1)] [.tmp (P 4)] := by kernel_rfl
theorem dg83 : Try.prog.funcs[83]? = some Try.f83 := Try.func83
theorem do83 : okF Try.prog Try.f83 = true := by kernel_rfl
noncomputable def d97 : FCode := (.seq (.run (.go (.box 98 (.tmp (P 0))) (P 3)::
.go (.move (.con (.bool false))) (P 4)::
[])) (.seq (.draw 8 (.go (.loadN 1 (.tmp (P 3))) (P 5)::
.go (.load1 (.tmp (P 1))) (P 6)::
.go (.call (.con (.func (.func 60) ⟨[]⟩ ⟨[]⟩)) [(.tmp (P 5)),(.tmp (P 6))]) (P 7)::
.go (.fieldAddr 5 (.tmp (P 2))) (P 8)::
.go (.loadN 2 (.tmp (P 8))) (P 9)::
.go (.call (.con (.func (.func 83) ⟨[]⟩ ⟨[]⟩)) [(.tmp (P 7)),(.tmp (P 9))]) (P 10)::
.go (.bin .lss 3 (.tmp (P 10)) (.con (.int .i64 (.ofNat 0)))) (P 11)::
.go (.move (.tmp (P 11))) (P 4)::
[]) [.ok,.ok,.ok,.ok,.rd none (.loadN 2 (.tmp (P 8))) (some (P 9)) [0],.ok,.ok,.ok]) .ret))
theorem de97 : @compF Try.prog (Gl.none Try.prog) Try.f97 3 = .mk d97 (mkTT 12) [(P 0),(P 1),(P 2)] [.tmp (P 4)] := by kernel_rfl
theorem dg97 : Try.prog.funcs[97]? = some Try.f97 := Try.func97
theorem do97 : okF Try.prog Try.f97 = true := by kernel_rfl
def orL : List Int → Int
  | [] => 0
  | x :: l => if x = 0 then orL l else x
theorem orL_skip {l : List Int} {k : Nat} (h : ∀ x ∈ l.take k, x = 0) : orL l = orL (l.drop k) := by
  induction l generalizing k with
  | nil => simp
  | cons x l ih =>
    cases k with
    | zero => rfl
    | succ k =>
      have hx : x = 0 := h x (by simp)
      have := ih (k := k) (fun y hy => h y (by simp [hy]))
      simp only[orL, hx, if_true, List.drop_succ_cons]
      exact this
theorem f94_ok {H : Heap} {v : Value} {l : List Int} (hS : Sl H v (l.map I)) (hn : l.length ≤ 1048576) : Gives Try.prog 94 [v] H (I (orL l)) := by
  have hlen : ylen 0 H v = some (I l.length) := by rw [hS.len, List.length_map]
  refine F.entryL rfl dg94 do94 de94 rfl (by kernel_rfl) ?_
  simp only[sets]
  refine V.re [(0, v)] (N := 18) (by intro i; simp only[full_st, Full.mk]) (by simp only[Kn, gt_st, full_st, Full.mk, ↓reduceIte, qD, qE, decide_true, and_self]) ?_
  intro t hF hA
  simp only[Kn, and_true] at hA
  (repeat first|apply sA|apply sB|apply sC|apply sD|apply sE)
  refine V.line' (by simp +contextual (disch := first|omega|simp only[nx];omega) only[D4,qF,qG,qA,qB,qC,D5,hF,hA,↓reduceIte,qD,qE]; with_reducible rfl) ?_
  (repeat first|apply sA|apply sB|apply sC|apply sD|apply sE)
  refine V.line' (by simp +contextual (disch := first|omega|simp only[nx];omega) only[D4,qF,qG,qA,qB,qC,D5,hF,hA,↓reduceIte,qD,qE]; with_reducible rfl) ?_
  (repeat first|apply sA|apply sB|apply sC|apply sD|apply sE)
  refine V.line' (by simp +contextual (disch := first|omega|simp only[nx];omega) only[D4,qF,qG,qA,qB,qC,D5,hF,hA,↓reduceIte,qD,qE, hlen]; with_reducible rfl) ?_
  (repeat first|apply sA|apply sB|apply sC|apply sD|apply sE)
  refine V.loop (fun n t m X => ∃ (k : Nat), k ≤ l.length ∧ n = l.length - k ∧ (∀ x ∈ l.take k, x = 0) ∧ m = [] ∧ X = H ∧ Full 18 t ∧ Kn [(3, I 0), (6, v), (7, I l.length), (8, I k)] t) l.length ?_ ?_
  · exact ⟨0, by omega, by omega, by simp, rfl, rfl, (by intro;simp only[full_st,hF]), (by simp only[Kn, D5,hF,hA,↓reduceIte,qD,qE,and_self,and_true,true_and];try (repeat' constructor))⟩
  clear hF hA
  rintro n t m X ⟨k, hk, rfl, hall, rfl, rfl, hF, hA⟩
  simp only[Kn, and_true] at hA
  (repeat first|apply sA|apply sB|apply sC|apply sD|apply sE)
  refine V.line' (by simp +contextual (disch := first|omega|simp only[nx];omega) only[D4,qF,qG,qA,qB,qC,D5,hF,hA,↓reduceIte,qD,qE]; with_reducible rfl) ?_
  (repeat first|apply sA|apply sB|apply sC|apply sD|apply sE)
  refine V.condP (by simp only[D6,D5,hF,hA,↓reduceIte,qD,qE]; rfl) (fun hlt => ?_) (fun hlt => ?_)
  · have hlt' : k < l.length := by omega
    obtain ⟨q, hq1, hq2⟩ := hS.get (n := k) (k := k) (x := I l[k]) (kd := .i64) (by simp [hlt']) rfl
    have hd : l.drop k = l[k] :: l.drop (k + 1) := List.drop_eq_getElem_cons hlt'
    (repeat first|apply sA|apply sB|apply sC|apply sD|apply sE)
    refine V.line' (by simp +contextual (disch := first|omega|simp only[nx];omega) only[D4,qF,qG,qA,qB,qC,D5,hF,hA,↓reduceIte,qD,qE, hq1, hq2 _ (Grow.refl _)]; with_reducible rfl) ?_
    (repeat first|apply sA|apply sB|apply sC|apply sD|apply sE)
    refine V.line' (by simp +contextual (disch := first|omega|simp only[nx];omega) only[D4,qF,qG,qA,qB,qC,D5,hF,hA,↓reduceIte,qD,qE]; with_reducible rfl) ?_
    (repeat first|apply sA|apply sB|apply sC|apply sD|apply sE)
    refine V.condP (by simp only[D6,D5,hF,hA,↓reduceIte,qD,qE]; rfl) (fun h => ?_) (fun h => ?_)
    · (repeat first|apply sA|apply sB|apply sC|apply sD|apply sE)
      refine V.line' (by simp +contextual (disch := first|omega|simp only[nx];omega) only[D4,qF,qG,qA,qB,qC,D5,hF,hA,↓reduceIte,qD,qE]; with_reducible rfl) ?_
      (repeat first|apply sA|apply sB|apply sC|apply sD|apply sE)
      refine V.ret (V.rets rfl (Or.inr ⟨by simp, V.rets rfl (Lv.retG (by simp +contextual (disch := first|omega|simp only[nx];omega) only[D1, cells_alloc_at, cells_alloc_ne, cells_set_at, cells_set_ne, yres, yres1, yresL, qA, qB, qC, D5,hF,hA,↓reduceIte,qD,qE]; rfl) ?_ ?_)⟩))
      · exact .refl _
      · rw [orL_skip hall, hd, orL, if_neg h]
    · have h0 : l[k] = 0 := by simpa using h
      (repeat first|apply sA|apply sB|apply sC|apply sD|apply sE)
      refine V.line' (by simp +contextual (disch := first|omega|simp only[nx];omega) only[D4,qF,qG,qA,qB,qC,D5,hF,hA,↓reduceIte,qD,qE]; with_reducible rfl) ?_
      refine V.nil (Or.inl ⟨rfl, l.length - (k + 1), by omega, ?_⟩)
      refine ⟨k + 1, by omega, rfl, ?_, rfl, rfl, (by intro;simp only[full_st,hF]), (by simp only[Kn, D5,hF,hA,↓reduceIte,qD,qE,and_self,and_true,true_and];try (repeat' constructor))⟩
      intro x hx
      rw [tk hlt'] at hx
      rcases List.mem_append.1 hx with hx | hx
      · exact hall x hx
      · rw [List.mem_singleton.1 hx]; exact h0
  · refine V.exit ?_
    (repeat first | refine V.pass ?_ | refine V.here ?_ | refine V.out (by decide) ?_)
    refine V.nil (Or.inr ⟨by simp, ?_⟩)
    (repeat first | refine V.pass ?_ | refine V.here ?_ | refine V.out (by decide) ?_)
    (repeat first|apply sA|apply sB|apply sC|apply sD|apply sE)
    refine V.line' (by simp +contextual (disch := first|omega|simp only[nx];omega) only[D4,qF,qG,qA,qB,qC,D5,hF,hA,↓reduceIte,qD,qE]; with_reducible rfl) ?_
    (repeat first|apply sA|apply sB|apply sC|apply sD|apply sE)
    refine V.ret (V.rets rfl (Lv.retG (by simp +contextual (disch := first|omega|simp only[nx];omega) only[D1, cells_alloc_at, cells_alloc_ne, cells_set_at, cells_set_ne, yres, yres1, yresL, qA, qB, qC, D5,hF,hA,↓reduceIte,qD,qE]; rfl) ?_ ?_))
    · exact .refl _
    · rw [orL_skip hall, List.drop_of_length_le (by omega)]; rfl
theorem cmp_lex (a b : Nat) : orL [cmpN (a / 18446744073709551616) (b / 18446744073709551616), cmpN (a % 18446744073709551616) (b % 18446744073709551616)] = cmpN a b := by
  unfold orL orL orL cmpN
  (repeat' split) <;> first | rfl | omega
theorem f83_ok {n d p q : Nat} (hn : n < 9223372036854775808) (hd : d < 9223372036854775808) (hp : p < 9223372036854775808) (hq : q < 9223372036854775808) (H : Heap) : Gives Try.prog 83 [.agg ⟨A2 n d⟩, .agg ⟨A2 p q⟩] H (I (cmpN (n * q) (p * d))) := by
  have w1 := wrap_u64 (n := n) (by omega)
  have w2 := wrap_u64 (n := d) (by omega)
  have w3 := wrap_u64 (n := p) (by omega)
  have w4 := wrap_u64 (n := q) (by omega)
  refine F.entryL rfl dg83 do83 de83 rfl (by kernel_rfl) ?_
  simp only[sets]
  refine V.re [(0, .agg ⟨A2 n d⟩), (1, .agg ⟨A2 p q⟩)] (N := 37) (by intro i; simp only[full_st, Full.mk]) (by simp only[Kn, gt_st, full_st, Full.mk, ↓reduceIte, qD, qE, decide_true, and_self]) ?_
  intro t hF hA
  simp only[Kn, and_true] at hA
  (repeat first|apply sA|apply sB|apply sC|apply sD|apply sE)
  refine V.line' (by simp +contextual (disch := first|omega|simp only[nx];omega) only[D4,qF,qG,qA,qB,qC,D5,hF,hA,↓reduceIte,qD,qE]; with_reducible rfl) ?_
  refine V.heap (fun X => Grow H X ∧ Bx X H.next (A2 n d) 36 ∧ Bx X (H.next + 1) (A2 p q) 36) ⟨?_, ?_, ?_⟩ ?_
  · (repeat first | assumption | exact Grow.refl _ | refine Grow.alloc ?_ _ | refine Grow.set ?_ (by first|omega|simp only[nx];omega) _)
  · (repeat first | assumption | exact Bx.new _ _ _ | exact Bx.newAt (by first|omega|simp only[nx];omega) | refine Bx.put (by first|omega|simp only[nx];omega) _ _ | refine Bx.alloc ?_ _ | refine Bx.set ?_ (by first|omega|simp only[nx];omega) _)
  · (repeat first | assumption | exact Bx.new _ _ _ | exact Bx.newAt (by first|omega|simp only[nx];omega) | refine Bx.put (by first|omega|simp only[nx];omega) _ _ | refine Bx.alloc ?_ _ | refine Bx.set ?_ (by first|omega|simp only[nx];omega) _)
  rintro H1 ⟨g1, b1, c1⟩
  (repeat first|apply sA|apply sB|apply sC|apply sD|apply sE)
  refine V.run ?_
  refine VI.steps' 6 (by simp +contextual (disch := first|omega|simp only[nx];omega) only[D4,qF,qG,qA,qB,qC,D5,hF,hA,↓reduceIte,qD,qE, b1.2, c1.2, w1, w4]; with_reducible rfl) ?_
  simp only[ds]
  refine VI.callA rfl (f93_ok (x := n) (y := q) (by omega) (by omega) _) (by simp only[D6,D5,hF,hA,↓reduceIte,qD,qE]; try rfl) (fun H2 g2 => ?_)
  have b2 := b1.grow g2
  have c2 := c1.grow g2
  refine VI.line' (by simp +contextual (disch := first|omega|simp only[nx];omega) only[D4,qF,qG,qA,qB,qC,D5,hF,hA,↓reduceIte,qD,qE]; with_reducible rfl) ?_
  (repeat first|apply sA|apply sB|apply sC|apply sD|apply sE)
  refine V.re [(2, PT H.next), (3, PT (H.next + 1)), (5, Q (n * q / 18446744073709551616)), (6, Q (n * q % 18446744073709551616))] (N := 37) (by intro;simp only[full_st,hF]) (by simp only[Kn, D5,hF,hA,↓reduceIte,qD,qE,and_self,and_true,true_and];try (repeat' constructor)) ?_
  clear hF hA
  intro t hF hA
  simp only[Kn, and_true] at hA
  refine V.run ?_
  refine VI.steps' 6 (by simp +contextual (disch := first|omega|simp only[nx];omega) only[D4,qF,qG,qA,qB,qC,D5,hF,hA,↓reduceIte,qD,qE, b2.2, c2.2, w2, w3]; with_reducible rfl) ?_
  simp only[ds]
  refine VI.callA rfl (f93_ok (x := p) (y := d) (by omega) (by omega) _) (by simp only[D6,D5,hF,hA,↓reduceIte,qD,qE]; try rfl) (fun H3 g3 => ?_)
  refine VI.line' (by simp +contextual (disch := first|omega|simp only[nx];omega) only[D4,qF,qG,qA,qB,qC,D5,hF,hA,↓reduceIte,qD,qE]; with_reducible rfl) ?_
  (repeat first|apply sA|apply sB|apply sC|apply sD|apply sE)
  refine V.re [(5, Q (n * q / 18446744073709551616)), (6, Q (n * q % 18446744073709551616)), (7, Q (p * d / 18446744073709551616)), (8, Q (p * d % 18446744073709551616))] (N := 37) (by intro;simp only[full_st,hF]) (by simp only[Kn, D5,hF,hA,↓reduceIte,qD,qE,and_self,and_true,true_and];try (repeat' constructor)) ?_
  clear hF hA
  intro t hF hA
  simp only[Kn, and_true] at hA
  refine V.run ?_
  refine VI.steps' 2 (by simp +contextual (disch := first|omega|simp only[nx];omega) only[D4,qF,qG,qA,qB,qC,D5,hF,hA,↓reduceIte,qD,qE]; with_reducible rfl) ?_
  simp only[ds]
  refine VI.callA rfl (f95_ok _ _ _) (by simp only[D6,D5,hF,hA,↓reduceIte,qD,qE]; try rfl) (fun H4 g4 => ?_)
  refine VI.steps' 2 (by simp +contextual (disch := first|omega|simp only[nx];omega) only[D4,qF,qG,qA,qB,qC,D5,hF,hA,↓reduceIte,qD,qE]; with_reducible rfl) ?_
  simp only[ds]
  refine VI.callA rfl (f95_ok _ _ _) (by simp only[D6,D5,hF,hA,↓reduceIte,qD,qE]; try rfl) (fun H5 g5 => ?_)
  refine VI.steps' 1 (by simp +contextual (disch := first|omega|simp only[nx];omega) only[D4,qF,qG,qA,qB,qC,D5,hF,hA,↓reduceIte,qD,qE]; with_reducible rfl) ?_
  simp only[ds]
  refine VI.callA rfl (f94_ok (l := [_, _]) (Sl.lit H5 _ 3 rfl) (by simp)) (by simp only[D6,D5,hF,hA,↓reduceIte,qD,qE]; try rfl) (fun H6 g6 => ?_)
  rw [cmp_lex]
  refine VI.line' (by simp +contextual (disch := first|omega|simp only[nx];omega) only[D4,qF,qG,qA,qB,qC,D5,hF,hA,↓reduceIte,qD,qE]; with_reducible rfl) ?_
  (repeat first|apply sA|apply sB|apply sC|apply sD|apply sE)
  refine V.ret (V.rets rfl (Lv.retG (by simp +contextual (disch := first|omega|simp only[nx];omega) only[D1, cells_alloc_at, cells_alloc_ne, cells_set_at, cells_set_ne, yres, yres1, yresL, qA, qB, qC, D5,hF,hA,↓reduceIte,qD,qE]; rfl) ?_ ?_))
  · have gg := ((g2.trans g3).trans g4).trans g5
    exact (g1.trans gg).trans (((Grow.refl H5).alloc _).trans g6)
  · rfl
def below (p w n q : Nat) : Bool := decide (p * q < n * w)
theorem cmp_lt (a b : Nat) : (cmpN a b < 0) = (a < b) := by
  unfold cmpN
  apply propext
  (repeat' split) <;> omega
theorem below_fr {p w n q : Nat} (hw : 0 < w) : (p / Nat.gcd p w * q < n * (w / Nat.gcd p w)) = (p * q < n * w) := by
  have hg := Nat.gcd_pos_of_pos_right p hw
  obtain ⟨p', hp⟩ := Nat.gcd_dvd_left p w
  obtain ⟨w', hw'⟩ := Nat.gcd_dvd_right p w
  have e1 : p / Nat.gcd p w = p' := by
    have := Nat.mul_div_cancel_left p' hg
    rw [← hp] at this; exact this
  have e2 : w / Nat.gcd p w = w' := by
    have := Nat.mul_div_cancel_left w' hg
    rw [← hw'] at this; exact this
  rw [e1, e2]
  apply propext
  have f1 : p * q = Nat.gcd p w * (p' * q) := by rw [← Nat.mul_assoc, ← hp]
  have f2 : n * w = Nat.gcd p w * (n * w') := by rw [Nat.mul_left_comm, ← hw']
  rw [f1, f2]
  exact (Nat.mul_lt_mul_left hg).symm
abbrev tv (a b c d i j n q : Nat) : Value := .agg ⟨[I a, I b, I c, I d, cw i j, I n, I q]⟩
theorem f97_ok {a b c d u p n q s k l : Nat} {g : FuncId} (hau : a + u ≤ 60) (hc : c ≤ a) (hnq : n ≤ 1000 ∧ q ≤ 1000) {H : Heap} (hb : Bx H p (SP a b c d u) 127) (hs : s ≤ ch (a + u) c) (hg : ∀ H', Grow H H' → Gives Try.prog g [PT p] H' (I s))
    (hk : Bx H k [PT p] 101) {i j : Nat} (hl : Bx H l [I a, I b, I c, I d, cw i j, I n, I q] 108) : Gives Try.prog 97 [.agg ⟨[.func (.func g) ⟨[]⟩ ⟨[]⟩]⟩, PT k, PT l] H (.bool (below s (ch (a + u) c) n q)) := by
  have hcb := ch_bound (n := a + u) c hau
  have hp := ch_pos (n := a + u) (k := c) (by omega)
  have d1 := Nat.div_le_self s (Nat.gcd s (ch (a + u) c))
  have d2 := Nat.div_le_self (ch (a + u) c) (Nat.gcd s (ch (a + u) c))
  refine F.entryL rfl dg97 do97 de97 rfl (by kernel_rfl) ?_
  simp only[sets]
  refine V.re [(0, .agg ⟨[.func (.func g) ⟨[]⟩ ⟨[]⟩]⟩), (1, PT k), (2, PT l)] (N := 12) (by intro i; simp only[full_st, Full.mk]) (by simp only[Kn, gt_st, full_st, Full.mk, ↓reduceIte, qD, qE, decide_true, and_self]) ?_
  intro t hF hA
  simp only[Kn, and_true] at hA
  (repeat first|apply sA|apply sB|apply sC|apply sD|apply sE)
  refine V.line' (by simp +contextual (disch := first|omega|simp only[nx];omega) only[D4,qF,qG,qA,qB,qC,D5,hF,hA,↓reduceIte,qD,qE]; with_reducible rfl) ?_
  refine V.heap (fun X => Grow H X ∧ Bx X H.next [.func (.func g) ⟨[]⟩ ⟨[]⟩] 98) ⟨?_, ?_⟩ ?_
  · (repeat first | assumption | exact Grow.refl _ | refine Grow.alloc ?_ _ | refine Grow.set ?_ (by first|omega|simp only[nx];omega) _)
  · (repeat first | assumption | exact Bx.new _ _ _ | exact Bx.newAt (by first|omega|simp only[nx];omega) | refine Bx.put (by first|omega|simp only[nx];omega) _ _ | refine Bx.alloc ?_ _ | refine Bx.set ?_ (by first|omega|simp only[nx];omega) _)
  rintro H1 ⟨g1, b1⟩
  have k1 := hk.grow g1
  have l1 := hl.grow g1
  (repeat first|apply sA|apply sB|apply sC|apply sD|apply sE)
  refine V.draw ?_
  refine VD.dins 2 (by simp +contextual (disch := first|omega|simp only[nx];omega) only[D4,qF,qG,qA,qB,qC,D5,hF,hA,↓reduceIte,qD,qE, b1.2, k1.2]; with_reducible rfl) ?_
  simp only[ds]
  refine VD.callA (by simp only[D6,D5,hF,hA,↓reduceIte,qD,qE]; try rfl) (f60_ok (n := s) hau hc (hb.grow g1) hs (fun H' g => hg H' (g1.trans g))) (by simp only[D6,D5,hF,hA,↓reduceIte,qD,qE]; try rfl) (fun H2 g2 => ?_)
  have l2 := l1.grow g2
  refine VD.dins 2 (by simp +contextual (disch := first|omega|simp only[nx];omega) only[D4,qF,qG,qA,qB,qC,D5,hF,hA,↓reduceIte,qD,qE, l2.2]; with_reducible rfl) ?_
  simp only[ds]
  refine VD.callA (by simp only[D6,D5,hF,hA,↓reduceIte,qD,qE]; try rfl) (f83_ok (n := s / Nat.gcd s (ch (a + u) c)) (d := ch (a + u) c / Nat.gcd s (ch (a + u) c)) (p := n) (q := q) (by omega) (by omega) (by omega) (by omega) _) (by simp only[D6,D5,hF,hA,↓reduceIte,qD,qE]; try rfl) (fun H3 g3 => ?_)
  have l3 := l2.grow g3
  refine VD.lineD' (by simp +contextual (disch := first|omega|simp only[nx];omega) only[D4,qF,qG,qA,qB,qC,D5,hF,hA,↓reduceIte,qD,qE, cmp_lt, below_fr hp]; with_reducible rfl) ?_ ?_ rfl ?_
  · have n2 := g2.1
    have n3 := g3.1
    simp only[monoG, List.cons_append, List.nil_append, Heap.next_set, Heap.next_alloc, Nat.le_refl, true_and, and_true] <;> omega
  · simp only[dcAll, dcOk, wantD, List.cons_append, List.nil_append, true_and, and_true]
    exact fun _ q hq => by simp only[List.mem_cons, List.not_mem_nil, or_false] at hq; (repeat (rcases hq with rfl | hq; exact ⟨_, _, _, rfl, (by simp +contextual (disch := first|omega|simp only[nx];omega) only[D4,qF,qG,qA,qB,qC,D5,hF,hA,↓reduceIte,qD,qE, l1.2, l2.2, l3.2]; with_reducible rfl), fun p hp => by cases hp; simp only[D5,hF,hA,↓reduceIte,qD,qE]; first | exact vEq_An | (simp [vEq, vEq0, all2]; done) | assumption⟩)); (try (subst hq; exact ⟨_, _, _, rfl, (by simp +contextual (disch := first|omega|simp only[nx];omega) only[D4,qF,qG,qA,qB,qC,D5,hF,hA,↓reduceIte,qD,qE, l1.2, l2.2, l3.2]; with_reducible rfl), fun p hp => by cases hp; simp only[D5,hF,hA,↓reduceIte,qD,qE]; first | exact vEq_An | (simp [vEq, vEq0, all2]; done) | assumption⟩))
  (repeat first|apply sA|apply sB|apply sC|apply sD|apply sE)
  refine V.ret (V.rets rfl (Lv.retG (by simp +contextual (disch := first|omega|simp only[nx];omega) only[D1, cells_alloc_at, cells_alloc_ne, cells_set_at, cells_set_ne, yres, yres1, yresL, qA, qB, qC, D5,hF,hA,↓reduceIte,qD,qE]; rfl) ?_ ?_))
  · exact (g1.trans g2).trans g3
  · rfl
end Go.Xe.TMX
