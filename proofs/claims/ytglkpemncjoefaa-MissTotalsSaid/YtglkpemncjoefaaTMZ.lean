/- What the functions of the layer miss come to: ways to choose. Conditions: none. -/
import Derived.Test.YtglkpemncjoefaaTMY
-- MOD TM
namespace Go.Xe.TMX
open Go Go.Xe Go.Proofs Go.Xe.Mth
open Nat renaming reduceLeDiff → qA, reduceSub → qB, reduceAdd → qC, reduceEqDiff → qD, reduceLT → qE
open Int renaming reduceNegSucc → qF, reduceEq → qG
open Go.Xe.V renaming seq → sA, block → sB, scope → sC, skip → sD, close → sE
open Go.Xe renaming pth → P
set_option maxRecDepth 100000
set_option maxHeartbeats 3200000
set_option linter.unusedSimpArgs false
noncomputable def d25 : FCode := (.seq (.run (.go (.move (.con (.int .i64 (.ofNat 0)))) (P 4)::
[])) (.seq (.seq (.run (.go (.move (.tmp (P 1))) (P 9)::
.go (.move (.tmp (P 0))) (P 10)::
.go (.bin .gtr 3 (.tmp (P 9)) (.tmp (P 10))) (P 11)::
[])) (.cond (.tmp (P 11)) (.seq (.run (.go (.move (.con (.int .i64 (.ofNat 0)))) (P 4)::
[])) .ret) .skip)) (.seq (.seq (.run (.go (.move (.tmp (P 1))) (P 12)::
.go (.move (.tmp (P 0))) (P 13)::
.go (.move (.tmp (P 1))) (P 14)::
.go (.bin .sub 3 (.tmp (P 13)) (.tmp (P 14))) (P 15)::
.go (.bin .gtr 3 (.tmp (P 12)) (.tmp (P 15))) (P 16)::
[])) (.cond (.tmp (P 16)) (.run (.go (.move (.tmp (P 0))) (P 17)::
.go (.move (.tmp (P 1))) (P 18)::
.go (.bin .sub 3 (.tmp (P 17)) (.tmp (P 18))) (P 19)::
.go (.move (.tmp (P 19))) (P 1)::
[])) .skip)) (.seq (.run (.go (.move (.con (.int .i64 (.ofNat 1)))) (P 5)::
[])) (.seq (.seq (.run (.go (.move (.con (.int .i64 (.ofNat 1)))) (P 6)::
[])) (.block 0 (.loop (.seq (.seq (.run (.go (.move (.tmp (P 6))) (P 20)::
.go (.move (.tmp (P 1))) (P 21)::
.go (.bin .leq 3 (.tmp (P 20)) (.tmp (P 21))) (P 22)::
[])) (.cond (.tmp (P 22)) .skip (.exit 0))) (.seq (.block 1 (.seq (.run (.go (.move (.tmp (P 0))) (P 25)::
.go (.move (.tmp (P 1))) (P 26)::
.go (.bin .sub 3 (.tmp (P 25)) (.tmp (P 26))) (P 27)::
.go (.move (.tmp (P 6))) (P 28)::
.go (.bin .add 3 (.tmp (P 27)) (.tmp (P 28))) (P 29)::
.go (.move (.tmp (P 29))) (P 7)::
[])) (.seq (.run (.go (.move (.tmp (P 5))) (P 30)::
.go (.move (.tmp (P 6))) (P 31)::
.go (.call (.con (.func (.func 55) ⟨[]⟩ ⟨[]⟩)) [(.tmp (P 30)),(.tmp (P 31))]) (P 32)::
.go (.move (.tmp (P 32))) (P 8)::
[])) (.draw 10 (.go (.move (.tmp (P 5))) (P 33)::
.go (.move (.tmp (P 8))) (P 34)::
.go (.bin .quo 3 (.tmp (P 33)) (.tmp (P 34))) (P 35)::
.go (.move (.tmp (P 7))) (P 36)::
.go (.move (.tmp (P 6))) (P 37)::
.go (.move (.tmp (P 8))) (P 38)::
.go (.bin .quo 3 (.tmp (P 37)) (.tmp (P 38))) (P 39)::
.go (.bin .quo 3 (.tmp (P 36)) (.tmp (P 39))) (P 40)::
.go (.bin .mul 3 (.tmp (P 35)) (.tmp (P 40))) (P 41)::
.go (.move (.tmp (P 41))) (P 5)::
[]) [.ok,.ok,.ok,.ok,.ok,.ok,.ok,.ok,.ok,.ok])))) (.run (.go (.move (.tmp (P 6))) (P 23)::
.go (.bin .add 3 (.tmp (P 23)) (.con (.int .i64 (.ofNat 1)))) (P 24)::
.go (.move (.tmp (P 24))) (P 6)::
[]))))))) (.seq (.run (.go (.move (.tmp (P 5))) (P 42)::
.go (.move (.tmp (P 42))) (P 4)::
[])) .ret))))))
theorem de25 : @compF Try.prog (Gl.none Try.prog) Try.f25 2 = .mk d25 (mkTT 43) [(P 0),(P 1)] [.tmp (P 4)] := by kernel_rfl
theorem dg25 : Try.prog.funcs[25]? = some Try.f25 := Try.func25
theorem do25 : okF Try.prog Try.f25 = true := by kernel_rfl
noncomputable def d53 : FCode := (.seq (.run (.go (.move (.con .nilFunc)) (P 0)::
[])) (.seq (.run (.go (.makeMap 123) (P 3)::
.go (.alloc 121 [(.map none)]) (P 1)::
.un (.store 1 (.tmp (P 1)) (.tmp (P 3)))::
[])) (.seq (.run (.go (.alloc 33 [.nilFunc]) (P 2)::
[])) (.seq (.run (.go (.makeFunc 78 [] [(.tmp (P 1)),(.tmp (P 2))]) (P 4)::
.un (.store 1 (.tmp (P 2)) (.tmp (P 4)))::
[])) (.seq (.run (.go (.load1 (.tmp (P 2))) (P 5)::
.go (.move (.tmp (P 5))) (P 0)::
[])) .ret)))))
theorem de53 : @compF Try.prog (Gl.none Try.prog) Try.f53 0 = .mk d53 (mkTT 6) [] [.tmp (P 0)] := by kernel_rfl
theorem dg53 : Try.prog.funcs[53]? = some Try.f53 := Try.func53
theorem do53 : okF Try.prog Try.f53 = true := by kernel_rfl
noncomputable def d78 : FCode := (.seq (.run (.go (.move (.con (.int .i64 (.ofNat 0)))) (P 6)::
[])) (.seq (.seq (.run (.go (.move (.tmp (P 1))) (P 9)::
.go (.move (.tmp (P 0))) (P 10)::
.go (.bin .gtr 3 (.tmp (P 9)) (.tmp (P 10))) (P 11)::
[])) (.cond (.tmp (P 11)) (.seq (.run (.go (.move (.con (.int .i64 (.ofNat 0)))) (P 6)::
[])) .ret) .skip)) (.seq (.seq (.run (.go (.move (.tmp (P 1))) (P 12)::
.go (.bin .eql 3 (.tmp (P 12)) (.con (.int .i64 (.ofNat 0)))) (P 13)::
.go (.move (.tmp (P 13))) (P 14)::
.gd (P 14) false (.move (.tmp (P 1))) (P 15)::
.gd (P 14) false (.move (.tmp (P 0))) (P 16)::
.gd (P 14) false (.bin .eql 3 (.tmp (P 15)) (.tmp (P 16))) (P 17)::
.go (.pick (.tmp (P 14)) (.con (.bool true)) (.tmp (P 17))) (P 18)::
[])) (.cond (.tmp (P 18)) (.seq (.run (.go (.move (.con (.int .i64 (.ofNat 1)))) (P 6)::
[])) .ret) .skip)) (.seq (.run (.go (.load1 (.tmp (P 2))) (P 20)::
.go (.move (.tmp (P 0))) (P 21)::
.go (.move (.tmp (P 1))) (P 22)::
.go (.build [(.int .i64 (.ofNat 0)),(.int .i64 (.ofNat 0))] [(0,1,(.tmp (P 21))),(1,1,(.tmp (P 22)))]) (P 23)::
.go (.lookup 123 (.int .i64 (.ofNat 0)) (.tmp (P 20)) (.tmp (P 23)) true) (P 24)::
.go (.move (.tmp (P 24))) (P 19)::
.go (.extract (.tmp (P 19)) 0) (P 25)::
.go (.extract (.tmp (P 19)) 1) (P 26)::
.go (.move (.tmp (P 25))) (P 7)::
.go (.move (.tmp (P 26))) (P 8)::
[])) (.seq (.seq (.run (.go (.move (.tmp (P 8))) (P 27)::
.go (.un .not (.tmp (P 27))) (P 28)::
[])) (.cond (.tmp (P 28)) (.seq (.draw 13 (.go (.load1 (.tmp (P 3))) (P 29)::
.go (.move (.tmp (P 0))) (P 30)::
.go (.bin .sub 3 (.tmp (P 30)) (.con (.int .i64 (.ofNat 1)))) (P 31)::
.go (.move (.tmp (P 1))) (P 32)::
.go (.call (.tmp (P 29)) [(.tmp (P 31)),(.tmp (P 32))]) (P 33)::
.go (.load1 (.tmp (P 3))) (P 34)::
.go (.move (.tmp (P 0))) (P 35)::
.go (.bin .sub 3 (.tmp (P 35)) (.con (.int .i64 (.ofNat 1)))) (P 36)::
.go (.move (.tmp (P 1))) (P 37)::
.go (.bin .sub 3 (.tmp (P 37)) (.con (.int .i64 (.ofNat 1)))) (P 38)::
.go (.call (.tmp (P 34)) [(.tmp (P 36)),(.tmp (P 38))]) (P 39)::
.go (.bin .add 3 (.tmp (P 33)) (.tmp (P 39))) (P 40)::
.go (.move (.tmp (P 40))) (P 7)::
[]) [.ok,.ok,.ok,.ok,.ok,.rd none (.load1 (.tmp (P 3))) (some (P 34)) [0],.ok,.ok,.ok,.ok,.ok,.ok,.ok]) (.run (.go (.load1 (.tmp (P 2))) (P 41)::
.go (.move (.tmp (P 0))) (P 42)::
.go (.move (.tmp (P 1))) (P 43)::
.go (.build [(.int .i64 (.ofNat 0)),(.int .i64 (.ofNat 0))] [(0,1,(.tmp (P 42))),(1,1,(.tmp (P 43)))]) (P 44)::
.go (.move (.tmp (P 7))) (P 45)::
.un (.mapUpdate 123 (.tmp (P 41)) (.tmp (P 44)) (.tmp (P 45)))::
[]))) .skip)) (.seq (.run (.go (.move (.tmp (P 7))) (P 46)::
.go (.move (.tmp (P 46))) (P 6)::
[])) .ret))))))
theorem de78 : @compF Try.prog (Gl.none Try.prog) Try.f78 4 = .mk d78 (mkTT 47) [(P 0),(P 1),(P 2),(P 3)] [.tmp (P 6)] := by kernel_rfl
theorem dg78 : Try.prog.funcs[78]? = some Try.f78 := Try.func78
theorem do78 : okF Try.prog Try.f78 = true := by kernel_rfl
theorem f25_ok (n k : Nat) (hn : n ≤ 60) (hk : k ≤ 60) (H : Heap) : Gives Try.prog 25 [I n, I k] H (I (ch n k : Nat)) := by
  refine F.entryL rfl dg25 do25 de25 rfl (by kernel_rfl) ?_
  simp only[sets]
  refine V.re [(0, I n), (1, I k)] (N := 43) (by intro i; simp only[full_st, Full.mk]) (by simp only[Kn, gt_st, full_st, Full.mk, ↓reduceIte, qD, qE, decide_true, and_self]) ?_
  intro t hF hA
  simp only[Kn, and_true] at hA
  (repeat first|apply sA|apply sB|apply sC|apply sD|apply sE)
  refine V.line' (by simp +contextual (disch := first|omega|simp only[nx];omega) only[D4,qF,qG,qA,qB,qC,D5,hF,hA,↓reduceIte,qD,qE]; with_reducible rfl) ?_
  (repeat first|apply sA|apply sB|apply sC|apply sD|apply sE)
  refine V.line' (by simp +contextual (disch := first|omega|simp only[nx];omega) only[D4,qF,qG,qA,qB,qC,D5,hF,hA,↓reduceIte,qD,qE]; with_reducible rfl) ?_
  (repeat first|apply sA|apply sB|apply sC|apply sD|apply sE)
  refine V.condP (by simp only[D6,D5,hF,hA,↓reduceIte,qD,qE]; rfl) (fun h => ?_) (fun h => ?_)
  · have e := ch_lt (n := n) (k := k) (by omega)
    (repeat first|apply sA|apply sB|apply sC|apply sD|apply sE)
    refine V.line' (by simp +contextual (disch := first|omega|simp only[nx];omega) only[D4,qF,qG,qA,qB,qC,D5,hF,hA,↓reduceIte,qD,qE]; with_reducible rfl) ?_
    refine V.ret (V.rets rfl (Lv.retG (by simp +contextual (disch := first|omega|simp only[nx];omega) only[D1, cells_alloc_at, cells_alloc_ne, cells_set_at, cells_set_ne, yres, yres1, yresL, qA, qB, qC, D5,hF,hA,↓reduceIte,qD,qE]; rfl) ?_ ?_))
    · (repeat first | assumption | exact Grow.refl _ | refine Grow.alloc ?_ _ | refine Grow.set ?_ (by first|omega|simp only[nx];omega) _)
    · rw [e]; rfl
  have hkn : k ≤ n := by omega
  (repeat first|apply sA|apply sB|apply sC|apply sD|apply sE)
  refine V.line' (by simp +contextual (disch := first|omega|simp only[nx];omega) only[D4,qF,qG,qA,qB,qC,D5,hF,hA,↓reduceIte,qD,qE]; with_reducible rfl) ?_
  (repeat first|apply sA|apply sB|apply sC|apply sD|apply sE)
  refine V.cut (fun e t m H' => e = .normal ∧ m = [] ∧ H' = H ∧ ∃ j : Nat, j ≤ n ∧ ch n j = ch n k ∧ Full 43 t ∧ Kn [(0, I n), (1, I j)] t) ?_ ?_
  · refine V.condP (by simp only[D6,D5,hF,hA,↓reduceIte,qD,qE]; rfl) (fun h1 => ?_) (fun h1 => ?_)
    · (repeat first|apply sA|apply sB|apply sC|apply sD|apply sE)
      refine V.line' (by simp +contextual (disch := first|omega|simp only[nx];omega) only[D4,qF,qG,qA,qB,qC,D5,hF,hA,↓reduceIte,qD,qE]; with_reducible rfl) ?_
      have e : (n : Int) - k = ((n - k : Nat) : Int) := by omega
      rw [e]
      exact ⟨rfl, rfl, rfl, n - k, by omega, ch_sym hkn, (by intro;simp only[full_st,hF]), (by simp only[Kn, D5,hF,hA,↓reduceIte,qD,qE,and_self,and_true,true_and];try (repeat' constructor))⟩
    · (repeat first|apply sA|apply sB|apply sC|apply sD|apply sE)
      exact ⟨rfl, rfl, rfl, k, hkn, rfl, (by intro;simp only[full_st,hF]), (by simp only[Kn, D5,hF,hA,↓reduceIte,qD,qE,and_self,and_true,true_and];try (repeat' constructor))⟩
  clear hF hA
  rintro e t m H' ⟨rfl, rfl, rfl, j, hj, hcj, hF, hA⟩
  simp only[Kn, and_true] at hA
  obtain ⟨q, rfl⟩ : ∃ q, n = q + j := ⟨n - j, by omega⟩
  (repeat first|apply sA|apply sB|apply sC|apply sD|apply sE)
  refine V.line' (by simp +contextual (disch := first|omega|simp only[nx];omega) only[D4,qF,qG,qA,qB,qC,D5,hF,hA,↓reduceIte,qD,qE]; with_reducible rfl) ?_
  (repeat first|apply sA|apply sB|apply sC|apply sD|apply sE)
  refine V.line' (by simp +contextual (disch := first|omega|simp only[nx];omega) only[D4,qF,qG,qA,qB,qC,D5,hF,hA,↓reduceIte,qD,qE]; with_reducible rfl) ?_
  (repeat first|apply sA|apply sB|apply sC|apply sD|apply sE)
  refine V.loop (fun n t m X => ∃ (i : Nat), i ≤ j ∧ n = j - i ∧ m = [] ∧ Grow H' X ∧ Full 43 t ∧ Kn [(0, I ((q + j : Nat) : Int)), (1, I j), (5, I ((ch (q + i) i : Nat) : Int)), (6, I ((i + 1 : Nat) : Int))] t) j ?_ ?_
  · refine ⟨0, by omega, by omega, rfl, .refl _, ?_⟩
    rw [ch_z]
    exact ⟨(by intro;simp only[full_st,hF]), (by simp only[Kn, D5,hF,hA,↓reduceIte,qD,qE,and_self,and_true,true_and];try (repeat' constructor))⟩
  clear hF hA
  rintro n t m X ⟨i, hi, rfl, rfl, gX, hF, hA⟩
  simp only[Kn, and_true] at hA
  (repeat first|apply sA|apply sB|apply sC|apply sD|apply sE)
  refine V.line' (by simp +contextual (disch := first|omega|simp only[nx];omega) only[D4,qF,qG,qA,qB,qC,D5,hF,hA,↓reduceIte,qD,qE]; with_reducible rfl) ?_
  (repeat first|apply sA|apply sB|apply sC|apply sD|apply sE)
  refine V.condP (by simp only[D6,D5,hF,hA,↓reduceIte,qD,qE]; rfl) (fun h2 => ?_) (fun h2 => ?_)
  · have hij : i + 1 ≤ j := by omega
    have e1 : (((q + j : Nat) : Int) - (j : Int) + ((i + 1 : Nat) : Int)) = ((q + i + 1 : Nat) : Int) := by omega
    (repeat first|apply sA|apply sB|apply sC|apply sD|apply sE)
    refine V.line' (by simp +contextual (disch := first|omega|simp only[nx];omega) only[D4,qF,qG,qA,qB,qC,D5,hF,hA,↓reduceIte,qD,qE, e1]; with_reducible rfl) ?_
    (repeat first|apply sA|apply sB|apply sC|apply sD|apply sE)
    refine V.re [(0, I ((q + j : Nat) : Int)), (1, I j), (5, I ((ch (q + i) i : Nat) : Int)), (6, I ((i + 1 : Nat) : Int)), (7, I ((q + i + 1 : Nat) : Int))] (N := 43) (by intro;simp only[full_st,hF]) (by simp only[Kn, D5,hF,hA,↓reduceIte,qD,qE,and_self,and_true,true_and];try (repeat' constructor)) ?_
    clear hF hA
    intro t hF hA
    simp only[Kn, and_true] at hA
    refine V.run ?_
    refine VI.steps' 2 (by simp +contextual (disch := first|omega|simp only[nx];omega) only[D4,qF,qG,qA,qB,qC,D5,hF,hA,↓reduceIte,qD,qE]; with_reducible rfl) ?_
    simp only[ds]
    refine VI.callA rfl (f55_ok (ch (q + i) i) (i + 1) _) (by simp only[D6,D5,hF,hA,↓reduceIte,qD,qE]; try rfl) (fun H2 g2 => ?_)
    refine VI.line' (by simp +contextual (disch := first|omega|simp only[nx];omega) only[D4,qF,qG,qA,qB,qC,D5,hF,hA,↓reduceIte,qD,qE]; with_reducible rfl) ?_
    have hst := ch_step q i
    have hg := Nat.gcd_pos_of_pos_right (ch (q + i) i) (n := i + 1) (by omega)
    have hsg := step_gcd (o := ch (q + i) i) (i := i + 1) (f := q + i + 1) (c := ch (q + i + 1) (i + 1)) (by omega) hst
    have hgd := Nat.gcd_dvd_right (ch (q + i) i) (i + 1)
    have b1 := ch_bound (n := q + i) i (by omega)
    have b2 := ch_bound (n := q + i + 1) (i + 1) (by omega)
    generalize ch (q + i) i = o at *
    generalize Nat.gcd o (i + 1) = g at *
    have hj0 : 0 < (i + 1) / g := Nat.div_pos (Nat.le_of_dvd (by omega) hgd) hg
    have e2 : (o : Int).tdiv (g : Nat) = ((o / g : Nat) : Int) := (Int.ofNat_tdiv o g).symm
    have e3 : ((i + 1 : Nat) : Int).tdiv (g : Nat) = (((i + 1) / g : Nat) : Int) := (Int.ofNat_tdiv (i + 1) g).symm
    have e4 : ((q + i + 1 : Nat) : Int).tdiv (((i + 1) / g : Nat) : Int) = (((q + i + 1) / ((i + 1) / g) : Nat) : Int) := (Int.ofNat_tdiv _ _).symm
    have e5 : ((o / g : Nat) : Int) * (((q + i + 1) / ((i + 1) / g) : Nat) : Int) = ((ch (q + i + 1) (i + 1) : Nat) : Int) := by rw [← hsg]; push_cast; rfl
    have c1 := Nat.div_le_self o g
    have c2 := Nat.div_le_self (i + 1) g
    have c3 := Nat.div_le_self (q + i + 1) ((i + 1) / g)
    generalize o / g = u1 at *
    generalize (i + 1) / g = u2 at *
    generalize (q + i + 1) / u2 = u3 at *
    have n1 : ¬ ((g : Int) = 0) := by omega
    have n2 : ¬ ((u2 : Int) = 0) := by omega
    (repeat first|apply sA|apply sB|apply sC|apply sD|apply sE)
    refine V.lineD' (by simp +contextual (disch := first|omega|simp only[nx];omega) only[D4,qF,qG,qA,qB,qC,D5,hF,hA,↓reduceIte,qD,qE, e2, e3, e4, e5, n1, n2]; with_reducible rfl) ?_ ?_ rfl ?_
    · simp only[monoG, List.cons_append, List.nil_append, Heap.next_set, Heap.next_alloc, Nat.le_refl, true_and, and_true] <;> omega
    · simp only[dcAll, dcOk, wantD, List.cons_append, List.nil_append, true_and, and_true]
    have e7 : ((i + 1 : Nat) : Int) + 1 = ((i + 1 + 1 : Nat) : Int) := rfl
    refine V.re [(0, I ((q + j : Nat) : Int)), (1, I j), (5, I ((ch (q + i + 1) (i + 1) : Nat) : Int)), (6, I ((i + 1 : Nat) : Int))] (N := 43) (by intro;simp only[full_st,hF]) (by simp only[Kn, D5,hF,hA,↓reduceIte,qD,qE,and_self,and_true,true_and];try (repeat' constructor)) ?_
    clear hF hA
    intro t hF hA
    simp only[Kn, and_true] at hA
    (repeat first|apply sA|apply sB|apply sC|apply sD|apply sE)
    refine V.line' (by simp +contextual (disch := first|omega|simp only[nx];omega) only[D4,qF,qG,qA,qB,qC,D5,hF,hA,↓reduceIte,qD,qE, e7]; with_reducible rfl) ?_
    refine V.nil (Or.inl ⟨rfl, j - (i + 1), by omega, ?_⟩)
    refine ⟨i + 1, hij, rfl, rfl, gX.trans g2, ?_⟩
    have hq : ch (q + (i + 1)) (i + 1) = ch (q + i + 1) (i + 1) := rfl
    rw [hq]
    exact ⟨(by intro;simp only[full_st,hF]), (by simp only[Kn, D5,hF,hA,↓reduceIte,qD,qE,and_self,and_true,true_and];try (repeat' constructor))⟩
  · obtain rfl : i = j := by omega
    refine V.exit ?_
    (repeat first | refine V.pass ?_ | refine V.here ?_ | refine V.out (by decide) ?_)
    refine V.nil (Or.inr ⟨by simp, ?_⟩)
    (repeat first | refine V.pass ?_ | refine V.here ?_ | refine V.out (by decide) ?_)
    (repeat first|apply sA|apply sB|apply sC|apply sD|apply sE)
    refine V.line' (by simp +contextual (disch := first|omega|simp only[nx];omega) only[D4,qF,qG,qA,qB,qC,D5,hF,hA,↓reduceIte,qD,qE]; with_reducible rfl) ?_
    refine V.ret (V.rets rfl (Lv.retG (by simp +contextual (disch := first|omega|simp only[nx];omega) only[D1, cells_alloc_at, cells_alloc_ne, cells_set_at, cells_set_ne, yres, yres1, yresL, qA, qB, qC, D5,hF,hA,↓reduceIte,qD,qE]; rfl) ?_ ?_))
    · exact gX
    · rw [hcj]
theorem wf_small {n : Int} (h : 0 ≤ n ∧ n ≤ 1000) : (Lit.int .i64 n).wf = true := by
  simp only[Lit.wf, Bool.and_eq_true, decide_eq_true_eq]
  show (-9223372036854775808 : Int) ≤ n ∧ n ≤ 9223372036854775807
  omega
theorem kl_int {n : Int} (h : (Lit.int .i64 n).wf = true) (k : Nat) : Try.prog.keyLits (k + 1) 3 [I n] = some [.int .i64 n] := by
  unfold Program.keyLits
  simp only[Try.underlying3]
  rw [if_pos ⟨trivial, h⟩]
theorem key123 {a b : Int} (ha : (Lit.int .i64 a).wf = true) (hb : (Lit.int .i64 b).wf = true) : (keyOf Try.prog 123 (.agg ⟨A2 a b⟩)).isSome = true := by
  have c3 : Try.prog.cellsOf 3 = 1 := by kernel_rfl
  have c48 : Try.prog.cellsOf 123 = 2 := by kernel_rfl
  have h5 : (Program.keyType Try.prog 123 && (Value.agg ⟨[I a, I b]⟩).formed Try.prog 123) = true := by kernel_rfl
  obtain ⟨n, hn⟩ : ∃ n, Try.prog.types.size + 1 = n + 2 := ⟨Try.prog.types.size - 1, by have : 2 ≤ Try.prog.types.size := Nat.le_of_ble_eq_true (by kernel_rfl); omega⟩
  unfold keyOf
  simp only[Try.underlying123]
  rw [if_pos h5, hn]
  unfold Program.keyLits
  simp only[Try.underlying123, c48]
  have e : (Value.agg ⟨[I a, I b]⟩).cells.toList = [I a, I b] := rfl
  rw [e, if_pos ⟨rfl, by simp⟩]
  simp [c3, kl_int ha, kl_int hb]
theorem keyed123 : keyedB Try.prog 123 = true := by kernel_rfl
def tabW (es : List MapEntry) : Prop := ∀ e ∈ es, ∃ n k : Nat, e.key = .agg ⟨A2 n k⟩ ∧ e.val = I (ch n k : Nat)
abbrev PT (i : Nat) : Value := .pointer (some ⟨i, 0, none⟩)
abbrev cw (i j : Nat) : Value := .func (.func 78) ⟨[]⟩ ⟨[PT i, PT j]⟩
def Wy (H : Heap) (i j x : Nat) : Prop := Bx H i [.map (some x)] 121 ∧ Bx H j [cw i j] 33 ∧ i ≠ x ∧ j ≠ x ∧ ∃ es, Mp H x 123 es ∧ tabW es
theorem Wy.grow {H H' : Heap} {i j x : Nat} (h : Wy H i j x) (g : Grow H H') : Wy H' i j x := by
  obtain ⟨h1, h2, h3, h4, es, h5, h6⟩ := h
  exact ⟨h1.grow g, h2.grow g, h3, h4, es, h5.grow g, h6⟩
theorem f53_ok (H : Heap) : F Try.prog 53 ⟨[]⟩ H (fun v H' => ∃ i j x, v = cw i j ∧ H.next ≤ i ∧ H.next ≤ j ∧ H.next ≤ x ∧ Grow H H' ∧ Wy H' i j x) := by
  refine F.entryL rfl dg53 do53 de53 rfl (by kernel_rfl) ?_
  simp only[sets]
  refine V.re [] (N := 6) (by intro i; simp only[full_st, Full.mk]) (by simp only[Kn, gt_st, full_st, Full.mk, ↓reduceIte, qD, qE, decide_true, and_self]) ?_
  intro t hF hA
  (repeat first|apply sA|apply sB|apply sC|apply sD|apply sE)
  refine V.line' (by simp +contextual (disch := first|omega|simp only[nx];omega) only[D4,qF,qG,qA,qB,qC,D5,hF,hA,↓reduceIte,qD,qE]; with_reducible rfl) ?_
  (repeat first|apply sA|apply sB|apply sC|apply sD|apply sE)
  refine V.line' (by simp +contextual (disch := first|omega|simp only[nx];omega) only[D4,qF,qG,qA,qB,qC,D5,hF,hA,↓reduceIte,qD,qE]; with_reducible rfl) ?_
  (repeat first|apply sA|apply sB|apply sC|apply sD|apply sE)
  refine V.line' (by simp +contextual (disch := first|omega|simp only[nx];omega) only[D4,qF,qG,qA,qB,qC,D5,hF,hA,↓reduceIte,qD,qE]; with_reducible rfl) ?_
  (repeat first|apply sA|apply sB|apply sC|apply sD|apply sE)
  refine V.line' (by simp +contextual (disch := first|omega|simp only[nx];omega) only[D4,qF,qG,qA,qB,qC,D5,hF,hA,↓reduceIte,qD,qE]; with_reducible rfl) ?_
  (repeat first|apply sA|apply sB|apply sC|apply sD|apply sE)
  refine V.line' (by simp +contextual (disch := first|omega|simp only[nx];omega) only[D4,qF,qG,qA,qB,qC,D5,hF,hA,↓reduceIte,qD,qE]; with_reducible rfl) ?_
  (repeat first|apply sA|apply sB|apply sC|apply sD|apply sE)
  refine V.ret (V.rets rfl (Lv.retF (by simp +contextual (disch := first|omega|simp only[nx];omega) only[D1, cells_alloc_at, cells_alloc_ne, cells_set_at, cells_set_ne, yres, yres1, yresL, qA, qB, qC, D5,hF,hA,↓reduceIte,qD,qE]; rfl) ?_))
  refine ⟨H.next + 1, H.next + 2, H.next, rfl, by omega, by omega, by omega, ?_, ?_, ?_, by omega, by omega, [], ⟨?_, 0, ?_⟩, fun e he => by cases he⟩
  · (repeat first | assumption | exact Grow.refl _ | refine Grow.alloc ?_ _ | refine Grow.set ?_ (by first|omega|simp only[nx];omega) _)
  · (repeat first | assumption | exact Bx.new _ _ _ | exact Bx.newAt (by first|omega|simp only[nx];omega) | refine Bx.put (by first|omega|simp only[nx];omega) _ _ | refine Bx.alloc ?_ _ | refine Bx.set ?_ (by first|omega|simp only[nx];omega) _)
  · (repeat first | assumption | exact Bx.new _ _ _ | exact Bx.newAt (by first|omega|simp only[nx];omega) | refine Bx.put (by first|omega|simp only[nx];omega) _ _ | refine Bx.alloc ?_ _ | refine Bx.set ?_ (by first|omega|simp only[nx];omega) _)
  · first | omega | (simp only[Heap.next_set, Heap.next_alloc]; omega)
  · have n0 : (Heap.alloc H (.map 123 #[] 0)).next = H.next + 1 := rfl
    rw [maps_set_ne _ _ (by omega), maps_alloc_ne _ _ (by simp only[Heap.next_set, Heap.next_alloc]; omega), maps_set_ne _ _ (by omega), maps_alloc_ne _ _ (by omega), maps_alloc]
theorem upd_tab {H : Heap} {x n k : Nat} {es : List MapEntry} (hm : Mp H x 123 es) (ht : tabW es) (hn : n ≤ 60) (hk : k ≤ 60) :
    ∃ o, ymapUpdate Try.prog 123 H (.map (some x)) (.agg ⟨A2 n k⟩) (I (ch n k : Nat)) = some (H.set x o) ∧ ∃ es', Mp (H.set x o) x 123 es' ∧ tabW es' := by
  obtain ⟨hx, clk, hm⟩ := hm
  have hk1 := key123 (wf_small (n := (n : Int)) (by omega)) (wf_small (n := (k : Int)) (by omega))
  unfold ymapUpdate
  simp only[hm]
  rw [if_pos ⟨trivial, keyed123, rfl, hk1⟩]
  cases hf : xfind (.agg ⟨A2 n k⟩) es 0 with
  | none =>
    refine ⟨_, rfl, es ++ [{ key := .agg ⟨A2 n k⟩, val := I (ch n k : Nat), born := clk }], ⟨hx, clk + 1, ?_⟩, ?_⟩
    · rw [maps_set]; simp
    · intro e he
      rcases List.mem_append.1 he with he | he
      · exact ht e he
      · rw [List.mem_singleton.1 he]; exact ⟨n, k, rfl, rfl⟩
  | some y =>
    refine ⟨_, rfl, es.modify y (fun e => { e with key := .agg ⟨A2 n k⟩, val := I (ch n k : Nat) }), ⟨hx, clk, ?_⟩, ?_⟩
    · rw [maps_set]; simp
    · intro e he
      obtain ⟨w, hw⟩ := List.getElem?_of_mem he
      rw [List.getElem?_modify] at hw
      cases hl : es[w]? with
      | none => rw [hl] at hw; cases hw
      | some e0 =>
        rw [hl] at hw
        simp only[Option.map_some, Option.map_eq_map, Option.some.injEq] at hw
        split at hw
        · subst hw; exact ⟨n, k, rfl, rfl⟩
        · subst hw; exact ht e0 (List.mem_of_getElem? hl)
theorem f78_ok : ∀ (n k : Nat) {H : Heap} {i j x : Nat}, n ≤ 60 → k ≤ 60 → Wy H i j x → F Try.prog 78 ⟨[I n, I k, PT i, PT j]⟩ H (fun v H' => v = I (ch n k : Nat) ∧ GrowX x H H' ∧ Wy H' i j x) := by
  intro n
  induction n with
  | zero =>
    intro k H i j x hn hk hw
    generalize hz : 0 = z at hn
    refine F.entryL rfl dg78 do78 de78 rfl (by kernel_rfl) ?_
    simp only[sets]
    refine V.re [(0, I z), (1, I k), (2, PT i), (3, PT j)] (N := 47) (by intro i; simp only[full_st, Full.mk]) (by simp only[Kn, gt_st, full_st, Full.mk, ↓reduceIte, qD, qE, decide_true, and_self]) ?_
    intro t hF hA
    simp only[Kn, and_true] at hA
    (repeat first|apply sA|apply sB|apply sC|apply sD|apply sE)
    refine V.line' (by simp +contextual (disch := first|omega|simp only[nx];omega) only[D4,qF,qG,qA,qB,qC,D5,hF,hA,↓reduceIte,qD,qE]; with_reducible rfl) ?_
    (repeat first|apply sA|apply sB|apply sC|apply sD|apply sE)
    refine V.line' (by simp +contextual (disch := first|omega|simp only[nx];omega) only[D4,qF,qG,qA,qB,qC,D5,hF,hA,↓reduceIte,qD,qE]; with_reducible rfl) ?_
    (repeat first|apply sA|apply sB|apply sC|apply sD|apply sE)
    refine V.condP (by simp only[D6,D5,hF,hA,↓reduceIte,qD,qE]; rfl) (fun h => ?_) (fun h => ?_)
    · (repeat first|apply sA|apply sB|apply sC|apply sD|apply sE)
      refine V.line' (by simp +contextual (disch := first|omega|simp only[nx];omega) only[D4,qF,qG,qA,qB,qC,D5,hF,hA,↓reduceIte,qD,qE]; with_reducible rfl) ?_
      refine V.ret (V.rets rfl (Lv.retF (by simp +contextual (disch := first|omega|simp only[nx];omega) only[D1, cells_alloc_at, cells_alloc_ne, cells_set_at, cells_set_ne, yres, yres1, yresL, qA, qB, qC, D5,hF,hA,↓reduceIte,qD,qE]; rfl) ?_))
      refine ⟨?_, (Grow.refl H).x x, hw⟩
      rw [ch_lt (by omega)]; rfl
    obtain rfl : k = 0 := by omega
    subst hz
    (repeat first|apply sA|apply sB|apply sC|apply sD|apply sE)
    refine V.line' (by simp +contextual (disch := first|omega|simp only[nx];omega) only[D4,qF,qG,qA,qB,qC,D5,hF,hA,↓reduceIte,qD,qE]; with_reducible rfl) ?_
    (repeat first|apply sA|apply sB|apply sC|apply sD|apply sE)
    refine V.condT (by simp only[D6,D5,hF,hA,↓reduceIte,qD,qE]) ?_
    (repeat first|apply sA|apply sB|apply sC|apply sD|apply sE)
    refine V.line' (by simp +contextual (disch := first|omega|simp only[nx];omega) only[D4,qF,qG,qA,qB,qC,D5,hF,hA,↓reduceIte,qD,qE]; with_reducible rfl) ?_
    refine V.ret (V.rets rfl (Lv.retF (by simp +contextual (disch := first|omega|simp only[nx];omega) only[D1, cells_alloc_at, cells_alloc_ne, cells_set_at, cells_set_ne, yres, yres1, yresL, qA, qB, qC, D5,hF,hA,↓reduceIte,qD,qE]; rfl) ?_))
    exact ⟨rfl, (Grow.refl H).x x, hw⟩
  | succ n ih =>
    intro k H i j x hn hk hw
    obtain ⟨b1, c1, hix, hjx, es, hm, ht⟩ := id hw
    generalize hz : n + 1 = z at hn
    refine F.entryL rfl dg78 do78 de78 rfl (by kernel_rfl) ?_
    simp only[sets]
    refine V.re [(0, I z), (1, I k), (2, PT i), (3, PT j)] (N := 47) (by intro i; simp only[full_st, Full.mk]) (by simp only[Kn, gt_st, full_st, Full.mk, ↓reduceIte, qD, qE, decide_true, and_self]) ?_
    intro t hF hA
    simp only[Kn, and_true] at hA
    (repeat first|apply sA|apply sB|apply sC|apply sD|apply sE)
    refine V.line' (by simp +contextual (disch := first|omega|simp only[nx];omega) only[D4,qF,qG,qA,qB,qC,D5,hF,hA,↓reduceIte,qD,qE]; with_reducible rfl) ?_
    (repeat first|apply sA|apply sB|apply sC|apply sD|apply sE)
    refine V.line' (by simp +contextual (disch := first|omega|simp only[nx];omega) only[D4,qF,qG,qA,qB,qC,D5,hF,hA,↓reduceIte,qD,qE]; with_reducible rfl) ?_
    (repeat first|apply sA|apply sB|apply sC|apply sD|apply sE)
    refine V.condP (by simp only[D6,D5,hF,hA,↓reduceIte,qD,qE]; rfl) (fun h => ?_) (fun h => ?_)
    · (repeat first|apply sA|apply sB|apply sC|apply sD|apply sE)
      refine V.line' (by simp +contextual (disch := first|omega|simp only[nx];omega) only[D4,qF,qG,qA,qB,qC,D5,hF,hA,↓reduceIte,qD,qE]; with_reducible rfl) ?_
      refine V.ret (V.rets rfl (Lv.retF (by simp +contextual (disch := first|omega|simp only[nx];omega) only[D1, cells_alloc_at, cells_alloc_ne, cells_set_at, cells_set_ne, yres, yres1, yresL, qA, qB, qC, D5,hF,hA,↓reduceIte,qD,qE]; rfl) ?_))
      refine ⟨?_, (Grow.refl H).x x, hw⟩
      rw [ch_lt (by omega)]; rfl
    (repeat first|apply sA|apply sB|apply sC|apply sD|apply sE)
    refine V.line' (by simp +contextual (disch := first|omega|simp only[nx];omega) only[D4,qF,qG,qA,qB,qC,D5,hF,hA,↓reduceIte,qD,qE]; with_reducible rfl) ?_
    (repeat first|apply sA|apply sB|apply sC|apply sD|apply sE)
    refine V.condP (by simp only[D6,D5,hF,hA,↓reduceIte,qD,qE]; rfl) (fun h1 => ?_) (fun h1 => ?_)
    · (repeat first|apply sA|apply sB|apply sC|apply sD|apply sE)
      refine V.line' (by simp +contextual (disch := first|omega|simp only[nx];omega) only[D4,qF,qG,qA,qB,qC,D5,hF,hA,↓reduceIte,qD,qE]; with_reducible rfl) ?_
      refine V.ret (V.rets rfl (Lv.retF (by simp +contextual (disch := first|omega|simp only[nx];omega) only[D1, cells_alloc_at, cells_alloc_ne, cells_set_at, cells_set_ne, yres, yres1, yresL, qA, qB, qC, D5,hF,hA,↓reduceIte,qD,qE]; rfl) ?_))
      refine ⟨?_, (Grow.refl H).x x, hw⟩
      rcases h1 with h1 | h1
      · obtain rfl : k = 0 := by omega
        rw [ch_z]; rfl
      · obtain rfl : k = z := by omega
        rw [ch_self]; rfl
    obtain ⟨q, rfl⟩ : ∃ q, k = q + 1 := ⟨k - 1, by omega⟩
    have hk1 := key123 (wf_small (n := (z : Int)) (by omega)) (wf_small (n := ((q + 1 : Nat) : Int)) (by omega))
    have e1 : (z : Int) - 1 = n := by omega
    have e2 : ((q + 1 : Nat) : Int) - 1 = q := by omega
    obtain ⟨_, clk, hm2⟩ := hm
    cases hf : xfind (.agg ⟨A2 z ((q + 1 : Nat) : Int)⟩) es 0 with
    | some y =>
      obtain ⟨_, e, he, hke⟩ := xfind_some hf
      rw [Nat.sub_zero] at he
      obtain ⟨n', k', hk', hv'⟩ := ht e (List.mem_of_getElem? he)
      have hww : n' = z ∧ k' = q + 1 := by
        rw [hk'] at hke
        simp at hke
        omega
      obtain ⟨rfl, rfl⟩ := hww
      have hl := look_hit (P := Try.prog) (z := I 0) hm2 keyed123 rfl hk1 hf (by simpa using he)
      rw [hv'] at hl
      (repeat first|apply sA|apply sB|apply sC|apply sD|apply sE)
      refine V.line' (by simp +contextual (disch := first|omega|simp only[nx];omega) only[D4,qF,qG,qA,qB,qC,D5,hF,hA,↓reduceIte,qD,qE, b1.2, hl]; with_reducible rfl) ?_
      (repeat first|apply sA|apply sB|apply sC|apply sD|apply sE)
      refine V.line' (by simp +contextual (disch := first|omega|simp only[nx];omega) only[D4,qF,qG,qA,qB,qC,D5,hF,hA,↓reduceIte,qD,qE]; with_reducible rfl) ?_
      (repeat first|apply sA|apply sB|apply sC|apply sD|apply sE)
      refine V.condF (by simp only[D6,D5,hF,hA,↓reduceIte,qD,qE]) ?_
      (repeat first|apply sA|apply sB|apply sC|apply sD|apply sE)
      refine V.line' (by simp +contextual (disch := first|omega|simp only[nx];omega) only[D4,qF,qG,qA,qB,qC,D5,hF,hA,↓reduceIte,qD,qE]; with_reducible rfl) ?_
      (repeat first|apply sA|apply sB|apply sC|apply sD|apply sE)
      refine V.ret (V.rets rfl (Lv.retF (by simp +contextual (disch := first|omega|simp only[nx];omega) only[D1, cells_alloc_at, cells_alloc_ne, cells_set_at, cells_set_ne, yres, yres1, yresL, qA, qB, qC, D5,hF,hA,↓reduceIte,qD,qE]; rfl) ?_))
      exact ⟨rfl, (Grow.refl H).x x, hw⟩
    | none =>
      have hl := look_miss (P := Try.prog) (z := I 0) hm2 keyed123 rfl hk1 hf
      (repeat first|apply sA|apply sB|apply sC|apply sD|apply sE)
      refine V.line' (by simp +contextual (disch := first|omega|simp only[nx];omega) only[D4,qF,qG,qA,qB,qC,D5,hF,hA,↓reduceIte,qD,qE, b1.2, hl]; with_reducible rfl) ?_
      (repeat first|apply sA|apply sB|apply sC|apply sD|apply sE)
      refine V.line' (by simp +contextual (disch := first|omega|simp only[nx];omega) only[D4,qF,qG,qA,qB,qC,D5,hF,hA,↓reduceIte,qD,qE]; with_reducible rfl) ?_
      (repeat first|apply sA|apply sB|apply sC|apply sD|apply sE)
      refine V.condT (by simp only[D6,D5,hF,hA,↓reduceIte,qD,qE]) ?_
      (repeat first|apply sA|apply sB|apply sC|apply sD|apply sE)
      refine V.draw ?_
      refine VD.dins 4 (by simp +contextual (disch := first|omega|simp only[nx];omega) only[D4,qF,qG,qA,qB,qC,D5,hF,hA,↓reduceIte,qD,qE, c1.2, e1]; with_reducible rfl) ?_
      simp only[ds]
      refine VD.callR (by simp only[D6,D5,hF,hA,↓reduceIte,qD,qE]; try rfl) (ih (q + 1) (by omega) (by omega) hw) (by simp only[D6,D5,hF,hA,↓reduceIte,qD,qE]; try rfl) (fun v1 Ha ⟨h1, ga, wa⟩ => ?_)
      subst h1
      refine VD.dins 5 (by simp +contextual (disch := first|omega|simp only[nx];omega) only[D4,qF,qG,qA,qB,qC,D5,hF,hA,↓reduceIte,qD,qE, wa.2.1.2, e1, e2]; with_reducible rfl) ?_
      simp only[ds]
      refine VD.callR (by simp only[D6,D5,hF,hA,↓reduceIte,qD,qE]; try rfl) (ih q (by omega) (by omega) wa) (by simp only[D6,D5,hF,hA,↓reduceIte,qD,qE]; try rfl) (fun v2 Hb ⟨h2, gb, wb⟩ => ?_)
      subst h2
      have c1' := ch_bound (n := n) q (by omega)
      have c2' := ch_bound (n := n) (q + 1) (by omega)
      have e3 : ((ch n (q + 1) : Nat) : Int) + ((ch n q : Nat) : Int) = ((ch z (q + 1) : Nat) : Int) := by rw [← hz, ch_ss]; omega
      have c3' := ch_bound (n := z) (q + 1) (by omega)
      refine VD.lineD' (by simp +contextual (disch := first|omega|simp only[nx];omega) only[D4,qF,qG,qA,qB,qC,D5,hF,hA,↓reduceIte,qD,qE, e3]; with_reducible rfl) ?_ ?_ rfl ?_
      · have n1 := ga.1
        have n2 := gb.1
        simp only[monoG, List.cons_append, List.nil_append, Heap.next_set, Heap.next_alloc, Nat.le_refl, true_and, and_true] <;> omega
      · simp only[dcAll, dcOk, wantD, List.cons_append, List.nil_append, true_and, and_true]
        exact fun _ q hq => by simp only[List.mem_cons, List.not_mem_nil, or_false] at hq; (repeat (rcases hq with rfl | hq; exact ⟨_, _, _, rfl, (by simp +contextual (disch := first|omega|simp only[nx];omega) only[D4,qF,qG,qA,qB,qC,D5,hF,hA,↓reduceIte,qD,qE, c1.2, wa.2.1.2, wb.2.1.2]; with_reducible rfl), fun p hp => by cases hp; simp only[D5,hF,hA,↓reduceIte,qD,qE]; first | exact vEq_An | (simp [vEq, vEq0, all2]; done) | assumption⟩)); (try (subst hq; exact ⟨_, _, _, rfl, (by simp +contextual (disch := first|omega|simp only[nx];omega) only[D4,qF,qG,qA,qB,qC,D5,hF,hA,↓reduceIte,qD,qE, c1.2, wa.2.1.2, wb.2.1.2]; with_reducible rfl), fun p hp => by cases hp; simp only[D5,hF,hA,↓reduceIte,qD,qE]; first | exact vEq_An | (simp [vEq, vEq0, all2]; done) | assumption⟩))
      obtain ⟨b4, c4, _, _, es4, hm4, ht4⟩ := id wb
      obtain ⟨o, hu, es5, hm5, ht5⟩ := upd_tab hm4 ht4 hn hk
      (repeat first|apply sA|apply sB|apply sC|apply sD|apply sE)
      refine V.line' (by simp +contextual (disch := first|omega|simp only[nx];omega) only[D4,qF,qG,qA,qB,qC,D5,hF,hA,↓reduceIte,qD,qE, b4.2, hu]; with_reducible rfl) ?_
      (repeat first|apply sA|apply sB|apply sC|apply sD|apply sE)
      refine V.line' (by simp +contextual (disch := first|omega|simp only[nx];omega) only[D4,qF,qG,qA,qB,qC,D5,hF,hA,↓reduceIte,qD,qE]; with_reducible rfl) ?_
      (repeat first|apply sA|apply sB|apply sC|apply sD|apply sE)
      refine V.ret (V.rets rfl (Lv.retF (by simp +contextual (disch := first|omega|simp only[nx];omega) only[D1, cells_alloc_at, cells_alloc_ne, cells_set_at, cells_set_ne, yres, yres1, yresL, qA, qB, qC, D5,hF,hA,↓reduceIte,qD,qE]; rfl) ?_))
      have gx : GrowX x Hb (Hb.set x o) := ((Grow.refl Hb).x x).set o
      exact ⟨rfl, (ga.trans gb).trans gx, b4.growX gx hix, c4.growX gx hjx, hix, hjx, es5, hm5, ht5⟩
end Go.Xe.TMX
