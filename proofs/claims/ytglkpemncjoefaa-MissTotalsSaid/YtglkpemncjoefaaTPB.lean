/- What the statement MissTotals comes to. Conditions: none. -/
import Derived.Test.YtglkpemncjoefaaTPA
-- MOD TM
namespace Go.Xe.TMX
open Go Go.Xe Go.Proofs Go.Xe.Mth
open Nat renaming reduceLeDiff → qA, reduceSub → qB, reduceAdd → qC, reduceEqDiff → qD, reduceLT → qE
open Int renaming reduceNegSucc → qF, reduceEq → qG
open Go.Xe.V renaming seq → sA, block → sB, scope → sC, skip → sD, close → sE
open Go.Xe renaming pth → P
set_option maxRecDepth 100000
set_option maxHeartbeats 6400000
set_option linter.unusedSimpArgs false
noncomputable def d6 : FCode := (.seq (.run (.go (.box 41 (.tmp (P 1))) (P 3)::
.go (.move (.con (.bool false))) (P 4)::
[])) (.seq (.seq (.run (.go (.move (.tmp (P 0))) (P 17)::
.go (.len 0 (.tmp (P 17))) (P 18)::
.go (.bin .gtr 3 (.tmp (P 18)) (.con (.int .i64 (.ofNat 9)))) (P 19)::
[])) (.cond (.tmp (P 19)) (.seq (.run (.go (.call (.con (.func (.func 24) ⟨[]⟩ ⟨[]⟩)) []) (P 20)::
.go (.move (.tmp (P 20))) (P 4)::
[])) .ret) .skip)) (.seq (.draw 11 (.go (.move (.tmp (P 0))) (P 22)::
.go (.call (.con (.func (.func 35) ⟨[]⟩ ⟨[]⟩)) [(.tmp (P 22))]) (P 23)::
.go (.loadN 2 (.tmp (P 3))) (P 24)::
.go (.call (.con (.func (.func 28) ⟨[]⟩ ⟨[]⟩)) [(.tmp (P 24))]) (P 25)::
.go (.call (.con (.func (.func 34) ⟨[]⟩ ⟨[]⟩)) [(.tmp (P 23)),(.tmp (P 25))]) (P 26)::
.go (.move (.tmp (P 26))) (P 21)::
.go (.extract (.tmp (P 21)) 0) (P 27)::
.go (.extract (.tmp (P 21)) 1) (P 28)::
.go (.alloc 53 [(.int .i64 (.ofNat 0)),(.int .i64 (.ofNat 0))]) (P 5)::
.un (.store 2 (.tmp (P 5)) (.tmp (P 27)))::
.go (.move (.tmp (P 28))) (P 6)::
[]) [.ok,.ok,.rd none (.loadN 2 (.tmp (P 3))) (some (P 24)) [0],.ok,.ok,.ok,.ok,.ok,.nw none (some (P 5)) 8 true,.ok,.ok]) (.seq (.run (.go (.move (.con (.int .i64 (.ofNat 0)))) (P 7)::
[])) (.seq (.seq (.run (.go (.move (.con (.int .i64 (.ofNat 0)))) (P 8)::
[])) (.block 0 (.loop (.seq (.seq (.run (.go (.move (.tmp (P 8))) (P 29)::
.go (.move (.tmp (P 0))) (P 30)::
.go (.len 0 (.tmp (P 30))) (P 31)::
.go (.bin .lss 3 (.tmp (P 29)) (.tmp (P 31))) (P 32)::
[])) (.cond (.tmp (P 32)) .skip (.exit 0))) (.seq (.block 1 (.seq (.run (.go (.move (.tmp (P 0))) (P 35)::
.go (.move (.tmp (P 8))) (P 36)::
.go (.indexAddr none 4 (.tmp (P 35)) (.tmp (P 36))) (P 37)::
.go (.loadN 4 (.tmp (P 37))) (P 38)::
.go (.call (.con (.func (.func 22) ⟨[]⟩ ⟨[]⟩)) [(.tmp (P 38))]) (P 39)::
.go (.bin .neq 24 (.tmp (P 39)) (.con (.int .i64 (.ofNat 0)))) (P 40)::
[])) (.cond (.tmp (P 40)) (.run (.go (.move (.con (.int .i64 (.ofNat 1)))) (P 7)::
[])) .skip))) (.run (.go (.move (.tmp (P 8))) (P 33)::
.go (.bin .add 3 (.tmp (P 33)) (.con (.int .i64 (.ofNat 1)))) (P 34)::
.go (.move (.tmp (P 34))) (P 8)::
[]))))))) (.seq (.seq (.run (.go (.move (.tmp (P 7))) (P 41)::
.go (.bin .eql 24 (.tmp (P 41)) (.con (.int .i64 (.ofNat 0)))) (P 42)::
.go (.move (.tmp (P 42))) (P 43)::
.gd (P 43) true (.loadN 2 (.tmp (P 3))) (P 44)::
.gd (P 43) true (.call (.con (.func (.func 36) ⟨[]⟩ ⟨[]⟩)) [(.tmp (P 44))]) (P 45)::
.gd (P 43) true (.un .not (.tmp (P 45))) (P 46)::
.go (.pick (.tmp (P 43)) (.tmp (P 46)) (.con (.bool false))) (P 47)::
[])) (.cond (.tmp (P 47)) (.run (.go (.move (.con (.int .i64 (.ofNat 2)))) (P 7)::
[])) .skip)) (.seq (.seq (.run (.go (.move (.tmp (P 0))) (P 48)::
.go (.len 0 (.tmp (P 48))) (P 49)::
.go (.bin .gtr 3 (.tmp (P 49)) (.con (.int .i64 (.ofNat 6)))) (P 50)::
[])) (.cond (.tmp (P 50)) (.run (.go (.move (.con (.int .i64 (.ofNat 3)))) (P 7)::
[])) .skip)) (.seq (.run (.go (.alloc 59 [(.int .i64 (.ofNat 0)),(.int .i64 (.ofNat 0))]) (P 9)::
[])) (.seq (.seq (.run (.go (.move (.con (.int .i64 (.ofNat 0)))) (P 10)::
[])) (.block 2 (.loop (.seq (.seq (.run (.go (.move (.tmp (P 10))) (P 51)::
.go (.move (.tmp (P 0))) (P 52)::
.go (.len 0 (.tmp (P 52))) (P 53)::
.go (.bin .lss 3 (.tmp (P 51)) (.tmp (P 53))) (P 54)::
.go (.move (.tmp (P 54))) (P 55)::
.gd (P 55) true (.move (.tmp (P 7))) (P 56)::
.gd (P 55) true (.bin .eql 24 (.tmp (P 56)) (.con (.int .i64 (.ofNat 0)))) (P 57)::
.go (.pick (.tmp (P 55)) (.tmp (P 57)) (.con (.bool false))) (P 58)::
[])) (.cond (.tmp (P 58)) .skip (.exit 2))) (.seq (.block 3 (.seq (.draw 12 (.go (.move (.tmp (P 0))) (P 62)::
.go (.move (.tmp (P 10))) (P 63)::
.go (.indexAddr none 4 (.tmp (P 62)) (.tmp (P 63))) (P 64)::
.go (.loadN 4 (.tmp (P 64))) (P 65)::
.go (.loadN 2 (.tmp (P 3))) (P 66)::
.go (.call (.con (.func (.func 37) ⟨[]⟩ ⟨[]⟩)) [(.tmp (P 65)),(.tmp (P 66))]) (P 67)::
.go (.move (.tmp (P 67))) (P 61)::
.go (.extract (.tmp (P 61)) 0) (P 68)::
.go (.extract (.tmp (P 61)) 1) (P 69)::
.go (.alloc 59 [(.int .i64 (.ofNat 0)),(.int .i64 (.ofNat 0))]) (P 11)::
.un (.store 2 (.tmp (P 11)) (.tmp (P 68)))::
.go (.move (.tmp (P 69))) (P 12)::
[]) [.ok,.ok,.ok,.ok,.ok,.ok,.ok,.ok,.ok,.nw none (some (P 11)) 9 true,.ok,.ok]) (.seq (.seq (.run (.go (.move (.tmp (P 12))) (P 70)::
.go (.un .not (.tmp (P 70))) (P 71)::
[])) (.cond (.tmp (P 71)) (.run (.go (.move (.con (.int .i64 (.ofNat 9)))) (P 7)::
[])) .skip)) (.run (.go (.fieldAddr 0 (.tmp (P 9))) (P 72)::
.go (.load1 (.tmp (P 72))) (P 73)::
.go (.fieldAddr 0 (.tmp (P 11))) (P 74)::
.go (.load1 (.tmp (P 74))) (P 75)::
.go (.bin .add 3 (.tmp (P 73)) (.tmp (P 75))) (P 76)::
.go (.fieldAddr 1 (.tmp (P 9))) (P 77)::
.go (.load1 (.tmp (P 77))) (P 78)::
.go (.fieldAddr 1 (.tmp (P 11))) (P 79)::
.go (.load1 (.tmp (P 79))) (P 80)::
.go (.bin .add 3 (.tmp (P 78)) (.tmp (P 80))) (P 81)::
.go (.build [(.int .i64 (.ofNat 0)),(.int .i64 (.ofNat 0))] [(0,1,(.tmp (P 76))),(1,1,(.tmp (P 81)))]) (P 82)::
.un (.store 2 (.tmp (P 9)) (.tmp (P 82)))::
[]))))) (.run (.go (.move (.tmp (P 10))) (P 59)::
.go (.bin .add 3 (.tmp (P 59)) (.con (.int .i64 (.ofNat 1)))) (P 60)::
.go (.move (.tmp (P 60))) (P 10)::
[]))))))) (.seq (.seq (.run (.go (.move (.tmp (P 7))) (P 83)::
.go (.bin .neq 24 (.tmp (P 83)) (.con (.int .i64 (.ofNat 0)))) (P 84)::
[])) (.cond (.tmp (P 84)) (.run (.go (.build [(.int .i64 (.ofNat 0)),(.int .i64 (.ofNat 0))] []) (P 85)::
.un (.store 2 (.tmp (P 9)) (.tmp (P 85)))::
[])) .skip)) (.seq (.seq (.draw 9 (.go (.move (.tmp (P 6))) (P 86)::
.go (.move (.tmp (P 7))) (P 87)::
.go (.bin .neq 24 (.tmp (P 86)) (.tmp (P 87))) (P 88)::
.go (.move (.tmp (P 88))) (P 89)::
.gd (P 89) false (.loadN 2 (.tmp (P 5))) (P 90)::
.gd (P 89) false (.loadN 2 (.tmp (P 9))) (P 91)::
.gd (P 89) false (.call (.con (.func (.func 38) ⟨[]⟩ ⟨[]⟩)) [(.tmp (P 91))]) (P 92)::
.gd (P 89) false (.bin .neq 53 (.tmp (P 90)) (.tmp (P 92))) (P 93)::
.go (.pick (.tmp (P 89)) (.con (.bool true)) (.tmp (P 93))) (P 94)::
[]) [.ok,.ok,.ok,.ok,.rd (some ((P 89),false)) (.loadN 2 (.tmp (P 5))) (some (P 90)) [7],.ok,.ok,.ok,.ok]) (.cond (.tmp (P 94)) (.seq (.run (.go (.move (.con (.bool false))) (P 4)::
[])) .ret) .skip)) (.seq (.seq (.run (.go (.move (.tmp (P 0))) (P 95)::
.go (.len 0 (.tmp (P 95))) (P 96)::
.go (.bin .eql 3 (.tmp (P 96)) (.con (.int .i64 (.ofNat 0)))) (P 97)::
[])) (.cond (.tmp (P 97)) (.seq (.run (.go (.call (.con (.func (.func 24) ⟨[]⟩ ⟨[]⟩)) []) (P 98)::
.go (.move (.tmp (P 98))) (P 4)::
[])) .ret) .skip)) (.seq (.draw 13 (.go (.move (.tmp (P 0))) (P 100)::
.go (.indexAddr none 4 (.tmp (P 100)) (.con (.int .i64 (.ofNat 0)))) (P 101)::
.go (.loadN 4 (.tmp (P 101))) (P 102)::
.go (.call (.con (.func (.func 21) ⟨[]⟩ ⟨[]⟩)) [(.tmp (P 102))]) (P 103)::
.go (.loadN 2 (.tmp (P 3))) (P 104)::
.go (.call (.con (.func (.func 28) ⟨[]⟩ ⟨[]⟩)) [(.tmp (P 104))]) (P 105)::
.go (.call (.con (.func (.func 39) ⟨[]⟩ ⟨[]⟩)) [(.tmp (P 103)),(.tmp (P 105))]) (P 106)::
.go (.move (.tmp (P 106))) (P 99)::
.go (.extract (.tmp (P 99)) 0) (P 107)::
.go (.extract (.tmp (P 99)) 1) (P 108)::
.go (.alloc 53 [(.int .i64 (.ofNat 0)),(.int .i64 (.ofNat 0))]) (P 13)::
.un (.store 2 (.tmp (P 13)) (.tmp (P 107)))::
.go (.move (.tmp (P 108))) (P 14)::
[]) [.ok,.ok,.ok,.ok,.rd none (.loadN 2 (.tmp (P 3))) (some (P 104)) [0],.ok,.ok,.ok,.ok,.ok,.nw none (some (P 13)) 10 true,.ok,.ok]) (.seq (.block 4 (.seq (.run (.go (.move (.tmp (P 0))) (P 110)::
.go (.indexAddr none 4 (.tmp (P 110)) (.con (.int .i64 (.ofNat 0)))) (P 111)::
.go (.loadN 4 (.tmp (P 111))) (P 112)::
.go (.call (.con (.func (.func 22) ⟨[]⟩ ⟨[]⟩)) [(.tmp (P 112))]) (P 113)::
.go (.bin .neq 24 (.tmp (P 113)) (.con (.int .i64 (.ofNat 0)))) (P 114)::
.go (.move (.tmp (P 114))) (P 109)::
[])) (.cond (.tmp (P 109)) (.seq (.run (.go (.move (.tmp (P 14))) (P 115)::
.go (.bin .eql 24 (.tmp (P 115)) (.con (.int .i64 (.ofNat 1)))) (P 116)::
.go (.move (.tmp (P 116))) (P 117)::
.gd (P 117) true (.loadN 2 (.tmp (P 13))) (P 118)::
.gd (P 117) true (.build [(.int .i64 (.ofNat 0)),(.int .i64 (.ofNat 0))] []) (P 119)::
.gd (P 117) true (.bin .eql 53 (.tmp (P 118)) (.tmp (P 119))) (P 120)::
.go (.pick (.tmp (P 117)) (.tmp (P 120)) (.con (.bool false))) (P 121)::
.go (.move (.tmp (P 121))) (P 122)::
.gd (P 122) true (.call (.con (.func (.func 24) ⟨[]⟩ ⟨[]⟩)) []) (P 123)::
.go (.pick (.tmp (P 122)) (.tmp (P 123)) (.con (.bool false))) (P 124)::
.go (.move (.tmp (P 124))) (P 4)::
[])) .ret) (.seq (.run (.go (.loadN 2 (.tmp (P 3))) (P 126)::
.go (.call (.con (.func (.func 36) ⟨[]⟩ ⟨[]⟩)) [(.tmp (P 126))]) (P 127)::
.go (.un .not (.tmp (P 127))) (P 128)::
.go (.move (.tmp (P 128))) (P 125)::
[])) (.cond (.tmp (P 125)) (.seq (.run (.go (.move (.tmp (P 14))) (P 129)::
.go (.bin .eql 24 (.tmp (P 129)) (.con (.int .i64 (.ofNat 2)))) (P 130)::
.go (.move (.tmp (P 130))) (P 131)::
.gd (P 131) true (.loadN 2 (.tmp (P 13))) (P 132)::
.gd (P 131) true (.build [(.int .i64 (.ofNat 0)),(.int .i64 (.ofNat 0))] []) (P 133)::
.gd (P 131) true (.bin .eql 53 (.tmp (P 132)) (.tmp (P 133))) (P 134)::
.go (.pick (.tmp (P 131)) (.tmp (P 134)) (.con (.bool false))) (P 135)::
.go (.move (.tmp (P 135))) (P 136)::
.gd (P 136) true (.call (.con (.func (.func 24) ⟨[]⟩ ⟨[]⟩)) []) (P 137)::
.go (.pick (.tmp (P 136)) (.tmp (P 137)) (.con (.bool false))) (P 138)::
.go (.move (.tmp (P 138))) (P 4)::
[])) .ret) .skip))))) (.seq (.draw 11 (.go (.move (.tmp (P 0))) (P 140)::
.go (.indexAddr none 4 (.tmp (P 140)) (.con (.int .i64 (.ofNat 0)))) (P 141)::
.go (.loadN 4 (.tmp (P 141))) (P 142)::
.go (.loadN 2 (.tmp (P 3))) (P 143)::
.go (.call (.con (.func (.func 37) ⟨[]⟩ ⟨[]⟩)) [(.tmp (P 142)),(.tmp (P 143))]) (P 144)::
.go (.move (.tmp (P 144))) (P 139)::
.go (.extract (.tmp (P 139)) 0) (P 145)::
.go (.extract (.tmp (P 139)) 1) (P 146)::
.go (.alloc 59 [(.int .i64 (.ofNat 0)),(.int .i64 (.ofNat 0))]) (P 15)::
.un (.store 2 (.tmp (P 15)) (.tmp (P 145)))::
.go (.move (.tmp (P 146))) (P 16)::
[]) [.ok,.ok,.ok,.ok,.ok,.ok,.ok,.ok,.nw none (some (P 15)) 8 true,.ok,.ok]) (.seq (.seq (.run (.go (.move (.tmp (P 16))) (P 147)::
.go (.un .not (.tmp (P 147))) (P 148)::
[])) (.cond (.tmp (P 148)) (.seq (.run (.go (.move (.tmp (P 14))) (P 149)::
.go (.bin .eql 24 (.tmp (P 149)) (.con (.int .i64 (.ofNat 9)))) (P 150)::
.go (.move (.tmp (P 150))) (P 151)::
.gd (P 151) true (.loadN 2 (.tmp (P 13))) (P 152)::
.gd (P 151) true (.build [(.int .i64 (.ofNat 0)),(.int .i64 (.ofNat 0))] []) (P 153)::
.gd (P 151) true (.bin .eql 53 (.tmp (P 152)) (.tmp (P 153))) (P 154)::
.go (.pick (.tmp (P 151)) (.tmp (P 154)) (.con (.bool false))) (P 155)::
.go (.move (.tmp (P 155))) (P 156)::
.gd (P 156) true (.call (.con (.func (.func 24) ⟨[]⟩ ⟨[]⟩)) []) (P 157)::
.go (.pick (.tmp (P 156)) (.tmp (P 157)) (.con (.bool false))) (P 158)::
.go (.move (.tmp (P 158))) (P 4)::
[])) .ret) .skip)) (.seq (.draw 12 (.go (.move (.tmp (P 14))) (P 159)::
.go (.bin .eql 24 (.tmp (P 159)) (.con (.int .i64 (.ofNat 0)))) (P 160)::
.go (.move (.tmp (P 160))) (P 161)::
.gd (P 161) true (.loadN 2 (.tmp (P 13))) (P 162)::
.gd (P 161) true (.loadN 2 (.tmp (P 15))) (P 163)::
.gd (P 161) true (.call (.con (.func (.func 38) ⟨[]⟩ ⟨[]⟩)) [(.tmp (P 163))]) (P 164)::
.gd (P 161) true (.bin .eql 53 (.tmp (P 162)) (.tmp (P 164))) (P 165)::
.go (.pick (.tmp (P 161)) (.tmp (P 165)) (.con (.bool false))) (P 166)::
.go (.move (.tmp (P 166))) (P 167)::
.gd (P 167) true (.call (.con (.func (.func 24) ⟨[]⟩ ⟨[]⟩)) []) (P 168)::
.go (.pick (.tmp (P 167)) (.tmp (P 168)) (.con (.bool false))) (P 169)::
.go (.move (.tmp (P 169))) (P 4)::
[]) [.ok,.ok,.ok,.rd (some ((P 161),true)) (.loadN 2 (.tmp (P 13))) (some (P 162)) [6],.ok,.ok,.ok,.ok,.ok,.ok,.ok,.ok]) .ret)))))))))))))))))
theorem de6 : @compF Try.prog (Gl.none Try.prog) Try.f6 2 = .mk d6 (mkTT 170) [(P 0),(P 1)] [.tmp (P 4)] := by kernel_rfl
theorem dg6 : Try.prog.funcs[6]? = some Try.f6 := Try.func6
theorem do6 : okF Try.prog Try.f6 = true := by kernel_rfl
theorem eq53 {a b c d : Int} (ha : (Lit.int .i64 a).wf = true) (hb : (Lit.int .i64 b).wf = true) (hc : (Lit.int .i64 c).wf = true) (hd : (Lit.int .i64 d).wf = true) : xbinOp Try.prog .eql 53 (.agg ⟨A2 a b⟩) (.agg ⟨A2 c d⟩) = some (.bool (decide (a = c ∧ b = d))) := by
  have h1 : xbin Try.prog .eql 53 (.agg ⟨A2 a b⟩) (.agg ⟨A2 c d⟩) = none := rfl
  have h2 : xbinStr .eql (.agg ⟨A2 a b⟩) (.agg ⟨A2 c d⟩) = none := rfl
  have h3 : xeqNil Try.prog false 53 (.agg ⟨A2 a b⟩) (.agg ⟨A2 c d⟩) = none := by
    unfold xeqNil
    simp only[Try.underlying53]
  have h4 : keyedB Try.prog 53 = true := by kernel_rfl
  have h5 : Try.prog.eqGuardType Try.prog.depth 53 = false := by kernel_rfl
  unfold xbinOp
  rw [h1, h2]
  simp only[h3]
  unfold xeqAgg
  simp only[Try.underlying53]
  rw [if_pos ⟨h4, rfl, rfl, key53 ha hb, key53 hc hd, h5⟩]
  simp [valEq, cellsEq, cellEq]
theorem rg_lf {a b c d n q : Nat} (hb : b ≤ 50) : (lfq n q (a, b, c, d) = [] ∧ rg a c d n q (b + 1) = (99, -1)) ∨ (lfq n q (a, b, c, d) ≠ [] ∧ rg a c d n q (b + 1) = (mn (lfq n q (a, b, c, d)), mx (lfq n q (a, b, c, d)))) := by
  have := rg_ok a c d n q (b + 1) (by omega)
  exact this
theorem lf_bd {a b c d n q : Nat} (h : lfq n q (a, b, c, d) ≠ []) : (0 ≤ mn (lfq n q (a, b, c, d)) ∧ mn (lfq n q (a, b, c, d)) ≤ b) ∧ 0 ≤ mx (lfq n q (a, b, c, d)) ∧ mx (lfq n q (a, b, c, d)) ≤ b := by
  obtain ⟨u, e1, h1, _⟩ := leftL_mem.1 (mn_mem h)
  obtain ⟨w, e2, h2, _⟩ := leftL_mem.1 (mx_mem h)
  have h1' : u ≤ b := h1
  have h2' : w ≤ b := h2
  have e1' : mn (lfq n q (a, b, c, d)) = u := e1
  have e2' : mx (lfq n q (a, b, c, d)) = w := e2
  omega
theorem lv_nat {n q : Int} (h : lv n q) : ∃ n' q' : Nat, n = n' ∧ q = q' ∧ n' ≤ 1000 ∧ 0 < q' ∧ q' ≤ 1000 := by
  obtain ⟨⟨k1, k2⟩, k3, k4⟩ := h
  exact ⟨n.toNat, q.toNat, by omega, by omega, by omega, by omega, by omega⟩
theorem arq_nat {r : Q4} (h : arq r) : ∃ a b c d : Nat, r = (((a : Nat) : Int), ((b : Nat) : Int), ((c : Nat) : Int), ((d : Nat) : Int)) ∧ a + b ≤ 50 ∧ c ≤ a ∧ d ≤ c := by
  obtain ⟨a, b, c, d⟩ := r
  obtain ⟨⟨⟨p1, p2⟩, ⟨p3, p4⟩, p5⟩, ⟨p6, p7⟩, p8, p9⟩ := h
  simp only at *
  exact ⟨a.toNat, b.toNat, c.toNat, d.toNat, by simp only[Prod.mk.injEq]; omega, by omega, by omega, by omega⟩
theorem wf_sm {x : Int} (h1 : 0 ≤ x) (h2 : x ≤ 1000) : (Lit.int .i64 x).wf = true := by
  obtain ⟨k, rfl⟩ : ∃ k : Nat, x = k := ⟨x.toNat, by omega⟩
  exact wf_big (by omega)
theorem tot_1 (r : Q4) (n q : Int) : tot [r] n q = if ¬ arq r then (0, 0, 1) else if ¬ lv n q then (0, 0, 2) else if lfq n q r = [] then (0, 0, 9) else (mn (lfq n q r), mx (lfq n q r), 0) := by
  unfold tot
  rw [if_neg (by simp)]
  simp only[List.mem_singleton, forall_eq, exists_eq_left, List.map_cons, List.map_nil, List.sum_cons, List.sum_nil, Int.add_zero]
theorem f6_ok {H : Heap} {v : Value} {L : List Q4} {n q : Int} (hS : Sw 4 H v (L.map q4)) : F Try.prog 6 ⟨[v, .agg ⟨A2 n q⟩]⟩ H (fun w _ => w = .bool true) := by
  have hl : ∀ X, ylen 0 X v = some (I L.length) := fun X => by rw [Sw.lenA hS X, List.length_map]
  refine F.entryL rfl dg6 do6 de6 rfl (by kernel_rfl) ?_
  simp only[sets]
  refine V.re [(0, v), (1, .agg ⟨A2 n q⟩)] (N := 170) (by intro i; simp only[full_st, Full.mk]) (by simp only[Kn, gt_st, full_st, Full.mk, ↓reduceIte, qD, qE, decide_true, and_self]) ?_
  intro t hF hA
  simp only[Kn, and_true] at hA
  (repeat first|apply sA|apply sB|apply sC|apply sD|apply sE)
  refine V.line' (by simp +contextual (disch := first|omega|simp only[nx];omega) only[D4,qF,qG,qA,qB,qC,D5,hF,hA,↓reduceIte,qD,qE]; with_reducible rfl) ?_
  refine V.heap (fun X => Grow H X ∧ Bx X H.next (A2 n q) 41) ⟨?_, ?_⟩ ?_
  · (repeat first | assumption | exact Grow.refl _ | refine Grow.alloc ?_ _ | refine Grow.set ?_ (by first|omega|simp only[nx];omega) _)
  · (repeat first | assumption | exact Bx.new _ _ _ | exact Bx.newAt (by first|omega|simp only[nx];omega) | refine Bx.put (by first|omega|simp only[nx];omega) _ _ | refine Bx.alloc ?_ _ | refine Bx.set ?_ (by first|omega|simp only[nx];omega) _)
  rintro H1 ⟨g1, b1⟩
  (repeat first|apply sA|apply sB|apply sC|apply sD|apply sE)
  refine V.line' (by simp +contextual (disch := first|omega|simp only[nx];omega) only[D4,qF,qG,qA,qB,qC,D5,hF,hA,↓reduceIte,qD,qE, hl]; with_reducible rfl) ?_
  (repeat first|apply sA|apply sB|apply sC|apply sD|apply sE)
  refine V.condP (by simp only[D6,D5,hF,hA,↓reduceIte,qD,qE]; rfl) (fun h9 => ?_) (fun h9 => ?_)
  · (repeat first|apply sA|apply sB|apply sC|apply sD|apply sE)
    refine V.run ?_
    refine VI.callA rfl (f24_ok _) (by simp only[D6,D5,hF,hA,↓reduceIte,qD,qE]; try rfl) (fun H2 g2 => ?_)
    refine VI.line' (by simp +contextual (disch := first|omega|simp only[nx];omega) only[D4,qF,qG,qA,qB,qC,D5,hF,hA,↓reduceIte,qD,qE]; with_reducible rfl) ?_
    (repeat first|apply sA|apply sB|apply sC|apply sD|apply sE)
    refine V.ret (V.rets rfl (Lv.retF (by simp +contextual (disch := first|omega|simp only[nx];omega) only[D1, cells_alloc_at, cells_alloc_ne, cells_set_at, cells_set_ne, yres, yres1, yresL, qA, qB, qC, D5,hF,hA,↓reduceIte,qD,qE]; rfl) ?_))
    rfl
  have h9' : L.length ≤ 9 := by omega
  (repeat first|apply sA|apply sB|apply sC|apply sD|apply sE)
  refine V.draw ?_
  refine VD.dins 1 (by simp +contextual (disch := first|omega|simp only[nx];omega) only[D4,qF,qG,qA,qB,qC,D5,hF,hA,↓reduceIte,qD,qE]; with_reducible rfl) ?_
  simp only[ds]
  refine VD.callR (by simp only[D6,D5,hF,hA,↓reduceIte,qD,qE]; try rfl) (f35_ok (hS.grow g1) (by omega)) (by simp only[D6,D5,hF,hA,↓reduceIte,qD,qE]; try rfl) (fun v2 H2 ⟨g2, o2⟩ => ?_)
  have b2 := b1.grow g2
  refine VD.dins 1 (by simp +contextual (disch := first|omega|simp only[nx];omega) only[D4,qF,qG,qA,qB,qC,D5,hF,hA,↓reduceIte,qD,qE, b2.2]; with_reducible rfl) ?_
  simp only[ds]
  refine VD.callA (by simp only[D6,D5,hF,hA,↓reduceIte,qD,qE]; try rfl) (f28_ok n q _) (by simp only[D6,D5,hF,hA,↓reduceIte,qD,qE]; try rfl) (fun H3 g3 => ?_)
  have b3 := b2.grow g3
  refine VD.callA (by simp only[D6,D5,hF,hA,↓reduceIte,qD,qE]; try rfl) (f34_ok (L := L) ((o2.sw (q4_len _)).grow g3) (by omega)) (by simp only[D6,D5,hF,hA,↓reduceIte,qD,qE]; try rfl) (fun H4 g4 => ?_)
  have b4 := b3.grow g4
  generalize htot : tot L n q = tt
  obtain ⟨x1, x2, e⟩ := tt
  refine VD.lineD' (by simp +contextual (disch := first|omega|simp only[nx];omega) only[D4,qF,qG,qA,qB,qC,D5,hF,hA,↓reduceIte,qD,qE]; with_reducible rfl) ?_ ?_ rfl ?_
  · have m2 := g2.1
    have m3 := g3.1
    have m4 := g4.1
    simp only[monoG, List.cons_append, List.nil_append, Heap.next_set, Heap.next_alloc, Nat.le_refl, true_and, and_true] <;> omega
  · simp only[dcAll, dcOk, wantD, List.cons_append, List.nil_append, true_and, and_true]
    exact ⟨fun _ q hq => by simp only[List.mem_cons, List.not_mem_nil, or_false] at hq; (repeat (rcases hq with rfl | hq; exact ⟨_, _, _, rfl, (by simp +contextual (disch := first|omega|simp only[nx];omega) only[D4,qF,qG,qA,qB,qC,D5,hF,hA,↓reduceIte,qD,qE, b1.2, b2.2, b3.2]; with_reducible rfl), fun p hp => by cases hp; simp only[D5,hF,hA,↓reduceIte,qD,qE]; first | exact vEq_An | (simp [vEq, vEq0, all2]; done) | assumption⟩)); (try (subst hq; exact ⟨_, _, _, rfl, (by simp +contextual (disch := first|omega|simp only[nx];omega) only[D4,qF,qG,qA,qB,qC,D5,hF,hA,↓reduceIte,qD,qE, b1.2, b2.2, b3.2]; with_reducible rfl), fun p hp => by cases hp; simp only[D5,hF,hA,↓reduceIte,qD,qE]; first | exact vEq_An | (simp [vEq, vEq0, all2]; done) | assumption⟩)), fun _ => ⟨_, _, _, rfl, rfl, rfl, (by simp only[D5,hF,hA,↓reduceIte,qD,qE]; simp [inBound]), fun _ => ⟨_, _, _, cells_alloc _ _ _ _, (by first | exact An_inb | rfl)⟩⟩⟩
  refine V.heap (fun X => Grow H4 X ∧ Bx X H4.next (A2 x1 x2) 53) ⟨?_, ?_⟩ ?_
  · (repeat first | assumption | exact Grow.refl _ | refine Grow.alloc ?_ _ | refine Grow.set ?_ (by first|omega|simp only[nx];omega) _)
  · (repeat first | assumption | exact Bx.new _ _ _ | exact Bx.newAt (by first|omega|simp only[nx];omega) | refine Bx.put (by first|omega|simp only[nx];omega) _ _ | refine Bx.alloc ?_ _ | refine Bx.set ?_ (by first|omega|simp only[nx];omega) _)
  rintro H5 ⟨g5, d5⟩
  have b5 := b4.grow g5
  have g15 := ((((g1.trans g2).trans g3).trans g4).trans g5)
  clear b2 b3 b4 o2
  (repeat first|apply sA|apply sB|apply sC|apply sD|apply sE)
  refine V.line' (by simp +contextual (disch := first|omega|simp only[nx];omega) only[D4,qF,qG,qA,qB,qC,D5,hF,hA,↓reduceIte,qD,qE]; with_reducible rfl) ?_
  (repeat first|apply sA|apply sB|apply sC|apply sD|apply sE)
  refine V.line' (by simp +contextual (disch := first|omega|simp only[nx];omega) only[D4,qF,qG,qA,qB,qC,D5,hF,hA,↓reduceIte,qD,qE]; with_reducible rfl) ?_
  (repeat first|apply sA|apply sB|apply sC|apply sD|apply sE)
  refine V.re [(0, v), (3, .pointer (some ⟨H.next, 0, none⟩)), (5, .pointer (some ⟨H4.next, 0, none⟩)), (6, I e), (7, I 0), (8, I 0)] (N := 170) (by intro;simp only[full_st,hF]) (by simp only[Kn, D5,hF,hA,↓reduceIte,qD,qE,and_self,and_true,true_and];try (repeat' constructor)) ?_
  clear hF hA
  intro t hF hA
  simp only[Kn, and_true] at hA
  refine V.loop (fun z t m X => ∃ (k : Nat), k ≤ L.length ∧ z = L.length - k ∧ m = [] ∧ Grow H5 X ∧ Full 170 t ∧ Kn [(0, v), (3, .pointer (some ⟨H.next, 0, none⟩)), (5, .pointer (some ⟨H4.next, 0, none⟩)), (6, I e), (7, I (if ∀ r ∈ L.take k, arq r then 0 else 1)), (8, I k)] t) L.length ?_ ?_
  · exact ⟨0, by omega, by omega, rfl, .refl _, by intro i; simp only[full_st, hF], by simp [Kn, hA]⟩
  clear hF hA
  rintro z t m X ⟨k, hk, rfl, rfl, hg, hF, hA⟩
  simp only[Kn, and_true] at hA
  (repeat first|apply sA|apply sB|apply sC|apply sD|apply sE)
  refine V.line' (by simp +contextual (disch := first|omega|simp only[nx];omega) only[D4,qF,qG,qA,qB,qC,D5,hF,hA,↓reduceIte,qD,qE, hl]; with_reducible rfl) ?_
  (repeat first|apply sA|apply sB|apply sC|apply sD|apply sE)
  refine V.condP (by simp only[D6,D5,hF,hA,↓reduceIte,qD,qE]; rfl) (fun hlt => ?_) (fun hlt => ?_)
  · have hlt' : k < L.length := by omega
    obtain ⟨p, hq1, hq2⟩ := hS.get (w := 4) (by decide) (n := k) (k := k) (x := q4 L[k]) (kd := .i64) (by simp [hlt']) rfl
    have hq3 := hq2 _ (g15.trans hg)
    have e0 : q4 L[k] = A4 L[k].1 L[k].2.1 L[k].2.2.1 L[k].2.2.2 := rfl
    rw [e0] at hq3
    (repeat first|apply sA|apply sB|apply sC|apply sD|apply sE)
    refine V.run ?_
    refine VI.steps' 4 (by simp +contextual (disch := first|omega|simp only[nx];omega) only[D4,qF,qG,qA,qB,qC,D5,hF,hA,↓reduceIte,qD,qE, hq1, hq3]; with_reducible rfl) ?_
    simp only[ds]
    refine VI.callA rfl (f22_ok L[k].1 L[k].2.1 L[k].2.2.1 L[k].2.2.2 X) (by simp only[D6,D5,hF,hA,↓reduceIte,qD,qE]; try rfl) (fun X1 g1x => ?_)
    by_cases har : arq L[k]
    · have har' : ar L[k].1 L[k].2.1 L[k].2.2.1 L[k].2.2.2 := har
      rw [if_pos har']
      refine VI.line' (by simp +contextual (disch := first|omega|simp only[nx];omega) only[D4,qF,qG,qA,qB,qC,D5,hF,hA,↓reduceIte,qD,qE, ne_eq, not_true_eq_false]; with_reducible rfl) ?_
      (repeat first|apply sA|apply sB|apply sC|apply sD|apply sE)
      refine V.condF (by simp only[D6,D5,hF,hA,↓reduceIte,qD,qE]) ?_
      (repeat first|apply sA|apply sB|apply sC|apply sD|apply sE)
      refine V.line' (by simp +contextual (disch := first|omega|simp only[nx];omega) only[D4,qF,qG,qA,qB,qC,D5,hF,hA,↓reduceIte,qD,qE]; with_reducible rfl) ?_
      refine V.nil (Or.inl ⟨rfl, L.length - (k + 1), by omega, ?_⟩)
      have e2 : (∀ r ∈ L.take (k + 1), arq r) ↔ ∀ r ∈ L.take k, arq r := by
        rw [List.take_succ_eq_append_getElem hlt']
        constructor
        · intro h r hr; exact h r (List.mem_append_left _ hr)
        · intro h r hr
          rcases List.mem_append.1 hr with hr | hr
          · exact h r hr
          · rw [List.mem_singleton.1 hr]; exact har
      refine ⟨k + 1, by omega, rfl, rfl, hg.trans g1x, ?_⟩
      simp only[e2]
      exact ⟨(by intro;simp only[full_st,hF]), (by simp only[Kn, D5,hF,hA,↓reduceIte,qD,qE,and_self,and_true,true_and];try (repeat' constructor))⟩
    · have har' : ¬ ar L[k].1 L[k].2.1 L[k].2.2.1 L[k].2.2.2 := har
      rw [if_neg har']
      refine VI.line' (by simp +contextual (disch := first|omega|simp only[nx];omega) only[D4,qF,qG,qA,qB,qC,D5,hF,hA,↓reduceIte,qD,qE, ne_eq, not_false_eq_true]; with_reducible rfl) ?_
      (repeat first|apply sA|apply sB|apply sC|apply sD|apply sE)
      refine V.condT (by simp only[D6,D5,hF,hA,↓reduceIte,qD,qE]) ?_
      (repeat first|apply sA|apply sB|apply sC|apply sD|apply sE)
      refine V.line' (by simp +contextual (disch := first|omega|simp only[nx];omega) only[D4,qF,qG,qA,qB,qC,D5,hF,hA,↓reduceIte,qD,qE]; with_reducible rfl) ?_
      (repeat first|apply sA|apply sB|apply sC|apply sD|apply sE)
      refine V.line' (by simp +contextual (disch := first|omega|simp only[nx];omega) only[D4,qF,qG,qA,qB,qC,D5,hF,hA,↓reduceIte,qD,qE]; with_reducible rfl) ?_
      refine V.nil (Or.inl ⟨rfl, L.length - (k + 1), by omega, ?_⟩)
      have e2 : ¬ ∀ r ∈ L.take (k + 1), arq r := fun h => har (h _ (List.mem_take_iff_getElem.2 ⟨k, by omega, rfl⟩))
      refine ⟨k + 1, by omega, rfl, rfl, hg.trans g1x, ?_⟩
      rw [if_neg e2]
      exact ⟨(by intro;simp only[full_st,hF]), (by simp only[Kn, D5,hF,hA,↓reduceIte,qD,qE,and_self,and_true,true_and];try (repeat' constructor))⟩
  have ek : L.take k = L := List.take_of_length_le (by omega)
  rw [ek] at hA
  have bx := b5.grow hg
  have dx := d5.grow hg
  have g1X := g15.trans hg
  have hw1 : ∃ w1 : Int, (if ∀ r ∈ L, arq r then (0 : Int) else 1) = w1 ∧ ((∀ r ∈ L, arq r) ∧ w1 = 0 ∨ (¬ ∀ r ∈ L, arq r) ∧ w1 = 1) := by
    by_cases h : ∀ r ∈ L, arq r
    · exact ⟨0, if_pos h, .inl ⟨h, rfl⟩⟩
    · exact ⟨1, if_neg h, .inr ⟨h, rfl⟩⟩
  obtain ⟨w1, hw1, hw1'⟩ := hw1
  rw [hw1] at hA
  refine V.exit ?_
  (repeat first | refine V.pass ?_ | refine V.here ?_ | refine V.out (by decide) ?_)
  refine V.nil (Or.inr ⟨by simp, ?_⟩)
  (repeat first | refine V.pass ?_ | refine V.here ?_ | refine V.out (by decide) ?_)
  (repeat first|apply sA|apply sB|apply sC|apply sD|apply sE)
  refine V.run ?_
  refine VI.steps' 4 (by simp +contextual (disch := first|omega|simp only[nx];omega) only[D4,qF,qG,qA,qB,qC,D5,hF,hA,↓reduceIte,qD,qE, bx.2]; with_reducible rfl) ?_
  simp only[ds]
  first | refine VI.callGt (by simp only[D5,hF,hA,↓reduceIte,qD,qE]; try rfl) (fun hc => by simp only[D6,D5,hF,hA,↓reduceIte,qD,qE, hc, and_self, and_true, true_and, not_false_eq_true]; try rfl) (fun hc => f36_ok n q X) (fun hc => by simp only[D6,D5,hF,hA,↓reduceIte,qD,qE, hc, and_self, and_true, true_and, not_false_eq_true]; try rfl) (fun X2 gx2 => ?_) | refine VI.callGf (by simp only[D5,hF,hA,↓reduceIte,qD,qE]; try rfl) (fun hc => by simp only[D6,D5,hF,hA,↓reduceIte,qD,qE, hc, and_self, and_true, true_and, not_false_eq_true]; try rfl) (fun hc => f36_ok n q X) (fun hc => by simp only[D6,D5,hF,hA,↓reduceIte,qD,qE, hc, and_self, and_true, true_and, not_false_eq_true]; try rfl) (fun X2 gx2 => ?_)
  have bx2 := bx.grow gx2
  have dx2 := dx.grow gx2
  refine VI.line' (by simp +contextual (disch := first|omega|simp only[nx];omega) only[D4,qF,qG,qA,qB,qC,D5,hF,hA,↓reduceIte,qD,qE]; with_reducible rfl) ?_
  (repeat first|apply sA|apply sB|apply sC|apply sD|apply sE)
  refine V.re [(0, v), (3, .pointer (some ⟨H.next, 0, none⟩)), (5, .pointer (some ⟨H4.next, 0, none⟩)), (6, I e), (7, I w1), (47, .bool (decide (w1 = 0 ∧ ¬ lv n q)))] (N := 170) (by intro;simp only[full_st,hF]) (by simp only[Kn, D5,hF,hA,↓reduceIte,qD,qE,and_self,and_true,true_and];try (repeat' constructor)) ?_
  clear hF hA
  intro t hF hA
  simp only[Kn, and_true] at hA
  refine V.cut (fun e' t m Y => e' = .normal ∧ m = [] ∧ Y = X2 ∧ Full 170 t ∧ Kn [(0, v), (3, .pointer (some ⟨H.next, 0, none⟩)), (5, .pointer (some ⟨H4.next, 0, none⟩)), (6, I e), (7, I (if w1 = 0 ∧ ¬ lv n q then 2 else w1))] t) ?_ ?_
  · refine V.condP (by simp only[D6,D5,hF,hA,↓reduceIte,qD,qE]; rfl) (fun h2 => ?_) (fun h2 => ?_)
    · rw [if_pos h2]
      (repeat first|apply sA|apply sB|apply sC|apply sD|apply sE)
      refine V.line' (by simp +contextual (disch := first|omega|simp only[nx];omega) only[D4,qF,qG,qA,qB,qC,D5,hF,hA,↓reduceIte,qD,qE]; with_reducible rfl) ?_
      exact V.nil ⟨rfl, rfl, rfl, (by intro;simp only[full_st,hF]), (by simp only[Kn, D5,hF,hA,↓reduceIte,qD,qE,and_self,and_true,true_and];try (repeat' constructor))⟩
    · rw [if_neg h2]
      (repeat first|apply sA|apply sB|apply sC|apply sD|apply sE)
      exact V.nil ⟨rfl, rfl, rfl, (by intro;simp only[full_st,hF]), (by simp only[Kn, D5,hF,hA,↓reduceIte,qD,qE,and_self,and_true,true_and];try (repeat' constructor))⟩
  clear hF hA
  rintro e' t m Y ⟨rfl, rfl, rfl, hF, hA⟩
  simp only[Kn, and_true] at hA
  have hw2 : ∃ w2 : Int, (if w1 = 0 ∧ ¬ lv n q then 2 else w1) = w2 := ⟨_, rfl⟩
  obtain ⟨w2, hw2⟩ := hw2
  rw [hw2] at hA
  (repeat first|apply sA|apply sB|apply sC|apply sD|apply sE)
  refine V.line' (by simp +contextual (disch := first|omega|simp only[nx];omega) only[D4,qF,qG,qA,qB,qC,D5,hF,hA,↓reduceIte,qD,qE, hl]; with_reducible rfl) ?_
  (repeat first|apply sA|apply sB|apply sC|apply sD|apply sE)
  refine V.re [(0, v), (3, .pointer (some ⟨H.next, 0, none⟩)), (5, .pointer (some ⟨H4.next, 0, none⟩)), (6, I e), (7, I w2), (50, .bool (decide ((6 : Int) < L.length)))] (N := 170) (by intro;simp only[full_st,hF]) (by simp only[Kn, D5,hF,hA,↓reduceIte,qD,qE,and_self,and_true,true_and];try (repeat' constructor)) ?_
  clear hF hA
  intro t hF hA
  simp only[Kn, and_true] at hA
  refine V.cut (fun e' t m Z => e' = .normal ∧ m = [] ∧ Z = Y ∧ Full 170 t ∧ Kn [(0, v), (3, .pointer (some ⟨H.next, 0, none⟩)), (5, .pointer (some ⟨H4.next, 0, none⟩)), (6, I e), (7, I (if (6 : Int) < L.length then 3 else w2))] t) ?_ ?_
  · refine V.condP (by simp only[D6,D5,hF,hA,↓reduceIte,qD,qE]; rfl) (fun h2 => ?_) (fun h2 => ?_)
    · rw [if_pos h2]
      (repeat first|apply sA|apply sB|apply sC|apply sD|apply sE)
      refine V.line' (by simp +contextual (disch := first|omega|simp only[nx];omega) only[D4,qF,qG,qA,qB,qC,D5,hF,hA,↓reduceIte,qD,qE]; with_reducible rfl) ?_
      exact V.nil ⟨rfl, rfl, rfl, (by intro;simp only[full_st,hF]), (by simp only[Kn, D5,hF,hA,↓reduceIte,qD,qE,and_self,and_true,true_and];try (repeat' constructor))⟩
    · rw [if_neg h2]
      (repeat first|apply sA|apply sB|apply sC|apply sD|apply sE)
      exact V.nil ⟨rfl, rfl, rfl, (by intro;simp only[full_st,hF]), (by simp only[Kn, D5,hF,hA,↓reduceIte,qD,qE,and_self,and_true,true_and];try (repeat' constructor))⟩
  clear hF hA
  rintro e' t m Z ⟨rfl, rfl, rfl, hF, hA⟩
  simp only[Kn, and_true] at hA
  obtain ⟨w3, hw3, hw3'⟩ : ∃ w3 : Int, (if (6 : Int) < L.length then 3 else w2) = w3 ∧ ((w3 ≠ 0 ∧ x1 = 0 ∧ x2 = 0 ∧ e = w3) ∨ (w3 = 0 ∧ (∀ r ∈ L, arq r) ∧ lv n q ∧ L.length ≤ 6 ∧ (if ∃ r ∈ L, lfq n q r = [] then ((0 : Int), (0 : Int), (9 : Int)) else ((L.map fun r => mn (lfq n q r)).sum, (L.map fun r => mx (lfq n q r)).sum, 0)) = (x1, x2, e))) := by
    refine ⟨_, rfl, ?_⟩
    unfold tot at htot
    by_cases h6 : 6 < L.length
    · rw [if_pos h6] at htot
      rw [if_pos (by omega)]
      simp only[Prod.mk.injEq] at htot
      exact .inl ⟨by decide, htot.1.symm, htot.2.1.symm, htot.2.2.symm⟩
    · rw [if_neg h6] at htot
      rw [if_neg (by omega), ← hw2]
      rcases hw1' with ⟨ha, rfl⟩ | ⟨ha, rfl⟩
      · rw [if_neg (not_not_intro ha)] at htot
        by_cases hlv : lv n q
        · rw [if_neg (not_not_intro hlv)] at htot
          rw [if_neg (fun c => c.2 hlv)]
          exact .inr ⟨rfl, ha, hlv, by omega, htot⟩
        · rw [if_pos hlv] at htot
          rw [if_pos ⟨rfl, hlv⟩]
          simp only[Prod.mk.injEq] at htot
          exact .inl ⟨by decide, htot.1.symm, htot.2.1.symm, htot.2.2.symm⟩
      · rw [if_pos ha] at htot
        rw [if_neg (fun c => absurd c.1 (by decide))]
        simp only[Prod.mk.injEq] at htot
        exact .inl ⟨by decide, htot.1.symm, htot.2.1.symm, htot.2.2.symm⟩
  rw [hw3] at hA
  have g1Z := g1X.trans gx2
  (repeat first|apply sA|apply sB|apply sC|apply sD|apply sE)
  refine V.line' (by simp +contextual (disch := first|omega|simp only[nx];omega) only[D4,qF,qG,qA,qB,qC,D5,hF,hA,↓reduceIte,qD,qE]; with_reducible rfl) ?_
  refine V.heap (fun X => Grow Z X ∧ Bx X Z.next (A2 0 0) 59) ⟨?_, ?_⟩ ?_
  · (repeat first | assumption | exact Grow.refl _ | refine Grow.alloc ?_ _ | refine Grow.set ?_ (by first|omega|simp only[nx];omega) _)
  · (repeat first | assumption | exact Bx.new _ _ _ | exact Bx.newAt (by first|omega|simp only[nx];omega) | refine Bx.put (by first|omega|simp only[nx];omega) _ _ | refine Bx.alloc ?_ _ | refine Bx.set ?_ (by first|omega|simp only[nx];omega) _)
  rintro Z0 ⟨gz0, f0⟩
  have bz0 := bx2.grow gz0
  have dz0 := dx2.grow gz0
  (repeat first|apply sA|apply sB|apply sC|apply sD|apply sE)
  refine V.line' (by simp +contextual (disch := first|omega|simp only[nx];omega) only[D4,qF,qG,qA,qB,qC,D5,hF,hA,↓reduceIte,qD,qE]; with_reducible rfl) ?_
  (repeat first|apply sA|apply sB|apply sC|apply sD|apply sE)
  refine V.re [(0, v), (3, .pointer (some ⟨H.next, 0, none⟩)), (5, .pointer (some ⟨H4.next, 0, none⟩)), (6, I e), (7, I w3), (9, .pointer (some ⟨Z.next, 0, none⟩)), (10, I 0)] (N := 170) (by intro;simp only[full_st,hF]) (by simp only[Kn, D5,hF,hA,↓reduceIte,qD,qE,and_self,and_true,true_and];try (repeat' constructor)) ?_
  clear hF hA
  intro t hF hA
  simp only[Kn, and_true] at hA
  refine V.loop (fun z t m X => ∃ (k : Nat) (a b w : Int), k ≤ L.length ∧ z = L.length - k ∧ m = [] ∧ Grow Z X ∧ Bx X Z.next (A2 a b) 59 ∧ ((w = w3 ∧ w3 ≠ 0) ∨ (w3 = 0 ∧ w = 0 ∧ (∀ r ∈ L.take k, lfq n q r ≠ []) ∧ a = ((L.take k).map fun r => mn (lfq n q r)).sum ∧ b = ((L.take k).map fun r => mx (lfq n q r)).sum ∧ 0 ≤ a ∧ a ≤ 50 * k ∧ 0 ≤ b ∧ b ≤ 50 * k) ∨ (w3 = 0 ∧ w = 9 ∧ ∃ r ∈ L, lfq n q r = [])) ∧ Full 170 t ∧ Kn [(0, v), (3, .pointer (some ⟨H.next, 0, none⟩)), (5, .pointer (some ⟨H4.next, 0, none⟩)), (6, I e), (7, I w), (9, .pointer (some ⟨Z.next, 0, none⟩)), (10, I k)] t) L.length ?_ ?_
  · refine ⟨0, 0, 0, w3, by omega, by omega, rfl, gz0, f0, ?_, (by intro;simp only[full_st,hF]), (by simp only[Kn, D5,hF,hA,↓reduceIte,qD,qE,and_self,and_true,true_and];try (repeat' constructor))⟩
    by_cases h : w3 = 0
    · exact .inr (.inl ⟨h, h, by simp, by simp, by simp, by omega, by omega, by omega, by omega⟩)
    · exact .inl ⟨rfl, h⟩
  clear hF hA
  rintro z t m X3 ⟨k3, a, b, w, hk3, rfl, rfl, hg3, f3, hinv, hF, hA⟩
  simp only[Kn, and_true] at hA
  have bx3 := bx2.grow hg3
  have dx3 := dx2.grow hg3
  have g13 := g1Z.trans hg3
  (repeat first|apply sA|apply sB|apply sC|apply sD|apply sE)
  refine V.line' (by simp +contextual (disch := first|omega|simp only[nx];omega) only[D4,qF,qG,qA,qB,qC,D5,hF,hA,↓reduceIte,qD,qE, hl]; with_reducible rfl) ?_
  (repeat first|apply sA|apply sB|apply sC|apply sD|apply sE)
  refine V.condP (by simp only[D6,D5,hF,hA,↓reduceIte,qD,qE]; rfl) (fun hlt2 => ?_) (fun hlt2 => ?_)
  · obtain ⟨hlt3, hw0⟩ : k3 < L.length ∧ w = 0 := by omega
    rcases hinv with ⟨h1, h2⟩ | ⟨h1, h2, hall, ha, hb, ha1, ha2, hb1, hb2⟩ | ⟨h1, h2, _⟩
    · exact absurd hw0 (by omega)
    rotate_left
    · exact absurd hw0 (by omega)
    rcases hw3' with ⟨q1, _⟩ | ⟨_, har, hlv, hl6, htot2⟩
    · exact absurd h1 q1
    obtain ⟨n', q', en, eq', hn1, hq0, hq1⟩ := lv_nat hlv
    obtain ⟨a', b', c', d', er, k1, k2, k4⟩ := arq_nat (har _ (List.getElem_mem hlt3))
    obtain ⟨p, hp1, hp2⟩ := hS.get (w := 4) (by decide) (n := k3) (k := k3) (x := q4 L[k3]) (kd := .i64) (by simp [hlt3]) rfl
    have hp3 := hp2 _ g13
    have e0 : q4 L[k3] = A4 a' b' c' d' := by rw [er]; rfl
    rw [e0] at hp3
    subst en eq'
    (repeat first|apply sA|apply sB|apply sC|apply sD|apply sE)
    refine V.draw ?_
    refine VD.dins 5 (by simp +contextual (disch := first|omega|simp only[nx];omega) only[D4,qF,qG,qA,qB,qC,D5,hF,hA,↓reduceIte,qD,qE, hp1, hp3, bx3.2]; with_reducible rfl) ?_
    simp only[ds]
    refine VD.callA (by simp only[D6,D5,hF,hA,↓reduceIte,qD,qE]; try rfl) (f37_ok (a := a') (b := b') (c := c') (d := d') (n := n') (q := q') k1 k2 k4 ⟨hn1, hq0, hq1⟩ X3) (by simp only[D6,D5,hF,hA,↓reduceIte,qD,qE]; try rfl) (fun X4 g4x => ?_)
    refine VD.lineD' (by simp +contextual (disch := first|omega|simp only[nx];omega) only[D4,qF,qG,qA,qB,qC,D5,hF,hA,↓reduceIte,qD,qE]; with_reducible rfl) ?_ ?_ rfl ?_
    · have m4 := g4x.1
      simp only[monoG, List.cons_append, List.nil_append, Heap.next_set, Heap.next_alloc, Nat.le_refl, true_and, and_true] <;> omega
    · simp only[dcAll, dcOk, wantD, List.cons_append, List.nil_append, true_and, and_true]
      exact fun _ => ⟨_, _, _, rfl, rfl, rfl, (by simp only[D5,hF,hA,↓reduceIte,qD,qE]; simp [inBound]), fun _ => ⟨_, _, _, cells_alloc _ _ _ _, (by first | exact An_inb | rfl)⟩⟩
    have f4 := f3.grow g4x
    refine V.heap (fun Y => Grow Z Y ∧ Bx Y Z.next (A2 a b) 59 ∧ Bx Y X4.next (A2 (rg a' c' d' n' q' (b' + 1)).1 (rg a' c' d' n' q' (b' + 1)).2) 59) ⟨?_, ?_, ?_⟩ ?_
    · have := hg3.trans g4x
      have hzx := this.1
      (repeat first | assumption | exact Grow.refl _ | refine Grow.alloc ?_ _ | refine Grow.set ?_ (by first|omega|simp only[nx];omega) _)
    · have := f4.1
      (repeat first | assumption | exact Bx.new _ _ _ | exact Bx.newAt (by first|omega|simp only[nx];omega) | refine Bx.put (by first|omega|simp only[nx];omega) _ _ | refine Bx.alloc ?_ _ | refine Bx.set ?_ (by first|omega|simp only[nx];omega) _)
    · (repeat first | assumption | exact Bx.new _ _ _ | exact Bx.newAt (by first|omega|simp only[nx];omega) | refine Bx.put (by first|omega|simp only[nx];omega) _ _ | refine Bx.alloc ?_ _ | refine Bx.set ?_ (by first|omega|simp only[nx];omega) _)
    rintro X5 ⟨g5x, f5, h5⟩
    have lf5 := f5.1
    have hlf : lfq n' q' L[k3] = lfq n' q' (((a' : Nat) : Int), ((b' : Nat) : Int), ((c' : Nat) : Int), ((d' : Nat) : Int)) := by rw [er]
    rcases rg_lf (a := a') (b := b') (c := c') (d := d') (n := n') (q := q') (by omega) with ⟨r1, r2⟩ | ⟨r1, r2⟩
    · rw [r2] at h5 ⊢
      simp only at h5
      (repeat first|apply sA|apply sB|apply sC|apply sD|apply sE)
      refine V.line' (by simp +contextual (disch := first|omega|simp only[nx];omega) only[D4,qF,qG,qA,qB,qC,D5,hF,hA,↓reduceIte,qD,qE, show decide ((0 : Int) ≤ -1) = false from rfl]; with_reducible rfl) ?_
      (repeat first|apply sA|apply sB|apply sC|apply sD|apply sE)
      refine V.condT (by simp only[D6,D5,hF,hA,↓reduceIte,qD,qE]) ?_
      (repeat first|apply sA|apply sB|apply sC|apply sD|apply sE)
      refine V.line' (by simp +contextual (disch := first|omega|simp only[nx];omega) only[D4,qF,qG,qA,qB,qC,D5,hF,hA,↓reduceIte,qD,qE]; with_reducible rfl) ?_
      (repeat first|apply sA|apply sB|apply sC|apply sD|apply sE)
      refine V.line' (by simp +contextual (disch := first|omega|simp only[nx];omega) only[D4,qF,qG,qA,qB,qC,D5,hF,hA,↓reduceIte,qD,qE, f5.2, h5.2]; with_reducible rfl) ?_
      refine V.heap (fun Y => Grow Z Y ∧ Bx Y Z.next (A2 (a + 99) (b + -1)) 59) ⟨?_, ?_⟩ ?_
      · (repeat first | assumption | exact Grow.refl _ | refine Grow.alloc ?_ _ | refine Grow.set ?_ (by first|omega|simp only[nx];omega) _)
      · (repeat first | assumption | exact Bx.new _ _ _ | exact Bx.newAt (by first|omega|simp only[nx];omega) | refine Bx.put (by first|omega|simp only[nx];omega) _ _ | refine Bx.alloc ?_ _ | refine Bx.set ?_ (by first|omega|simp only[nx];omega) _)
      rintro X6 ⟨g6x, f6⟩
      (repeat first|apply sA|apply sB|apply sC|apply sD|apply sE)
      refine V.line' (by simp +contextual (disch := first|omega|simp only[nx];omega) only[D4,qF,qG,qA,qB,qC,D5,hF,hA,↓reduceIte,qD,qE]; with_reducible rfl) ?_
      refine V.nil (Or.inl ⟨rfl, L.length - (k3 + 1), by omega, ?_⟩)
      exact ⟨k3 + 1, _, _, 9, by omega, rfl, rfl, g6x, f6, .inr (.inr ⟨h1, rfl, _, List.getElem_mem hlt3, by rw [hlf]; exact r1⟩), (by intro;simp only[full_st,hF]), (by simp only[Kn, D5,hF,hA,↓reduceIte,qD,qE,and_self,and_true,true_and];try (repeat' constructor))⟩
    · obtain ⟨⟨z1, z2⟩, z3, z4⟩ := lf_bd r1
      have hpos : decide ((0 : Int) ≤ mx (lfq n' q' (((a' : Nat) : Int), ((b' : Nat) : Int), ((c' : Nat) : Int), ((d' : Nat) : Int)))) = true := by simpa using z3
      rw [r2] at h5 ⊢
      simp only at h5
      have s1 := sum_tk (f := fun r => mn (lfq n' q' r)) hlt3
      have s2 := sum_tk (f := fun r => mx (lfq n' q' r)) hlt3
      simp only[hlf] at s1 s2
      generalize hu : mn (lfq n' q' (((a' : Nat) : Int), ((b' : Nat) : Int), ((c' : Nat) : Int), ((d' : Nat) : Int))) = u1 at *
      generalize hu2 : mx (lfq n' q' (((a' : Nat) : Int), ((b' : Nat) : Int), ((c' : Nat) : Int), ((d' : Nat) : Int))) = u2 at *
      (repeat first|apply sA|apply sB|apply sC|apply sD|apply sE)
      refine V.line' (by simp +contextual (disch := first|omega|simp only[nx];omega) only[D4,qF,qG,qA,qB,qC,D5,hF,hA,↓reduceIte,qD,qE, hpos]; with_reducible rfl) ?_
      (repeat first|apply sA|apply sB|apply sC|apply sD|apply sE)
      refine V.condF (by simp only[D6,D5,hF,hA,↓reduceIte,qD,qE]) ?_
      (repeat first|apply sA|apply sB|apply sC|apply sD|apply sE)
      refine V.line' (by simp +contextual (disch := first|omega|simp only[nx];omega) only[D4,qF,qG,qA,qB,qC,D5,hF,hA,↓reduceIte,qD,qE, f5.2, h5.2]; with_reducible rfl) ?_
      refine V.heap (fun Y => Grow Z Y ∧ Bx Y Z.next (A2 (a + u1) (b + u2)) 59) ⟨?_, ?_⟩ ?_
      · (repeat first | assumption | exact Grow.refl _ | refine Grow.alloc ?_ _ | refine Grow.set ?_ (by first|omega|simp only[nx];omega) _)
      · (repeat first | assumption | exact Bx.new _ _ _ | exact Bx.newAt (by first|omega|simp only[nx];omega) | refine Bx.put (by first|omega|simp only[nx];omega) _ _ | refine Bx.alloc ?_ _ | refine Bx.set ?_ (by first|omega|simp only[nx];omega) _)
      rintro X6 ⟨g6x, f6⟩
      (repeat first|apply sA|apply sB|apply sC|apply sD|apply sE)
      refine V.line' (by simp +contextual (disch := first|omega|simp only[nx];omega) only[D4,qF,qG,qA,qB,qC,D5,hF,hA,↓reduceIte,qD,qE]; with_reducible rfl) ?_
      refine V.nil (Or.inl ⟨rfl, L.length - (k3 + 1), by omega, ?_⟩)
      refine ⟨k3 + 1, _, _, w, by omega, rfl, rfl, g6x, f6, .inr (.inl ⟨h1, hw0, ?_, by omega, by omega, by omega, by omega, by omega, by omega⟩), (by intro;simp only[full_st,hF]), (by simp only[Kn, D5,hF,hA,↓reduceIte,qD,qE,and_self,and_true,true_and];try (repeat' constructor))⟩
      intro r hr
      rw [List.take_succ_eq_append_getElem hlt3] at hr
      rcases List.mem_append.1 hr with hr | hr
      · exact hall r hr
      · rw [List.mem_singleton.1 hr, hlf]; exact r1
  obtain ⟨rfl, hz1, hz2, bx1, bx2'⟩ : e = w ∧ (w ≠ 0 → x1 = 0 ∧ x2 = 0) ∧ (w = 0 → x1 = a ∧ x2 = b) ∧ (0 ≤ x1 ∧ x1 ≤ 1000) ∧ (0 ≤ x2 ∧ x2 ≤ 1000) := by
    rcases hw3' with ⟨q1, q2, q3, q4⟩ | ⟨q1, har, hlv, hl6, htot2⟩
    · rcases hinv with ⟨h1, h2⟩ | ⟨h1, _⟩ | ⟨h1, _⟩
      · exact ⟨by omega, fun _ => ⟨q2, q3⟩, fun h => absurd h (by omega), by omega, by omega⟩
      · exact absurd h1 q1
      · exact absurd h1 q1
    · rcases hinv with ⟨h1, h2⟩ | ⟨h1, h2, hall, ha, hb, ha1, ha2, hb1, hb2⟩ | ⟨h1, h2, h3⟩
      · exact absurd q1 h2
      · have ek : L.take k3 = L := List.take_of_length_le (by omega)
        rw [ek] at hall ha hb
        rw [if_neg (fun ⟨r, hr, hx⟩ => hall r hr hx), ← ha, ← hb] at htot2
        simp only[Prod.mk.injEq] at htot2
        exact ⟨by omega, fun h => absurd h2 h, fun _ => by omega, by omega, by omega⟩
      · rw [if_pos h3] at htot2
        simp only[Prod.mk.injEq] at htot2
        exact ⟨by omega, fun _ => by omega, fun h => by omega, by omega, by omega⟩
  refine V.exit ?_
  (repeat first | refine V.pass ?_ | refine V.here ?_ | refine V.out (by decide) ?_)
  refine V.nil (Or.inr ⟨by simp, ?_⟩)
  (repeat first | refine V.pass ?_ | refine V.here ?_ | refine V.out (by decide) ?_)
  (repeat first|apply sA|apply sB|apply sC|apply sD|apply sE)
  refine V.line' (by simp +contextual (disch := first|omega|simp only[nx];omega) only[D4,qF,qG,qA,qB,qC,D5,hF,hA,↓reduceIte,qD,qE]; with_reducible rfl) ?_
  (repeat first|apply sA|apply sB|apply sC|apply sD|apply sE)
  refine V.re [(0, v), (3, .pointer (some ⟨H.next, 0, none⟩)), (5, .pointer (some ⟨H4.next, 0, none⟩)), (6, I e), (7, I e), (9, .pointer (some ⟨Z.next, 0, none⟩)), (84, .bool (decide (e ≠ 0)))] (N := 170) (by intro;simp only[full_st,hF]) (by simp only[Kn, D5,hF,hA,↓reduceIte,qD,qE,and_self,and_true,true_and];try (repeat' constructor)) ?_
  clear hF hA
  intro t hF hA
  simp only[Kn, and_true] at hA
  refine V.cut (fun e' t m Y => e' = .normal ∧ m = [] ∧ Grow Z Y ∧ Bx Y Z.next (A2 x1 x2) 59 ∧ Full 170 t ∧ Kn [(0, v), (3, .pointer (some ⟨H.next, 0, none⟩)), (5, .pointer (some ⟨H4.next, 0, none⟩)), (6, I e), (7, I e), (9, .pointer (some ⟨Z.next, 0, none⟩))] t) ?_ ?_
  · have lf3 := f3.1
    refine V.condP (by simp only[D6,D5,hF,hA,↓reduceIte,qD,qE]; rfl) (fun h2 => ?_) (fun h2 => ?_)
    · obtain ⟨rfl, rfl⟩ := hz1 h2
      (repeat first|apply sA|apply sB|apply sC|apply sD|apply sE)
      refine V.line' (by simp +contextual (disch := first|omega|simp only[nx];omega) only[D4,qF,qG,qA,qB,qC,D5,hF,hA,↓reduceIte,qD,qE, f3.2]; with_reducible rfl) ?_
      refine V.heap (fun Y => Grow Z Y ∧ Bx Y Z.next (A2 0 0) 59) ⟨?_, ?_⟩ ?_
      · (repeat first | assumption | exact Grow.refl _ | refine Grow.alloc ?_ _ | refine Grow.set ?_ (by first|omega|simp only[nx];omega) _)
      · (repeat first | assumption | exact Bx.new _ _ _ | exact Bx.newAt (by first|omega|simp only[nx];omega) | refine Bx.put (by first|omega|simp only[nx];omega) _ _ | refine Bx.alloc ?_ _ | refine Bx.set ?_ (by first|omega|simp only[nx];omega) _)
      rintro Y ⟨gy, fy⟩
      exact V.nil ⟨rfl, rfl, gy, fy, (by intro;simp only[full_st,hF]), (by simp only[Kn, D5,hF,hA,↓reduceIte,qD,qE,and_self,and_true,true_and];try (repeat' constructor))⟩
    · obtain ⟨rfl, rfl⟩ := hz2 (Decidable.not_not.1 h2)
      (repeat first|apply sA|apply sB|apply sC|apply sD|apply sE)
      exact V.nil ⟨rfl, rfl, hg3, f3, (by intro;simp only[full_st,hF]), (by simp only[Kn, D5,hF,hA,↓reduceIte,qD,qE,and_self,and_true,true_and];try (repeat' constructor))⟩
  clear hF hA bx3 dx3 g13 f3
  rintro e' t m Y ⟨rfl, rfl, gy, fy, hF, hA⟩
  simp only[Kn, and_true] at hA
  have bY := bx2.grow gy
  have dY := dx2.grow gy
  have gY := g1Z.trans gy
  have hnq : xbinOp Try.prog .neq 53 (.agg ⟨A2 x1 x2⟩) (.agg ⟨A2 x1 x2⟩) = some (.bool false) := by
    rw [neq53 (wf_sm bx1.1 bx1.2) (wf_sm bx2'.1 bx2'.2) (wf_sm bx1.1 bx1.2) (wf_sm bx2'.1 bx2'.2)]; simp
  (repeat first|apply sA|apply sB|apply sC|apply sD|apply sE)
  refine V.draw ?_
  refine VD.dins 6 (by simp +contextual (disch := first|omega|simp only[nx];omega) only[D4,qF,qG,qA,qB,qC,D5,hF,hA,↓reduceIte,qD,qE, ne_eq, not_true_eq_false, dY.2, fy.2]; with_reducible rfl) ?_
  simp only[ds]
  refine VD.callAT (by simp only[D5,hF,hA,↓reduceIte,qD,qE]; try rfl) (by simp only[D6,D5,hF,hA,↓reduceIte,qD,qE]; try rfl) (f38_ok x1 x2 Y) (by simp only[D6,D5,hF,hA,↓reduceIte,qD,qE]; try rfl) (fun Y1 y1 => ?_)
  refine VD.lineD' (by simp +contextual (disch := first|omega|simp only[nx];omega) only[D4,qF,qG,qA,qB,qC,D5,hF,hA,↓reduceIte,qD,qE, hnq]; with_reducible rfl) ?_ ?_ rfl ?_
  · have m1 := y1.1
    simp only[monoG, List.cons_append, List.nil_append, Heap.next_set, Heap.next_alloc, Nat.le_refl, true_and, and_true] <;> omega
  · simp only[dcAll, dcOk, wantD, List.cons_append, List.nil_append, true_and, and_true]
    have d1 := dY.grow y1
    exact fun _ q hq => by simp only[List.mem_cons, List.not_mem_nil, or_false] at hq; (repeat (rcases hq with rfl | hq; exact ⟨_, _, _, rfl, (by simp +contextual (disch := first|omega|simp only[nx];omega) only[D4,qF,qG,qA,qB,qC,D5,hF,hA,↓reduceIte,qD,qE, dY.2, d1.2]; with_reducible rfl), fun p hp => by cases hp; simp only[D5,hF,hA,↓reduceIte,qD,qE]; first | exact vEq_An | (simp [vEq, vEq0, all2]; done) | assumption⟩)); (try (subst hq; exact ⟨_, _, _, rfl, (by simp +contextual (disch := first|omega|simp only[nx];omega) only[D4,qF,qG,qA,qB,qC,D5,hF,hA,↓reduceIte,qD,qE, dY.2, d1.2]; with_reducible rfl), fun p hp => by cases hp; simp only[D5,hF,hA,↓reduceIte,qD,qE]; first | exact vEq_An | (simp [vEq, vEq0, all2]; done) | assumption⟩))
  have bY1 := bY.grow y1
  have gY1 := gY.trans y1
  (repeat first|apply sA|apply sB|apply sC|apply sD|apply sE)
  refine V.condF (by simp only[D6,D5,hF,hA,↓reduceIte,qD,qE]) ?_
  (repeat first|apply sA|apply sB|apply sC|apply sD|apply sE)
  refine V.line' (by simp +contextual (disch := first|omega|simp only[nx];omega) only[D4,qF,qG,qA,qB,qC,D5,hF,hA,↓reduceIte,qD,qE, hl]; with_reducible rfl) ?_
  (repeat first|apply sA|apply sB|apply sC|apply sD|apply sE)
  refine V.condP (by simp only[D6,D5,hF,hA,↓reduceIte,qD,qE]; rfl) (fun h0 => ?_) (fun h0 => ?_)
  · (repeat first|apply sA|apply sB|apply sC|apply sD|apply sE)
    refine V.run ?_
    refine VI.callA rfl (f24_ok _) (by simp only[D6,D5,hF,hA,↓reduceIte,qD,qE]; try rfl) (fun H2 g2' => ?_)
    refine VI.line' (by simp +contextual (disch := first|omega|simp only[nx];omega) only[D4,qF,qG,qA,qB,qC,D5,hF,hA,↓reduceIte,qD,qE]; with_reducible rfl) ?_
    (repeat first|apply sA|apply sB|apply sC|apply sD|apply sE)
    refine V.ret (V.rets rfl (Lv.retF (by simp +contextual (disch := first|omega|simp only[nx];omega) only[D1, cells_alloc_at, cells_alloc_ne, cells_set_at, cells_set_ne, yres, yres1, yresL, qA, qB, qC, D5,hF,hA,↓reduceIte,qD,qE]; rfl) ?_))
    rfl
  have hpos : 0 < L.length := by omega
  obtain ⟨p, hp1, hp2⟩ := hS.get (w := 4) (by decide) (n := 0) (k := 0) (x := q4 L[0]) (kd := .i64) (by simp [hpos]) rfl
  have hp0 : ∀ X, Grow H X → yloadN 4 X p = some (.agg ⟨A4 L[0].1 L[0].2.1 L[0].2.2.1 L[0].2.2.2⟩) := fun X g => hp2 X g
  have hp3 := hp0 _ gY1
  clear h0
  (repeat first|apply sA|apply sB|apply sC|apply sD|apply sE)
  refine V.draw ?_
  refine VD.dins 3 (by simp +contextual (disch := first|omega|simp only[nx];omega) only[D4,qF,qG,qA,qB,qC,D5,hF,hA,↓reduceIte,qD,qE, hp1, hp3]; with_reducible rfl) ?_
  simp only[ds]
  refine VD.callA (by simp only[D6,D5,hF,hA,↓reduceIte,qD,qE]; try rfl) (f21_ok L[0].1 L[0].2.1 L[0].2.2.1 L[0].2.2.2 Y1) (by simp only[D6,D5,hF,hA,↓reduceIte,qD,qE]; try rfl) (fun Y2 y2 => ?_)
  have bY2 := bY1.grow y2
  refine VD.dins 1 (by simp +contextual (disch := first|omega|simp only[nx];omega) only[D4,qF,qG,qA,qB,qC,D5,hF,hA,↓reduceIte,qD,qE, bY2.2]; with_reducible rfl) ?_
  simp only[ds]
  refine VD.callA (by simp only[D6,D5,hF,hA,↓reduceIte,qD,qE]; try rfl) (f28_ok n q Y2) (by simp only[D6,D5,hF,hA,↓reduceIte,qD,qE]; try rfl) (fun Y3 y3 => ?_)
  have bY3 := bY2.grow y3
  refine VD.callA (by simp only[D6,D5,hF,hA,↓reduceIte,qD,qE]; try rfl) (f39_ok L[0].1 L[0].2.1 L[0].2.2.1 L[0].2.2.2 n q Y3) (by simp only[D6,D5,hF,hA,↓reduceIte,qD,qE]; try rfl) (fun Y4 y4 => ?_)
  have bY4 := bY3.grow y4
  have htt : tot [(L[0].1, L[0].2.1, L[0].2.2.1, L[0].2.2.2)] n q = tot [L[0]] n q := rfl
  rw [htt]
  have ht1 := tot_1 L[0] n q
  generalize tot [L[0]] n q = t0 at *
  obtain ⟨z1, z2, e2⟩ := t0
  refine VD.lineD' (by simp +contextual (disch := first|omega|simp only[nx];omega) only[D4,qF,qG,qA,qB,qC,D5,hF,hA,↓reduceIte,qD,qE]; with_reducible rfl) ?_ ?_ rfl ?_
  · have m2 := y2.1
    have m3 := y3.1
    have m4 := y4.1
    simp only[monoG, List.cons_append, List.nil_append, Heap.next_set, Heap.next_alloc, Nat.le_refl, true_and, and_true] <;> omega
  · simp only[dcAll, dcOk, wantD, List.cons_append, List.nil_append, true_and, and_true]
    exact ⟨fun _ q hq => by simp only[List.mem_cons, List.not_mem_nil, or_false] at hq; (repeat (rcases hq with rfl | hq; exact ⟨_, _, _, rfl, (by simp +contextual (disch := first|omega|simp only[nx];omega) only[D4,qF,qG,qA,qB,qC,D5,hF,hA,↓reduceIte,qD,qE, bY1.2, bY2.2, bY3.2]; with_reducible rfl), fun p hp => by cases hp; simp only[D5,hF,hA,↓reduceIte,qD,qE]; first | exact vEq_An | (simp [vEq, vEq0, all2]; done) | assumption⟩)); (try (subst hq; exact ⟨_, _, _, rfl, (by simp +contextual (disch := first|omega|simp only[nx];omega) only[D4,qF,qG,qA,qB,qC,D5,hF,hA,↓reduceIte,qD,qE, bY1.2, bY2.2, bY3.2]; with_reducible rfl), fun p hp => by cases hp; simp only[D5,hF,hA,↓reduceIte,qD,qE]; first | exact vEq_An | (simp [vEq, vEq0, all2]; done) | assumption⟩)), fun _ => ⟨_, _, _, rfl, rfl, rfl, (by simp only[D5,hF,hA,↓reduceIte,qD,qE]; simp [inBound]), fun _ => ⟨_, _, _, cells_alloc _ _ _ _, (by first | exact An_inb | rfl)⟩⟩⟩
  refine V.heap (fun X => Grow Y4 X ∧ Bx X Y4.next (A2 z1 z2) 53) ⟨?_, ?_⟩ ?_
  · (repeat first | assumption | exact Grow.refl _ | refine Grow.alloc ?_ _ | refine Grow.set ?_ (by first|omega|simp only[nx];omega) _)
  · (repeat first | assumption | exact Bx.new _ _ _ | exact Bx.newAt (by first|omega|simp only[nx];omega) | refine Bx.put (by first|omega|simp only[nx];omega) _ _ | refine Bx.alloc ?_ _ | refine Bx.set ?_ (by first|omega|simp only[nx];omega) _)
  rintro Y5 ⟨y5, d5'⟩
  have bY5 := bY4.grow y5
  have gY5 : Grow H Y5 := gY1.trans (((y2.trans y3).trans y4).trans y5)
  have hp5 := hp0 _ gY5
  (repeat first|apply sA|apply sB|apply sC|apply sD|apply sE)
  refine V.run ?_
  refine VI.steps' 3 (by simp +contextual (disch := first|omega|simp only[nx];omega) only[D4,qF,qG,qA,qB,qC,D5,hF,hA,↓reduceIte,qD,qE, hp1, hp5]; with_reducible rfl) ?_
  simp only[ds]
  refine VI.callA rfl (f22_ok L[0].1 L[0].2.1 L[0].2.2.1 L[0].2.2.2 Y5) (by simp only[D6,D5,hF,hA,↓reduceIte,qD,qE]; try rfl) (fun Y6 y6 => ?_)
  have bY6 := bY5.grow y6
  have d6 := d5'.grow y6
  have gY6 := gY5.trans y6
  have e00 := eq53 (a := 0) (b := 0) (c := 0) (d := 0) (by decide) (by decide) (by decide) (by decide)
  simp only[and_self, decide_true] at e00
  by_cases har : arq L[0]
  · have har' : ar L[0].1 L[0].2.1 L[0].2.2.1 L[0].2.2.2 := har
    rw [if_neg (not_not_intro har)] at ht1
    rw [if_pos har']
    refine VI.line' (by simp +contextual (disch := first|omega|simp only[nx];omega) only[D4,qF,qG,qA,qB,qC,D5,hF,hA,↓reduceIte,qD,qE, ne_eq, not_true_eq_false]; with_reducible rfl) ?_
    (repeat first|apply sA|apply sB|apply sC|apply sD|apply sE)
    refine V.condF (by simp only[D6,D5,hF,hA,↓reduceIte,qD,qE]) ?_
    (repeat first|apply sA|apply sB|apply sC|apply sD|apply sE)
    refine V.run ?_
    refine VI.steps' 1 (by simp +contextual (disch := first|omega|simp only[nx];omega) only[D4,qF,qG,qA,qB,qC,D5,hF,hA,↓reduceIte,qD,qE, bY6.2]; with_reducible rfl) ?_
    simp only[ds]
    refine VI.callA rfl (f36_ok n q Y6) (by simp only[D6,D5,hF,hA,↓reduceIte,qD,qE]; try rfl) (fun Y7 y7 => ?_)
    have bY7 := bY6.grow y7
    have d7 := d6.grow y7
    have gY7 := gY6.trans y7
    by_cases hlv : lv n q
    · rw [if_neg (not_not_intro hlv)] at ht1
      obtain ⟨n', q', en, eq', hn1, hq0, hq1⟩ := lv_nat hlv
      obtain ⟨a', b', c', d', er, k1, k2, k4⟩ := arq_nat har
      have hp7 := hp0 _ gY7
      rw [er] at hp7 ht1
      have e0 : A4 (((a' : Nat) : Int), ((b' : Nat) : Int), ((c' : Nat) : Int), ((d' : Nat) : Int)).1 (((a' : Nat) : Int), ((b' : Nat) : Int), ((c' : Nat) : Int), ((d' : Nat) : Int)).2.1 (((a' : Nat) : Int), ((b' : Nat) : Int), ((c' : Nat) : Int), ((d' : Nat) : Int)).2.2.1 (((a' : Nat) : Int), ((b' : Nat) : Int), ((c' : Nat) : Int), ((d' : Nat) : Int)).2.2.2 = A4 a' b' c' d' := rfl
      rw [e0] at hp7
      refine VI.line' (by simp +contextual (disch := first|omega|simp only[nx];omega) only[D4,qF,qG,qA,qB,qC,D5,hF,hA,↓reduceIte,qD,qE, hlv]; with_reducible rfl) ?_
      (repeat first|apply sA|apply sB|apply sC|apply sD|apply sE)
      refine V.condF (by simp only[D6,D5,hF,hA,↓reduceIte,qD,qE]) ?_
      (repeat first|apply sA|apply sB|apply sC|apply sD|apply sE)
      subst en eq'
      refine V.draw ?_
      refine VD.dins 4 (by simp +contextual (disch := first|omega|simp only[nx];omega) only[D4,qF,qG,qA,qB,qC,D5,hF,hA,↓reduceIte,qD,qE, hp1, hp7, bY7.2]; with_reducible rfl) ?_
      simp only[ds]
      refine VD.callA (by simp only[D6,D5,hF,hA,↓reduceIte,qD,qE]; try rfl) (f37_ok (a := a') (b := b') (c := c') (d := d') (n := n') (q := q') k1 k2 k4 ⟨hn1, hq0, hq1⟩ Y7) (by simp only[D6,D5,hF,hA,↓reduceIte,qD,qE]; try rfl) (fun Y8 y8 => ?_)
      refine VD.lineD' (by simp +contextual (disch := first|omega|simp only[nx];omega) only[D4,qF,qG,qA,qB,qC,D5,hF,hA,↓reduceIte,qD,qE]; with_reducible rfl) ?_ ?_ rfl ?_
      · have m8 := y8.1
        simp only[monoG, List.cons_append, List.nil_append, Heap.next_set, Heap.next_alloc, Nat.le_refl, true_and, and_true] <;> omega
      · simp only[dcAll, dcOk, wantD, List.cons_append, List.nil_append, true_and, and_true]
        exact fun _ => ⟨_, _, _, rfl, rfl, rfl, (by simp only[D5,hF,hA,↓reduceIte,qD,qE]; simp [inBound]), fun _ => ⟨_, _, _, cells_alloc _ _ _ _, (by first | exact An_inb | rfl)⟩⟩
      have d8 := d7.grow y8
      refine V.heap (fun X => Grow Y8 X ∧ Bx X Y8.next (A2 (rg a' c' d' n' q' (b' + 1)).1 (rg a' c' d' n' q' (b' + 1)).2) 59) ⟨?_, ?_⟩ ?_
      · (repeat first | assumption | exact Grow.refl _ | refine Grow.alloc ?_ _ | refine Grow.set ?_ (by first|omega|simp only[nx];omega) _)
      · (repeat first | assumption | exact Bx.new _ _ _ | exact Bx.newAt (by first|omega|simp only[nx];omega) | refine Bx.put (by first|omega|simp only[nx];omega) _ _ | refine Bx.alloc ?_ _ | refine Bx.set ?_ (by first|omega|simp only[nx];omega) _)
      rintro Y9 ⟨y9, f9⟩
      have d9 := d8.grow y9
      rcases rg_lf (a := a') (b := b') (c := c') (d := d') (n := n') (q := q') (by omega) with ⟨r1, r2⟩ | ⟨r1, r2⟩
      · rw [if_pos r1] at ht1
        simp only[Prod.mk.injEq] at ht1
        obtain ⟨rfl, rfl, rfl⟩ := ht1
        rw [r2] at f9 ⊢
        (repeat first|apply sA|apply sB|apply sC|apply sD|apply sE)
        refine V.line' (by simp +contextual (disch := first|omega|simp only[nx];omega) only[D4,qF,qG,qA,qB,qC,D5,hF,hA,↓reduceIte,qD,qE, show decide ((0 : Int) ≤ -1) = false from rfl]; with_reducible rfl) ?_
        (repeat first|apply sA|apply sB|apply sC|apply sD|apply sE)
        refine V.condT (by simp only[D6,D5,hF,hA,↓reduceIte,qD,qE]) ?_
        (repeat first|apply sA|apply sB|apply sC|apply sD|apply sE)
        refine V.run ?_
        refine VI.steps' 8 (by simp +contextual (disch := first|omega|simp only[nx];omega) only[D4,qF,qG,qA,qB,qC,D5,hF,hA,↓reduceIte,qD,qE, d9.2, e00]; with_reducible rfl) ?_
        simp only[ds]
        refine VI.callAT (by simp only[D5,hF,hA,↓reduceIte,qD,qE]; try rfl) rfl (f24_ok _) (by simp only[D6,D5,hF,hA,↓reduceIte,qD,qE]; try rfl) (fun Ya ya => ?_)
        refine VI.line' (by simp +contextual (disch := first|omega|simp only[nx];omega) only[D4,qF,qG,qA,qB,qC,D5,hF,hA,↓reduceIte,qD,qE]; with_reducible rfl) ?_
        (repeat first|apply sA|apply sB|apply sC|apply sD|apply sE)
        refine V.ret (V.rets rfl (Lv.retF (by simp +contextual (disch := first|omega|simp only[nx];omega) only[D1, cells_alloc_at, cells_alloc_ne, cells_set_at, cells_set_ne, yres, yres1, yresL, qA, qB, qC, D5,hF,hA,↓reduceIte,qD,qE]; rfl) ?_))
        rfl
      · obtain ⟨⟨u1, u2⟩, u3, u4⟩ := lf_bd r1
        have hpos2 : decide ((0 : Int) ≤ mx (lfq n' q' (((a' : Nat) : Int), ((b' : Nat) : Int), ((c' : Nat) : Int), ((d' : Nat) : Int)))) = true := by simpa using u3
        rw [if_neg r1] at ht1
        simp only[Prod.mk.injEq] at ht1
        obtain ⟨rfl, rfl, rfl⟩ := ht1
        rw [r2] at f9 ⊢
        simp only at f9
        generalize mn (lfq n' q' (((a' : Nat) : Int), ((b' : Nat) : Int), ((c' : Nat) : Int), ((d' : Nat) : Int))) = w1 at *
        generalize mx (lfq n' q' (((a' : Nat) : Int), ((b' : Nat) : Int), ((c' : Nat) : Int), ((d' : Nat) : Int))) = w2 at *
        have e12 := eq53 (wf_sm u1 (by omega)) (wf_sm u3 (by omega)) (wf_sm u1 (by omega)) (wf_sm u3 (by omega))
        simp only[and_self, decide_true] at e12
        (repeat first|apply sA|apply sB|apply sC|apply sD|apply sE)
        refine V.line' (by simp +contextual (disch := first|omega|simp only[nx];omega) only[D4,qF,qG,qA,qB,qC,D5,hF,hA,↓reduceIte,qD,qE, hpos2]; with_reducible rfl) ?_
        (repeat first|apply sA|apply sB|apply sC|apply sD|apply sE)
        refine V.condF (by simp only[D6,D5,hF,hA,↓reduceIte,qD,qE]) ?_
        (repeat first|apply sA|apply sB|apply sC|apply sD|apply sE)
        refine V.draw ?_
        refine VD.dins 5 (by simp +contextual (disch := first|omega|simp only[nx];omega) only[D4,qF,qG,qA,qB,qC,D5,hF,hA,↓reduceIte,qD,qE, d9.2, f9.2]; with_reducible rfl) ?_
        simp only[ds]
        refine VD.callAT (by simp only[D5,hF,hA,↓reduceIte,qD,qE]; try rfl) (by simp only[D6,D5,hF,hA,↓reduceIte,qD,qE]; try rfl) (f38_ok w1 w2 Y9) (by simp only[D6,D5,hF,hA,↓reduceIte,qD,qE]; try rfl) (fun Ya ya => ?_)
        refine VD.dins 3 (by simp +contextual (disch := first|omega|simp only[nx];omega) only[D4,qF,qG,qA,qB,qC,D5,hF,hA,↓reduceIte,qD,qE, e12]; with_reducible rfl) ?_
        simp only[ds]
        refine VD.callAT (by simp only[D5,hF,hA,↓reduceIte,qD,qE]; try rfl) (by simp only[D6,D5,hF,hA,↓reduceIte,qD,qE]; try rfl) (f24_ok _) (by simp only[D6,D5,hF,hA,↓reduceIte,qD,qE]; try rfl) (fun Yb yb => ?_)
        have da := d9.grow ya
        have db := da.grow yb
        refine VD.lineD' (by simp +contextual (disch := first|omega|simp only[nx];omega) only[D4,qF,qG,qA,qB,qC,D5,hF,hA,↓reduceIte,qD,qE]; with_reducible rfl) ?_ ?_ rfl ?_
        · have ma := ya.1
          have mb := yb.1
          simp only[monoG, List.cons_append, List.nil_append, Heap.next_set, Heap.next_alloc, Nat.le_refl, true_and, and_true] <;> omega
        · simp only[dcAll, dcOk, wantD, List.cons_append, List.nil_append, true_and, and_true]
          exact fun _ q hq => by simp only[List.mem_cons, List.not_mem_nil, or_false] at hq; (repeat (rcases hq with rfl | hq; exact ⟨_, _, _, rfl, (by simp +contextual (disch := first|omega|simp only[nx];omega) only[D4,qF,qG,qA,qB,qC,D5,hF,hA,↓reduceIte,qD,qE, d9.2, da.2, db.2]; with_reducible rfl), fun p hp => by cases hp; simp only[D5,hF,hA,↓reduceIte,qD,qE]; first | exact vEq_An | (simp [vEq, vEq0, all2]; done) | assumption⟩)); (try (subst hq; exact ⟨_, _, _, rfl, (by simp +contextual (disch := first|omega|simp only[nx];omega) only[D4,qF,qG,qA,qB,qC,D5,hF,hA,↓reduceIte,qD,qE, d9.2, da.2, db.2]; with_reducible rfl), fun p hp => by cases hp; simp only[D5,hF,hA,↓reduceIte,qD,qE]; first | exact vEq_An | (simp [vEq, vEq0, all2]; done) | assumption⟩))
        (repeat first|apply sA|apply sB|apply sC|apply sD|apply sE)
        refine V.ret (V.rets rfl (Lv.retF (by simp +contextual (disch := first|omega|simp only[nx];omega) only[D1, cells_alloc_at, cells_alloc_ne, cells_set_at, cells_set_ne, yres, yres1, yresL, qA, qB, qC, D5,hF,hA,↓reduceIte,qD,qE]; rfl) ?_))
        rfl
    · rw [if_pos hlv] at ht1
      simp only[Prod.mk.injEq] at ht1
      obtain ⟨rfl, rfl, rfl⟩ := ht1
      refine VI.line' (by simp +contextual (disch := first|omega|simp only[nx];omega) only[D4,qF,qG,qA,qB,qC,D5,hF,hA,↓reduceIte,qD,qE, hlv]; with_reducible rfl) ?_
      (repeat first|apply sA|apply sB|apply sC|apply sD|apply sE)
      refine V.condT (by simp only[D6,D5,hF,hA,↓reduceIte,qD,qE]) ?_
      (repeat first|apply sA|apply sB|apply sC|apply sD|apply sE)
      refine V.run ?_
      refine VI.steps' 8 (by simp +contextual (disch := first|omega|simp only[nx];omega) only[D4,qF,qG,qA,qB,qC,D5,hF,hA,↓reduceIte,qD,qE, d7.2, e00]; with_reducible rfl) ?_
      simp only[ds]
      refine VI.callAT (by simp only[D5,hF,hA,↓reduceIte,qD,qE]; try rfl) rfl (f24_ok _) (by simp only[D6,D5,hF,hA,↓reduceIte,qD,qE]; try rfl) (fun Y8 y8 => ?_)
      refine VI.line' (by simp +contextual (disch := first|omega|simp only[nx];omega) only[D4,qF,qG,qA,qB,qC,D5,hF,hA,↓reduceIte,qD,qE]; with_reducible rfl) ?_
      (repeat first|apply sA|apply sB|apply sC|apply sD|apply sE)
      refine V.ret (V.rets rfl (Lv.retF (by simp +contextual (disch := first|omega|simp only[nx];omega) only[D1, cells_alloc_at, cells_alloc_ne, cells_set_at, cells_set_ne, yres, yres1, yresL, qA, qB, qC, D5,hF,hA,↓reduceIte,qD,qE]; rfl) ?_))
      rfl
  · have har' : ¬ ar L[0].1 L[0].2.1 L[0].2.2.1 L[0].2.2.2 := har
    rw [if_pos har] at ht1
    simp only[Prod.mk.injEq] at ht1
    obtain ⟨rfl, rfl, rfl⟩ := ht1
    rw [if_neg har']
    refine VI.line' (by simp +contextual (disch := first|omega|simp only[nx];omega) only[D4,qF,qG,qA,qB,qC,D5,hF,hA,↓reduceIte,qD,qE, ne_eq, not_false_eq_true]; with_reducible rfl) ?_
    (repeat first|apply sA|apply sB|apply sC|apply sD|apply sE)
    refine V.condT (by simp only[D6,D5,hF,hA,↓reduceIte,qD,qE]) ?_
    (repeat first|apply sA|apply sB|apply sC|apply sD|apply sE)
    refine V.run ?_
    refine VI.steps' 8 (by simp +contextual (disch := first|omega|simp only[nx];omega) only[D4,qF,qG,qA,qB,qC,D5,hF,hA,↓reduceIte,qD,qE, d6.2, e00]; with_reducible rfl) ?_
    simp only[ds]
    refine VI.callAT (by simp only[D5,hF,hA,↓reduceIte,qD,qE]; try rfl) rfl (f24_ok _) (by simp only[D6,D5,hF,hA,↓reduceIte,qD,qE]; try rfl) (fun Y7 y7 => ?_)
    refine VI.line' (by simp +contextual (disch := first|omega|simp only[nx];omega) only[D4,qF,qG,qA,qB,qC,D5,hF,hA,↓reduceIte,qD,qE]; with_reducible rfl) ?_
    (repeat first|apply sA|apply sB|apply sC|apply sD|apply sE)
    refine V.ret (V.rets rfl (Lv.retF (by simp +contextual (disch := first|omega|simp only[nx];omega) only[D1, cells_alloc_at, cells_alloc_ne, cells_set_at, cells_set_ne, yres, yres1, yresL, qA, qB, qC, D5,hF,hA,↓reduceIte,qD,qE]; rfl) ?_))
    rfl
end Go.Xe.TMX
