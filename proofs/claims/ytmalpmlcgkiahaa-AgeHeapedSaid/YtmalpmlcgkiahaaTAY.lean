/- What the statement AgeHeaped comes to. Conditions: none. -/
import Derived.Test.YtmalpmlcgkiahaaZj
import Derived.Test.YtmalpmlcgkiahaaTAX
-- MOD TA
namespace Go.Xe.TAX
open Go Go.Xe Go.Proofs
set_option maxRecDepth 100000
set_option maxHeartbeats 1600000
set_option linter.unusedSimpArgs false
noncomputable def d18 : FCode := (.seq (.run (.go (.move (.con (.bool false))) (pth 4) ::
[])) (.seq (.seq (.run (.go (.move (.tmp (pth 0))) (pth 16) ::
.go (.len 0 (.tmp (pth 16))) (pth 17) ::
.go (.bin .eql 3 (.tmp (pth 17)) (.con (.int .i64 (.ofNat 0)))) (pth 18) ::
.go (.move (.tmp (pth 18))) (pth 19) ::
.gd (pth 19) false (.move (.tmp (pth 0))) (pth 20) ::
.gd (pth 19) false (.len 0 (.tmp (pth 20))) (pth 21) ::
.gd (pth 19) false (.bin .gtr 3 (.tmp (pth 21)) (.con (.int .i64 (.ofNat 200)))) (pth 22) ::
.go (.pick (.tmp (pth 19)) (.con (.bool true)) (.tmp (pth 22))) (pth 23) ::
[])) (.cond (.tmp (pth 23)) (.seq (.run (.go (.call (.con (.func (.func 26) ⟨[]⟩ ⟨[]⟩)) []) (pth 24) ::
.go (.move (.tmp (pth 24))) (pth 4) ::
[])) .ret) .skip)) (.seq (.run (.go (.move (.tmp (pth 1))) (pth 25) ::
.go (.conv .i64 (.tmp (pth 25))) (pth 26) ::
.go (.bin .rem 3 (.tmp (pth 26)) (.con (.int .i64 (.ofNat 12)))) (pth 27) ::
.go (.bin .add 3 (.con (.int .i64 (.ofNat 1))) (.tmp (pth 27))) (pth 28) ::
.go (.move (.tmp (pth 28))) (pth 5) ::
[])) (.seq (.run (.go (.move (.con (.slice none 0 0))) (pth 6) ::
.go (.move (.con (.slice none 0 0))) (pth 7) ::
[])) (.seq (.seq (.run (.go (.move (.con (.int .i64 (.ofNat 0)))) (pth 8) ::
[])) (.block 0 (.loop (.seq (.seq (.run (.go (.move (.tmp (pth 8))) (pth 29) ::
.go (.move (.tmp (pth 0))) (pth 30) ::
.go (.len 0 (.tmp (pth 30))) (pth 31) ::
.go (.bin .lss 3 (.tmp (pth 29)) (.tmp (pth 31))) (pth 32) ::
[])) (.cond (.tmp (pth 32)) .skip (.exit 0))) (.seq (.block 1 (.seq (.run (.go (.move (.tmp (pth 0))) (pth 35) ::
.go (.move (.tmp (pth 8))) (pth 36) ::
.go (.indexAddr none 1 (.tmp (pth 35)) (.tmp (pth 36))) (pth 37) ::
.go (.load1 (.tmp (pth 37))) (pth 38) ::
.go (.conv .i64 (.tmp (pth 38))) (pth 39) ::
.go (.bin .rem 3 (.tmp (pth 39)) (.con (.int .i64 (.ofNat 141)))) (pth 40) ::
.go (.move (.tmp (pth 40))) (pth 9) ::
[])) (.draw 14 (.go (.move (.tmp (pth 6))) (pth 41) ::
.go (.move (.tmp (pth 9))) (pth 42) ::
.go (.buildSlice 3 1 [(.int .i64 (.ofNat 0))] [(0,1,(.tmp (pth 42)))]) (pth 43) ::
.go (.append 3 1 8 (.tmp (pth 41)) (.tmp (pth 43))) (pth 44) ::
.go (.move (.tmp (pth 7))) (pth 45) ::
.go (.move (.tmp (pth 9))) (pth 46) ::
.go (.move (.tmp (pth 9))) (pth 47) ::
.go (.move (.tmp (pth 5))) (pth 48) ::
.go (.bin .rem 3 (.tmp (pth 47)) (.tmp (pth 48))) (pth 49) ::
.go (.bin .sub 3 (.tmp (pth 46)) (.tmp (pth 49))) (pth 50) ::
.go (.buildSlice 3 1 [(.int .i64 (.ofNat 0))] [(0,1,(.tmp (pth 50)))]) (pth 51) ::
.go (.append 3 1 8 (.tmp (pth 45)) (.tmp (pth 51))) (pth 52) ::
.go (.move (.tmp (pth 44))) (pth 6) ::
.go (.move (.tmp (pth 52))) (pth 7) ::
[]) [.ok,.ok,.nw none (some (pth 43)) 2 true,.ok,.ok,.ok,.ok,.ok,.ok,.ok,.nw none (some (pth 51)) 10 true,.ok,.ok,.ok]))) (.run (.go (.move (.tmp (pth 8))) (pth 33) ::
.go (.bin .add 3 (.tmp (pth 33)) (.con (.int .i64 (.ofNat 1)))) (pth 34) ::
.go (.move (.tmp (pth 34))) (pth 8) ::
[]))))))) (.seq (.run (.go (.move (.tmp (pth 6))) (pth 54) ::
.go (.call (.con (.func (.func 36) ⟨[]⟩ ⟨[]⟩)) [(.tmp (pth 54)),(.con (.int .i64 (.ofNat 1)))]) (pth 55) ::
.go (.move (.tmp (pth 55))) (pth 53) ::
.go (.extract (.tmp (pth 53)) 0) (pth 56) ::
.go (.extract (.tmp (pth 53)) 1) (pth 57) ::
.go (.move (.tmp (pth 56))) (pth 10) ::
.go (.move (.tmp (pth 57))) (pth 11) ::
[])) (.seq (.run (.go (.move (.tmp (pth 7))) (pth 59) ::
.go (.move (.tmp (pth 5))) (pth 60) ::
.go (.call (.con (.func (.func 36) ⟨[]⟩ ⟨[]⟩)) [(.tmp (pth 59)),(.tmp (pth 60))]) (pth 61) ::
.go (.move (.tmp (pth 61))) (pth 58) ::
.go (.extract (.tmp (pth 58)) 0) (pth 62) ::
.go (.extract (.tmp (pth 58)) 1) (pth 63) ::
.go (.move (.tmp (pth 62))) (pth 12) ::
.go (.move (.tmp (pth 63))) (pth 13) ::
[])) (.seq (.run (.go (.move (.tmp (pth 6))) (pth 65) ::
.go (.call (.con (.func (.func 33) ⟨[]⟩ ⟨[]⟩)) [(.tmp (pth 65))]) (pth 66) ::
.go (.move (.tmp (pth 5))) (pth 67) ::
.go (.call (.con (.func (.func 36) ⟨[]⟩ ⟨[]⟩)) [(.tmp (pth 66)),(.tmp (pth 67))]) (pth 68) ::
.go (.move (.tmp (pth 68))) (pth 64) ::
.go (.extract (.tmp (pth 64)) 0) (pth 69) ::
.go (.extract (.tmp (pth 64)) 1) (pth 70) ::
.go (.move (.tmp (pth 69))) (pth 14) ::
.go (.move (.tmp (pth 70))) (pth 15) ::
[])) (.seq (.run (.go (.move (.tmp (pth 11))) (pth 71) ::
.go (.bin .eql 24 (.tmp (pth 71)) (.con (.int .i64 (.ofNat 0)))) (pth 72) ::
.go (.move (.tmp (pth 72))) (pth 73) ::
.gd (pth 73) true (.move (.tmp (pth 10))) (pth 74) ::
.gd (pth 73) true (.bin .eql 3 (.tmp (pth 74)) (.con (.int .i64 (.ofNat 1000)))) (pth 75) ::
.go (.pick (.tmp (pth 73)) (.tmp (pth 75)) (.con (.bool false))) (pth 76) ::
.go (.move (.tmp (pth 76))) (pth 77) ::
.gd (pth 77) true (.move (.tmp (pth 13))) (pth 78) ::
.gd (pth 77) true (.bin .eql 24 (.tmp (pth 78)) (.con (.int .i64 (.ofNat 0)))) (pth 79) ::
.go (.pick (.tmp (pth 77)) (.tmp (pth 79)) (.con (.bool false))) (pth 80) ::
.go (.move (.tmp (pth 80))) (pth 81) ::
.gd (pth 81) true (.move (.tmp (pth 12))) (pth 82) ::
.gd (pth 81) true (.move (.tmp (pth 5))) (pth 83) ::
.gd (pth 81) true (.bin .mul 3 (.con (.int .i64 (.ofNat 1000))) (.tmp (pth 83))) (pth 84) ::
.gd (pth 81) true (.bin .eql 3 (.tmp (pth 82)) (.tmp (pth 84))) (pth 85) ::
.go (.pick (.tmp (pth 81)) (.tmp (pth 85)) (.con (.bool false))) (pth 86) ::
.go (.move (.tmp (pth 86))) (pth 87) ::
.gd (pth 87) true (.move (.tmp (pth 15))) (pth 88) ::
.gd (pth 87) true (.bin .eql 24 (.tmp (pth 88)) (.con (.int .i64 (.ofNat 0)))) (pth 89) ::
.go (.pick (.tmp (pth 87)) (.tmp (pth 89)) (.con (.bool false))) (pth 90) ::
.go (.move (.tmp (pth 90))) (pth 91) ::
.gd (pth 91) true (.move (.tmp (pth 14))) (pth 92) ::
.gd (pth 91) true (.bin .geq 3 (.tmp (pth 92)) (.con (.int .i64 (.ofNat 0)))) (pth 93) ::
.go (.pick (.tmp (pth 91)) (.tmp (pth 93)) (.con (.bool false))) (pth 94) ::
.go (.move (.tmp (pth 94))) (pth 95) ::
.gd (pth 95) true (.move (.tmp (pth 14))) (pth 96) ::
.gd (pth 95) true (.move (.tmp (pth 5))) (pth 97) ::
.gd (pth 95) true (.bin .mul 3 (.con (.int .i64 (.ofNat 1000))) (.tmp (pth 97))) (pth 98) ::
.gd (pth 95) true (.bin .leq 3 (.tmp (pth 96)) (.tmp (pth 98))) (pth 99) ::
.go (.pick (.tmp (pth 95)) (.tmp (pth 99)) (.con (.bool false))) (pth 100) ::
.go (.move (.tmp (pth 100))) (pth 101) ::
.gd (pth 101) true (.call (.con (.func (.func 26) ⟨[]⟩ ⟨[]⟩)) []) (pth 102) ::
.go (.pick (.tmp (pth 101)) (.tmp (pth 102)) (.con (.bool false))) (pth 103) ::
.go (.move (.tmp (pth 103))) (pth 4) ::
[])) .ret)))))))))
theorem de18 : TA.f18 = .mk d18 (mkTT 104) [(pth 0),(pth 1)] [.tmp (pth 4)] := by kernel_rfl
abbrev B (n : Int) : Value := .int .u8 n
theorem tm_le {x b : Int} (hx : 0 ≤ x) (hb : 0 < b) : 0 ≤ x.tmod b ∧ x.tmod b < b ∧ x.tmod b ≤ x := by
  rw [Int.tmod_eq_emod_of_nonneg hx]
  refine ⟨Int.emod_nonneg _ (by omega), Int.emod_lt_of_pos _ hb, ?_⟩
  have h1 := Int.mul_ediv_add_emod x b
  have h2 : 0 ≤ b * (x / b) := Int.mul_nonneg (by omega) (Int.ediv_nonneg hx (by omega))
  omega
/-- The numbers, and the multiples below them. -/
def an (y : Int) : Int := y.tmod 141
def hn (by_ y : Int) : Int := an y - (an y).tmod by_
theorem an_in {y : Int} (h : 0 ≤ y) : 0 ≤ an y ∧ an y ≤ 140 := by
  have := tm_le h (b := 141) (by omega)
  unfold an; omega
theorem hn_in {b y : Int} (h : 0 ≤ y) (hb : 0 < b) : 0 ≤ hn b y ∧ hn b y ≤ 140 := by
  have h1 := an_in h
  have := tm_le h1.1 hb
  unfold hn; omega
theorem hn_mod {b y : Int} (h : 0 ≤ y) (hb : 0 < b) : (hn b y).tmod b = 0 := by
  have h1 := an_in h
  have h2 := hn_in h hb
  rw [Int.tmod_eq_emod_of_nonneg h2.1]
  unfold hn
  rw [Int.tmod_eq_emod_of_nonneg h1.1]
  exact Int.emod_eq_zero_of_dvd (Int.dvd_self_sub_emod)
theorem cnt_all {l : List Int} {b : Int} (h : ∀ x ∈ l, x.tmod b = 0) : cnt l b = l.length := by
  unfold cnt
  rw [List.filter_eq_self.2 (fun x hx => by simpa using h x hx)]
theorem hp_on {l : List Int} {b : Int} (h1 : l.length ≤ 200) (h2 : 1 ≤ b ∧ b ≤ 12) (h3 : ∀ x ∈ l, 0 ≤ x ∧ x ≤ 140) (h4 : l.length ≠ 0) : hp l b = ((cnt l b * b * 1000).tdiv l.length, 0) := by
  unfold hp
  rw [if_neg (by omega), if_neg (fun h => h h2), if_neg (fun h => h (List.all_eq_true.2 (fun x hx => by simpa using h3 x hx))), if_neg h4]
theorem hp_mult {l : List Int} {b : Int} (h1 : l.length ≤ 200) (h2 : 1 ≤ b ∧ b ≤ 12) (h3 : ∀ x ∈ l, 0 ≤ x ∧ x ≤ 140) (h4 : l.length ≠ 0) (h5 : ∀ x ∈ l, x.tmod b = 0) : hp l b = (1000 * b, 0) := by
  rw [hp_on h1 h2 h3 h4, cnt_all h5]
  congr 1
  rw [show (l.length : Int) * b * 1000 = 1000 * b * l.length by grind]
  exact Int.mul_tdiv_cancel _ (by omega)
theorem hp_any {l : List Int} {b : Int} (h1 : l.length ≤ 200) (h2 : 1 ≤ b ∧ b ≤ 12) (h3 : ∀ x ∈ l, 0 ≤ x ∧ x ≤ 140) (h4 : l.length ≠ 0) : (hp l b).2 = 0 ∧ 0 ≤ (hp l b).1 ∧ (hp l b).1 ≤ 1000 * b := by
  rw [hp_on h1 h2 h3 h4]
  have hc := cnt_le l b
  have h0 : (0 : Int) ≤ cnt l b * b * 1000 := Int.mul_nonneg (Int.mul_nonneg (by omega) (by omega)) (by omega)
  refine ⟨rfl, Int.tdiv_nonneg h0 (by omega), ?_⟩
  show (cnt l b * b * 1000 : Int).tdiv l.length ≤ 1000 * b
  rw [Int.tdiv_eq_ediv_of_nonneg h0]
  refine Int.ediv_le_of_le_mul (by omega) ?_
  have h6 : (cnt l b : Int) * b ≤ l.length * b := Int.mul_le_mul_of_nonneg_right (by omega) (by omega)
  have h7 : (1000 * b : Int) * l.length = l.length * b * 1000 := by rw [Int.mul_comm, Int.mul_comm 1000 b, ← Int.mul_assoc]
  omega
theorem mm_take {l : List Int} {k : Nat} (f : Int → Int) (h : k < l.length) : ((l.take k).map f).map I ++ [I (f l[k])] = ((l.take (k + 1)).map f).map I := by
  rw [List.take_succ_eq_append_getElem h, List.map_append, List.map_append]; rfl
theorem f18_ok {H : Heap} {v : Value} {l : List Int} {b : Int} (hS : Sl H v (l.map B)) (hl : ∀ x ∈ l, 0 ≤ x ∧ x ≤ 255) (hb : 0 ≤ b ∧ b ≤ 255) : F Try.prog 18 ⟨[v, B b]⟩ H (fun w _ => w = .bool true) := by
  have hlen : ∀ H', Grow H H' → ylen 0 H' v = some (I l.length) := fun H' g => by rw [(hS.grow g).len, List.length_map]
  have hb0 := tm_le hb.1 (b := 12) (by omega)
  have w1 : IntKind.i64.wrap b = b := wrap_i64 (by omega) (by omega)
  refine F.entryL rfl TA.g18 TA.o18 (TA.e18.trans de18) rfl (by kernel_rfl) ?_
  simp only [sets]
  refine V.re [(0, v), (1, B b)] (N := 104) (by intro i; simp only [full_st, Full.mk]) (by simp only [Kn, gt_st, full_st, Full.mk, reduceIte, Nat.reduceEqDiff, Nat.reduceLT, decide_true, and_self]) ?_
  intro t hF hA
  simp only [Kn, and_true] at hA
  (repeat first | refine V.seq ?_ | refine V.block ?_ | refine V.scope ?_ | refine V.skip ?_ | refine V.close ?_)
  refine V.line (by simp (disch := omega) only [dis, disD, dop, dA, sets, ypick_b, Option.map_some, Option.map_none, bin_add, bin_sub, bin_mul, bin_quo, bin_rem, bin_eql, bin_neq, bin_lss, bin_leq, bin_gtr, bin_geq, un_not, un_neg, ex_tup, yconv_int, yfield1, yfieldN, yfieldAddr, List.getElem?_cons_zero, List.getElem?_cons_succ, List.map_cons, List.map_nil, List.getElem?_toArray, if_true, if_false, reduceIte, Bool.false_eq_true, Bool.true_eq_false, Bool.not_true, Bool.not_false, decide_true, decide_false, wrap_i64, ite_self, List.take_succ_cons, List.take_zero, Int.ofNat_eq_natCast, Int.cast_ofNat_Int, Int.reduceNegSucc, yfill_cons, yfill_nil, yfV_int, yfV_bool, yfV_string, yfV_slice, yfV_ptr, yfV_map, yfV_func, yfV_agg, ystE, ystC_int, ystC_bool, ystC_string, ystC_slice, ystC_ptr, ystC_map, ystC_func, ystC_agg, ok1_int, ok1_bool, ok1_string, ok1_slice, ok1_ptr, ok1_map, ok1_func, List.all_cons, List.all_nil, Bool.and_self, Bool.and_true, setC_nil, setC_cons, ldN, arr_size, arr_ext, List.length_cons, List.length_nil, List.set_cons_zero, List.set_cons_succ, List.drop_zero, List.drop_succ_cons, Nat.reduceLT, Nat.reduceLeDiff, Nat.reduceSub, Nat.sub_zero, ne_eq, not_false_eq_true, and_self, and_true, true_and, Nat.reduceEqDiff, Nat.succ_ne_self, cells_set, Heap.next_alloc, Heap.next_set, eq_self, xbox_agg, ld1, Option.bind_some, cells_alloc, arr_get, Nat.reduceAdd, Nat.add_zero, Nat.zero_add, gt_st, full_st, hF, hA, reduceIte, Nat.reduceEqDiff, Nat.reduceLT, decide_true, decide_false, Bool.false_eq_true]; rfl) ?_
  (repeat first | refine V.seq ?_ | refine V.block ?_ | refine V.scope ?_ | refine V.skip ?_ | refine V.close ?_)
  by_cases h0 : l.length = 0
  · refine V.line (by simp (disch := omega) only [dis, disD, dop, dA, sets, ypick_b, Option.map_some, Option.map_none, bin_add, bin_sub, bin_mul, bin_quo, bin_rem, bin_eql, bin_neq, bin_lss, bin_leq, bin_gtr, bin_geq, un_not, un_neg, ex_tup, yconv_int, yfield1, yfieldN, yfieldAddr, List.getElem?_cons_zero, List.getElem?_cons_succ, List.map_cons, List.map_nil, List.getElem?_toArray, if_true, if_false, reduceIte, Bool.false_eq_true, Bool.true_eq_false, Bool.not_true, Bool.not_false, decide_true, decide_false, wrap_i64, ite_self, List.take_succ_cons, List.take_zero, Int.ofNat_eq_natCast, Int.cast_ofNat_Int, Int.reduceNegSucc, yfill_cons, yfill_nil, yfV_int, yfV_bool, yfV_string, yfV_slice, yfV_ptr, yfV_map, yfV_func, yfV_agg, ystE, ystC_int, ystC_bool, ystC_string, ystC_slice, ystC_ptr, ystC_map, ystC_func, ystC_agg, ok1_int, ok1_bool, ok1_string, ok1_slice, ok1_ptr, ok1_map, ok1_func, List.all_cons, List.all_nil, Bool.and_self, Bool.and_true, setC_nil, setC_cons, ldN, arr_size, arr_ext, List.length_cons, List.length_nil, List.set_cons_zero, List.set_cons_succ, List.drop_zero, List.drop_succ_cons, Nat.reduceLT, Nat.reduceLeDiff, Nat.reduceSub, Nat.sub_zero, ne_eq, not_false_eq_true, and_self, and_true, true_and, Nat.reduceEqDiff, Nat.succ_ne_self, cells_set, Heap.next_alloc, Heap.next_set, eq_self, xbox_agg, ld1, Option.bind_some, cells_alloc, arr_get, Nat.reduceAdd, Nat.add_zero, Nat.zero_add, gt_st, full_st, hF, hA, reduceIte, Nat.reduceEqDiff, Nat.reduceLT, decide_true, decide_false, Bool.false_eq_true, hlen _ (Grow.refl H), h0, Int.ofNat_zero]; rfl) ?_
    refine V.condT (by simp only [dA, gt_st, full_st, hF, hA, reduceIte, Nat.reduceEqDiff, Nat.reduceLT, decide_true, decide_false, Bool.false_eq_true]) ?_
    (repeat first | refine V.seq ?_ | refine V.block ?_ | refine V.scope ?_ | refine V.skip ?_ | refine V.close ?_)
    refine V.run ?_
    refine VI.callA rfl (f26_ok H) (by simp only [List.map_cons, List.map_nil, dA, gt_st, full_st, hF, hA, reduceIte, Nat.reduceEqDiff, Nat.reduceLT, decide_true, decide_false, Bool.false_eq_true, List.nil_append, List.append_nil, List.cons_append]; try rfl) (fun H2 g2 => ?_)
    refine VI.line (by simp (disch := omega) only [dis, disD, dop, dA, sets, ypick_b, Option.map_some, Option.map_none, bin_add, bin_sub, bin_mul, bin_quo, bin_rem, bin_eql, bin_neq, bin_lss, bin_leq, bin_gtr, bin_geq, un_not, un_neg, ex_tup, yconv_int, yfield1, yfieldN, yfieldAddr, List.getElem?_cons_zero, List.getElem?_cons_succ, List.map_cons, List.map_nil, List.getElem?_toArray, if_true, if_false, reduceIte, Bool.false_eq_true, Bool.true_eq_false, Bool.not_true, Bool.not_false, decide_true, decide_false, wrap_i64, ite_self, List.take_succ_cons, List.take_zero, Int.ofNat_eq_natCast, Int.cast_ofNat_Int, Int.reduceNegSucc, yfill_cons, yfill_nil, yfV_int, yfV_bool, yfV_string, yfV_slice, yfV_ptr, yfV_map, yfV_func, yfV_agg, ystE, ystC_int, ystC_bool, ystC_string, ystC_slice, ystC_ptr, ystC_map, ystC_func, ystC_agg, ok1_int, ok1_bool, ok1_string, ok1_slice, ok1_ptr, ok1_map, ok1_func, List.all_cons, List.all_nil, Bool.and_self, Bool.and_true, setC_nil, setC_cons, ldN, arr_size, arr_ext, List.length_cons, List.length_nil, List.set_cons_zero, List.set_cons_succ, List.drop_zero, List.drop_succ_cons, Nat.reduceLT, Nat.reduceLeDiff, Nat.reduceSub, Nat.sub_zero, ne_eq, not_false_eq_true, and_self, and_true, true_and, Nat.reduceEqDiff, Nat.succ_ne_self, cells_set, Heap.next_alloc, Heap.next_set, eq_self, xbox_agg, ld1, Option.bind_some, cells_alloc, arr_get, Nat.reduceAdd, Nat.add_zero, Nat.zero_add, gt_st, full_st, hF, hA, reduceIte, Nat.reduceEqDiff, Nat.reduceLT, decide_true, decide_false, Bool.false_eq_true]; rfl) ?_
    refine V.ret (V.rets rfl (Lv.retF (by simp only [yres, yres1, yresL, ld1, yloadN, Option.map_some, gt_st, full_st, hF, hA, reduceIte, Nat.reduceEqDiff, Nat.reduceLT, decide_true, decide_false, Bool.false_eq_true]; rfl) ?_))
    rfl
  by_cases h200 : 200 < l.length
  · refine V.line (by simp (disch := omega) only [dis, disD, dop, dA, sets, ypick_b, Option.map_some, Option.map_none, bin_add, bin_sub, bin_mul, bin_quo, bin_rem, bin_eql, bin_neq, bin_lss, bin_leq, bin_gtr, bin_geq, un_not, un_neg, ex_tup, yconv_int, yfield1, yfieldN, yfieldAddr, List.getElem?_cons_zero, List.getElem?_cons_succ, List.map_cons, List.map_nil, List.getElem?_toArray, if_true, if_false, reduceIte, Bool.false_eq_true, Bool.true_eq_false, Bool.not_true, Bool.not_false, decide_true, decide_false, wrap_i64, ite_self, List.take_succ_cons, List.take_zero, Int.ofNat_eq_natCast, Int.cast_ofNat_Int, Int.reduceNegSucc, yfill_cons, yfill_nil, yfV_int, yfV_bool, yfV_string, yfV_slice, yfV_ptr, yfV_map, yfV_func, yfV_agg, ystE, ystC_int, ystC_bool, ystC_string, ystC_slice, ystC_ptr, ystC_map, ystC_func, ystC_agg, ok1_int, ok1_bool, ok1_string, ok1_slice, ok1_ptr, ok1_map, ok1_func, List.all_cons, List.all_nil, Bool.and_self, Bool.and_true, setC_nil, setC_cons, ldN, arr_size, arr_ext, List.length_cons, List.length_nil, List.set_cons_zero, List.set_cons_succ, List.drop_zero, List.drop_succ_cons, Nat.reduceLT, Nat.reduceLeDiff, Nat.reduceSub, Nat.sub_zero, ne_eq, not_false_eq_true, and_self, and_true, true_and, Nat.reduceEqDiff, Nat.succ_ne_self, cells_set, Heap.next_alloc, Heap.next_set, eq_self, xbox_agg, ld1, Option.bind_some, cells_alloc, arr_get, Nat.reduceAdd, Nat.add_zero, Nat.zero_add, gt_st, full_st, hF, hA, reduceIte, Nat.reduceEqDiff, Nat.reduceLT, decide_true, decide_false, Bool.false_eq_true, hlen _ (Grow.refl H), show ¬ ((l.length : Int) = 0) by omega, show (200 : Int) < l.length by omega]; rfl) ?_
    refine V.condT (by simp only [dA, gt_st, full_st, hF, hA, reduceIte, Nat.reduceEqDiff, Nat.reduceLT, decide_true, decide_false, Bool.false_eq_true]) ?_
    (repeat first | refine V.seq ?_ | refine V.block ?_ | refine V.scope ?_ | refine V.skip ?_ | refine V.close ?_)
    refine V.run ?_
    refine VI.callA rfl (f26_ok H) (by simp only [List.map_cons, List.map_nil, dA, gt_st, full_st, hF, hA, reduceIte, Nat.reduceEqDiff, Nat.reduceLT, decide_true, decide_false, Bool.false_eq_true, List.nil_append, List.append_nil, List.cons_append]; try rfl) (fun H2 g2 => ?_)
    refine VI.line (by simp (disch := omega) only [dis, disD, dop, dA, sets, ypick_b, Option.map_some, Option.map_none, bin_add, bin_sub, bin_mul, bin_quo, bin_rem, bin_eql, bin_neq, bin_lss, bin_leq, bin_gtr, bin_geq, un_not, un_neg, ex_tup, yconv_int, yfield1, yfieldN, yfieldAddr, List.getElem?_cons_zero, List.getElem?_cons_succ, List.map_cons, List.map_nil, List.getElem?_toArray, if_true, if_false, reduceIte, Bool.false_eq_true, Bool.true_eq_false, Bool.not_true, Bool.not_false, decide_true, decide_false, wrap_i64, ite_self, List.take_succ_cons, List.take_zero, Int.ofNat_eq_natCast, Int.cast_ofNat_Int, Int.reduceNegSucc, yfill_cons, yfill_nil, yfV_int, yfV_bool, yfV_string, yfV_slice, yfV_ptr, yfV_map, yfV_func, yfV_agg, ystE, ystC_int, ystC_bool, ystC_string, ystC_slice, ystC_ptr, ystC_map, ystC_func, ystC_agg, ok1_int, ok1_bool, ok1_string, ok1_slice, ok1_ptr, ok1_map, ok1_func, List.all_cons, List.all_nil, Bool.and_self, Bool.and_true, setC_nil, setC_cons, ldN, arr_size, arr_ext, List.length_cons, List.length_nil, List.set_cons_zero, List.set_cons_succ, List.drop_zero, List.drop_succ_cons, Nat.reduceLT, Nat.reduceLeDiff, Nat.reduceSub, Nat.sub_zero, ne_eq, not_false_eq_true, and_self, and_true, true_and, Nat.reduceEqDiff, Nat.succ_ne_self, cells_set, Heap.next_alloc, Heap.next_set, eq_self, xbox_agg, ld1, Option.bind_some, cells_alloc, arr_get, Nat.reduceAdd, Nat.add_zero, Nat.zero_add, gt_st, full_st, hF, hA, reduceIte, Nat.reduceEqDiff, Nat.reduceLT, decide_true, decide_false, Bool.false_eq_true]; rfl) ?_
    refine V.ret (V.rets rfl (Lv.retF (by simp only [yres, yres1, yresL, ld1, yloadN, Option.map_some, gt_st, full_st, hF, hA, reduceIte, Nat.reduceEqDiff, Nat.reduceLT, decide_true, decide_false, Bool.false_eq_true]; rfl) ?_))
    rfl
  refine V.line (by simp (disch := omega) only [dis, disD, dop, dA, sets, ypick_b, Option.map_some, Option.map_none, bin_add, bin_sub, bin_mul, bin_quo, bin_rem, bin_eql, bin_neq, bin_lss, bin_leq, bin_gtr, bin_geq, un_not, un_neg, ex_tup, yconv_int, yfield1, yfieldN, yfieldAddr, List.getElem?_cons_zero, List.getElem?_cons_succ, List.map_cons, List.map_nil, List.getElem?_toArray, if_true, if_false, reduceIte, Bool.false_eq_true, Bool.true_eq_false, Bool.not_true, Bool.not_false, decide_true, decide_false, wrap_i64, ite_self, List.take_succ_cons, List.take_zero, Int.ofNat_eq_natCast, Int.cast_ofNat_Int, Int.reduceNegSucc, yfill_cons, yfill_nil, yfV_int, yfV_bool, yfV_string, yfV_slice, yfV_ptr, yfV_map, yfV_func, yfV_agg, ystE, ystC_int, ystC_bool, ystC_string, ystC_slice, ystC_ptr, ystC_map, ystC_func, ystC_agg, ok1_int, ok1_bool, ok1_string, ok1_slice, ok1_ptr, ok1_map, ok1_func, List.all_cons, List.all_nil, Bool.and_self, Bool.and_true, setC_nil, setC_cons, ldN, arr_size, arr_ext, List.length_cons, List.length_nil, List.set_cons_zero, List.set_cons_succ, List.drop_zero, List.drop_succ_cons, Nat.reduceLT, Nat.reduceLeDiff, Nat.reduceSub, Nat.sub_zero, ne_eq, not_false_eq_true, and_self, and_true, true_and, Nat.reduceEqDiff, Nat.succ_ne_self, cells_set, Heap.next_alloc, Heap.next_set, eq_self, xbox_agg, ld1, Option.bind_some, cells_alloc, arr_get, Nat.reduceAdd, Nat.add_zero, Nat.zero_add, gt_st, full_st, hF, hA, reduceIte, Nat.reduceEqDiff, Nat.reduceLT, decide_true, decide_false, Bool.false_eq_true, hlen _ (Grow.refl H), show ¬ ((l.length : Int) = 0) by omega, show ¬ ((200 : Int) < l.length) by omega]; rfl) ?_
  refine V.condF (by simp only [dA, gt_st, full_st, hF, hA, reduceIte, Nat.reduceEqDiff, Nat.reduceLT, decide_true, decide_false, Bool.false_eq_true]) ?_
  (repeat first | refine V.seq ?_ | refine V.block ?_ | refine V.scope ?_ | refine V.skip ?_ | refine V.close ?_)
  refine V.line (by simp (disch := omega) only [dis, disD, dop, dA, sets, ypick_b, Option.map_some, Option.map_none, bin_add, bin_sub, bin_mul, bin_quo, bin_rem, bin_eql, bin_neq, bin_lss, bin_leq, bin_gtr, bin_geq, un_not, un_neg, ex_tup, yconv_int, yfield1, yfieldN, yfieldAddr, List.getElem?_cons_zero, List.getElem?_cons_succ, List.map_cons, List.map_nil, List.getElem?_toArray, if_true, if_false, reduceIte, Bool.false_eq_true, Bool.true_eq_false, Bool.not_true, Bool.not_false, decide_true, decide_false, wrap_i64, ite_self, List.take_succ_cons, List.take_zero, Int.ofNat_eq_natCast, Int.cast_ofNat_Int, Int.reduceNegSucc, yfill_cons, yfill_nil, yfV_int, yfV_bool, yfV_string, yfV_slice, yfV_ptr, yfV_map, yfV_func, yfV_agg, ystE, ystC_int, ystC_bool, ystC_string, ystC_slice, ystC_ptr, ystC_map, ystC_func, ystC_agg, ok1_int, ok1_bool, ok1_string, ok1_slice, ok1_ptr, ok1_map, ok1_func, List.all_cons, List.all_nil, Bool.and_self, Bool.and_true, setC_nil, setC_cons, ldN, arr_size, arr_ext, List.length_cons, List.length_nil, List.set_cons_zero, List.set_cons_succ, List.drop_zero, List.drop_succ_cons, Nat.reduceLT, Nat.reduceLeDiff, Nat.reduceSub, Nat.sub_zero, ne_eq, not_false_eq_true, and_self, and_true, true_and, Nat.reduceEqDiff, Nat.succ_ne_self, cells_set, Heap.next_alloc, Heap.next_set, eq_self, xbox_agg, ld1, Option.bind_some, cells_alloc, arr_get, Nat.reduceAdd, Nat.add_zero, Nat.zero_add, gt_st, full_st, hF, hA, reduceIte, Nat.reduceEqDiff, Nat.reduceLT, decide_true, decide_false, Bool.false_eq_true, w1]; rfl) ?_
  (repeat first | refine V.seq ?_ | refine V.block ?_ | refine V.scope ?_ | refine V.skip ?_ | refine V.close ?_)
  refine V.line (by simp (disch := omega) only [dis, disD, dop, dA, sets, ypick_b, Option.map_some, Option.map_none, bin_add, bin_sub, bin_mul, bin_quo, bin_rem, bin_eql, bin_neq, bin_lss, bin_leq, bin_gtr, bin_geq, un_not, un_neg, ex_tup, yconv_int, yfield1, yfieldN, yfieldAddr, List.getElem?_cons_zero, List.getElem?_cons_succ, List.map_cons, List.map_nil, List.getElem?_toArray, if_true, if_false, reduceIte, Bool.false_eq_true, Bool.true_eq_false, Bool.not_true, Bool.not_false, decide_true, decide_false, wrap_i64, ite_self, List.take_succ_cons, List.take_zero, Int.ofNat_eq_natCast, Int.cast_ofNat_Int, Int.reduceNegSucc, yfill_cons, yfill_nil, yfV_int, yfV_bool, yfV_string, yfV_slice, yfV_ptr, yfV_map, yfV_func, yfV_agg, ystE, ystC_int, ystC_bool, ystC_string, ystC_slice, ystC_ptr, ystC_map, ystC_func, ystC_agg, ok1_int, ok1_bool, ok1_string, ok1_slice, ok1_ptr, ok1_map, ok1_func, List.all_cons, List.all_nil, Bool.and_self, Bool.and_true, setC_nil, setC_cons, ldN, arr_size, arr_ext, List.length_cons, List.length_nil, List.set_cons_zero, List.set_cons_succ, List.drop_zero, List.drop_succ_cons, Nat.reduceLT, Nat.reduceLeDiff, Nat.reduceSub, Nat.sub_zero, ne_eq, not_false_eq_true, and_self, and_true, true_and, Nat.reduceEqDiff, Nat.succ_ne_self, cells_set, Heap.next_alloc, Heap.next_set, eq_self, xbox_agg, ld1, Option.bind_some, cells_alloc, arr_get, Nat.reduceAdd, Nat.add_zero, Nat.zero_add, gt_st, full_st, hF, hA, reduceIte, Nat.reduceEqDiff, Nat.reduceLT, decide_true, decide_false, Bool.false_eq_true]; rfl) ?_
  (repeat first | refine V.seq ?_ | refine V.block ?_ | refine V.scope ?_ | refine V.skip ?_ | refine V.close ?_)
  refine V.line (by simp (disch := omega) only [dis, disD, dop, dA, sets, ypick_b, Option.map_some, Option.map_none, bin_add, bin_sub, bin_mul, bin_quo, bin_rem, bin_eql, bin_neq, bin_lss, bin_leq, bin_gtr, bin_geq, un_not, un_neg, ex_tup, yconv_int, yfield1, yfieldN, yfieldAddr, List.getElem?_cons_zero, List.getElem?_cons_succ, List.map_cons, List.map_nil, List.getElem?_toArray, if_true, if_false, reduceIte, Bool.false_eq_true, Bool.true_eq_false, Bool.not_true, Bool.not_false, decide_true, decide_false, wrap_i64, ite_self, List.take_succ_cons, List.take_zero, Int.ofNat_eq_natCast, Int.cast_ofNat_Int, Int.reduceNegSucc, yfill_cons, yfill_nil, yfV_int, yfV_bool, yfV_string, yfV_slice, yfV_ptr, yfV_map, yfV_func, yfV_agg, ystE, ystC_int, ystC_bool, ystC_string, ystC_slice, ystC_ptr, ystC_map, ystC_func, ystC_agg, ok1_int, ok1_bool, ok1_string, ok1_slice, ok1_ptr, ok1_map, ok1_func, List.all_cons, List.all_nil, Bool.and_self, Bool.and_true, setC_nil, setC_cons, ldN, arr_size, arr_ext, List.length_cons, List.length_nil, List.set_cons_zero, List.set_cons_succ, List.drop_zero, List.drop_succ_cons, Nat.reduceLT, Nat.reduceLeDiff, Nat.reduceSub, Nat.sub_zero, ne_eq, not_false_eq_true, and_self, and_true, true_and, Nat.reduceEqDiff, Nat.succ_ne_self, cells_set, Heap.next_alloc, Heap.next_set, eq_self, xbox_agg, ld1, Option.bind_some, cells_alloc, arr_get, Nat.reduceAdd, Nat.add_zero, Nat.zero_add, gt_st, full_st, hF, hA, reduceIte, Nat.reduceEqDiff, Nat.reduceLT, decide_true, decide_false, Bool.false_eq_true]; rfl) ?_
  (repeat first | refine V.seq ?_ | refine V.block ?_ | refine V.scope ?_ | refine V.skip ?_ | refine V.close ?_)
  refine V.loop (fun n t m H' => ∃ (k : Nat) (w6 w7 : Value), k ≤ l.length ∧ n = l.length - k ∧ Ow H H' 3 w6 (((l.take k).map an).map I) ∧ Ow H H' 3 w7 (((l.take k).map (hn (1 + b.tmod 12))).map I) ∧ Sep w6 w7 ∧ m = [] ∧ Grow H H' ∧ Full 104 t ∧ Kn [(0, v), (1, B b), (5, I (1 + b.tmod 12)), (6, w6), (7, w7), (8, I k)] t) l.length ?_ ?_
  · exact ⟨0, _, _, by omega, by omega, .nil, .nil, (fun i h => by cases h), rfl, .refl _, (by intro i; simp only [full_st, hF]), (by simp only [Kn, gt_st, full_st, hF, hA, reduceIte, Nat.reduceEqDiff, Nat.reduceLT, decide_true, decide_false, Bool.false_eq_true, and_self, and_true, true_and]; try (repeat' constructor))⟩
  clear hF hA
  rintro n t m H' ⟨k, w6, w7, hk, rfl, ho6, ho7, hsep, rfl, hg, hF, hA⟩
  simp only [Kn, and_true] at hA
  (repeat first | refine V.seq ?_ | refine V.block ?_ | refine V.scope ?_ | refine V.skip ?_ | refine V.close ?_)
  refine V.line (by simp (disch := omega) only [dis, disD, dop, dA, sets, ypick_b, Option.map_some, Option.map_none, bin_add, bin_sub, bin_mul, bin_quo, bin_rem, bin_eql, bin_neq, bin_lss, bin_leq, bin_gtr, bin_geq, un_not, un_neg, ex_tup, yconv_int, yfield1, yfieldN, yfieldAddr, List.getElem?_cons_zero, List.getElem?_cons_succ, List.map_cons, List.map_nil, List.getElem?_toArray, if_true, if_false, reduceIte, Bool.false_eq_true, Bool.true_eq_false, Bool.not_true, Bool.not_false, decide_true, decide_false, wrap_i64, ite_self, List.take_succ_cons, List.take_zero, Int.ofNat_eq_natCast, Int.cast_ofNat_Int, Int.reduceNegSucc, yfill_cons, yfill_nil, yfV_int, yfV_bool, yfV_string, yfV_slice, yfV_ptr, yfV_map, yfV_func, yfV_agg, ystE, ystC_int, ystC_bool, ystC_string, ystC_slice, ystC_ptr, ystC_map, ystC_func, ystC_agg, ok1_int, ok1_bool, ok1_string, ok1_slice, ok1_ptr, ok1_map, ok1_func, List.all_cons, List.all_nil, Bool.and_self, Bool.and_true, setC_nil, setC_cons, ldN, arr_size, arr_ext, List.length_cons, List.length_nil, List.set_cons_zero, List.set_cons_succ, List.drop_zero, List.drop_succ_cons, Nat.reduceLT, Nat.reduceLeDiff, Nat.reduceSub, Nat.sub_zero, ne_eq, not_false_eq_true, and_self, and_true, true_and, Nat.reduceEqDiff, Nat.succ_ne_self, cells_set, Heap.next_alloc, Heap.next_set, eq_self, xbox_agg, ld1, Option.bind_some, cells_alloc, arr_get, Nat.reduceAdd, Nat.add_zero, Nat.zero_add, gt_st, full_st, hF, hA, reduceIte, Nat.reduceEqDiff, Nat.reduceLT, decide_true, decide_false, Bool.false_eq_true, hlen _ hg]; rfl) ?_
  (repeat first | refine V.seq ?_ | refine V.block ?_ | refine V.scope ?_ | refine V.skip ?_ | refine V.close ?_)
  refine V.condP (by simp only [dA, gt_st, full_st, hF, hA, reduceIte, Nat.reduceEqDiff, Nat.reduceLT, decide_true, decide_false, Bool.false_eq_true]; rfl) (fun h5 => ?_) (fun h5 => ?_)
  · have hlt' : k < l.length := by omega
    obtain ⟨q, hq1, hq2⟩ := hS.get (n := k) (k := k) (x := B l[k]) (kd := .i64) (by simp [hlt']) rfl
    have hk0 := hl l[k] (by simp)
    have w2 : IntKind.i64.wrap l[k] = l[k] := wrap_i64 (by omega) (by omega)
    have hk1 := an_in hk0.1
    have hk2 := hn_in hk0.1 (b := 1 + b.tmod 12) (by omega)
    (repeat first | refine V.seq ?_ | refine V.block ?_ | refine V.scope ?_ | refine V.skip ?_ | refine V.close ?_)
    refine V.line (by simp (disch := omega) only [dis, disD, dop, dA, sets, ypick_b, Option.map_some, Option.map_none, bin_add, bin_sub, bin_mul, bin_quo, bin_rem, bin_eql, bin_neq, bin_lss, bin_leq, bin_gtr, bin_geq, un_not, un_neg, ex_tup, yconv_int, yfield1, yfieldN, yfieldAddr, List.getElem?_cons_zero, List.getElem?_cons_succ, List.map_cons, List.map_nil, List.getElem?_toArray, if_true, if_false, reduceIte, Bool.false_eq_true, Bool.true_eq_false, Bool.not_true, Bool.not_false, decide_true, decide_false, wrap_i64, ite_self, List.take_succ_cons, List.take_zero, Int.ofNat_eq_natCast, Int.cast_ofNat_Int, Int.reduceNegSucc, yfill_cons, yfill_nil, yfV_int, yfV_bool, yfV_string, yfV_slice, yfV_ptr, yfV_map, yfV_func, yfV_agg, ystE, ystC_int, ystC_bool, ystC_string, ystC_slice, ystC_ptr, ystC_map, ystC_func, ystC_agg, ok1_int, ok1_bool, ok1_string, ok1_slice, ok1_ptr, ok1_map, ok1_func, List.all_cons, List.all_nil, Bool.and_self, Bool.and_true, setC_nil, setC_cons, ldN, arr_size, arr_ext, List.length_cons, List.length_nil, List.set_cons_zero, List.set_cons_succ, List.drop_zero, List.drop_succ_cons, Nat.reduceLT, Nat.reduceLeDiff, Nat.reduceSub, Nat.sub_zero, ne_eq, not_false_eq_true, and_self, and_true, true_and, Nat.reduceEqDiff, Nat.succ_ne_self, cells_set, Heap.next_alloc, Heap.next_set, eq_self, xbox_agg, ld1, Option.bind_some, cells_alloc, arr_get, Nat.reduceAdd, Nat.add_zero, Nat.zero_add, gt_st, full_st, hF, hA, reduceIte, Nat.reduceEqDiff, Nat.reduceLT, decide_true, decide_false, Bool.false_eq_true, hq1, hq2 _ hg, w2]; rfl) ?_
    have e1 := mm_take an hlt'
    have e2 := mm_take (hn (1 + b.tmod 12)) hlt'
    obtain ⟨u6, H2, a1, a2, a3, a4, a5, a6, a7, a8⟩ := ho6.push (bytes := 8) (r := [I (an l[k])]) hg rfl (by simp) (by simp; omega) (by simp; omega)
    have ho7' := a4.sep ho7 hsep
    obtain ⟨u7, H3, b1, b2, b3, b4, b5, b6, b7, b8⟩ := ho7'.push (bytes := 8) (r := [I (hn (1 + b.tmod 12) l[k])]) a3 rfl (by simp) (by simp; omega) (by simp; omega)
    have hs2 : Sep u6 u7 := fun i h1 h2 => by
      rw [a5] at h1
      rw [b5] at h2
      have h1 := Option.some.inj h1
      have h2 := Option.some.inj h2
      omega
    have hs3 : Sep w7 u6 := fun i h1 h2 => by
      have := ho7.lt h1
      rw [a5] at h2
      have h2 := Option.some.inj h2
      omega
    have ho6' := b4.sep a2 hs3
    rw [e1] at ho6'
    rw [e2] at b2
    (repeat first | refine V.seq ?_ | refine V.block ?_ | refine V.scope ?_ | refine V.skip ?_ | refine V.close ?_)
    have w3 : IntKind.i64.wrap (an l[k] - (an l[k]).tmod (1 + b.tmod 12)) = hn (1 + b.tmod 12) l[k] := wrap_i64 (x := hn (1 + b.tmod 12) l[k]) (by omega) (by omega)
    refine V.re [(0, v), (1, B b), (5, I (1 + b.tmod 12)), (6, w6), (7, w7), (8, I k), (9, I (an l[k]))] (N := 104) (by intro i; simp only [full_st, hF]) (by simp only [Kn, gt_st, full_st, hF, hA, reduceIte, Nat.reduceEqDiff, Nat.reduceLT, decide_true, decide_false, Bool.false_eq_true, and_self, and_true, true_and]; try (repeat' constructor)) ?_
    clear hF hA
    intro t hF hA
    simp only [Kn, and_true] at hA
    have a1 : yappend 3 1 8 (H'.alloc (.cells ⟨[I (an l[k])]⟩ 3 true)) w6 (.slice (some ⟨H'.next, 0, none⟩) 1 1) = some (u6, H2) := a1
    have b1 : yappend 3 1 8 (H2.alloc (.cells ⟨[I (hn (1 + b.tmod 12) l[k])]⟩ 3 true)) w7 (.slice (some ⟨H2.next, 0, none⟩) 1 1) = some (u7, H3) := b1
    have n1 : ¬ (1 + b.tmod 12 = 0) := by omega
    refine V.lineD (by simp (disch := omega) only [dis, disD, dop, dA, sets, ypick_b, Option.map_some, Option.map_none, bin_add, bin_sub, bin_mul, bin_quo, bin_rem, bin_eql, bin_neq, bin_lss, bin_leq, bin_gtr, bin_geq, un_not, un_neg, ex_tup, yconv_int, yfield1, yfieldN, yfieldAddr, List.getElem?_cons_zero, List.getElem?_cons_succ, List.map_cons, List.map_nil, List.getElem?_toArray, if_true, if_false, reduceIte, Bool.false_eq_true, Bool.true_eq_false, Bool.not_true, Bool.not_false, decide_true, decide_false, wrap_i64, ite_self, List.take_succ_cons, List.take_zero, Int.ofNat_eq_natCast, Int.cast_ofNat_Int, Int.reduceNegSucc, yfill_cons, yfill_nil, yfV_int, yfV_bool, yfV_string, yfV_slice, yfV_ptr, yfV_map, yfV_func, yfV_agg, ystE, ystC_int, ystC_bool, ystC_string, ystC_slice, ystC_ptr, ystC_map, ystC_func, ystC_agg, ok1_int, ok1_bool, ok1_string, ok1_slice, ok1_ptr, ok1_map, ok1_func, List.all_cons, List.all_nil, Bool.and_self, Bool.and_true, setC_nil, setC_cons, ldN, arr_size, arr_ext, List.length_cons, List.length_nil, List.set_cons_zero, List.set_cons_succ, List.drop_zero, List.drop_succ_cons, Nat.reduceLT, Nat.reduceLeDiff, Nat.reduceSub, Nat.sub_zero, ne_eq, not_false_eq_true, and_self, and_true, true_and, Nat.reduceEqDiff, Nat.succ_ne_self, cells_set, Heap.next_alloc, Heap.next_set, eq_self, xbox_agg, ld1, Option.bind_some, cells_alloc, arr_get, Nat.reduceAdd, Nat.add_zero, Nat.zero_add, gt_st, full_st, hF, hA, reduceIte, Nat.reduceEqDiff, Nat.reduceLT, decide_true, decide_false, Bool.false_eq_true, w3, a1, b1, n1]; rfl) ?_ ?_ rfl ?_
    · simp only [monoG, Heap.next_alloc, Nat.le_refl, true_and, and_true]; omega
    · simp only [dcAll, dcOk, wantD, true_and, and_true]
      exact ⟨fun _ => ⟨_, _, _, rfl, rfl, rfl, (by simp only [gt_st, full_st, hF, hA, reduceIte, Nat.reduceEqDiff, Nat.reduceLT, decide_true, decide_false, Bool.false_eq_true]; simp [inBound]), fun _ => ⟨_, _, _, cells_alloc _ _ _ _, rfl⟩⟩, fun _ => ⟨_, _, _, rfl, rfl, rfl, (by simp only [gt_st, full_st, hF, hA, reduceIte, Nat.reduceEqDiff, Nat.reduceLT, decide_true, decide_false, Bool.false_eq_true]; simp [inBound]), fun _ => ⟨_, _, _, cells_alloc _ _ _ _, rfl⟩⟩⟩
    refine V.re [(0, v), (1, B b), (5, I (1 + b.tmod 12)), (6, u6), (7, u7), (8, I k)] (N := 104) (by intro i; simp only [full_st, hF]) (by simp only [Kn, gt_st, full_st, hF, hA, reduceIte, Nat.reduceEqDiff, Nat.reduceLT, decide_true, decide_false, Bool.false_eq_true, and_self, and_true, true_and]; try (repeat' constructor)) ?_
    clear hF hA
    intro t hF hA
    simp only [Kn, and_true] at hA
    (repeat first | refine V.seq ?_ | refine V.block ?_ | refine V.scope ?_ | refine V.skip ?_ | refine V.close ?_)
    refine V.line (by simp (disch := omega) only [dis, disD, dop, dA, sets, ypick_b, Option.map_some, Option.map_none, bin_add, bin_sub, bin_mul, bin_quo, bin_rem, bin_eql, bin_neq, bin_lss, bin_leq, bin_gtr, bin_geq, un_not, un_neg, ex_tup, yconv_int, yfield1, yfieldN, yfieldAddr, List.getElem?_cons_zero, List.getElem?_cons_succ, List.map_cons, List.map_nil, List.getElem?_toArray, if_true, if_false, reduceIte, Bool.false_eq_true, Bool.true_eq_false, Bool.not_true, Bool.not_false, decide_true, decide_false, wrap_i64, ite_self, List.take_succ_cons, List.take_zero, Int.ofNat_eq_natCast, Int.cast_ofNat_Int, Int.reduceNegSucc, yfill_cons, yfill_nil, yfV_int, yfV_bool, yfV_string, yfV_slice, yfV_ptr, yfV_map, yfV_func, yfV_agg, ystE, ystC_int, ystC_bool, ystC_string, ystC_slice, ystC_ptr, ystC_map, ystC_func, ystC_agg, ok1_int, ok1_bool, ok1_string, ok1_slice, ok1_ptr, ok1_map, ok1_func, List.all_cons, List.all_nil, Bool.and_self, Bool.and_true, setC_nil, setC_cons, ldN, arr_size, arr_ext, List.length_cons, List.length_nil, List.set_cons_zero, List.set_cons_succ, List.drop_zero, List.drop_succ_cons, Nat.reduceLT, Nat.reduceLeDiff, Nat.reduceSub, Nat.sub_zero, ne_eq, not_false_eq_true, and_self, and_true, true_and, Nat.reduceEqDiff, Nat.succ_ne_self, cells_set, Heap.next_alloc, Heap.next_set, eq_self, xbox_agg, ld1, Option.bind_some, cells_alloc, arr_get, Nat.reduceAdd, Nat.add_zero, Nat.zero_add, gt_st, full_st, hF, hA, reduceIte, Nat.reduceEqDiff, Nat.reduceLT, decide_true, decide_false, Bool.false_eq_true]; rfl) ?_
    refine V.nil (Or.inl ⟨rfl, l.length - (k + 1), by omega, ?_⟩)
    exact ⟨k + 1, u6, u7, by omega, rfl, ho6', b2, hs2, rfl, b3, (by intro i; simp only [full_st, hF]), (by simp only [Kn, gt_st, full_st, hF, hA, reduceIte, Nat.reduceEqDiff, Nat.reduceLT, decide_true, decide_false, Bool.false_eq_true, and_self, and_true, true_and]; try (repeat' constructor))⟩
  · have hkl : l.take k = l := List.take_of_length_le (by omega)
    rw [hkl] at ho6 ho7
    have m6 : ∀ x ∈ l.map an, 0 ≤ x ∧ x ≤ 140 := by
      intro x hx
      obtain ⟨y, hy, rfl⟩ := List.mem_map.1 hx
      exact an_in (hl y hy).1
    have m7 : ∀ x ∈ l.map (hn (1 + b.tmod 12)), 0 ≤ x ∧ x ≤ 140 := by
      intro x hx
      obtain ⟨y, hy, rfl⟩ := List.mem_map.1 hx
      exact hn_in (hl y hy).1 (by omega)
    have p1 := hp_mult (l := l.map an) (b := 1) (by simp; omega) (by omega) m6 (by rw [List.length_map]; omega) (fun x _ => by rw [Int.tmod_one])
    have p2 := hp_mult (l := l.map (hn (1 + b.tmod 12))) (b := 1 + b.tmod 12) (by simp; omega) (by omega) m7 (by rw [List.length_map]; omega) (fun x hx => by
      obtain ⟨y, hy, rfl⟩ := List.mem_map.1 hx
      exact hn_mod (hl y hy).1 (by omega))
    have p3 := hp_any (l := l.map an) (b := 1 + b.tmod 12) (by simp; omega) (by omega) m6 (by rw [List.length_map]; omega)
    generalize hpe : hp (l.map an) (1 + b.tmod 12) = pc at p3
    obtain ⟨pc1, pc2⟩ := pc
    obtain ⟨rfl, p4, p5⟩ := p3
    simp only at p4 p5
    refine V.exit ?_
    (repeat first | refine V.pass ?_ | refine V.here ?_ | refine V.out (by decide) ?_)
    refine V.nil (Or.inr ⟨by simp, ?_⟩)
    (repeat first | refine V.pass ?_ | refine V.here ?_ | refine V.out (by decide) ?_)
    (repeat first | refine V.seq ?_ | refine V.block ?_ | refine V.scope ?_ | refine V.skip ?_ | refine V.close ?_)
    refine V.run ?_
    refine VI.steps 1 (by simp (disch := omega) only [dis, disD, dop, dA, sets, ypick_b, Option.map_some, Option.map_none, bin_add, bin_sub, bin_mul, bin_quo, bin_rem, bin_eql, bin_neq, bin_lss, bin_leq, bin_gtr, bin_geq, un_not, un_neg, ex_tup, yconv_int, yfield1, yfieldN, yfieldAddr, List.getElem?_cons_zero, List.getElem?_cons_succ, List.map_cons, List.map_nil, List.getElem?_toArray, if_true, if_false, reduceIte, Bool.false_eq_true, Bool.true_eq_false, Bool.not_true, Bool.not_false, decide_true, decide_false, wrap_i64, ite_self, List.take_succ_cons, List.take_zero, Int.ofNat_eq_natCast, Int.cast_ofNat_Int, Int.reduceNegSucc, yfill_cons, yfill_nil, yfV_int, yfV_bool, yfV_string, yfV_slice, yfV_ptr, yfV_map, yfV_func, yfV_agg, ystE, ystC_int, ystC_bool, ystC_string, ystC_slice, ystC_ptr, ystC_map, ystC_func, ystC_agg, ok1_int, ok1_bool, ok1_string, ok1_slice, ok1_ptr, ok1_map, ok1_func, List.all_cons, List.all_nil, Bool.and_self, Bool.and_true, setC_nil, setC_cons, ldN, arr_size, arr_ext, List.length_cons, List.length_nil, List.set_cons_zero, List.set_cons_succ, List.drop_zero, List.drop_succ_cons, Nat.reduceLT, Nat.reduceLeDiff, Nat.reduceSub, Nat.sub_zero, ne_eq, not_false_eq_true, and_self, and_true, true_and, Nat.reduceEqDiff, Nat.succ_ne_self, cells_set, Heap.next_alloc, Heap.next_set, eq_self, xbox_agg, ld1, Option.bind_some, cells_alloc, arr_get, Nat.reduceAdd, Nat.add_zero, Nat.zero_add, gt_st, full_st, hF, hA, reduceIte, Nat.reduceEqDiff, Nat.reduceLT, decide_true, decide_false, Bool.false_eq_true]; rfl) ?_
    simp only [List.drop_succ_cons, List.drop_zero]
    refine VI.callA rfl (f36_ok (b := 1) ho6.sl (by simp; omega)) (by simp only [List.map_cons, List.map_nil, dA, gt_st, full_st, hF, hA, reduceIte, Nat.reduceEqDiff, Nat.reduceLT, decide_true, decide_false, Bool.false_eq_true, List.nil_append, List.append_nil, List.cons_append]; try rfl) (fun H2 g2 => ?_)
    rw [p1]
    refine VI.line (by simp (disch := omega) only [dis, disD, dop, dA, sets, ypick_b, Option.map_some, Option.map_none, bin_add, bin_sub, bin_mul, bin_quo, bin_rem, bin_eql, bin_neq, bin_lss, bin_leq, bin_gtr, bin_geq, un_not, un_neg, ex_tup, yconv_int, yfield1, yfieldN, yfieldAddr, List.getElem?_cons_zero, List.getElem?_cons_succ, List.map_cons, List.map_nil, List.getElem?_toArray, if_true, if_false, reduceIte, Bool.false_eq_true, Bool.true_eq_false, Bool.not_true, Bool.not_false, decide_true, decide_false, wrap_i64, ite_self, List.take_succ_cons, List.take_zero, Int.ofNat_eq_natCast, Int.cast_ofNat_Int, Int.reduceNegSucc, yfill_cons, yfill_nil, yfV_int, yfV_bool, yfV_string, yfV_slice, yfV_ptr, yfV_map, yfV_func, yfV_agg, ystE, ystC_int, ystC_bool, ystC_string, ystC_slice, ystC_ptr, ystC_map, ystC_func, ystC_agg, ok1_int, ok1_bool, ok1_string, ok1_slice, ok1_ptr, ok1_map, ok1_func, List.all_cons, List.all_nil, Bool.and_self, Bool.and_true, setC_nil, setC_cons, ldN, arr_size, arr_ext, List.length_cons, List.length_nil, List.set_cons_zero, List.set_cons_succ, List.drop_zero, List.drop_succ_cons, Nat.reduceLT, Nat.reduceLeDiff, Nat.reduceSub, Nat.sub_zero, ne_eq, not_false_eq_true, and_self, and_true, true_and, Nat.reduceEqDiff, Nat.succ_ne_self, cells_set, Heap.next_alloc, Heap.next_set, eq_self, xbox_agg, ld1, Option.bind_some, cells_alloc, arr_get, Nat.reduceAdd, Nat.add_zero, Nat.zero_add, gt_st, full_st, hF, hA, reduceIte, Nat.reduceEqDiff, Nat.reduceLT, decide_true, decide_false, Bool.false_eq_true]; rfl) ?_
    (repeat first | refine V.seq ?_ | refine V.block ?_ | refine V.scope ?_ | refine V.skip ?_ | refine V.close ?_)
    refine V.run ?_
    refine VI.steps 2 (by simp (disch := omega) only [dis, disD, dop, dA, sets, ypick_b, Option.map_some, Option.map_none, bin_add, bin_sub, bin_mul, bin_quo, bin_rem, bin_eql, bin_neq, bin_lss, bin_leq, bin_gtr, bin_geq, un_not, un_neg, ex_tup, yconv_int, yfield1, yfieldN, yfieldAddr, List.getElem?_cons_zero, List.getElem?_cons_succ, List.map_cons, List.map_nil, List.getElem?_toArray, if_true, if_false, reduceIte, Bool.false_eq_true, Bool.true_eq_false, Bool.not_true, Bool.not_false, decide_true, decide_false, wrap_i64, ite_self, List.take_succ_cons, List.take_zero, Int.ofNat_eq_natCast, Int.cast_ofNat_Int, Int.reduceNegSucc, yfill_cons, yfill_nil, yfV_int, yfV_bool, yfV_string, yfV_slice, yfV_ptr, yfV_map, yfV_func, yfV_agg, ystE, ystC_int, ystC_bool, ystC_string, ystC_slice, ystC_ptr, ystC_map, ystC_func, ystC_agg, ok1_int, ok1_bool, ok1_string, ok1_slice, ok1_ptr, ok1_map, ok1_func, List.all_cons, List.all_nil, Bool.and_self, Bool.and_true, setC_nil, setC_cons, ldN, arr_size, arr_ext, List.length_cons, List.length_nil, List.set_cons_zero, List.set_cons_succ, List.drop_zero, List.drop_succ_cons, Nat.reduceLT, Nat.reduceLeDiff, Nat.reduceSub, Nat.sub_zero, ne_eq, not_false_eq_true, and_self, and_true, true_and, Nat.reduceEqDiff, Nat.succ_ne_self, cells_set, Heap.next_alloc, Heap.next_set, eq_self, xbox_agg, ld1, Option.bind_some, cells_alloc, arr_get, Nat.reduceAdd, Nat.add_zero, Nat.zero_add, gt_st, full_st, hF, hA, reduceIte, Nat.reduceEqDiff, Nat.reduceLT, decide_true, decide_false, Bool.false_eq_true]; rfl) ?_
    simp only [List.drop_succ_cons, List.drop_zero]
    refine VI.callA rfl (f36_ok (b := 1 + b.tmod 12) (ho7.sl.grow g2) (by simp; omega)) (by simp only [List.map_cons, List.map_nil, dA, gt_st, full_st, hF, hA, reduceIte, Nat.reduceEqDiff, Nat.reduceLT, decide_true, decide_false, Bool.false_eq_true, List.nil_append, List.append_nil, List.cons_append]; try rfl) (fun H3 g3 => ?_)
    rw [p2]
    refine VI.line (by simp (disch := omega) only [dis, disD, dop, dA, sets, ypick_b, Option.map_some, Option.map_none, bin_add, bin_sub, bin_mul, bin_quo, bin_rem, bin_eql, bin_neq, bin_lss, bin_leq, bin_gtr, bin_geq, un_not, un_neg, ex_tup, yconv_int, yfield1, yfieldN, yfieldAddr, List.getElem?_cons_zero, List.getElem?_cons_succ, List.map_cons, List.map_nil, List.getElem?_toArray, if_true, if_false, reduceIte, Bool.false_eq_true, Bool.true_eq_false, Bool.not_true, Bool.not_false, decide_true, decide_false, wrap_i64, ite_self, List.take_succ_cons, List.take_zero, Int.ofNat_eq_natCast, Int.cast_ofNat_Int, Int.reduceNegSucc, yfill_cons, yfill_nil, yfV_int, yfV_bool, yfV_string, yfV_slice, yfV_ptr, yfV_map, yfV_func, yfV_agg, ystE, ystC_int, ystC_bool, ystC_string, ystC_slice, ystC_ptr, ystC_map, ystC_func, ystC_agg, ok1_int, ok1_bool, ok1_string, ok1_slice, ok1_ptr, ok1_map, ok1_func, List.all_cons, List.all_nil, Bool.and_self, Bool.and_true, setC_nil, setC_cons, ldN, arr_size, arr_ext, List.length_cons, List.length_nil, List.set_cons_zero, List.set_cons_succ, List.drop_zero, List.drop_succ_cons, Nat.reduceLT, Nat.reduceLeDiff, Nat.reduceSub, Nat.sub_zero, ne_eq, not_false_eq_true, and_self, and_true, true_and, Nat.reduceEqDiff, Nat.succ_ne_self, cells_set, Heap.next_alloc, Heap.next_set, eq_self, xbox_agg, ld1, Option.bind_some, cells_alloc, arr_get, Nat.reduceAdd, Nat.add_zero, Nat.zero_add, gt_st, full_st, hF, hA, reduceIte, Nat.reduceEqDiff, Nat.reduceLT, decide_true, decide_false, Bool.false_eq_true]; rfl) ?_
    (repeat first | refine V.seq ?_ | refine V.block ?_ | refine V.scope ?_ | refine V.skip ?_ | refine V.close ?_)
    refine V.run ?_
    refine VI.steps 1 (by simp (disch := omega) only [dis, disD, dop, dA, sets, ypick_b, Option.map_some, Option.map_none, bin_add, bin_sub, bin_mul, bin_quo, bin_rem, bin_eql, bin_neq, bin_lss, bin_leq, bin_gtr, bin_geq, un_not, un_neg, ex_tup, yconv_int, yfield1, yfieldN, yfieldAddr, List.getElem?_cons_zero, List.getElem?_cons_succ, List.map_cons, List.map_nil, List.getElem?_toArray, if_true, if_false, reduceIte, Bool.false_eq_true, Bool.true_eq_false, Bool.not_true, Bool.not_false, decide_true, decide_false, wrap_i64, ite_self, List.take_succ_cons, List.take_zero, Int.ofNat_eq_natCast, Int.cast_ofNat_Int, Int.reduceNegSucc, yfill_cons, yfill_nil, yfV_int, yfV_bool, yfV_string, yfV_slice, yfV_ptr, yfV_map, yfV_func, yfV_agg, ystE, ystC_int, ystC_bool, ystC_string, ystC_slice, ystC_ptr, ystC_map, ystC_func, ystC_agg, ok1_int, ok1_bool, ok1_string, ok1_slice, ok1_ptr, ok1_map, ok1_func, List.all_cons, List.all_nil, Bool.and_self, Bool.and_true, setC_nil, setC_cons, ldN, arr_size, arr_ext, List.length_cons, List.length_nil, List.set_cons_zero, List.set_cons_succ, List.drop_zero, List.drop_succ_cons, Nat.reduceLT, Nat.reduceLeDiff, Nat.reduceSub, Nat.sub_zero, ne_eq, not_false_eq_true, and_self, and_true, true_and, Nat.reduceEqDiff, Nat.succ_ne_self, cells_set, Heap.next_alloc, Heap.next_set, eq_self, xbox_agg, ld1, Option.bind_some, cells_alloc, arr_get, Nat.reduceAdd, Nat.add_zero, Nat.zero_add, gt_st, full_st, hF, hA, reduceIte, Nat.reduceEqDiff, Nat.reduceLT, decide_true, decide_false, Bool.false_eq_true]; rfl) ?_
    simp only [List.drop_succ_cons, List.drop_zero]
    refine VI.callR rfl (f33_ok (ho6.sl.grow (g2.trans g3)) (by simp; omega)) (by simp only [List.map_cons, List.map_nil, dA, gt_st, full_st, hF, hA, reduceIte, Nat.reduceEqDiff, Nat.reduceLT, decide_true, decide_false, Bool.false_eq_true, List.nil_append, List.append_nil, List.cons_append]; try rfl) (fun w8 H4 ⟨ho8, g4⟩ => ?_)
    refine VI.steps 1 (by simp (disch := omega) only [dis, disD, dop, dA, sets, ypick_b, Option.map_some, Option.map_none, bin_add, bin_sub, bin_mul, bin_quo, bin_rem, bin_eql, bin_neq, bin_lss, bin_leq, bin_gtr, bin_geq, un_not, un_neg, ex_tup, yconv_int, yfield1, yfieldN, yfieldAddr, List.getElem?_cons_zero, List.getElem?_cons_succ, List.map_cons, List.map_nil, List.getElem?_toArray, if_true, if_false, reduceIte, Bool.false_eq_true, Bool.true_eq_false, Bool.not_true, Bool.not_false, decide_true, decide_false, wrap_i64, ite_self, List.take_succ_cons, List.take_zero, Int.ofNat_eq_natCast, Int.cast_ofNat_Int, Int.reduceNegSucc, yfill_cons, yfill_nil, yfV_int, yfV_bool, yfV_string, yfV_slice, yfV_ptr, yfV_map, yfV_func, yfV_agg, ystE, ystC_int, ystC_bool, ystC_string, ystC_slice, ystC_ptr, ystC_map, ystC_func, ystC_agg, ok1_int, ok1_bool, ok1_string, ok1_slice, ok1_ptr, ok1_map, ok1_func, List.all_cons, List.all_nil, Bool.and_self, Bool.and_true, setC_nil, setC_cons, ldN, arr_size, arr_ext, List.length_cons, List.length_nil, List.set_cons_zero, List.set_cons_succ, List.drop_zero, List.drop_succ_cons, Nat.reduceLT, Nat.reduceLeDiff, Nat.reduceSub, Nat.sub_zero, ne_eq, not_false_eq_true, and_self, and_true, true_and, Nat.reduceEqDiff, Nat.succ_ne_self, cells_set, Heap.next_alloc, Heap.next_set, eq_self, xbox_agg, ld1, Option.bind_some, cells_alloc, arr_get, Nat.reduceAdd, Nat.add_zero, Nat.zero_add, gt_st, full_st, hF, hA, reduceIte, Nat.reduceEqDiff, Nat.reduceLT, decide_true, decide_false, Bool.false_eq_true]; rfl) ?_
    simp only [List.drop_succ_cons, List.drop_zero]
    refine VI.callA rfl (f36_ok (b := 1 + b.tmod 12) ho8.sl (by simp; omega)) (by simp only [List.map_cons, List.map_nil, dA, gt_st, full_st, hF, hA, reduceIte, Nat.reduceEqDiff, Nat.reduceLT, decide_true, decide_false, Bool.false_eq_true, List.nil_append, List.append_nil, List.cons_append]; try rfl) (fun H5 g5 => ?_)
    rw [hpe]
    refine VI.line (by simp (disch := omega) only [dis, disD, dop, dA, sets, ypick_b, Option.map_some, Option.map_none, bin_add, bin_sub, bin_mul, bin_quo, bin_rem, bin_eql, bin_neq, bin_lss, bin_leq, bin_gtr, bin_geq, un_not, un_neg, ex_tup, yconv_int, yfield1, yfieldN, yfieldAddr, List.getElem?_cons_zero, List.getElem?_cons_succ, List.map_cons, List.map_nil, List.getElem?_toArray, if_true, if_false, reduceIte, Bool.false_eq_true, Bool.true_eq_false, Bool.not_true, Bool.not_false, decide_true, decide_false, wrap_i64, ite_self, List.take_succ_cons, List.take_zero, Int.ofNat_eq_natCast, Int.cast_ofNat_Int, Int.reduceNegSucc, yfill_cons, yfill_nil, yfV_int, yfV_bool, yfV_string, yfV_slice, yfV_ptr, yfV_map, yfV_func, yfV_agg, ystE, ystC_int, ystC_bool, ystC_string, ystC_slice, ystC_ptr, ystC_map, ystC_func, ystC_agg, ok1_int, ok1_bool, ok1_string, ok1_slice, ok1_ptr, ok1_map, ok1_func, List.all_cons, List.all_nil, Bool.and_self, Bool.and_true, setC_nil, setC_cons, ldN, arr_size, arr_ext, List.length_cons, List.length_nil, List.set_cons_zero, List.set_cons_succ, List.drop_zero, List.drop_succ_cons, Nat.reduceLT, Nat.reduceLeDiff, Nat.reduceSub, Nat.sub_zero, ne_eq, not_false_eq_true, and_self, and_true, true_and, Nat.reduceEqDiff, Nat.succ_ne_self, cells_set, Heap.next_alloc, Heap.next_set, eq_self, xbox_agg, ld1, Option.bind_some, cells_alloc, arr_get, Nat.reduceAdd, Nat.add_zero, Nat.zero_add, gt_st, full_st, hF, hA, reduceIte, Nat.reduceEqDiff, Nat.reduceLT, decide_true, decide_false, Bool.false_eq_true]; rfl) ?_
    (repeat first | refine V.seq ?_ | refine V.block ?_ | refine V.scope ?_ | refine V.skip ?_ | refine V.close ?_)
    refine V.re [(5, I (1 + b.tmod 12)), (10, I 1000), (11, I 0), (12, I (1000 * (1 + b.tmod 12))), (13, I 0), (14, I pc1), (15, I 0)] (N := 104) (by intro i; simp only [full_st, hF]) (by simp only [Kn, gt_st, full_st, hF, hA, reduceIte, Nat.reduceEqDiff, Nat.reduceLT, decide_true, decide_false, Bool.false_eq_true, and_self, and_true, true_and]; try (repeat' constructor)) ?_
    clear hF hA
    intro t hF hA
    simp only [Kn, and_true] at hA
    refine V.run ?_
    refine VI.steps 5 (by simp (disch := omega) only [dis, disD, dop, dA, sets, ypick_b, Option.map_some, Option.map_none, bin_add, bin_sub, bin_mul, bin_quo, bin_rem, bin_eql, bin_neq, bin_lss, bin_leq, bin_gtr, bin_geq, un_not, un_neg, ex_tup, yconv_int, yfield1, yfieldN, yfieldAddr, List.getElem?_cons_zero, List.getElem?_cons_succ, List.map_cons, List.map_nil, List.getElem?_toArray, if_true, if_false, reduceIte, Bool.false_eq_true, Bool.true_eq_false, Bool.not_true, Bool.not_false, decide_true, decide_false, wrap_i64, ite_self, List.take_succ_cons, List.take_zero, Int.ofNat_eq_natCast, Int.cast_ofNat_Int, Int.reduceNegSucc, yfill_cons, yfill_nil, yfV_int, yfV_bool, yfV_string, yfV_slice, yfV_ptr, yfV_map, yfV_func, yfV_agg, ystE, ystC_int, ystC_bool, ystC_string, ystC_slice, ystC_ptr, ystC_map, ystC_func, ystC_agg, ok1_int, ok1_bool, ok1_string, ok1_slice, ok1_ptr, ok1_map, ok1_func, List.all_cons, List.all_nil, Bool.and_self, Bool.and_true, setC_nil, setC_cons, ldN, arr_size, arr_ext, List.length_cons, List.length_nil, List.set_cons_zero, List.set_cons_succ, List.drop_zero, List.drop_succ_cons, Nat.reduceLT, Nat.reduceLeDiff, Nat.reduceSub, Nat.sub_zero, ne_eq, not_false_eq_true, and_self, and_true, true_and, Nat.reduceEqDiff, Nat.succ_ne_self, cells_set, Heap.next_alloc, Heap.next_set, eq_self, xbox_agg, ld1, Option.bind_some, cells_alloc, arr_get, Nat.reduceAdd, Nat.add_zero, Nat.zero_add, gt_st, full_st, hF, hA, reduceIte, Nat.reduceEqDiff, Nat.reduceLT, decide_true, decide_false, Bool.false_eq_true]; rfl) ?_
    simp only [List.drop_succ_cons, List.drop_zero]
    refine VI.steps 5 (by simp (disch := omega) only [dis, disD, dop, dA, sets, ypick_b, Option.map_some, Option.map_none, bin_add, bin_sub, bin_mul, bin_quo, bin_rem, bin_eql, bin_neq, bin_lss, bin_leq, bin_gtr, bin_geq, un_not, un_neg, ex_tup, yconv_int, yfield1, yfieldN, yfieldAddr, List.getElem?_cons_zero, List.getElem?_cons_succ, List.map_cons, List.map_nil, List.getElem?_toArray, if_true, if_false, reduceIte, Bool.false_eq_true, Bool.true_eq_false, Bool.not_true, Bool.not_false, decide_true, decide_false, wrap_i64, ite_self, List.take_succ_cons, List.take_zero, Int.ofNat_eq_natCast, Int.cast_ofNat_Int, Int.reduceNegSucc, yfill_cons, yfill_nil, yfV_int, yfV_bool, yfV_string, yfV_slice, yfV_ptr, yfV_map, yfV_func, yfV_agg, ystE, ystC_int, ystC_bool, ystC_string, ystC_slice, ystC_ptr, ystC_map, ystC_func, ystC_agg, ok1_int, ok1_bool, ok1_string, ok1_slice, ok1_ptr, ok1_map, ok1_func, List.all_cons, List.all_nil, Bool.and_self, Bool.and_true, setC_nil, setC_cons, ldN, arr_size, arr_ext, List.length_cons, List.length_nil, List.set_cons_zero, List.set_cons_succ, List.drop_zero, List.drop_succ_cons, Nat.reduceLT, Nat.reduceLeDiff, Nat.reduceSub, Nat.sub_zero, ne_eq, not_false_eq_true, and_self, and_true, true_and, Nat.reduceEqDiff, Nat.succ_ne_self, cells_set, Heap.next_alloc, Heap.next_set, eq_self, xbox_agg, ld1, Option.bind_some, cells_alloc, arr_get, Nat.reduceAdd, Nat.add_zero, Nat.zero_add, gt_st, full_st, hF, hA, reduceIte, Nat.reduceEqDiff, Nat.reduceLT, decide_true, decide_false, Bool.false_eq_true]; rfl) ?_
    simp only [List.drop_succ_cons, List.drop_zero]
    refine VI.steps 1 (by simp (disch := omega) only [dis, disD, dop, dA, sets, ypick_b, Option.map_some, Option.map_none, bin_add, bin_sub, bin_mul, bin_quo, bin_rem, bin_eql, bin_neq, bin_lss, bin_leq, bin_gtr, bin_geq, un_not, un_neg, ex_tup, yconv_int, yfield1, yfieldN, yfieldAddr, List.getElem?_cons_zero, List.getElem?_cons_succ, List.map_cons, List.map_nil, List.getElem?_toArray, if_true, if_false, reduceIte, Bool.false_eq_true, Bool.true_eq_false, Bool.not_true, Bool.not_false, decide_true, decide_false, wrap_i64, ite_self, List.take_succ_cons, List.take_zero, Int.ofNat_eq_natCast, Int.cast_ofNat_Int, Int.reduceNegSucc, yfill_cons, yfill_nil, yfV_int, yfV_bool, yfV_string, yfV_slice, yfV_ptr, yfV_map, yfV_func, yfV_agg, ystE, ystC_int, ystC_bool, ystC_string, ystC_slice, ystC_ptr, ystC_map, ystC_func, ystC_agg, ok1_int, ok1_bool, ok1_string, ok1_slice, ok1_ptr, ok1_map, ok1_func, List.all_cons, List.all_nil, Bool.and_self, Bool.and_true, setC_nil, setC_cons, ldN, arr_size, arr_ext, List.length_cons, List.length_nil, List.set_cons_zero, List.set_cons_succ, List.drop_zero, List.drop_succ_cons, Nat.reduceLT, Nat.reduceLeDiff, Nat.reduceSub, Nat.sub_zero, ne_eq, not_false_eq_true, and_self, and_true, true_and, Nat.reduceEqDiff, Nat.succ_ne_self, cells_set, Heap.next_alloc, Heap.next_set, eq_self, xbox_agg, ld1, Option.bind_some, cells_alloc, arr_get, Nat.reduceAdd, Nat.add_zero, Nat.zero_add, gt_st, full_st, hF, hA, reduceIte, Nat.reduceEqDiff, Nat.reduceLT, decide_true, decide_false, Bool.false_eq_true]; rfl) ?_
    simp only [List.drop_succ_cons, List.drop_zero]
    refine VI.re [(5, I (1 + b.tmod 12)), (12, I (1000 * (1 + b.tmod 12))), (14, I pc1), (15, I 0), (81, .bool true)] (N := 104) (by intro i; simp only [full_st, hF]) (by simp only [Kn, gt_st, full_st, hF, hA, reduceIte, Nat.reduceEqDiff, Nat.reduceLT, decide_true, decide_false, Bool.false_eq_true, and_self, and_true, true_and]; try (repeat' constructor)) ?_
    clear hF hA
    intro t hF hA
    simp only [Kn, and_true] at hA
    refine VI.steps 5 (by simp (disch := omega) only [dis, disD, dop, dA, sets, ypick_b, Option.map_some, Option.map_none, bin_add, bin_sub, bin_mul, bin_quo, bin_rem, bin_eql, bin_neq, bin_lss, bin_leq, bin_gtr, bin_geq, un_not, un_neg, ex_tup, yconv_int, yfield1, yfieldN, yfieldAddr, List.getElem?_cons_zero, List.getElem?_cons_succ, List.map_cons, List.map_nil, List.getElem?_toArray, if_true, if_false, reduceIte, Bool.false_eq_true, Bool.true_eq_false, Bool.not_true, Bool.not_false, decide_true, decide_false, wrap_i64, ite_self, List.take_succ_cons, List.take_zero, Int.ofNat_eq_natCast, Int.cast_ofNat_Int, Int.reduceNegSucc, yfill_cons, yfill_nil, yfV_int, yfV_bool, yfV_string, yfV_slice, yfV_ptr, yfV_map, yfV_func, yfV_agg, ystE, ystC_int, ystC_bool, ystC_string, ystC_slice, ystC_ptr, ystC_map, ystC_func, ystC_agg, ok1_int, ok1_bool, ok1_string, ok1_slice, ok1_ptr, ok1_map, ok1_func, List.all_cons, List.all_nil, Bool.and_self, Bool.and_true, setC_nil, setC_cons, ldN, arr_size, arr_ext, List.length_cons, List.length_nil, List.set_cons_zero, List.set_cons_succ, List.drop_zero, List.drop_succ_cons, Nat.reduceLT, Nat.reduceLeDiff, Nat.reduceSub, Nat.sub_zero, ne_eq, not_false_eq_true, and_self, and_true, true_and, Nat.reduceEqDiff, Nat.succ_ne_self, cells_set, Heap.next_alloc, Heap.next_set, eq_self, xbox_agg, ld1, Option.bind_some, cells_alloc, arr_get, Nat.reduceAdd, Nat.add_zero, Nat.zero_add, gt_st, full_st, hF, hA, reduceIte, Nat.reduceEqDiff, Nat.reduceLT, decide_true, decide_false, Bool.false_eq_true]; rfl) ?_
    simp only [List.drop_succ_cons, List.drop_zero]
    refine VI.steps 5 (by simp (disch := omega) only [dis, disD, dop, dA, sets, ypick_b, Option.map_some, Option.map_none, bin_add, bin_sub, bin_mul, bin_quo, bin_rem, bin_eql, bin_neq, bin_lss, bin_leq, bin_gtr, bin_geq, un_not, un_neg, ex_tup, yconv_int, yfield1, yfieldN, yfieldAddr, List.getElem?_cons_zero, List.getElem?_cons_succ, List.map_cons, List.map_nil, List.getElem?_toArray, if_true, if_false, reduceIte, Bool.false_eq_true, Bool.true_eq_false, Bool.not_true, Bool.not_false, decide_true, decide_false, wrap_i64, ite_self, List.take_succ_cons, List.take_zero, Int.ofNat_eq_natCast, Int.cast_ofNat_Int, Int.reduceNegSucc, yfill_cons, yfill_nil, yfV_int, yfV_bool, yfV_string, yfV_slice, yfV_ptr, yfV_map, yfV_func, yfV_agg, ystE, ystC_int, ystC_bool, ystC_string, ystC_slice, ystC_ptr, ystC_map, ystC_func, ystC_agg, ok1_int, ok1_bool, ok1_string, ok1_slice, ok1_ptr, ok1_map, ok1_func, List.all_cons, List.all_nil, Bool.and_self, Bool.and_true, setC_nil, setC_cons, ldN, arr_size, arr_ext, List.length_cons, List.length_nil, List.set_cons_zero, List.set_cons_succ, List.drop_zero, List.drop_succ_cons, Nat.reduceLT, Nat.reduceLeDiff, Nat.reduceSub, Nat.sub_zero, ne_eq, not_false_eq_true, and_self, and_true, true_and, Nat.reduceEqDiff, Nat.succ_ne_self, cells_set, Heap.next_alloc, Heap.next_set, eq_self, xbox_agg, ld1, Option.bind_some, cells_alloc, arr_get, Nat.reduceAdd, Nat.add_zero, Nat.zero_add, gt_st, full_st, hF, hA, reduceIte, Nat.reduceEqDiff, Nat.reduceLT, decide_true, decide_false, Bool.false_eq_true]; rfl) ?_
    simp only [List.drop_succ_cons, List.drop_zero]
    refine VI.re [(5, I (1 + b.tmod 12)), (14, I pc1), (91, .bool true)] (N := 104) (by intro i; simp only [full_st, hF]) (by simp only [Kn, gt_st, full_st, hF, hA, reduceIte, Nat.reduceEqDiff, Nat.reduceLT, decide_true, decide_false, Bool.false_eq_true, and_self, and_true, true_and]; try (repeat' constructor)) ?_
    clear hF hA
    intro t hF hA
    simp only [Kn, and_true] at hA
    refine VI.steps 5 (by simp (disch := omega) only [dis, disD, dop, dA, sets, ypick_b, Option.map_some, Option.map_none, bin_add, bin_sub, bin_mul, bin_quo, bin_rem, bin_eql, bin_neq, bin_lss, bin_leq, bin_gtr, bin_geq, un_not, un_neg, ex_tup, yconv_int, yfield1, yfieldN, yfieldAddr, List.getElem?_cons_zero, List.getElem?_cons_succ, List.map_cons, List.map_nil, List.getElem?_toArray, if_true, if_false, reduceIte, Bool.false_eq_true, Bool.true_eq_false, Bool.not_true, Bool.not_false, decide_true, decide_false, wrap_i64, ite_self, List.take_succ_cons, List.take_zero, Int.ofNat_eq_natCast, Int.cast_ofNat_Int, Int.reduceNegSucc, yfill_cons, yfill_nil, yfV_int, yfV_bool, yfV_string, yfV_slice, yfV_ptr, yfV_map, yfV_func, yfV_agg, ystE, ystC_int, ystC_bool, ystC_string, ystC_slice, ystC_ptr, ystC_map, ystC_func, ystC_agg, ok1_int, ok1_bool, ok1_string, ok1_slice, ok1_ptr, ok1_map, ok1_func, List.all_cons, List.all_nil, Bool.and_self, Bool.and_true, setC_nil, setC_cons, ldN, arr_size, arr_ext, List.length_cons, List.length_nil, List.set_cons_zero, List.set_cons_succ, List.drop_zero, List.drop_succ_cons, Nat.reduceLT, Nat.reduceLeDiff, Nat.reduceSub, Nat.sub_zero, ne_eq, not_false_eq_true, and_self, and_true, true_and, Nat.reduceEqDiff, Nat.succ_ne_self, cells_set, Heap.next_alloc, Heap.next_set, eq_self, xbox_agg, ld1, Option.bind_some, cells_alloc, arr_get, Nat.reduceAdd, Nat.add_zero, Nat.zero_add, gt_st, full_st, hF, hA, reduceIte, Nat.reduceEqDiff, Nat.reduceLT, decide_true, decide_false, Bool.false_eq_true, p4, p5]; rfl) ?_
    simp only [List.drop_succ_cons, List.drop_zero]
    refine VI.steps 5 (by simp (disch := omega) only [dis, disD, dop, dA, sets, ypick_b, Option.map_some, Option.map_none, bin_add, bin_sub, bin_mul, bin_quo, bin_rem, bin_eql, bin_neq, bin_lss, bin_leq, bin_gtr, bin_geq, un_not, un_neg, ex_tup, yconv_int, yfield1, yfieldN, yfieldAddr, List.getElem?_cons_zero, List.getElem?_cons_succ, List.map_cons, List.map_nil, List.getElem?_toArray, if_true, if_false, reduceIte, Bool.false_eq_true, Bool.true_eq_false, Bool.not_true, Bool.not_false, decide_true, decide_false, wrap_i64, ite_self, List.take_succ_cons, List.take_zero, Int.ofNat_eq_natCast, Int.cast_ofNat_Int, Int.reduceNegSucc, yfill_cons, yfill_nil, yfV_int, yfV_bool, yfV_string, yfV_slice, yfV_ptr, yfV_map, yfV_func, yfV_agg, ystE, ystC_int, ystC_bool, ystC_string, ystC_slice, ystC_ptr, ystC_map, ystC_func, ystC_agg, ok1_int, ok1_bool, ok1_string, ok1_slice, ok1_ptr, ok1_map, ok1_func, List.all_cons, List.all_nil, Bool.and_self, Bool.and_true, setC_nil, setC_cons, ldN, arr_size, arr_ext, List.length_cons, List.length_nil, List.set_cons_zero, List.set_cons_succ, List.drop_zero, List.drop_succ_cons, Nat.reduceLT, Nat.reduceLeDiff, Nat.reduceSub, Nat.sub_zero, ne_eq, not_false_eq_true, and_self, and_true, true_and, Nat.reduceEqDiff, Nat.succ_ne_self, cells_set, Heap.next_alloc, Heap.next_set, eq_self, xbox_agg, ld1, Option.bind_some, cells_alloc, arr_get, Nat.reduceAdd, Nat.add_zero, Nat.zero_add, gt_st, full_st, hF, hA, reduceIte, Nat.reduceEqDiff, Nat.reduceLT, decide_true, decide_false, Bool.false_eq_true, p4, p5]; rfl) ?_
    simp only [List.drop_succ_cons, List.drop_zero]
    refine VI.callAT (by simp only [gt_st, full_st, hF, hA, reduceIte, Nat.reduceEqDiff, Nat.reduceLT, decide_true, decide_false, Bool.false_eq_true]; try rfl) rfl (f26_ok H5) (by simp only [List.map_cons, List.map_nil, dA, gt_st, full_st, hF, hA, reduceIte, Nat.reduceEqDiff, Nat.reduceLT, decide_true, decide_false, Bool.false_eq_true, List.nil_append, List.append_nil, List.cons_append]; try rfl) (fun H6 g6 => ?_)
    refine VI.line (by simp (disch := omega) only [dis, disD, dop, dA, sets, ypick_b, Option.map_some, Option.map_none, bin_add, bin_sub, bin_mul, bin_quo, bin_rem, bin_eql, bin_neq, bin_lss, bin_leq, bin_gtr, bin_geq, un_not, un_neg, ex_tup, yconv_int, yfield1, yfieldN, yfieldAddr, List.getElem?_cons_zero, List.getElem?_cons_succ, List.map_cons, List.map_nil, List.getElem?_toArray, if_true, if_false, reduceIte, Bool.false_eq_true, Bool.true_eq_false, Bool.not_true, Bool.not_false, decide_true, decide_false, wrap_i64, ite_self, List.take_succ_cons, List.take_zero, Int.ofNat_eq_natCast, Int.cast_ofNat_Int, Int.reduceNegSucc, yfill_cons, yfill_nil, yfV_int, yfV_bool, yfV_string, yfV_slice, yfV_ptr, yfV_map, yfV_func, yfV_agg, ystE, ystC_int, ystC_bool, ystC_string, ystC_slice, ystC_ptr, ystC_map, ystC_func, ystC_agg, ok1_int, ok1_bool, ok1_string, ok1_slice, ok1_ptr, ok1_map, ok1_func, List.all_cons, List.all_nil, Bool.and_self, Bool.and_true, setC_nil, setC_cons, ldN, arr_size, arr_ext, List.length_cons, List.length_nil, List.set_cons_zero, List.set_cons_succ, List.drop_zero, List.drop_succ_cons, Nat.reduceLT, Nat.reduceLeDiff, Nat.reduceSub, Nat.sub_zero, ne_eq, not_false_eq_true, and_self, and_true, true_and, Nat.reduceEqDiff, Nat.succ_ne_self, cells_set, Heap.next_alloc, Heap.next_set, eq_self, xbox_agg, ld1, Option.bind_some, cells_alloc, arr_get, Nat.reduceAdd, Nat.add_zero, Nat.zero_add, gt_st, full_st, hF, hA, reduceIte, Nat.reduceEqDiff, Nat.reduceLT, decide_true, decide_false, Bool.false_eq_true]; rfl) ?_
    (repeat first | refine V.seq ?_ | refine V.block ?_ | refine V.scope ?_ | refine V.skip ?_ | refine V.close ?_)
    refine V.ret (V.rets rfl (Lv.retF (by simp only [yres, yres1, yresL, ld1, yloadN, Option.map_some, gt_st, full_st, hF, hA, reduceIte, Nat.reduceEqDiff, Nat.reduceLT, decide_true, decide_false, Bool.false_eq_true]; rfl) ?_))
    rfl
end Go.Xe.TAX
