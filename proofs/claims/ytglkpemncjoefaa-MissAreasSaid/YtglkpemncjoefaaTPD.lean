/- What the statement MissAreas comes to. Conditions: none. -/
import Derived.Test.YtglkpemncjoefaaTPC
-- MOD TM
namespace Go.Xe.TMX
open Go Go.Xe Go.Proofs Go.Xe.Mth
open Nat renaming reduceLeDiff → qA, reduceSub → qB, reduceAdd → qC, reduceEqDiff → qD, reduceLT → qE
open Int renaming reduceNegSucc → qF, reduceEq → qG
set_option maxRecDepth 100000
set_option maxHeartbeats 6400000
set_option linter.unusedSimpArgs false
noncomputable def d18 : FCode := (.seq (.run (.go (.box 23 (.tmp (pth 1))) (pth 5)::
.go (.box 41 (.tmp (pth 2))) (pth 6)::
.go (.move (.con (.bool false))) (pth 8)::
[])) (.seq (.seq (.run (.go (.move (.tmp (pth 0))) (pth 21)::
.go (.len 0 (.tmp (pth 21))) (pth 22)::
.go (.bin .gtr 3 (.tmp (pth 22)) (.con (.int .i64 (.ofNat 5)))) (pth 23)::
.go (.move (.tmp (pth 23))) (pth 24)::
.gd (pth 24) false (.loadN 4 (.tmp (pth 5))) (pth 25)::
.gd (pth 24) false (.call (.con (.func (.func 48) ⟨[]⟩ ⟨[]⟩)) [(.tmp (pth 25))]) (pth 26)::
.gd (pth 24) false (.un .not (.tmp (pth 26))) (pth 27)::
.go (.pick (.tmp (pth 24)) (.con (.bool true)) (.tmp (pth 27))) (pth 28)::
.go (.move (.tmp (pth 28))) (pth 29)::
.gd (pth 29) false (.loadN 2 (.tmp (pth 6))) (pth 30)::
.gd (pth 29) false (.call (.con (.func (.func 36) ⟨[]⟩ ⟨[]⟩)) [(.tmp (pth 30))]) (pth 31)::
.gd (pth 29) false (.un .not (.tmp (pth 31))) (pth 32)::
.go (.pick (.tmp (pth 29)) (.con (.bool true)) (.tmp (pth 32))) (pth 33)::
[])) (.cond (.tmp (pth 33)) (.seq (.run (.go (.call (.con (.func (.func 24) ⟨[]⟩ ⟨[]⟩)) []) (pth 34)::
.go (.move (.tmp (pth 34))) (pth 8)::
[])) .ret) .skip)) (.seq (.seq (.run (.go (.move (.con (.int .i64 (.ofNat 0)))) (pth 9)::
[])) (.block 0 (.loop (.seq (.seq (.run (.go (.move (.tmp (pth 9))) (pth 35)::
.go (.move (.tmp (pth 0))) (pth 36)::
.go (.len 0 (.tmp (pth 36))) (pth 37)::
.go (.bin .lss 3 (.tmp (pth 35)) (.tmp (pth 37))) (pth 38)::
[])) (.cond (.tmp (pth 38)) .skip (.exit 0))) (.seq (.block 1 (.seq (.run (.go (.move (.tmp (pth 0))) (pth 41)::
.go (.move (.tmp (pth 9))) (pth 42)::
.go (.indexAddr none 4 (.tmp (pth 41)) (.tmp (pth 42))) (pth 43)::
.go (.loadN 4 (.tmp (pth 43))) (pth 44)::
.go (.call (.con (.func (.func 48) ⟨[]⟩ ⟨[]⟩)) [(.tmp (pth 44))]) (pth 45)::
.go (.un .not (.tmp (pth 45))) (pth 46)::
[])) (.cond (.tmp (pth 46)) (.seq (.run (.go (.call (.con (.func (.func 24) ⟨[]⟩ ⟨[]⟩)) []) (pth 47)::
.go (.move (.tmp (pth 47))) (pth 8)::
[])) .ret) .skip))) (.run (.go (.move (.tmp (pth 9))) (pth 39)::
.go (.bin .add 3 (.tmp (pth 39)) (.con (.int .i64 (.ofNat 1)))) (pth 40)::
.go (.move (.tmp (pth 40))) (pth 9)::
[]))))))) (.seq (.draw 7 (.go (.move (.tmp (pth 0))) (pth 49)::
.go (.buildSlice 23 0 [] []) (pth 48)::
.go (.append 23 4 32 (.tmp (pth 48)) (.tmp (pth 49))) (pth 50)::
.go (.loadN 4 (.tmp (pth 5))) (pth 51)::
.go (.buildSlice 23 1 [(.int .i64 (.ofNat 0)),(.int .i64 (.ofNat 0)),(.int .i64 (.ofNat 0)),(.int .i64 (.ofNat 0))] [(0,4,(.tmp (pth 51)))]) (pth 52)::
.go (.append 23 4 32 (.tmp (pth 50)) (.tmp (pth 52))) (pth 53)::
.go (.move (.tmp (pth 53))) (pth 10)::
[]) [.nw none (some (pth 48)) 1 true,.ok,.ok,.rd none (.loadN 4 (.tmp (pth 5))) (some (pth 51)) [0],.nw none (some (pth 52)) 4 true,.ok,.ok]) (.seq (.run (.go (.move (.tmp (pth 3))) (pth 54)::
.go (.conv .i64 (.tmp (pth 54))) (pth 55)::
.go (.move (.tmp (pth 10))) (pth 56)::
.go (.len 0 (.tmp (pth 56))) (pth 57)::
.go (.bin .rem 3 (.tmp (pth 55)) (.tmp (pth 57))) (pth 58)::
.go (.move (.tmp (pth 58))) (pth 11)::
[])) (.seq (.draw 10 (.go (.buildSlice 23 0 [] []) (pth 59)::
.go (.move (.tmp (pth 10))) (pth 60)::
.go (.move (.tmp (pth 11))) (pth 61)::
.go (.slice 23 4 (.tmp (pth 60)) (some (.tmp (pth 61))) none) (pth 62)::
.go (.append 23 4 32 (.tmp (pth 59)) (.tmp (pth 62))) (pth 63)::
.go (.move (.tmp (pth 10))) (pth 64)::
.go (.move (.tmp (pth 11))) (pth 65)::
.go (.slice 23 4 (.tmp (pth 64)) none (some (.tmp (pth 65)))) (pth 66)::
.go (.append 23 4 32 (.tmp (pth 63)) (.tmp (pth 66))) (pth 67)::
.go (.move (.tmp (pth 67))) (pth 12)::
[]) [.ok,.ok,.ok,.rd none (.slice 23 4 (.tmp (pth 60)) (some (.tmp (pth 61))) none) (some (pth 62)) [0],.ok,.ok,.ok,.rd none (.slice 23 4 (.tmp (pth 64)) none (some (.tmp (pth 65)))) (some (pth 66)) [0,1],.ok,.ok]) (.seq (.draw 11 (.go (.move (.tmp (pth 0))) (pth 69)::
.go (.call (.con (.func (.func 35) ⟨[]⟩ ⟨[]⟩)) [(.tmp (pth 69))]) (pth 70)::
.go (.loadN 2 (.tmp (pth 6))) (pth 71)::
.go (.call (.con (.func (.func 28) ⟨[]⟩ ⟨[]⟩)) [(.tmp (pth 71))]) (pth 72)::
.go (.call (.con (.func (.func 34) ⟨[]⟩ ⟨[]⟩)) [(.tmp (pth 70)),(.tmp (pth 72))]) (pth 73)::
.go (.move (.tmp (pth 73))) (pth 68)::
.go (.extract (.tmp (pth 68)) 0) (pth 74)::
.go (.extract (.tmp (pth 68)) 1) (pth 75)::
.go (.alloc 53 [(.int .i64 (.ofNat 0)),(.int .i64 (.ofNat 0))]) (pth 13)::
.un (.store 2 (.tmp (pth 13)) (.tmp (pth 74)))::
.go (.move (.tmp (pth 75))) (pth 14)::
[]) [.ok,.ok,.rd none (.loadN 2 (.tmp (pth 6))) (some (pth 71)) [0],.ok,.ok,.ok,.ok,.ok,.nw none (some (pth 13)) 8 true,.ok,.ok]) (.seq (.draw 11 (.go (.move (.tmp (pth 10))) (pth 77)::
.go (.call (.con (.func (.func 35) ⟨[]⟩ ⟨[]⟩)) [(.tmp (pth 77))]) (pth 78)::
.go (.loadN 2 (.tmp (pth 6))) (pth 79)::
.go (.call (.con (.func (.func 28) ⟨[]⟩ ⟨[]⟩)) [(.tmp (pth 79))]) (pth 80)::
.go (.call (.con (.func (.func 34) ⟨[]⟩ ⟨[]⟩)) [(.tmp (pth 78)),(.tmp (pth 80))]) (pth 81)::
.go (.move (.tmp (pth 81))) (pth 76)::
.go (.extract (.tmp (pth 76)) 0) (pth 82)::
.go (.extract (.tmp (pth 76)) 1) (pth 83)::
.go (.alloc 53 [(.int .i64 (.ofNat 0)),(.int .i64 (.ofNat 0))]) (pth 15)::
.un (.store 2 (.tmp (pth 15)) (.tmp (pth 82)))::
.go (.move (.tmp (pth 83))) (pth 16)::
[]) [.ok,.ok,.rd none (.loadN 2 (.tmp (pth 6))) (some (pth 79)) [0],.ok,.ok,.ok,.ok,.ok,.nw none (some (pth 15)) 8 true,.ok,.ok]) (.seq (.draw 11 (.go (.move (.tmp (pth 12))) (pth 85)::
.go (.call (.con (.func (.func 35) ⟨[]⟩ ⟨[]⟩)) [(.tmp (pth 85))]) (pth 86)::
.go (.loadN 2 (.tmp (pth 6))) (pth 87)::
.go (.call (.con (.func (.func 28) ⟨[]⟩ ⟨[]⟩)) [(.tmp (pth 87))]) (pth 88)::
.go (.call (.con (.func (.func 34) ⟨[]⟩ ⟨[]⟩)) [(.tmp (pth 86)),(.tmp (pth 88))]) (pth 89)::
.go (.move (.tmp (pth 89))) (pth 84)::
.go (.extract (.tmp (pth 84)) 0) (pth 90)::
.go (.extract (.tmp (pth 84)) 1) (pth 91)::
.go (.alloc 53 [(.int .i64 (.ofNat 0)),(.int .i64 (.ofNat 0))]) (pth 17)::
.un (.store 2 (.tmp (pth 17)) (.tmp (pth 90)))::
.go (.move (.tmp (pth 91))) (pth 18)::
[]) [.ok,.ok,.rd none (.loadN 2 (.tmp (pth 6))) (some (pth 87)) [0],.ok,.ok,.ok,.ok,.ok,.nw none (some (pth 17)) 8 true,.ok,.ok]) (.seq (.draw 11 (.go (.loadN 4 (.tmp (pth 5))) (pth 93)::
.go (.call (.con (.func (.func 21) ⟨[]⟩ ⟨[]⟩)) [(.tmp (pth 93))]) (pth 94)::
.go (.loadN 2 (.tmp (pth 6))) (pth 95)::
.go (.call (.con (.func (.func 28) ⟨[]⟩ ⟨[]⟩)) [(.tmp (pth 95))]) (pth 96)::
.go (.call (.con (.func (.func 39) ⟨[]⟩ ⟨[]⟩)) [(.tmp (pth 94)),(.tmp (pth 96))]) (pth 97)::
.go (.move (.tmp (pth 97))) (pth 92)::
.go (.extract (.tmp (pth 92)) 0) (pth 98)::
.go (.extract (.tmp (pth 92)) 1) (pth 99)::
.go (.alloc 53 [(.int .i64 (.ofNat 0)),(.int .i64 (.ofNat 0))]) (pth 19)::
.un (.store 2 (.tmp (pth 19)) (.tmp (pth 98)))::
.go (.move (.tmp (pth 99))) (pth 20)::
[]) [.ok,.ok,.rd none (.loadN 2 (.tmp (pth 6))) (some (pth 95)) [0],.ok,.ok,.ok,.ok,.ok,.nw none (some (pth 19)) 8 true,.ok,.ok]) (.seq (.seq (.run (.go (.move (.tmp (pth 16))) (pth 100)::
.go (.move (.tmp (pth 18))) (pth 101)::
.go (.bin .neq 24 (.tmp (pth 100)) (.tmp (pth 101))) (pth 102)::
.go (.move (.tmp (pth 102))) (pth 103)::
.gd (pth 103) false (.loadN 2 (.tmp (pth 15))) (pth 104)::
.gd (pth 103) false (.loadN 2 (.tmp (pth 17))) (pth 105)::
.gd (pth 103) false (.bin .neq 53 (.tmp (pth 104)) (.tmp (pth 105))) (pth 106)::
.go (.pick (.tmp (pth 103)) (.con (.bool true)) (.tmp (pth 106))) (pth 107)::
.go (.move (.tmp (pth 107))) (pth 108)::
.gd (pth 108) false (.move (.tmp (pth 16))) (pth 109)::
.gd (pth 108) false (.bin .neq 24 (.tmp (pth 109)) (.con (.int .i64 (.ofNat 0)))) (pth 110)::
.gd (pth 108) false (.move (.tmp (pth 110))) (pth 111)::
.gd (pth 111) true (.move (.tmp (pth 16))) (pth 112)::
.gd (pth 111) true (.bin .neq 24 (.tmp (pth 112)) (.con (.int .i64 (.ofNat 9)))) (pth 113)::
.gd (pth 108) false (.pick (.tmp (pth 111)) (.tmp (pth 113)) (.con (.bool false))) (pth 114)::
.go (.pick (.tmp (pth 108)) (.con (.bool true)) (.tmp (pth 114))) (pth 115)::
[])) (.cond (.tmp (pth 115)) (.seq (.run (.go (.move (.con (.bool false))) (pth 8)::
[])) .ret) .skip)) (.seq (.seq (.run (.go (.move (.tmp (pth 14))) (pth 116)::
.go (.bin .neq 24 (.tmp (pth 116)) (.con (.int .i64 (.ofNat 0)))) (pth 117)::
.go (.move (.tmp (pth 117))) (pth 118)::
.gd (pth 118) false (.move (.tmp (pth 20))) (pth 119)::
.gd (pth 118) false (.bin .neq 24 (.tmp (pth 119)) (.con (.int .i64 (.ofNat 0)))) (pth 120)::
.go (.pick (.tmp (pth 118)) (.con (.bool true)) (.tmp (pth 120))) (pth 121)::
[])) (.cond (.tmp (pth 121)) (.seq (.run (.go (.move (.tmp (pth 16))) (pth 122)::
.go (.bin .eql 24 (.tmp (pth 122)) (.con (.int .i64 (.ofNat 9)))) (pth 123)::
.go (.move (.tmp (pth 123))) (pth 124)::
.gd (pth 124) true (.move (.tmp (pth 14))) (pth 125)::
.gd (pth 124) true (.bin .eql 24 (.tmp (pth 125)) (.con (.int .i64 (.ofNat 0)))) (pth 126)::
.gd (pth 124) true (.move (.tmp (pth 126))) (pth 127)::
.gd (pth 127) false (.move (.tmp (pth 14))) (pth 128)::
.gd (pth 127) false (.bin .eql 24 (.tmp (pth 128)) (.con (.int .i64 (.ofNat 9)))) (pth 129)::
.gd (pth 124) true (.pick (.tmp (pth 127)) (.con (.bool true)) (.tmp (pth 129))) (pth 130)::
.go (.pick (.tmp (pth 124)) (.tmp (pth 130)) (.con (.bool false))) (pth 131)::
.go (.move (.tmp (pth 131))) (pth 132)::
.gd (pth 132) true (.move (.tmp (pth 20))) (pth 133)::
.gd (pth 132) true (.bin .eql 24 (.tmp (pth 133)) (.con (.int .i64 (.ofNat 0)))) (pth 134)::
.gd (pth 132) true (.move (.tmp (pth 134))) (pth 135)::
.gd (pth 135) false (.move (.tmp (pth 20))) (pth 136)::
.gd (pth 135) false (.bin .eql 24 (.tmp (pth 136)) (.con (.int .i64 (.ofNat 9)))) (pth 137)::
.gd (pth 132) true (.pick (.tmp (pth 135)) (.con (.bool true)) (.tmp (pth 137))) (pth 138)::
.go (.pick (.tmp (pth 132)) (.tmp (pth 138)) (.con (.bool false))) (pth 139)::
.go (.move (.tmp (pth 139))) (pth 140)::
.gd (pth 140) true (.call (.con (.func (.func 24) ⟨[]⟩ ⟨[]⟩)) []) (pth 141)::
.go (.pick (.tmp (pth 140)) (.tmp (pth 141)) (.con (.bool false))) (pth 142)::
.go (.move (.tmp (pth 142))) (pth 8)::
[])) .ret) .skip)) (.seq (.draw 21 (.go (.move (.tmp (pth 16))) (pth 143)::
.go (.bin .eql 24 (.tmp (pth 143)) (.con (.int .i64 (.ofNat 0)))) (pth 144)::
.go (.move (.tmp (pth 144))) (pth 145)::
.gd (pth 145) true (.loadN 2 (.tmp (pth 15))) (pth 146)::
.gd (pth 145) true (.fieldAddr 0 (.tmp (pth 13))) (pth 147)::
.gd (pth 145) true (.load1 (.tmp (pth 147))) (pth 148)::
.gd (pth 145) true (.fieldAddr 0 (.tmp (pth 19))) (pth 149)::
.gd (pth 145) true (.load1 (.tmp (pth 149))) (pth 150)::
.gd (pth 145) true (.bin .add 3 (.tmp (pth 148)) (.tmp (pth 150))) (pth 151)::
.gd (pth 145) true (.fieldAddr 1 (.tmp (pth 13))) (pth 152)::
.gd (pth 145) true (.load1 (.tmp (pth 152))) (pth 153)::
.gd (pth 145) true (.fieldAddr 1 (.tmp (pth 19))) (pth 154)::
.gd (pth 145) true (.load1 (.tmp (pth 154))) (pth 155)::
.gd (pth 145) true (.bin .add 3 (.tmp (pth 153)) (.tmp (pth 155))) (pth 156)::
.gd (pth 145) true (.call (.con (.func (.func 47) ⟨[]⟩ ⟨[]⟩)) [(.tmp (pth 151)),(.tmp (pth 156))]) (pth 157)::
.gd (pth 145) true (.bin .eql 53 (.tmp (pth 146)) (.tmp (pth 157))) (pth 158)::
.go (.pick (.tmp (pth 145)) (.tmp (pth 158)) (.con (.bool false))) (pth 159)::
.go (.move (.tmp (pth 159))) (pth 160)::
.gd (pth 160) true (.call (.con (.func (.func 24) ⟨[]⟩ ⟨[]⟩)) []) (pth 161)::
.go (.pick (.tmp (pth 160)) (.tmp (pth 161)) (.con (.bool false))) (pth 162)::
.go (.move (.tmp (pth 162))) (pth 8)::
[]) [.ok,.ok,.ok,.rd (some ((pth 145),true)) (.loadN 2 (.tmp (pth 15))) (some (pth 146)) [15],.ok,.ok,.ok,.ok,.ok,.ok,.ok,.ok,.ok,.ok,.ok,.ok,.ok,.ok,.ok,.ok,.ok]) .ret)))))))))))))
theorem de18 : @compF Try.prog (Gl.none Try.prog) Try.f18 4 = .mk d18 (mkTT 163) [(pth 0),(pth 1),(pth 2),(pth 3)] [.tmp (pth 8)] := by kernel_rfl
theorem dg18 : Try.prog.funcs[18]? = some Try.f18 := Try.func18
theorem do18 : okF Try.prog Try.f18 = true := by kernel_rfl
theorem xb_some {k d y : Nat} (h : k ≤ y) : xbound (some (I (k : Nat))) d y = some k := by
  simp only [xbound]
  rw [if_pos ⟨by omega, by omega⟩]
  simp
theorem sl_lo {H : Heap} {i n k es : Nat} {c : List Value} {e : TypeId} (hb : Bx H i c e) (hk : k < n) : yslice Try.prog e es H (.slice (some ⟨i, 0, none⟩) n n) (some (I (k : Nat))) none = some (.slice (some ⟨i, 0 + k * es, none⟩) (n - k) (n - k)) := by
  simp only [yslice, hb.2]
  rw [if_pos (by simp)]
  have e1 : xbound none n n = some n := rfl
  rw [e1]
  simp only
  rw [xb_some (by omega)]
  simp only
  rw [if_neg (by omega)]
theorem sl_hi {H : Heap} {i n k es : Nat} {c : List Value} {e : TypeId} (hb : Bx H i c e) (hk : k ≤ n) (h0 : 0 < n) : yslice Try.prog e es H (.slice (some ⟨i, 0, none⟩) n n) none (some (I (k : Nat))) = some (.slice (some ⟨i, 0, none⟩) k n) := by
  simp only [yslice, hb.2]
  rw [if_pos (by simp)]
  rw [xb_some hk]
  simp only
  have e1 : xbound none 0 k = some 0 := rfl
  rw [e1]
  simp only
  rw [if_neg (by omega)]
  simp
theorem Sw.part {w : Nat} {H : Heap} {i k : Nat} {l : List (List Value)} {e : TypeId} (hb : Bx H i l.flatten e) (hl : ∀ x ∈ l, x.length = w) (hk : k ≤ l.length) : Sw w H (.slice (some ⟨i, 0 + k * w, none⟩) (l.length - k) (l.length - k)) (l.drop k) ∧ Sw w H (.slice (some ⟨i, 0, none⟩) k l.length) (l.take k) := by
  have hf := flat_len hl
  have hsz : (⟨l.flatten⟩ : Array Value).size = l.length * w := hf
  have hm : k * w + (l.length - k) * w = l.length * w := by rw [← Nat.add_mul]; congr 1; omega
  have hkw : k * w ≤ l.length * w := Nat.mul_le_mul_right w hk
  constructor
  · refine .at hb.1 hb.2 (Nat.le_refl _) (by simp) (by rw [hsz]; omega) (fun j x hx => ?_)
    rw [List.getElem?_drop] at hx
    have := flat_at hl hx
    apply Array.ext'
    rw [Nat.add_mul] at this
    simp only [Nat.zero_add, List.extract_toArray, List.extract_eq_take_drop]
    rw [show k * w + j * w + w - (k * w + j * w) = w by omega, this]
  · refine .at hb.1 hb.2 hk (by simp [hk]) (by rw [hsz]; omega) (fun j x hx => ?_)
    have hj : j < k := by
      have := (List.getElem?_eq_some_iff.1 hx).1
      rw [List.length_take] at this
      omega
    rw [List.getElem?_take, if_pos hj] at hx
    have := flat_at hl hx
    apply Array.ext'
    simp only [Nat.zero_add, List.extract_toArray, List.extract_eq_take_drop]
    rw [show j * w + w - j * w = w by omega, this]
theorem tot_v {L : List Q4} {n q : Int} (h1 : L.length ≤ 6) (h2 : ∀ r ∈ L, arq r) (h3 : lv n q) : tot L n q = if ∃ r ∈ L, lfq n q r = [] then (0, 0, 9) else ((L.map fun r => mn (lfq n q r)).sum, (L.map fun r => mx (lfq n q r)).sum, 0) := by
  unfold tot
  rw [if_neg (by omega), if_neg (not_not_intro h2), if_neg (not_not_intro h3)]
theorem sum_rot (f : Q4 → Int) (L : List Q4) (k : Nat) : ((L.drop k ++ L.take k).map f).sum = (L.map f).sum := by
  rw [List.map_append, List.sum_append, Int.add_comm, ← List.sum_append, ← List.map_append, List.take_append_drop]
theorem mem_rot {r : Q4} {L : List Q4} {k : Nat} : r ∈ L.drop k ++ L.take k ↔ r ∈ L := by
  rw [List.mem_append, or_comm, ← List.mem_append, List.take_append_drop]
theorem tot_rot {L : List Q4} {n q : Int} (k : Nat) : tot (L.drop k ++ L.take k) n q = tot L n q := by
  have hl : (L.drop k ++ L.take k).length = L.length := by simp; omega
  unfold tot
  rw [hl, sum_rot, sum_rot]
  simp only [mem_rot]
theorem tot_bd {L : List Q4} {n q : Int} (h1 : L.length ≤ 6) (h2 : ∀ r ∈ L, arq r) (h3 : lv n q) : (0 ≤ (tot L n q).1 ∧ (tot L n q).1 ≤ 50 * L.length) ∧ (0 ≤ (tot L n q).2.1 ∧ (tot L n q).2.1 ≤ 50 * L.length) ∧ ((tot L n q).2.2 = 0 ∨ (tot L n q).2.2 = 9) := by
  rw [tot_v h1 h2 h3]
  split
  · show (0 ≤ (0 : Int) ∧ (0 : Int) ≤ 50 * L.length) ∧ (0 ≤ (0 : Int) ∧ (0 : Int) ≤ 50 * L.length) ∧ ((9 : Int) = 0 ∨ (9 : Int) = 9)
    omega
  · rename_i hne
    obtain ⟨n', q', rfl, rfl, _⟩ := lv_nat h3
    have key : ∀ (l : List Q4), (∀ r ∈ l, arq r) → (¬ ∃ r ∈ l, lfq n' q' r = []) → (0 ≤ (l.map fun r => mn (lfq n' q' r)).sum ∧ (l.map fun r => mn (lfq n' q' r)).sum ≤ 50 * l.length) ∧ (0 ≤ (l.map fun r => mx (lfq n' q' r)).sum ∧ (l.map fun r => mx (lfq n' q' r)).sum ≤ 50 * l.length) := by
      intro l
      induction l with
      | nil => intro _ _; simp
      | cons r l ih =>
        intro ha hb
        obtain ⟨i1, i2⟩ := ih (fun z hz => ha z (by simp [hz])) (fun ⟨z, hz, hx⟩ => hb ⟨z, by simp [hz], hx⟩)
        obtain ⟨a, b, c, d, er, k1, k2, k3⟩ := arq_nat (ha r (by simp))
        have hr : lfq n' q' r ≠ [] := fun hx => hb ⟨r, by simp, hx⟩
        rw [er] at hr
        have := lf_bd hr
        simp only [List.map_cons, List.sum_cons, List.length_cons]
        rw [er]
        omega
    have := key L h2 hne
    exact ⟨this.1, this.2, .inl rfl⟩
theorem tot_app {L : List Q4} {r : Q4} {n q : Int} (h1 : L.length ≤ 5) (h2 : ∀ r ∈ L, arq r) (h2' : arq r) (h3 : lv n q) :
    ((tot L n q).2.2 = 0 ∧ (tot [r] n q).2.2 = 0 ∧ tot (L ++ [r]) n q = ((tot L n q).1 + (tot [r] n q).1, (tot L n q).2.1 + (tot [r] n q).2.1, 0)) ∨ (((tot L n q).2.2 ≠ 0 ∨ (tot [r] n q).2.2 ≠ 0) ∧ tot (L ++ [r]) n q = (0, 0, 9)) := by
  have hX : ∀ z ∈ L ++ [r], arq z := by
    intro z hz
    rcases List.mem_append.1 hz with hz | hz
    · exact h2 z hz
    · rw [List.mem_singleton.1 hz]; exact h2'
  rw [tot_v (by omega) h2 h3, tot_v (L := [r]) (by simp) (by simpa using h2') h3, tot_v (L := L ++ [r]) (by simp; omega) hX h3]
  by_cases hL : ∃ z ∈ L, lfq n q z = []
  · obtain ⟨z, hz, hx⟩ := hL
    rw [if_pos (⟨z, hz, hx⟩ : ∃ z ∈ L, lfq n q z = []), if_pos (⟨z, List.mem_append_left _ hz, hx⟩ : ∃ z ∈ L ++ [r], lfq n q z = [])]
    exact .inr ⟨.inl (by simp), rfl⟩
  · by_cases hr : lfq n q r = []
    · rw [if_pos (⟨r, by simp, hr⟩ : ∃ z ∈ [r], lfq n q z = []), if_pos (⟨r, by simp, hr⟩ : ∃ z ∈ L ++ [r], lfq n q z = [])]
      exact .inr ⟨.inr (by simp), rfl⟩
    · have e1 : ¬ ∃ z ∈ [r], lfq n q z = [] := by simpa using hr
      have e2 : ¬ ∃ z ∈ L ++ [r], lfq n q z = [] := by
        rintro ⟨z, hz, hx⟩
        rcases List.mem_append.1 hz with hz | hz
        · exact hL ⟨z, hz, hx⟩
        · rw [List.mem_singleton.1 hz] at hx; exact hr hx
      rw [if_neg hL, if_neg e1, if_neg e2]
      refine .inl ⟨rfl, rfl, ?_⟩
      simp [List.map_append, List.sum_append]
theorem f18_ok {H : Heap} {v : Value} {L : List Q4} {a b c d n q y : Int} (hS : Sw 4 H v (L.map q4)) (hy : 0 ≤ y ∧ y ≤ 255) : F Try.prog 18 ⟨[v, .agg ⟨A4 a b c d⟩, .agg ⟨A2 n q⟩, .int .u8 y]⟩ H (fun w _ => w = .bool true) := by
  have hl : ∀ X, ylen 0 X v = some (I L.length) := fun X => by rw [Sw.lenA hS X, List.length_map]
  refine F.entryL rfl dg18 do18 de18 rfl (by kernel_rfl) ?_
  simp only [sets]
  refine V.re [(0, v), (1, .agg ⟨A4 a b c d⟩), (2, .agg ⟨A2 n q⟩), (3, .int .u8 y)] (N := 163) (by intro i; simp only [full_st, Full.mk]) (by simp only [Kn, gt_st, full_st, Full.mk, ↓reduceIte, qD, qE, decide_true, and_self]) ?_
  intro t hF hA
  simp only [Kn, and_true] at hA
  (repeat first|apply V.seq|apply V.block|apply V.scope|apply V.skip|apply V.close)
  refine V.line' (by simp +contextual (disch := first|omega|simp only [nx];omega) only [D4,qF,qG,qA,qB,qC,D5,hF,hA,↓reduceIte,qD,qE]; with_reducible rfl) ?_
  refine V.heap (fun X => Grow H X ∧ Bx X H.next (A4 a b c d) 23 ∧ Bx X (H.next + 1) (A2 n q) 41) ⟨?_, ?_, ?_⟩ ?_
  · (repeat first | assumption | exact Grow.refl _ | refine Grow.alloc ?_ _ | refine Grow.set ?_ (by first|omega|simp only [nx];omega) _)
  · (repeat first | assumption | exact Bx.new _ _ _ | exact Bx.newAt (by first|omega|simp only [nx];omega) | refine Bx.put (by first|omega|simp only [nx];omega) _ _ | refine Bx.alloc ?_ _ | refine Bx.set ?_ (by first|omega|simp only [nx];omega) _)
  · (repeat first | assumption | exact Bx.new _ _ _ | exact Bx.newAt (by first|omega|simp only [nx];omega) | refine Bx.put (by first|omega|simp only [nx];omega) _ _ | refine Bx.alloc ?_ _ | refine Bx.set ?_ (by first|omega|simp only [nx];omega) _)
  rintro H1 ⟨g1, b1, c1⟩
  (repeat first|apply V.seq|apply V.block|apply V.scope|apply V.skip|apply V.close)
  refine V.run ?_
  refine VI.steps' 5 (by simp +contextual (disch := first|omega|simp only [nx];omega) only [D4,qF,qG,qA,qB,qC,D5,hF,hA,↓reduceIte,qD,qE, hl, b1.2]; with_reducible rfl) ?_
  simp only [ds]
  first | refine VI.callGt (by simp only [D5,hF,hA,↓reduceIte,qD,qE]; try rfl) (fun hc => by simp only [D6,D5,hF,hA,↓reduceIte,qD,qE, hc, and_self, and_true, true_and, not_false_eq_true]; try rfl) (fun hc => f48_ok a b c d H1) (fun hc => by simp only [D6,D5,hF,hA,↓reduceIte,qD,qE, hc, and_self, and_true, true_and, not_false_eq_true]; try rfl) (fun H2 g2 => ?_) | refine VI.callGf (by simp only [D5,hF,hA,↓reduceIte,qD,qE]; try rfl) (fun hc => by simp only [D6,D5,hF,hA,↓reduceIte,qD,qE, hc, and_self, and_true, true_and, not_false_eq_true]; try rfl) (fun hc => f48_ok a b c d H1) (fun hc => by simp only [D6,D5,hF,hA,↓reduceIte,qD,qE, hc, and_self, and_true, true_and, not_false_eq_true]; try rfl) (fun H2 g2 => ?_)
  have b2 := b1.grow g2
  have c2 := c1.grow g2
  refine VI.steps' 4 (by simp +contextual (disch := first|omega|simp only [nx];omega) only [D4,qF,qG,qA,qB,qC,D5,hF,hA,↓reduceIte,qD,qE, c2.2]; with_reducible rfl) ?_
  simp only [ds]
  first | refine VI.callGt (by simp only [D5,hF,hA,↓reduceIte,qD,qE]; try rfl) (fun hc => by simp only [D6,D5,hF,hA,↓reduceIte,qD,qE, hc, and_self, and_true, true_and, not_false_eq_true]; try rfl) (fun hc => f36_ok n q H2) (fun hc => by simp only [D6,D5,hF,hA,↓reduceIte,qD,qE, hc, and_self, and_true, true_and, not_false_eq_true]; try rfl) (fun H3 g3 => ?_) | refine VI.callGf (by simp only [D5,hF,hA,↓reduceIte,qD,qE]; try rfl) (fun hc => by simp only [D6,D5,hF,hA,↓reduceIte,qD,qE, hc, and_self, and_true, true_and, not_false_eq_true]; try rfl) (fun hc => f36_ok n q H2) (fun hc => by simp only [D6,D5,hF,hA,↓reduceIte,qD,qE, hc, and_self, and_true, true_and, not_false_eq_true]; try rfl) (fun H3 g3 => ?_)
  have b3 := b2.grow g3
  have c3 := c2.grow g3
  have g13 := (g1.trans g2).trans g3
  refine VI.line' (by simp +contextual (disch := first|omega|simp only [nx];omega) only [D4,qF,qG,qA,qB,qC,D5,hF,hA,↓reduceIte,qD,qE]; with_reducible rfl) ?_
  (repeat first|apply V.seq|apply V.block|apply V.scope|apply V.skip|apply V.close)
  refine V.condP (by simp only [D6,D5,hF,hA,↓reduceIte,qD,qE]; rfl) (fun h0 => ?_) (fun h0 => ?_)
  · (repeat first|apply V.seq|apply V.block|apply V.scope|apply V.skip|apply V.close)
    refine V.run ?_
    refine VI.callA rfl (f24_ok _) (by simp only [D6,D5,hF,hA,↓reduceIte,qD,qE]; try rfl) (fun H4 g4 => ?_)
    refine VI.line' (by simp +contextual (disch := first|omega|simp only [nx];omega) only [D4,qF,qG,qA,qB,qC,D5,hF,hA,↓reduceIte,qD,qE]; with_reducible rfl) ?_
    (repeat first|apply V.seq|apply V.block|apply V.scope|apply V.skip|apply V.close)
    refine V.ret (V.rets rfl (Lv.retF (by simp +contextual (disch := first|omega|simp only [nx];omega) only [D1, cells_alloc_at, cells_alloc_ne, cells_set_at, cells_set_ne, yres, yres1, yresL, qA, qB, qC, D5,hF,hA,↓reduceIte,qD,qE]; rfl) ?_))
    rfl
  have h5 : L.length ≤ 5 := by
    by_cases hh : L.length ≤ 5
    · exact hh
    · exact absurd (Or.inl (Or.inl (by omega))) h0
  have hm : arq (a, b, c, d) := by
    by_cases hh : ar a b c d
    · exact hh
    · exact absurd (by simp [hh]) h0
  have hlv : lv n q := by
    by_cases hh : lv n q
    · exact hh
    · exact absurd (by simp [hh]) h0
  clear h0
  (repeat first|apply V.seq|apply V.block|apply V.scope|apply V.skip|apply V.close)
  refine V.line' (by simp +contextual (disch := first|omega|simp only [nx];omega) only [D4,qF,qG,qA,qB,qC,D5,hF,hA,↓reduceIte,qD,qE]; with_reducible rfl) ?_
  (repeat first|apply V.seq|apply V.block|apply V.scope|apply V.skip|apply V.close)
  refine V.re [(0, v), (3, .int .u8 y), (5, .pointer (some ⟨H.next, 0, none⟩)), (6, .pointer (some ⟨H.next + 1, 0, none⟩)), (9, I 0)] (N := 163) (by intro i; simp only [full_st, hF]) (by simp only [Kn, D5,hF,hA,↓reduceIte,qD,qE, and_self, and_true, true_and]; try (repeat' constructor)) ?_
  clear hF hA
  intro t hF hA
  simp only [Kn, and_true] at hA
  refine V.loop (fun z t m X => ∃ (k : Nat), k ≤ L.length ∧ z = L.length - k ∧ m = [] ∧ Grow H3 X ∧ (∀ r ∈ L.take k, arq r) ∧ Full 163 t ∧ Kn [(0, v), (3, .int .u8 y), (5, .pointer (some ⟨H.next, 0, none⟩)), (6, .pointer (some ⟨H.next + 1, 0, none⟩)), (9, I k)] t) L.length ?_ ?_
  · exact ⟨0, by omega, by omega, rfl, .refl _, by simp, (by intro i; simp only [full_st, hF]), (by simp only [Kn, D5,hF,hA,↓reduceIte,qD,qE, and_self, and_true, true_and]; try (repeat' constructor))⟩
  clear hF hA
  rintro z t m X ⟨k, hk, rfl, rfl, hg, hall, hF, hA⟩
  simp only [Kn, and_true] at hA
  (repeat first|apply V.seq|apply V.block|apply V.scope|apply V.skip|apply V.close)
  refine V.line' (by simp +contextual (disch := first|omega|simp only [nx];omega) only [D4,qF,qG,qA,qB,qC,D5,hF,hA,↓reduceIte,qD,qE, hl]; with_reducible rfl) ?_
  (repeat first|apply V.seq|apply V.block|apply V.scope|apply V.skip|apply V.close)
  refine V.condP (by simp only [D6,D5,hF,hA,↓reduceIte,qD,qE]; rfl) (fun hlt => ?_) (fun hlt => ?_)
  · have hlt' : k < L.length := by omega
    obtain ⟨p, hq1, hq2⟩ := hS.get (w := 4) (by decide) (n := k) (k := k) (x := q4 L[k]) (kd := .i64) (by simp [hlt']) rfl
    have hq3 := hq2 _ (g13.trans hg)
    have e0 : q4 L[k] = A4 L[k].1 L[k].2.1 L[k].2.2.1 L[k].2.2.2 := rfl
    rw [e0] at hq3
    (repeat first|apply V.seq|apply V.block|apply V.scope|apply V.skip|apply V.close)
    refine V.run ?_
    refine VI.steps' 4 (by simp +contextual (disch := first|omega|simp only [nx];omega) only [D4,qF,qG,qA,qB,qC,D5,hF,hA,↓reduceIte,qD,qE, hq1, hq3]; with_reducible rfl) ?_
    simp only [ds]
    refine VI.callA rfl (f48_ok L[k].1 L[k].2.1 L[k].2.2.1 L[k].2.2.2 X) (by simp only [D6,D5,hF,hA,↓reduceIte,qD,qE]; try rfl) (fun X1 gx => ?_)
    refine VI.line' (by simp +contextual (disch := first|omega|simp only [nx];omega) only [D4,qF,qG,qA,qB,qC,D5,hF,hA,↓reduceIte,qD,qE]; with_reducible rfl) ?_
    (repeat first|apply V.seq|apply V.block|apply V.scope|apply V.skip|apply V.close)
    refine V.condP (by simp only [D6,D5,hF,hA,↓reduceIte,qD,qE]; rfl) (fun hw => ?_) (fun hw => ?_)
    · (repeat first|apply V.seq|apply V.block|apply V.scope|apply V.skip|apply V.close)
      refine V.run ?_
      refine VI.callA rfl (f24_ok _) (by simp only [D6,D5,hF,hA,↓reduceIte,qD,qE]; try rfl) (fun X2 gx2 => ?_)
      refine VI.line' (by simp +contextual (disch := first|omega|simp only [nx];omega) only [D4,qF,qG,qA,qB,qC,D5,hF,hA,↓reduceIte,qD,qE]; with_reducible rfl) ?_
      (repeat first|apply V.seq|apply V.block|apply V.scope|apply V.skip|apply V.close)
      refine V.ret (V.rets rfl (Or.inr ⟨by simp, V.rets rfl (Lv.retF (by simp +contextual (disch := first|omega|simp only [nx];omega) only [D1, cells_alloc_at, cells_alloc_ne, cells_set_at, cells_set_ne, yres, yres1, yresL, qA, qB, qC, D5,hF,hA,↓reduceIte,qD,qE]; rfl) ?_)⟩))
      rfl
    · (repeat first|apply V.seq|apply V.block|apply V.scope|apply V.skip|apply V.close)
      refine V.line' (by simp +contextual (disch := first|omega|simp only [nx];omega) only [D4,qF,qG,qA,qB,qC,D5,hF,hA,↓reduceIte,qD,qE]; with_reducible rfl) ?_
      refine V.nil (Or.inl ⟨rfl, L.length - (k + 1), by omega, ?_⟩)
      refine ⟨k + 1, by omega, rfl, rfl, hg.trans gx, ?_, (by intro i; simp only [full_st, hF]), (by simp only [Kn, D5,hF,hA,↓reduceIte,qD,qE, and_self, and_true, true_and]; try (repeat' constructor))⟩
      intro r hr
      rw [List.take_succ_eq_append_getElem hlt'] at hr
      rcases List.mem_append.1 hr with hr | hr
      · exact hall r hr
      · rw [List.mem_singleton.1 hr]; exact Decidable.not_not.1 hw
  have hv : ∀ r ∈ L, arq r := by
    rw [List.take_of_length_le (by omega)] at hall
    exact hall
  clear hall hlt
  have bX := b3.grow hg
  have cX := c3.grow hg
  have gX := g13.trans hg
  have lb := bX.1
  have lc := cX.1
  refine V.exit ?_
  (repeat first | refine V.pass ?_ | refine V.here ?_ | refine V.out (by decide) ?_)
  refine V.nil (Or.inr ⟨by simp, ?_⟩)
  (repeat first | refine V.pass ?_ | refine V.here ?_ | refine V.out (by decide) ?_)
  -- all areas and one more
  have hSX := hS.grow gX
  have o0 : OwW 4 X (X.alloc (.cells ⟨[]⟩ 23 true)) 23 (.slice (some ⟨X.next, 0, none⟩) 0 0) [] := .inr ⟨X.next, Nat.le_refl _, Nat.lt_succ_self _, rfl, cells_alloc _ _ _ _⟩
  have g0 : Grow X (X.alloc (.cells ⟨[]⟩ 23 true)) := (Grow.refl X).alloc _
  obtain ⟨w1, X1, a1, a2, a3, a4⟩ := OwW.append (e := 23) (bytes := 32) (by decide) g0 o0 (by simp) (hSX.grow g0) (q4_len L) (by simp [List.all_flatten, q4, ok1_int, A4]) (by simp only [List.length_nil, List.length_map]; omega) (by simp only [List.length_nil, List.length_map]; omega)
  rw [List.nil_append] at a2
  obtain ⟨w2, X2, d1, d2, d3, d4, d5, d6⟩ := OwW.push (x := A4 a b c d) (e := 23) (bytes := 32) (by decide) a3 a2 (q4_len L) rfl (by simp [ok1_int, A4]) (by rw [List.length_map]; omega) (by rw [List.length_map]; omega)
  have eX : L.map q4 ++ [A4 a b c d] = (L ++ [(a, b, c, d)]).map q4 := by simp [q4]
  rw [eX] at d2
  have bX2 := bX.grow d3
  have cX2 := cX.grow d3
  have gA : Grow X (X1.alloc (.cells ⟨A4 a b c d⟩ 23 true)) := a3.alloc _
  have bXa := bX.grow a3
  have cl1 := a3.1
  have hM : ∀ r ∈ L ++ [(a, b, c, d)], arq r := by
    intro r hr
    rcases List.mem_append.1 hr with hr | hr
    · exact hv r hr
    · rw [List.mem_singleton.1 hr]; exact hm
  have hXl : (L ++ [(a, b, c, d)]).length ≤ 6 := by simp; omega
  have hXp : 0 < (L ++ [(a, b, c, d)]).length := by simp
  have hta := tot_app h5 hv hm hlv
  generalize hXX : L ++ [(a, b, c, d)] = XX at *
  have hS2 := d2.sw (q4_len XX)
  have hlw : ∀ Z, ylen 0 Z w2 = some (I XX.length) := fun Z => by have := d2.len Z; rw [List.length_map] at this; exact this
  obtain ⟨i, i1, i2, hw2, i4⟩ : ∃ i, X.next ≤ i ∧ i < X2.next ∧ w2 = .slice (some ⟨i, 0, none⟩) XX.length XX.length ∧ X2.cellsAt i = some (⟨(XX.map q4).flatten⟩, 23, true) := by
    rcases d2 with ⟨_, h⟩ | ⟨i, h1, h2, h3, h4⟩
    · rw [List.map_eq_nil_iff.1 h] at hXp; simp at hXp
    · exact ⟨i, h1, h2, by rw [h3, List.length_map], h4⟩
  (repeat first|apply V.seq|apply V.block|apply V.scope|apply V.skip|apply V.close)
  refine V.lineD' (by simp +contextual (disch := first|omega|simp only [nx];omega) only [D4,qF,qG,qA,qB,qC,D5,hF,hA,↓reduceIte,qD,qE, a1, d1, bXa.2]; with_reducible rfl) ?_ ?_ rfl ?_
  · have m1 := a3.1
    have m3 := d3.1
    have m4 := d5
    have m2 := a4.1
    simp only [nx] at m2
    simp only [monoG, List.cons_append, List.nil_append, Heap.next_set, Heap.next_alloc, Nat.le_refl, true_and, and_true] <;> omega
  · simp only [dcAll, dcOk, wantD, List.cons_append, List.nil_append, true_and, and_true]
    exact ⟨fun _ => ⟨_, _, _, rfl, rfl, rfl, (by simp only [D5,hF,hA,↓reduceIte,qD,qE]; simp [inBound]), fun _ => ⟨_, _, _, cells_alloc _ _ _ _, (by first | exact An_inb | rfl)⟩⟩, fun _ q hq => by simp only [List.mem_cons, List.not_mem_nil, or_false] at hq; (repeat (rcases hq with rfl | hq; exact ⟨_, _, _, rfl, (by simp +contextual (disch := first|omega|simp only [nx];omega) only [D4,qF,qG,qA,qB,qC,D5,hF,hA,↓reduceIte,qD,qE, bX.2, bXa.2, bX2.2]; with_reducible rfl), fun p hp => by cases hp; simp only [D5,hF,hA,↓reduceIte,qD,qE]; first | exact vEq_An | (simp [vEq, vEq0, all2]; done) | assumption⟩)); (try (subst hq; exact ⟨_, _, _, rfl, (by simp +contextual (disch := first|omega|simp only [nx];omega) only [D4,qF,qG,qA,qB,qC,D5,hF,hA,↓reduceIte,qD,qE, bX.2, bXa.2, bX2.2]; with_reducible rfl), fun p hp => by cases hp; simp only [D5,hF,hA,↓reduceIte,qD,qE]; first | exact vEq_An | (simp [vEq, vEq0, all2]; done) | assumption⟩)), fun _ => ⟨_, _, _, rfl, rfl, rfl, (by simp only [D5,hF,hA,↓reduceIte,qD,qE]; simp [inBound]), fun _ => ⟨_, _, _, cells_alloc _ _ _ _, (by first | exact An_inb | rfl)⟩⟩⟩
  obtain ⟨yn, rfl⟩ : ∃ k : Nat, y = k := ⟨y.toNat, by omega⟩
  have hkk : yn % XX.length < XX.length := Nat.mod_lt _ hXp
  have hrem : ((yn : Nat) : Int).tmod ((XX.length : Nat) : Int) = ((yn % XX.length : Nat) : Int) := rfl
  have hyn : (yn : Int) ≤ 255 := hy.2
  (repeat first|apply V.seq|apply V.block|apply V.scope|apply V.skip|apply V.close)
  refine V.line' (by simp +contextual (disch := first|omega|simp only [nx];omega) only [D4,qF,qG,qA,qB,qC,D5,hF,hA,↓reduceIte,qD,qE, hlw, hrem]; with_reducible rfl) ?_
  (repeat first|apply V.seq|apply V.block|apply V.scope|apply V.skip|apply V.close)
  generalize yn % XX.length = kk at *
  have bw : Bx X2 i ((XX.map q4).flatten) 23 := ⟨i2, i4⟩
  have lml : (XX.map q4).length = XX.length := List.length_map ..
  have gE : Grow X2 (X2.alloc (.cells ⟨[]⟩ 23 true)) := (Grow.refl X2).alloc _
  have o1 : OwW 4 X2 (X2.alloc (.cells ⟨[]⟩ 23 true)) 23 (.slice (some ⟨X2.next, 0, none⟩) 0 0) [] := .inr ⟨X2.next, Nat.le_refl _, Nat.lt_succ_self _, rfl, cells_alloc _ _ _ _⟩
  have bwE := bw.grow gE
  have hs1 := sl_lo (es := 4) bwE hkk
  have hp1 := (Sw.part bwE (q4_len XX) (k := kk) (by omega)).1
  rw [lml] at hp1
  obtain ⟨w3, X3, e1, e2, e3, e4⟩ := OwW.append (e := 23) (bytes := 32) (by decide) gE o1 (by simp) hp1 (fun x hx => q4_len XX x (List.mem_of_mem_drop hx)) (by rw [List.all_eq_true]; intro z hz; obtain ⟨l, hl, hzl⟩ := List.mem_flatten.1 hz; obtain ⟨r, _, rfl⟩ := List.mem_map.1 (List.mem_of_mem_drop hl); simp only [q4, A4, List.mem_cons, List.not_mem_nil, or_false] at hzl; rcases hzl with rfl | rfl | rfl | rfl <;> rfl) (by simp only [List.length_nil, List.length_drop, lml]; omega) (by simp only [List.length_nil, List.length_drop, lml]; omega)
  rw [List.nil_append] at e2
  have bw3 := bw.grow e3
  have hs2 := sl_hi (es := 4) bw3 (k := kk) (n := XX.length) (by omega) hXp
  have hs2E := sl_hi (es := 4) bwE (k := kk) (n := XX.length) (by omega) hXp
  have hs20 := sl_hi (es := 4) bw (k := kk) (n := XX.length) (by omega) hXp
  have hp2 := (Sw.part bw3 (q4_len XX) (k := kk) (by omega)).2
  rw [lml] at hp2
  obtain ⟨w4, X4, k1, k2, k3, k4⟩ := OwW.append (e := 23) (bytes := 32) (by decide) e3 e2 (fun x hx => q4_len XX x (List.mem_of_mem_drop hx)) hp2 (fun x hx => q4_len XX x (List.mem_of_mem_take hx)) (by rw [List.all_eq_true]; intro z hz; obtain ⟨l, hl, hzl⟩ := List.mem_flatten.1 hz; obtain ⟨r, _, rfl⟩ := List.mem_map.1 (List.mem_of_mem_take hl); simp only [q4, A4, List.mem_cons, List.not_mem_nil, or_false] at hzl; rcases hzl with rfl | rfl | rfl | rfl <;> rfl) (by simp only [List.length_take, List.length_drop, lml]; omega) (by simp only [List.length_take, List.length_drop, lml]; omega)
  have hs10 := sl_lo (es := 4) bw hkk
  have hs13 := sl_lo (es := 4) bw3 hkk
  have hs14 := sl_lo (es := 4) (bw.grow k3) hkk
  have hs24 := sl_hi (es := 4) (bw.grow k3) (k := kk) (n := XX.length) (by omega) hXp
  simp only [Nat.zero_add] at e1 hs1 hs10 hs13 hs14
  subst hw2
  refine V.lineD' (by simp +contextual (disch := first|omega|simp only [nx];omega) only [D4,qF,qG,qA,qB,qC,D5,hF,hA,↓reduceIte,qD,qE, hs1, e1, hs2, k1]; with_reducible rfl) ?_ ?_ rfl ?_
  · have m1 := e4.1
    have m2 := k4.1
    simp only [nx] at m1
    simp only [monoG, List.cons_append, List.nil_append, Heap.next_set, Heap.next_alloc, Nat.le_refl, true_and, and_true] <;> omega
  · simp only [dcAll, dcOk, wantD, List.cons_append, List.nil_append, true_and, and_true]
    exact ⟨fun _ q hq => by simp only [List.mem_cons, List.not_mem_nil, or_false] at hq; (repeat (rcases hq with rfl | hq; exact ⟨_, _, _, rfl, (by simp +contextual (disch := first|omega|simp only [nx];omega) only [D4,qF,qG,qA,qB,qC,D5,hF,hA,↓reduceIte,qD,qE, hs10, hs1, hs13, hs14]; with_reducible rfl), fun p hp => by cases hp; simp only [D5,hF,hA,↓reduceIte,qD,qE]; first | exact vEq_An | (simp [vEq, vEq0, all2]; done) | assumption⟩)); (try (subst hq; exact ⟨_, _, _, rfl, (by simp +contextual (disch := first|omega|simp only [nx];omega) only [D4,qF,qG,qA,qB,qC,D5,hF,hA,↓reduceIte,qD,qE, hs10, hs1, hs13, hs14]; with_reducible rfl), fun p hp => by cases hp; simp only [D5,hF,hA,↓reduceIte,qD,qE]; first | exact vEq_An | (simp [vEq, vEq0, all2]; done) | assumption⟩)), fun _ q hq => by simp only [List.mem_cons, List.not_mem_nil, or_false] at hq; (repeat (rcases hq with rfl | hq; exact ⟨_, _, _, rfl, (by simp +contextual (disch := first|omega|simp only [nx];omega) only [D4,qF,qG,qA,qB,qC,D5,hF,hA,↓reduceIte,qD,qE, hs20, hs2E, hs2, hs24]; with_reducible rfl), fun p hp => by cases hp; simp only [D5,hF,hA,↓reduceIte,qD,qE]; first | exact vEq_An | (simp [vEq, vEq0, all2]; done) | assumption⟩)); (try (subst hq; exact ⟨_, _, _, rfl, (by simp +contextual (disch := first|omega|simp only [nx];omega) only [D4,qF,qG,qA,qB,qC,D5,hF,hA,↓reduceIte,qD,qE, hs20, hs2E, hs2, hs24]; with_reducible rfl), fun p hp => by cases hp; simp only [D5,hF,hA,↓reduceIte,qD,qE]; first | exact vEq_An | (simp [vEq, vEq0, all2]; done) | assumption⟩))⟩
  have eY : (XX.map q4).drop kk ++ (XX.map q4).take kk = (XX.drop kk ++ XX.take kk).map q4 := by rw [List.map_append, List.map_drop, List.map_take]
  rw [eY] at k2
  have hYt := tot_rot (L := XX) (n := n) (q := q) kk
  have hYl : (XX.drop kk ++ XX.take kk).length = XX.length := by simp; omega
  generalize XX.drop kk ++ XX.take kk = YY at *
  have b4 := bX2.grow k3
  have c4 := cX2.grow k3
  have gH4 : Grow H X4 := (gX.trans d3).trans k3
  have hS4 := hS2.grow k3
  have hY4 := k2.sw (q4_len YY)
  have tb1 := tot_bd (L := L) (n := n) (q := q) (by omega) hv hlv
  have tb2 := tot_bd (L := [(a, b, c, d)]) (n := n) (q := q) (by simp) (by simpa using hm) hlv
  clear a1 a2 a3 a4 d1 d3 d4 d5 d6 e1 e2 e3 e4 k1 k3 k4 hs1 hs2 hs2E hs20 hs10 hs13 hs14 hs24 hp1 hp2 o0 o1 g0 gE bwE bw3
  (repeat first|apply V.seq|apply V.block|apply V.scope|apply V.skip|apply V.close)
  refine V.draw ?_
  refine VD.dins 1 (by simp +contextual (disch := first|omega|simp only [nx];omega) only [D4,qF,qG,qA,qB,qC,D5,hF,hA,↓reduceIte,qD,qE]; with_reducible rfl) ?_
  simp only [ds]
  refine VD.callR (by simp only [D6,D5,hF,hA,↓reduceIte,qD,qE]; try rfl) (f35_ok (hS.grow gH4) (by omega)) (by simp only [D6,D5,hF,hA,↓reduceIte,qD,qE]; try rfl) (fun up P1 ⟨p1, po⟩ => ?_)
  have b41 := b4.grow p1
  have c41 := c4.grow p1
  refine VD.dins 1 (by simp +contextual (disch := first|omega|simp only [nx];omega) only [D4,qF,qG,qA,qB,qC,D5,hF,hA,↓reduceIte,qD,qE, c41.2]; with_reducible rfl) ?_
  simp only [ds]
  refine VD.callA (by simp only [D6,D5,hF,hA,↓reduceIte,qD,qE]; try rfl) (f28_ok n q _) (by simp only [D6,D5,hF,hA,↓reduceIte,qD,qE]; try rfl) (fun P2 p2 => ?_)
  have c42 := c41.grow p2
  refine VD.callA (by simp only [D6,D5,hF,hA,↓reduceIte,qD,qE]; try rfl) (f34_ok (L := L) ((po.sw (q4_len _)).grow p2) (by omega)) (by simp only [D6,D5,hF,hA,↓reduceIte,qD,qE]; try rfl) (fun P3 p3 => ?_)
  have pg := (p1.trans p2).trans p3
  generalize htotp : tot L n q = tp at *
  obtain ⟨l1, l2, le⟩ := tp
  refine VD.lineD' (by simp +contextual (disch := first|omega|simp only [nx];omega) only [D4,qF,qG,qA,qB,qC,D5,hF,hA,↓reduceIte,qD,qE]; with_reducible rfl) ?_ ?_ rfl ?_
  · have m1 := p1.1
    have m2 := p2.1
    have m3 := p3.1
    simp only [monoG, List.cons_append, List.nil_append, Heap.next_set, Heap.next_alloc, Nat.le_refl, true_and, and_true] <;> omega
  · simp only [dcAll, dcOk, wantD, List.cons_append, List.nil_append, true_and, and_true]
    exact ⟨fun _ q hq => by simp only [List.mem_cons, List.not_mem_nil, or_false] at hq; (repeat (rcases hq with rfl | hq; exact ⟨_, _, _, rfl, (by simp +contextual (disch := first|omega|simp only [nx];omega) only [D4,qF,qG,qA,qB,qC,D5,hF,hA,↓reduceIte,qD,qE, c4.2, c41.2, c42.2]; with_reducible rfl), fun p hp => by cases hp; simp only [D5,hF,hA,↓reduceIte,qD,qE]; first | exact vEq_An | (simp [vEq, vEq0, all2]; done) | assumption⟩)); (try (subst hq; exact ⟨_, _, _, rfl, (by simp +contextual (disch := first|omega|simp only [nx];omega) only [D4,qF,qG,qA,qB,qC,D5,hF,hA,↓reduceIte,qD,qE, c4.2, c41.2, c42.2]; with_reducible rfl), fun p hp => by cases hp; simp only [D5,hF,hA,↓reduceIte,qD,qE]; first | exact vEq_An | (simp [vEq, vEq0, all2]; done) | assumption⟩)), fun _ => ⟨_, _, _, rfl, rfl, rfl, (by simp only [D5,hF,hA,↓reduceIte,qD,qE]; simp [inBound]), fun _ => ⟨_, _, _, cells_alloc _ _ _ _, (by first | exact An_inb | rfl)⟩⟩⟩
  refine V.heap (fun Y => Grow P3 Y ∧ Bx Y P3.next (A2 l1 l2) 53) ⟨?_, ?_⟩ ?_
  · (repeat first | assumption | exact Grow.refl _ | refine Grow.alloc ?_ _ | refine Grow.set ?_ (by first|omega|simp only [nx];omega) _)
  · (repeat first | assumption | exact Bx.new _ _ _ | exact Bx.newAt (by first|omega|simp only [nx];omega) | refine Bx.put (by first|omega|simp only [nx];omega) _ _ | refine Bx.alloc ?_ _ | refine Bx.set ?_ (by first|omega|simp only [nx];omega) _)
  rintro Q0 ⟨pg2, hl0⟩
  have gPQ := pg.trans pg2
  have bq := b4.grow gPQ
  have cq := c4.grow gPQ
  have hSq := hS4.grow gPQ
  have hYq := hY4.grow gPQ
  (repeat first|apply V.seq|apply V.block|apply V.scope|apply V.skip|apply V.close)
  refine V.draw ?_
  refine VD.dins 1 (by simp +contextual (disch := first|omega|simp only [nx];omega) only [D4,qF,qG,qA,qB,qC,D5,hF,hA,↓reduceIte,qD,qE]; with_reducible rfl) ?_
  simp only [ds]
  refine VD.callR (by simp only [D6,D5,hF,hA,↓reduceIte,qD,qE]; try rfl) (f35_ok hSq (by omega)) (by simp only [D6,D5,hF,hA,↓reduceIte,qD,qE]; try rfl) (fun uq Q1 ⟨q1, qo⟩ => ?_)
  have bq1 := bq.grow q1
  have cq1 := cq.grow q1
  refine VD.dins 1 (by simp +contextual (disch := first|omega|simp only [nx];omega) only [D4,qF,qG,qA,qB,qC,D5,hF,hA,↓reduceIte,qD,qE, cq1.2]; with_reducible rfl) ?_
  simp only [ds]
  refine VD.callA (by simp only [D6,D5,hF,hA,↓reduceIte,qD,qE]; try rfl) (f28_ok n q _) (by simp only [D6,D5,hF,hA,↓reduceIte,qD,qE]; try rfl) (fun Q2 q2 => ?_)
  have cq2 := cq1.grow q2
  refine VD.callA (by simp only [D6,D5,hF,hA,↓reduceIte,qD,qE]; try rfl) (f34_ok (L := XX) ((qo.sw (q4_len _)).grow q2) (by omega)) (by simp only [D6,D5,hF,hA,↓reduceIte,qD,qE]; try rfl) (fun Q3 q3 => ?_)
  have qg := (q1.trans q2).trans q3
  generalize htotq : tot XX n q = tq at *
  obtain ⟨x1, x2, xe⟩ := tq
  refine VD.lineD' (by simp +contextual (disch := first|omega|simp only [nx];omega) only [D4,qF,qG,qA,qB,qC,D5,hF,hA,↓reduceIte,qD,qE]; with_reducible rfl) ?_ ?_ rfl ?_
  · have m1 := q1.1
    have m2 := q2.1
    have m3 := q3.1
    simp only [monoG, List.cons_append, List.nil_append, Heap.next_set, Heap.next_alloc, Nat.le_refl, true_and, and_true] <;> omega
  · simp only [dcAll, dcOk, wantD, List.cons_append, List.nil_append, true_and, and_true]
    exact ⟨fun _ q hq => by simp only [List.mem_cons, List.not_mem_nil, or_false] at hq; (repeat (rcases hq with rfl | hq; exact ⟨_, _, _, rfl, (by simp +contextual (disch := first|omega|simp only [nx];omega) only [D4,qF,qG,qA,qB,qC,D5,hF,hA,↓reduceIte,qD,qE, cq.2, cq1.2, cq2.2]; with_reducible rfl), fun p hp => by cases hp; simp only [D5,hF,hA,↓reduceIte,qD,qE]; first | exact vEq_An | (simp [vEq, vEq0, all2]; done) | assumption⟩)); (try (subst hq; exact ⟨_, _, _, rfl, (by simp +contextual (disch := first|omega|simp only [nx];omega) only [D4,qF,qG,qA,qB,qC,D5,hF,hA,↓reduceIte,qD,qE, cq.2, cq1.2, cq2.2]; with_reducible rfl), fun p hp => by cases hp; simp only [D5,hF,hA,↓reduceIte,qD,qE]; first | exact vEq_An | (simp [vEq, vEq0, all2]; done) | assumption⟩)), fun _ => ⟨_, _, _, rfl, rfl, rfl, (by simp only [D5,hF,hA,↓reduceIte,qD,qE]; simp [inBound]), fun _ => ⟨_, _, _, cells_alloc _ _ _ _, (by first | exact An_inb | rfl)⟩⟩⟩
  refine V.heap (fun Y => Grow Q3 Y ∧ Bx Y Q3.next (A2 x1 x2) 53) ⟨?_, ?_⟩ ?_
  · (repeat first | assumption | exact Grow.refl _ | refine Grow.alloc ?_ _ | refine Grow.set ?_ (by first|omega|simp only [nx];omega) _)
  · (repeat first | assumption | exact Bx.new _ _ _ | exact Bx.newAt (by first|omega|simp only [nx];omega) | refine Bx.put (by first|omega|simp only [nx];omega) _ _ | refine Bx.alloc ?_ _ | refine Bx.set ?_ (by first|omega|simp only [nx];omega) _)
  rintro R0 ⟨qg2, hx0⟩
  have gQR := qg.trans qg2
  have br := bq.grow gQR
  have cr := cq.grow gQR
  have hl1 := hl0.grow gQR
  have hYr := hYq.grow gQR
  (repeat first|apply V.seq|apply V.block|apply V.scope|apply V.skip|apply V.close)
  refine V.draw ?_
  refine VD.dins 1 (by simp +contextual (disch := first|omega|simp only [nx];omega) only [D4,qF,qG,qA,qB,qC,D5,hF,hA,↓reduceIte,qD,qE]; with_reducible rfl) ?_
  simp only [ds]
  refine VD.callR (by simp only [D6,D5,hF,hA,↓reduceIte,qD,qE]; try rfl) (f35_ok hYr (by omega)) (by simp only [D6,D5,hF,hA,↓reduceIte,qD,qE]; try rfl) (fun ur R1 ⟨r1, ro⟩ => ?_)
  have cr1 := cr.grow r1
  refine VD.dins 1 (by simp +contextual (disch := first|omega|simp only [nx];omega) only [D4,qF,qG,qA,qB,qC,D5,hF,hA,↓reduceIte,qD,qE, cr1.2]; with_reducible rfl) ?_
  simp only [ds]
  refine VD.callA (by simp only [D6,D5,hF,hA,↓reduceIte,qD,qE]; try rfl) (f28_ok n q _) (by simp only [D6,D5,hF,hA,↓reduceIte,qD,qE]; try rfl) (fun R2 r2 => ?_)
  have cr2 := cr1.grow r2
  refine VD.callA (by simp only [D6,D5,hF,hA,↓reduceIte,qD,qE]; try rfl) (f34_ok (L := YY) ((ro.sw (q4_len _)).grow r2) (by omega)) (by simp only [D6,D5,hF,hA,↓reduceIte,qD,qE]; try rfl) (fun R3 r3 => ?_)
  rw [hYt]
  have rg' := (r1.trans r2).trans r3
  refine VD.lineD' (by simp +contextual (disch := first|omega|simp only [nx];omega) only [D4,qF,qG,qA,qB,qC,D5,hF,hA,↓reduceIte,qD,qE]; with_reducible rfl) ?_ ?_ rfl ?_
  · have m1 := r1.1
    have m2 := r2.1
    have m3 := r3.1
    simp only [monoG, List.cons_append, List.nil_append, Heap.next_set, Heap.next_alloc, Nat.le_refl, true_and, and_true] <;> omega
  · simp only [dcAll, dcOk, wantD, List.cons_append, List.nil_append, true_and, and_true]
    exact ⟨fun _ q hq => by simp only [List.mem_cons, List.not_mem_nil, or_false] at hq; (repeat (rcases hq with rfl | hq; exact ⟨_, _, _, rfl, (by simp +contextual (disch := first|omega|simp only [nx];omega) only [D4,qF,qG,qA,qB,qC,D5,hF,hA,↓reduceIte,qD,qE, cr.2, cr1.2, cr2.2]; with_reducible rfl), fun p hp => by cases hp; simp only [D5,hF,hA,↓reduceIte,qD,qE]; first | exact vEq_An | (simp [vEq, vEq0, all2]; done) | assumption⟩)); (try (subst hq; exact ⟨_, _, _, rfl, (by simp +contextual (disch := first|omega|simp only [nx];omega) only [D4,qF,qG,qA,qB,qC,D5,hF,hA,↓reduceIte,qD,qE, cr.2, cr1.2, cr2.2]; with_reducible rfl), fun p hp => by cases hp; simp only [D5,hF,hA,↓reduceIte,qD,qE]; first | exact vEq_An | (simp [vEq, vEq0, all2]; done) | assumption⟩)), fun _ => ⟨_, _, _, rfl, rfl, rfl, (by simp only [D5,hF,hA,↓reduceIte,qD,qE]; simp [inBound]), fun _ => ⟨_, _, _, cells_alloc _ _ _ _, (by first | exact An_inb | rfl)⟩⟩⟩
  refine V.heap (fun Y => Grow R3 Y ∧ Bx Y R3.next (A2 x1 x2) 53) ⟨?_, ?_⟩ ?_
  · (repeat first | assumption | exact Grow.refl _ | refine Grow.alloc ?_ _ | refine Grow.set ?_ (by first|omega|simp only [nx];omega) _)
  · (repeat first | assumption | exact Bx.new _ _ _ | exact Bx.newAt (by first|omega|simp only [nx];omega) | refine Bx.put (by first|omega|simp only [nx];omega) _ _ | refine Bx.alloc ?_ _ | refine Bx.set ?_ (by first|omega|simp only [nx];omega) _)
  rintro S0 ⟨rg2, hy0⟩
  have gRS := rg'.trans rg2
  have bs := br.grow gRS
  have cs := cr.grow gRS
  have hl2 := hl1.grow gRS
  have hx1 := hx0.grow gRS
  (repeat first|apply V.seq|apply V.block|apply V.scope|apply V.skip|apply V.close)
  refine V.draw ?_
  refine VD.dins 1 (by simp +contextual (disch := first|omega|simp only [nx];omega) only [D4,qF,qG,qA,qB,qC,D5,hF,hA,↓reduceIte,qD,qE, bs.2]; with_reducible rfl) ?_
  simp only [ds]
  refine VD.callA (by simp only [D6,D5,hF,hA,↓reduceIte,qD,qE]; try rfl) (f21_ok a b c d S0) (by simp only [D6,D5,hF,hA,↓reduceIte,qD,qE]; try rfl) (fun S1 s1 => ?_)
  have cs1 := cs.grow s1
  refine VD.dins 1 (by simp +contextual (disch := first|omega|simp only [nx];omega) only [D4,qF,qG,qA,qB,qC,D5,hF,hA,↓reduceIte,qD,qE, cs1.2]; with_reducible rfl) ?_
  simp only [ds]
  refine VD.callA (by simp only [D6,D5,hF,hA,↓reduceIte,qD,qE]; try rfl) (f28_ok n q S1) (by simp only [D6,D5,hF,hA,↓reduceIte,qD,qE]; try rfl) (fun S2 s2 => ?_)
  have cs2 := cs1.grow s2
  refine VD.callA (by simp only [D6,D5,hF,hA,↓reduceIte,qD,qE]; try rfl) (f39_ok a b c d n q S2) (by simp only [D6,D5,hF,hA,↓reduceIte,qD,qE]; try rfl) (fun S3 s3 => ?_)
  have sg := (s1.trans s2).trans s3
  generalize htotm : tot [(a, b, c, d)] n q = tm at *
  obtain ⟨m1', m2', me⟩ := tm
  refine VD.lineD' (by simp +contextual (disch := first|omega|simp only [nx];omega) only [D4,qF,qG,qA,qB,qC,D5,hF,hA,↓reduceIte,qD,qE]; with_reducible rfl) ?_ ?_ rfl ?_
  · have m1 := s1.1
    have m2 := s2.1
    have m3 := s3.1
    simp only [monoG, List.cons_append, List.nil_append, Heap.next_set, Heap.next_alloc, Nat.le_refl, true_and, and_true] <;> omega
  · simp only [dcAll, dcOk, wantD, List.cons_append, List.nil_append, true_and, and_true]
    exact ⟨fun _ q hq => by simp only [List.mem_cons, List.not_mem_nil, or_false] at hq; (repeat (rcases hq with rfl | hq; exact ⟨_, _, _, rfl, (by simp +contextual (disch := first|omega|simp only [nx];omega) only [D4,qF,qG,qA,qB,qC,D5,hF,hA,↓reduceIte,qD,qE, cs.2, cs1.2, cs2.2]; with_reducible rfl), fun p hp => by cases hp; simp only [D5,hF,hA,↓reduceIte,qD,qE]; first | exact vEq_An | (simp [vEq, vEq0, all2]; done) | assumption⟩)); (try (subst hq; exact ⟨_, _, _, rfl, (by simp +contextual (disch := first|omega|simp only [nx];omega) only [D4,qF,qG,qA,qB,qC,D5,hF,hA,↓reduceIte,qD,qE, cs.2, cs1.2, cs2.2]; with_reducible rfl), fun p hp => by cases hp; simp only [D5,hF,hA,↓reduceIte,qD,qE]; first | exact vEq_An | (simp [vEq, vEq0, all2]; done) | assumption⟩)), fun _ => ⟨_, _, _, rfl, rfl, rfl, (by simp only [D5,hF,hA,↓reduceIte,qD,qE]; simp [inBound]), fun _ => ⟨_, _, _, cells_alloc _ _ _ _, (by first | exact An_inb | rfl)⟩⟩⟩
  refine V.heap (fun Y => Grow S3 Y ∧ Bx Y S3.next (A2 m1' m2') 53) ⟨?_, ?_⟩ ?_
  · (repeat first | assumption | exact Grow.refl _ | refine Grow.alloc ?_ _ | refine Grow.set ?_ (by first|omega|simp only [nx];omega) _)
  · (repeat first | assumption | exact Bx.new _ _ _ | exact Bx.newAt (by first|omega|simp only [nx];omega) | refine Bx.put (by first|omega|simp only [nx];omega) _ _ | refine Bx.alloc ?_ _ | refine Bx.set ?_ (by first|omega|simp only [nx];omega) _)
  rintro T0 ⟨sg2, hm0⟩
  have gST := sg.trans sg2
  have hl3 := hl2.grow gST
  have hx2 := hx1.grow gST
  have hy1 := hy0.grow gST
  simp only [Prod.mk.injEq] at hta
  obtain ⟨tb11, tb12, hle⟩ := tb1
  obtain ⟨tb21, tb22, hme⟩ := tb2
  simp only [List.length_cons, List.length_nil] at tb11 tb12 tb21 tb22 hle hme
  have xb1 : 0 ≤ x1 ∧ x1 ≤ 1000 := by omega
  have xb2 : 0 ≤ x2 ∧ x2 ≤ 1000 := by omega
  have hnq : xbinOp Try.prog .neq 53 (.agg ⟨A2 x1 x2⟩) (.agg ⟨A2 x1 x2⟩) = some (.bool false) := by
    rw [neq53 (wf_sm xb1.1 xb1.2) (wf_sm xb2.1 xb2.2) (wf_sm xb1.1 xb1.2) (wf_sm xb2.1 xb2.2)]; simp
  have heq := eq53 (wf_sm xb1.1 xb1.2) (wf_sm xb2.1 xb2.2) (wf_sm xb1.1 xb1.2) (wf_sm xb2.1 xb2.2)
  simp only [and_self, decide_true] at heq
  rcases hta with ⟨q1, q2, q3, q4', q5⟩ | ⟨q1, q2, q3, q4'⟩
  · subst q1 q2 q5
    (repeat first|apply V.seq|apply V.block|apply V.scope|apply V.skip|apply V.close)
    refine V.line' (by simp +contextual (disch := first|omega|simp only [nx];omega) only [D4,qF,qG,qA,qB,qC,D5,hF,hA,↓reduceIte,qD,qE, ne_eq, not_true_eq_false, hx2.2, hy1.2, hnq]; with_reducible rfl) ?_
    (repeat first|apply V.seq|apply V.block|apply V.scope|apply V.skip|apply V.close)
    refine V.condF (by simp only [D6,D5,hF,hA,↓reduceIte,qD,qE]) ?_
    (repeat first|apply V.seq|apply V.block|apply V.scope|apply V.skip|apply V.close)
    refine V.line' (by simp +contextual (disch := first|omega|simp only [nx];omega) only [D4,qF,qG,qA,qB,qC,D5,hF,hA,↓reduceIte,qD,qE, ne_eq, not_true_eq_false]; with_reducible rfl) ?_
    (repeat first|apply V.seq|apply V.block|apply V.scope|apply V.skip|apply V.close)
    refine V.condF (by simp only [D6,D5,hF,hA,↓reduceIte,qD,qE]) ?_
    (repeat first|apply V.seq|apply V.block|apply V.scope|apply V.skip|apply V.close)
    refine V.draw ?_
    rw [q3, q4'] at heq
    have hx3 := hx2
    rw [q3, q4'] at hx3
    refine VD.dins 9 (by simp +contextual (disch := first|omega|simp only [nx];omega) only [D4,qF,qG,qA,qB,qC,D5,hF,hA,↓reduceIte,qD,qE, hx3.2, hl3.2, hm0.2]; with_reducible rfl) ?_
    simp only [ds]
    refine VD.dins 5 (by simp +contextual (disch := first|omega|simp only [nx];omega) only [D4,qF,qG,qA,qB,qC,D5,hF,hA,↓reduceIte,qD,qE, hx3.2, hl3.2, hm0.2]; with_reducible rfl) ?_
    simp only [ds]
    refine VD.callAT (by simp only [D5,hF,hA,↓reduceIte,qD,qE]; try rfl) (by simp only [D6,D5,hF,hA,↓reduceIte,qD,qE]; try rfl) (f47_ok (l1 + m1') (l2 + m2') T0) (by simp only [D6,D5,hF,hA,↓reduceIte,qD,qE]; try rfl) (fun U1 u1 => ?_)
    refine VD.dins 3 (by simp +contextual (disch := first|omega|simp only [nx];omega) only [D4,qF,qG,qA,qB,qC,D5,hF,hA,↓reduceIte,qD,qE, heq]; with_reducible rfl) ?_
    simp only [ds]
    refine VD.callAT (by simp only [D5,hF,hA,↓reduceIte,qD,qE]; try rfl) (by simp only [D6,D5,hF,hA,↓reduceIte,qD,qE]; try rfl) (f24_ok _) (by simp only [D6,D5,hF,hA,↓reduceIte,qD,qE]; try rfl) (fun U2 u2 => ?_)
    have hxa := hx3.grow u1
    have hxb := hxa.grow u2
    refine VD.lineD' (by simp +contextual (disch := first|omega|simp only [nx];omega) only [D4,qF,qG,qA,qB,qC,D5,hF,hA,↓reduceIte,qD,qE]; with_reducible rfl) ?_ ?_ rfl ?_
    · have m1 := u1.1
      have m2 := u2.1
      simp only [monoG, List.cons_append, List.nil_append, Heap.next_set, Heap.next_alloc, Nat.le_refl, true_and, and_true] <;> omega
    · simp only [dcAll, dcOk, wantD, List.cons_append, List.nil_append, true_and, and_true]
      exact fun _ q hq => by simp only [List.mem_cons, List.not_mem_nil, or_false] at hq; (repeat (rcases hq with rfl | hq; exact ⟨_, _, _, rfl, (by simp +contextual (disch := first|omega|simp only [nx];omega) only [D4,qF,qG,qA,qB,qC,D5,hF,hA,↓reduceIte,qD,qE, hx3.2, hxa.2, hxb.2]; with_reducible rfl), fun p hp => by cases hp; simp only [D5,hF,hA,↓reduceIte,qD,qE]; first | exact vEq_An | (simp [vEq, vEq0, all2]; done) | assumption⟩)); (try (subst hq; exact ⟨_, _, _, rfl, (by simp +contextual (disch := first|omega|simp only [nx];omega) only [D4,qF,qG,qA,qB,qC,D5,hF,hA,↓reduceIte,qD,qE, hx3.2, hxa.2, hxb.2]; with_reducible rfl), fun p hp => by cases hp; simp only [D5,hF,hA,↓reduceIte,qD,qE]; first | exact vEq_An | (simp [vEq, vEq0, all2]; done) | assumption⟩))
    (repeat first|apply V.seq|apply V.block|apply V.scope|apply V.skip|apply V.close)
    refine V.ret (V.rets rfl (Lv.retF (by simp +contextual (disch := first|omega|simp only [nx];omega) only [D1, cells_alloc_at, cells_alloc_ne, cells_set_at, cells_set_ne, yres, yres1, yresL, qA, qB, qC, D5,hF,hA,↓reduceIte,qD,qE]; rfl) ?_))
    rfl
  · subst q2 q3 q4'
    (repeat first|apply V.seq|apply V.block|apply V.scope|apply V.skip|apply V.close)
    refine V.line' (by simp +contextual (disch := first|omega|simp only [nx];omega) only [D4,qF,qG,qA,qB,qC,D5,hF,hA,↓reduceIte,qD,qE, ne_eq, not_true_eq_false, hx2.2, hy1.2, hnq]; with_reducible rfl) ?_
    (repeat first|apply V.seq|apply V.block|apply V.scope|apply V.skip|apply V.close)
    refine V.condF (by simp only [D6,D5,hF,hA,↓reduceIte,qD,qE]) ?_
    (repeat first|apply V.seq|apply V.block|apply V.scope|apply V.skip|apply V.close)
    refine V.line' (by simp +contextual (disch := first|omega|simp only [nx];omega) only [D4,qF,qG,qA,qB,qC,D5,hF,hA,↓reduceIte,qD,qE, ne_eq]; with_reducible rfl) ?_
    (repeat first|apply V.seq|apply V.block|apply V.scope|apply V.skip|apply V.close)
    refine V.condP (by simp only [D6,D5,hF,hA,↓reduceIte,qD,qE]; rfl) (fun h8 => ?_) (fun h8 => ?_)
    · (repeat first|apply V.seq|apply V.block|apply V.scope|apply V.skip|apply V.close)
      refine V.run ?_
      refine VI.steps' 9 (by simp +contextual (disch := first|omega|simp only [nx];omega) only [D4,qF,qG,qA,qB,qC,D5,hF,hA,↓reduceIte,qD,qE, hle]; with_reducible rfl) ?_
      simp only [ds]
      refine VI.steps' 9 (by simp +contextual (disch := first|omega|simp only [nx];omega) only [D4,qF,qG,qA,qB,qC,D5,hF,hA,↓reduceIte,qD,qE, hle, hme]; with_reducible rfl) ?_
      simp only [ds]
      refine VI.steps' 1 (by simp +contextual (disch := first|omega|simp only [nx];omega) only [D4,qF,qG,qA,qB,qC,D5,hF,hA,↓reduceIte,qD,qE]; with_reducible rfl) ?_
      simp only [ds]
      refine VI.callAT (by simp only [D5,hF,hA,↓reduceIte,qD,qE]; try rfl) rfl (f24_ok _) (by simp only [D6,D5,hF,hA,↓reduceIte,qD,qE]; try rfl) (fun U1 u1 => ?_)
      refine VI.line' (by simp +contextual (disch := first|omega|simp only [nx];omega) only [D4,qF,qG,qA,qB,qC,D5,hF,hA,↓reduceIte,qD,qE]; with_reducible rfl) ?_
      (repeat first|apply V.seq|apply V.block|apply V.scope|apply V.skip|apply V.close)
      refine V.ret (V.rets rfl (Lv.retF (by simp +contextual (disch := first|omega|simp only [nx];omega) only [D1, cells_alloc_at, cells_alloc_ne, cells_set_at, cells_set_ne, yres, yres1, yresL, qA, qB, qC, D5,hF,hA,↓reduceIte,qD,qE]; rfl) ?_))
      rfl
    · exact absurd q1 h8
end Go.Xe.TMX
