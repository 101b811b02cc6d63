/- Numbers of ways to choose: what is known of them. Conditions: none. -/
namespace Go.Xe.Mth
/-- The number of ways to choose k of n things. -/
def ch : Nat → Nat → Nat
  | _, 0 => 1
  | 0, _ + 1 => 0
  | n + 1, k + 1 => ch n k + ch n (k + 1)
theorem ch_z (n : Nat) : ch n 0 = 1 := by cases n <;> rfl
theorem ch_ss (n k : Nat) : ch (n + 1) (k + 1) = ch n k + ch n (k + 1) := rfl
theorem ch_lt : ∀ {n k : Nat}, n < k → ch n k = 0
  | 0, k + 1, _ => rfl
  | n + 1, k + 1, h => by rw [ch_ss, ch_lt (n := n) (k := k) (by omega), ch_lt (n := n) (k := k + 1) (by omega)]
theorem ch_self : ∀ n, ch n n = 1
  | 0 => rfl
  | n + 1 => by rw [ch_ss, ch_self n, ch_lt (n := n) (k := n + 1) (by omega)]
theorem ch_sym' : ∀ a b, ch (a + b) a = ch (a + b) b
  | 0, b => by rw [ch_z, Nat.zero_add, ch_self]
  | a + 1, 0 => by rw [Nat.add_zero, ch_self, ch_z]
  | a + 1, b + 1 => by
    have h1 := ch_sym' a (b + 1)
    have h2 := ch_sym' (a + 1) b
    have e : a + 1 + (b + 1) = a + (b + 1) + 1 := by omega
    have e' : a + 1 + b = a + (b + 1) := by omega
    rw [e, ch_ss, ch_ss, h1]
    rw [e'] at h2
    rw [h2, Nat.add_comm]
theorem ch_sym {n k : Nat} (h : k ≤ n) : ch n (n - k) = ch n k := by
  have := ch_sym' k (n - k)
  rw [show k + (n - k) = n by omega] at this
  exact this.symm
theorem ch_le : ∀ n k, ch n k ≤ 2 ^ n
  | n, 0 => by rw [ch_z]; exact Nat.one_le_two_pow
  | 0, k + 1 => by simp [ch]
  | n + 1, k + 1 => by
    have h1 := ch_le n k
    have h2 := ch_le n (k + 1)
    rw [ch_ss, Nat.pow_succ]; omega
theorem ch_bound {n : Nat} (k : Nat) (h : n ≤ 60) : ch n k ≤ 1152921504606846976 := Nat.le_trans (ch_le n k) (Nat.le_trans (Nat.pow_le_pow_right (by omega) h) (by decide))
/-- Sums. -/
def sm (p : Nat → Nat) : Nat → Nat
  | 0 => 0
  | n + 1 => sm p n + p n
end Go.Xe.Mth
