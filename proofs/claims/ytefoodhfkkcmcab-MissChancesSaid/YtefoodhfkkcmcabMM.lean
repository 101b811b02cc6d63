/- Numbers of ways to choose: what is known of them. Conditions: none. -/
namespace Go.Xe.Mth
/-- The number of ways to choose k of n things. -/
def ch : Nat → Nat → Nat
  | _, 0 => 1
  | 0, _ + 1 => 0
  | n + 1, k + 1 => ch n k + ch n (k + 1)
theorem ch_z (n : Nat) : ch n 0 = 1 := by cases n <;> rfl
theorem ch_ss (n k : Nat) : ch (n + 1) (k + 1) = ch n k + ch n (k + 1) := rfl
theorem ch_lt : ∀ {n k : Nat}, n < k → ch n k = 0
  | 0, k + 1, _ => rfl
  | n + 1, k + 1, h => by rw [ch_ss, ch_lt (n := n) (k := k) (by omega), ch_lt (n := n) (k := k + 1) (by omega)]
theorem ch_self : ∀ n, ch n n = 1
  | 0 => rfl
  | n + 1 => by rw [ch_ss, ch_self n, ch_lt (n := n) (k := n + 1) (by omega)]
theorem ch_pos : ∀ {n k : Nat}, k ≤ n → 0 < ch n k
  | n, 0, _ => by rw [ch_z]; omega
  | n + 1, k + 1, h => by rw [ch_ss]; have := ch_pos (n := n) (k := k) (by omega); omega
theorem ch_absorb : ∀ n k, (k + 1) * ch (n + 1) (k + 1) = (n + 1) * ch n k
  | 0, 0 => rfl
  | 0, k + 1 => by rw [ch_ss]; simp [ch]
  | n + 1, 0 => by
    have := ch_absorb n 0
    have e := ch_ss (n + 1) 0
    have e2 := ch_z n
    have e3 := ch_z (n + 1)
    rw [e2] at this
    rw [e3] at e ⊢
    simp only [Nat.zero_add] at *
    omega
  | n + 1, k + 1 => by
    have h1 := ch_absorb n k
    have h2 := ch_absorb n (k + 1)
    have h3 := ch_ss n k
    rw [ch_ss (n + 1) (k + 1), Nat.mul_add]
    have e : (k + 1 + 1) * ch (n + 1) (k + 1) = (k + 1) * ch (n + 1) (k + 1) + ch (n + 1) (k + 1) := by rw [Nat.add_mul, Nat.one_mul]
    rw [e, h1, h2]
    have e2 : (n + 1 + 1) * ch (n + 1) (k + 1) = (n + 1) * ch (n + 1) (k + 1) + ch (n + 1) (k + 1) := by rw [Nat.add_mul (n + 1) 1, Nat.one_mul]
    rw [e2, h3, Nat.mul_add]
    omega
theorem ch_sym' : ∀ a b, ch (a + b) a = ch (a + b) b
  | 0, b => by rw [ch_z, Nat.zero_add, ch_self]
  | a + 1, 0 => by rw [Nat.add_zero, ch_self, ch_z]
  | a + 1, b + 1 => by
    have h1 := ch_sym' a (b + 1)
    have h2 := ch_sym' (a + 1) b
    have e : a + 1 + (b + 1) = a + (b + 1) + 1 := by omega
    have e' : a + 1 + b = a + (b + 1) := by omega
    rw [e, ch_ss, ch_ss, h1]
    rw [e'] at h2
    rw [h2, Nat.add_comm]
theorem ch_sym {n k : Nat} (h : k ≤ n) : ch n (n - k) = ch n k := by
  have := ch_sym' k (n - k)
  rw [show k + (n - k) = n by omega] at this
  exact this.symm
theorem ch_le : ∀ n k, ch n k ≤ 2 ^ n
  | n, 0 => by rw [ch_z]; exact Nat.one_le_two_pow
  | 0, k + 1 => by simp [ch]
  | n + 1, k + 1 => by
    have h1 := ch_le n k
    have h2 := ch_le n (k + 1)
    rw [ch_ss, Nat.pow_succ]; omega
theorem ch_bound {n : Nat} (k : Nat) (h : n ≤ 60) : ch n k ≤ 1152921504606846976 := Nat.le_trans (ch_le n k) (Nat.le_trans (Nat.pow_le_pow_right (by omega) h) (by decide))
/-- One factor more. -/
theorem ch_step (m i : Nat) : (i + 1) * ch (m + i + 1) (i + 1) = ch (m + i) i * (m + i + 1) := by
  rw [ch_absorb, Nat.mul_comm]
theorem step_gcd {o i f c : Nat} (hi : 0 < i) (h : i * c = o * f) : o / Nat.gcd o i * (f / (i / Nat.gcd o i)) = c := by
  have hg : 0 < Nat.gcd o i := Nat.gcd_pos_of_pos_right o hi
  obtain ⟨o', ho⟩ := Nat.gcd_dvd_left o i
  obtain ⟨j, hj⟩ := Nat.gcd_dvd_right o i
  have e1 : o / Nat.gcd o i = o' := by
    have := Nat.mul_div_cancel_left o' hg
    rw [← ho] at this; exact this
  have e2 : i / Nat.gcd o i = j := by
    have := Nat.mul_div_cancel_left j hg
    rw [← hj] at this; exact this
  have hj0 : 0 < j := by
    rcases Nat.eq_zero_or_pos j with h0 | h0
    · rw [h0, Nat.mul_zero] at hj; omega
    · exact h0
  have hc : Nat.Coprime o' j := by
    have := Nat.coprime_div_gcd_div_gcd (m := o) (n := i) hg
    rw [e1, e2] at this; exact this
  rw [e1, e2]
  have h2 : j * c = o' * f := by
    have : Nat.gcd o i * (j * c) = Nat.gcd o i * (o' * f) := by
      rw [← Nat.mul_assoc, ← Nat.mul_assoc, ← ho, ← hj]; exact h
    exact Nat.eq_of_mul_eq_mul_left hg this
  have hd : j ∣ f := (hc.symm).dvd_of_dvd_mul_left (by rw [← h2]; exact ⟨c, rfl⟩)
  obtain ⟨q, hq⟩ := hd
  rw [hq, Nat.mul_div_cancel_left q hj0]
  have : j * c = j * (o' * q) := by rw [h2, hq, Nat.mul_left_comm]
  exact (Nat.eq_of_mul_eq_mul_left hj0 this).symm
/-- Sums. -/
def sm (p : Nat → Nat) : Nat → Nat
  | 0 => 0
  | n + 1 => sm p n + p n
theorem sm_s (p : Nat → Nat) (n : Nat) : sm p (n + 1) = sm p n + p n := rfl
theorem sm_cong {p q : Nat → Nat} : ∀ {n : Nat}, (∀ i, i < n → p i = q i) → sm p n = sm q n
  | 0, _ => rfl
  | n + 1, h => by rw [sm_s, sm_s, sm_cong (fun i hi => h i (by omega)), h n (by omega)]
theorem sm_add (p q : Nat → Nat) : ∀ n, sm (fun i => p i + q i) n = sm p n + sm q n
  | 0 => rfl
  | n + 1 => by rw [sm_s, sm_s, sm_s, sm_add p q n]; omega
theorem sm_first (p : Nat → Nat) : ∀ n, sm p (n + 1) = p 0 + sm (fun i => p (i + 1)) n
  | 0 => by simp [sm]
  | n + 1 => by rw [sm_s, sm_first p n, sm_s]; omega
theorem sm_le {p : Nat → Nat} {m n : Nat} (h : m ≤ n) : sm p m ≤ sm p n := by
  induction h with
  | refl => exact Nat.le_refl _
  | step _ ih => exact Nat.le_trans ih (Nat.le_add_right _ _)
theorem sm_at {p : Nat → Nat} {m n : Nat} (h : m < n) : p m ≤ sm p n := Nat.le_trans (by rw [sm_s]; omega) (sm_le (p := p) (m := m + 1) h)
theorem vander : ∀ (l u s : Nat), sm (fun f => ch l f * ch u (s - f)) (s + 1) = ch (l + u) s
  | 0, u, s => by
    rw [sm_first, ch_z, Nat.one_mul, Nat.sub_zero, Nat.zero_add]
    have : sm (fun i => ch 0 (i + 1) * ch u (s - (i + 1))) s = sm (fun _ => 0) s := sm_cong (fun i _ => by simp [ch])
    rw [this]
    have z : ∀ n, sm (fun _ => 0) n = 0 := fun n => by induction n with
      | zero => rfl
      | succ n ih => rw [sm_s, ih]
    rw [z]; omega
  | l + 1, u, 0 => by simp [sm, ch_z]
  | l + 1, u, s + 1 => by
    have h1 := vander l u (s + 1)
    have h2 := vander l u s
    rw [sm_first, ch_z, Nat.one_mul] at h1 ⊢
    have e : sm (fun i => ch (l + 1) (i + 1) * ch u (s + 1 - (i + 1))) (s + 1) = sm (fun i => ch l i * ch u (s - i) + ch l (i + 1) * ch u (s + 1 - (i + 1))) (s + 1) :=
      sm_cong (fun i _ => by rw [ch_ss, Nat.add_mul, show s + 1 - (i + 1) = s - i by omega])
    rw [e, sm_add, h2, show l + 1 + u = l + u + 1 by omega, ch_ss]
    omega
end Go.Xe.Mth
