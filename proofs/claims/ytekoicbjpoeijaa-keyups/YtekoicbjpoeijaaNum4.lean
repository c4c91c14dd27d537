/- Top, Same and shifts there and back, over the naturals and the whole numbers. No conditions. -/
import Derived.Test.YtekoicbjpoeijaaNum3
namespace Go.Proofs.Ytekoicbjpoeijaa
set_option linter.unusedVariables false
set_option linter.unusedSimpArgs false

theorem mask_nat (n : Int) : (maskI n).toNat = 2 ^ 128 - (2 ^ (128 - min n.toNat 128) - 1 + 1) := by
  have h := Nat.two_pow_pos (128 - min n.toNat 128)
  have e : maskI n = ((2 ^ 128 - 2 ^ (128 - min n.toNat 128) : Nat) : Int) := by
    unfold maskI MM
    have h1 : 2 ^ (128 - min n.toNat 128) ≤ 2 ^ 128 := Nat.pow_le_pow_right (by decide) (by omega)
    rw [Int.ofNat_sub h1]; simp
  rw [e, Int.toNat_natCast, Nat.sub_add_cancel h]
theorem top_nat (a j : Nat) (ha : a < 2 ^ 128) (hj : j ≤ 128) : a &&& (2 ^ 128 - (2 ^ j - 1 + 1)) = a / 2 ^ j * 2 ^ j := by
  apply Nat.eq_of_testBit_eq
  intro i
  have h1 : 2 ^ j - 1 < 2 ^ 128 := by
    have := Nat.two_pow_pos j
    have : 2 ^ j ≤ 2 ^ 128 := Nat.pow_le_pow_right (by decide) hj
    omega
  rw [Nat.testBit_and, Nat.testBit_two_pow_sub_succ h1, Nat.testBit_two_pow_sub_one, Nat.testBit_mul_two_pow, Nat.testBit_div_two_pow]
  by_cases hi : i < j
  · have : ¬ j ≤ i := by omega
    simp [hi, this]
  · have hji : j ≤ i := by omega
    by_cases h128 : i < 128
    · simp [hi, hji, h128]
    · have : a.testBit i = false := Nat.testBit_lt_two_pow (Nat.lt_of_lt_of_le ha (Nat.pow_le_pow_right (by decide) (by omega)))
      simp [hi, hji, h128, this]
/-- Top cuts the low bits away. -/
theorem topI (a n : Int) (h0 : 0 ≤ a) (h1 : a < MM) : andI a (maskI n) = a / 2 ^ (128 - min n.toNat 128) * 2 ^ (128 - min n.toNat 128) := by
  obtain ⟨k, rfl⟩ := Int.eq_ofNat_of_zero_le h0
  unfold andI
  rw [mask_nat, Int.toNat_natCast, top_nat k _ (by unfold MM at h1; omega) (by omega)]
  simp
theorem div_step (a : Int) (k : Nat) (hk : k < 128) : a / 2 ^ (127 - k) = 2 * (a / 2 ^ (128 - k)) + a / 2 ^ (127 - k) % 2 := by
  have e : (2 : Int) ^ (128 - k) = 2 ^ (127 - k) * 2 := by rw [← Int.pow_succ]; congr 1; omega
  rw [e, ← Int.ediv_ediv_of_nonneg (Int.pow_nonneg (by decide))]
  generalize a / 2 ^ (127 - k) = z
  omega
theorem bit_def (a : Int) (k : Nat) (hk : k < 128) : bitI a k = decide (a / 2 ^ (127 - k) % 2 = 1) := by
  unfold bitI
  rw [show (127 - (k : Int)).toNat = 127 - k by omega]
  have : (k : Int) < 128 := by omega
  simp [this]
theorem div_same (a b : Int) (k : Nat) (hk : k ≤ 128) (h0 : a / 2 ^ 128 = b / 2 ^ 128) (h : ∀ j : Nat, j < k → bitI a j = bitI b j) : a / 2 ^ (128 - k) = b / 2 ^ (128 - k) := by
  induction k with
  | zero => exact h0
  | succ k ih =>
    have i := ih (by omega) (fun j hj => h j (by omega))
    have hb := h k (by omega)
    rw [bit_def a k (by omega), bit_def b k (by omega), decide_eq_decide] at hb
    rw [show 128 - (k + 1) = 127 - k by omega, div_step a k (by omega), div_step b k (by omega), i]
    generalize a / 2 ^ (127 - k) = x at *; generalize b / 2 ^ (127 - k) = y at *
    omega
theorem big_div (a : Int) (h0 : 0 ≤ a) (h1 : a < MM) : a / 2 ^ 128 = 0 := Int.ediv_eq_zero_of_lt h0 h1
theorem top_same (a b : Int) (a0 : 0 ≤ a) (a1 : a < MM) (b0 : 0 ≤ b) (b1 : b < MM) : andI a (maskI (sameI a b)) = andI b (maskI (sameI a b)) := by
  obtain ⟨s1, s2, s3⟩ := sameI_spec a b
  rw [topI a _ a0 a1, topI b _ b0 b1, Int.toNat_natCast, show min (sameI a b) 128 = sameI a b by omega]
  rw [div_same a b _ s1 (by rw [big_div a a0 a1, big_div b b0 b1]) s2]
theorem same_all (a b : Int) (a0 : 0 ≤ a) (a1 : a < MM) (b0 : 0 ≤ b) (b1 : b < MM) (h : ¬ sameI a b < 128) : a = b := by
  obtain ⟨s1, s2, s3⟩ := sameI_spec a b
  have := div_same a b (sameI a b) s1 (by rw [big_div a a0 a1, big_div b b0 b1]) s2
  rw [show 128 - sameI a b = 0 by omega] at this
  simpa using this
theorem same_self (a : Int) : sameI a a = 128 := same_of a a 128 (by omega) (fun _ _ => rfl) (fun h => absurd h (by omega))
theorem top_other (a b : Int) (a0 : 0 ≤ a) (a1 : a < MM) (b0 : 0 ≤ b) (b1 : b < MM) (h : sameI a b < 128) : andI a (maskI ((sameI a b : Int) + 1)) ≠ andI b (maskI ((sameI a b : Int) + 1)) := by
  obtain ⟨s1, s2, s3⟩ := sameI_spec a b
  have hd := s3 h
  generalize sameI a b = k at *
  rw [topI a _ a0 a1, topI b _ b0 b1, show ((k : Int) + 1).toNat = k + 1 by omega, show 128 - min (k + 1) 128 = 127 - k by omega]
  intro he
  have hp : (2 : Int) ^ (127 - k) ≠ 0 := Int.ne_of_gt (Int.pow_pos (by decide))
  have := Int.eq_of_mul_eq_mul_right hp he
  rw [bit_def a k h, bit_def b k h, this] at hd
  exact hd rfl
theorem andI_range (a b : Int) (a0 : 0 ≤ a) (a1 : a < MM) : 0 ≤ andI a b ∧ andI a b < MM := by
  unfold andI
  have : a.toNat &&& b.toNat ≤ a.toNat := Nat.and_le_left
  omega
theorem hilo_ne {a b : Int} (a0 : 0 ≤ a) (a1 : a < MM) (b0 : 0 ≤ b) (b1 : b < MM) (h : a ≠ b) : ¬ (hi a = hi b ∧ lo a = lo b) := fun ⟨h1, h2⟩ => h (by
  have := hilo_inj h1 h2
  rwa [Int.emod_eq_of_lt a0 a1, Int.emod_eq_of_lt b0 b1] at this)
/-- there and back -/
theorem back_top (a n : Int) (a0 : 0 ≤ a) (a1 : a < MM) (n0 : 0 ≤ n) (n1 : n ≤ 128) : a / 2 ^ (128 - n).toNat * 2 ^ (128 - n).toNat = andI a (maskI n) := by
  rw [topI a n a0 a1, show (128 - n).toNat = 128 - min n.toNat 128 by omega]
theorem or_back (a n : Int) (a0 : 0 ≤ a) (a1 : a < MM) (n0 : 0 ≤ n) (n1 : n ≤ 128) : orI (andI a (maskI n)) (a * 2 ^ n.toNat % MM / 2 ^ n.toNat) = a := by
  rw [topI a n a0 a1]
  obtain ⟨k, rfl⟩ := Int.eq_ofNat_of_zero_le a0
  obtain ⟨m, rfl⟩ := Int.eq_ofNat_of_zero_le n0
  rw [Int.toNat_natCast, show min m 128 = m by omega]
  have hm : m ≤ 128 := by omega
  have hp : 2 ^ m * 2 ^ (128 - m) = 2 ^ 128 := by rw [← Nat.pow_add]; congr 1; omega
  have e1 : (k : Int) * 2 ^ m % MM / 2 ^ m = ((k % 2 ^ (128 - m) : Nat) : Int) := by
    have : (k : Int) * 2 ^ m % MM / 2 ^ m = ((k * 2 ^ m % 2 ^ 128 / 2 ^ m : Nat) : Int) := by unfold MM; simp
    rw [this, ← hp, Nat.mul_comm k, Nat.mul_mod_mul_left, Nat.mul_div_cancel_left _ (Nat.two_pow_pos _)]
  have e2 : (k : Int) / 2 ^ (128 - m) * 2 ^ (128 - m) = ((2 ^ (128 - m) * (k / 2 ^ (128 - m)) : Nat) : Int) := by simp [Int.mul_comm]
  unfold orI
  rw [e1, e2, Int.toNat_natCast, Int.toNat_natCast, ← Nat.two_pow_add_eq_or_of_lt (Nat.mod_lt _ (Nat.two_pow_pos _)), Nat.div_add_mod]
end Go.Proofs.Ytekoicbjpoeijaa
