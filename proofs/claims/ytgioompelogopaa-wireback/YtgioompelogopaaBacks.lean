/- What was written reads back: the lists. No conditions beyond ranges. -/
import Derived.Test.YtgioompelogopaaParts
namespace Go.Proofs.Ytgioompelogopaa
set_option linter.unusedVariables false
set_option linter.unusedSimpArgs false
open Go.RowKit
theorem numB_cons (n : Int) (k : Nat) : numB n (k + 1) = numB (n / 256) k ++ [n % 256] := by
  apply List.ext_getElem?
  intro m
  by_cases hm : m < k
  · rw [numB_get n (k + 1) m (by omega), List.getElem?_append_left (by rw [numB_length]; exact hm), numB_get (n / 256) k m hm]
    rw [show k + 1 - 1 - m = (k - 1 - m) + 1 by omega, Int.pow_succ, Int.mul_comm, Int.ediv_ediv_of_nonneg (by decide)]
  · by_cases hm2 : m = k
    · subst hm2
      rw [numB_get n (m + 1) m (by omega), List.getElem?_append_right (by rw [numB_length]; exact Nat.le_refl _), numB_length]
      simp
    · rw [List.getElem?_eq_none (by rw [numB_length]; omega), List.getElem?_eq_none (by rw [List.length_append, numB_length]; simp; omega)]
theorem mod_cut (n q : Int) (hp : 0 < q) : n % (q * 256) = 256 * (n / 256 % q) + n % 256 := by
  have h1 := Int.emod_add_mul_ediv n 256
  have h2 := Int.emod_add_mul_ediv (n / 256) q
  have h3 := Int.emod_nonneg n (b := 256) (by decide)
  have h4 := Int.emod_lt_of_pos n (b := 256) (by decide)
  have h5 := Int.emod_nonneg (n / 256) (b := q) (by omega)
  have h6 := Int.emod_lt_of_pos (n / 256) hp
  generalize n / 256 % q = a at *
  generalize n / 256 / q = d at *
  generalize n % 256 = b at *
  have e : n = (256 * a + b) + (q * 256) * d := by
    rw [show q * 256 * d = 256 * (q * d) by rw [Int.mul_comm q 256, Int.mul_assoc]]
    omega
  rw [e, Int.add_mul_emod_self_left, Int.emod_eq_of_lt (by omega) (by omega)]
theorem valB_numB : ∀ (k : Nat) (n : Int), valB (numB n k) = n % 256 ^ k
  | 0, n => by simp [numB, valB]
  | k + 1, n => by
    rw [numB_cons, valB_snoc, valB_numB k (n / 256), Int.pow_succ, mod_cut n _ (Int.pow_pos (by decide))]
theorem numB_mod : ∀ (k : Nat) (n : Int), numB (n % 256 ^ k) k = numB n k
  | 0, n => rfl
  | k + 1, n => by
    rw [numB_cons, numB_cons n k]
    have hp : (0 : Int) < 256 ^ k := Int.pow_pos (by decide)
    have e1 : n % 256 ^ (k + 1) % 256 = n % 256 := by
      rw [Int.pow_succ]; exact Int.emod_emod_of_dvd n (Int.dvd_mul_left _ _)
    have e2 : n % 256 ^ (k + 1) / 256 = n / 256 % 256 ^ k := by
      rw [Int.pow_succ, mod_cut n _ hp]
      omega
    rw [e1, e2, numB_mod k (n / 256)]
end Go.Proofs.Ytgioompelogopaa
