/- Masks, single bits and common bits of two-word numbers. No conditions. -/
import Derived.Test.YtekoicbjpoeijaaNum2
namespace Go.Proofs.Ytekoicbjpoeijaa
set_option linter.unusedVariables false
set_option linter.unusedSimpArgs false
def maskI (n : Int) : Int := MM - 2 ^ (128 - min n.toNat 128)
def bitI (v i : Int) : Bool := decide (0 ≤ i ∧ i < 128 ∧ v / 2 ^ (127 - i).toNat % 2 = 1)
def sameI (a b : Int) : Nat := ((List.range 128).find? fun i : Nat => bitI a i != bitI b i).getD 128

theorem word_lit (n : Int) (h0 : 0 ≤ n) (h : n < 18446744073709551616) : Word n := ⟨h0, h⟩
theorem mask_mod (n : Int) (h : 1 ≤ n) : (wv 18446744073709551615 18446744073709551615 * 2 ^ (128 - n).toNat) % MM = maskI n % MM := by
  have e : (128 - n).toNat = 128 - min n.toNat 128 := by omega
  unfold maskI; rw [e]
  generalize (2 : Int) ^ (128 - min n.toNat 128) = z
  unfold wv MM; omega
theorem mask_range (n : Int) : 0 ≤ maskI n ∧ maskI n < MM := by
  unfold maskI
  have h1 : (2 : Int) ^ (128 - min n.toNat 128) ≤ 2 ^ 128 := by
    have := Nat.pow_le_pow_right (n := 2) (by decide) (show 128 - min n.toNat 128 ≤ 128 by omega)
    exact_mod_cast this
  have h2 : (0 : Int) < 2 ^ (128 - min n.toNat 128) := Int.pow_pos (by decide)
  rw [show (2 : Int) ^ 128 = MM by rfl] at h1
  generalize (2 : Int) ^ (128 - min n.toNat 128) = z at *; omega
theorem wv_mask (n : Int) : wv (hi (maskI n)) (lo (maskI n)) = maskI n := by
  rw [wv_hi_lo]; exact Int.emod_eq_of_lt (mask_range n).1 (mask_range n).2
theorem mask_zero (n : Int) (h : n < 1) : maskI n = 0 := by
  unfold maskI; rw [show n.toNat = 0 by omega]; rfl
theorem same_of (a b : Int) (k : Nat) (hk : k ≤ 128) (h : ∀ j : Nat, j < k → bitI a j = bitI b j) (hd : k < 128 → bitI a k ≠ bitI b k) : sameI a b = k := by
  unfold sameI
  by_cases c : k < 128
  · have : (List.range 128).find? (fun i : Nat => bitI a i != bitI b i) = some k := by
      rw [List.find?_eq_some_iff_append]
      refine ⟨by simpa using hd c, List.range k, (List.range' (k + 1) (128 - (k + 1))), ?_, ?_⟩
      · rw [List.range_eq_range', List.range_eq_range', ← List.range'_succ, show 128 - (k + 1) + 1 = 128 - k by omega]
        have := List.range'_append (s := 0) (m := k) (n := 128 - k) (step := 1)
        simp only [Nat.zero_add, Nat.one_mul] at this
        rw [this]; congr 1; omega
      · intro j hj; rw [List.mem_range] at hj; simp [h j hj]
    rw [this]; rfl
  · have hk' : k = 128 := by omega
    subst hk'
    have : (List.range 128).find? (fun i : Nat => bitI a i != bitI b i) = none := by
      rw [List.find?_eq_none]; intro j hj; rw [List.mem_range] at hj; simp [h j hj]
    rw [this]; rfl
theorem sameI_spec (a b : Int) : sameI a b ≤ 128 ∧ (∀ j : Nat, j < sameI a b → bitI a j = bitI b j) ∧ (sameI a b < 128 → bitI a (sameI a b : Nat) ≠ bitI b (sameI a b : Nat)) := by
  by_cases h : ∃ k : Nat, k < 128 ∧ bitI a k ≠ bitI b k
  · -- the first such place
    have : ∃ k : Nat, (k < 128 ∧ bitI a k ≠ bitI b k) ∧ ∀ j : Nat, j < k → bitI a j = bitI b j := by
      obtain ⟨k, hk⟩ := h
      induction k using Nat.strongRecOn with
      | _ k ih =>
        by_cases hx : ∃ j : Nat, j < k ∧ bitI a j ≠ bitI b j
        · obtain ⟨j, hj, hd⟩ := hx; exact ih j hj ⟨by omega, hd⟩
        · refine ⟨k, hk, fun j hj => ?_⟩
          exact Decidable.byContradiction fun hn => hx ⟨j, hj, hn⟩
    obtain ⟨k, ⟨hk, hd⟩, hs⟩ := this
    rw [same_of a b k (by omega) hs (fun _ => hd)]
    exact ⟨by omega, hs, fun _ => hd⟩
  · have hs : ∀ j : Nat, j < 128 → bitI a j = bitI b j := fun j hj => Decidable.byContradiction fun hn => h ⟨j, hj, hn⟩
    rw [same_of a b 128 (by omega) hs (fun hh => absurd hh (by omega))]
    exact ⟨by omega, hs, fun hh => absurd hh (by omega)⟩
theorem and_one (x : Int) (h : Word x) : bits .and .u64 x 1 = x % 2 := by
  rw [bits_and_w h (word_lit 1 (by decide) (by decide))]; unfold andI
  rw [show (1 : Int).toNat = 1 by rfl, Nat.and_one_is_mod]
  have := h.1; omega
theorem bit_pure (v i : Int) (h0 : 0 ≤ i) (h1 : i < 128) : (lo (v / 2 ^ (127 - i).toNat) % 2 == 1) = bitI v i := by
  unfold bitI lo; generalize v / 2 ^ (127 - i).toNat = z
  rw [Bool.eq_iff_iff]; simp [h0, h1]
end Go.Proofs.Ytekoicbjpoeijaa
