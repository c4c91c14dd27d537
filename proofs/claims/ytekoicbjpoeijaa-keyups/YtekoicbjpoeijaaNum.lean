/- Plain arithmetic of 128-bit numbers in two words, for the walks. No conditions. -/
import Derived.WalkKit
namespace Go.Proofs.Ytekoicbjpoeijaa
set_option linter.unusedVariables false
set_option linter.unusedSimpArgs false

/-- 2^64. -/
def M : Int := 18446744073709551616
/-- 2^128. -/
def MM : Int := 340282366920938463463374607431768211456
/-- the high word of a number modulo 2^128 -/
def hi (n : Int) : Int := n / 18446744073709551616 % 18446744073709551616
/-- the low word -/
def lo (n : Int) : Int := n % 18446744073709551616
/-- the number of two words -/
def wv (h l : Int) : Int := h * 18446744073709551616 + l
def Word (x : Int) : Prop := 0 ≤ x ∧ x < 18446744073709551616

theorem word_hi (n : Int) : Word (hi n) := by unfold Word hi; omega
theorem word_lo (n : Int) : Word (lo n) := by unfold Word lo; omega
theorem hi_nonneg (n : Int) : 0 ≤ hi n := by unfold hi; omega
theorem lo_nonneg (n : Int) : 0 ≤ lo n := by unfold lo; omega
theorem hi_le (n : Int) : hi n ≤ 18446744073709551615 := by unfold hi; omega
theorem lo_le (n : Int) : lo n ≤ 18446744073709551615 := by unfold lo; omega
theorem hi_wv {h l : Int} (hh : Word h) (hl : Word l) : hi (wv h l) = h := by unfold Word at *; unfold hi wv; omega
theorem lo_wv {h l : Int} (hl : Word l) : lo (wv h l) = l := by unfold Word at *; unfold lo wv; omega
theorem wv_hi_lo (n : Int) : wv (hi n) (lo n) = n % MM := by unfold wv hi lo MM; omega
theorem hi_mod (n : Int) : hi (n % MM) = hi n := by unfold hi MM; omega
theorem lo_mod (n : Int) : lo (n % MM) = lo n := by unfold lo MM; omega
theorem hilo_inj {a b : Int} (h : hi a = hi b) (l : lo a = lo b) : a % MM = b % MM := by rw [← wv_hi_lo, ← wv_hi_lo, h, l]
theorem hi_congr {a b : Int} (h : a % MM = b % MM) : hi a = hi b := by rw [← hi_mod a, h, hi_mod]
theorem lo_congr {a b : Int} (h : a % MM = b % MM) : lo a = lo b := by rw [← lo_mod a, h, lo_mod]

/-- -1, 0 or 1, as a is below, equal to or above b -/
def cmpI (a b : Int) : Int := if a < b then -1 else if a = b then 0 else 1
theorem cmpI_range (a b : Int) : -1 ≤ cmpI a b ∧ cmpI a b ≤ 1 := by unfold cmpI; split <;> (try split) <;> omega
theorem cmpI_neg (a b : Int) : decide (cmpI a b < 0) = decide (a < b) := by unfold cmpI; split <;> (try split) <;> simp_all
end Go.Proofs.Ytekoicbjpoeijaa
