/- More contracts of package wide over numbers. No conditions. -/
import Derived.Test.YtgioompelogopaaWideH
import Derived.Test.YtgioompelogopaaNum4
namespace Go.Proofs.Ytgioompelogopaa
set_option linter.unusedVariables false
set_option linter.unusedSimpArgs false
open Go.RowKit
theorem hi_mulmod (A k : Int) : hi (A % MM * k) = hi (A * k) := hi_congr (by rw [Int.mul_emod, Int.emod_emod, ← Int.mul_emod])
theorem lo_mulmod (A k : Int) : lo (A % MM * k) = lo (A * k) := lo_congr (by rw [Int.mul_emod, Int.emod_emod, ← Int.mul_emod])
theorem left_h (A n : Int) (w : World) :
    Calls Try.prog 23 #[.agg #[.int .u64 (hi A), .int .u64 (lo A)], .int .i64 n] w fun e w' =>
      e = .returned (.agg #[.int .u64 (hi (A * 2 ^ n.toNat)), .int .u64 (lo (A * 2 ^ n.toNat))]) ∧ Below w.heap.size w w' := by
  have h := left_any (hi A) (lo A) n (word_hi _) (word_lo _) w
  rw [wv_hi_lo, hi_mulmod, lo_mulmod] at h
  exact h
theorem right_h (A n : Int) (w : World) :
    Calls Try.prog 25 #[.agg #[.int .u64 (hi A), .int .u64 (lo A)], .int .i64 n] w fun e w' =>
      e = .returned (.agg #[.int .u64 (hi (A % MM / 2 ^ n.toNat)), .int .u64 (lo (A % MM / 2 ^ n.toNat))]) ∧ Below w.heap.size w w' := by
  have h := right_any (hi A) (lo A) n (word_hi _) (word_lo _) w
  rw [wv_hi_lo] at h
  exact h
theorem top_h (A n : Int) (hn : n ≤ 9223372036854775807) (w : World) :
    Calls Try.prog 32 #[.agg #[.int .u64 (hi A), .int .u64 (lo A)], .int .i64 n] w fun e w' =>
      e = .returned (.agg #[.int .u64 (hi (andI (A % MM) (maskI n))), .int .u64 (lo (andI (A % MM) (maskI n)))]) ∧ Below w.heap.size w w' := by
  have h := top_any (hi A) (lo A) n (word_hi _) (word_lo _) hn w
  rw [wv_hi_lo] at h
  exact h
theorem and_h (A B : Int) (w : World) :
    Calls Try.prog 27 #[.agg #[.int .u64 (hi A), .int .u64 (lo A)], .agg #[.int .u64 (hi B), .int .u64 (lo B)]] w fun e w' =>
      e = .returned (.agg #[.int .u64 (hi (andI (A % MM) (B % MM))), .int .u64 (lo (andI (A % MM) (B % MM)))]) ∧ Below w.heap.size w w' := by
  have h := and_any (hi A) (lo A) (hi B) (lo B) (word_hi _) (word_lo _) (word_hi _) (word_lo _) w
  rw [wv_hi_lo, wv_hi_lo] at h
  exact h
theorem or_h (A B : Int) (w : World) :
    Calls Try.prog 29 #[.agg #[.int .u64 (hi A), .int .u64 (lo A)], .agg #[.int .u64 (hi B), .int .u64 (lo B)]] w fun e w' =>
      e = .returned (.agg #[.int .u64 (hi (orI (A % MM) (B % MM))), .int .u64 (lo (orI (A % MM) (B % MM)))]) ∧ Below w.heap.size w w' := by
  have h := or_any (hi A) (lo A) (hi B) (lo B) (word_hi _) (word_lo _) (word_hi _) (word_lo _) w
  rw [wv_hi_lo, wv_hi_lo] at h
  exact h
theorem same_h (A B : Int) (w : World) :
    Calls Try.prog 35 #[.agg #[.int .u64 (hi A), .int .u64 (lo A)], .agg #[.int .u64 (hi B), .int .u64 (lo B)]] w fun e w' =>
      e = .returned (.int .i64 (sameI (A % MM) (B % MM))) ∧ Below w.heap.size w w' := by
  have h := same_any (hi A) (lo A) (hi B) (lo B) (word_hi _) (word_lo _) (word_hi _) (word_lo _) w
  rw [wv_hi_lo, wv_hi_lo] at h
  exact h
theorem bit_h (A i : Int) (w : World) :
    Calls Try.prog 33 #[.agg #[.int .u64 (hi A), .int .u64 (lo A)], .int .i64 i] w fun e w' =>
      e = .returned (.bool (bitI (A % MM) i)) ∧ Below w.heap.size w w' := by
  have h := bit_any (hi A) (lo A) i (word_hi _) (word_lo _) w
  rw [wv_hi_lo] at h
  exact h
theorem i64_small (x : Int) (h0 : 0 ≤ x) (h1 : x ≤ 9223372036854775807) : IntKind.i64.wrap x = x := by rw [IntKind.wrap_i64]; omega
theorem eql_wide (x0 x1 y0 y1 : Int) (w : World) : (binOp .eql 24 (.agg #[.int .u64 x0, .int .u64 x1]) (.agg #[.int .u64 y0, .int .u64 y1])).run Try.prog w = .ok (.bool (decide (x0 = y0 ∧ x1 = y1))) w := by
  by_cases h0 : x0 = y0 <;> by_cases h1 : x1 = y1 <;> simp [go_sem, h0, h1]
end Go.Proofs.Ytgioompelogopaa
