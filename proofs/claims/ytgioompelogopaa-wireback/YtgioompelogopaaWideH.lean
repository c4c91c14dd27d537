/- The contracts of package wide over numbers: each argument is the pair of words of a number. No conditions. -/
import Derived.Test.YtgioompelogopaaAlive1
namespace Go.Proofs.Ytgioompelogopaa
set_option linter.unusedVariables false
set_option linter.unusedSimpArgs false
open Go.RowKit
theorem hi_addmod (A B : Int) : hi (A % MM + B % MM) = hi (A + B) := hi_congr (by simp)
theorem lo_addmod (A B : Int) : lo (A % MM + B % MM) = lo (A + B) := lo_congr (by simp)
theorem hi_submod (A B : Int) : hi (A % MM - B % MM) = hi (A - B) := hi_congr (by simp [Int.sub_emod])
theorem lo_submod (A B : Int) : lo (A % MM - B % MM) = lo (A - B) := lo_congr (by simp [Int.sub_emod])
theorem add_h (A B : Int) (w : World) :
    Calls Try.prog 12 #[.agg #[.int .u64 (hi A), .int .u64 (lo A)], .agg #[.int .u64 (hi B), .int .u64 (lo B)]] w fun e w' =>
      e = .returned (.tuple #[.agg #[.int .u64 (hi (A + B)), .int .u64 (lo (A + B))], .bool (addB (A % MM) (B % MM))]) ∧ Below w.heap.size w w' := by
  have h := add_any (hi A) (lo A) (hi B) (lo B) (word_hi _) (word_lo _) (word_hi _) (word_lo _) w
  rw [wv_hi_lo, wv_hi_lo, hi_addmod, lo_addmod] at h
  exact h
theorem sub_h (A B : Int) (w : World) :
    Calls Try.prog 15 #[.agg #[.int .u64 (hi A), .int .u64 (lo A)], .agg #[.int .u64 (hi B), .int .u64 (lo B)]] w fun e w' =>
      e = .returned (.tuple #[.agg #[.int .u64 (hi (A - B)), .int .u64 (lo (A - B))], .bool (subB (A % MM) (B % MM))]) ∧ Below w.heap.size w w' := by
  have h := sub_any (hi A) (lo A) (hi B) (lo B) (word_hi _) (word_lo _) (word_hi _) (word_lo _) w
  rw [wv_hi_lo, wv_hi_lo, hi_submod, lo_submod] at h
  exact h
theorem cmp_h (A B : Int) (w : World) :
    Calls Try.prog 18 #[.agg #[.int .u64 (hi A), .int .u64 (lo A)], .agg #[.int .u64 (hi B), .int .u64 (lo B)]] w fun e w' =>
      e = .returned (.int .i64 (cmpI (A % MM) (B % MM))) ∧ Below w.heap.size w w' := by
  have h := cmp_any (hi A) (lo A) (hi B) (lo B) (word_hi _) (word_lo _) (word_hi _) (word_lo _) w
  rw [wv_hi_lo, wv_hi_lo] at h
  exact h
end Go.Proofs.Ytgioompelogopaa
