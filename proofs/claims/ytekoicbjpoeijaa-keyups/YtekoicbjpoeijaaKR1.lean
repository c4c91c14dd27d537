/- The reference's Width, Root's parts, Four, Six and Bit of layer 7. No conditions beyond the ranges. -/
import Derived.Test.YtekoicbjpoeijaaK8
namespace Go.Proofs.Ytekoicbjpoeijaa
set_option linter.unusedVariables false
set_option linter.unusedSimpArgs false
open Go.RowKit
theorem rwidth_t (k : Int) (w : World) : Calls Try.prog 21 #[.int .i64 k] w fun e w' => e = .returned (.int .i64 (wid k)) ∧ Below w.heap.size w w' := by
  by_cases h1 : k = 1
  · subst h1
    go_enter Try.func21, Try.ntmps21
    go_wp2
    go_ret
    exact ⟨rfl, bw⟩
  by_cases h2 : k = 2
  · subst h2
    go_enter Try.func21, Try.ntmps21
    go_wp2
    go_ret
    exact ⟨rfl, bw⟩
  by_cases h3 : k = 3
  · subst h3
    go_enter Try.func21, Try.ntmps21
    go_wp2
    go_ret
    exact ⟨rfl, bw⟩
  have e : wid k = 0 := by unfold wid; rw [if_neg h1, if_neg h2, if_neg h3]
  rw [e]
  have b1 : (k == 1) = false := by simpa using h1
  have b2 : (k == 2) = false := by simpa using h2
  have b3 : (k == 3) = false := by simpa using h3
  go_enter Try.func21, Try.ntmps21
  go_wp2
  go_ret
  exact ⟨rfl, bw⟩
theorem four_hi {a : Int} (h0 : 0 ≤ a) (h1 : a < 4294967296) : hi (a * 2 ^ 96) = a * 4294967296 ∧ lo (a * 2 ^ 96) = 0 := by
  have e : (2 : Int) ^ 96 = 79228162514264337593543950336 := by decide
  rw [e]
  unfold hi lo
  constructor
  · rw [show a * 79228162514264337593543950336 = (a * 4294967296) * 18446744073709551616 by omega, Int.mul_ediv_cancel _ (by decide), Int.emod_eq_of_lt (by omega) (by omega)]
  · rw [show a * 79228162514264337593543950336 = (a * 4294967296) * 18446744073709551616 by omega, Int.mul_emod_left]
set_option maxHeartbeats 1000000 in
theorem rfour_t (a : Int) (h0 : 0 ≤ a) (h1 : a < 4294967296) (w : World) : Calls Try.prog 25 #[.int .u32 a] w fun e w' => e = .returned (kv (fourK a)) ∧ Below w.heap.size w w' := by
  obtain ⟨e1, e2⟩ := four_hi h0 h1
  unfold kv fourK
  dsimp only
  rw [e1, e2]
  have wr : IntKind.u64.wrap a = a := by rw [IntKind.wrap_u64]; omega
  have wr2 : IntKind.u64.wrap (a * 4294967296) = a * 4294967296 := by rw [IntKind.wrap_u64]; omega
  clear e1 e2
  go_enter Try.func25, Try.ntmps25
  go_wp2
  refine bodyPost_ret (v := .agg #[.int .i64 1, .int .i64 32, .int .u64 (a * 4294967296), .int .u64 0, .string ⟨#[]⟩]) (by simp [results, Try.results25, go_sem]) rfl ⟨rfl, (by repeat (first | exact Below.refl _ _ | assumption | (with_reducible refine Below.setCell ?_ ?h _; case h => first | omega | (simp; done) | (simp; omega)) | (with_reducible refine Below.alloc ?_ ?h _; case h => first | omega | (simp; done) | (simp; omega)) | (with_reducible refine Below.drew ?_) | (with_reducible refine Below.trans ?_ (hb4.mono ?h); case h => first | omega | (simp; done) | (simp; omega)) | (with_reducible refine Below.trans ?_ (hb3.mono ?h); case h => first | omega | (simp; done) | (simp; omega)) | (with_reducible refine Below.trans ?_ (hb2.mono ?h); case h => first | omega | (simp; done) | (simp; omega)) | (with_reducible refine Below.trans ?_ (hb.mono ?h); case h => first | omega | (simp; done) | (simp; omega)) | (with_reducible refine Below.trans ?_ (hb0.mono ?h); case h => first | omega | (simp; done) | (simp; omega))))⟩
set_option maxHeartbeats 1000000 in
theorem rsix_t (h l : Int) (w : World) : Calls Try.prog 27 #[.int .u64 h, .int .u64 l] w fun e w' => e = .returned (kv (sixK h l)) ∧ Below w.heap.size w w' := by
  unfold kv sixK
  dsimp only
  go_enter Try.func27, Try.ntmps27
  go_wp2
  refine bodyPost_ret (v := .agg #[.int .i64 2, .int .i64 128, .int .u64 h, .int .u64 l, .string ⟨#[]⟩]) (by simp [results, Try.results27, go_sem]) rfl ⟨rfl, (by repeat (first | exact Below.refl _ _ | assumption | (with_reducible refine Below.setCell ?_ ?h _; case h => first | omega | (simp; done) | (simp; omega)) | (with_reducible refine Below.alloc ?_ ?h _; case h => first | omega | (simp; done) | (simp; omega)) | (with_reducible refine Below.drew ?_) | (with_reducible refine Below.trans ?_ (hb4.mono ?h); case h => first | omega | (simp; done) | (simp; omega)) | (with_reducible refine Below.trans ?_ (hb3.mono ?h); case h => first | omega | (simp; done) | (simp; omega)) | (with_reducible refine Below.trans ?_ (hb2.mono ?h); case h => first | omega | (simp; done) | (simp; omega)) | (with_reducible refine Below.trans ?_ (hb.mono ?h); case h => first | omega | (simp; done) | (simp; omega)) | (with_reducible refine Below.trans ?_ (hb0.mono ?h); case h => first | omega | (simp; done) | (simp; omega))))⟩
def bit01 (b : Bool) : Int := if b = true then 1 else 0
theorem bit_hi {h l : Int} (hh : Word h) (hl : Word l) {j : Nat} (hj : j < 64) : h / 2 ^ (63 - j) % 2 = bit01 (bitI (wv h l) j) := by
  rw [bit_def _ j (by omega)]
  have e : wv h l / 2 ^ (127 - j) = h / 2 ^ (63 - j) := by
    unfold wv Word at *
    have e1 : (2 : Int) ^ (127 - j) = 18446744073709551616 * 2 ^ (63 - j) := by
      rw [show (18446744073709551616 : Int) = 2 ^ 64 from rfl, ← Int.pow_add]; congr 1; omega
    rw [e1, ← Int.ediv_ediv_of_nonneg (by decide)]
    congr 1
    omega
  rw [e]
  unfold bit01
  generalize h / 2 ^ (63 - j) = y
  by_cases hy : y % 2 = 1
  · simp [hy]
  · rw [if_neg (by simpa using hy)]; omega
theorem bit_lo {h l : Int} (hh : Word h) (hl : Word l) {j : Nat} (h64 : 64 ≤ j) (hj : j < 128) : l / 2 ^ (127 - j) % 2 = bit01 (bitI (wv h l) j) := by
  rw [bit_def _ j hj]
  have e1 : (18446744073709551616 : Int) = 2 ^ (j - 63) * 2 ^ (127 - j) := by
    rw [show (18446744073709551616 : Int) = 2 ^ 64 from rfl, ← Int.pow_add]; congr 1; omega
  have e : wv h l / 2 ^ (127 - j) = h * 2 ^ (j - 63) + l / 2 ^ (127 - j) := by
    unfold wv
    rw [e1, ← Int.mul_assoc, Int.add_comm, Int.add_mul_ediv_right _ _ (pow2_ne _)]; omega
  have e2 : (2 : Int) ^ (j - 63) = 2 * 2 ^ (j - 64) := by rw [← Int.pow_succ']; congr 1; omega
  rw [e, e2]
  unfold bit01
  generalize l / 2 ^ (127 - j) = y
  generalize (2 : Int) ^ (j - 64) = z
  rw [show h * (2 * z) = 2 * (h * z) by rw [Int.mul_left_comm]]
  generalize h * z = t
  by_cases hy : y % 2 = 1
  · rw [hy, if_pos (by simp; omega)]
  · rw [if_neg (by simp; omega)]; omega
end Go.Proofs.Ytekoicbjpoeijaa
