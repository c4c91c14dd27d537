/- The reference's Bit of layer 7. No conditions beyond the ranges. -/
import Derived.Test.YtekoicbjpoeijaaKR1
namespace Go.Proofs.Ytekoicbjpoeijaa
set_option linter.unusedVariables false
set_option linter.unusedSimpArgs false
open Go.RowKit
theorem word_div_nn {h : Int} (hh : Word h) (n : Nat) : 0 ≤ h / 2 ^ n := Int.ediv_nonneg hh.1 (Int.le_of_lt (Int.pow_pos (by decide)))
set_option maxHeartbeats 1000000 in
theorem rbit_t (h l : Int) (hh : Word h) (hl : Word l) (j : Nat) (hj : j < 128) (w : World) : Calls Try.prog 73 #[.int .u64 h, .int .u64 l, .int .i64 j] w fun e w' => e = .returned (.int .u64 (bit01 (bitI (wv h l) j))) ∧ Below w.heap.size w w' := by
  by_cases h64 : j < 64
  · have H := Lib.hid (bit_hi hh hl h64)
    have nn := word_div_nn hh (63 - j)
    have e1 : ((63 : Int) - (j : Int)).toNat = 63 - j := by omega
    have b1 := hh.1
    have b2 := hh.2
    have e2 : IntKind.u64.wrap (63 - (j : Int)) = 63 - (j : Int) := by rw [IntKind.wrap_u64]; omega
    clear hh hl
    go_enter Try.func73, Try.ntmps73
    go_wp2
    go_ret
    exact ⟨ret_int (by rw [← H.out]), bw⟩
  · have H := Lib.hid (bit_lo hh hl (by omega) hj)
    have nn := word_div_nn hl (127 - j)
    have e1 : ((127 : Int) - (j : Int)).toNat = 127 - j := by omega
    have b1 := hl.1
    have b2 := hl.2
    have e2 : IntKind.u64.wrap (127 - (j : Int)) = 127 - (j : Int) := by rw [IntKind.wrap_u64]; omega
    clear hh hl
    go_enter Try.func73, Try.ntmps73
    go_wp2
    go_ret
    exact ⟨ret_int (by rw [← H.out]), bw⟩
end Go.Proofs.Ytekoicbjpoeijaa
