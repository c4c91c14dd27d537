/- The library's variables for six; TrailingZeros of 16. No conditions beyond ranges. -/
import Derived.Test.YtkenkjdelhmaoaaDoorSix3
import Derived.Test.YtkenkjdelhmaoaaDoorEnvOf
namespace Go.Proofs.YtkenkjdelhmaoaaDoor
set_option linter.unusedVariables false
set_option linter.unusedSimpArgs false
open Go.RowKit
/-- what the library's own variables hold, with the table of TrailingZeros -/
structure Env6 (w : World) : Prop where
  e : Env w
  z : w.cell? ⟨5, 15, none⟩ = some (.int .u8 4)
theorem Env6.later {w w1 : World} (h : Env6 w) (hb : Below w.heap.size w w1) : Env6 w1 := ⟨h.e.later hb, cell_later hb h.z⟩
def tab64 : List Int := match (Rows.laid_math_bits_deBruijn64tab : DataW Unit) with
  | .agg l => l.map fun | .lit (.int _ n) => n | _ => 0
  | _ => []
theorem gDT : Tryd.prog.globalNamed "math/bits.deBruijn64tab" = some 5 := by kernel_rfl
theorem tDT : (Tryd.prog.globals[5]?).map (·.type) = some 130 := by kernel_rfl
theorem cellsDT : Tryd.prog.cellsOf 130 = 64 := by kernel_rfl
theorem cellsU8 : Tryd.prog.cellsOf 5 = 1 := by kernel_rfl
theorem dtData : (Rows.laid_math_bits_deBruijn64tab : DataW Unit) = Lib.tabData .u8 tab64 := by kernel_rfl
theorem env6_of {W : World} (hL : laidMetH Tryd.prog laid5 W) (hsh : W.ShapedOpen Tryd.prog) : Env6 W := by
  refine ⟨env_of hL hsh, ?_⟩
  have h0 : laidMet Tryd.prog laid5 W := hL
  have h1 := laid_tail h0
  rw [dtData] at h1
  have ht := Lib.tabIs_of_head gDT tDT Tryd.underlying130 Tryd.underlying5 cellsU8 cellsDT h1
  exact ht.cell gDT 15 (by decide +kernel)
set_option maxHeartbeats 800000 in
theorem tz64_t (w : World) (h : Env6 w) : Calls Tryd.prog 89 #[.int .u64 16] w fun e w' => e = .returned (.int .i64 4) ∧ w = w' := by
  have z := h.z
  have e1 : IntKind.u64.wrap (-16) = 18446744073709551600 := by decide
  have e2 : bits .and .u64 16 18446744073709551600 = 16 := by decide +kernel
  have e3 : IntKind.u64.wrap (16 * 285870213051353865) = 4573923408821661840 := by decide
  have e4 : IntKind.u64.wrap 4573923408821661840 = 4573923408821661840 := by decide
  go_enter Tryd.func89, Tryd.ntmps89
  go_wp2
  go_ret
  exact ⟨rfl, rfl⟩
set_option maxHeartbeats 800000 in
theorem tz_t (w : World) (h : Env6 w) : Calls Tryd.prog 85 #[.int .u64 16] w fun e w' => e = .returned (.int .i64 4) ∧ w = w' := by
  go_enter Tryd.func85, Tryd.ntmps85
  go_wp2_with fail
  refine (tz64_t w h).mono ?_
  rintro r w1 ⟨rfl, rfl⟩
  go_wp2
  go_ret
  exact ⟨rfl, rfl⟩
set_option maxHeartbeats 800000 in
theorem pow2_t (w : World) : Calls Tryd.prog 84 #[.int .i64 16] w fun e w' => e = .returned (.bool true) ∧ w = w' := by
  go_enter Tryd.func84, Tryd.ntmps84
  go_wp2
  all_goals go_ret
  all_goals exact ⟨rfl, rfl⟩
end Go.Proofs.YtkenkjdelhmaoaaDoor
