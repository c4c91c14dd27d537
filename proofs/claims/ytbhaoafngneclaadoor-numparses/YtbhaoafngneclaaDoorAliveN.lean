/- The fixed calls of layer 6 answer as they must. No conditions. -/
import Derived.Test.YtbhaoafngneclaaDoorN7
namespace Go.Proofs.YtbhaoafngneclaaDoor
set_option linter.unusedVariables false
set_option linter.unusedSimpArgs false
open Go.RowKit
theorem dec_eq {n : Nat} {l : List UInt8} (hn : n < 10 ^ 39) (h : (digsL 38 (n / 10)).dropWhile (· == 48) ++ [dg n] = l) : decN n = l := (trim_last n hn).symm.trans h
theorem l300 : pn [51, 48, 48] 300 = (300, 0) := by decide +kernel
theorem l255 : pn [51, 48, 48] 255 = (0, 11) := by decide +kernel
theorem l007 : pn [48, 48, 55] 255 = (0, 3) := by decide +kernel
theorem l64 : pw [49, 56, 52, 52, 54, 55, 52, 52, 48, 55, 51, 55, 48, 57, 53, 53, 49, 54, 49, 54] = (18446744073709551616, 0) := by decide +kernel
theorem l128 : pw [51, 52, 48, 50, 56, 50, 51, 54, 54, 57, 50, 48, 57, 51, 56, 52, 54, 51, 52, 54, 51, 51, 55, 52, 54, 48, 55, 52, 51, 49, 55, 54, 56, 50, 49, 49, 52, 53, 54] = (0, 11) := by decide +kernel
theorem d120 : decN 120 = [49, 50, 48] := dec_eq (by decide +kernel) (by decide +kernel)
theorem d64 : decN 18446744073709551616 = [49, 56, 52, 52, 54, 55, 52, 52, 48, 55, 51, 55, 48, 57, 53, 53, 49, 54, 49, 54] := dec_eq (by decide +kernel) (by decide +kernel)
set_option maxRecDepth 100000 in
set_option maxHeartbeats 3200000 in
theorem alive6 (w : World) : Calls Tryd.prog 6 #[] w fun e w' => e = .returned (.bool true) ∧ Below w.heap.size w w' := by
  have h1 := fun w => parse_t [51, 48, 48] (by decide) 300 (by decide) (by decide) w
  have h2 := fun w => parse_t [51, 48, 48] (by decide) 255 (by decide) (by decide) w
  have h3 := fun w => parse_t [48, 48, 55] (by decide) 255 (by decide) (by decide) w
  have h4 := fun w => pwide_t [49, 56, 52, 52, 54, 55, 52, 52, 48, 55, 51, 55, 48, 57, 53, 53, 49, 54, 49, 54] (by decide) w
  have h5 := fun w => pwide_t [51, 52, 48, 50, 56, 50, 51, 54, 54, 57, 50, 48, 57, 51, 56, 52, 54, 51, 52, 54, 51, 51, 55, 52, 54, 48, 55, 52, 51, 49, 55, 54, 56, 50, 49, 49, 52, 53, 54] (by decide) w
  have h6 := fun w => nprint_t 120 (by decide) w
  have h7 := fun w => nwide_t 18446744073709551616 (by decide +kernel) w
  rw [l300] at h1
  rw [l255] at h2
  rw [l007] at h3
  rw [l64] at h4
  rw [l128] at h5
  rw [d120] at h6
  rw [d64, show hi ((18446744073709551616 : Nat) : Int) = 1 by decide +kernel, show lo ((18446744073709551616 : Nat) : Int) = 0 by decide +kernel] at h7
  dsimp only at h1 h2 h3 h4 h5
  rw [show hi 18446744073709551616 = 1 by decide +kernel, show lo 18446744073709551616 = 0 by decide +kernel] at h4
  rw [show hi 0 = 0 by decide +kernel, show lo 0 = 0 by decide +kernel] at h5
  have hb : Below w.heap.size w w := Below.refl _ _
  go_enter Tryd.func6, Tryd.ntmps6
  go_wp2_with fail
  refine (h1 _).mono ?_
  rintro e w1 ⟨rfl, hb2⟩
  replace hb := below_step hb hb2
  clear hb2 h1
  go_wp2_with fail
  refine (h2 _).mono ?_
  rintro e w2 ⟨rfl, hb2⟩
  replace hb := below_step hb hb2
  clear hb2 h2
  go_wp2_with fail
  refine (h3 _).mono ?_
  rintro e w3 ⟨rfl, hb2⟩
  replace hb := below_step hb hb2
  clear hb2 h3
  go_wp2_with fail
  refine (h4 _).mono ?_
  rintro e w4 ⟨rfl, hb2⟩
  replace hb := below_step hb hb2
  clear hb2 h4
  have R4 := Row.new w4 #[.int .u64 1, .int .u64 0] 24
  have hb4 : Below w.heap.size w (w4.alloc (.cells #[.int .u64 1, .int .u64 0] 24)) := below_step hb ((Below.refl _ _).alloc (Nat.le_refl _) _)
  have HW := Lib.hid (And.intro R4 hb4)
  clear R4 hb4 hb
  go_wp2_with fail
  obtain ⟨R4, hb⟩ := HW.out
  clear HW
  generalize w4.alloc (.cells #[.int .u64 1, .int .u64 0] 24) = w4b at *
  generalize w4.heap.size = g4 at *
  refine (h5 _).mono ?_
  rintro e w5 ⟨rfl, hb2⟩
  replace R4 := R4.later hb2
  replace hb := below_step hb hb2
  clear hb2 h5
  have c0 := (R4.cell 0).trans (show _ = some (Value.int .u64 1) from rfl)
  have c1 := (R4.cell 1).trans (show _ = some (Value.int .u64 0) from rfl)
  have hlt := R4.lt
  have hne : ¬ g4 = w5.heap.size := by omega
  have hb5 : Below w.heap.size w (w5.alloc (.cells #[.int .u64 0, .int .u64 0] 24)) := below_step hb ((Below.refl _ _).alloc (Nat.le_refl _) _)
  have HW := Lib.hid hb5
  clear hb5 hb R4
  go_wp2_with fail
  have hb := HW.out
  clear HW
  generalize w5.alloc (.cells #[.int .u64 0, .int .u64 0] 24) = w5b at *
  refine (h6 _).mono ?_
  rintro e w6 ⟨rfl, hb2⟩
  replace hb := below_step hb hb2
  clear hb2 h6 c0 c1 hlt hne
  go_wp2_with fail
  refine (h7 _).mono ?_
  rintro e w7 ⟨rfl, hb2⟩
  replace hb := below_step hb hb2
  clear hb2 h7
  go_wp2
  go_ret
  exact ⟨rfl, hb⟩
end Go.Proofs.YtbhaoafngneclaaDoor
