/- The fixed calls of layer 7. No conditions. -/
import Derived.Test.YtekoicbjpoeijaaK8
namespace Go.Proofs.Ytekoicbjpoeijaa
set_option linter.unusedVariables false
set_option linter.unusedSimpArgs false
open Go.RowKit
def pa : List UInt8 := [110, 101, 116, 46, 100, 99, 49, 46, 97]
def pb : List UInt8 := [110, 101, 116, 46, 100, 99, 49, 46, 98]
def pm : List UInt8 := [110, 101, 116, 46, 100, 99, 49]
theorem ok_small (k : Ke) (h : Word k.h) (l : Word k.l) (a : 0 ≤ k.kind ∧ k.kind ≤ 3) (b : 0 ≤ k.len ∧ k.len ≤ 128) (c : k.path.length ≤ 140737488355328) : k.ok := ⟨h, l, by omega, by omega, by omega, by omega, c⟩
theorem ok_pa : (⟨3, 3, 0, 0, pa⟩ : Ke).ok := ok_small _ (by unfold Word; decide) (by unfold Word; decide) (by decide) (by decide) (by decide)
theorem ok_pb : (⟨3, 3, 0, 0, pb⟩ : Ke).ok := ok_small _ (by unfold Word; decide) (by unfold Word; decide) (by decide) (by decide) (by decide)
theorem ok_pm : (⟨3, 2, 0, 0, pm⟩ : Ke).ok := ok_small _ (by unfold Word; decide) (by unfold Word; decide) (by decide) (by decide) (by decide)
theorem ok_kz : kz.ok := ok_small _ (by unfold Word; decide) (by unfold Word; decide) (by decide) (by decide) (by decide)
theorem al7_cut (w : World) : Calls Try.prog 30 #[kv (fourK 167837953), .int .i64 8] w fun e w' => e = .returned (.agg #[.int .i64 1, .int .i64 8, .int .u64 720575940379279360, .int .u64 0, .string ⟨#[]⟩]) ∧ Below w.heap.size w w' := by
  have h := kcut_t (fourK 167837953) (ok_small _ (word_hi _) (word_lo _) (by unfold fourK; decide) (by unfold fourK; decide) (by unfold fourK; decide)) 8 (by decide) w
  rw [show cutK (fourK 167837953) 8 = ⟨1, 8, 720575940379279360, 0, []⟩ by decide +kernel] at h
  exact h
theorem al7_pa (w : World) : Calls Try.prog 16 #[.string ⟨#[110, 101, 116, 46, 100, 99, 49, 46, 97]⟩] w fun e w' => e = .returned (.tuple #[.agg #[.int .i64 3, .int .i64 3, .int .u64 0, .int .u64 0, .string ⟨pa.toArray⟩], .int .i64 0]) ∧ Below w.heap.size w w' := by
  have h := kpath_t pa (by decide) w
  rw [show pathR pa = ⟨3, 3, 0, 0, pa⟩ by decide +kernel, show pathE pa = 0 by decide +kernel] at h
  exact h
theorem al7_pb (w : World) : Calls Try.prog 16 #[.string ⟨#[110, 101, 116, 46, 100, 99, 49, 46, 98]⟩] w fun e w' => e = .returned (.tuple #[.agg #[.int .i64 3, .int .i64 3, .int .u64 0, .int .u64 0, .string ⟨pb.toArray⟩], .int .i64 0]) ∧ Below w.heap.size w w' := by
  have h := kpath_t pb (by decide) w
  rw [show pathR pb = ⟨3, 3, 0, 0, pb⟩ by decide +kernel, show pathE pb = 0 by decide +kernel] at h
  exact h
theorem al7_pz (w : World) : Calls Try.prog 16 #[.string ⟨#[110, 101, 116, 46, 46, 97]⟩] w fun e w' => e = .returned (.tuple #[.agg #[.int .i64 0, .int .i64 0, .int .u64 0, .int .u64 0, .string ⟨#[]⟩], .int .i64 3]) ∧ Below w.heap.size w w' := by
  have h := kpath_t [110, 101, 116, 46, 46, 97] (by decide) w
  rw [show pathR [110, 101, 116, 46, 46, 97] = kz by decide +kernel, show pathE [110, 101, 116, 46, 46, 97] = 3 by decide +kernel] at h
  exact h
theorem al7_meet (w : World) : Calls Try.prog 28 #[.agg #[.int .i64 3, .int .i64 3, .int .u64 0, .int .u64 0, .string ⟨pa.toArray⟩], .agg #[.int .i64 3, .int .i64 3, .int .u64 0, .int .u64 0, .string ⟨pb.toArray⟩]] w fun e w' => e = .returned (.tuple #[.agg #[.int .i64 3, .int .i64 2, .int .u64 0, .int .u64 0, .string ⟨pm.toArray⟩], .bool true]) ∧ Below w.heap.size w w' := by
  have h := kmeet_t ⟨3, 3, 0, 0, pa⟩ ⟨3, 3, 0, 0, pb⟩ ok_pa ok_pb w
  rw [show meetK ⟨3, 3, 0, 0, pa⟩ ⟨3, 3, 0, 0, pb⟩ = ⟨3, 2, 0, 0, pm⟩ by decide +kernel, show meetB ⟨3, 3, 0, 0, pa⟩ ⟨3, 3, 0, 0, pb⟩ = true by decide +kernel] at h
  exact h
theorem al7_over1 (w : World) : Calls Try.prog 32 #[.agg #[.int .i64 3, .int .i64 2, .int .u64 0, .int .u64 0, .string ⟨pm.toArray⟩], .agg #[.int .i64 3, .int .i64 3, .int .u64 0, .int .u64 0, .string ⟨pa.toArray⟩]] w fun e w' => e = .returned (.bool true) ∧ Below w.heap.size w w' := by
  have h := kover_t ⟨3, 2, 0, 0, pm⟩ ⟨3, 3, 0, 0, pa⟩ ok_pm ok_pa w
  rw [show overK ⟨3, 2, 0, 0, pm⟩ ⟨3, 3, 0, 0, pa⟩ = true by decide +kernel] at h
  exact h
theorem al7_over2 (w : World) : Calls Try.prog 32 #[.agg #[.int .i64 3, .int .i64 3, .int .u64 0, .int .u64 0, .string ⟨pa.toArray⟩], .agg #[.int .i64 3, .int .i64 2, .int .u64 0, .int .u64 0, .string ⟨pm.toArray⟩]] w fun e w' => e = .returned (.bool false) ∧ Below w.heap.size w w' := by
  have h := kover_t ⟨3, 3, 0, 0, pa⟩ ⟨3, 2, 0, 0, pm⟩ ok_pa ok_pm w
  rw [show overK ⟨3, 3, 0, 0, pa⟩ ⟨3, 2, 0, 0, pm⟩ = false by decide +kernel] at h
  exact h
theorem al7_right1 (w : World) : Calls Try.prog 19 #[.agg #[.int .i64 3, .int .i64 3, .int .u64 0, .int .u64 0, .string ⟨pa.toArray⟩]] w fun e w' => e = .returned (.bool true) ∧ Below w.heap.size w w' := by
  have h := kright_t ⟨3, 3, 0, 0, pa⟩ ok_pa w
  rw [show rightK ⟨3, 3, 0, 0, pa⟩ = true by decide +kernel] at h
  exact h
theorem al7_right2 (w : World) : Calls Try.prog 19 #[.agg #[.int .i64 0, .int .i64 0, .int .u64 0, .int .u64 0, .string ⟨#[]⟩]] w fun e w' => e = .returned (.bool false) ∧ Below w.heap.size w w' := by
  have h := kright_t kz ok_kz w
  rw [show rightK kz = false by decide +kernel] at h
  exact h
theorem al7_cmp (w : World) : Calls Try.prog 36 #[.agg #[.int .i64 3, .int .i64 2, .int .u64 0, .int .u64 0, .string ⟨pm.toArray⟩], .agg #[.int .i64 3, .int .i64 3, .int .u64 0, .int .u64 0, .string ⟨pa.toArray⟩]] w fun e w' => e = .returned (.int .i64 (-1)) ∧ Below w.heap.size w w' := by
  have h := kcmp_t ⟨3, 2, 0, 0, pm⟩ ⟨3, 3, 0, 0, pa⟩ ok_pm ok_pa w
  rw [show cmpK ⟨3, 2, 0, 0, pm⟩ ⟨3, 3, 0, 0, pa⟩ = -1 by decide +kernel] at h
  exact h
theorem al7_six (w : World) : Calls Try.prog 26 #[.agg #[.int .u64 0, .int .u64 1]] w fun e w' => e = .returned (.agg #[.int .i64 2, .int .i64 128, .int .u64 0, .int .u64 1, .string ⟨#[]⟩]) ∧ Below w.heap.size w w' := ksix_t 0 1 w
theorem al7_root (w : World) : Calls Try.prog 22 #[.int .i64 3] w fun e w' => e = .returned (.agg #[.int .i64 3, .int .i64 0, .int .u64 0, .int .u64 0, .string ⟨#[]⟩]) ∧ Below w.heap.size w w' := kroot_t 3 w
theorem kfield3 (a b c d e : Value) (w : World) : (Instr.field 24 (.agg #[a, b, c, d, e]) 3).run Try.prog w = .ok d w := by kernel_rfl
theorem kfield0 (a b c d e : Value) (w : World) : (Instr.field 24 (.agg #[a, b, c, d, e]) 0).run Try.prog w = .ok a w := by kernel_rfl
end Go.Proofs.Ytekoicbjpoeijaa