/- The fixed calls of layer 8. No conditions. -/
import Derived.Test.YtekoicbjpoeijaaD6
import Derived.Test.YtekoicbjpoeijaaK9
namespace Go.Proofs.Ytekoicbjpoeijaa
set_option linter.unusedVariables false
set_option linter.unusedSimpArgs false
open Go.RowKit
def d1 : Dm := ⟨1, 1, 12⟩
def d2 : Dm := ⟨3, 2, 3⟩
def kabc : Ke := ⟨3, 3, 0, 0, [97, 46, 98, 46, 99]⟩
theorem kabc_ok : kabc.ok := ok_small _ (by unfold Word; decide) (by unfold Word; decide) (by decide) (by decide) (by decide)
theorem al8_path (w : World) : Calls Try.prog 16 #[.string ⟨#[97, 46, 98, 46, 99]⟩] w fun e w' => e = .returned (.tuple #[.agg #[.int .i64 3, .int .i64 3, .int .u64 0, .int .u64 0, .string ⟨#[97, 46, 98, 46, 99]⟩], .int .i64 0]) ∧ Below w.heap.size w w' := by
  have h := kpath_t [97, 46, 98, 46, 99] (by decide) w
  rw [show pathR [97, 46, 98, 46, 99] = kabc by decide +kernel, show pathE [97, 46, 98, 46, 99] = 0 by decide +kernel] at h
  exact h
theorem al8_r1 (w : World) : Calls Try.prog 39 #[.agg #[.int .i64 1, .int .i64 1, .int .i64 12]] w fun e w' => e = .returned (.bool true) ∧ Below w.heap.size w w' := by
  have h := dright_t d1 w
  rw [show rightD d1 = true by decide +kernel] at h; exact h
theorem al8_r2 (w : World) : Calls Try.prog 39 #[.agg #[.int .i64 1, .int .i64 3, .int .i64 1]] w fun e w' => e = .returned (.bool false) ∧ Below w.heap.size w w' := by
  have h := dright_t ⟨1, 3, 1⟩ w
  rw [show rightD ⟨1, 3, 1⟩ = false by decide +kernel] at h; exact h
theorem al8_depth (w : World) : Calls Try.prog 41 #[.agg #[.int .i64 1, .int .i64 1, .int .i64 12]] w fun e w' => e = .returned (.int .i64 3) ∧ Below w.heap.size w w' := by
  have h := ddepth_t d1 w
  rw [show depthD d1 = 3 by decide +kernel] at h; exact h
theorem al8_len (w : World) : Calls Try.prog 43 #[.agg #[.int .i64 1, .int .i64 1, .int .i64 12], .int .i64 1] w fun e w' => e = .returned (.int .i64 20) ∧ Below w.heap.size w w' := by
  have h := dlen_t d1 1 w
  rw [show lenD d1 1 = 20 by decide +kernel] at h; exact h
theorem al8_lev1 (w : World) : Calls Try.prog 45 #[.agg #[.int .i64 1, .int .i64 1, .int .i64 12], .int .i64 8] w fun e w' => e = .returned (.int .i64 2) ∧ Below w.heap.size w w' := by
  have h := dlevel_t d1 8 w
  rw [show levelD d1 8 = 2 by decide +kernel] at h; exact h
theorem al8_lev2 (w : World) : Calls Try.prog 45 #[.agg #[.int .i64 1, .int .i64 1, .int .i64 12], .int .i64 9] w fun e w' => e = .returned (.int .i64 (-1)) ∧ Below w.heap.size w w' := by
  have h := dlevel_t d1 9 w
  rw [show levelD d1 9 = -1 by decide +kernel] at h; exact h
theorem al8_on1 (w : World) : Calls Try.prog 47 #[.agg #[.int .i64 3, .int .i64 2, .int .i64 3], .int .i64 1, .agg #[.int .i64 3, .int .i64 3, .int .u64 0, .int .u64 0, .string ⟨#[97, 46, 98, 46, 99]⟩]] w fun e w' => e = .returned (.bool true) ∧ Below w.heap.size w w' := by
  have h := don_t d2 1 kabc kabc_ok w
  rw [show onD d2 1 kabc = true by decide +kernel] at h; exact h
theorem al8_on2 (w : World) : Calls Try.prog 47 #[.agg #[.int .i64 3, .int .i64 2, .int .i64 3], .int .i64 2, .agg #[.int .i64 3, .int .i64 3, .int .u64 0, .int .u64 0, .string ⟨#[97, 46, 98, 46, 99]⟩]] w fun e w' => e = .returned (.bool false) ∧ Below w.heap.size w w' := by
  have h := don_t d2 2 kabc kabc_ok w
  rw [show onD d2 2 kabc = false by decide +kernel] at h; exact h
theorem al8_cut1 (w : World) : Calls Try.prog 49 #[.agg #[.int .i64 3, .int .i64 2, .int .i64 3], .int .i64 2, .agg #[.int .i64 3, .int .i64 3, .int .u64 0, .int .u64 0, .string ⟨#[97, 46, 98, 46, 99]⟩]] w fun e w' => e = .returned (.agg #[.int .i64 3, .int .i64 2, .int .u64 0, .int .u64 0, .string ⟨#[97, 46, 98]⟩]) ∧ Below w.heap.size w w' := by
  have h := dcut_t d2 2 kabc kabc_ok w
  rw [show cutD d2 2 kabc = ⟨3, 2, 0, 0, [97, 46, 98]⟩ by decide +kernel] at h; exact h
theorem al8_cut2 (w : World) : Calls Try.prog 49 #[.agg #[.int .i64 1, .int .i64 1, .int .i64 12], .int .i64 0, .agg #[.int .i64 3, .int .i64 3, .int .u64 0, .int .u64 0, .string ⟨#[97, 46, 98, 46, 99]⟩]] w fun e w' => e = .returned (.agg #[.int .i64 0, .int .i64 0, .int .u64 0, .int .u64 0, .string ⟨#[]⟩]) ∧ Below w.heap.size w w' := by
  have h := dcut_t d1 0 kabc kabc_ok w
  rw [show cutD d1 0 kabc = kz by decide +kernel] at h; exact h
theorem kfield4 (a b c d e : Value) (w : World) : (Instr.field 24 (.agg #[a, b, c, d, e]) 4).run Try.prog w = .ok e w := by kernel_rfl
set_option maxRecDepth 100000 in
set_option maxHeartbeats 8000000 in
theorem alive8_t (w : World) : Calls Try.prog 38 #[] w fun e w' => e = .returned (.bool true) ∧ Below w.heap.size w w' := by
  have f4 := kfield4
  have q := eql_key
  have q2 := eqK_self
  obtain ⟨RR0, RR1, hb0⟩ := two_rows w #[.int .i64 1, .int .i64 1, .int .i64 12] #[.int .i64 3, .int .i64 2, .int .i64 3] 53 53
  have c0 := (RR0.cell 0).trans (show _ = some (Value.int .i64 1) from rfl)
  have c1 := (RR0.cell 1).trans (show _ = some (Value.int .i64 1) from rfl)
  have c2 := (RR0.cell 2).trans (show _ = some (Value.int .i64 12) from rfl)
  have d0 := (RR1.cell 0).trans (show _ = some (Value.int .i64 3) from rfl)
  have d1 := (RR1.cell 1).trans (show _ = some (Value.int .i64 2) from rfl)
  have d2 := (RR1.cell 2).trans (show _ = some (Value.int .i64 3) from rfl)
  clear RR0 RR1
  go_enter Try.func38, Try.ntmps38
  go_wp2_with fail
  refine (al8_path _).mono ?_
  rintro e w1 ⟨rfl, hb⟩
  replace c0 := cell_later hb c0
  replace c1 := cell_later hb c1
  replace c2 := cell_later hb c2
  replace d0 := cell_later hb d0
  replace d1 := cell_later hb d1
  replace d2 := cell_later hb d2
  replace hb0 := below_step hb0 hb
  clear hb
  have lc := World.block_lt_of_cell? _ _ c0
  dsimp only at lc
  have ld := World.block_lt_of_cell? _ _ d0
  dsimp only at ld
  go_wp2_with fail
  refine (al8_r1 _).mono ?_
  rintro e w2 ⟨rfl, hb⟩
  replace c0 := cell_later hb (cell_later ((Below.refl _ _).alloc (Nat.le_refl _) _) c0)
  replace c1 := cell_later hb (cell_later ((Below.refl _ _).alloc (Nat.le_refl _) _) c1)
  replace c2 := cell_later hb (cell_later ((Below.refl _ _).alloc (Nat.le_refl _) _) c2)
  replace d0 := cell_later hb (cell_later ((Below.refl _ _).alloc (Nat.le_refl _) _) d0)
  replace d1 := cell_later hb (cell_later ((Below.refl _ _).alloc (Nat.le_refl _) _) d1)
  replace d2 := cell_later hb (cell_later ((Below.refl _ _).alloc (Nat.le_refl _) _) d2)
  have f0 := ((Row.later (Row.new _ _ _) hb).cell 0).trans (show _ = some (Value.int .i64 3) from rfl)
  have f1 := ((Row.later (Row.new _ _ _) hb).cell 1).trans (show _ = some (Value.int .i64 3) from rfl)
  have f2 := ((Row.later (Row.new _ _ _) hb).cell 2).trans (show _ = some (Value.int .u64 0) from rfl)
  have f3 := ((Row.later (Row.new _ _ _) hb).cell 3).trans (show _ = some (Value.int .u64 0) from rfl)
  have f4 := ((Row.later (Row.new _ _ _) hb).cell 4).trans (show _ = some (Value.string ⟨#[97, 46, 98, 46, 99]⟩) from rfl)
  replace hb0 := below_step (hb0.alloc hb0.size _) hb
  clear hb
  generalize w1.heap.size = gf at *
  have lc := World.block_lt_of_cell? _ _ c0
  dsimp only at lc
  have ld := World.block_lt_of_cell? _ _ d0
  dsimp only at ld
  have lf := World.block_lt_of_cell? _ _ f0
  dsimp only at lf
  go_wp2_with fail
  refine (al8_r2 _).mono ?_
  rintro e w3 ⟨rfl, hb⟩
  replace c0 := cell_later hb c0
  replace c1 := cell_later hb c1
  replace c2 := cell_later hb c2
  replace d0 := cell_later hb d0
  replace d1 := cell_later hb d1
  replace d2 := cell_later hb d2
  replace f0 := cell_later hb f0
  replace f1 := cell_later hb f1
  replace f2 := cell_later hb f2
  replace f3 := cell_later hb f3
  replace f4 := cell_later hb f4
  replace hb0 := below_step hb0 hb
  clear hb
  have lc := World.block_lt_of_cell? _ _ c0
  dsimp only at lc
  have ld := World.block_lt_of_cell? _ _ d0
  dsimp only at ld
  have lf := World.block_lt_of_cell? _ _ f0
  dsimp only at lf
  go_wp2_with fail
  refine (al8_depth _).mono ?_
  rintro e w4 ⟨rfl, hb⟩
  replace c0 := cell_later hb c0
  replace c1 := cell_later hb c1
  replace c2 := cell_later hb c2
  replace d0 := cell_later hb d0
  replace d1 := cell_later hb d1
  replace d2 := cell_later hb d2
  replace f0 := cell_later hb f0
  replace f1 := cell_later hb f1
  replace f2 := cell_later hb f2
  replace f3 := cell_later hb f3
  replace f4 := cell_later hb f4
  replace hb0 := below_step hb0 hb
  clear hb
  have lc := World.block_lt_of_cell? _ _ c0
  dsimp only at lc
  have ld := World.block_lt_of_cell? _ _ d0
  dsimp only at ld
  have lf := World.block_lt_of_cell? _ _ f0
  dsimp only at lf
  go_wp2_with fail
  refine (al8_len _).mono ?_
  rintro e w5 ⟨rfl, hb⟩
  replace c0 := cell_later hb c0
  replace c1 := cell_later hb c1
  replace c2 := cell_later hb c2
  replace d0 := cell_later hb d0
  replace d1 := cell_later hb d1
  replace d2 := cell_later hb d2
  replace f0 := cell_later hb f0
  replace f1 := cell_later hb f1
  replace f2 := cell_later hb f2
  replace f3 := cell_later hb f3
  replace f4 := cell_later hb f4
  replace hb0 := below_step hb0 hb
  clear hb
  have lc := World.block_lt_of_cell? _ _ c0
  dsimp only at lc
  have ld := World.block_lt_of_cell? _ _ d0
  dsimp only at ld
  have lf := World.block_lt_of_cell? _ _ f0
  dsimp only at lf
  go_wp2_with fail
  refine (al8_lev1 _).mono ?_
  rintro e w6 ⟨rfl, hb⟩
  replace c0 := cell_later hb c0
  replace c1 := cell_later hb c1
  replace c2 := cell_later hb c2
  replace d0 := cell_later hb d0
  replace d1 := cell_later hb d1
  replace d2 := cell_later hb d2
  replace f0 := cell_later hb f0
  replace f1 := cell_later hb f1
  replace f2 := cell_later hb f2
  replace f3 := cell_later hb f3
  replace f4 := cell_later hb f4
  replace hb0 := below_step hb0 hb
  clear hb
  have lc := World.block_lt_of_cell? _ _ c0
  dsimp only at lc
  have ld := World.block_lt_of_cell? _ _ d0
  dsimp only at ld
  have lf := World.block_lt_of_cell? _ _ f0
  dsimp only at lf
  go_wp2_with fail
  refine (al8_lev2 _).mono ?_
  rintro e w7 ⟨rfl, hb⟩
  replace c0 := cell_later hb c0
  replace c1 := cell_later hb c1
  replace c2 := cell_later hb c2
  replace d0 := cell_later hb d0
  replace d1 := cell_later hb d1
  replace d2 := cell_later hb d2
  replace f0 := cell_later hb f0
  replace f1 := cell_later hb f1
  replace f2 := cell_later hb f2
  replace f3 := cell_later hb f3
  replace f4 := cell_later hb f4
  replace hb0 := below_step hb0 hb
  clear hb
  have lc := World.block_lt_of_cell? _ _ c0
  dsimp only at lc
  have ld := World.block_lt_of_cell? _ _ d0
  dsimp only at ld
  have lf := World.block_lt_of_cell? _ _ f0
  dsimp only at lf
  go_wp2_with fail
  refine (al8_on1 _).mono ?_
  rintro e w8 ⟨rfl, hb⟩
  replace c0 := cell_later hb c0
  replace c1 := cell_later hb c1
  replace c2 := cell_later hb c2
  replace d0 := cell_later hb d0
  replace d1 := cell_later hb d1
  replace d2 := cell_later hb d2
  replace f0 := cell_later hb f0
  replace f1 := cell_later hb f1
  replace f2 := cell_later hb f2
  replace f3 := cell_later hb f3
  replace f4 := cell_later hb f4
  replace hb0 := below_step hb0 hb
  clear hb
  have lc := World.block_lt_of_cell? _ _ c0
  dsimp only at lc
  have ld := World.block_lt_of_cell? _ _ d0
  dsimp only at ld
  have lf := World.block_lt_of_cell? _ _ f0
  dsimp only at lf
  go_wp2_with fail
  refine (al8_on2 _).mono ?_
  rintro e w9 ⟨rfl, hb⟩
  replace c0 := cell_later hb c0
  replace c1 := cell_later hb c1
  replace c2 := cell_later hb c2
  replace d0 := cell_later hb d0
  replace d1 := cell_later hb d1
  replace d2 := cell_later hb d2
  replace f0 := cell_later hb f0
  replace f1 := cell_later hb f1
  replace f2 := cell_later hb f2
  replace f3 := cell_later hb f3
  replace f4 := cell_later hb f4
  replace hb0 := below_step hb0 hb
  clear hb
  have lc := World.block_lt_of_cell? _ _ c0
  dsimp only at lc
  have ld := World.block_lt_of_cell? _ _ d0
  dsimp only at ld
  have lf := World.block_lt_of_cell? _ _ f0
  dsimp only at lf
  go_wp2_with fail
  refine (al8_cut1 _).mono ?_
  rintro e w10 ⟨rfl, hb⟩
  replace c0 := cell_later hb c0
  replace c1 := cell_later hb c1
  replace c2 := cell_later hb c2
  replace d0 := cell_later hb d0
  replace d1 := cell_later hb d1
  replace d2 := cell_later hb d2
  replace f0 := cell_later hb f0
  replace f1 := cell_later hb f1
  replace f2 := cell_later hb f2
  replace f3 := cell_later hb f3
  replace f4 := cell_later hb f4
  replace hb0 := below_step hb0 hb
  clear hb
  have lc := World.block_lt_of_cell? _ _ c0
  dsimp only at lc
  have ld := World.block_lt_of_cell? _ _ d0
  dsimp only at ld
  have lf := World.block_lt_of_cell? _ _ f0
  dsimp only at lf
  go_wp2_with fail
  refine (al8_cut2 _).mono ?_
  rintro e w11 ⟨rfl, hb⟩
  replace c0 := cell_later hb c0
  replace c1 := cell_later hb c1
  replace c2 := cell_later hb c2
  replace d0 := cell_later hb d0
  replace d1 := cell_later hb d1
  replace d2 := cell_later hb d2
  replace f0 := cell_later hb f0
  replace f1 := cell_later hb f1
  replace f2 := cell_later hb f2
  replace f3 := cell_later hb f3
  replace f4 := cell_later hb f4
  replace hb0 := below_step hb0 hb
  clear hb
  have lc := World.block_lt_of_cell? _ _ c0
  dsimp only at lc
  have ld := World.block_lt_of_cell? _ _ d0
  dsimp only at ld
  have lf := World.block_lt_of_cell? _ _ f0
  dsimp only at lf
  go_wp2
  go_ret
  exact ⟨rfl, hb0⟩
end Go.Proofs.Ytekoicbjpoeijaa
