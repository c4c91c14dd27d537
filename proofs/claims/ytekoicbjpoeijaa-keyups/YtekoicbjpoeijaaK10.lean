/- The fixed calls of layer 7, walked. No conditions. -/
import Derived.Test.YtekoicbjpoeijaaK9
namespace Go.Proofs.Ytekoicbjpoeijaa
set_option linter.unusedVariables false
set_option linter.unusedSimpArgs false
open Go.RowKit
set_option maxRecDepth 100000 in
set_option maxHeartbeats 8000000 in
theorem alive7_t (w : World) : Calls Try.prog 18 #[] w fun e w' => e = .returned (.bool true) ∧ Below w.heap.size w w' := by
  have hb0 : Below w.heap.size w w := Below.refl _ _
  have f3 := kfield3
  have f0 := kfield0
  have e1 : (⟨pm.toArray⟩ : ByteArray).toList = [110, 101, 116, 46, 100, 99, 49] := by decide +kernel
  go_enter Try.func18, Try.ntmps18
  go_wp2_with fail
  refine (kfour_t 167837953 (by decide) (by decide) w).mono ?_
  rintro e w1 ⟨rfl, hb⟩
  replace hb0 := below_step hb0 hb
  clear hb
  go_wp2_with fail
  refine (al7_cut _).mono ?_
  rintro e w2 ⟨rfl, hb⟩
  replace hb0 := below_step hb0 hb
  clear hb
  go_wp2_with fail
  refine (al7_pa _).mono ?_
  rintro e w3 ⟨rfl, hb⟩
  have c0 := ((Row.later (Row.new _ _ _) hb).cell 0).trans (show _ = some (Value.int .i64 1) from rfl)
  have c1 := ((Row.later (Row.new _ _ _) hb).cell 1).trans (show _ = some (Value.int .i64 8) from rfl)
  have c2 := ((Row.later (Row.new _ _ _) hb).cell 2).trans (show _ = some (Value.int .u64 720575940379279360) from rfl)
  have c3 := ((Row.later (Row.new _ _ _) hb).cell 3).trans (show _ = some (Value.int .u64 0) from rfl)
  have c4 := ((Row.later (Row.new _ _ _) hb).cell 4).trans (show _ = some (Value.string ⟨#[]⟩) from rfl)
  replace hb0 := below_step (hb0.alloc hb0.size _) hb
  clear hb
  generalize w2.heap.size = gc at *
  have lc := World.block_lt_of_cell? _ _ c0
  dsimp only at lc
  go_wp2_with fail
  refine (al7_pb _).mono ?_
  rintro e w4 ⟨rfl, hb⟩
  replace c0 := cell_later hb (cell_later ((Below.refl _ _).alloc (Nat.le_refl _) _) c0)
  replace c1 := cell_later hb (cell_later ((Below.refl _ _).alloc (Nat.le_refl _) _) c1)
  replace c2 := cell_later hb (cell_later ((Below.refl _ _).alloc (Nat.le_refl _) _) c2)
  replace c3 := cell_later hb (cell_later ((Below.refl _ _).alloc (Nat.le_refl _) _) c3)
  replace c4 := cell_later hb (cell_later ((Below.refl _ _).alloc (Nat.le_refl _) _) c4)
  have d0 := ((Row.later (Row.new _ _ _) hb).cell 0).trans (show _ = some (Value.int .i64 3) from rfl)
  have d1 := ((Row.later (Row.new _ _ _) hb).cell 1).trans (show _ = some (Value.int .i64 3) from rfl)
  have d2 := ((Row.later (Row.new _ _ _) hb).cell 2).trans (show _ = some (Value.int .u64 0) from rfl)
  have d3 := ((Row.later (Row.new _ _ _) hb).cell 3).trans (show _ = some (Value.int .u64 0) from rfl)
  have d4 := ((Row.later (Row.new _ _ _) hb).cell 4).trans (show _ = some (Value.string ⟨pa.toArray⟩) from rfl)
  replace hb0 := below_step (hb0.alloc hb0.size _) hb
  clear hb
  generalize w3.heap.size = gd at *
  have lc := World.block_lt_of_cell? _ _ c0
  dsimp only at lc
  have ld := World.block_lt_of_cell? _ _ d0
  dsimp only at ld
  go_wp2_with fail
  refine (al7_meet _).mono ?_
  rintro e w5 ⟨rfl, hb⟩
  replace c0 := cell_later hb (cell_later ((Below.refl _ _).alloc (Nat.le_refl _) _) c0)
  replace c1 := cell_later hb (cell_later ((Below.refl _ _).alloc (Nat.le_refl _) _) c1)
  replace c2 := cell_later hb (cell_later ((Below.refl _ _).alloc (Nat.le_refl _) _) c2)
  replace c3 := cell_later hb (cell_later ((Below.refl _ _).alloc (Nat.le_refl _) _) c3)
  replace c4 := cell_later hb (cell_later ((Below.refl _ _).alloc (Nat.le_refl _) _) c4)
  replace d0 := cell_later hb (cell_later ((Below.refl _ _).alloc (Nat.le_refl _) _) d0)
  replace d1 := cell_later hb (cell_later ((Below.refl _ _).alloc (Nat.le_refl _) _) d1)
  replace d2 := cell_later hb (cell_later ((Below.refl _ _).alloc (Nat.le_refl _) _) d2)
  replace d3 := cell_later hb (cell_later ((Below.refl _ _).alloc (Nat.le_refl _) _) d3)
  replace d4 := cell_later hb (cell_later ((Below.refl _ _).alloc (Nat.le_refl _) _) d4)
  have f0 := ((Row.later (Row.new _ _ _) hb).cell 0).trans (show _ = some (Value.int .i64 3) from rfl)
  have f1 := ((Row.later (Row.new _ _ _) hb).cell 1).trans (show _ = some (Value.int .i64 3) from rfl)
  have f2 := ((Row.later (Row.new _ _ _) hb).cell 2).trans (show _ = some (Value.int .u64 0) from rfl)
  have f3 := ((Row.later (Row.new _ _ _) hb).cell 3).trans (show _ = some (Value.int .u64 0) from rfl)
  have f4 := ((Row.later (Row.new _ _ _) hb).cell 4).trans (show _ = some (Value.string ⟨pb.toArray⟩) from rfl)
  replace hb0 := below_step (hb0.alloc hb0.size _) hb
  clear hb
  generalize w4.heap.size = gf at *
  have lc := World.block_lt_of_cell? _ _ c0
  dsimp only at lc
  have ld := World.block_lt_of_cell? _ _ d0
  dsimp only at ld
  have lf := World.block_lt_of_cell? _ _ f0
  dsimp only at lf
  go_wp2_with fail
  refine (al7_pz _).mono ?_
  rintro e w6 ⟨rfl, hb⟩
  replace c0 := cell_later hb (cell_later ((Below.refl _ _).alloc (Nat.le_refl _) _) c0)
  replace c1 := cell_later hb (cell_later ((Below.refl _ _).alloc (Nat.le_refl _) _) c1)
  replace c2 := cell_later hb (cell_later ((Below.refl _ _).alloc (Nat.le_refl _) _) c2)
  replace c3 := cell_later hb (cell_later ((Below.refl _ _).alloc (Nat.le_refl _) _) c3)
  replace c4 := cell_later hb (cell_later ((Below.refl _ _).alloc (Nat.le_refl _) _) c4)
  replace d0 := cell_later hb (cell_later ((Below.refl _ _).alloc (Nat.le_refl _) _) d0)
  replace d1 := cell_later hb (cell_later ((Below.refl _ _).alloc (Nat.le_refl _) _) d1)
  replace d2 := cell_later hb (cell_later ((Below.refl _ _).alloc (Nat.le_refl _) _) d2)
  replace d3 := cell_later hb (cell_later ((Below.refl _ _).alloc (Nat.le_refl _) _) d3)
  replace d4 := cell_later hb (cell_later ((Below.refl _ _).alloc (Nat.le_refl _) _) d4)
  replace f0 := cell_later hb (cell_later ((Below.refl _ _).alloc (Nat.le_refl _) _) f0)
  replace f1 := cell_later hb (cell_later ((Below.refl _ _).alloc (Nat.le_refl _) _) f1)
  replace f2 := cell_later hb (cell_later ((Below.refl _ _).alloc (Nat.le_refl _) _) f2)
  replace f3 := cell_later hb (cell_later ((Below.refl _ _).alloc (Nat.le_refl _) _) f3)
  replace f4 := cell_later hb (cell_later ((Below.refl _ _).alloc (Nat.le_refl _) _) f4)
  have m0 := ((Row.later (Row.new _ _ _) hb).cell 0).trans (show _ = some (Value.int .i64 3) from rfl)
  have m1 := ((Row.later (Row.new _ _ _) hb).cell 1).trans (show _ = some (Value.int .i64 2) from rfl)
  have m2 := ((Row.later (Row.new _ _ _) hb).cell 2).trans (show _ = some (Value.int .u64 0) from rfl)
  have m3 := ((Row.later (Row.new _ _ _) hb).cell 3).trans (show _ = some (Value.int .u64 0) from rfl)
  have m4 := ((Row.later (Row.new _ _ _) hb).cell 4).trans (show _ = some (Value.string ⟨pm.toArray⟩) from rfl)
  replace hb0 := below_step (hb0.alloc hb0.size _) hb
  clear hb
  generalize w5.heap.size = gm at *
  have lc := World.block_lt_of_cell? _ _ c0
  dsimp only at lc
  have ld := World.block_lt_of_cell? _ _ d0
  dsimp only at ld
  have lf := World.block_lt_of_cell? _ _ f0
  dsimp only at lf
  have lm := World.block_lt_of_cell? _ _ m0
  dsimp only at lm
  go_wp2_with fail
  refine (al7_over1 _).mono ?_
  rintro e w7 ⟨rfl, hb⟩
  replace c0 := cell_later hb (cell_later ((Below.refl _ _).alloc (Nat.le_refl _) _) c0)
  replace c1 := cell_later hb (cell_later ((Below.refl _ _).alloc (Nat.le_refl _) _) c1)
  replace c2 := cell_later hb (cell_later ((Below.refl _ _).alloc (Nat.le_refl _) _) c2)
  replace c3 := cell_later hb (cell_later ((Below.refl _ _).alloc (Nat.le_refl _) _) c3)
  replace c4 := cell_later hb (cell_later ((Below.refl _ _).alloc (Nat.le_refl _) _) c4)
  replace d0 := cell_later hb (cell_later ((Below.refl _ _).alloc (Nat.le_refl _) _) d0)
  replace d1 := cell_later hb (cell_later ((Below.refl _ _).alloc (Nat.le_refl _) _) d1)
  replace d2 := cell_later hb (cell_later ((Below.refl _ _).alloc (Nat.le_refl _) _) d2)
  replace d3 := cell_later hb (cell_later ((Below.refl _ _).alloc (Nat.le_refl _) _) d3)
  replace d4 := cell_later hb (cell_later ((Below.refl _ _).alloc (Nat.le_refl _) _) d4)
  replace f0 := cell_later hb (cell_later ((Below.refl _ _).alloc (Nat.le_refl _) _) f0)
  replace f1 := cell_later hb (cell_later ((Below.refl _ _).alloc (Nat.le_refl _) _) f1)
  replace f2 := cell_later hb (cell_later ((Below.refl _ _).alloc (Nat.le_refl _) _) f2)
  replace f3 := cell_later hb (cell_later ((Below.refl _ _).alloc (Nat.le_refl _) _) f3)
  replace f4 := cell_later hb (cell_later ((Below.refl _ _).alloc (Nat.le_refl _) _) f4)
  replace m0 := cell_later hb (cell_later ((Below.refl _ _).alloc (Nat.le_refl _) _) m0)
  replace m1 := cell_later hb (cell_later ((Below.refl _ _).alloc (Nat.le_refl _) _) m1)
  replace m2 := cell_later hb (cell_later ((Below.refl _ _).alloc (Nat.le_refl _) _) m2)
  replace m3 := cell_later hb (cell_later ((Below.refl _ _).alloc (Nat.le_refl _) _) m3)
  replace m4 := cell_later hb (cell_later ((Below.refl _ _).alloc (Nat.le_refl _) _) m4)
  have z0 := ((Row.later (Row.new _ _ _) hb).cell 0).trans (show _ = some (Value.int .i64 0) from rfl)
  have z1 := ((Row.later (Row.new _ _ _) hb).cell 1).trans (show _ = some (Value.int .i64 0) from rfl)
  have z2 := ((Row.later (Row.new _ _ _) hb).cell 2).trans (show _ = some (Value.int .u64 0) from rfl)
  have z3 := ((Row.later (Row.new _ _ _) hb).cell 3).trans (show _ = some (Value.int .u64 0) from rfl)
  have z4 := ((Row.later (Row.new _ _ _) hb).cell 4).trans (show _ = some (Value.string ⟨#[]⟩) from rfl)
  replace hb0 := below_step (hb0.alloc hb0.size _) hb
  clear hb
  generalize w6.heap.size = gz at *
  have lc := World.block_lt_of_cell? _ _ c0
  dsimp only at lc
  have ld := World.block_lt_of_cell? _ _ d0
  dsimp only at ld
  have lf := World.block_lt_of_cell? _ _ f0
  dsimp only at lf
  have lm := World.block_lt_of_cell? _ _ m0
  dsimp only at lm
  have lz := World.block_lt_of_cell? _ _ z0
  dsimp only at lz
  go_wp2_with fail
  refine (al7_over2 _).mono ?_
  rintro e w8 ⟨rfl, hb⟩
  replace c0 := cell_later hb c0
  replace c1 := cell_later hb c1
  replace c2 := cell_later hb c2
  replace c3 := cell_later hb c3
  replace c4 := cell_later hb c4
  replace d0 := cell_later hb d0
  replace d1 := cell_later hb d1
  replace d2 := cell_later hb d2
  replace d3 := cell_later hb d3
  replace d4 := cell_later hb d4
  replace f0 := cell_later hb f0
  replace f1 := cell_later hb f1
  replace f2 := cell_later hb f2
  replace f3 := cell_later hb f3
  replace f4 := cell_later hb f4
  replace m0 := cell_later hb m0
  replace m1 := cell_later hb m1
  replace m2 := cell_later hb m2
  replace m3 := cell_later hb m3
  replace m4 := cell_later hb m4
  replace z0 := cell_later hb z0
  replace z1 := cell_later hb z1
  replace z2 := cell_later hb z2
  replace z3 := cell_later hb z3
  replace z4 := cell_later hb z4
  replace hb0 := below_step hb0 hb
  clear hb
  have lc := World.block_lt_of_cell? _ _ c0
  dsimp only at lc
  have ld := World.block_lt_of_cell? _ _ d0
  dsimp only at ld
  have lf := World.block_lt_of_cell? _ _ f0
  dsimp only at lf
  have lm := World.block_lt_of_cell? _ _ m0
  dsimp only at lm
  have lz := World.block_lt_of_cell? _ _ z0
  dsimp only at lz
  go_wp2_with fail
  refine (al7_right1 _).mono ?_
  rintro e w9 ⟨rfl, hb⟩
  replace c0 := cell_later hb c0
  replace c1 := cell_later hb c1
  replace c2 := cell_later hb c2
  replace c3 := cell_later hb c3
  replace c4 := cell_later hb c4
  replace d0 := cell_later hb d0
  replace d1 := cell_later hb d1
  replace d2 := cell_later hb d2
  replace d3 := cell_later hb d3
  replace d4 := cell_later hb d4
  replace f0 := cell_later hb f0
  replace f1 := cell_later hb f1
  replace f2 := cell_later hb f2
  replace f3 := cell_later hb f3
  replace f4 := cell_later hb f4
  replace m0 := cell_later hb m0
  replace m1 := cell_later hb m1
  replace m2 := cell_later hb m2
  replace m3 := cell_later hb m3
  replace m4 := cell_later hb m4
  replace z0 := cell_later hb z0
  replace z1 := cell_later hb z1
  replace z2 := cell_later hb z2
  replace z3 := cell_later hb z3
  replace z4 := cell_later hb z4
  replace hb0 := below_step hb0 hb
  clear hb
  have lc := World.block_lt_of_cell? _ _ c0
  dsimp only at lc
  have ld := World.block_lt_of_cell? _ _ d0
  dsimp only at ld
  have lf := World.block_lt_of_cell? _ _ f0
  dsimp only at lf
  have lm := World.block_lt_of_cell? _ _ m0
  dsimp only at lm
  have lz := World.block_lt_of_cell? _ _ z0
  dsimp only at lz
  go_wp2_with fail
  refine (al7_right2 _).mono ?_
  rintro e w10 ⟨rfl, hb⟩
  replace c0 := cell_later hb c0
  replace c1 := cell_later hb c1
  replace c2 := cell_later hb c2
  replace c3 := cell_later hb c3
  replace c4 := cell_later hb c4
  replace d0 := cell_later hb d0
  replace d1 := cell_later hb d1
  replace d2 := cell_later hb d2
  replace d3 := cell_later hb d3
  replace d4 := cell_later hb d4
  replace f0 := cell_later hb f0
  replace f1 := cell_later hb f1
  replace f2 := cell_later hb f2
  replace f3 := cell_later hb f3
  replace f4 := cell_later hb f4
  replace m0 := cell_later hb m0
  replace m1 := cell_later hb m1
  replace m2 := cell_later hb m2
  replace m3 := cell_later hb m3
  replace m4 := cell_later hb m4
  replace z0 := cell_later hb z0
  replace z1 := cell_later hb z1
  replace z2 := cell_later hb z2
  replace z3 := cell_later hb z3
  replace z4 := cell_later hb z4
  replace hb0 := below_step hb0 hb
  clear hb
  have lc := World.block_lt_of_cell? _ _ c0
  dsimp only at lc
  have ld := World.block_lt_of_cell? _ _ d0
  dsimp only at ld
  have lf := World.block_lt_of_cell? _ _ f0
  dsimp only at lf
  have lm := World.block_lt_of_cell? _ _ m0
  dsimp only at lm
  have lz := World.block_lt_of_cell? _ _ z0
  dsimp only at lz
  go_wp2_with fail
  refine (al7_cmp _).mono ?_
  rintro e w11 ⟨rfl, hb⟩
  replace c0 := cell_later hb c0
  replace c1 := cell_later hb c1
  replace c2 := cell_later hb c2
  replace c3 := cell_later hb c3
  replace c4 := cell_later hb c4
  replace d0 := cell_later hb d0
  replace d1 := cell_later hb d1
  replace d2 := cell_later hb d2
  replace d3 := cell_later hb d3
  replace d4 := cell_later hb d4
  replace f0 := cell_later hb f0
  replace f1 := cell_later hb f1
  replace f2 := cell_later hb f2
  replace f3 := cell_later hb f3
  replace f4 := cell_later hb f4
  replace m0 := cell_later hb m0
  replace m1 := cell_later hb m1
  replace m2 := cell_later hb m2
  replace m3 := cell_later hb m3
  replace m4 := cell_later hb m4
  replace z0 := cell_later hb z0
  replace z1 := cell_later hb z1
  replace z2 := cell_later hb z2
  replace z3 := cell_later hb z3
  replace z4 := cell_later hb z4
  replace hb0 := below_step hb0 hb
  clear hb
  have lc := World.block_lt_of_cell? _ _ c0
  dsimp only at lc
  have ld := World.block_lt_of_cell? _ _ d0
  dsimp only at ld
  have lf := World.block_lt_of_cell? _ _ f0
  dsimp only at lf
  have lm := World.block_lt_of_cell? _ _ m0
  dsimp only at lm
  have lz := World.block_lt_of_cell? _ _ z0
  dsimp only at lz
  go_wp2_with fail
  refine (of_any 1 _).mono ?_
  rintro e w12 ⟨rfl, hb⟩
  replace c0 := cell_later hb c0
  replace c1 := cell_later hb c1
  replace c2 := cell_later hb c2
  replace c3 := cell_later hb c3
  replace c4 := cell_later hb c4
  replace d0 := cell_later hb d0
  replace d1 := cell_later hb d1
  replace d2 := cell_later hb d2
  replace d3 := cell_later hb d3
  replace d4 := cell_later hb d4
  replace f0 := cell_later hb f0
  replace f1 := cell_later hb f1
  replace f2 := cell_later hb f2
  replace f3 := cell_later hb f3
  replace f4 := cell_later hb f4
  replace m0 := cell_later hb m0
  replace m1 := cell_later hb m1
  replace m2 := cell_later hb m2
  replace m3 := cell_later hb m3
  replace m4 := cell_later hb m4
  replace z0 := cell_later hb z0
  replace z1 := cell_later hb z1
  replace z2 := cell_later hb z2
  replace z3 := cell_later hb z3
  replace z4 := cell_later hb z4
  replace hb0 := below_step hb0 hb
  clear hb
  have lc := World.block_lt_of_cell? _ _ c0
  dsimp only at lc
  have ld := World.block_lt_of_cell? _ _ d0
  dsimp only at ld
  have lf := World.block_lt_of_cell? _ _ f0
  dsimp only at lf
  have lm := World.block_lt_of_cell? _ _ m0
  dsimp only at lm
  have lz := World.block_lt_of_cell? _ _ z0
  dsimp only at lz
  go_wp2_with fail
  refine (al7_six _).mono ?_
  rintro e w13 ⟨rfl, hb⟩
  replace c0 := cell_later hb c0
  replace c1 := cell_later hb c1
  replace c2 := cell_later hb c2
  replace c3 := cell_later hb c3
  replace c4 := cell_later hb c4
  replace d0 := cell_later hb d0
  replace d1 := cell_later hb d1
  replace d2 := cell_later hb d2
  replace d3 := cell_later hb d3
  replace d4 := cell_later hb d4
  replace f0 := cell_later hb f0
  replace f1 := cell_later hb f1
  replace f2 := cell_later hb f2
  replace f3 := cell_later hb f3
  replace f4 := cell_later hb f4
  replace m0 := cell_later hb m0
  replace m1 := cell_later hb m1
  replace m2 := cell_later hb m2
  replace m3 := cell_later hb m3
  replace m4 := cell_later hb m4
  replace z0 := cell_later hb z0
  replace z1 := cell_later hb z1
  replace z2 := cell_later hb z2
  replace z3 := cell_later hb z3
  replace z4 := cell_later hb z4
  replace hb0 := below_step hb0 hb
  clear hb
  have lc := World.block_lt_of_cell? _ _ c0
  dsimp only at lc
  have ld := World.block_lt_of_cell? _ _ d0
  dsimp only at ld
  have lf := World.block_lt_of_cell? _ _ f0
  dsimp only at lf
  have lm := World.block_lt_of_cell? _ _ m0
  dsimp only at lm
  have lz := World.block_lt_of_cell? _ _ z0
  dsimp only at lz
  go_wp2_with fail
  refine (al7_root _).mono ?_
  rintro e w14 ⟨rfl, hb⟩
  replace c0 := cell_later hb c0
  replace c1 := cell_later hb c1
  replace c2 := cell_later hb c2
  replace c3 := cell_later hb c3
  replace c4 := cell_later hb c4
  replace d0 := cell_later hb d0
  replace d1 := cell_later hb d1
  replace d2 := cell_later hb d2
  replace d3 := cell_later hb d3
  replace d4 := cell_later hb d4
  replace f0 := cell_later hb f0
  replace f1 := cell_later hb f1
  replace f2 := cell_later hb f2
  replace f3 := cell_later hb f3
  replace f4 := cell_later hb f4
  replace m0 := cell_later hb m0
  replace m1 := cell_later hb m1
  replace m2 := cell_later hb m2
  replace m3 := cell_later hb m3
  replace m4 := cell_later hb m4
  replace z0 := cell_later hb z0
  replace z1 := cell_later hb z1
  replace z2 := cell_later hb z2
  replace z3 := cell_later hb z3
  replace z4 := cell_later hb z4
  replace hb0 := below_step hb0 hb
  clear hb
  have lc := World.block_lt_of_cell? _ _ c0
  dsimp only at lc
  have ld := World.block_lt_of_cell? _ _ d0
  dsimp only at ld
  have lf := World.block_lt_of_cell? _ _ f0
  dsimp only at lf
  have lm := World.block_lt_of_cell? _ _ m0
  dsimp only at lm
  have lz := World.block_lt_of_cell? _ _ z0
  dsimp only at lz
  go_wp2
  go_ret
  exact ⟨rfl, hb0⟩
end Go.Proofs.Ytekoicbjpoeijaa
