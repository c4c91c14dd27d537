/- P3: what the theorem needs of these texts. No conditions beyond those that are written. -/
import Derived.Test.YtbekocknfpekoaaBJD1
namespace Go.Proofs.Ytbekocknfpekoaa
set_option linter.unusedVariables false
set_option linter.unusedSimpArgs false
open Go.RowKit
structure Px.ok (p : Px) : Prop where
  k0 : p.k0.ok
  k1 : p.k1.ok
  a00 : -9223372036854775808 ≤ p.a0
  a01 : p.a0 ≤ 9223372036854775807
  a10 : -9223372036854775808 ≤ p.a1
  a11 : p.a1 ≤ 9223372036854775807
theorem ixk0 (a b c d e f g h i j : Value) (w : World) : (Instr.index 31 (.agg #[a, b, c, d, e, f, g, h, i, j]) (.int .i64 0)).run Try.prog w = .ok (.agg #[a, b, c, d, e]) w := by kernel_rfl
theorem ixk1 (a b c d e f g h i j : Value) (w : World) : (Instr.index 31 (.agg #[a, b, c, d, e, f, g, h, i, j]) (.int .i64 1)).run Try.prog w = .ok (.agg #[f, g, h, i, j]) w := by kernel_rfl
theorem ixa0 (a b : Value) (w : World) : (Instr.index 27 (.agg #[a, b]) (.int .i64 0)).run Try.prog w = .ok a w := by kernel_rfl
theorem ixa1 (a b : Value) (w : World) : (Instr.index 27 (.agg #[a, b]) (.int .i64 1)).run Try.prog w = .ok b w := by kernel_rfl
set_option maxRecDepth 100000 in
set_option maxHeartbeats 8000000 in
theorem right_bad (s : Sp) (p : Px)  (HS : ∀ w, Calls Try.prog 18 #[sv s] w fun e w' => e = .returned (.bool false) ∧ Below w.heap.size w w') (w : World) : Calls Try.prog 20 #[sv s, pv p] w fun e w' => e = .returned (.bool false) ∧ Below w.heap.size w w' := by
  have i0 := ixk0
  have i1 := ixk1
  unfold sv at *
  unfold pv
  skip
  obtain ⟨RR0, RR1, hb0⟩ := two_rows w #[.int .i64 s.n, .int .i64 s.d0.kind, .int .i64 s.d0.side, .int .i64 s.d0.step, .int .i64 s.d1.kind, .int .i64 s.d1.side, .int .i64 s.d1.step] #[.int .i64 p.a0, .int .i64 p.a1, .int .i64 p.k0.kind, .int .i64 p.k0.len, .int .u64 p.k0.h, .int .u64 p.k0.l, .string ⟨p.k0.path.toArray⟩, .int .i64 p.k1.kind, .int .i64 p.k1.len, .int .u64 p.k1.h, .int .u64 p.k1.l, .string ⟨p.k1.path.toArray⟩] 26 33
  have c0 := (RR0.cell 0).trans (show _ = some (Value.int .i64 s.n) from rfl)
  have c1 := (RR0.cell 1).trans (show _ = some (Value.int .i64 s.d0.kind) from rfl)
  have c2 := (RR0.cell 2).trans (show _ = some (Value.int .i64 s.d0.side) from rfl)
  have c3 := (RR0.cell 3).trans (show _ = some (Value.int .i64 s.d0.step) from rfl)
  have c4 := (RR0.cell 4).trans (show _ = some (Value.int .i64 s.d1.kind) from rfl)
  have c5 := (RR0.cell 5).trans (show _ = some (Value.int .i64 s.d1.side) from rfl)
  have c6 := (RR0.cell 6).trans (show _ = some (Value.int .i64 s.d1.step) from rfl)
  have d0 := (RR1.cell 0).trans (show _ = some (Value.int .i64 p.a0) from rfl)
  have d1 := (RR1.cell 1).trans (show _ = some (Value.int .i64 p.a1) from rfl)
  have d2 := (RR1.cell 2).trans (show _ = some (Value.int .i64 p.k0.kind) from rfl)
  have d3 := (RR1.cell 3).trans (show _ = some (Value.int .i64 p.k0.len) from rfl)
  have d4 := (RR1.cell 4).trans (show _ = some (Value.int .u64 p.k0.h) from rfl)
  have d5 := (RR1.cell 5).trans (show _ = some (Value.int .u64 p.k0.l) from rfl)
  have d6 := (RR1.cell 6).trans (show _ = some (Value.string ⟨p.k0.path.toArray⟩) from rfl)
  have d7 := (RR1.cell 7).trans (show _ = some (Value.int .i64 p.k1.kind) from rfl)
  have d8 := (RR1.cell 8).trans (show _ = some (Value.int .i64 p.k1.len) from rfl)
  have d9 := (RR1.cell 9).trans (show _ = some (Value.int .u64 p.k1.h) from rfl)
  have d10 := (RR1.cell 10).trans (show _ = some (Value.int .u64 p.k1.l) from rfl)
  have d11 := (RR1.cell 11).trans (show _ = some (Value.string ⟨p.k1.path.toArray⟩) from rfl)
  clear RR0 RR1
  go_enter Try.func20, Try.ntmps20
  go_wp2_with fail
  refine (HS _).mono ?_
  rintro e w1 ⟨rfl, hb⟩
  replace c0 := cell_later hb c0
  replace c1 := cell_later hb c1
  replace c2 := cell_later hb c2
  replace c3 := cell_later hb c3
  replace c4 := cell_later hb c4
  replace c5 := cell_later hb c5
  replace c6 := cell_later hb c6
  replace d0 := cell_later hb d0
  replace d1 := cell_later hb d1
  replace d2 := cell_later hb d2
  replace d3 := cell_later hb d3
  replace d4 := cell_later hb d4
  replace d5 := cell_later hb d5
  replace d6 := cell_later hb d6
  replace d7 := cell_later hb d7
  replace d8 := cell_later hb d8
  replace d9 := cell_later hb d9
  replace d10 := cell_later hb d10
  replace d11 := cell_later hb d11
  replace hb0 := below_step hb0 hb
  clear hb
  have lc := World.block_lt_of_cell? _ _ c0
  dsimp only at lc
  have ld := World.block_lt_of_cell? _ _ d0
  dsimp only at ld
  go_wp2
  go_ret
  exact ⟨rfl, hb0⟩
set_option maxRecDepth 100000 in
set_option maxHeartbeats 8000000 in
theorem right_no0 (s : Sp) (p : Px) (HA : ∀ w, Calls Try.prog 53 #[sv s, .int .i64 0, .int .i64 p.a0, kv p.k0] w fun e w' => e = .returned (.bool false) ∧ Below w.heap.size w w') (HS : ∀ w, Calls Try.prog 18 #[sv s] w fun e w' => e = .returned (.bool true) ∧ Below w.heap.size w w') (w : World) : Calls Try.prog 20 #[sv s, pv p] w fun e w' => e = .returned (.bool false) ∧ Below w.heap.size w w' := by
  have i0 := ixk0
  have i1 := ixk1
  unfold sv at *
  unfold pv
  unfold kv at *
  obtain ⟨RR0, RR1, hb0⟩ := two_rows w #[.int .i64 s.n, .int .i64 s.d0.kind, .int .i64 s.d0.side, .int .i64 s.d0.step, .int .i64 s.d1.kind, .int .i64 s.d1.side, .int .i64 s.d1.step] #[.int .i64 p.a0, .int .i64 p.a1, .int .i64 p.k0.kind, .int .i64 p.k0.len, .int .u64 p.k0.h, .int .u64 p.k0.l, .string ⟨p.k0.path.toArray⟩, .int .i64 p.k1.kind, .int .i64 p.k1.len, .int .u64 p.k1.h, .int .u64 p.k1.l, .string ⟨p.k1.path.toArray⟩] 26 33
  have c0 := (RR0.cell 0).trans (show _ = some (Value.int .i64 s.n) from rfl)
  have c1 := (RR0.cell 1).trans (show _ = some (Value.int .i64 s.d0.kind) from rfl)
  have c2 := (RR0.cell 2).trans (show _ = some (Value.int .i64 s.d0.side) from rfl)
  have c3 := (RR0.cell 3).trans (show _ = some (Value.int .i64 s.d0.step) from rfl)
  have c4 := (RR0.cell 4).trans (show _ = some (Value.int .i64 s.d1.kind) from rfl)
  have c5 := (RR0.cell 5).trans (show _ = some (Value.int .i64 s.d1.side) from rfl)
  have c6 := (RR0.cell 6).trans (show _ = some (Value.int .i64 s.d1.step) from rfl)
  have d0 := (RR1.cell 0).trans (show _ = some (Value.int .i64 p.a0) from rfl)
  have d1 := (RR1.cell 1).trans (show _ = some (Value.int .i64 p.a1) from rfl)
  have d2 := (RR1.cell 2).trans (show _ = some (Value.int .i64 p.k0.kind) from rfl)
  have d3 := (RR1.cell 3).trans (show _ = some (Value.int .i64 p.k0.len) from rfl)
  have d4 := (RR1.cell 4).trans (show _ = some (Value.int .u64 p.k0.h) from rfl)
  have d5 := (RR1.cell 5).trans (show _ = some (Value.int .u64 p.k0.l) from rfl)
  have d6 := (RR1.cell 6).trans (show _ = some (Value.string ⟨p.k0.path.toArray⟩) from rfl)
  have d7 := (RR1.cell 7).trans (show _ = some (Value.int .i64 p.k1.kind) from rfl)
  have d8 := (RR1.cell 8).trans (show _ = some (Value.int .i64 p.k1.len) from rfl)
  have d9 := (RR1.cell 9).trans (show _ = some (Value.int .u64 p.k1.h) from rfl)
  have d10 := (RR1.cell 10).trans (show _ = some (Value.int .u64 p.k1.l) from rfl)
  have d11 := (RR1.cell 11).trans (show _ = some (Value.string ⟨p.k1.path.toArray⟩) from rfl)
  clear RR0 RR1
  go_enter Try.func20, Try.ntmps20
  go_wp2_with fail
  refine (HS _).mono ?_
  rintro e w2 ⟨rfl, hb⟩
  replace c0 := cell_later hb c0
  replace c1 := cell_later hb c1
  replace c2 := cell_later hb c2
  replace c3 := cell_later hb c3
  replace c4 := cell_later hb c4
  replace c5 := cell_later hb c5
  replace c6 := cell_later hb c6
  replace d0 := cell_later hb d0
  replace d1 := cell_later hb d1
  replace d2 := cell_later hb d2
  replace d3 := cell_later hb d3
  replace d4 := cell_later hb d4
  replace d5 := cell_later hb d5
  replace d6 := cell_later hb d6
  replace d7 := cell_later hb d7
  replace d8 := cell_later hb d8
  replace d9 := cell_later hb d9
  replace d10 := cell_later hb d10
  replace d11 := cell_later hb d11
  replace hb0 := below_step hb0 hb
  clear hb
  have lc := World.block_lt_of_cell? _ _ c0
  dsimp only at lc
  have ld := World.block_lt_of_cell? _ _ d0
  dsimp only at ld
  go_wp2_with fail
  refine wp_loop_rounds 3 ?_
  rw [rounds_succ]
  go_wp2_with fail
  replace c0 := cell_later ((Below.refl (World.heap w2).size w2).alloc (Nat.le_refl _) (.cells #[.int .i64 p.k0.kind, .int .i64 p.k0.len, .int .u64 p.k0.h, .int .u64 p.k0.l, .string ⟨p.k0.path.toArray⟩] 30)) c0
  replace c1 := cell_later ((Below.refl (World.heap w2).size w2).alloc (Nat.le_refl _) (.cells #[.int .i64 p.k0.kind, .int .i64 p.k0.len, .int .u64 p.k0.h, .int .u64 p.k0.l, .string ⟨p.k0.path.toArray⟩] 30)) c1
  replace c2 := cell_later ((Below.refl (World.heap w2).size w2).alloc (Nat.le_refl _) (.cells #[.int .i64 p.k0.kind, .int .i64 p.k0.len, .int .u64 p.k0.h, .int .u64 p.k0.l, .string ⟨p.k0.path.toArray⟩] 30)) c2
  replace c3 := cell_later ((Below.refl (World.heap w2).size w2).alloc (Nat.le_refl _) (.cells #[.int .i64 p.k0.kind, .int .i64 p.k0.len, .int .u64 p.k0.h, .int .u64 p.k0.l, .string ⟨p.k0.path.toArray⟩] 30)) c3
  replace c4 := cell_later ((Below.refl (World.heap w2).size w2).alloc (Nat.le_refl _) (.cells #[.int .i64 p.k0.kind, .int .i64 p.k0.len, .int .u64 p.k0.h, .int .u64 p.k0.l, .string ⟨p.k0.path.toArray⟩] 30)) c4
  replace c5 := cell_later ((Below.refl (World.heap w2).size w2).alloc (Nat.le_refl _) (.cells #[.int .i64 p.k0.kind, .int .i64 p.k0.len, .int .u64 p.k0.h, .int .u64 p.k0.l, .string ⟨p.k0.path.toArray⟩] 30)) c5
  replace c6 := cell_later ((Below.refl (World.heap w2).size w2).alloc (Nat.le_refl _) (.cells #[.int .i64 p.k0.kind, .int .i64 p.k0.len, .int .u64 p.k0.h, .int .u64 p.k0.l, .string ⟨p.k0.path.toArray⟩] 30)) c6
  replace d0 := cell_later ((Below.refl (World.heap w2).size w2).alloc (Nat.le_refl _) (.cells #[.int .i64 p.k0.kind, .int .i64 p.k0.len, .int .u64 p.k0.h, .int .u64 p.k0.l, .string ⟨p.k0.path.toArray⟩] 30)) d0
  replace d1 := cell_later ((Below.refl (World.heap w2).size w2).alloc (Nat.le_refl _) (.cells #[.int .i64 p.k0.kind, .int .i64 p.k0.len, .int .u64 p.k0.h, .int .u64 p.k0.l, .string ⟨p.k0.path.toArray⟩] 30)) d1
  replace d2 := cell_later ((Below.refl (World.heap w2).size w2).alloc (Nat.le_refl _) (.cells #[.int .i64 p.k0.kind, .int .i64 p.k0.len, .int .u64 p.k0.h, .int .u64 p.k0.l, .string ⟨p.k0.path.toArray⟩] 30)) d2
  replace d3 := cell_later ((Below.refl (World.heap w2).size w2).alloc (Nat.le_refl _) (.cells #[.int .i64 p.k0.kind, .int .i64 p.k0.len, .int .u64 p.k0.h, .int .u64 p.k0.l, .string ⟨p.k0.path.toArray⟩] 30)) d3
  replace d4 := cell_later ((Below.refl (World.heap w2).size w2).alloc (Nat.le_refl _) (.cells #[.int .i64 p.k0.kind, .int .i64 p.k0.len, .int .u64 p.k0.h, .int .u64 p.k0.l, .string ⟨p.k0.path.toArray⟩] 30)) d4
  replace d5 := cell_later ((Below.refl (World.heap w2).size w2).alloc (Nat.le_refl _) (.cells #[.int .i64 p.k0.kind, .int .i64 p.k0.len, .int .u64 p.k0.h, .int .u64 p.k0.l, .string ⟨p.k0.path.toArray⟩] 30)) d5
  replace d6 := cell_later ((Below.refl (World.heap w2).size w2).alloc (Nat.le_refl _) (.cells #[.int .i64 p.k0.kind, .int .i64 p.k0.len, .int .u64 p.k0.h, .int .u64 p.k0.l, .string ⟨p.k0.path.toArray⟩] 30)) d6
  replace d7 := cell_later ((Below.refl (World.heap w2).size w2).alloc (Nat.le_refl _) (.cells #[.int .i64 p.k0.kind, .int .i64 p.k0.len, .int .u64 p.k0.h, .int .u64 p.k0.l, .string ⟨p.k0.path.toArray⟩] 30)) d7
  replace d8 := cell_later ((Below.refl (World.heap w2).size w2).alloc (Nat.le_refl _) (.cells #[.int .i64 p.k0.kind, .int .i64 p.k0.len, .int .u64 p.k0.h, .int .u64 p.k0.l, .string ⟨p.k0.path.toArray⟩] 30)) d8
  replace d9 := cell_later ((Below.refl (World.heap w2).size w2).alloc (Nat.le_refl _) (.cells #[.int .i64 p.k0.kind, .int .i64 p.k0.len, .int .u64 p.k0.h, .int .u64 p.k0.l, .string ⟨p.k0.path.toArray⟩] 30)) d9
  replace d10 := cell_later ((Below.refl (World.heap w2).size w2).alloc (Nat.le_refl _) (.cells #[.int .i64 p.k0.kind, .int .i64 p.k0.len, .int .u64 p.k0.h, .int .u64 p.k0.l, .string ⟨p.k0.path.toArray⟩] 30)) d10
  replace d11 := cell_later ((Below.refl (World.heap w2).size w2).alloc (Nat.le_refl _) (.cells #[.int .i64 p.k0.kind, .int .i64 p.k0.len, .int .u64 p.k0.h, .int .u64 p.k0.l, .string ⟨p.k0.path.toArray⟩] 30)) d11
  have k0 := ((Row.new w2 #[.int .i64 p.k0.kind, .int .i64 p.k0.len, .int .u64 p.k0.h, .int .u64 p.k0.l, .string ⟨p.k0.path.toArray⟩] 30).cell 0).trans (show _ = some (Value.int .i64 p.k0.kind) from rfl)
  have k1 := ((Row.new w2 #[.int .i64 p.k0.kind, .int .i64 p.k0.len, .int .u64 p.k0.h, .int .u64 p.k0.l, .string ⟨p.k0.path.toArray⟩] 30).cell 1).trans (show _ = some (Value.int .i64 p.k0.len) from rfl)
  have k2 := ((Row.new w2 #[.int .i64 p.k0.kind, .int .i64 p.k0.len, .int .u64 p.k0.h, .int .u64 p.k0.l, .string ⟨p.k0.path.toArray⟩] 30).cell 2).trans (show _ = some (Value.int .u64 p.k0.h) from rfl)
  have k3 := ((Row.new w2 #[.int .i64 p.k0.kind, .int .i64 p.k0.len, .int .u64 p.k0.h, .int .u64 p.k0.l, .string ⟨p.k0.path.toArray⟩] 30).cell 3).trans (show _ = some (Value.int .u64 p.k0.l) from rfl)
  have k4 := ((Row.new w2 #[.int .i64 p.k0.kind, .int .i64 p.k0.len, .int .u64 p.k0.h, .int .u64 p.k0.l, .string ⟨p.k0.path.toArray⟩] 30).cell 4).trans (show _ = some (Value.string ⟨p.k0.path.toArray⟩) from rfl)
  have mk := hb0.size
  replace hb0 := hb0.alloc hb0.size (.cells #[.int .i64 p.k0.kind, .int .i64 p.k0.len, .int .u64 p.k0.h, .int .u64 p.k0.l, .string ⟨p.k0.path.toArray⟩] 30)
  refine wp_region_held_drew (S := (fun w' => w'.cell? ⟨w.heap.size, 0, none⟩ = some (.int .i64 s.n) ∧ w'.cell? ⟨w.heap.size, 1, none⟩ = some (.int .i64 s.d0.kind) ∧ w'.cell? ⟨w.heap.size, 2, none⟩ = some (.int .i64 s.d0.side) ∧ w'.cell? ⟨w.heap.size, 3, none⟩ = some (.int .i64 s.d0.step) ∧ w'.cell? ⟨w.heap.size, 4, none⟩ = some (.int .i64 s.d1.kind) ∧ w'.cell? ⟨w.heap.size, 5, none⟩ = some (.int .i64 s.d1.side) ∧ w'.cell? ⟨w.heap.size, 6, none⟩ = some (.int .i64 s.d1.step) ∧ w'.cell? ⟨w.heap.size + 1, 0, none⟩ = some (.int .i64 p.a0) ∧ w'.cell? ⟨w.heap.size + 1, 1, none⟩ = some (.int .i64 p.a1) ∧ w'.cell? ⟨w.heap.size + 1, 2, none⟩ = some (.int .i64 p.k0.kind) ∧ w'.cell? ⟨w.heap.size + 1, 3, none⟩ = some (.int .i64 p.k0.len) ∧ w'.cell? ⟨w.heap.size + 1, 4, none⟩ = some (.int .u64 p.k0.h) ∧ w'.cell? ⟨w.heap.size + 1, 5, none⟩ = some (.int .u64 p.k0.l) ∧ w'.cell? ⟨w.heap.size + 1, 6, none⟩ = some (.string ⟨p.k0.path.toArray⟩) ∧ w'.cell? ⟨w.heap.size + 1, 7, none⟩ = some (.int .i64 p.k1.kind) ∧ w'.cell? ⟨w.heap.size + 1, 8, none⟩ = some (.int .i64 p.k1.len) ∧ w'.cell? ⟨w.heap.size + 1, 9, none⟩ = some (.int .u64 p.k1.h) ∧ w'.cell? ⟨w.heap.size + 1, 10, none⟩ = some (.int .u64 p.k1.l) ∧ w'.cell? ⟨w.heap.size + 1, 11, none⟩ = some (.string ⟨p.k1.path.toArray⟩) ∧ w'.cell? ⟨w2.heap.size, 0, none⟩ = some (Value.int .i64 p.k0.kind) ∧ w'.cell? ⟨w2.heap.size, 1, none⟩ = some (Value.int .i64 p.k0.len) ∧ w'.cell? ⟨w2.heap.size, 2, none⟩ = some (Value.int .u64 p.k0.h) ∧ w'.cell? ⟨w2.heap.size, 3, none⟩ = some (Value.int .u64 p.k0.l) ∧ w'.cell? ⟨w2.heap.size, 4, none⟩ = some (Value.string ⟨p.k0.path.toArray⟩) ∧ Below w.heap.size w w')) (by kernel_rfl) ?hSr27_ (fun hHeld => ?_)
  case hSr27_ => (first | exact ⟨c0, c1, c2, c3, c4, c5, c6, d0, d1, d2, d3, d4, d5, d6, d7, d8, d9, d10, d11, k0, k1, k2, k3, k4, hb0.drew⟩ | exact ⟨c0, c1, c2, c3, c4, c5, c6, d0, d1, d2, d3, d4, d5, d6, d7, d8, d9, d10, d11, k0, k1, k2, k3, k4, hb0⟩ | (obtain ⟨c0, c1, c2, c3, c4, c5, c6, d0, d1, d2, d3, d4, d5, d6, d7, d8, d9, d10, d11, k0, k1, k2, k3, k4, hb0⟩ := hHeld; exact ⟨cell_later hb c0, cell_later hb c1, cell_later hb c2, cell_later hb c3, cell_later hb c4, cell_later hb c5, cell_later hb c6, cell_later hb d0, cell_later hb d1, cell_later hb d2, cell_later hb d3, cell_later hb d4, cell_later hb d5, cell_later hb d6, cell_later hb d7, cell_later hb d8, cell_later hb d9, cell_later hb d10, cell_later hb d11, cell_later hb k0, cell_later hb k1, cell_later hb k2, cell_later hb k3, cell_later hb k4, below_step hb0 hb⟩))
  refine tk 0 ⟨some 16, .load 26 (.tmp 2), 26, _, _, _⟩ hHeld ?_
  (try simp only [Act.put, nz1, nz2, nz3])
  refine tk 1 ⟨some 17, .move (.tmp 5), 3, _, _, _⟩ hHeld ?_
  (try simp only [Act.put, nz1, nz2, nz3])
  refine tk 2 ⟨some 18, .move (.tmp 5), 3, _, _, _⟩ hHeld ?_
  (try simp only [Act.put, nz1, nz2, nz3])
  refine tk 3 ⟨some 19, .fieldAddr 33 (.tmp 3) 0, 0, _, _, _⟩ hHeld ?_
  (try simp only [Act.put, nz1, nz2, nz3])
  refine tk 4 ⟨some 20, .indexAddr 27 (.tmp 19) (.tmp 18), 0, _, _, _⟩ hHeld ?_
  (try simp only [Act.put, nz1, nz2, nz3])
  refine tk 5 ⟨some 21, .load 3 (.tmp 20), 3, _, _, _⟩ hHeld ?_
  (try simp only [Act.put, nz1, nz2, nz3])
  refine tk 6 ⟨some 22, .load 30 (.tmp 6), 30, _, _, _⟩ hHeld ?_
  (try simp only [Act.put, nz1, nz2, nz3])
  refine wpAnyH_ready (rs := [7]) (by kernel_rfl) (by simp) ?_
  refine AllReadyH.cons (o := ⟨some 23, .call { callee := .value (.func 53), args := #[.tmp 16, .tmp 17, .tmp 21, .tmp 22], argTypes := #[26, 3, 3, 30] }, 4, _, _, _⟩) rfl (fun K hK => ?_) AllReadyH.nil
  (go_simp; (refine (HA _).mono ?_); (rintro e wn ⟨rfl, hb⟩); go_wp2_with fail)
  refine hK.out _ _ ?hSr27_8_7 (fun hHeld2 => ?_)
  case hSr27_8_7 => (first | exact ⟨c0, c1, c2, c3, c4, c5, c6, d0, d1, d2, d3, d4, d5, d6, d7, d8, d9, d10, d11, k0, k1, k2, k3, k4, hb0.drew⟩ | exact ⟨c0, c1, c2, c3, c4, c5, c6, d0, d1, d2, d3, d4, d5, d6, d7, d8, d9, d10, d11, k0, k1, k2, k3, k4, hb0⟩ | (obtain ⟨c0, c1, c2, c3, c4, c5, c6, d0, d1, d2, d3, d4, d5, d6, d7, d8, d9, d10, d11, k0, k1, k2, k3, k4, hb0⟩ := hHeld; exact ⟨cell_later hb c0, cell_later hb c1, cell_later hb c2, cell_later hb c3, cell_later hb c4, cell_later hb c5, cell_later hb c6, cell_later hb d0, cell_later hb d1, cell_later hb d2, cell_later hb d3, cell_later hb d4, cell_later hb d5, cell_later hb d6, cell_later hb d7, cell_later hb d8, cell_later hb d9, cell_later hb d10, cell_later hb d11, cell_later hb k0, cell_later hb k1, cell_later hb k2, cell_later hb k3, cell_later hb k4, below_step hb0 hb⟩))
  clear hK K hHeld
  have hHeld := hHeld2
  clear hHeld2
  (try simp only [Act.put, nz1, nz2, nz3])
  refine tk 8 ⟨some 24, .unOp .not 4 (.tmp 23), 4, _, _, _⟩ hHeld ?_
  (try simp only [Act.put, nz1, nz2, nz3])
  refine wpAnyH_done (by kernel_rfl) ?_ _
  clear c0 c1 c2 c3 c4 c5 c6 d0 d1 d2 d3 d4 d5 d6 d7 d8 d9 d10 d11 k0 k1 k2 k3 k4 hb0
  obtain ⟨c0, c1, c2, c3, c4, c5, c6, d0, d1, d2, d3, d4, d5, d6, d7, d8, d9, d10, d11, k0, k1, k2, k3, k4, hb0⟩ := hHeld
  go_wp2
  go_ret
  exact ⟨rfl, hb0⟩
set_option maxRecDepth 100000 in
set_option maxHeartbeats 8000000 in
theorem right_no1 (s : Sp) (p : Px) (HA : ∀ w, Calls Try.prog 53 #[sv s, .int .i64 0, .int .i64 p.a0, kv p.k0] w fun e w' => e = .returned (.bool true) ∧ Below w.heap.size w w') (HB : ∀ w, Calls Try.prog 53 #[sv s, .int .i64 1, .int .i64 p.a1, kv p.k1] w fun e w' => e = .returned (.bool false) ∧ Below w.heap.size w w') (HS : ∀ w, Calls Try.prog 18 #[sv s] w fun e w' => e = .returned (.bool true) ∧ Below w.heap.size w w') (w : World) : Calls Try.prog 20 #[sv s, pv p] w fun e w' => e = .returned (.bool false) ∧ Below w.heap.size w w' := by
  have i0 := ixk0
  have i1 := ixk1
  unfold sv at *
  unfold pv
  unfold kv at *
  obtain ⟨RR0, RR1, hb0⟩ := two_rows w #[.int .i64 s.n, .int .i64 s.d0.kind, .int .i64 s.d0.side, .int .i64 s.d0.step, .int .i64 s.d1.kind, .int .i64 s.d1.side, .int .i64 s.d1.step] #[.int .i64 p.a0, .int .i64 p.a1, .int .i64 p.k0.kind, .int .i64 p.k0.len, .int .u64 p.k0.h, .int .u64 p.k0.l, .string ⟨p.k0.path.toArray⟩, .int .i64 p.k1.kind, .int .i64 p.k1.len, .int .u64 p.k1.h, .int .u64 p.k1.l, .string ⟨p.k1.path.toArray⟩] 26 33
  have c0 := (RR0.cell 0).trans (show _ = some (Value.int .i64 s.n) from rfl)
  have c1 := (RR0.cell 1).trans (show _ = some (Value.int .i64 s.d0.kind) from rfl)
  have c2 := (RR0.cell 2).trans (show _ = some (Value.int .i64 s.d0.side) from rfl)
  have c3 := (RR0.cell 3).trans (show _ = some (Value.int .i64 s.d0.step) from rfl)
  have c4 := (RR0.cell 4).trans (show _ = some (Value.int .i64 s.d1.kind) from rfl)
  have c5 := (RR0.cell 5).trans (show _ = some (Value.int .i64 s.d1.side) from rfl)
  have c6 := (RR0.cell 6).trans (show _ = some (Value.int .i64 s.d1.step) from rfl)
  have d0 := (RR1.cell 0).trans (show _ = some (Value.int .i64 p.a0) from rfl)
  have d1 := (RR1.cell 1).trans (show _ = some (Value.int .i64 p.a1) from rfl)
  have d2 := (RR1.cell 2).trans (show _ = some (Value.int .i64 p.k0.kind) from rfl)
  have d3 := (RR1.cell 3).trans (show _ = some (Value.int .i64 p.k0.len) from rfl)
  have d4 := (RR1.cell 4).trans (show _ = some (Value.int .u64 p.k0.h) from rfl)
  have d5 := (RR1.cell 5).trans (show _ = some (Value.int .u64 p.k0.l) from rfl)
  have d6 := (RR1.cell 6).trans (show _ = some (Value.string ⟨p.k0.path.toArray⟩) from rfl)
  have d7 := (RR1.cell 7).trans (show _ = some (Value.int .i64 p.k1.kind) from rfl)
  have d8 := (RR1.cell 8).trans (show _ = some (Value.int .i64 p.k1.len) from rfl)
  have d9 := (RR1.cell 9).trans (show _ = some (Value.int .u64 p.k1.h) from rfl)
  have d10 := (RR1.cell 10).trans (show _ = some (Value.int .u64 p.k1.l) from rfl)
  have d11 := (RR1.cell 11).trans (show _ = some (Value.string ⟨p.k1.path.toArray⟩) from rfl)
  clear RR0 RR1
  go_enter Try.func20, Try.ntmps20
  go_wp2_with fail
  refine (HS _).mono ?_
  rintro e w3 ⟨rfl, hb⟩
  replace c0 := cell_later hb c0
  replace c1 := cell_later hb c1
  replace c2 := cell_later hb c2
  replace c3 := cell_later hb c3
  replace c4 := cell_later hb c4
  replace c5 := cell_later hb c5
  replace c6 := cell_later hb c6
  replace d0 := cell_later hb d0
  replace d1 := cell_later hb d1
  replace d2 := cell_later hb d2
  replace d3 := cell_later hb d3
  replace d4 := cell_later hb d4
  replace d5 := cell_later hb d5
  replace d6 := cell_later hb d6
  replace d7 := cell_later hb d7
  replace d8 := cell_later hb d8
  replace d9 := cell_later hb d9
  replace d10 := cell_later hb d10
  replace d11 := cell_later hb d11
  replace hb0 := below_step hb0 hb
  clear hb
  have lc := World.block_lt_of_cell? _ _ c0
  dsimp only at lc
  have ld := World.block_lt_of_cell? _ _ d0
  dsimp only at ld
  go_wp2_with fail
  refine wp_loop_rounds 3 ?_
  rw [rounds_succ]
  go_wp2_with fail
  replace c0 := cell_later ((Below.refl (World.heap w3).size w3).alloc (Nat.le_refl _) (.cells #[.int .i64 p.k0.kind, .int .i64 p.k0.len, .int .u64 p.k0.h, .int .u64 p.k0.l, .string ⟨p.k0.path.toArray⟩] 30)) c0
  replace c1 := cell_later ((Below.refl (World.heap w3).size w3).alloc (Nat.le_refl _) (.cells #[.int .i64 p.k0.kind, .int .i64 p.k0.len, .int .u64 p.k0.h, .int .u64 p.k0.l, .string ⟨p.k0.path.toArray⟩] 30)) c1
  replace c2 := cell_later ((Below.refl (World.heap w3).size w3).alloc (Nat.le_refl _) (.cells #[.int .i64 p.k0.kind, .int .i64 p.k0.len, .int .u64 p.k0.h, .int .u64 p.k0.l, .string ⟨p.k0.path.toArray⟩] 30)) c2
  replace c3 := cell_later ((Below.refl (World.heap w3).size w3).alloc (Nat.le_refl _) (.cells #[.int .i64 p.k0.kind, .int .i64 p.k0.len, .int .u64 p.k0.h, .int .u64 p.k0.l, .string ⟨p.k0.path.toArray⟩] 30)) c3
  replace c4 := cell_later ((Below.refl (World.heap w3).size w3).alloc (Nat.le_refl _) (.cells #[.int .i64 p.k0.kind, .int .i64 p.k0.len, .int .u64 p.k0.h, .int .u64 p.k0.l, .string ⟨p.k0.path.toArray⟩] 30)) c4
  replace c5 := cell_later ((Below.refl (World.heap w3).size w3).alloc (Nat.le_refl _) (.cells #[.int .i64 p.k0.kind, .int .i64 p.k0.len, .int .u64 p.k0.h, .int .u64 p.k0.l, .string ⟨p.k0.path.toArray⟩] 30)) c5
  replace c6 := cell_later ((Below.refl (World.heap w3).size w3).alloc (Nat.le_refl _) (.cells #[.int .i64 p.k0.kind, .int .i64 p.k0.len, .int .u64 p.k0.h, .int .u64 p.k0.l, .string ⟨p.k0.path.toArray⟩] 30)) c6
  replace d0 := cell_later ((Below.refl (World.heap w3).size w3).alloc (Nat.le_refl _) (.cells #[.int .i64 p.k0.kind, .int .i64 p.k0.len, .int .u64 p.k0.h, .int .u64 p.k0.l, .string ⟨p.k0.path.toArray⟩] 30)) d0
  replace d1 := cell_later ((Below.refl (World.heap w3).size w3).alloc (Nat.le_refl _) (.cells #[.int .i64 p.k0.kind, .int .i64 p.k0.len, .int .u64 p.k0.h, .int .u64 p.k0.l, .string ⟨p.k0.path.toArray⟩] 30)) d1
  replace d2 := cell_later ((Below.refl (World.heap w3).size w3).alloc (Nat.le_refl _) (.cells #[.int .i64 p.k0.kind, .int .i64 p.k0.len, .int .u64 p.k0.h, .int .u64 p.k0.l, .string ⟨p.k0.path.toArray⟩] 30)) d2
  replace d3 := cell_later ((Below.refl (World.heap w3).size w3).alloc (Nat.le_refl _) (.cells #[.int .i64 p.k0.kind, .int .i64 p.k0.len, .int .u64 p.k0.h, .int .u64 p.k0.l, .string ⟨p.k0.path.toArray⟩] 30)) d3
  replace d4 := cell_later ((Below.refl (World.heap w3).size w3).alloc (Nat.le_refl _) (.cells #[.int .i64 p.k0.kind, .int .i64 p.k0.len, .int .u64 p.k0.h, .int .u64 p.k0.l, .string ⟨p.k0.path.toArray⟩] 30)) d4
  replace d5 := cell_later ((Below.refl (World.heap w3).size w3).alloc (Nat.le_refl _) (.cells #[.int .i64 p.k0.kind, .int .i64 p.k0.len, .int .u64 p.k0.h, .int .u64 p.k0.l, .string ⟨p.k0.path.toArray⟩] 30)) d5
  replace d6 := cell_later ((Below.refl (World.heap w3).size w3).alloc (Nat.le_refl _) (.cells #[.int .i64 p.k0.kind, .int .i64 p.k0.len, .int .u64 p.k0.h, .int .u64 p.k0.l, .string ⟨p.k0.path.toArray⟩] 30)) d6
  replace d7 := cell_later ((Below.refl (World.heap w3).size w3).alloc (Nat.le_refl _) (.cells #[.int .i64 p.k0.kind, .int .i64 p.k0.len, .int .u64 p.k0.h, .int .u64 p.k0.l, .string ⟨p.k0.path.toArray⟩] 30)) d7
  replace d8 := cell_later ((Below.refl (World.heap w3).size w3).alloc (Nat.le_refl _) (.cells #[.int .i64 p.k0.kind, .int .i64 p.k0.len, .int .u64 p.k0.h, .int .u64 p.k0.l, .string ⟨p.k0.path.toArray⟩] 30)) d8
  replace d9 := cell_later ((Below.refl (World.heap w3).size w3).alloc (Nat.le_refl _) (.cells #[.int .i64 p.k0.kind, .int .i64 p.k0.len, .int .u64 p.k0.h, .int .u64 p.k0.l, .string ⟨p.k0.path.toArray⟩] 30)) d9
  replace d10 := cell_later ((Below.refl (World.heap w3).size w3).alloc (Nat.le_refl _) (.cells #[.int .i64 p.k0.kind, .int .i64 p.k0.len, .int .u64 p.k0.h, .int .u64 p.k0.l, .string ⟨p.k0.path.toArray⟩] 30)) d10
  replace d11 := cell_later ((Below.refl (World.heap w3).size w3).alloc (Nat.le_refl _) (.cells #[.int .i64 p.k0.kind, .int .i64 p.k0.len, .int .u64 p.k0.h, .int .u64 p.k0.l, .string ⟨p.k0.path.toArray⟩] 30)) d11
  have k0 := ((Row.new w3 #[.int .i64 p.k0.kind, .int .i64 p.k0.len, .int .u64 p.k0.h, .int .u64 p.k0.l, .string ⟨p.k0.path.toArray⟩] 30).cell 0).trans (show _ = some (Value.int .i64 p.k0.kind) from rfl)
  have k1 := ((Row.new w3 #[.int .i64 p.k0.kind, .int .i64 p.k0.len, .int .u64 p.k0.h, .int .u64 p.k0.l, .string ⟨p.k0.path.toArray⟩] 30).cell 1).trans (show _ = some (Value.int .i64 p.k0.len) from rfl)
  have k2 := ((Row.new w3 #[.int .i64 p.k0.kind, .int .i64 p.k0.len, .int .u64 p.k0.h, .int .u64 p.k0.l, .string ⟨p.k0.path.toArray⟩] 30).cell 2).trans (show _ = some (Value.int .u64 p.k0.h) from rfl)
  have k3 := ((Row.new w3 #[.int .i64 p.k0.kind, .int .i64 p.k0.len, .int .u64 p.k0.h, .int .u64 p.k0.l, .string ⟨p.k0.path.toArray⟩] 30).cell 3).trans (show _ = some (Value.int .u64 p.k0.l) from rfl)
  have k4 := ((Row.new w3 #[.int .i64 p.k0.kind, .int .i64 p.k0.len, .int .u64 p.k0.h, .int .u64 p.k0.l, .string ⟨p.k0.path.toArray⟩] 30).cell 4).trans (show _ = some (Value.string ⟨p.k0.path.toArray⟩) from rfl)
  have mk := hb0.size
  replace hb0 := hb0.alloc hb0.size (.cells #[.int .i64 p.k0.kind, .int .i64 p.k0.len, .int .u64 p.k0.h, .int .u64 p.k0.l, .string ⟨p.k0.path.toArray⟩] 30)
  refine wp_region_held_drew (S := (fun w' => w'.cell? ⟨w.heap.size, 0, none⟩ = some (.int .i64 s.n) ∧ w'.cell? ⟨w.heap.size, 1, none⟩ = some (.int .i64 s.d0.kind) ∧ w'.cell? ⟨w.heap.size, 2, none⟩ = some (.int .i64 s.d0.side) ∧ w'.cell? ⟨w.heap.size, 3, none⟩ = some (.int .i64 s.d0.step) ∧ w'.cell? ⟨w.heap.size, 4, none⟩ = some (.int .i64 s.d1.kind) ∧ w'.cell? ⟨w.heap.size, 5, none⟩ = some (.int .i64 s.d1.side) ∧ w'.cell? ⟨w.heap.size, 6, none⟩ = some (.int .i64 s.d1.step) ∧ w'.cell? ⟨w.heap.size + 1, 0, none⟩ = some (.int .i64 p.a0) ∧ w'.cell? ⟨w.heap.size + 1, 1, none⟩ = some (.int .i64 p.a1) ∧ w'.cell? ⟨w.heap.size + 1, 2, none⟩ = some (.int .i64 p.k0.kind) ∧ w'.cell? ⟨w.heap.size + 1, 3, none⟩ = some (.int .i64 p.k0.len) ∧ w'.cell? ⟨w.heap.size + 1, 4, none⟩ = some (.int .u64 p.k0.h) ∧ w'.cell? ⟨w.heap.size + 1, 5, none⟩ = some (.int .u64 p.k0.l) ∧ w'.cell? ⟨w.heap.size + 1, 6, none⟩ = some (.string ⟨p.k0.path.toArray⟩) ∧ w'.cell? ⟨w.heap.size + 1, 7, none⟩ = some (.int .i64 p.k1.kind) ∧ w'.cell? ⟨w.heap.size + 1, 8, none⟩ = some (.int .i64 p.k1.len) ∧ w'.cell? ⟨w.heap.size + 1, 9, none⟩ = some (.int .u64 p.k1.h) ∧ w'.cell? ⟨w.heap.size + 1, 10, none⟩ = some (.int .u64 p.k1.l) ∧ w'.cell? ⟨w.heap.size + 1, 11, none⟩ = some (.string ⟨p.k1.path.toArray⟩) ∧ w'.cell? ⟨w3.heap.size, 0, none⟩ = some (Value.int .i64 p.k0.kind) ∧ w'.cell? ⟨w3.heap.size, 1, none⟩ = some (Value.int .i64 p.k0.len) ∧ w'.cell? ⟨w3.heap.size, 2, none⟩ = some (Value.int .u64 p.k0.h) ∧ w'.cell? ⟨w3.heap.size, 3, none⟩ = some (Value.int .u64 p.k0.l) ∧ w'.cell? ⟨w3.heap.size, 4, none⟩ = some (Value.string ⟨p.k0.path.toArray⟩) ∧ Below w.heap.size w w')) (by kernel_rfl) ?hSr28_ (fun hHeld => ?_)
  case hSr28_ => (first | exact ⟨c0, c1, c2, c3, c4, c5, c6, d0, d1, d2, d3, d4, d5, d6, d7, d8, d9, d10, d11, k0, k1, k2, k3, k4, hb0.drew⟩ | exact ⟨c0, c1, c2, c3, c4, c5, c6, d0, d1, d2, d3, d4, d5, d6, d7, d8, d9, d10, d11, k0, k1, k2, k3, k4, hb0⟩ | (obtain ⟨c0, c1, c2, c3, c4, c5, c6, d0, d1, d2, d3, d4, d5, d6, d7, d8, d9, d10, d11, k0, k1, k2, k3, k4, hb0⟩ := hHeld; exact ⟨cell_later hb c0, cell_later hb c1, cell_later hb c2, cell_later hb c3, cell_later hb c4, cell_later hb c5, cell_later hb c6, cell_later hb d0, cell_later hb d1, cell_later hb d2, cell_later hb d3, cell_later hb d4, cell_later hb d5, cell_later hb d6, cell_later hb d7, cell_later hb d8, cell_later hb d9, cell_later hb d10, cell_later hb d11, cell_later hb k0, cell_later hb k1, cell_later hb k2, cell_later hb k3, cell_later hb k4, below_step hb0 hb⟩))
  refine tk 0 ⟨some 16, .load 26 (.tmp 2), 26, _, _, _⟩ hHeld ?_
  (try simp only [Act.put, nz1, nz2, nz3])
  refine tk 1 ⟨some 17, .move (.tmp 5), 3, _, _, _⟩ hHeld ?_
  (try simp only [Act.put, nz1, nz2, nz3])
  refine tk 2 ⟨some 18, .move (.tmp 5), 3, _, _, _⟩ hHeld ?_
  (try simp only [Act.put, nz1, nz2, nz3])
  refine tk 3 ⟨some 19, .fieldAddr 33 (.tmp 3) 0, 0, _, _, _⟩ hHeld ?_
  (try simp only [Act.put, nz1, nz2, nz3])
  refine tk 4 ⟨some 20, .indexAddr 27 (.tmp 19) (.tmp 18), 0, _, _, _⟩ hHeld ?_
  (try simp only [Act.put, nz1, nz2, nz3])
  refine tk 5 ⟨some 21, .load 3 (.tmp 20), 3, _, _, _⟩ hHeld ?_
  (try simp only [Act.put, nz1, nz2, nz3])
  refine tk 6 ⟨some 22, .load 30 (.tmp 6), 30, _, _, _⟩ hHeld ?_
  (try simp only [Act.put, nz1, nz2, nz3])
  refine wpAnyH_ready (rs := [7]) (by kernel_rfl) (by simp) ?_
  refine AllReadyH.cons (o := ⟨some 23, .call { callee := .value (.func 53), args := #[.tmp 16, .tmp 17, .tmp 21, .tmp 22], argTypes := #[26, 3, 3, 30] }, 4, _, _, _⟩) rfl (fun K hK => ?_) AllReadyH.nil
  (go_simp; (refine (HA _).mono ?_); (rintro e wn ⟨rfl, hb⟩); go_wp2_with fail)
  refine hK.out _ _ ?hSr28_8_7 (fun hHeld2 => ?_)
  case hSr28_8_7 => (first | exact ⟨c0, c1, c2, c3, c4, c5, c6, d0, d1, d2, d3, d4, d5, d6, d7, d8, d9, d10, d11, k0, k1, k2, k3, k4, hb0.drew⟩ | exact ⟨c0, c1, c2, c3, c4, c5, c6, d0, d1, d2, d3, d4, d5, d6, d7, d8, d9, d10, d11, k0, k1, k2, k3, k4, hb0⟩ | (obtain ⟨c0, c1, c2, c3, c4, c5, c6, d0, d1, d2, d3, d4, d5, d6, d7, d8, d9, d10, d11, k0, k1, k2, k3, k4, hb0⟩ := hHeld; exact ⟨cell_later hb c0, cell_later hb c1, cell_later hb c2, cell_later hb c3, cell_later hb c4, cell_later hb c5, cell_later hb c6, cell_later hb d0, cell_later hb d1, cell_later hb d2, cell_later hb d3, cell_later hb d4, cell_later hb d5, cell_later hb d6, cell_later hb d7, cell_later hb d8, cell_later hb d9, cell_later hb d10, cell_later hb d11, cell_later hb k0, cell_later hb k1, cell_later hb k2, cell_later hb k3, cell_later hb k4, below_step hb0 hb⟩))
  clear hK K hHeld
  have hHeld := hHeld2
  clear hHeld2
  (try simp only [Act.put, nz1, nz2, nz3])
  refine tk 8 ⟨some 24, .unOp .not 4 (.tmp 23), 4, _, _, _⟩ hHeld ?_
  (try simp only [Act.put, nz1, nz2, nz3])
  refine wpAnyH_done (by kernel_rfl) ?_ _
  clear c0 c1 c2 c3 c4 c5 c6 d0 d1 d2 d3 d4 d5 d6 d7 d8 d9 d10 d11 k0 k1 k2 k3 k4 hb0
  obtain ⟨c0, c1, c2, c3, c4, c5, c6, d0, d1, d2, d3, d4, d5, d6, d7, d8, d9, d10, d11, k0, k1, k2, k3, k4, hb0⟩ := hHeld
  go_wp2
  rw [rounds_succ]
  go_wp2_with fail
  replace c0 := cell_later ((Below.refl (World.heap wn).size wn).alloc (Nat.le_refl _) (.cells #[.int .i64 p.k1.kind, .int .i64 p.k1.len, .int .u64 p.k1.h, .int .u64 p.k1.l, .string ⟨p.k1.path.toArray⟩] 30)) c0
  replace c1 := cell_later ((Below.refl (World.heap wn).size wn).alloc (Nat.le_refl _) (.cells #[.int .i64 p.k1.kind, .int .i64 p.k1.len, .int .u64 p.k1.h, .int .u64 p.k1.l, .string ⟨p.k1.path.toArray⟩] 30)) c1
  replace c2 := cell_later ((Below.refl (World.heap wn).size wn).alloc (Nat.le_refl _) (.cells #[.int .i64 p.k1.kind, .int .i64 p.k1.len, .int .u64 p.k1.h, .int .u64 p.k1.l, .string ⟨p.k1.path.toArray⟩] 30)) c2
  replace c3 := cell_later ((Below.refl (World.heap wn).size wn).alloc (Nat.le_refl _) (.cells #[.int .i64 p.k1.kind, .int .i64 p.k1.len, .int .u64 p.k1.h, .int .u64 p.k1.l, .string ⟨p.k1.path.toArray⟩] 30)) c3
  replace c4 := cell_later ((Below.refl (World.heap wn).size wn).alloc (Nat.le_refl _) (.cells #[.int .i64 p.k1.kind, .int .i64 p.k1.len, .int .u64 p.k1.h, .int .u64 p.k1.l, .string ⟨p.k1.path.toArray⟩] 30)) c4
  replace c5 := cell_later ((Below.refl (World.heap wn).size wn).alloc (Nat.le_refl _) (.cells #[.int .i64 p.k1.kind, .int .i64 p.k1.len, .int .u64 p.k1.h, .int .u64 p.k1.l, .string ⟨p.k1.path.toArray⟩] 30)) c5
  replace c6 := cell_later ((Below.refl (World.heap wn).size wn).alloc (Nat.le_refl _) (.cells #[.int .i64 p.k1.kind, .int .i64 p.k1.len, .int .u64 p.k1.h, .int .u64 p.k1.l, .string ⟨p.k1.path.toArray⟩] 30)) c6
  replace d0 := cell_later ((Below.refl (World.heap wn).size wn).alloc (Nat.le_refl _) (.cells #[.int .i64 p.k1.kind, .int .i64 p.k1.len, .int .u64 p.k1.h, .int .u64 p.k1.l, .string ⟨p.k1.path.toArray⟩] 30)) d0
  replace d1 := cell_later ((Below.refl (World.heap wn).size wn).alloc (Nat.le_refl _) (.cells #[.int .i64 p.k1.kind, .int .i64 p.k1.len, .int .u64 p.k1.h, .int .u64 p.k1.l, .string ⟨p.k1.path.toArray⟩] 30)) d1
  replace d2 := cell_later ((Below.refl (World.heap wn).size wn).alloc (Nat.le_refl _) (.cells #[.int .i64 p.k1.kind, .int .i64 p.k1.len, .int .u64 p.k1.h, .int .u64 p.k1.l, .string ⟨p.k1.path.toArray⟩] 30)) d2
  replace d3 := cell_later ((Below.refl (World.heap wn).size wn).alloc (Nat.le_refl _) (.cells #[.int .i64 p.k1.kind, .int .i64 p.k1.len, .int .u64 p.k1.h, .int .u64 p.k1.l, .string ⟨p.k1.path.toArray⟩] 30)) d3
  replace d4 := cell_later ((Below.refl (World.heap wn).size wn).alloc (Nat.le_refl _) (.cells #[.int .i64 p.k1.kind, .int .i64 p.k1.len, .int .u64 p.k1.h, .int .u64 p.k1.l, .string ⟨p.k1.path.toArray⟩] 30)) d4
  replace d5 := cell_later ((Below.refl (World.heap wn).size wn).alloc (Nat.le_refl _) (.cells #[.int .i64 p.k1.kind, .int .i64 p.k1.len, .int .u64 p.k1.h, .int .u64 p.k1.l, .string ⟨p.k1.path.toArray⟩] 30)) d5
  replace d6 := cell_later ((Below.refl (World.heap wn).size wn).alloc (Nat.le_refl _) (.cells #[.int .i64 p.k1.kind, .int .i64 p.k1.len, .int .u64 p.k1.h, .int .u64 p.k1.l, .string ⟨p.k1.path.toArray⟩] 30)) d6
  replace d7 := cell_later ((Below.refl (World.heap wn).size wn).alloc (Nat.le_refl _) (.cells #[.int .i64 p.k1.kind, .int .i64 p.k1.len, .int .u64 p.k1.h, .int .u64 p.k1.l, .string ⟨p.k1.path.toArray⟩] 30)) d7
  replace d8 := cell_later ((Below.refl (World.heap wn).size wn).alloc (Nat.le_refl _) (.cells #[.int .i64 p.k1.kind, .int .i64 p.k1.len, .int .u64 p.k1.h, .int .u64 p.k1.l, .string ⟨p.k1.path.toArray⟩] 30)) d8
  replace d9 := cell_later ((Below.refl (World.heap wn).size wn).alloc (Nat.le_refl _) (.cells #[.int .i64 p.k1.kind, .int .i64 p.k1.len, .int .u64 p.k1.h, .int .u64 p.k1.l, .string ⟨p.k1.path.toArray⟩] 30)) d9
  replace d10 := cell_later ((Below.refl (World.heap wn).size wn).alloc (Nat.le_refl _) (.cells #[.int .i64 p.k1.kind, .int .i64 p.k1.len, .int .u64 p.k1.h, .int .u64 p.k1.l, .string ⟨p.k1.path.toArray⟩] 30)) d10
  replace d11 := cell_later ((Below.refl (World.heap wn).size wn).alloc (Nat.le_refl _) (.cells #[.int .i64 p.k1.kind, .int .i64 p.k1.len, .int .u64 p.k1.h, .int .u64 p.k1.l, .string ⟨p.k1.path.toArray⟩] 30)) d11
  replace k0 := cell_later ((Below.refl (World.heap wn).size wn).alloc (Nat.le_refl _) (.cells #[.int .i64 p.k1.kind, .int .i64 p.k1.len, .int .u64 p.k1.h, .int .u64 p.k1.l, .string ⟨p.k1.path.toArray⟩] 30)) k0
  replace k1 := cell_later ((Below.refl (World.heap wn).size wn).alloc (Nat.le_refl _) (.cells #[.int .i64 p.k1.kind, .int .i64 p.k1.len, .int .u64 p.k1.h, .int .u64 p.k1.l, .string ⟨p.k1.path.toArray⟩] 30)) k1
  replace k2 := cell_later ((Below.refl (World.heap wn).size wn).alloc (Nat.le_refl _) (.cells #[.int .i64 p.k1.kind, .int .i64 p.k1.len, .int .u64 p.k1.h, .int .u64 p.k1.l, .string ⟨p.k1.path.toArray⟩] 30)) k2
  replace k3 := cell_later ((Below.refl (World.heap wn).size wn).alloc (Nat.le_refl _) (.cells #[.int .i64 p.k1.kind, .int .i64 p.k1.len, .int .u64 p.k1.h, .int .u64 p.k1.l, .string ⟨p.k1.path.toArray⟩] 30)) k3
  replace k4 := cell_later ((Below.refl (World.heap wn).size wn).alloc (Nat.le_refl _) (.cells #[.int .i64 p.k1.kind, .int .i64 p.k1.len, .int .u64 p.k1.h, .int .u64 p.k1.l, .string ⟨p.k1.path.toArray⟩] 30)) k4
  have f0 := ((Row.new wn #[.int .i64 p.k1.kind, .int .i64 p.k1.len, .int .u64 p.k1.h, .int .u64 p.k1.l, .string ⟨p.k1.path.toArray⟩] 30).cell 0).trans (show _ = some (Value.int .i64 p.k1.kind) from rfl)
  have f1 := ((Row.new wn #[.int .i64 p.k1.kind, .int .i64 p.k1.len, .int .u64 p.k1.h, .int .u64 p.k1.l, .string ⟨p.k1.path.toArray⟩] 30).cell 1).trans (show _ = some (Value.int .i64 p.k1.len) from rfl)
  have f2 := ((Row.new wn #[.int .i64 p.k1.kind, .int .i64 p.k1.len, .int .u64 p.k1.h, .int .u64 p.k1.l, .string ⟨p.k1.path.toArray⟩] 30).cell 2).trans (show _ = some (Value.int .u64 p.k1.h) from rfl)
  have f3 := ((Row.new wn #[.int .i64 p.k1.kind, .int .i64 p.k1.len, .int .u64 p.k1.h, .int .u64 p.k1.l, .string ⟨p.k1.path.toArray⟩] 30).cell 3).trans (show _ = some (Value.int .u64 p.k1.l) from rfl)
  have f4 := ((Row.new wn #[.int .i64 p.k1.kind, .int .i64 p.k1.len, .int .u64 p.k1.h, .int .u64 p.k1.l, .string ⟨p.k1.path.toArray⟩] 30).cell 4).trans (show _ = some (Value.string ⟨p.k1.path.toArray⟩) from rfl)
  have mf := hb0.size
  replace hb0 := hb0.alloc hb0.size (.cells #[.int .i64 p.k1.kind, .int .i64 p.k1.len, .int .u64 p.k1.h, .int .u64 p.k1.l, .string ⟨p.k1.path.toArray⟩] 30)
  refine wp_region_held_drew (S := (fun w' => w'.cell? ⟨w.heap.size, 0, none⟩ = some (.int .i64 s.n) ∧ w'.cell? ⟨w.heap.size, 1, none⟩ = some (.int .i64 s.d0.kind) ∧ w'.cell? ⟨w.heap.size, 2, none⟩ = some (.int .i64 s.d0.side) ∧ w'.cell? ⟨w.heap.size, 3, none⟩ = some (.int .i64 s.d0.step) ∧ w'.cell? ⟨w.heap.size, 4, none⟩ = some (.int .i64 s.d1.kind) ∧ w'.cell? ⟨w.heap.size, 5, none⟩ = some (.int .i64 s.d1.side) ∧ w'.cell? ⟨w.heap.size, 6, none⟩ = some (.int .i64 s.d1.step) ∧ w'.cell? ⟨w.heap.size + 1, 0, none⟩ = some (.int .i64 p.a0) ∧ w'.cell? ⟨w.heap.size + 1, 1, none⟩ = some (.int .i64 p.a1) ∧ w'.cell? ⟨w.heap.size + 1, 2, none⟩ = some (.int .i64 p.k0.kind) ∧ w'.cell? ⟨w.heap.size + 1, 3, none⟩ = some (.int .i64 p.k0.len) ∧ w'.cell? ⟨w.heap.size + 1, 4, none⟩ = some (.int .u64 p.k0.h) ∧ w'.cell? ⟨w.heap.size + 1, 5, none⟩ = some (.int .u64 p.k0.l) ∧ w'.cell? ⟨w.heap.size + 1, 6, none⟩ = some (.string ⟨p.k0.path.toArray⟩) ∧ w'.cell? ⟨w.heap.size + 1, 7, none⟩ = some (.int .i64 p.k1.kind) ∧ w'.cell? ⟨w.heap.size + 1, 8, none⟩ = some (.int .i64 p.k1.len) ∧ w'.cell? ⟨w.heap.size + 1, 9, none⟩ = some (.int .u64 p.k1.h) ∧ w'.cell? ⟨w.heap.size + 1, 10, none⟩ = some (.int .u64 p.k1.l) ∧ w'.cell? ⟨w.heap.size + 1, 11, none⟩ = some (.string ⟨p.k1.path.toArray⟩) ∧ w'.cell? ⟨w3.heap.size, 0, none⟩ = some (Value.int .i64 p.k0.kind) ∧ w'.cell? ⟨w3.heap.size, 1, none⟩ = some (Value.int .i64 p.k0.len) ∧ w'.cell? ⟨w3.heap.size, 2, none⟩ = some (Value.int .u64 p.k0.h) ∧ w'.cell? ⟨w3.heap.size, 3, none⟩ = some (Value.int .u64 p.k0.l) ∧ w'.cell? ⟨w3.heap.size, 4, none⟩ = some (Value.string ⟨p.k0.path.toArray⟩) ∧ w'.cell? ⟨wn.heap.size, 0, none⟩ = some (Value.int .i64 p.k1.kind) ∧ w'.cell? ⟨wn.heap.size, 1, none⟩ = some (Value.int .i64 p.k1.len) ∧ w'.cell? ⟨wn.heap.size, 2, none⟩ = some (Value.int .u64 p.k1.h) ∧ w'.cell? ⟨wn.heap.size, 3, none⟩ = some (Value.int .u64 p.k1.l) ∧ w'.cell? ⟨wn.heap.size, 4, none⟩ = some (Value.string ⟨p.k1.path.toArray⟩) ∧ Below w.heap.size w w')) (by kernel_rfl) ?hSr29_ (fun hHeld => ?_)
  case hSr29_ => (first | exact ⟨c0, c1, c2, c3, c4, c5, c6, d0, d1, d2, d3, d4, d5, d6, d7, d8, d9, d10, d11, k0, k1, k2, k3, k4, f0, f1, f2, f3, f4, hb0.drew⟩ | exact ⟨c0, c1, c2, c3, c4, c5, c6, d0, d1, d2, d3, d4, d5, d6, d7, d8, d9, d10, d11, k0, k1, k2, k3, k4, f0, f1, f2, f3, f4, hb0⟩ | (obtain ⟨c0, c1, c2, c3, c4, c5, c6, d0, d1, d2, d3, d4, d5, d6, d7, d8, d9, d10, d11, k0, k1, k2, k3, k4, f0, f1, f2, f3, f4, hb0⟩ := hHeld; exact ⟨cell_later hb c0, cell_later hb c1, cell_later hb c2, cell_later hb c3, cell_later hb c4, cell_later hb c5, cell_later hb c6, cell_later hb d0, cell_later hb d1, cell_later hb d2, cell_later hb d3, cell_later hb d4, cell_later hb d5, cell_later hb d6, cell_later hb d7, cell_later hb d8, cell_later hb d9, cell_later hb d10, cell_later hb d11, cell_later hb k0, cell_later hb k1, cell_later hb k2, cell_later hb k3, cell_later hb k4, cell_later hb f0, cell_later hb f1, cell_later hb f2, cell_later hb f3, cell_later hb f4, below_step hb0 hb⟩))
  refine tk 0 ⟨some 16, .load 26 (.tmp 2), 26, _, _, _⟩ hHeld ?_
  (try simp only [Act.put, nz1, nz2, nz3])
  refine tk 1 ⟨some 17, .move (.tmp 5), 3, _, _, _⟩ hHeld ?_
  (try simp only [Act.put, nz1, nz2, nz3])
  refine tk 2 ⟨some 18, .move (.tmp 5), 3, _, _, _⟩ hHeld ?_
  (try simp only [Act.put, nz1, nz2, nz3])
  refine tk 3 ⟨some 19, .fieldAddr 33 (.tmp 3) 0, 0, _, _, _⟩ hHeld ?_
  (try simp only [Act.put, nz1, nz2, nz3])
  refine tk 4 ⟨some 20, .indexAddr 27 (.tmp 19) (.tmp 18), 0, _, _, _⟩ hHeld ?_
  (try simp only [Act.put, nz1, nz2, nz3])
  refine tk 5 ⟨some 21, .load 3 (.tmp 20), 3, _, _, _⟩ hHeld ?_
  (try simp only [Act.put, nz1, nz2, nz3])
  refine tk 6 ⟨some 22, .load 30 (.tmp 6), 30, _, _, _⟩ hHeld ?_
  (try simp only [Act.put, nz1, nz2, nz3])
  refine wpAnyH_ready (rs := [7]) (by kernel_rfl) (by simp) ?_
  refine AllReadyH.cons (o := ⟨some 23, .call { callee := .value (.func 53), args := #[.tmp 16, .tmp 17, .tmp 21, .tmp 22], argTypes := #[26, 3, 3, 30] }, 4, _, _, _⟩) rfl (fun K hK => ?_) AllReadyH.nil
  (go_simp; (refine (HB _).mono ?_); (rintro e wn ⟨rfl, hb⟩); go_wp2_with fail)
  refine hK.out _ _ ?hSr29_8_7 (fun hHeld2 => ?_)
  case hSr29_8_7 => (first | exact ⟨c0, c1, c2, c3, c4, c5, c6, d0, d1, d2, d3, d4, d5, d6, d7, d8, d9, d10, d11, k0, k1, k2, k3, k4, f0, f1, f2, f3, f4, hb0.drew⟩ | exact ⟨c0, c1, c2, c3, c4, c5, c6, d0, d1, d2, d3, d4, d5, d6, d7, d8, d9, d10, d11, k0, k1, k2, k3, k4, f0, f1, f2, f3, f4, hb0⟩ | (obtain ⟨c0, c1, c2, c3, c4, c5, c6, d0, d1, d2, d3, d4, d5, d6, d7, d8, d9, d10, d11, k0, k1, k2, k3, k4, f0, f1, f2, f3, f4, hb0⟩ := hHeld; exact ⟨cell_later hb c0, cell_later hb c1, cell_later hb c2, cell_later hb c3, cell_later hb c4, cell_later hb c5, cell_later hb c6, cell_later hb d0, cell_later hb d1, cell_later hb d2, cell_later hb d3, cell_later hb d4, cell_later hb d5, cell_later hb d6, cell_later hb d7, cell_later hb d8, cell_later hb d9, cell_later hb d10, cell_later hb d11, cell_later hb k0, cell_later hb k1, cell_later hb k2, cell_later hb k3, cell_later hb k4, cell_later hb f0, cell_later hb f1, cell_later hb f2, cell_later hb f3, cell_later hb f4, below_step hb0 hb⟩))
  clear hK K hHeld
  have hHeld := hHeld2
  clear hHeld2
  (try simp only [Act.put, nz1, nz2, nz3])
  refine tk 8 ⟨some 24, .unOp .not 4 (.tmp 23), 4, _, _, _⟩ hHeld ?_
  (try simp only [Act.put, nz1, nz2, nz3])
  refine wpAnyH_done (by kernel_rfl) ?_ _
  clear c0 c1 c2 c3 c4 c5 c6 d0 d1 d2 d3 d4 d5 d6 d7 d8 d9 d10 d11 k0 k1 k2 k3 k4 f0 f1 f2 f3 f4 hb0
  obtain ⟨c0, c1, c2, c3, c4, c5, c6, d0, d1, d2, d3, d4, d5, d6, d7, d8, d9, d10, d11, k0, k1, k2, k3, k4, f0, f1, f2, f3, f4, hb0⟩ := hHeld
  go_wp2
  go_ret
  exact ⟨rfl, hb0⟩
set_option maxRecDepth 100000 in
set_option maxHeartbeats 8000000 in
theorem right_yes (s : Sp) (p : Px) (HA : ∀ w, Calls Try.prog 53 #[sv s, .int .i64 0, .int .i64 p.a0, kv p.k0] w fun e w' => e = .returned (.bool true) ∧ Below w.heap.size w w') (HB : ∀ w, Calls Try.prog 53 #[sv s, .int .i64 1, .int .i64 p.a1, kv p.k1] w fun e w' => e = .returned (.bool true) ∧ Below w.heap.size w w') (HS : ∀ w, Calls Try.prog 18 #[sv s] w fun e w' => e = .returned (.bool true) ∧ Below w.heap.size w w') (w : World) : Calls Try.prog 20 #[sv s, pv p] w fun e w' => e = .returned (.bool true) ∧ Below w.heap.size w w' := by
  have i0 := ixk0
  have i1 := ixk1
  unfold sv at *
  unfold pv
  unfold kv at *
  obtain ⟨RR0, RR1, hb0⟩ := two_rows w #[.int .i64 s.n, .int .i64 s.d0.kind, .int .i64 s.d0.side, .int .i64 s.d0.step, .int .i64 s.d1.kind, .int .i64 s.d1.side, .int .i64 s.d1.step] #[.int .i64 p.a0, .int .i64 p.a1, .int .i64 p.k0.kind, .int .i64 p.k0.len, .int .u64 p.k0.h, .int .u64 p.k0.l, .string ⟨p.k0.path.toArray⟩, .int .i64 p.k1.kind, .int .i64 p.k1.len, .int .u64 p.k1.h, .int .u64 p.k1.l, .string ⟨p.k1.path.toArray⟩] 26 33
  have c0 := (RR0.cell 0).trans (show _ = some (Value.int .i64 s.n) from rfl)
  have c1 := (RR0.cell 1).trans (show _ = some (Value.int .i64 s.d0.kind) from rfl)
  have c2 := (RR0.cell 2).trans (show _ = some (Value.int .i64 s.d0.side) from rfl)
  have c3 := (RR0.cell 3).trans (show _ = some (Value.int .i64 s.d0.step) from rfl)
  have c4 := (RR0.cell 4).trans (show _ = some (Value.int .i64 s.d1.kind) from rfl)
  have c5 := (RR0.cell 5).trans (show _ = some (Value.int .i64 s.d1.side) from rfl)
  have c6 := (RR0.cell 6).trans (show _ = some (Value.int .i64 s.d1.step) from rfl)
  have d0 := (RR1.cell 0).trans (show _ = some (Value.int .i64 p.a0) from rfl)
  have d1 := (RR1.cell 1).trans (show _ = some (Value.int .i64 p.a1) from rfl)
  have d2 := (RR1.cell 2).trans (show _ = some (Value.int .i64 p.k0.kind) from rfl)
  have d3 := (RR1.cell 3).trans (show _ = some (Value.int .i64 p.k0.len) from rfl)
  have d4 := (RR1.cell 4).trans (show _ = some (Value.int .u64 p.k0.h) from rfl)
  have d5 := (RR1.cell 5).trans (show _ = some (Value.int .u64 p.k0.l) from rfl)
  have d6 := (RR1.cell 6).trans (show _ = some (Value.string ⟨p.k0.path.toArray⟩) from rfl)
  have d7 := (RR1.cell 7).trans (show _ = some (Value.int .i64 p.k1.kind) from rfl)
  have d8 := (RR1.cell 8).trans (show _ = some (Value.int .i64 p.k1.len) from rfl)
  have d9 := (RR1.cell 9).trans (show _ = some (Value.int .u64 p.k1.h) from rfl)
  have d10 := (RR1.cell 10).trans (show _ = some (Value.int .u64 p.k1.l) from rfl)
  have d11 := (RR1.cell 11).trans (show _ = some (Value.string ⟨p.k1.path.toArray⟩) from rfl)
  clear RR0 RR1
  go_enter Try.func20, Try.ntmps20
  go_wp2_with fail
  refine (HS _).mono ?_
  rintro e w4 ⟨rfl, hb⟩
  replace c0 := cell_later hb c0
  replace c1 := cell_later hb c1
  replace c2 := cell_later hb c2
  replace c3 := cell_later hb c3
  replace c4 := cell_later hb c4
  replace c5 := cell_later hb c5
  replace c6 := cell_later hb c6
  replace d0 := cell_later hb d0
  replace d1 := cell_later hb d1
  replace d2 := cell_later hb d2
  replace d3 := cell_later hb d3
  replace d4 := cell_later hb d4
  replace d5 := cell_later hb d5
  replace d6 := cell_later hb d6
  replace d7 := cell_later hb d7
  replace d8 := cell_later hb d8
  replace d9 := cell_later hb d9
  replace d10 := cell_later hb d10
  replace d11 := cell_later hb d11
  replace hb0 := below_step hb0 hb
  clear hb
  have lc := World.block_lt_of_cell? _ _ c0
  dsimp only at lc
  have ld := World.block_lt_of_cell? _ _ d0
  dsimp only at ld
  go_wp2_with fail
  refine wp_loop_rounds 3 ?_
  rw [rounds_succ]
  go_wp2_with fail
  replace c0 := cell_later ((Below.refl (World.heap w4).size w4).alloc (Nat.le_refl _) (.cells #[.int .i64 p.k0.kind, .int .i64 p.k0.len, .int .u64 p.k0.h, .int .u64 p.k0.l, .string ⟨p.k0.path.toArray⟩] 30)) c0
  replace c1 := cell_later ((Below.refl (World.heap w4).size w4).alloc (Nat.le_refl _) (.cells #[.int .i64 p.k0.kind, .int .i64 p.k0.len, .int .u64 p.k0.h, .int .u64 p.k0.l, .string ⟨p.k0.path.toArray⟩] 30)) c1
  replace c2 := cell_later ((Below.refl (World.heap w4).size w4).alloc (Nat.le_refl _) (.cells #[.int .i64 p.k0.kind, .int .i64 p.k0.len, .int .u64 p.k0.h, .int .u64 p.k0.l, .string ⟨p.k0.path.toArray⟩] 30)) c2
  replace c3 := cell_later ((Below.refl (World.heap w4).size w4).alloc (Nat.le_refl _) (.cells #[.int .i64 p.k0.kind, .int .i64 p.k0.len, .int .u64 p.k0.h, .int .u64 p.k0.l, .string ⟨p.k0.path.toArray⟩] 30)) c3
  replace c4 := cell_later ((Below.refl (World.heap w4).size w4).alloc (Nat.le_refl _) (.cells #[.int .i64 p.k0.kind, .int .i64 p.k0.len, .int .u64 p.k0.h, .int .u64 p.k0.l, .string ⟨p.k0.path.toArray⟩] 30)) c4
  replace c5 := cell_later ((Below.refl (World.heap w4).size w4).alloc (Nat.le_refl _) (.cells #[.int .i64 p.k0.kind, .int .i64 p.k0.len, .int .u64 p.k0.h, .int .u64 p.k0.l, .string ⟨p.k0.path.toArray⟩] 30)) c5
  replace c6 := cell_later ((Below.refl (World.heap w4).size w4).alloc (Nat.le_refl _) (.cells #[.int .i64 p.k0.kind, .int .i64 p.k0.len, .int .u64 p.k0.h, .int .u64 p.k0.l, .string ⟨p.k0.path.toArray⟩] 30)) c6
  replace d0 := cell_later ((Below.refl (World.heap w4).size w4).alloc (Nat.le_refl _) (.cells #[.int .i64 p.k0.kind, .int .i64 p.k0.len, .int .u64 p.k0.h, .int .u64 p.k0.l, .string ⟨p.k0.path.toArray⟩] 30)) d0
  replace d1 := cell_later ((Below.refl (World.heap w4).size w4).alloc (Nat.le_refl _) (.cells #[.int .i64 p.k0.kind, .int .i64 p.k0.len, .int .u64 p.k0.h, .int .u64 p.k0.l, .string ⟨p.k0.path.toArray⟩] 30)) d1
  replace d2 := cell_later ((Below.refl (World.heap w4).size w4).alloc (Nat.le_refl _) (.cells #[.int .i64 p.k0.kind, .int .i64 p.k0.len, .int .u64 p.k0.h, .int .u64 p.k0.l, .string ⟨p.k0.path.toArray⟩] 30)) d2
  replace d3 := cell_later ((Below.refl (World.heap w4).size w4).alloc (Nat.le_refl _) (.cells #[.int .i64 p.k0.kind, .int .i64 p.k0.len, .int .u64 p.k0.h, .int .u64 p.k0.l, .string ⟨p.k0.path.toArray⟩] 30)) d3
  replace d4 := cell_later ((Below.refl (World.heap w4).size w4).alloc (Nat.le_refl _) (.cells #[.int .i64 p.k0.kind, .int .i64 p.k0.len, .int .u64 p.k0.h, .int .u64 p.k0.l, .string ⟨p.k0.path.toArray⟩] 30)) d4
  replace d5 := cell_later ((Below.refl (World.heap w4).size w4).alloc (Nat.le_refl _) (.cells #[.int .i64 p.k0.kind, .int .i64 p.k0.len, .int .u64 p.k0.h, .int .u64 p.k0.l, .string ⟨p.k0.path.toArray⟩] 30)) d5
  replace d6 := cell_later ((Below.refl (World.heap w4).size w4).alloc (Nat.le_refl _) (.cells #[.int .i64 p.k0.kind, .int .i64 p.k0.len, .int .u64 p.k0.h, .int .u64 p.k0.l, .string ⟨p.k0.path.toArray⟩] 30)) d6
  replace d7 := cell_later ((Below.refl (World.heap w4).size w4).alloc (Nat.le_refl _) (.cells #[.int .i64 p.k0.kind, .int .i64 p.k0.len, .int .u64 p.k0.h, .int .u64 p.k0.l, .string ⟨p.k0.path.toArray⟩] 30)) d7
  replace d8 := cell_later ((Below.refl (World.heap w4).size w4).alloc (Nat.le_refl _) (.cells #[.int .i64 p.k0.kind, .int .i64 p.k0.len, .int .u64 p.k0.h, .int .u64 p.k0.l, .string ⟨p.k0.path.toArray⟩] 30)) d8
  replace d9 := cell_later ((Below.refl (World.heap w4).size w4).alloc (Nat.le_refl _) (.cells #[.int .i64 p.k0.kind, .int .i64 p.k0.len, .int .u64 p.k0.h, .int .u64 p.k0.l, .string ⟨p.k0.path.toArray⟩] 30)) d9
  replace d10 := cell_later ((Below.refl (World.heap w4).size w4).alloc (Nat.le_refl _) (.cells #[.int .i64 p.k0.kind, .int .i64 p.k0.len, .int .u64 p.k0.h, .int .u64 p.k0.l, .string ⟨p.k0.path.toArray⟩] 30)) d10
  replace d11 := cell_later ((Below.refl (World.heap w4).size w4).alloc (Nat.le_refl _) (.cells #[.int .i64 p.k0.kind, .int .i64 p.k0.len, .int .u64 p.k0.h, .int .u64 p.k0.l, .string ⟨p.k0.path.toArray⟩] 30)) d11
  have k0 := ((Row.new w4 #[.int .i64 p.k0.kind, .int .i64 p.k0.len, .int .u64 p.k0.h, .int .u64 p.k0.l, .string ⟨p.k0.path.toArray⟩] 30).cell 0).trans (show _ = some (Value.int .i64 p.k0.kind) from rfl)
  have k1 := ((Row.new w4 #[.int .i64 p.k0.kind, .int .i64 p.k0.len, .int .u64 p.k0.h, .int .u64 p.k0.l, .string ⟨p.k0.path.toArray⟩] 30).cell 1).trans (show _ = some (Value.int .i64 p.k0.len) from rfl)
  have k2 := ((Row.new w4 #[.int .i64 p.k0.kind, .int .i64 p.k0.len, .int .u64 p.k0.h, .int .u64 p.k0.l, .string ⟨p.k0.path.toArray⟩] 30).cell 2).trans (show _ = some (Value.int .u64 p.k0.h) from rfl)
  have k3 := ((Row.new w4 #[.int .i64 p.k0.kind, .int .i64 p.k0.len, .int .u64 p.k0.h, .int .u64 p.k0.l, .string ⟨p.k0.path.toArray⟩] 30).cell 3).trans (show _ = some (Value.int .u64 p.k0.l) from rfl)
  have k4 := ((Row.new w4 #[.int .i64 p.k0.kind, .int .i64 p.k0.len, .int .u64 p.k0.h, .int .u64 p.k0.l, .string ⟨p.k0.path.toArray⟩] 30).cell 4).trans (show _ = some (Value.string ⟨p.k0.path.toArray⟩) from rfl)
  have mk := hb0.size
  replace hb0 := hb0.alloc hb0.size (.cells #[.int .i64 p.k0.kind, .int .i64 p.k0.len, .int .u64 p.k0.h, .int .u64 p.k0.l, .string ⟨p.k0.path.toArray⟩] 30)
  refine wp_region_held_drew (S := (fun w' => w'.cell? ⟨w.heap.size, 0, none⟩ = some (.int .i64 s.n) ∧ w'.cell? ⟨w.heap.size, 1, none⟩ = some (.int .i64 s.d0.kind) ∧ w'.cell? ⟨w.heap.size, 2, none⟩ = some (.int .i64 s.d0.side) ∧ w'.cell? ⟨w.heap.size, 3, none⟩ = some (.int .i64 s.d0.step) ∧ w'.cell? ⟨w.heap.size, 4, none⟩ = some (.int .i64 s.d1.kind) ∧ w'.cell? ⟨w.heap.size, 5, none⟩ = some (.int .i64 s.d1.side) ∧ w'.cell? ⟨w.heap.size, 6, none⟩ = some (.int .i64 s.d1.step) ∧ w'.cell? ⟨w.heap.size + 1, 0, none⟩ = some (.int .i64 p.a0) ∧ w'.cell? ⟨w.heap.size + 1, 1, none⟩ = some (.int .i64 p.a1) ∧ w'.cell? ⟨w.heap.size + 1, 2, none⟩ = some (.int .i64 p.k0.kind) ∧ w'.cell? ⟨w.heap.size + 1, 3, none⟩ = some (.int .i64 p.k0.len) ∧ w'.cell? ⟨w.heap.size + 1, 4, none⟩ = some (.int .u64 p.k0.h) ∧ w'.cell? ⟨w.heap.size + 1, 5, none⟩ = some (.int .u64 p.k0.l) ∧ w'.cell? ⟨w.heap.size + 1, 6, none⟩ = some (.string ⟨p.k0.path.toArray⟩) ∧ w'.cell? ⟨w.heap.size + 1, 7, none⟩ = some (.int .i64 p.k1.kind) ∧ w'.cell? ⟨w.heap.size + 1, 8, none⟩ = some (.int .i64 p.k1.len) ∧ w'.cell? ⟨w.heap.size + 1, 9, none⟩ = some (.int .u64 p.k1.h) ∧ w'.cell? ⟨w.heap.size + 1, 10, none⟩ = some (.int .u64 p.k1.l) ∧ w'.cell? ⟨w.heap.size + 1, 11, none⟩ = some (.string ⟨p.k1.path.toArray⟩) ∧ w'.cell? ⟨w4.heap.size, 0, none⟩ = some (Value.int .i64 p.k0.kind) ∧ w'.cell? ⟨w4.heap.size, 1, none⟩ = some (Value.int .i64 p.k0.len) ∧ w'.cell? ⟨w4.heap.size, 2, none⟩ = some (Value.int .u64 p.k0.h) ∧ w'.cell? ⟨w4.heap.size, 3, none⟩ = some (Value.int .u64 p.k0.l) ∧ w'.cell? ⟨w4.heap.size, 4, none⟩ = some (Value.string ⟨p.k0.path.toArray⟩) ∧ Below w.heap.size w w')) (by kernel_rfl) ?hSr30_ (fun hHeld => ?_)
  case hSr30_ => (first | exact ⟨c0, c1, c2, c3, c4, c5, c6, d0, d1, d2, d3, d4, d5, d6, d7, d8, d9, d10, d11, k0, k1, k2, k3, k4, hb0.drew⟩ | exact ⟨c0, c1, c2, c3, c4, c5, c6, d0, d1, d2, d3, d4, d5, d6, d7, d8, d9, d10, d11, k0, k1, k2, k3, k4, hb0⟩ | (obtain ⟨c0, c1, c2, c3, c4, c5, c6, d0, d1, d2, d3, d4, d5, d6, d7, d8, d9, d10, d11, k0, k1, k2, k3, k4, hb0⟩ := hHeld; exact ⟨cell_later hb c0, cell_later hb c1, cell_later hb c2, cell_later hb c3, cell_later hb c4, cell_later hb c5, cell_later hb c6, cell_later hb d0, cell_later hb d1, cell_later hb d2, cell_later hb d3, cell_later hb d4, cell_later hb d5, cell_later hb d6, cell_later hb d7, cell_later hb d8, cell_later hb d9, cell_later hb d10, cell_later hb d11, cell_later hb k0, cell_later hb k1, cell_later hb k2, cell_later hb k3, cell_later hb k4, below_step hb0 hb⟩))
  refine tk 0 ⟨some 16, .load 26 (.tmp 2), 26, _, _, _⟩ hHeld ?_
  (try simp only [Act.put, nz1, nz2, nz3])
  refine tk 1 ⟨some 17, .move (.tmp 5), 3, _, _, _⟩ hHeld ?_
  (try simp only [Act.put, nz1, nz2, nz3])
  refine tk 2 ⟨some 18, .move (.tmp 5), 3, _, _, _⟩ hHeld ?_
  (try simp only [Act.put, nz1, nz2, nz3])
  refine tk 3 ⟨some 19, .fieldAddr 33 (.tmp 3) 0, 0, _, _, _⟩ hHeld ?_
  (try simp only [Act.put, nz1, nz2, nz3])
  refine tk 4 ⟨some 20, .indexAddr 27 (.tmp 19) (.tmp 18), 0, _, _, _⟩ hHeld ?_
  (try simp only [Act.put, nz1, nz2, nz3])
  refine tk 5 ⟨some 21, .load 3 (.tmp 20), 3, _, _, _⟩ hHeld ?_
  (try simp only [Act.put, nz1, nz2, nz3])
  refine tk 6 ⟨some 22, .load 30 (.tmp 6), 30, _, _, _⟩ hHeld ?_
  (try simp only [Act.put, nz1, nz2, nz3])
  refine wpAnyH_ready (rs := [7]) (by kernel_rfl) (by simp) ?_
  refine AllReadyH.cons (o := ⟨some 23, .call { callee := .value (.func 53), args := #[.tmp 16, .tmp 17, .tmp 21, .tmp 22], argTypes := #[26, 3, 3, 30] }, 4, _, _, _⟩) rfl (fun K hK => ?_) AllReadyH.nil
  (go_simp; (refine (HA _).mono ?_); (rintro e wn ⟨rfl, hb⟩); go_wp2_with fail)
  refine hK.out _ _ ?hSr30_8_7 (fun hHeld2 => ?_)
  case hSr30_8_7 => (first | exact ⟨c0, c1, c2, c3, c4, c5, c6, d0, d1, d2, d3, d4, d5, d6, d7, d8, d9, d10, d11, k0, k1, k2, k3, k4, hb0.drew⟩ | exact ⟨c0, c1, c2, c3, c4, c5, c6, d0, d1, d2, d3, d4, d5, d6, d7, d8, d9, d10, d11, k0, k1, k2, k3, k4, hb0⟩ | (obtain ⟨c0, c1, c2, c3, c4, c5, c6, d0, d1, d2, d3, d4, d5, d6, d7, d8, d9, d10, d11, k0, k1, k2, k3, k4, hb0⟩ := hHeld; exact ⟨cell_later hb c0, cell_later hb c1, cell_later hb c2, cell_later hb c3, cell_later hb c4, cell_later hb c5, cell_later hb c6, cell_later hb d0, cell_later hb d1, cell_later hb d2, cell_later hb d3, cell_later hb d4, cell_later hb d5, cell_later hb d6, cell_later hb d7, cell_later hb d8, cell_later hb d9, cell_later hb d10, cell_later hb d11, cell_later hb k0, cell_later hb k1, cell_later hb k2, cell_later hb k3, cell_later hb k4, below_step hb0 hb⟩))
  clear hK K hHeld
  have hHeld := hHeld2
  clear hHeld2
  (try simp only [Act.put, nz1, nz2, nz3])
  refine tk 8 ⟨some 24, .unOp .not 4 (.tmp 23), 4, _, _, _⟩ hHeld ?_
  (try simp only [Act.put, nz1, nz2, nz3])
  refine wpAnyH_done (by kernel_rfl) ?_ _
  clear c0 c1 c2 c3 c4 c5 c6 d0 d1 d2 d3 d4 d5 d6 d7 d8 d9 d10 d11 k0 k1 k2 k3 k4 hb0
  obtain ⟨c0, c1, c2, c3, c4, c5, c6, d0, d1, d2, d3, d4, d5, d6, d7, d8, d9, d10, d11, k0, k1, k2, k3, k4, hb0⟩ := hHeld
  go_wp2
  rw [rounds_succ]
  go_wp2_with fail
  replace c0 := cell_later ((Below.refl (World.heap wn).size wn).alloc (Nat.le_refl _) (.cells #[.int .i64 p.k1.kind, .int .i64 p.k1.len, .int .u64 p.k1.h, .int .u64 p.k1.l, .string ⟨p.k1.path.toArray⟩] 30)) c0
  replace c1 := cell_later ((Below.refl (World.heap wn).size wn).alloc (Nat.le_refl _) (.cells #[.int .i64 p.k1.kind, .int .i64 p.k1.len, .int .u64 p.k1.h, .int .u64 p.k1.l, .string ⟨p.k1.path.toArray⟩] 30)) c1
  replace c2 := cell_later ((Below.refl (World.heap wn).size wn).alloc (Nat.le_refl _) (.cells #[.int .i64 p.k1.kind, .int .i64 p.k1.len, .int .u64 p.k1.h, .int .u64 p.k1.l, .string ⟨p.k1.path.toArray⟩] 30)) c2
  replace c3 := cell_later ((Below.refl (World.heap wn).size wn).alloc (Nat.le_refl _) (.cells #[.int .i64 p.k1.kind, .int .i64 p.k1.len, .int .u64 p.k1.h, .int .u64 p.k1.l, .string ⟨p.k1.path.toArray⟩] 30)) c3
  replace c4 := cell_later ((Below.refl (World.heap wn).size wn).alloc (Nat.le_refl _) (.cells #[.int .i64 p.k1.kind, .int .i64 p.k1.len, .int .u64 p.k1.h, .int .u64 p.k1.l, .string ⟨p.k1.path.toArray⟩] 30)) c4
  replace c5 := cell_later ((Below.refl (World.heap wn).size wn).alloc (Nat.le_refl _) (.cells #[.int .i64 p.k1.kind, .int .i64 p.k1.len, .int .u64 p.k1.h, .int .u64 p.k1.l, .string ⟨p.k1.path.toArray⟩] 30)) c5
  replace c6 := cell_later ((Below.refl (World.heap wn).size wn).alloc (Nat.le_refl _) (.cells #[.int .i64 p.k1.kind, .int .i64 p.k1.len, .int .u64 p.k1.h, .int .u64 p.k1.l, .string ⟨p.k1.path.toArray⟩] 30)) c6
  replace d0 := cell_later ((Below.refl (World.heap wn).size wn).alloc (Nat.le_refl _) (.cells #[.int .i64 p.k1.kind, .int .i64 p.k1.len, .int .u64 p.k1.h, .int .u64 p.k1.l, .string ⟨p.k1.path.toArray⟩] 30)) d0
  replace d1 := cell_later ((Below.refl (World.heap wn).size wn).alloc (Nat.le_refl _) (.cells #[.int .i64 p.k1.kind, .int .i64 p.k1.len, .int .u64 p.k1.h, .int .u64 p.k1.l, .string ⟨p.k1.path.toArray⟩] 30)) d1
  replace d2 := cell_later ((Below.refl (World.heap wn).size wn).alloc (Nat.le_refl _) (.cells #[.int .i64 p.k1.kind, .int .i64 p.k1.len, .int .u64 p.k1.h, .int .u64 p.k1.l, .string ⟨p.k1.path.toArray⟩] 30)) d2
  replace d3 := cell_later ((Below.refl (World.heap wn).size wn).alloc (Nat.le_refl _) (.cells #[.int .i64 p.k1.kind, .int .i64 p.k1.len, .int .u64 p.k1.h, .int .u64 p.k1.l, .string ⟨p.k1.path.toArray⟩] 30)) d3
  replace d4 := cell_later ((Below.refl (World.heap wn).size wn).alloc (Nat.le_refl _) (.cells #[.int .i64 p.k1.kind, .int .i64 p.k1.len, .int .u64 p.k1.h, .int .u64 p.k1.l, .string ⟨p.k1.path.toArray⟩] 30)) d4
  replace d5 := cell_later ((Below.refl (World.heap wn).size wn).alloc (Nat.le_refl _) (.cells #[.int .i64 p.k1.kind, .int .i64 p.k1.len, .int .u64 p.k1.h, .int .u64 p.k1.l, .string ⟨p.k1.path.toArray⟩] 30)) d5
  replace d6 := cell_later ((Below.refl (World.heap wn).size wn).alloc (Nat.le_refl _) (.cells #[.int .i64 p.k1.kind, .int .i64 p.k1.len, .int .u64 p.k1.h, .int .u64 p.k1.l, .string ⟨p.k1.path.toArray⟩] 30)) d6
  replace d7 := cell_later ((Below.refl (World.heap wn).size wn).alloc (Nat.le_refl _) (.cells #[.int .i64 p.k1.kind, .int .i64 p.k1.len, .int .u64 p.k1.h, .int .u64 p.k1.l, .string ⟨p.k1.path.toArray⟩] 30)) d7
  replace d8 := cell_later ((Below.refl (World.heap wn).size wn).alloc (Nat.le_refl _) (.cells #[.int .i64 p.k1.kind, .int .i64 p.k1.len, .int .u64 p.k1.h, .int .u64 p.k1.l, .string ⟨p.k1.path.toArray⟩] 30)) d8
  replace d9 := cell_later ((Below.refl (World.heap wn).size wn).alloc (Nat.le_refl _) (.cells #[.int .i64 p.k1.kind, .int .i64 p.k1.len, .int .u64 p.k1.h, .int .u64 p.k1.l, .string ⟨p.k1.path.toArray⟩] 30)) d9
  replace d10 := cell_later ((Below.refl (World.heap wn).size wn).alloc (Nat.le_refl _) (.cells #[.int .i64 p.k1.kind, .int .i64 p.k1.len, .int .u64 p.k1.h, .int .u64 p.k1.l, .string ⟨p.k1.path.toArray⟩] 30)) d10
  replace d11 := cell_later ((Below.refl (World.heap wn).size wn).alloc (Nat.le_refl _) (.cells #[.int .i64 p.k1.kind, .int .i64 p.k1.len, .int .u64 p.k1.h, .int .u64 p.k1.l, .string ⟨p.k1.path.toArray⟩] 30)) d11
  replace k0 := cell_later ((Below.refl (World.heap wn).size wn).alloc (Nat.le_refl _) (.cells #[.int .i64 p.k1.kind, .int .i64 p.k1.len, .int .u64 p.k1.h, .int .u64 p.k1.l, .string ⟨p.k1.path.toArray⟩] 30)) k0
  replace k1 := cell_later ((Below.refl (World.heap wn).size wn).alloc (Nat.le_refl _) (.cells #[.int .i64 p.k1.kind, .int .i64 p.k1.len, .int .u64 p.k1.h, .int .u64 p.k1.l, .string ⟨p.k1.path.toArray⟩] 30)) k1
  replace k2 := cell_later ((Below.refl (World.heap wn).size wn).alloc (Nat.le_refl _) (.cells #[.int .i64 p.k1.kind, .int .i64 p.k1.len, .int .u64 p.k1.h, .int .u64 p.k1.l, .string ⟨p.k1.path.toArray⟩] 30)) k2
  replace k3 := cell_later ((Below.refl (World.heap wn).size wn).alloc (Nat.le_refl _) (.cells #[.int .i64 p.k1.kind, .int .i64 p.k1.len, .int .u64 p.k1.h, .int .u64 p.k1.l, .string ⟨p.k1.path.toArray⟩] 30)) k3
  replace k4 := cell_later ((Below.refl (World.heap wn).size wn).alloc (Nat.le_refl _) (.cells #[.int .i64 p.k1.kind, .int .i64 p.k1.len, .int .u64 p.k1.h, .int .u64 p.k1.l, .string ⟨p.k1.path.toArray⟩] 30)) k4
  have f0 := ((Row.new wn #[.int .i64 p.k1.kind, .int .i64 p.k1.len, .int .u64 p.k1.h, .int .u64 p.k1.l, .string ⟨p.k1.path.toArray⟩] 30).cell 0).trans (show _ = some (Value.int .i64 p.k1.kind) from rfl)
  have f1 := ((Row.new wn #[.int .i64 p.k1.kind, .int .i64 p.k1.len, .int .u64 p.k1.h, .int .u64 p.k1.l, .string ⟨p.k1.path.toArray⟩] 30).cell 1).trans (show _ = some (Value.int .i64 p.k1.len) from rfl)
  have f2 := ((Row.new wn #[.int .i64 p.k1.kind, .int .i64 p.k1.len, .int .u64 p.k1.h, .int .u64 p.k1.l, .string ⟨p.k1.path.toArray⟩] 30).cell 2).trans (show _ = some (Value.int .u64 p.k1.h) from rfl)
  have f3 := ((Row.new wn #[.int .i64 p.k1.kind, .int .i64 p.k1.len, .int .u64 p.k1.h, .int .u64 p.k1.l, .string ⟨p.k1.path.toArray⟩] 30).cell 3).trans (show _ = some (Value.int .u64 p.k1.l) from rfl)
  have f4 := ((Row.new wn #[.int .i64 p.k1.kind, .int .i64 p.k1.len, .int .u64 p.k1.h, .int .u64 p.k1.l, .string ⟨p.k1.path.toArray⟩] 30).cell 4).trans (show _ = some (Value.string ⟨p.k1.path.toArray⟩) from rfl)
  have mf := hb0.size
  replace hb0 := hb0.alloc hb0.size (.cells #[.int .i64 p.k1.kind, .int .i64 p.k1.len, .int .u64 p.k1.h, .int .u64 p.k1.l, .string ⟨p.k1.path.toArray⟩] 30)
  refine wp_region_held_drew (S := (fun w' => w'.cell? ⟨w.heap.size, 0, none⟩ = some (.int .i64 s.n) ∧ w'.cell? ⟨w.heap.size, 1, none⟩ = some (.int .i64 s.d0.kind) ∧ w'.cell? ⟨w.heap.size, 2, none⟩ = some (.int .i64 s.d0.side) ∧ w'.cell? ⟨w.heap.size, 3, none⟩ = some (.int .i64 s.d0.step) ∧ w'.cell? ⟨w.heap.size, 4, none⟩ = some (.int .i64 s.d1.kind) ∧ w'.cell? ⟨w.heap.size, 5, none⟩ = some (.int .i64 s.d1.side) ∧ w'.cell? ⟨w.heap.size, 6, none⟩ = some (.int .i64 s.d1.step) ∧ w'.cell? ⟨w.heap.size + 1, 0, none⟩ = some (.int .i64 p.a0) ∧ w'.cell? ⟨w.heap.size + 1, 1, none⟩ = some (.int .i64 p.a1) ∧ w'.cell? ⟨w.heap.size + 1, 2, none⟩ = some (.int .i64 p.k0.kind) ∧ w'.cell? ⟨w.heap.size + 1, 3, none⟩ = some (.int .i64 p.k0.len) ∧ w'.cell? ⟨w.heap.size + 1, 4, none⟩ = some (.int .u64 p.k0.h) ∧ w'.cell? ⟨w.heap.size + 1, 5, none⟩ = some (.int .u64 p.k0.l) ∧ w'.cell? ⟨w.heap.size + 1, 6, none⟩ = some (.string ⟨p.k0.path.toArray⟩) ∧ w'.cell? ⟨w.heap.size + 1, 7, none⟩ = some (.int .i64 p.k1.kind) ∧ w'.cell? ⟨w.heap.size + 1, 8, none⟩ = some (.int .i64 p.k1.len) ∧ w'.cell? ⟨w.heap.size + 1, 9, none⟩ = some (.int .u64 p.k1.h) ∧ w'.cell? ⟨w.heap.size + 1, 10, none⟩ = some (.int .u64 p.k1.l) ∧ w'.cell? ⟨w.heap.size + 1, 11, none⟩ = some (.string ⟨p.k1.path.toArray⟩) ∧ w'.cell? ⟨w4.heap.size, 0, none⟩ = some (Value.int .i64 p.k0.kind) ∧ w'.cell? ⟨w4.heap.size, 1, none⟩ = some (Value.int .i64 p.k0.len) ∧ w'.cell? ⟨w4.heap.size, 2, none⟩ = some (Value.int .u64 p.k0.h) ∧ w'.cell? ⟨w4.heap.size, 3, none⟩ = some (Value.int .u64 p.k0.l) ∧ w'.cell? ⟨w4.heap.size, 4, none⟩ = some (Value.string ⟨p.k0.path.toArray⟩) ∧ w'.cell? ⟨wn.heap.size, 0, none⟩ = some (Value.int .i64 p.k1.kind) ∧ w'.cell? ⟨wn.heap.size, 1, none⟩ = some (Value.int .i64 p.k1.len) ∧ w'.cell? ⟨wn.heap.size, 2, none⟩ = some (Value.int .u64 p.k1.h) ∧ w'.cell? ⟨wn.heap.size, 3, none⟩ = some (Value.int .u64 p.k1.l) ∧ w'.cell? ⟨wn.heap.size, 4, none⟩ = some (Value.string ⟨p.k1.path.toArray⟩) ∧ Below w.heap.size w w')) (by kernel_rfl) ?hSr31_ (fun hHeld => ?_)
  case hSr31_ => (first | exact ⟨c0, c1, c2, c3, c4, c5, c6, d0, d1, d2, d3, d4, d5, d6, d7, d8, d9, d10, d11, k0, k1, k2, k3, k4, f0, f1, f2, f3, f4, hb0.drew⟩ | exact ⟨c0, c1, c2, c3, c4, c5, c6, d0, d1, d2, d3, d4, d5, d6, d7, d8, d9, d10, d11, k0, k1, k2, k3, k4, f0, f1, f2, f3, f4, hb0⟩ | (obtain ⟨c0, c1, c2, c3, c4, c5, c6, d0, d1, d2, d3, d4, d5, d6, d7, d8, d9, d10, d11, k0, k1, k2, k3, k4, f0, f1, f2, f3, f4, hb0⟩ := hHeld; exact ⟨cell_later hb c0, cell_later hb c1, cell_later hb c2, cell_later hb c3, cell_later hb c4, cell_later hb c5, cell_later hb c6, cell_later hb d0, cell_later hb d1, cell_later hb d2, cell_later hb d3, cell_later hb d4, cell_later hb d5, cell_later hb d6, cell_later hb d7, cell_later hb d8, cell_later hb d9, cell_later hb d10, cell_later hb d11, cell_later hb k0, cell_later hb k1, cell_later hb k2, cell_later hb k3, cell_later hb k4, cell_later hb f0, cell_later hb f1, cell_later hb f2, cell_later hb f3, cell_later hb f4, below_step hb0 hb⟩))
  refine tk 0 ⟨some 16, .load 26 (.tmp 2), 26, _, _, _⟩ hHeld ?_
  (try simp only [Act.put, nz1, nz2, nz3])
  refine tk 1 ⟨some 17, .move (.tmp 5), 3, _, _, _⟩ hHeld ?_
  (try simp only [Act.put, nz1, nz2, nz3])
  refine tk 2 ⟨some 18, .move (.tmp 5), 3, _, _, _⟩ hHeld ?_
  (try simp only [Act.put, nz1, nz2, nz3])
  refine tk 3 ⟨some 19, .fieldAddr 33 (.tmp 3) 0, 0, _, _, _⟩ hHeld ?_
  (try simp only [Act.put, nz1, nz2, nz3])
  refine tk 4 ⟨some 20, .indexAddr 27 (.tmp 19) (.tmp 18), 0, _, _, _⟩ hHeld ?_
  (try simp only [Act.put, nz1, nz2, nz3])
  refine tk 5 ⟨some 21, .load 3 (.tmp 20), 3, _, _, _⟩ hHeld ?_
  (try simp only [Act.put, nz1, nz2, nz3])
  refine tk 6 ⟨some 22, .load 30 (.tmp 6), 30, _, _, _⟩ hHeld ?_
  (try simp only [Act.put, nz1, nz2, nz3])
  refine wpAnyH_ready (rs := [7]) (by kernel_rfl) (by simp) ?_
  refine AllReadyH.cons (o := ⟨some 23, .call { callee := .value (.func 53), args := #[.tmp 16, .tmp 17, .tmp 21, .tmp 22], argTypes := #[26, 3, 3, 30] }, 4, _, _, _⟩) rfl (fun K hK => ?_) AllReadyH.nil
  (go_simp; (refine (HB _).mono ?_); (rintro e wn ⟨rfl, hb⟩); go_wp2_with fail)
  refine hK.out _ _ ?hSr31_8_7 (fun hHeld2 => ?_)
  case hSr31_8_7 => (first | exact ⟨c0, c1, c2, c3, c4, c5, c6, d0, d1, d2, d3, d4, d5, d6, d7, d8, d9, d10, d11, k0, k1, k2, k3, k4, f0, f1, f2, f3, f4, hb0.drew⟩ | exact ⟨c0, c1, c2, c3, c4, c5, c6, d0, d1, d2, d3, d4, d5, d6, d7, d8, d9, d10, d11, k0, k1, k2, k3, k4, f0, f1, f2, f3, f4, hb0⟩ | (obtain ⟨c0, c1, c2, c3, c4, c5, c6, d0, d1, d2, d3, d4, d5, d6, d7, d8, d9, d10, d11, k0, k1, k2, k3, k4, f0, f1, f2, f3, f4, hb0⟩ := hHeld; exact ⟨cell_later hb c0, cell_later hb c1, cell_later hb c2, cell_later hb c3, cell_later hb c4, cell_later hb c5, cell_later hb c6, cell_later hb d0, cell_later hb d1, cell_later hb d2, cell_later hb d3, cell_later hb d4, cell_later hb d5, cell_later hb d6, cell_later hb d7, cell_later hb d8, cell_later hb d9, cell_later hb d10, cell_later hb d11, cell_later hb k0, cell_later hb k1, cell_later hb k2, cell_later hb k3, cell_later hb k4, cell_later hb f0, cell_later hb f1, cell_later hb f2, cell_later hb f3, cell_later hb f4, below_step hb0 hb⟩))
  clear hK K hHeld
  have hHeld := hHeld2
  clear hHeld2
  (try simp only [Act.put, nz1, nz2, nz3])
  refine tk 8 ⟨some 24, .unOp .not 4 (.tmp 23), 4, _, _, _⟩ hHeld ?_
  (try simp only [Act.put, nz1, nz2, nz3])
  refine wpAnyH_done (by kernel_rfl) ?_ _
  clear c0 c1 c2 c3 c4 c5 c6 d0 d1 d2 d3 d4 d5 d6 d7 d8 d9 d10 d11 k0 k1 k2 k3 k4 f0 f1 f2 f3 f4 hb0
  obtain ⟨c0, c1, c2, c3, c4, c5, c6, d0, d1, d2, d3, d4, d5, d6, d7, d8, d9, d10, d11, k0, k1, k2, k3, k4, f0, f1, f2, f3, f4, hb0⟩ := hHeld
  go_wp2
  rw [rounds_succ]
  go_wp2
  go_ret
  exact ⟨rfl, hb0⟩
theorem right9_t (s : Sp) (p : Px) (ok : p.ok) (w : World) : Calls Try.prog 20 #[sv s, pv p] w fun e w' => e = .returned (.bool (rightP s p)) ∧ Below w.heap.size w w' := by
  have HS := sound_t s
  unfold rightP
  cases hs : soundS s with
  | false => rw [hs] at HS; rw [Bool.false_and]; exact right_bad s p HS w
  | true =>
    rw [hs] at HS
    have hn : 1 ≤ s.n := by
      unfold soundS at hs
      by_cases h : s.n = 1
      · omega
      · rw [if_neg h, Bool.and_eq_true, decide_eq_true_eq] at hs; omega
    have HA := on0_t s p.a0 p.k0 ok.k0 hn
    have HB : ∀ w, Calls Try.prog 53 #[sv s, .int .i64 1, .int .i64 p.a1, kv p.k1] w fun e w' => e = .returned (.bool (if s.n = 1 then decide (p.a1 = 0) && decide (p.k1 = kz) else onD s.d1 p.a1 p.k1)) ∧ Below w.heap.size w w' := by
      intro w
      split
      · rename_i h; exact on1_t s p.a1 p.k1 h w
      · rename_i h; exact on2_t s p.a1 p.k1 ok.k1 (by omega) w
    rw [Bool.true_and]
    generalize onD s.d0 p.a0 p.k0 = r0 at *
    generalize (if s.n = 1 then decide (p.a1 = 0) && decide (p.k1 = kz) else onD s.d1 p.a1 p.k1) = r1 at *
    cases r0 with
    | false => exact right_no0 s p HA HS w
    | true =>
      cases r1 with
      | false => exact right_no1 s p HA HB HS w
      | true => exact right_yes s p HA HB HS w
end Go.Proofs.Ytbekocknfpekoaa
