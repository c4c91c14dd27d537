/- P2, P3, P4, P5, P6, P7, P8, PA, P9, P11, T1, T2, T3, T4: what the theorem needs of these texts. No conditions beyond those that are written. -/
import Derived.Test.YtboinifeemghaaaGreatDoorCJLabR2
set_option linter.unusedSimpArgs false
set_option linter.unusedVariables false
set_option maxHeartbeats 8000000
set_option maxRecDepth 100000
namespace Go.Proofs.YtboinifeemghaaaGreatDoor
open Go.RowKit
theorem dz_neq (d : Dm) (w : World) : (binOp .neq 23 (.agg #[.int .i64 d.kind, .int .i64 d.side, .int .i64 d.step]) (.agg #[.int .i64 0, .int .i64 0, .int .i64 0])).run Tryz.prog w = .ok (.bool (!decide (d = dz))) w := neq_dim d dz w
theorem ixd0 (a b c d e f : Value) (w : World) : (Instr.index 34 (.agg #[a, b, c, d, e, f]) (.int .i64 0)).run Tryz.prog w = .ok (.agg #[a, b, c]) w := by kernel_rfl
theorem ixd1 (a b c d e f : Value) (w : World) : (Instr.index 34 (.agg #[a, b, c, d, e, f]) (.int .i64 1)).run Tryz.prog w = .ok (.agg #[d, e, f]) w := by kernel_rfl
theorem sound_low (s : Sp) (hn : s.n ≤ 0) (w : World) : Calls Tryz.prog 47 #[sv s] w fun e w' => e = .returned (.bool false) ∧ Below w.heap.size w w' := by
 obtain ⟨n, d0, d1⟩ := s
 dsimp only at hn
 have q0 := dz_neq d0
 have q1 := dz_neq d1
 have i0 := ixd0
 have i1 := ixd1
 generalize decide (d0 = dz) = z0 at *
 generalize decide (d1 = dz) = z1 at *
 unfold sv
 dsimp only
 obtain ⟨RR0, hb0⟩ := one_row w #[.int .i64 n, .int .i64 d0.kind, .int .i64 d0.side, .int .i64 d0.step, .int .i64 d1.kind, .int .i64 d1.side, .int .i64 d1.step] 36
 have c0 := (RR0.cell 0).trans (show _ = some (Value.int .i64 n) from rfl)
 have c1 := (RR0.cell 1).trans (show _ = some (Value.int .i64 d0.kind) from rfl)
 have c2 := (RR0.cell 2).trans (show _ = some (Value.int .i64 d0.side) from rfl)
 have c3 := (RR0.cell 3).trans (show _ = some (Value.int .i64 d0.step) from rfl)
 have c4 := (RR0.cell 4).trans (show _ = some (Value.int .i64 d1.kind) from rfl)
 have c5 := (RR0.cell 5).trans (show _ = some (Value.int .i64 d1.side) from rfl)
 have c6 := (RR0.cell 6).trans (show _ = some (Value.int .i64 d1.step) from rfl)
 clear RR0
 have n1 : (n == 1) = false := by simp; omega
 have n2 : (n == 2) = false := by simp; omega
 cases z0 with
 | false =>
  go_enter Tryz.func47, Tryz.ntmps47
  go_wp2_with fail
  refine wp_loop_rounds 3 ?_
  rw [rounds_succ]
  go_wp2
  go_ret
  exact ⟨rfl, (by repeat (first | exact Below.refl _ _ | assumption | (with_reducible refine Below.drew ?_) | ((with_reducible first | refine Below.setCell ?_ ?h _ | refine Below.alloc ?_ ?h _ | refine Below.trans ?_ (hb0.mono ?h)); case h => first | omega | (simp; done) | (simp; omega))))⟩
 | true =>
  cases z1 with
  | false =>
   go_enter Tryz.func47, Tryz.ntmps47
   go_wp2_with fail
   refine wp_loop_rounds 3 ?_
   rw [rounds_succ]
   go_wp2
   rw [rounds_succ]
   go_wp2
   go_ret
   exact ⟨rfl, (by repeat (first | exact Below.refl _ _ | assumption | (with_reducible refine Below.drew ?_) | ((with_reducible first | refine Below.setCell ?_ ?h _ | refine Below.alloc ?_ ?h _ | refine Below.trans ?_ (hb0.mono ?h)); case h => first | omega | (simp; done) | (simp; omega))))⟩
  | true =>
   go_enter Tryz.func47, Tryz.ntmps47
   go_wp2_with fail
   refine wp_loop_rounds 3 ?_
   rw [rounds_succ]
   go_wp2
   rw [rounds_succ]
   go_wp2
   rw [rounds_succ]
   go_wp2
   go_ret
   exact ⟨rfl, (by repeat (first | exact Below.refl _ _ | assumption | (with_reducible refine Below.drew ?_) | ((with_reducible first | refine Below.setCell ?_ ?h _ | refine Below.alloc ?_ ?h _ | refine Below.trans ?_ (hb0.mono ?h)); case h => first | omega | (simp; done) | (simp; omega))))⟩
theorem sound_bad0 (s : Sp) (hn : 1 ≤ s.n) (hr : rightD s.d0 = false) (w : World) : Calls Tryz.prog 47 #[sv s] w fun e w' => e = .returned (.bool false) ∧ Below w.heap.size w w' := by
 obtain ⟨n, d0, d1⟩ := s
 dsimp only at hn hr
 have i0 := ixd0
 have HR := dright_t d0
 rw [hr] at HR
 unfold sv
 unfold dv at HR
 dsimp only
 obtain ⟨RR0, hb0⟩ := one_row w #[.int .i64 n, .int .i64 d0.kind, .int .i64 d0.side, .int .i64 d0.step, .int .i64 d1.kind, .int .i64 d1.side, .int .i64 d1.step] 36
 have c0 := (RR0.cell 0).trans (show _ = some (Value.int .i64 n) from rfl)
 have c1 := (RR0.cell 1).trans (show _ = some (Value.int .i64 d0.kind) from rfl)
 have c2 := (RR0.cell 2).trans (show _ = some (Value.int .i64 d0.side) from rfl)
 have c3 := (RR0.cell 3).trans (show _ = some (Value.int .i64 d0.step) from rfl)
 have c4 := (RR0.cell 4).trans (show _ = some (Value.int .i64 d1.kind) from rfl)
 have c5 := (RR0.cell 5).trans (show _ = some (Value.int .i64 d1.side) from rfl)
 have c6 := (RR0.cell 6).trans (show _ = some (Value.int .i64 d1.step) from rfl)
 clear RR0
 go_enter Tryz.func47, Tryz.ntmps47
 go_wp2_with fail
 refine wp_loop_rounds 3 ?_
 rw [rounds_succ]
 go_wp2_with fail
 refine (HR _).mono ?_
 rintro e w1 ⟨rfl, hb⟩
 replace c0 := cl hb (cl ((Below.refl _ _).alloc (Nat.le_refl _) _) c0)
 replace c1 := cl hb (cl ((Below.refl _ _).alloc (Nat.le_refl _) _) c1)
 replace c2 := cl hb (cl ((Below.refl _ _).alloc (Nat.le_refl _) _) c2)
 replace c3 := cl hb (cl ((Below.refl _ _).alloc (Nat.le_refl _) _) c3)
 replace c4 := cl hb (cl ((Below.refl _ _).alloc (Nat.le_refl _) _) c4)
 replace c5 := cl hb (cl ((Below.refl _ _).alloc (Nat.le_refl _) _) c5)
 replace c6 := cl hb (cl ((Below.refl _ _).alloc (Nat.le_refl _) _) c6)
 have fd00 := ((Row.later (Row.new _ _ _) hb).cell 0).trans (show _ = some (Value.int .i64 d0.kind) from rfl)
 have fd01 := ((Row.later (Row.new _ _ _) hb).cell 1).trans (show _ = some (Value.int .i64 d0.side) from rfl)
 have fd02 := ((Row.later (Row.new _ _ _) hb).cell 2).trans (show _ = some (Value.int .i64 d0.step) from rfl)
 simp only [World.size_alloc] at fd00
 simp only [World.size_alloc] at fd01
 simp only [World.size_alloc] at fd02
 replace hb0 := below_step (hb0.alloc (Nat.le_trans hb0.size (Nat.le_refl _)) _) hb
 clear hb
 have lc := World.block_lt_of_cell? _ _ c0
 dsimp only at lc
 have lfd0 := World.block_lt_of_cell? _ _ fd00
 dsimp only at lfd0
 go_wp2
 go_ret
 exact ⟨rfl, (by repeat (first | exact Below.refl _ _ | assumption | (with_reducible refine Below.drew ?_) | ((with_reducible first | refine Below.setCell ?_ ?h _ | refine Below.alloc ?_ ?h _ | refine Below.trans ?_ (hb.mono ?h) | refine Below.trans ?_ (hb0.mono ?h)); case h => first | omega | (simp; done) | (simp; omega))))⟩
theorem sound_one (s : Sp) (hn : s.n = 1) (hr : rightD s.d0 = true) (w : World) : Calls Tryz.prog 47 #[sv s] w fun e w' => e = .returned (.bool (decide (s.d1 = dz))) ∧ Below w.heap.size w w' := by
 obtain ⟨n, d0, d1⟩ := s
 dsimp only at hn hr
 subst hn
 have i0 := ixd0
 have i1 := ixd1
 have q1 := dz_neq d1
 dsimp only
 generalize decide (d1 = dz) = z1 at *
 have HR := dright_t d0
 rw [hr] at HR
 unfold sv
 unfold dv at HR
 dsimp only
 obtain ⟨RR0, hb0⟩ := one_row w #[.int .i64 1, .int .i64 d0.kind, .int .i64 d0.side, .int .i64 d0.step, .int .i64 d1.kind, .int .i64 d1.side, .int .i64 d1.step] 36
 have c0 := (RR0.cell 0).trans (show _ = some (Value.int .i64 1) from rfl)
 have c1 := (RR0.cell 1).trans (show _ = some (Value.int .i64 d0.kind) from rfl)
 have c2 := (RR0.cell 2).trans (show _ = some (Value.int .i64 d0.side) from rfl)
 have c3 := (RR0.cell 3).trans (show _ = some (Value.int .i64 d0.step) from rfl)
 have c4 := (RR0.cell 4).trans (show _ = some (Value.int .i64 d1.kind) from rfl)
 have c5 := (RR0.cell 5).trans (show _ = some (Value.int .i64 d1.side) from rfl)
 have c6 := (RR0.cell 6).trans (show _ = some (Value.int .i64 d1.step) from rfl)
 clear RR0
 cases z1 with
 | false =>
  go_enter Tryz.func47, Tryz.ntmps47
  go_wp2_with fail
  refine wp_loop_rounds 3 ?_
  rw [rounds_succ]
  go_wp2_with fail
  refine (HR _).mono ?_
  rintro e w2 ⟨rfl, hb⟩
  replace c0 := cl hb (cl ((Below.refl _ _).alloc (Nat.le_refl _) _) c0)
  replace c1 := cl hb (cl ((Below.refl _ _).alloc (Nat.le_refl _) _) c1)
  replace c2 := cl hb (cl ((Below.refl _ _).alloc (Nat.le_refl _) _) c2)
  replace c3 := cl hb (cl ((Below.refl _ _).alloc (Nat.le_refl _) _) c3)
  replace c4 := cl hb (cl ((Below.refl _ _).alloc (Nat.le_refl _) _) c4)
  replace c5 := cl hb (cl ((Below.refl _ _).alloc (Nat.le_refl _) _) c5)
  replace c6 := cl hb (cl ((Below.refl _ _).alloc (Nat.le_refl _) _) c6)
  have fd00 := ((Row.later (Row.new _ _ _) hb).cell 0).trans (show _ = some (Value.int .i64 d0.kind) from rfl)
  have fd01 := ((Row.later (Row.new _ _ _) hb).cell 1).trans (show _ = some (Value.int .i64 d0.side) from rfl)
  have fd02 := ((Row.later (Row.new _ _ _) hb).cell 2).trans (show _ = some (Value.int .i64 d0.step) from rfl)
  simp only [World.size_alloc] at fd00
  simp only [World.size_alloc] at fd01
  simp only [World.size_alloc] at fd02
  replace hb0 := below_step (hb0.alloc (Nat.le_trans hb0.size (Nat.le_refl _)) _) hb
  clear hb
  have lc := World.block_lt_of_cell? _ _ c0
  dsimp only at lc
  have lfd0 := World.block_lt_of_cell? _ _ fd00
  dsimp only at lfd0
  go_wp2
  rw [rounds_succ]
  go_wp2
  go_ret
  exact ⟨rfl, (by repeat (first | exact Below.refl _ _ | assumption | (with_reducible refine Below.drew ?_) | ((with_reducible first | refine Below.setCell ?_ ?h _ | refine Below.alloc ?_ ?h _ | refine Below.trans ?_ (hb.mono ?h) | refine Below.trans ?_ (hb0.mono ?h)); case h => first | omega | (simp; done) | (simp; omega))))⟩
 | true =>
  go_enter Tryz.func47, Tryz.ntmps47
  go_wp2_with fail
  refine wp_loop_rounds 3 ?_
  rw [rounds_succ]
  go_wp2_with fail
  refine (HR _).mono ?_
  rintro e w3 ⟨rfl, hb⟩
  replace c0 := cl hb (cl ((Below.refl _ _).alloc (Nat.le_refl _) _) c0)
  replace c1 := cl hb (cl ((Below.refl _ _).alloc (Nat.le_refl _) _) c1)
  replace c2 := cl hb (cl ((Below.refl _ _).alloc (Nat.le_refl _) _) c2)
  replace c3 := cl hb (cl ((Below.refl _ _).alloc (Nat.le_refl _) _) c3)
  replace c4 := cl hb (cl ((Below.refl _ _).alloc (Nat.le_refl _) _) c4)
  replace c5 := cl hb (cl ((Below.refl _ _).alloc (Nat.le_refl _) _) c5)
  replace c6 := cl hb (cl ((Below.refl _ _).alloc (Nat.le_refl _) _) c6)
  have fd00 := ((Row.later (Row.new _ _ _) hb).cell 0).trans (show _ = some (Value.int .i64 d0.kind) from rfl)
  have fd01 := ((Row.later (Row.new _ _ _) hb).cell 1).trans (show _ = some (Value.int .i64 d0.side) from rfl)
  have fd02 := ((Row.later (Row.new _ _ _) hb).cell 2).trans (show _ = some (Value.int .i64 d0.step) from rfl)
  simp only [World.size_alloc] at fd00
  simp only [World.size_alloc] at fd01
  simp only [World.size_alloc] at fd02
  replace hb0 := below_step (hb0.alloc (Nat.le_trans hb0.size (Nat.le_refl _)) _) hb
  clear hb
  have lc := World.block_lt_of_cell? _ _ c0
  dsimp only at lc
  have lfd0 := World.block_lt_of_cell? _ _ fd00
  dsimp only at lfd0
  go_wp2
  rw [rounds_succ]
  go_wp2
  rw [rounds_succ]
  go_wp2
  go_ret
  exact ⟨rfl, (by repeat (first | exact Below.refl _ _ | assumption | (with_reducible refine Below.drew ?_) | ((with_reducible first | refine Below.setCell ?_ ?h _ | refine Below.alloc ?_ ?h _ | refine Below.trans ?_ (hb.mono ?h) | refine Below.trans ?_ (hb0.mono ?h)); case h => first | omega | (simp; done) | (simp; omega))))⟩
theorem sound_two (s : Sp) (hn : 2 ≤ s.n) (hr : rightD s.d0 = true) (w : World) : Calls Tryz.prog 47 #[sv s] w fun e w' => e = .returned (.bool (decide (s.n = 2) && rightD s.d1)) ∧ Below w.heap.size w w' := by
 obtain ⟨n, d0, d1⟩ := s
 dsimp only at hn hr
 dsimp only
 have i0 := ixd0
 have i1 := ixd1
 have HR := dright_t d0
 rw [hr] at HR
 have HS := dright_t d1
 generalize rightD d1 = r1 at *
 unfold sv
 unfold dv at HR HS
 dsimp only
 obtain ⟨RR0, hb0⟩ := one_row w #[.int .i64 n, .int .i64 d0.kind, .int .i64 d0.side, .int .i64 d0.step, .int .i64 d1.kind, .int .i64 d1.side, .int .i64 d1.step] 36
 have c0 := (RR0.cell 0).trans (show _ = some (Value.int .i64 n) from rfl)
 have c1 := (RR0.cell 1).trans (show _ = some (Value.int .i64 d0.kind) from rfl)
 have c2 := (RR0.cell 2).trans (show _ = some (Value.int .i64 d0.side) from rfl)
 have c3 := (RR0.cell 3).trans (show _ = some (Value.int .i64 d0.step) from rfl)
 have c4 := (RR0.cell 4).trans (show _ = some (Value.int .i64 d1.kind) from rfl)
 have c5 := (RR0.cell 5).trans (show _ = some (Value.int .i64 d1.side) from rfl)
 have c6 := (RR0.cell 6).trans (show _ = some (Value.int .i64 d1.step) from rfl)
 clear RR0
 have n1 : (n == 1) = false := by simp; omega
 cases r1 with
 | false =>
  rw [Bool.and_false]
  go_enter Tryz.func47, Tryz.ntmps47
  go_wp2_with fail
  refine wp_loop_rounds 3 ?_
  rw [rounds_succ]
  go_wp2_with fail
  refine (HR _).mono ?_
  rintro e w4 ⟨rfl, hb⟩
  replace c0 := cl hb (cl ((Below.refl _ _).alloc (Nat.le_refl _) _) c0)
  replace c1 := cl hb (cl ((Below.refl _ _).alloc (Nat.le_refl _) _) c1)
  replace c2 := cl hb (cl ((Below.refl _ _).alloc (Nat.le_refl _) _) c2)
  replace c3 := cl hb (cl ((Below.refl _ _).alloc (Nat.le_refl _) _) c3)
  replace c4 := cl hb (cl ((Below.refl _ _).alloc (Nat.le_refl _) _) c4)
  replace c5 := cl hb (cl ((Below.refl _ _).alloc (Nat.le_refl _) _) c5)
  replace c6 := cl hb (cl ((Below.refl _ _).alloc (Nat.le_refl _) _) c6)
  have fd00 := ((Row.later (Row.new _ _ _) hb).cell 0).trans (show _ = some (Value.int .i64 d0.kind) from rfl)
  have fd01 := ((Row.later (Row.new _ _ _) hb).cell 1).trans (show _ = some (Value.int .i64 d0.side) from rfl)
  have fd02 := ((Row.later (Row.new _ _ _) hb).cell 2).trans (show _ = some (Value.int .i64 d0.step) from rfl)
  simp only [World.size_alloc] at fd00
  simp only [World.size_alloc] at fd01
  simp only [World.size_alloc] at fd02
  replace hb0 := below_step (hb0.alloc (Nat.le_trans hb0.size (Nat.le_refl _)) _) hb
  clear hb
  have lc := World.block_lt_of_cell? _ _ c0
  dsimp only at lc
  have lfd0 := World.block_lt_of_cell? _ _ fd00
  dsimp only at lfd0
  go_wp2
  rw [rounds_succ]
  go_wp2_with fail
  refine (HS _).mono ?_
  rintro e w5 ⟨rfl, hb⟩
  replace c0 := cl hb (cl ((Below.refl _ _).alloc (Nat.le_refl _) _) c0)
  replace c1 := cl hb (cl ((Below.refl _ _).alloc (Nat.le_refl _) _) c1)
  replace c2 := cl hb (cl ((Below.refl _ _).alloc (Nat.le_refl _) _) c2)
  replace c3 := cl hb (cl ((Below.refl _ _).alloc (Nat.le_refl _) _) c3)
  replace c4 := cl hb (cl ((Below.refl _ _).alloc (Nat.le_refl _) _) c4)
  replace c5 := cl hb (cl ((Below.refl _ _).alloc (Nat.le_refl _) _) c5)
  replace c6 := cl hb (cl ((Below.refl _ _).alloc (Nat.le_refl _) _) c6)
  replace fd00 := cl hb (cl ((Below.refl _ _).alloc (Nat.le_refl _) _) fd00)
  replace fd01 := cl hb (cl ((Below.refl _ _).alloc (Nat.le_refl _) _) fd01)
  replace fd02 := cl hb (cl ((Below.refl _ _).alloc (Nat.le_refl _) _) fd02)
  have fd10 := ((Row.later (Row.new _ _ _) hb).cell 0).trans (show _ = some (Value.int .i64 d1.kind) from rfl)
  have fd11 := ((Row.later (Row.new _ _ _) hb).cell 1).trans (show _ = some (Value.int .i64 d1.side) from rfl)
  have fd12 := ((Row.later (Row.new _ _ _) hb).cell 2).trans (show _ = some (Value.int .i64 d1.step) from rfl)
  have mfd1 := hb0.size
  replace hb0 := below_step (hb0.alloc hb0.size _) hb
  clear hb
  generalize w4.heap.size = gfd1 at *
  have lc := World.block_lt_of_cell? _ _ c0
  dsimp only at lc
  have lfd0 := World.block_lt_of_cell? _ _ fd00
  dsimp only at lfd0
  have lfd1 := World.block_lt_of_cell? _ _ fd10
  dsimp only at lfd1
  go_wp2
  go_ret
  exact ⟨rfl, (by repeat (first | exact Below.refl _ _ | assumption | (with_reducible refine Below.drew ?_) | ((with_reducible first | refine Below.setCell ?_ ?h _ | refine Below.alloc ?_ ?h _ | refine Below.trans ?_ (hb.mono ?h) | refine Below.trans ?_ (hb0.mono ?h)); case h => first | omega | (simp; done) | (simp; omega))))⟩
 | true =>
  rw [Bool.and_true]
  go_enter Tryz.func47, Tryz.ntmps47
  go_wp2_with fail
  refine wp_loop_rounds 3 ?_
  rw [rounds_succ]
  go_wp2_with fail
  refine (HR _).mono ?_
  rintro e w6 ⟨rfl, hb⟩
  replace c0 := cl hb (cl ((Below.refl _ _).alloc (Nat.le_refl _) _) c0)
  replace c1 := cl hb (cl ((Below.refl _ _).alloc (Nat.le_refl _) _) c1)
  replace c2 := cl hb (cl ((Below.refl _ _).alloc (Nat.le_refl _) _) c2)
  replace c3 := cl hb (cl ((Below.refl _ _).alloc (Nat.le_refl _) _) c3)
  replace c4 := cl hb (cl ((Below.refl _ _).alloc (Nat.le_refl _) _) c4)
  replace c5 := cl hb (cl ((Below.refl _ _).alloc (Nat.le_refl _) _) c5)
  replace c6 := cl hb (cl ((Below.refl _ _).alloc (Nat.le_refl _) _) c6)
  have fd00 := ((Row.later (Row.new _ _ _) hb).cell 0).trans (show _ = some (Value.int .i64 d0.kind) from rfl)
  have fd01 := ((Row.later (Row.new _ _ _) hb).cell 1).trans (show _ = some (Value.int .i64 d0.side) from rfl)
  have fd02 := ((Row.later (Row.new _ _ _) hb).cell 2).trans (show _ = some (Value.int .i64 d0.step) from rfl)
  simp only [World.size_alloc] at fd00
  simp only [World.size_alloc] at fd01
  simp only [World.size_alloc] at fd02
  replace hb0 := below_step (hb0.alloc (Nat.le_trans hb0.size (Nat.le_refl _)) _) hb
  clear hb
  have lc := World.block_lt_of_cell? _ _ c0
  dsimp only at lc
  have lfd0 := World.block_lt_of_cell? _ _ fd00
  dsimp only at lfd0
  go_wp2
  rw [rounds_succ]
  go_wp2_with fail
  refine (HS _).mono ?_
  rintro e w7 ⟨rfl, hb⟩
  replace c0 := cl hb (cl ((Below.refl _ _).alloc (Nat.le_refl _) _) c0)
  replace c1 := cl hb (cl ((Below.refl _ _).alloc (Nat.le_refl _) _) c1)
  replace c2 := cl hb (cl ((Below.refl _ _).alloc (Nat.le_refl _) _) c2)
  replace c3 := cl hb (cl ((Below.refl _ _).alloc (Nat.le_refl _) _) c3)
  replace c4 := cl hb (cl ((Below.refl _ _).alloc (Nat.le_refl _) _) c4)
  replace c5 := cl hb (cl ((Below.refl _ _).alloc (Nat.le_refl _) _) c5)
  replace c6 := cl hb (cl ((Below.refl _ _).alloc (Nat.le_refl _) _) c6)
  replace fd00 := cl hb (cl ((Below.refl _ _).alloc (Nat.le_refl _) _) fd00)
  replace fd01 := cl hb (cl ((Below.refl _ _).alloc (Nat.le_refl _) _) fd01)
  replace fd02 := cl hb (cl ((Below.refl _ _).alloc (Nat.le_refl _) _) fd02)
  have fd10 := ((Row.later (Row.new _ _ _) hb).cell 0).trans (show _ = some (Value.int .i64 d1.kind) from rfl)
  have fd11 := ((Row.later (Row.new _ _ _) hb).cell 1).trans (show _ = some (Value.int .i64 d1.side) from rfl)
  have fd12 := ((Row.later (Row.new _ _ _) hb).cell 2).trans (show _ = some (Value.int .i64 d1.step) from rfl)
  have mfd1 := hb0.size
  replace hb0 := below_step (hb0.alloc hb0.size _) hb
  clear hb
  generalize w6.heap.size = gfd1 at *
  have lc := World.block_lt_of_cell? _ _ c0
  dsimp only at lc
  have lfd0 := World.block_lt_of_cell? _ _ fd00
  dsimp only at lfd0
  have lfd1 := World.block_lt_of_cell? _ _ fd10
  dsimp only at lfd1
  go_wp2
  rw [rounds_succ]
  go_wp2
  go_ret
  exact ⟨by first | rfl | simp, (by repeat (first | exact Below.refl _ _ | assumption | (with_reducible refine Below.drew ?_) | ((with_reducible first | refine Below.setCell ?_ ?h _ | refine Below.alloc ?_ ?h _ | refine Below.trans ?_ (hb.mono ?h) | refine Below.trans ?_ (hb0.mono ?h)); case h => first | omega | (simp; done) | (simp; omega))))⟩
theorem sound_t (s : Sp) (w : World) : Calls Tryz.prog 47 #[sv s] w fun e w' => e = .returned (.bool (soundS s)) ∧ Below w.heap.size w w' := by
 unfold soundS
 by_cases h : s.n ≤ 0
 ·rw [if_neg (by omega), decide_eq_false (by omega), Bool.false_and]
  exact sound_low s h w
 cases hr : rightD s.d0 with
 | false =>
  have := sound_bad0 s (by omega) hr w
  split
  ·exact this
  ·simpa using this
 | true =>
  by_cases h1 : s.n = 1
  ·rw [if_pos h1]; exact sound_one s h1 hr w
  ·rw [if_neg h1]; exact sound_two s (by omega) hr w
structure Px.ok (p : Px) : Prop where
 k0 : p.k0.ok
 k1 : p.k1.ok
 a00 : -9223372036854775808 ≤ p.a0
 a01 : p.a0 ≤ 9223372036854775807
 a10 : -9223372036854775808 ≤ p.a1
 a11 : p.a1 ≤ 9223372036854775807
theorem ixk0 (a b c d e f g h i j : Value) (w : World) : (Instr.index 38 (.agg #[a, b, c, d, e, f, g, h, i, j]) (.int .i64 0)).run Tryz.prog w = .ok (.agg #[a, b, c, d, e]) w := by kernel_rfl
theorem ixk1 (a b c d e f g h i j : Value) (w : World) : (Instr.index 38 (.agg #[a, b, c, d, e, f, g, h, i, j]) (.int .i64 1)).run Tryz.prog w = .ok (.agg #[f, g, h, i, j]) w := by kernel_rfl
theorem right_bad (s : Sp) (p : Px)  (HS : ∀ w, Calls Tryz.prog 47 #[sv s] w fun e w' => e = .returned (.bool false) ∧ Below w.heap.size w w') (w : World) : Calls Tryz.prog 19 #[sv s, pv p] w fun e w' => e = .returned (.bool false) ∧ Below w.heap.size w w' := by
 have i0 := ixk0
 have i1 := ixk1
 unfold sv at *
 unfold pv
 skip
 obtain ⟨RR0, RR1, hb0⟩ := two_rows w #[.int .i64 s.n, .int .i64 s.d0.kind, .int .i64 s.d0.side, .int .i64 s.d0.step, .int .i64 s.d1.kind, .int .i64 s.d1.side, .int .i64 s.d1.step] #[.int .i64 p.a0, .int .i64 p.a1, .int .i64 p.k0.kind, .int .i64 p.k0.len, .int .u64 p.k0.h, .int .u64 p.k0.l, .string ⟨p.k0.path.toArray⟩, .int .i64 p.k1.kind, .int .i64 p.k1.len, .int .u64 p.k1.h, .int .u64 p.k1.l, .string ⟨p.k1.path.toArray⟩] 36 40
 have c0 := (RR0.cell 0).trans (show _ = some (Value.int .i64 s.n) from rfl)
 have c1 := (RR0.cell 1).trans (show _ = some (Value.int .i64 s.d0.kind) from rfl)
 have c2 := (RR0.cell 2).trans (show _ = some (Value.int .i64 s.d0.side) from rfl)
 have c3 := (RR0.cell 3).trans (show _ = some (Value.int .i64 s.d0.step) from rfl)
 have c4 := (RR0.cell 4).trans (show _ = some (Value.int .i64 s.d1.kind) from rfl)
 have c5 := (RR0.cell 5).trans (show _ = some (Value.int .i64 s.d1.side) from rfl)
 have c6 := (RR0.cell 6).trans (show _ = some (Value.int .i64 s.d1.step) from rfl)
 have d0 := (RR1.cell 0).trans (show _ = some (Value.int .i64 p.a0) from rfl)
 have d1 := (RR1.cell 1).trans (show _ = some (Value.int .i64 p.a1) from rfl)
 have d2 := (RR1.cell 2).trans (show _ = some (Value.int .i64 p.k0.kind) from rfl)
 have d3 := (RR1.cell 3).trans (show _ = some (Value.int .i64 p.k0.len) from rfl)
 have d4 := (RR1.cell 4).trans (show _ = some (Value.int .u64 p.k0.h) from rfl)
 have d5 := (RR1.cell 5).trans (show _ = some (Value.int .u64 p.k0.l) from rfl)
 have d6 := (RR1.cell 6).trans (show _ = some (Value.string ⟨p.k0.path.toArray⟩) from rfl)
 have d7 := (RR1.cell 7).trans (show _ = some (Value.int .i64 p.k1.kind) from rfl)
 have d8 := (RR1.cell 8).trans (show _ = some (Value.int .i64 p.k1.len) from rfl)
 have d9 := (RR1.cell 9).trans (show _ = some (Value.int .u64 p.k1.h) from rfl)
 have d10 := (RR1.cell 10).trans (show _ = some (Value.int .u64 p.k1.l) from rfl)
 have d11 := (RR1.cell 11).trans (show _ = some (Value.string ⟨p.k1.path.toArray⟩) from rfl)
 clear RR0 RR1
 go_enter Tryz.func19, Tryz.ntmps19
 go_wp2_with fail
 refine (HS _).mono ?_
 rintro e w1 ⟨rfl, hb⟩
 replace c0 := cl hb c0
 replace c1 := cl hb c1
 replace c2 := cl hb c2
 replace c3 := cl hb c3
 replace c4 := cl hb c4
 replace c5 := cl hb c5
 replace c6 := cl hb c6
 replace d0 := cl hb d0
 replace d1 := cl hb d1
 replace d2 := cl hb d2
 replace d3 := cl hb d3
 replace d4 := cl hb d4
 replace d5 := cl hb d5
 replace d6 := cl hb d6
 replace d7 := cl hb d7
 replace d8 := cl hb d8
 replace d9 := cl hb d9
 replace d10 := cl hb d10
 replace d11 := cl hb d11
 replace hb0 := below_step hb0 hb
 clear hb
 have lc := World.block_lt_of_cell? _ _ c0
 dsimp only at lc
 have ld := World.block_lt_of_cell? _ _ d0
 dsimp only at ld
 go_wp2
 go_ret
 exact ⟨rfl, hb0⟩
theorem right_no0 (s : Sp) (p : Px) (HA : ∀ w, Calls Tryz.prog 51 #[sv s, .int .i64 0, .int .i64 p.a0, kv p.k0] w fun e w' => e = .returned (.bool false) ∧ Below w.heap.size w w') (HS : ∀ w, Calls Tryz.prog 47 #[sv s] w fun e w' => e = .returned (.bool true) ∧ Below w.heap.size w w') (w : World) : Calls Tryz.prog 19 #[sv s, pv p] w fun e w' => e = .returned (.bool false) ∧ Below w.heap.size w w' := by
 have i0 := ixk0
 have i1 := ixk1
 unfold sv at *
 unfold pv
 unfold kv at *
 obtain ⟨RR0, RR1, hb0⟩ := two_rows w #[.int .i64 s.n, .int .i64 s.d0.kind, .int .i64 s.d0.side, .int .i64 s.d0.step, .int .i64 s.d1.kind, .int .i64 s.d1.side, .int .i64 s.d1.step] #[.int .i64 p.a0, .int .i64 p.a1, .int .i64 p.k0.kind, .int .i64 p.k0.len, .int .u64 p.k0.h, .int .u64 p.k0.l, .string ⟨p.k0.path.toArray⟩, .int .i64 p.k1.kind, .int .i64 p.k1.len, .int .u64 p.k1.h, .int .u64 p.k1.l, .string ⟨p.k1.path.toArray⟩] 36 40
 have c0 := (RR0.cell 0).trans (show _ = some (Value.int .i64 s.n) from rfl)
 have c1 := (RR0.cell 1).trans (show _ = some (Value.int .i64 s.d0.kind) from rfl)
 have c2 := (RR0.cell 2).trans (show _ = some (Value.int .i64 s.d0.side) from rfl)
 have c3 := (RR0.cell 3).trans (show _ = some (Value.int .i64 s.d0.step) from rfl)
 have c4 := (RR0.cell 4).trans (show _ = some (Value.int .i64 s.d1.kind) from rfl)
 have c5 := (RR0.cell 5).trans (show _ = some (Value.int .i64 s.d1.side) from rfl)
 have c6 := (RR0.cell 6).trans (show _ = some (Value.int .i64 s.d1.step) from rfl)
 have d0 := (RR1.cell 0).trans (show _ = some (Value.int .i64 p.a0) from rfl)
 have d1 := (RR1.cell 1).trans (show _ = some (Value.int .i64 p.a1) from rfl)
 have d2 := (RR1.cell 2).trans (show _ = some (Value.int .i64 p.k0.kind) from rfl)
 have d3 := (RR1.cell 3).trans (show _ = some (Value.int .i64 p.k0.len) from rfl)
 have d4 := (RR1.cell 4).trans (show _ = some (Value.int .u64 p.k0.h) from rfl)
 have d5 := (RR1.cell 5).trans (show _ = some (Value.int .u64 p.k0.l) from rfl)
 have d6 := (RR1.cell 6).trans (show _ = some (Value.string ⟨p.k0.path.toArray⟩) from rfl)
 have d7 := (RR1.cell 7).trans (show _ = some (Value.int .i64 p.k1.kind) from rfl)
 have d8 := (RR1.cell 8).trans (show _ = some (Value.int .i64 p.k1.len) from rfl)
 have d9 := (RR1.cell 9).trans (show _ = some (Value.int .u64 p.k1.h) from rfl)
 have d10 := (RR1.cell 10).trans (show _ = some (Value.int .u64 p.k1.l) from rfl)
 have d11 := (RR1.cell 11).trans (show _ = some (Value.string ⟨p.k1.path.toArray⟩) from rfl)
 clear RR0 RR1
 go_enter Tryz.func19, Tryz.ntmps19
 go_wp2_with fail
 refine (HS _).mono ?_
 rintro e w2 ⟨rfl, hb⟩
 replace c0 := cl hb c0
 replace c1 := cl hb c1
 replace c2 := cl hb c2
 replace c3 := cl hb c3
 replace c4 := cl hb c4
 replace c5 := cl hb c5
 replace c6 := cl hb c6
 replace d0 := cl hb d0
 replace d1 := cl hb d1
 replace d2 := cl hb d2
 replace d3 := cl hb d3
 replace d4 := cl hb d4
 replace d5 := cl hb d5
 replace d6 := cl hb d6
 replace d7 := cl hb d7
 replace d8 := cl hb d8
 replace d9 := cl hb d9
 replace d10 := cl hb d10
 replace d11 := cl hb d11
 replace hb0 := below_step hb0 hb
 clear hb
 have lc := World.block_lt_of_cell? _ _ c0
 dsimp only at lc
 have ld := World.block_lt_of_cell? _ _ d0
 dsimp only at ld
 go_wp2_with fail
 refine wp_loop_rounds 3 ?_
 rw [rounds_succ]
 go_wp2_with fail
 have hbq := (Below.refl (World.heap w2).size w2).alloc (Nat.le_refl _) (.cells #[.int .i64 p.k0.kind, .int .i64 p.k0.len, .int .u64 p.k0.h, .int .u64 p.k0.l, .string ⟨p.k0.path.toArray⟩] 26)
 replace c0 := cl hbq c0
 replace c1 := cl hbq c1
 replace c2 := cl hbq c2
 replace c3 := cl hbq c3
 replace c4 := cl hbq c4
 replace c5 := cl hbq c5
 replace c6 := cl hbq c6
 replace d0 := cl hbq d0
 replace d1 := cl hbq d1
 replace d2 := cl hbq d2
 replace d3 := cl hbq d3
 replace d4 := cl hbq d4
 replace d5 := cl hbq d5
 replace d6 := cl hbq d6
 replace d7 := cl hbq d7
 replace d8 := cl hbq d8
 replace d9 := cl hbq d9
 replace d10 := cl hbq d10
 replace d11 := cl hbq d11
 clear hbq
 have k0 := ((Row.new w2 #[.int .i64 p.k0.kind, .int .i64 p.k0.len, .int .u64 p.k0.h, .int .u64 p.k0.l, .string ⟨p.k0.path.toArray⟩] 26).cell 0).trans (show _ = some (Value.int .i64 p.k0.kind) from rfl)
 have k1 := ((Row.new w2 #[.int .i64 p.k0.kind, .int .i64 p.k0.len, .int .u64 p.k0.h, .int .u64 p.k0.l, .string ⟨p.k0.path.toArray⟩] 26).cell 1).trans (show _ = some (Value.int .i64 p.k0.len) from rfl)
 have k2 := ((Row.new w2 #[.int .i64 p.k0.kind, .int .i64 p.k0.len, .int .u64 p.k0.h, .int .u64 p.k0.l, .string ⟨p.k0.path.toArray⟩] 26).cell 2).trans (show _ = some (Value.int .u64 p.k0.h) from rfl)
 have k3 := ((Row.new w2 #[.int .i64 p.k0.kind, .int .i64 p.k0.len, .int .u64 p.k0.h, .int .u64 p.k0.l, .string ⟨p.k0.path.toArray⟩] 26).cell 3).trans (show _ = some (Value.int .u64 p.k0.l) from rfl)
 have k4 := ((Row.new w2 #[.int .i64 p.k0.kind, .int .i64 p.k0.len, .int .u64 p.k0.h, .int .u64 p.k0.l, .string ⟨p.k0.path.toArray⟩] 26).cell 4).trans (show _ = some (Value.string ⟨p.k0.path.toArray⟩) from rfl)
 have mk := hb0.size
 replace hb0 := hb0.alloc hb0.size (.cells #[.int .i64 p.k0.kind, .int .i64 p.k0.len, .int .u64 p.k0.h, .int .u64 p.k0.l, .string ⟨p.k0.path.toArray⟩] 26)
 refine wp_region_held_drew (S := (fun w' => w'.cell? ⟨w.heap.size, 0, none⟩ = some (.int .i64 s.n) ∧ w'.cell? ⟨w.heap.size, 1, none⟩ = some (.int .i64 s.d0.kind) ∧ w'.cell? ⟨w.heap.size, 2, none⟩ = some (.int .i64 s.d0.side) ∧ w'.cell? ⟨w.heap.size, 3, none⟩ = some (.int .i64 s.d0.step) ∧ w'.cell? ⟨w.heap.size, 4, none⟩ = some (.int .i64 s.d1.kind) ∧ w'.cell? ⟨w.heap.size, 5, none⟩ = some (.int .i64 s.d1.side) ∧ w'.cell? ⟨w.heap.size, 6, none⟩ = some (.int .i64 s.d1.step) ∧ w'.cell? ⟨w.heap.size + 1, 0, none⟩ = some (.int .i64 p.a0) ∧ w'.cell? ⟨w.heap.size + 1, 1, none⟩ = some (.int .i64 p.a1) ∧ w'.cell? ⟨w.heap.size + 1, 2, none⟩ = some (.int .i64 p.k0.kind) ∧ w'.cell? ⟨w.heap.size + 1, 3, none⟩ = some (.int .i64 p.k0.len) ∧ w'.cell? ⟨w.heap.size + 1, 4, none⟩ = some (.int .u64 p.k0.h) ∧ w'.cell? ⟨w.heap.size + 1, 5, none⟩ = some (.int .u64 p.k0.l) ∧ w'.cell? ⟨w.heap.size + 1, 6, none⟩ = some (.string ⟨p.k0.path.toArray⟩) ∧ w'.cell? ⟨w.heap.size + 1, 7, none⟩ = some (.int .i64 p.k1.kind) ∧ w'.cell? ⟨w.heap.size + 1, 8, none⟩ = some (.int .i64 p.k1.len) ∧ w'.cell? ⟨w.heap.size + 1, 9, none⟩ = some (.int .u64 p.k1.h) ∧ w'.cell? ⟨w.heap.size + 1, 10, none⟩ = some (.int .u64 p.k1.l) ∧ w'.cell? ⟨w.heap.size + 1, 11, none⟩ = some (.string ⟨p.k1.path.toArray⟩) ∧ w'.cell? ⟨w2.heap.size, 0, none⟩ = some (Value.int .i64 p.k0.kind) ∧ w'.cell? ⟨w2.heap.size, 1, none⟩ = some (Value.int .i64 p.k0.len) ∧ w'.cell? ⟨w2.heap.size, 2, none⟩ = some (Value.int .u64 p.k0.h) ∧ w'.cell? ⟨w2.heap.size, 3, none⟩ = some (Value.int .u64 p.k0.l) ∧ w'.cell? ⟨w2.heap.size, 4, none⟩ = some (Value.string ⟨p.k0.path.toArray⟩) ∧ Below w.heap.size w w')) (by kernel_rfl) ?hSr1_ (fun hH => ?_)
 case hSr1_ => (first | exact ⟨c0, c1, c2, c3, c4, c5, c6, d0, d1, d2, d3, d4, d5, d6, d7, d8, d9, d10, d11, k0, k1, k2, k3, k4, hb0.drew⟩ | exact ⟨c0, c1, c2, c3, c4, c5, c6, d0, d1, d2, d3, d4, d5, d6, d7, d8, d9, d10, d11, k0, k1, k2, k3, k4, hb0⟩ | (obtain ⟨c0, c1, c2, c3, c4, c5, c6, d0, d1, d2, d3, d4, d5, d6, d7, d8, d9, d10, d11, k0, k1, k2, k3, k4, hb0⟩ := hH; exact ⟨cl hb c0, cl hb c1, cl hb c2, cl hb c3, cl hb c4, cl hb c5, cl hb c6, cl hb d0, cl hb d1, cl hb d2, cl hb d3, cl hb d4, cl hb d5, cl hb d6, cl hb d7, cl hb d8, cl hb d9, cl hb d10, cl hb d11, cl hb k0, cl hb k1, cl hb k2, cl hb k3, cl hb k4, below_step hb0 hb⟩))
 refine tk 0 ⟨some 16, .load 36 (.tmp 2), 36, _, _, _⟩ hH ?_
 refine tk 1 ⟨some 17, .move (.tmp 5), 3, _, _, _⟩ hH ?_
 refine tk 2 ⟨some 18, .move (.tmp 5), 3, _, _, _⟩ hH ?_
 refine tk 3 ⟨some 19, .fieldAddr 40 (.tmp 3) 0, 0, _, _, _⟩ hH ?_
 refine tk 4 ⟨some 20, .indexAddr 37 (.tmp 19) (.tmp 18), 0, _, _, _⟩ hH ?_
 refine tk 5 ⟨some 21, .load 3 (.tmp 20), 3, _, _, _⟩ hH ?_
 refine tk 6 ⟨some 22, .load 26 (.tmp 6), 26, _, _, _⟩ hH ?_
 refine wpAnyH_ready (rs := [7]) (by kernel_rfl) (by simp) ?_
 refine AllReadyH.cons (o := ⟨some 23, .call { callee := .value (.func 51), args := #[.tmp 16, .tmp 17, .tmp 21, .tmp 22], argTypes := #[36, 3, 3, 26] }, 4, _, _, _⟩) rfl (fun K hK => ?_) AllReadyH.nil
 (go_simp; (refine (HA _).mono ?_); (rintro e wn ⟨rfl, hb⟩); go_wp2_with fail)
 refine hK.out _ _ ?hSr1_8_7 fun _ => ?_
 case hSr1_8_7 => (first | exact ⟨c0, c1, c2, c3, c4, c5, c6, d0, d1, d2, d3, d4, d5, d6, d7, d8, d9, d10, d11, k0, k1, k2, k3, k4, hb0.drew⟩ | exact ⟨c0, c1, c2, c3, c4, c5, c6, d0, d1, d2, d3, d4, d5, d6, d7, d8, d9, d10, d11, k0, k1, k2, k3, k4, hb0⟩ | (obtain ⟨c0, c1, c2, c3, c4, c5, c6, d0, d1, d2, d3, d4, d5, d6, d7, d8, d9, d10, d11, k0, k1, k2, k3, k4, hb0⟩ := hH; exact ⟨cl hb c0, cl hb c1, cl hb c2, cl hb c3, cl hb c4, cl hb c5, cl hb c6, cl hb d0, cl hb d1, cl hb d2, cl hb d3, cl hb d4, cl hb d5, cl hb d6, cl hb d7, cl hb d8, cl hb d9, cl hb d10, cl hb d11, cl hb k0, cl hb k1, cl hb k2, cl hb k3, cl hb k4, below_step hb0 hb⟩))
 clear hK K hH; rename_i hH
 (try simp only [Act.put, nz1, nz2, nz3])
 refine tk 8 ⟨some 24, .unOp .not 4 (.tmp 23), 4, _, _, _⟩ hH ?_
 refine wpAnyH_done (by kernel_rfl) ?_ _
 clear c0 c1 c2 c3 c4 c5 c6 d0 d1 d2 d3 d4 d5 d6 d7 d8 d9 d10 d11 k0 k1 k2 k3 k4 hb0
 obtain ⟨c0, c1, c2, c3, c4, c5, c6, d0, d1, d2, d3, d4, d5, d6, d7, d8, d9, d10, d11, k0, k1, k2, k3, k4, hb0⟩ := hH
 go_wp2
 go_ret
 exact ⟨rfl, hb0⟩
theorem right_no1 (s : Sp) (p : Px) (HA : ∀ w, Calls Tryz.prog 51 #[sv s, .int .i64 0, .int .i64 p.a0, kv p.k0] w fun e w' => e = .returned (.bool true) ∧ Below w.heap.size w w') (HB : ∀ w, Calls Tryz.prog 51 #[sv s, .int .i64 1, .int .i64 p.a1, kv p.k1] w fun e w' => e = .returned (.bool false) ∧ Below w.heap.size w w') (HS : ∀ w, Calls Tryz.prog 47 #[sv s] w fun e w' => e = .returned (.bool true) ∧ Below w.heap.size w w') (w : World) : Calls Tryz.prog 19 #[sv s, pv p] w fun e w' => e = .returned (.bool false) ∧ Below w.heap.size w w' := by
 have i0 := ixk0
 have i1 := ixk1
 unfold sv at *
 unfold pv
 unfold kv at *
 obtain ⟨RR0, RR1, hb0⟩ := two_rows w #[.int .i64 s.n, .int .i64 s.d0.kind, .int .i64 s.d0.side, .int .i64 s.d0.step, .int .i64 s.d1.kind, .int .i64 s.d1.side, .int .i64 s.d1.step] #[.int .i64 p.a0, .int .i64 p.a1, .int .i64 p.k0.kind, .int .i64 p.k0.len, .int .u64 p.k0.h, .int .u64 p.k0.l, .string ⟨p.k0.path.toArray⟩, .int .i64 p.k1.kind, .int .i64 p.k1.len, .int .u64 p.k1.h, .int .u64 p.k1.l, .string ⟨p.k1.path.toArray⟩] 36 40
 have c0 := (RR0.cell 0).trans (show _ = some (Value.int .i64 s.n) from rfl)
 have c1 := (RR0.cell 1).trans (show _ = some (Value.int .i64 s.d0.kind) from rfl)
 have c2 := (RR0.cell 2).trans (show _ = some (Value.int .i64 s.d0.side) from rfl)
 have c3 := (RR0.cell 3).trans (show _ = some (Value.int .i64 s.d0.step) from rfl)
 have c4 := (RR0.cell 4).trans (show _ = some (Value.int .i64 s.d1.kind) from rfl)
 have c5 := (RR0.cell 5).trans (show _ = some (Value.int .i64 s.d1.side) from rfl)
 have c6 := (RR0.cell 6).trans (show _ = some (Value.int .i64 s.d1.step) from rfl)
 have d0 := (RR1.cell 0).trans (show _ = some (Value.int .i64 p.a0) from rfl)
 have d1 := (RR1.cell 1).trans (show _ = some (Value.int .i64 p.a1) from rfl)
 have d2 := (RR1.cell 2).trans (show _ = some (Value.int .i64 p.k0.kind) from rfl)
 have d3 := (RR1.cell 3).trans (show _ = some (Value.int .i64 p.k0.len) from rfl)
 have d4 := (RR1.cell 4).trans (show _ = some (Value.int .u64 p.k0.h) from rfl)
 have d5 := (RR1.cell 5).trans (show _ = some (Value.int .u64 p.k0.l) from rfl)
 have d6 := (RR1.cell 6).trans (show _ = some (Value.string ⟨p.k0.path.toArray⟩) from rfl)
 have d7 := (RR1.cell 7).trans (show _ = some (Value.int .i64 p.k1.kind) from rfl)
 have d8 := (RR1.cell 8).trans (show _ = some (Value.int .i64 p.k1.len) from rfl)
 have d9 := (RR1.cell 9).trans (show _ = some (Value.int .u64 p.k1.h) from rfl)
 have d10 := (RR1.cell 10).trans (show _ = some (Value.int .u64 p.k1.l) from rfl)
 have d11 := (RR1.cell 11).trans (show _ = some (Value.string ⟨p.k1.path.toArray⟩) from rfl)
 clear RR0 RR1
 go_enter Tryz.func19, Tryz.ntmps19
 go_wp2_with fail
 refine (HS _).mono ?_
 rintro e w3 ⟨rfl, hb⟩
 replace c0 := cl hb c0
 replace c1 := cl hb c1
 replace c2 := cl hb c2
 replace c3 := cl hb c3
 replace c4 := cl hb c4
 replace c5 := cl hb c5
 replace c6 := cl hb c6
 replace d0 := cl hb d0
 replace d1 := cl hb d1
 replace d2 := cl hb d2
 replace d3 := cl hb d3
 replace d4 := cl hb d4
 replace d5 := cl hb d5
 replace d6 := cl hb d6
 replace d7 := cl hb d7
 replace d8 := cl hb d8
 replace d9 := cl hb d9
 replace d10 := cl hb d10
 replace d11 := cl hb d11
 replace hb0 := below_step hb0 hb
 clear hb
 have lc := World.block_lt_of_cell? _ _ c0
 dsimp only at lc
 have ld := World.block_lt_of_cell? _ _ d0
 dsimp only at ld
 go_wp2_with fail
 refine wp_loop_rounds 3 ?_
 rw [rounds_succ]
 go_wp2_with fail
 have hbq := (Below.refl (World.heap w3).size w3).alloc (Nat.le_refl _) (.cells #[.int .i64 p.k0.kind, .int .i64 p.k0.len, .int .u64 p.k0.h, .int .u64 p.k0.l, .string ⟨p.k0.path.toArray⟩] 26)
 replace c0 := cl hbq c0
 replace c1 := cl hbq c1
 replace c2 := cl hbq c2
 replace c3 := cl hbq c3
 replace c4 := cl hbq c4
 replace c5 := cl hbq c5
 replace c6 := cl hbq c6
 replace d0 := cl hbq d0
 replace d1 := cl hbq d1
 replace d2 := cl hbq d2
 replace d3 := cl hbq d3
 replace d4 := cl hbq d4
 replace d5 := cl hbq d5
 replace d6 := cl hbq d6
 replace d7 := cl hbq d7
 replace d8 := cl hbq d8
 replace d9 := cl hbq d9
 replace d10 := cl hbq d10
 replace d11 := cl hbq d11
 clear hbq
 have k0 := ((Row.new w3 #[.int .i64 p.k0.kind, .int .i64 p.k0.len, .int .u64 p.k0.h, .int .u64 p.k0.l, .string ⟨p.k0.path.toArray⟩] 26).cell 0).trans (show _ = some (Value.int .i64 p.k0.kind) from rfl)
 have k1 := ((Row.new w3 #[.int .i64 p.k0.kind, .int .i64 p.k0.len, .int .u64 p.k0.h, .int .u64 p.k0.l, .string ⟨p.k0.path.toArray⟩] 26).cell 1).trans (show _ = some (Value.int .i64 p.k0.len) from rfl)
 have k2 := ((Row.new w3 #[.int .i64 p.k0.kind, .int .i64 p.k0.len, .int .u64 p.k0.h, .int .u64 p.k0.l, .string ⟨p.k0.path.toArray⟩] 26).cell 2).trans (show _ = some (Value.int .u64 p.k0.h) from rfl)
 have k3 := ((Row.new w3 #[.int .i64 p.k0.kind, .int .i64 p.k0.len, .int .u64 p.k0.h, .int .u64 p.k0.l, .string ⟨p.k0.path.toArray⟩] 26).cell 3).trans (show _ = some (Value.int .u64 p.k0.l) from rfl)
 have k4 := ((Row.new w3 #[.int .i64 p.k0.kind, .int .i64 p.k0.len, .int .u64 p.k0.h, .int .u64 p.k0.l, .string ⟨p.k0.path.toArray⟩] 26).cell 4).trans (show _ = some (Value.string ⟨p.k0.path.toArray⟩) from rfl)
 have mk := hb0.size
 replace hb0 := hb0.alloc hb0.size (.cells #[.int .i64 p.k0.kind, .int .i64 p.k0.len, .int .u64 p.k0.h, .int .u64 p.k0.l, .string ⟨p.k0.path.toArray⟩] 26)
 refine wp_region_held_drew (S := (fun w' => w'.cell? ⟨w.heap.size, 0, none⟩ = some (.int .i64 s.n) ∧ w'.cell? ⟨w.heap.size, 1, none⟩ = some (.int .i64 s.d0.kind) ∧ w'.cell? ⟨w.heap.size, 2, none⟩ = some (.int .i64 s.d0.side) ∧ w'.cell? ⟨w.heap.size, 3, none⟩ = some (.int .i64 s.d0.step) ∧ w'.cell? ⟨w.heap.size, 4, none⟩ = some (.int .i64 s.d1.kind) ∧ w'.cell? ⟨w.heap.size, 5, none⟩ = some (.int .i64 s.d1.side) ∧ w'.cell? ⟨w.heap.size, 6, none⟩ = some (.int .i64 s.d1.step) ∧ w'.cell? ⟨w.heap.size + 1, 0, none⟩ = some (.int .i64 p.a0) ∧ w'.cell? ⟨w.heap.size + 1, 1, none⟩ = some (.int .i64 p.a1) ∧ w'.cell? ⟨w.heap.size + 1, 2, none⟩ = some (.int .i64 p.k0.kind) ∧ w'.cell? ⟨w.heap.size + 1, 3, none⟩ = some (.int .i64 p.k0.len) ∧ w'.cell? ⟨w.heap.size + 1, 4, none⟩ = some (.int .u64 p.k0.h) ∧ w'.cell? ⟨w.heap.size + 1, 5, none⟩ = some (.int .u64 p.k0.l) ∧ w'.cell? ⟨w.heap.size + 1, 6, none⟩ = some (.string ⟨p.k0.path.toArray⟩) ∧ w'.cell? ⟨w.heap.size + 1, 7, none⟩ = some (.int .i64 p.k1.kind) ∧ w'.cell? ⟨w.heap.size + 1, 8, none⟩ = some (.int .i64 p.k1.len) ∧ w'.cell? ⟨w.heap.size + 1, 9, none⟩ = some (.int .u64 p.k1.h) ∧ w'.cell? ⟨w.heap.size + 1, 10, none⟩ = some (.int .u64 p.k1.l) ∧ w'.cell? ⟨w.heap.size + 1, 11, none⟩ = some (.string ⟨p.k1.path.toArray⟩) ∧ w'.cell? ⟨w3.heap.size, 0, none⟩ = some (Value.int .i64 p.k0.kind) ∧ w'.cell? ⟨w3.heap.size, 1, none⟩ = some (Value.int .i64 p.k0.len) ∧ w'.cell? ⟨w3.heap.size, 2, none⟩ = some (Value.int .u64 p.k0.h) ∧ w'.cell? ⟨w3.heap.size, 3, none⟩ = some (Value.int .u64 p.k0.l) ∧ w'.cell? ⟨w3.heap.size, 4, none⟩ = some (Value.string ⟨p.k0.path.toArray⟩) ∧ Below w.heap.size w w')) (by kernel_rfl) ?hSr2_ (fun hH => ?_)
 case hSr2_ => (first | exact ⟨c0, c1, c2, c3, c4, c5, c6, d0, d1, d2, d3, d4, d5, d6, d7, d8, d9, d10, d11, k0, k1, k2, k3, k4, hb0.drew⟩ | exact ⟨c0, c1, c2, c3, c4, c5, c6, d0, d1, d2, d3, d4, d5, d6, d7, d8, d9, d10, d11, k0, k1, k2, k3, k4, hb0⟩ | (obtain ⟨c0, c1, c2, c3, c4, c5, c6, d0, d1, d2, d3, d4, d5, d6, d7, d8, d9, d10, d11, k0, k1, k2, k3, k4, hb0⟩ := hH; exact ⟨cl hb c0, cl hb c1, cl hb c2, cl hb c3, cl hb c4, cl hb c5, cl hb c6, cl hb d0, cl hb d1, cl hb d2, cl hb d3, cl hb d4, cl hb d5, cl hb d6, cl hb d7, cl hb d8, cl hb d9, cl hb d10, cl hb d11, cl hb k0, cl hb k1, cl hb k2, cl hb k3, cl hb k4, below_step hb0 hb⟩))
 refine tk 0 ⟨some 16, .load 36 (.tmp 2), 36, _, _, _⟩ hH ?_
 refine tk 1 ⟨some 17, .move (.tmp 5), 3, _, _, _⟩ hH ?_
 refine tk 2 ⟨some 18, .move (.tmp 5), 3, _, _, _⟩ hH ?_
 refine tk 3 ⟨some 19, .fieldAddr 40 (.tmp 3) 0, 0, _, _, _⟩ hH ?_
 refine tk 4 ⟨some 20, .indexAddr 37 (.tmp 19) (.tmp 18), 0, _, _, _⟩ hH ?_
 refine tk 5 ⟨some 21, .load 3 (.tmp 20), 3, _, _, _⟩ hH ?_
 refine tk 6 ⟨some 22, .load 26 (.tmp 6), 26, _, _, _⟩ hH ?_
 refine wpAnyH_ready (rs := [7]) (by kernel_rfl) (by simp) ?_
 refine AllReadyH.cons (o := ⟨some 23, .call { callee := .value (.func 51), args := #[.tmp 16, .tmp 17, .tmp 21, .tmp 22], argTypes := #[36, 3, 3, 26] }, 4, _, _, _⟩) rfl (fun K hK => ?_) AllReadyH.nil
 (go_simp; (refine (HA _).mono ?_); (rintro e wn ⟨rfl, hb⟩); go_wp2_with fail)
 refine hK.out _ _ ?hSr2_8_7 fun _ => ?_
 case hSr2_8_7 => (first | exact ⟨c0, c1, c2, c3, c4, c5, c6, d0, d1, d2, d3, d4, d5, d6, d7, d8, d9, d10, d11, k0, k1, k2, k3, k4, hb0.drew⟩ | exact ⟨c0, c1, c2, c3, c4, c5, c6, d0, d1, d2, d3, d4, d5, d6, d7, d8, d9, d10, d11, k0, k1, k2, k3, k4, hb0⟩ | (obtain ⟨c0, c1, c2, c3, c4, c5, c6, d0, d1, d2, d3, d4, d5, d6, d7, d8, d9, d10, d11, k0, k1, k2, k3, k4, hb0⟩ := hH; exact ⟨cl hb c0, cl hb c1, cl hb c2, cl hb c3, cl hb c4, cl hb c5, cl hb c6, cl hb d0, cl hb d1, cl hb d2, cl hb d3, cl hb d4, cl hb d5, cl hb d6, cl hb d7, cl hb d8, cl hb d9, cl hb d10, cl hb d11, cl hb k0, cl hb k1, cl hb k2, cl hb k3, cl hb k4, below_step hb0 hb⟩))
 clear hK K hH; rename_i hH
 (try simp only [Act.put, nz1, nz2, nz3])
 refine tk 8 ⟨some 24, .unOp .not 4 (.tmp 23), 4, _, _, _⟩ hH ?_
 refine wpAnyH_done (by kernel_rfl) ?_ _
 clear c0 c1 c2 c3 c4 c5 c6 d0 d1 d2 d3 d4 d5 d6 d7 d8 d9 d10 d11 k0 k1 k2 k3 k4 hb0
 obtain ⟨c0, c1, c2, c3, c4, c5, c6, d0, d1, d2, d3, d4, d5, d6, d7, d8, d9, d10, d11, k0, k1, k2, k3, k4, hb0⟩ := hH
 go_wp2
 rw [rounds_succ]
 go_wp2_with fail
 have hbq := (Below.refl (World.heap wn).size wn).alloc (Nat.le_refl _) (.cells #[.int .i64 p.k1.kind, .int .i64 p.k1.len, .int .u64 p.k1.h, .int .u64 p.k1.l, .string ⟨p.k1.path.toArray⟩] 26)
 replace c0 := cl hbq c0
 replace c1 := cl hbq c1
 replace c2 := cl hbq c2
 replace c3 := cl hbq c3
 replace c4 := cl hbq c4
 replace c5 := cl hbq c5
 replace c6 := cl hbq c6
 replace d0 := cl hbq d0
 replace d1 := cl hbq d1
 replace d2 := cl hbq d2
 replace d3 := cl hbq d3
 replace d4 := cl hbq d4
 replace d5 := cl hbq d5
 replace d6 := cl hbq d6
 replace d7 := cl hbq d7
 replace d8 := cl hbq d8
 replace d9 := cl hbq d9
 replace d10 := cl hbq d10
 replace d11 := cl hbq d11
 replace k0 := cl hbq k0
 replace k1 := cl hbq k1
 replace k2 := cl hbq k2
 replace k3 := cl hbq k3
 replace k4 := cl hbq k4
 clear hbq
 have f0 := ((Row.new wn #[.int .i64 p.k1.kind, .int .i64 p.k1.len, .int .u64 p.k1.h, .int .u64 p.k1.l, .string ⟨p.k1.path.toArray⟩] 26).cell 0).trans (show _ = some (Value.int .i64 p.k1.kind) from rfl)
 have f1 := ((Row.new wn #[.int .i64 p.k1.kind, .int .i64 p.k1.len, .int .u64 p.k1.h, .int .u64 p.k1.l, .string ⟨p.k1.path.toArray⟩] 26).cell 1).trans (show _ = some (Value.int .i64 p.k1.len) from rfl)
 have f2 := ((Row.new wn #[.int .i64 p.k1.kind, .int .i64 p.k1.len, .int .u64 p.k1.h, .int .u64 p.k1.l, .string ⟨p.k1.path.toArray⟩] 26).cell 2).trans (show _ = some (Value.int .u64 p.k1.h) from rfl)
 have f3 := ((Row.new wn #[.int .i64 p.k1.kind, .int .i64 p.k1.len, .int .u64 p.k1.h, .int .u64 p.k1.l, .string ⟨p.k1.path.toArray⟩] 26).cell 3).trans (show _ = some (Value.int .u64 p.k1.l) from rfl)
 have f4 := ((Row.new wn #[.int .i64 p.k1.kind, .int .i64 p.k1.len, .int .u64 p.k1.h, .int .u64 p.k1.l, .string ⟨p.k1.path.toArray⟩] 26).cell 4).trans (show _ = some (Value.string ⟨p.k1.path.toArray⟩) from rfl)
 have mf := hb0.size
 replace hb0 := hb0.alloc hb0.size (.cells #[.int .i64 p.k1.kind, .int .i64 p.k1.len, .int .u64 p.k1.h, .int .u64 p.k1.l, .string ⟨p.k1.path.toArray⟩] 26)
 refine wp_region_held_drew (S := (fun w' => w'.cell? ⟨w.heap.size, 0, none⟩ = some (.int .i64 s.n) ∧ w'.cell? ⟨w.heap.size, 1, none⟩ = some (.int .i64 s.d0.kind) ∧ w'.cell? ⟨w.heap.size, 2, none⟩ = some (.int .i64 s.d0.side) ∧ w'.cell? ⟨w.heap.size, 3, none⟩ = some (.int .i64 s.d0.step) ∧ w'.cell? ⟨w.heap.size, 4, none⟩ = some (.int .i64 s.d1.kind) ∧ w'.cell? ⟨w.heap.size, 5, none⟩ = some (.int .i64 s.d1.side) ∧ w'.cell? ⟨w.heap.size, 6, none⟩ = some (.int .i64 s.d1.step) ∧ w'.cell? ⟨w.heap.size + 1, 0, none⟩ = some (.int .i64 p.a0) ∧ w'.cell? ⟨w.heap.size + 1, 1, none⟩ = some (.int .i64 p.a1) ∧ w'.cell? ⟨w.heap.size + 1, 2, none⟩ = some (.int .i64 p.k0.kind) ∧ w'.cell? ⟨w.heap.size + 1, 3, none⟩ = some (.int .i64 p.k0.len) ∧ w'.cell? ⟨w.heap.size + 1, 4, none⟩ = some (.int .u64 p.k0.h) ∧ w'.cell? ⟨w.heap.size + 1, 5, none⟩ = some (.int .u64 p.k0.l) ∧ w'.cell? ⟨w.heap.size + 1, 6, none⟩ = some (.string ⟨p.k0.path.toArray⟩) ∧ w'.cell? ⟨w.heap.size + 1, 7, none⟩ = some (.int .i64 p.k1.kind) ∧ w'.cell? ⟨w.heap.size + 1, 8, none⟩ = some (.int .i64 p.k1.len) ∧ w'.cell? ⟨w.heap.size + 1, 9, none⟩ = some (.int .u64 p.k1.h) ∧ w'.cell? ⟨w.heap.size + 1, 10, none⟩ = some (.int .u64 p.k1.l) ∧ w'.cell? ⟨w.heap.size + 1, 11, none⟩ = some (.string ⟨p.k1.path.toArray⟩) ∧ w'.cell? ⟨w3.heap.size, 0, none⟩ = some (Value.int .i64 p.k0.kind) ∧ w'.cell? ⟨w3.heap.size, 1, none⟩ = some (Value.int .i64 p.k0.len) ∧ w'.cell? ⟨w3.heap.size, 2, none⟩ = some (Value.int .u64 p.k0.h) ∧ w'.cell? ⟨w3.heap.size, 3, none⟩ = some (Value.int .u64 p.k0.l) ∧ w'.cell? ⟨w3.heap.size, 4, none⟩ = some (Value.string ⟨p.k0.path.toArray⟩) ∧ w'.cell? ⟨wn.heap.size, 0, none⟩ = some (Value.int .i64 p.k1.kind) ∧ w'.cell? ⟨wn.heap.size, 1, none⟩ = some (Value.int .i64 p.k1.len) ∧ w'.cell? ⟨wn.heap.size, 2, none⟩ = some (Value.int .u64 p.k1.h) ∧ w'.cell? ⟨wn.heap.size, 3, none⟩ = some (Value.int .u64 p.k1.l) ∧ w'.cell? ⟨wn.heap.size, 4, none⟩ = some (Value.string ⟨p.k1.path.toArray⟩) ∧ Below w.heap.size w w')) (by kernel_rfl) ?hSr3_ (fun hH => ?_)
 case hSr3_ => (first | exact ⟨c0, c1, c2, c3, c4, c5, c6, d0, d1, d2, d3, d4, d5, d6, d7, d8, d9, d10, d11, k0, k1, k2, k3, k4, f0, f1, f2, f3, f4, hb0.drew⟩ | exact ⟨c0, c1, c2, c3, c4, c5, c6, d0, d1, d2, d3, d4, d5, d6, d7, d8, d9, d10, d11, k0, k1, k2, k3, k4, f0, f1, f2, f3, f4, hb0⟩ | (obtain ⟨c0, c1, c2, c3, c4, c5, c6, d0, d1, d2, d3, d4, d5, d6, d7, d8, d9, d10, d11, k0, k1, k2, k3, k4, f0, f1, f2, f3, f4, hb0⟩ := hH; exact ⟨cl hb c0, cl hb c1, cl hb c2, cl hb c3, cl hb c4, cl hb c5, cl hb c6, cl hb d0, cl hb d1, cl hb d2, cl hb d3, cl hb d4, cl hb d5, cl hb d6, cl hb d7, cl hb d8, cl hb d9, cl hb d10, cl hb d11, cl hb k0, cl hb k1, cl hb k2, cl hb k3, cl hb k4, cl hb f0, cl hb f1, cl hb f2, cl hb f3, cl hb f4, below_step hb0 hb⟩))
 refine tk 0 ⟨some 16, .load 36 (.tmp 2), 36, _, _, _⟩ hH ?_
 refine tk 1 ⟨some 17, .move (.tmp 5), 3, _, _, _⟩ hH ?_
 refine tk 2 ⟨some 18, .move (.tmp 5), 3, _, _, _⟩ hH ?_
 refine tk 3 ⟨some 19, .fieldAddr 40 (.tmp 3) 0, 0, _, _, _⟩ hH ?_
 refine tk 4 ⟨some 20, .indexAddr 37 (.tmp 19) (.tmp 18), 0, _, _, _⟩ hH ?_
 refine tk 5 ⟨some 21, .load 3 (.tmp 20), 3, _, _, _⟩ hH ?_
 refine tk 6 ⟨some 22, .load 26 (.tmp 6), 26, _, _, _⟩ hH ?_
 refine wpAnyH_ready (rs := [7]) (by kernel_rfl) (by simp) ?_
 refine AllReadyH.cons (o := ⟨some 23, .call { callee := .value (.func 51), args := #[.tmp 16, .tmp 17, .tmp 21, .tmp 22], argTypes := #[36, 3, 3, 26] }, 4, _, _, _⟩) rfl (fun K hK => ?_) AllReadyH.nil
 (go_simp; (refine (HB _).mono ?_); (rintro e wn ⟨rfl, hb⟩); go_wp2_with fail)
 refine hK.out _ _ ?hSr3_8_7 fun _ => ?_
 case hSr3_8_7 => (first | exact ⟨c0, c1, c2, c3, c4, c5, c6, d0, d1, d2, d3, d4, d5, d6, d7, d8, d9, d10, d11, k0, k1, k2, k3, k4, f0, f1, f2, f3, f4, hb0.drew⟩ | exact ⟨c0, c1, c2, c3, c4, c5, c6, d0, d1, d2, d3, d4, d5, d6, d7, d8, d9, d10, d11, k0, k1, k2, k3, k4, f0, f1, f2, f3, f4, hb0⟩ | (obtain ⟨c0, c1, c2, c3, c4, c5, c6, d0, d1, d2, d3, d4, d5, d6, d7, d8, d9, d10, d11, k0, k1, k2, k3, k4, f0, f1, f2, f3, f4, hb0⟩ := hH; exact ⟨cl hb c0, cl hb c1, cl hb c2, cl hb c3, cl hb c4, cl hb c5, cl hb c6, cl hb d0, cl hb d1, cl hb d2, cl hb d3, cl hb d4, cl hb d5, cl hb d6, cl hb d7, cl hb d8, cl hb d9, cl hb d10, cl hb d11, cl hb k0, cl hb k1, cl hb k2, cl hb k3, cl hb k4, cl hb f0, cl hb f1, cl hb f2, cl hb f3, cl hb f4, below_step hb0 hb⟩))
 clear hK K hH; rename_i hH
 (try simp only [Act.put, nz1, nz2, nz3])
 refine tk 8 ⟨some 24, .unOp .not 4 (.tmp 23), 4, _, _, _⟩ hH ?_
 refine wpAnyH_done (by kernel_rfl) ?_ _
 clear c0 c1 c2 c3 c4 c5 c6 d0 d1 d2 d3 d4 d5 d6 d7 d8 d9 d10 d11 k0 k1 k2 k3 k4 f0 f1 f2 f3 f4 hb0
 obtain ⟨c0, c1, c2, c3, c4, c5, c6, d0, d1, d2, d3, d4, d5, d6, d7, d8, d9, d10, d11, k0, k1, k2, k3, k4, f0, f1, f2, f3, f4, hb0⟩ := hH
 go_wp2
 go_ret
 exact ⟨rfl, hb0⟩
theorem right_yes (s : Sp) (p : Px) (HA : ∀ w, Calls Tryz.prog 51 #[sv s, .int .i64 0, .int .i64 p.a0, kv p.k0] w fun e w' => e = .returned (.bool true) ∧ Below w.heap.size w w') (HB : ∀ w, Calls Tryz.prog 51 #[sv s, .int .i64 1, .int .i64 p.a1, kv p.k1] w fun e w' => e = .returned (.bool true) ∧ Below w.heap.size w w') (HS : ∀ w, Calls Tryz.prog 47 #[sv s] w fun e w' => e = .returned (.bool true) ∧ Below w.heap.size w w') (w : World) : Calls Tryz.prog 19 #[sv s, pv p] w fun e w' => e = .returned (.bool true) ∧ Below w.heap.size w w' := by
 have i0 := ixk0
 have i1 := ixk1
 unfold sv at *
 unfold pv
 unfold kv at *
 obtain ⟨RR0, RR1, hb0⟩ := two_rows w #[.int .i64 s.n, .int .i64 s.d0.kind, .int .i64 s.d0.side, .int .i64 s.d0.step, .int .i64 s.d1.kind, .int .i64 s.d1.side, .int .i64 s.d1.step] #[.int .i64 p.a0, .int .i64 p.a1, .int .i64 p.k0.kind, .int .i64 p.k0.len, .int .u64 p.k0.h, .int .u64 p.k0.l, .string ⟨p.k0.path.toArray⟩, .int .i64 p.k1.kind, .int .i64 p.k1.len, .int .u64 p.k1.h, .int .u64 p.k1.l, .string ⟨p.k1.path.toArray⟩] 36 40
 have c0 := (RR0.cell 0).trans (show _ = some (Value.int .i64 s.n) from rfl)
 have c1 := (RR0.cell 1).trans (show _ = some (Value.int .i64 s.d0.kind) from rfl)
 have c2 := (RR0.cell 2).trans (show _ = some (Value.int .i64 s.d0.side) from rfl)
 have c3 := (RR0.cell 3).trans (show _ = some (Value.int .i64 s.d0.step) from rfl)
 have c4 := (RR0.cell 4).trans (show _ = some (Value.int .i64 s.d1.kind) from rfl)
 have c5 := (RR0.cell 5).trans (show _ = some (Value.int .i64 s.d1.side) from rfl)
 have c6 := (RR0.cell 6).trans (show _ = some (Value.int .i64 s.d1.step) from rfl)
 have d0 := (RR1.cell 0).trans (show _ = some (Value.int .i64 p.a0) from rfl)
 have d1 := (RR1.cell 1).trans (show _ = some (Value.int .i64 p.a1) from rfl)
 have d2 := (RR1.cell 2).trans (show _ = some (Value.int .i64 p.k0.kind) from rfl)
 have d3 := (RR1.cell 3).trans (show _ = some (Value.int .i64 p.k0.len) from rfl)
 have d4 := (RR1.cell 4).trans (show _ = some (Value.int .u64 p.k0.h) from rfl)
 have d5 := (RR1.cell 5).trans (show _ = some (Value.int .u64 p.k0.l) from rfl)
 have d6 := (RR1.cell 6).trans (show _ = some (Value.string ⟨p.k0.path.toArray⟩) from rfl)
 have d7 := (RR1.cell 7).trans (show _ = some (Value.int .i64 p.k1.kind) from rfl)
 have d8 := (RR1.cell 8).trans (show _ = some (Value.int .i64 p.k1.len) from rfl)
 have d9 := (RR1.cell 9).trans (show _ = some (Value.int .u64 p.k1.h) from rfl)
 have d10 := (RR1.cell 10).trans (show _ = some (Value.int .u64 p.k1.l) from rfl)
 have d11 := (RR1.cell 11).trans (show _ = some (Value.string ⟨p.k1.path.toArray⟩) from rfl)
 clear RR0 RR1
 go_enter Tryz.func19, Tryz.ntmps19
 go_wp2_with fail
 refine (HS _).mono ?_
 rintro e w4 ⟨rfl, hb⟩
 replace c0 := cl hb c0
 replace c1 := cl hb c1
 replace c2 := cl hb c2
 replace c3 := cl hb c3
 replace c4 := cl hb c4
 replace c5 := cl hb c5
 replace c6 := cl hb c6
 replace d0 := cl hb d0
 replace d1 := cl hb d1
 replace d2 := cl hb d2
 replace d3 := cl hb d3
 replace d4 := cl hb d4
 replace d5 := cl hb d5
 replace d6 := cl hb d6
 replace d7 := cl hb d7
 replace d8 := cl hb d8
 replace d9 := cl hb d9
 replace d10 := cl hb d10
 replace d11 := cl hb d11
 replace hb0 := below_step hb0 hb
 clear hb
 have lc := World.block_lt_of_cell? _ _ c0
 dsimp only at lc
 have ld := World.block_lt_of_cell? _ _ d0
 dsimp only at ld
 go_wp2_with fail
 refine wp_loop_rounds 3 ?_
 rw [rounds_succ]
 go_wp2_with fail
 have hbq := (Below.refl (World.heap w4).size w4).alloc (Nat.le_refl _) (.cells #[.int .i64 p.k0.kind, .int .i64 p.k0.len, .int .u64 p.k0.h, .int .u64 p.k0.l, .string ⟨p.k0.path.toArray⟩] 26)
 replace c0 := cl hbq c0
 replace c1 := cl hbq c1
 replace c2 := cl hbq c2
 replace c3 := cl hbq c3
 replace c4 := cl hbq c4
 replace c5 := cl hbq c5
 replace c6 := cl hbq c6
 replace d0 := cl hbq d0
 replace d1 := cl hbq d1
 replace d2 := cl hbq d2
 replace d3 := cl hbq d3
 replace d4 := cl hbq d4
 replace d5 := cl hbq d5
 replace d6 := cl hbq d6
 replace d7 := cl hbq d7
 replace d8 := cl hbq d8
 replace d9 := cl hbq d9
 replace d10 := cl hbq d10
 replace d11 := cl hbq d11
 clear hbq
 have k0 := ((Row.new w4 #[.int .i64 p.k0.kind, .int .i64 p.k0.len, .int .u64 p.k0.h, .int .u64 p.k0.l, .string ⟨p.k0.path.toArray⟩] 26).cell 0).trans (show _ = some (Value.int .i64 p.k0.kind) from rfl)
 have k1 := ((Row.new w4 #[.int .i64 p.k0.kind, .int .i64 p.k0.len, .int .u64 p.k0.h, .int .u64 p.k0.l, .string ⟨p.k0.path.toArray⟩] 26).cell 1).trans (show _ = some (Value.int .i64 p.k0.len) from rfl)
 have k2 := ((Row.new w4 #[.int .i64 p.k0.kind, .int .i64 p.k0.len, .int .u64 p.k0.h, .int .u64 p.k0.l, .string ⟨p.k0.path.toArray⟩] 26).cell 2).trans (show _ = some (Value.int .u64 p.k0.h) from rfl)
 have k3 := ((Row.new w4 #[.int .i64 p.k0.kind, .int .i64 p.k0.len, .int .u64 p.k0.h, .int .u64 p.k0.l, .string ⟨p.k0.path.toArray⟩] 26).cell 3).trans (show _ = some (Value.int .u64 p.k0.l) from rfl)
 have k4 := ((Row.new w4 #[.int .i64 p.k0.kind, .int .i64 p.k0.len, .int .u64 p.k0.h, .int .u64 p.k0.l, .string ⟨p.k0.path.toArray⟩] 26).cell 4).trans (show _ = some (Value.string ⟨p.k0.path.toArray⟩) from rfl)
 have mk := hb0.size
 replace hb0 := hb0.alloc hb0.size (.cells #[.int .i64 p.k0.kind, .int .i64 p.k0.len, .int .u64 p.k0.h, .int .u64 p.k0.l, .string ⟨p.k0.path.toArray⟩] 26)
 refine wp_region_held_drew (S := (fun w' => w'.cell? ⟨w.heap.size, 0, none⟩ = some (.int .i64 s.n) ∧ w'.cell? ⟨w.heap.size, 1, none⟩ = some (.int .i64 s.d0.kind) ∧ w'.cell? ⟨w.heap.size, 2, none⟩ = some (.int .i64 s.d0.side) ∧ w'.cell? ⟨w.heap.size, 3, none⟩ = some (.int .i64 s.d0.step) ∧ w'.cell? ⟨w.heap.size, 4, none⟩ = some (.int .i64 s.d1.kind) ∧ w'.cell? ⟨w.heap.size, 5, none⟩ = some (.int .i64 s.d1.side) ∧ w'.cell? ⟨w.heap.size, 6, none⟩ = some (.int .i64 s.d1.step) ∧ w'.cell? ⟨w.heap.size + 1, 0, none⟩ = some (.int .i64 p.a0) ∧ w'.cell? ⟨w.heap.size + 1, 1, none⟩ = some (.int .i64 p.a1) ∧ w'.cell? ⟨w.heap.size + 1, 2, none⟩ = some (.int .i64 p.k0.kind) ∧ w'.cell? ⟨w.heap.size + 1, 3, none⟩ = some (.int .i64 p.k0.len) ∧ w'.cell? ⟨w.heap.size + 1, 4, none⟩ = some (.int .u64 p.k0.h) ∧ w'.cell? ⟨w.heap.size + 1, 5, none⟩ = some (.int .u64 p.k0.l) ∧ w'.cell? ⟨w.heap.size + 1, 6, none⟩ = some (.string ⟨p.k0.path.toArray⟩) ∧ w'.cell? ⟨w.heap.size + 1, 7, none⟩ = some (.int .i64 p.k1.kind) ∧ w'.cell? ⟨w.heap.size + 1, 8, none⟩ = some (.int .i64 p.k1.len) ∧ w'.cell? ⟨w.heap.size + 1, 9, none⟩ = some (.int .u64 p.k1.h) ∧ w'.cell? ⟨w.heap.size + 1, 10, none⟩ = some (.int .u64 p.k1.l) ∧ w'.cell? ⟨w.heap.size + 1, 11, none⟩ = some (.string ⟨p.k1.path.toArray⟩) ∧ w'.cell? ⟨w4.heap.size, 0, none⟩ = some (Value.int .i64 p.k0.kind) ∧ w'.cell? ⟨w4.heap.size, 1, none⟩ = some (Value.int .i64 p.k0.len) ∧ w'.cell? ⟨w4.heap.size, 2, none⟩ = some (Value.int .u64 p.k0.h) ∧ w'.cell? ⟨w4.heap.size, 3, none⟩ = some (Value.int .u64 p.k0.l) ∧ w'.cell? ⟨w4.heap.size, 4, none⟩ = some (Value.string ⟨p.k0.path.toArray⟩) ∧ Below w.heap.size w w')) (by kernel_rfl) ?hSr4_ (fun hH => ?_)
 case hSr4_ => (first | exact ⟨c0, c1, c2, c3, c4, c5, c6, d0, d1, d2, d3, d4, d5, d6, d7, d8, d9, d10, d11, k0, k1, k2, k3, k4, hb0.drew⟩ | exact ⟨c0, c1, c2, c3, c4, c5, c6, d0, d1, d2, d3, d4, d5, d6, d7, d8, d9, d10, d11, k0, k1, k2, k3, k4, hb0⟩ | (obtain ⟨c0, c1, c2, c3, c4, c5, c6, d0, d1, d2, d3, d4, d5, d6, d7, d8, d9, d10, d11, k0, k1, k2, k3, k4, hb0⟩ := hH; exact ⟨cl hb c0, cl hb c1, cl hb c2, cl hb c3, cl hb c4, cl hb c5, cl hb c6, cl hb d0, cl hb d1, cl hb d2, cl hb d3, cl hb d4, cl hb d5, cl hb d6, cl hb d7, cl hb d8, cl hb d9, cl hb d10, cl hb d11, cl hb k0, cl hb k1, cl hb k2, cl hb k3, cl hb k4, below_step hb0 hb⟩))
 refine tk 0 ⟨some 16, .load 36 (.tmp 2), 36, _, _, _⟩ hH ?_
 refine tk 1 ⟨some 17, .move (.tmp 5), 3, _, _, _⟩ hH ?_
 refine tk 2 ⟨some 18, .move (.tmp 5), 3, _, _, _⟩ hH ?_
 refine tk 3 ⟨some 19, .fieldAddr 40 (.tmp 3) 0, 0, _, _, _⟩ hH ?_
 refine tk 4 ⟨some 20, .indexAddr 37 (.tmp 19) (.tmp 18), 0, _, _, _⟩ hH ?_
 refine tk 5 ⟨some 21, .load 3 (.tmp 20), 3, _, _, _⟩ hH ?_
 refine tk 6 ⟨some 22, .load 26 (.tmp 6), 26, _, _, _⟩ hH ?_
 refine wpAnyH_ready (rs := [7]) (by kernel_rfl) (by simp) ?_
 refine AllReadyH.cons (o := ⟨some 23, .call { callee := .value (.func 51), args := #[.tmp 16, .tmp 17, .tmp 21, .tmp 22], argTypes := #[36, 3, 3, 26] }, 4, _, _, _⟩) rfl (fun K hK => ?_) AllReadyH.nil
 (go_simp; (refine (HA _).mono ?_); (rintro e wn ⟨rfl, hb⟩); go_wp2_with fail)
 refine hK.out _ _ ?hSr4_8_7 fun _ => ?_
 case hSr4_8_7 => (first | exact ⟨c0, c1, c2, c3, c4, c5, c6, d0, d1, d2, d3, d4, d5, d6, d7, d8, d9, d10, d11, k0, k1, k2, k3, k4, hb0.drew⟩ | exact ⟨c0, c1, c2, c3, c4, c5, c6, d0, d1, d2, d3, d4, d5, d6, d7, d8, d9, d10, d11, k0, k1, k2, k3, k4, hb0⟩ | (obtain ⟨c0, c1, c2, c3, c4, c5, c6, d0, d1, d2, d3, d4, d5, d6, d7, d8, d9, d10, d11, k0, k1, k2, k3, k4, hb0⟩ := hH; exact ⟨cl hb c0, cl hb c1, cl hb c2, cl hb c3, cl hb c4, cl hb c5, cl hb c6, cl hb d0, cl hb d1, cl hb d2, cl hb d3, cl hb d4, cl hb d5, cl hb d6, cl hb d7, cl hb d8, cl hb d9, cl hb d10, cl hb d11, cl hb k0, cl hb k1, cl hb k2, cl hb k3, cl hb k4, below_step hb0 hb⟩))
 clear hK K hH; rename_i hH
 (try simp only [Act.put, nz1, nz2, nz3])
 refine tk 8 ⟨some 24, .unOp .not 4 (.tmp 23), 4, _, _, _⟩ hH ?_
 refine wpAnyH_done (by kernel_rfl) ?_ _
 clear c0 c1 c2 c3 c4 c5 c6 d0 d1 d2 d3 d4 d5 d6 d7 d8 d9 d10 d11 k0 k1 k2 k3 k4 hb0
 obtain ⟨c0, c1, c2, c3, c4, c5, c6, d0, d1, d2, d3, d4, d5, d6, d7, d8, d9, d10, d11, k0, k1, k2, k3, k4, hb0⟩ := hH
 go_wp2
 rw [rounds_succ]
 go_wp2_with fail
 have hbq := (Below.refl (World.heap wn).size wn).alloc (Nat.le_refl _) (.cells #[.int .i64 p.k1.kind, .int .i64 p.k1.len, .int .u64 p.k1.h, .int .u64 p.k1.l, .string ⟨p.k1.path.toArray⟩] 26)
 replace c0 := cl hbq c0
 replace c1 := cl hbq c1
 replace c2 := cl hbq c2
 replace c3 := cl hbq c3
 replace c4 := cl hbq c4
 replace c5 := cl hbq c5
 replace c6 := cl hbq c6
 replace d0 := cl hbq d0
 replace d1 := cl hbq d1
 replace d2 := cl hbq d2
 replace d3 := cl hbq d3
 replace d4 := cl hbq d4
 replace d5 := cl hbq d5
 replace d6 := cl hbq d6
 replace d7 := cl hbq d7
 replace d8 := cl hbq d8
 replace d9 := cl hbq d9
 replace d10 := cl hbq d10
 replace d11 := cl hbq d11
 replace k0 := cl hbq k0
 replace k1 := cl hbq k1
 replace k2 := cl hbq k2
 replace k3 := cl hbq k3
 replace k4 := cl hbq k4
 clear hbq
 have f0 := ((Row.new wn #[.int .i64 p.k1.kind, .int .i64 p.k1.len, .int .u64 p.k1.h, .int .u64 p.k1.l, .string ⟨p.k1.path.toArray⟩] 26).cell 0).trans (show _ = some (Value.int .i64 p.k1.kind) from rfl)
 have f1 := ((Row.new wn #[.int .i64 p.k1.kind, .int .i64 p.k1.len, .int .u64 p.k1.h, .int .u64 p.k1.l, .string ⟨p.k1.path.toArray⟩] 26).cell 1).trans (show _ = some (Value.int .i64 p.k1.len) from rfl)
 have f2 := ((Row.new wn #[.int .i64 p.k1.kind, .int .i64 p.k1.len, .int .u64 p.k1.h, .int .u64 p.k1.l, .string ⟨p.k1.path.toArray⟩] 26).cell 2).trans (show _ = some (Value.int .u64 p.k1.h) from rfl)
 have f3 := ((Row.new wn #[.int .i64 p.k1.kind, .int .i64 p.k1.len, .int .u64 p.k1.h, .int .u64 p.k1.l, .string ⟨p.k1.path.toArray⟩] 26).cell 3).trans (show _ = some (Value.int .u64 p.k1.l) from rfl)
 have f4 := ((Row.new wn #[.int .i64 p.k1.kind, .int .i64 p.k1.len, .int .u64 p.k1.h, .int .u64 p.k1.l, .string ⟨p.k1.path.toArray⟩] 26).cell 4).trans (show _ = some (Value.string ⟨p.k1.path.toArray⟩) from rfl)
 have mf := hb0.size
 replace hb0 := hb0.alloc hb0.size (.cells #[.int .i64 p.k1.kind, .int .i64 p.k1.len, .int .u64 p.k1.h, .int .u64 p.k1.l, .string ⟨p.k1.path.toArray⟩] 26)
 refine wp_region_held_drew (S := (fun w' => w'.cell? ⟨w.heap.size, 0, none⟩ = some (.int .i64 s.n) ∧ w'.cell? ⟨w.heap.size, 1, none⟩ = some (.int .i64 s.d0.kind) ∧ w'.cell? ⟨w.heap.size, 2, none⟩ = some (.int .i64 s.d0.side) ∧ w'.cell? ⟨w.heap.size, 3, none⟩ = some (.int .i64 s.d0.step) ∧ w'.cell? ⟨w.heap.size, 4, none⟩ = some (.int .i64 s.d1.kind) ∧ w'.cell? ⟨w.heap.size, 5, none⟩ = some (.int .i64 s.d1.side) ∧ w'.cell? ⟨w.heap.size, 6, none⟩ = some (.int .i64 s.d1.step) ∧ w'.cell? ⟨w.heap.size + 1, 0, none⟩ = some (.int .i64 p.a0) ∧ w'.cell? ⟨w.heap.size + 1, 1, none⟩ = some (.int .i64 p.a1) ∧ w'.cell? ⟨w.heap.size + 1, 2, none⟩ = some (.int .i64 p.k0.kind) ∧ w'.cell? ⟨w.heap.size + 1, 3, none⟩ = some (.int .i64 p.k0.len) ∧ w'.cell? ⟨w.heap.size + 1, 4, none⟩ = some (.int .u64 p.k0.h) ∧ w'.cell? ⟨w.heap.size + 1, 5, none⟩ = some (.int .u64 p.k0.l) ∧ w'.cell? ⟨w.heap.size + 1, 6, none⟩ = some (.string ⟨p.k0.path.toArray⟩) ∧ w'.cell? ⟨w.heap.size + 1, 7, none⟩ = some (.int .i64 p.k1.kind) ∧ w'.cell? ⟨w.heap.size + 1, 8, none⟩ = some (.int .i64 p.k1.len) ∧ w'.cell? ⟨w.heap.size + 1, 9, none⟩ = some (.int .u64 p.k1.h) ∧ w'.cell? ⟨w.heap.size + 1, 10, none⟩ = some (.int .u64 p.k1.l) ∧ w'.cell? ⟨w.heap.size + 1, 11, none⟩ = some (.string ⟨p.k1.path.toArray⟩) ∧ w'.cell? ⟨w4.heap.size, 0, none⟩ = some (Value.int .i64 p.k0.kind) ∧ w'.cell? ⟨w4.heap.size, 1, none⟩ = some (Value.int .i64 p.k0.len) ∧ w'.cell? ⟨w4.heap.size, 2, none⟩ = some (Value.int .u64 p.k0.h) ∧ w'.cell? ⟨w4.heap.size, 3, none⟩ = some (Value.int .u64 p.k0.l) ∧ w'.cell? ⟨w4.heap.size, 4, none⟩ = some (Value.string ⟨p.k0.path.toArray⟩) ∧ w'.cell? ⟨wn.heap.size, 0, none⟩ = some (Value.int .i64 p.k1.kind) ∧ w'.cell? ⟨wn.heap.size, 1, none⟩ = some (Value.int .i64 p.k1.len) ∧ w'.cell? ⟨wn.heap.size, 2, none⟩ = some (Value.int .u64 p.k1.h) ∧ w'.cell? ⟨wn.heap.size, 3, none⟩ = some (Value.int .u64 p.k1.l) ∧ w'.cell? ⟨wn.heap.size, 4, none⟩ = some (Value.string ⟨p.k1.path.toArray⟩) ∧ Below w.heap.size w w')) (by kernel_rfl) ?hSr5_ (fun hH => ?_)
 case hSr5_ => (first | exact ⟨c0, c1, c2, c3, c4, c5, c6, d0, d1, d2, d3, d4, d5, d6, d7, d8, d9, d10, d11, k0, k1, k2, k3, k4, f0, f1, f2, f3, f4, hb0.drew⟩ | exact ⟨c0, c1, c2, c3, c4, c5, c6, d0, d1, d2, d3, d4, d5, d6, d7, d8, d9, d10, d11, k0, k1, k2, k3, k4, f0, f1, f2, f3, f4, hb0⟩ | (obtain ⟨c0, c1, c2, c3, c4, c5, c6, d0, d1, d2, d3, d4, d5, d6, d7, d8, d9, d10, d11, k0, k1, k2, k3, k4, f0, f1, f2, f3, f4, hb0⟩ := hH; exact ⟨cl hb c0, cl hb c1, cl hb c2, cl hb c3, cl hb c4, cl hb c5, cl hb c6, cl hb d0, cl hb d1, cl hb d2, cl hb d3, cl hb d4, cl hb d5, cl hb d6, cl hb d7, cl hb d8, cl hb d9, cl hb d10, cl hb d11, cl hb k0, cl hb k1, cl hb k2, cl hb k3, cl hb k4, cl hb f0, cl hb f1, cl hb f2, cl hb f3, cl hb f4, below_step hb0 hb⟩))
 refine tk 0 ⟨some 16, .load 36 (.tmp 2), 36, _, _, _⟩ hH ?_
 refine tk 1 ⟨some 17, .move (.tmp 5), 3, _, _, _⟩ hH ?_
 refine tk 2 ⟨some 18, .move (.tmp 5), 3, _, _, _⟩ hH ?_
 refine tk 3 ⟨some 19, .fieldAddr 40 (.tmp 3) 0, 0, _, _, _⟩ hH ?_
 refine tk 4 ⟨some 20, .indexAddr 37 (.tmp 19) (.tmp 18), 0, _, _, _⟩ hH ?_
 refine tk 5 ⟨some 21, .load 3 (.tmp 20), 3, _, _, _⟩ hH ?_
 refine tk 6 ⟨some 22, .load 26 (.tmp 6), 26, _, _, _⟩ hH ?_
 refine wpAnyH_ready (rs := [7]) (by kernel_rfl) (by simp) ?_
 refine AllReadyH.cons (o := ⟨some 23, .call { callee := .value (.func 51), args := #[.tmp 16, .tmp 17, .tmp 21, .tmp 22], argTypes := #[36, 3, 3, 26] }, 4, _, _, _⟩) rfl (fun K hK => ?_) AllReadyH.nil
 (go_simp; (refine (HB _).mono ?_); (rintro e wn ⟨rfl, hb⟩); go_wp2_with fail)
 refine hK.out _ _ ?hSr5_8_7 fun _ => ?_
 case hSr5_8_7 => (first | exact ⟨c0, c1, c2, c3, c4, c5, c6, d0, d1, d2, d3, d4, d5, d6, d7, d8, d9, d10, d11, k0, k1, k2, k3, k4, f0, f1, f2, f3, f4, hb0.drew⟩ | exact ⟨c0, c1, c2, c3, c4, c5, c6, d0, d1, d2, d3, d4, d5, d6, d7, d8, d9, d10, d11, k0, k1, k2, k3, k4, f0, f1, f2, f3, f4, hb0⟩ | (obtain ⟨c0, c1, c2, c3, c4, c5, c6, d0, d1, d2, d3, d4, d5, d6, d7, d8, d9, d10, d11, k0, k1, k2, k3, k4, f0, f1, f2, f3, f4, hb0⟩ := hH; exact ⟨cl hb c0, cl hb c1, cl hb c2, cl hb c3, cl hb c4, cl hb c5, cl hb c6, cl hb d0, cl hb d1, cl hb d2, cl hb d3, cl hb d4, cl hb d5, cl hb d6, cl hb d7, cl hb d8, cl hb d9, cl hb d10, cl hb d11, cl hb k0, cl hb k1, cl hb k2, cl hb k3, cl hb k4, cl hb f0, cl hb f1, cl hb f2, cl hb f3, cl hb f4, below_step hb0 hb⟩))
 clear hK K hH; rename_i hH
 (try simp only [Act.put, nz1, nz2, nz3])
 refine tk 8 ⟨some 24, .unOp .not 4 (.tmp 23), 4, _, _, _⟩ hH ?_
 refine wpAnyH_done (by kernel_rfl) ?_ _
 clear c0 c1 c2 c3 c4 c5 c6 d0 d1 d2 d3 d4 d5 d6 d7 d8 d9 d10 d11 k0 k1 k2 k3 k4 f0 f1 f2 f3 f4 hb0
 obtain ⟨c0, c1, c2, c3, c4, c5, c6, d0, d1, d2, d3, d4, d5, d6, d7, d8, d9, d10, d11, k0, k1, k2, k3, k4, f0, f1, f2, f3, f4, hb0⟩ := hH
 go_wp2
 rw [rounds_succ]
 go_wp2
 go_ret
 exact ⟨rfl, hb0⟩
theorem right9_t (s : Sp) (p : Px) (ok : p.ok) (w : World) : Calls Tryz.prog 19 #[sv s, pv p] w fun e w' => e = .returned (.bool (rightP s p)) ∧ Below w.heap.size w w' := by
 have HS := sound_t s
 unfold rightP
 cases hs : soundS s with
 | false => rw [hs] at HS; rw [Bool.false_and]; exact right_bad s p HS w
 | true =>
  rw [hs] at HS
  have hn : 1 ≤ s.n := by
   unfold soundS at hs
   by_cases h : s.n = 1
   ·omega
   ·rw [if_neg h, Bool.and_eq_true, decide_eq_true_eq] at hs; omega
  have HA := on0_t s p.a0 p.k0 ok.k0 hn
  have HB : ∀ w, Calls Tryz.prog 51 #[sv s, .int .i64 1, .int .i64 p.a1, kv p.k1] w fun e w' => e = .returned (.bool (if s.n = 1 then decide (p.a1 = 0) && decide (p.k1 = kz) else onD s.d1 p.a1 p.k1)) ∧ Below w.heap.size w w' := by
   intro w
   split
   ·rename_i h; exact on1_t s p.a1 p.k1 h w
   ·rename_i h; exact on2_t s p.a1 p.k1 ok.k1 (by omega) w
  rw [Bool.true_and]
  generalize onD s.d0 p.a0 p.k0 = r0 at *
  generalize (if s.n = 1 then decide (p.a1 = 0) && decide (p.k1 = kz) else onD s.d1 p.a1 p.k1) = r1 at *
  cases r0 with
  | false => exact right_no0 s p HA HS w
  | true =>
   cases r1 with
   | false => exact right_no1 s p HA HB HS w
   | true => exact right_yes s p HA HB HS w
def leafP (s : Sp) (a b : Ke) : Px := if rightP s ⟨0, 0, a, b⟩ = true then ⟨0, 0, a, b⟩ else pz
def heightP (s : Sp) (p : Px) : Int := if rightP s p = true then p.a0 + p.a1 else 0
def upB (s : Sp) (p : Px) (b0 b1 : Int) : Bool := rightP s p && (decide (p.a0 ≤ b0) && (decide (b0 ≤ depthD s.d0) && (decide (p.a1 ≤ b1) && decide (b1 ≤ depthD s.d1))))
def upX (s : Sp) (p : Px) (b0 b1 : Int) : Px := ⟨b0, b1, cutD s.d0 b0 p.k0, cutD s.d1 b1 p.k1⟩
def upP (s : Sp) (p : Px) (b0 b1 : Int) : Px := if upB s p b0 b1 = true then upX s p b0 b1 else pz
def overP (s : Sp) (p q : Px) : Bool := rightP s p && decide (p = upP s q p.a0 p.a1)
def crossX (p q : Px) : Px := ⟨if q.a0 < p.a0 then q.a0 else p.a0, if q.a1 < p.a1 then q.a1 else p.a1, if q.a0 < p.a0 then q.k0 else p.k0, if q.a1 < p.a1 then q.k1 else p.k1⟩
def crossB (s : Sp) (p q : Px) : Bool := overP s p (crossX p q) && overP s q (crossX p q)
def crossP (s : Sp) (p q : Px) : Px := if crossB s p q = true then crossX p q else pz
def topP (s : Sp) : Px := if soundS s = true then ⟨depthD s.d0, depthD s.d1, rootK s.d0.kind, rootK s.d1.kind⟩ else pz
def cmpP (p q : Px) : Int := if cmpI p.a0 q.a0 ≠ 0 then cmpI p.a0 q.a0 else if cmpI p.a1 q.a1 ≠ 0 then cmpI p.a1 q.a1 else if cmpK p.k0 q.k0 ≠ 0 then cmpK p.k0 q.k0 else if cmpK p.k1 q.k1 ≠ 0 then cmpK p.k1 q.k1 else 0
structure Sp.ok (s : Sp) : Prop where
 n0 : -9223372036854775808 ≤ s.n
 n1 : s.n ≤ 9223372036854775807
 d0 : s.d0.ok
 d1 : s.d1.ok
theorem fourK_ok (a : Int) : (fourK a).ok := ⟨word_hi _, word_lo _, by unfold fourK; dsimp only; omega, by unfold fourK; dsimp only; omega, by unfold fourK; dsimp only; omega, by unfold fourK; dsimp only; omega, by unfold fourK; simp⟩
def s9 : Sp := ⟨2, ⟨1, 1, 8⟩, ⟨1, 2, 8⟩⟩
def p9 : Px := ⟨0, 0, fourK 167837953, fourK 3232235777⟩
def a9 : Px := upP s9 p9 3 4
def b9 : Px := upP s9 p9 4 2
def x9 : Px := crossP s9 a9 b9
def t9 : Px := topP s9
def onE (d : Dm) (l : Int) (k : Ke) : Bool := if d = dz then decide (l = 0) && decide (k = kz) else onD d l k
theorem rightD_dz : rightD dz = false := by decide +kernel
theorem not_dz {d : Dm} (h : rightD d = true) : ¬ d = dz := by rintro rfl; rw [rightD_dz] at h; cases h
theorem sound_dims {s : Sp} (h : soundS s = true) : rightD s.d0 = true ∧ (rightD s.d1 = true ∨ s.d1 = dz) ∧ (s.n = 1 ∧ s.d1 = dz ∨ s.n = 2 ∧ rightD s.d1 = true) := by
 unfold soundS at h
 split at h
 ·simp only [Bool.and_eq_true, decide_eq_true_eq] at h
  exact ⟨h.1, .inr h.2, .inl ⟨by assumption, h.2⟩⟩
 ·simp only [Bool.and_eq_true, decide_eq_true_eq] at h
  exact ⟨h.2.1, .inl h.2.2, .inr ⟨h.1, h.2.2⟩⟩
theorem right_iff (s : Sp) (p : Px) : rightP s p = true ↔ soundS s = true ∧ onE s.d0 p.a0 p.k0 = true ∧ onE s.d1 p.a1 p.k1 = true := by
 unfold rightP
 simp only [Bool.and_eq_true]
 constructor
 ·rintro ⟨h1, h2, h3⟩
  obtain ⟨g1, g2, g3⟩ := sound_dims h1
  refine ⟨h1, by unfold onE; rw [if_neg (not_dz g1)]; exact h2, ?_⟩
  unfold onE
  rcases g3 with ⟨g3, g4⟩ | ⟨g3, g4⟩
  ·rw [if_pos g3] at h3; rw [if_pos g4]; exact h3
  ·rw [if_neg (by omega)] at h3; rw [if_neg (not_dz g4)]; exact h3
 ·rintro ⟨h1, h2, h3⟩
  obtain ⟨g1, g2, g3⟩ := sound_dims h1
  unfold onE at h2 h3
  rw [if_neg (not_dz g1)] at h2
  refine ⟨h1, h2, ?_⟩
  rcases g3 with ⟨g3, g4⟩ | ⟨g3, g4⟩
  ·rw [if_pos g4] at h3; rw [if_pos g3]; exact h3
  ·rw [if_neg (not_dz g4)] at h3; rw [if_neg (by omega)]; exact h3
def wordK (k : Ke) : List UInt8 := if rightK k = true then (if k.kind = 1 then print4 (k.h / 4294967296) else if k.kind = 2 then print6 (grp k.num) else k.path) else []
def partK (d : Dm) (l : Int) (k : Ke) : List UInt8 := if onD d l k = true then wordK k ++ 47 :: decN (lenD d l).toNat else []
noncomputable def wholeB (kind : Int) (s : List UInt8) : Bool := if kind = 1 then decide ((parse4 s).2 = 0) else if kind = 2 then (parse6 s).isSome else rightB s
noncomputable def six6 (s : List UInt8) : Int := match parse6 s with | some gs => ofN (lf gs) 8 | none => 0
noncomputable def wholeK (kind : Int) (s : List UInt8) : Ke := if kind = 1 then fourK (parse4 s).1 else if kind = 2 then sixK (hi (six6 s)) (lo (six6 s)) else pathR s
def shortK (k : Ke) (n : Int) : Ke := ⟨k.kind, n, k.h, k.l, k.path⟩
def keyAt (d : Dm) (i : Int) (w : Ke) : Ke := if d.kind = 3 then w else shortK w (lenD d i)
noncomputable def ppR (d : Dm) (a b : List UInt8) : Int × Ke × Int :=
 if wholeB d.kind a = true ∧ txB b = true then
  (if onD d (levelD d (valT b)) (keyAt d (levelD d (valT b)) (wholeK d.kind a)) = true then (levelD d (valT b), keyAt d (levelD d (valT b)) (wholeK d.kind a), 0) else (0, kz, 14))
 else (0, kz, 3)
noncomputable def ppD (d : Dm) (t : List UInt8) : Int × Ke × Int := if rightD d = true then ppR d (Lib.cut t [47]).1 (Lib.cut t [47]).2.1 else (0, kz, 1)
theorem fourK_num {a : Int} (h0 : 0 ≤ a) (h1 : a ≤ 4294967295) : (fourK a).num = a * 79228162514264337593543950336 ∧ (fourK a).h = a * 4294967296 ∧ (fourK a).l = 0 := by
 have e : (2 : Int) ^ 96 = 79228162514264337593543950336 := by decide
 have eh : hi (a * 2 ^ 96) = a * 4294967296 := by rw [e]; unfold hi; omega
 have el : lo (a * 2 ^ 96) = 0 := by rw [e]; unfold lo; omega
 unfold fourK Ke.num wv
 dsimp only
 rw [eh, el]
 exact ⟨by omega, rfl, rfl⟩
theorem fourK_right {a : Int} (h0 : 0 ≤ a) (h1 : a ≤ 4294967295) : rightK (fourK a) = true := by
 obtain ⟨e1, e2, e3⟩ := fourK_num h0 h1
 refine right_of_adr ⟨.inl rfl, show (0 : Int) ≤ 32 by decide, show (32 : Int) ≤ wid 1 by decide, rfl, ⟨by rw [e2]; omega, by rw [e2]; omega⟩, ⟨by rw [e3]; omega, by rw [e3]; omega⟩, ?_⟩
 rw [e1]
 unfold tp
 have e : (2 : Int) ^ (128 - (fourK a).len.toNat) = 79228162514264337593543950336 := by
  show (2 : Int) ^ (128 - (32 : Int).toNat) = _
  decide
 rw [e]; omega
theorem sixK_right {h l : Int} (hh : Word h) (hl : Word l) : rightK (sixK h l) = true := by
 refine right_of_adr ⟨.inr rfl, show (0 : Int) ≤ 128 by decide, show (128 : Int) ≤ wid 2 by decide, rfl, hh, hl, ?_⟩
 unfold tp
 have e : (2 : Int) ^ (128 - (sixK h l).len.toNat) = 1 := by
  show (2 : Int) ^ (128 - (128 : Int).toNat) = _
  decide
 rw [e]; omega
theorem wholeB_1 (s : List UInt8) : wholeB 1 s = decide ((parse4 s).2 = 0) := rfl
theorem wholeB_2 (s : List UInt8) : wholeB 2 s = (parse6 s).isSome := rfl
theorem wholeB_3 (s : List UInt8) : wholeB 3 s = rightB s := rfl
theorem wholeK_1 (s : List UInt8) : wholeK 1 s = fourK (parse4 s).1 := rfl
theorem wholeK_2 (s : List UInt8) : wholeK 2 s = sixK (hi (six6 s)) (lo (six6 s)) := rfl
theorem wholeK_3 (s : List UInt8) : wholeK 3 s = pathR s := rfl
theorem whole_right {k : Int} (hk : k = 1 ∨ k = 2 ∨ k = 3) {s : List UInt8} (h : wholeB k s = true) : rightK (wholeK k s) = true ∧ (wholeK k s).kind = k ∧ (k ≠ 3 → (wholeK k s).len = wid k) := by
 rcases hk with rfl | rfl | rfl
 ·rw [wholeK_1]
  have hr := parse_range s
  exact ⟨fourK_right hr.1 hr.2, rfl, fun _ => rfl⟩
 ·rw [wholeK_2]
  exact ⟨sixK_right (word_hi _) (word_lo _), rfl, fun _ => rfl⟩
 ·rw [wholeK_3]
  rw [wholeB_3] at h
  unfold pathR
  rw [if_pos h]
  exact ⟨right_pathK h, rfl, fun e => absurd rfl e⟩
theorem topK_short (w : Ke) (n m : Int) (h3 : ¬ w.kind = 3) : topK (shortK w m) n = topK w n := by
 unfold topK shortK
 dsimp only
 rw [if_neg h3, if_neg h3]
 rfl
theorem alike_on {d : Dm} {w : Ke} {i : Int} (hd : rightD d = true) (hw : rightK w = true) (hk : w.kind = d.kind) (hl : d.kind ≠ 3 → w.len = wid d.kind) (hi : i = -1 ∨ 0 ≤ lenD d i) :
  decide (cutD d i w = shortK w (cutD d i w).len) = onD d i (keyAt d i w) ∧ (onD d i (keyAt d i w) = true → cutD d i w = keyAt d i w) := by
 by_cases hn : 0 ≤ lenD d i
 ·have hc := cutD_yes hn hk
  rw [hc]
  have hr := len_range hw
  by_cases h3 : d.kind = 3
  ·have ek : keyAt d i w = w := by unfold keyAt; rw [if_pos h3]
   rw [ek]
   have hon : onD d i w = decide (w.len ≤ lenD d i) := by
    rw [Bool.eq_iff_iff, onD_iff, decide_eq_true_eq]
    constructor
    ·rintro ⟨_, _, _, h | ⟨_, h⟩⟩ <;> omega
    ·intro h
     refine ⟨hn, hk, hw, ?_⟩
     by_cases e : w.len = lenD d i
     ·exact .inl e
     ·exact .inr ⟨h3, by omega⟩
   rw [hon]
   unfold cutK
   rw [if_pos hw]
   by_cases hle : w.len ≤ lenD d i
   ·rw [if_pos hle, decide_eq_true hle]
    exact ⟨decide_eq_true rfl, fun _ => rfl⟩
   ·rw [if_neg hle, decide_eq_false hle, topK_len, Int.max_eq_left hn]
    refine ⟨decide_eq_false fun e => ?_, fun h => by cases h⟩
    have ht := (top_right hw (lenD d i) hn (by omega)).2
    have hk3 : w.kind = 3 := hk.trans h3
    have hp : (topK w (lenD d i)).path = w.path := by rw [e]; rfl
    have hlet : letK (topK w (lenD d i)) = letK w := by
     unfold letK
     rw [if_pos (by rw [topK_kind]; exact hk3), if_pos hk3, hp]
    rw [hlet] at ht
    have h1 := congrArg List.length ht
    have h2 := letK_len hw
    rw [List.length_take] at h1
    omega
  ·have ek : keyAt d i w = shortK w (lenD d i) := by unfold keyAt; rw [if_neg h3]
   rw [ek]
   have hw3 : ¬ w.kind = 3 := by rw [hk]; exact h3
   have hmax : lenD d i ≤ w.len := by
    rw [hl h3]
    obtain ⟨_, h0, h1⟩ := lenD_there hn
    rw [lenD_yes hd h0 h1]
    have := ((rightD_iff d).1 hd).2.1
    have h4 := Int.mul_nonneg h0 (show 0 ≤ d.step by omega)
    have := (wid_range d.kind).1
    omega
   have hcut : cutK w (lenD d i) = topK w (lenD d i) := by
    unfold cutK
    rw [if_pos hw]
    by_cases hle : w.len ≤ lenD d i
    ·rw [if_pos hle, show lenD d i = w.len by omega, top_full hw]
    ·rw [if_neg hle, Int.max_eq_left hn]
   rw [hcut, topK_len]
   have hon : onD d i (shortK w (lenD d i)) = decide (topK w (lenD d i) = shortK w (lenD d i)) := by
    rw [Bool.eq_iff_iff, onD_iff, decide_eq_true_eq]
    have hkd : (shortK w (lenD d i)).kind = 1 ∨ (shortK w (lenD d i)).kind = 2 := by
     rcases right_kind hw with h | h
     ·exact h
     ·exact absurd h hw3
    have hrk : rightK (shortK w (lenD d i)) = true ↔ topK w (lenD d i) = shortK w (lenD d i) := by
     unfold rightK
     rw [if_pos hkd]
     have e1 : (shortK w (lenD d i)).len = lenD d i := rfl
     have e2 : (shortK w (lenD d i)).kind = w.kind := rfl
     rw [e1, e2, topK_short w _ _ hw3, hk]
     simp only [Bool.and_eq_true, decide_eq_true_eq]
     have h5 := hl h3
     exact ⟨fun h => h.2.symm, fun h => ⟨⟨hn, by omega⟩, h.symm⟩⟩
    constructor
    ·rintro ⟨_, _, h, _⟩; exact hrk.1 h
    ·intro h; exact ⟨hn, hk, hrk.2 h, .inl rfl⟩
   rw [hon]
   exact ⟨rfl, fun h => of_decide_eq_true h⟩
 ·obtain rfl : i = -1 := by rcases hi with h | h <;> omega
  have hne : lenD d (-1) = -1 := lenD_no (by omega)
  have hof : ∀ k, onD d (-1) k = false := fun k => by
   cases h : onD d (-1) k with
   | false => rfl
   | true => have := ((onD_iff d (-1) k).1 h).1; omega
  have hcz : cutD d (-1) w = kz := by unfold cutD; rw [if_pos (.inl hne)]
  rw [hof, hcz]
  refine ⟨decide_eq_false fun e => ?_, fun h => by cases h⟩
  have h1 := congrArg Ke.kind e
  have h2 : (shortK w kz.len).kind = w.kind := rfl
  rw [h2] at h1
  rcases kind_dim hd with h | h | h <;> (rw [hk, h] at h1; exact absurd h1 (by decide))
theorem levelD_range {d : Dm} (n : Int) : levelD d n = -1 ∧ (∀ j : Nat, j < cntD d → lenD d j ≠ n) ∨ ∃ k : Nat, levelD d n = k ∧ k < cntD d ∧ lenD d k = n ∧ ∀ j : Nat, j < k → lenD d j ≠ n := by
 by_cases h : ∃ k : Nat, k < cntD d ∧ lenD d k = n
 ·obtain ⟨k, hk, hn⟩ := h
  have hex : ∃ k : Nat, k < cntD d ∧ lenD d k = n ∧ ∀ j : Nat, j < k → lenD d j ≠ n := by
   induction k using Nat.strongRecOn with
   | ind k ih =>
    by_cases h2 : ∃ j : Nat, j < k ∧ lenD d j = n
    ·obtain ⟨j, hj, hjn⟩ := h2
     exact ih j hj (by omega) hjn
    ·exact ⟨k, hk, hn, fun j hj e => h2 ⟨j, hj, e⟩⟩
  obtain ⟨k, hk, hn, hlt⟩ := hex
  exact .inr ⟨k, levelD_at hlt hk hn, hk, hn, hlt⟩
 ·have hno : ∀ j : Nat, j < cntD d → lenD d j ≠ n := fun j hj e => h ⟨j, hj, e⟩
  exact .inl ⟨levelD_no hno, hno⟩
theorem level_ok {d : Dm} (hd : rightD d = true) (n : Int) (n0 : 0 ≤ n) : levelD d n = -1 ∨ 0 ≤ lenD d (levelD d n) ∧ lenD d (levelD d n) = n := by
 rcases levelD_range (d := d) n with ⟨h, _⟩ | ⟨k, h, _, hn, _⟩
 ·exact .inl h
 ·refine .inr ?_; rw [h, hn]; exact ⟨n0, rfl⟩
theorem on_neg (d : Dm) (k : Ke) : onD d (-1) k = false := by
 cases h : onD d (-1) k with
 | false => rfl
 | true =>
  have h1 := ((onD_iff d (-1) k).1 h).1
  have := lenD_there h1
  omega
theorem level_far {d : Dm} (hd : rightD d = true) {n : Int} (h : wid d.kind < n) : levelD d n = -1 := by
 refine levelD_no fun j hj e => ?_
 have hc := cntD_ok hd
 rw [lenD_yes hd (by omega) (by omega)] at e
 have h4 := Int.mul_nonneg (show (0 : Int) ≤ j by omega) (show 0 ≤ d.step by have := ((rightD_iff d).1 hd).2.1; omega)
 have := (wid_range d.kind).1
 omega
theorem mem_first {c : UInt8} : ∀ (t : List UInt8), c ∈ t → ∃ a b, t = a ++ c :: b ∧ c ∉ a
 | [], h => by cases h
 | x :: r, h => by
  by_cases hx : x = c
  ·exact ⟨[], r, by rw [hx]; rfl, by simp⟩
  ·have hr : c ∈ r := by rcases List.mem_cons.1 h with e | e; exact absurd e.symm hx; exact e
   obtain ⟨a, b, rfl, ha⟩ := mem_first r hr
   exact ⟨x :: a, b, rfl, fun hm => by rcases List.mem_cons.1 hm with e | e; exact hx e.symm; exact ha e⟩
theorem mem_last {c : UInt8} (t : List UInt8) (h : c ∈ t) : ∃ a b, t = a ++ c :: b ∧ c ∉ b := by
 obtain ⟨a, b, e, ha⟩ := mem_first t.reverse (List.mem_reverse.2 h)
 refine ⟨b.reverse, a.reverse, ?_, fun hm => ha (List.mem_reverse.1 hm)⟩
 have := congrArg List.reverse e
 rw [List.reverse_reverse] at this
 rw [this]; simp
theorem tx_nil : txB [] = false := by decide
theorem level_len {d : Dm} {i : Int} (h : 0 ≤ lenD d i) : levelD d (lenD d i) = i := by
 obtain ⟨hd, h0, h1⟩ := lenD_there h
 obtain ⟨k, rfl⟩ := Int.eq_ofNat_of_zero_le h0
 have hc := cntD_ok hd
 refine levelD_at (fun j hj e => ?_) (by omega) rfl
 have hl := lenD_less hd (k - j - 1) j (by omega) (by omega)
 rw [show (j : Int) + ((k - j - 1 : Nat) : Int) + 1 = (k : Int) by omega] at hl
 omega
theorem num_kind1 {k : Ke} (h : Adr k) (hk : k.kind = 1) : k.h = k.h / 4294967296 * 4294967296 ∧ k.l = 0 ∧ 0 ≤ k.h / 4294967296 ∧ k.h / 4294967296 ≤ 4294967295 := by
 have hr := h.range
 have hn := h.num
 have hup := h.up
 rw [hk] at hup
 have hw : wid 1 = 32 := by decide
 rw [hw] at hup
 obtain ⟨m, hm⟩ : ∃ m, 128 - k.len.toNat = 96 + m := ⟨32 - k.len.toNat, by have := h.lo; omega⟩
 unfold tp at hn
 rw [hm, Int.pow_add] at hn
 have e : (2 : Int) ^ 96 = 79228162514264337593543950336 := by decide
 rw [e] at hn
 obtain ⟨Z, hZ⟩ : ∃ Z : Int, k.num = 79228162514264337593543950336 * Z := by
  refine ⟨k.num / (79228162514264337593543950336 * 2 ^ m) * 2 ^ m, ?_⟩
  rw [Int.mul_comm (79228162514264337593543950336 : Int), Int.mul_assoc, Int.mul_comm (2 ^ m) (79228162514264337593543950336 : Int)]
  exact hn
 have h1 := h.h
 have h2 := h.l
 unfold Word at h1 h2
 unfold Ke.num wv at hZ
 omega
theorem wordK_chr (k : Ke) : ∀ c ∈ wordK k, okC c := by
 unfold wordK
 split
 ·rename_i h
  split
  ·exact print4_chr _
  ·split
   ·exact print6_chr _ (grp_range _)
   ·rename_i h1 h2
    rcases right_kind h with hk | hk
    ·rcases hk with hk | hk
     ·exact absurd hk h1
     ·exact absurd hk h2
    ·exact path_chr (right_path h hk).1
 ·intro c hc; cases hc
theorem not47 {l : List UInt8} (h : ∀ c ∈ l, okC c) : (47 : UInt8) ∉ l := fun hc => (h 47 hc).1 rfl
theorem not62 {l : List UInt8} (h : ∀ c ∈ l, okC c) : (62 : UInt8) ∉ l := fun hc => (h 62 hc).2 rfl
theorem partK_chr (d : Dm) (l : Int) (k : Ke) : (62 : UInt8) ∉ partK d l k := by
 unfold partK
 split
 ·intro h
  rcases List.mem_append.1 h with h | h
  ·exact not62 (wordK_chr k) h
  ·rcases List.mem_cons.1 h with h | h
   ·exact absurd h (by decide)
   ·exact not62 (decN_chr _) h
 ·intro h; cases h
theorem partK_on {d : Dm} {l : Int} {k : Ke} (h : onD d l k = true) : partK d l k = wordK k ++ 47 :: decN (lenD d l).toNat := by unfold partK; rw [if_pos h]
theorem ppD_at {d : Dm} (hd : rightD d = true) {a b : List UInt8} (h : (47 : UInt8) ∉ a) : ppD d (a ++ 47 :: b) = ppR d a b := by
 unfold ppD
 rw [if_pos hd, cut_at 47 a b h]
theorem six6_print {A : Int} (h0 : 0 ≤ A) (h1 : A < MM) : six6 (print6 (grp A)) = A := by
 unfold six6
 rw [back6_id (grp A) (grp_range A)]
 dsimp only
 rw [ofN_congr 8 (g := grp A) (fun i hi => lf_gl (grp A) (grp_range A) i hi), ofN_grp, Int.emod_eq_of_lt h0 h1]
theorem word_back {d : Dm} {i : Int} {k : Ke} (h : onD d i k = true) : wholeB d.kind (wordK k) = true ∧ keyAt d i (wholeK d.kind (wordK k)) = k := by
 obtain ⟨hn, hk, hr, hl⟩ := (onD_iff d i k).1 h
 have hw : wordK k = if k.kind = 1 then print4 (k.h / 4294967296) else if k.kind = 2 then print6 (grp k.num) else k.path := by unfold wordK; rw [if_pos hr]
 rw [hw, ← hk]
 rcases right_kind hr with (h1 | h2) | h3
 ·have ha := adr_of_right hr (.inl h1)
  obtain ⟨e1, e2, e3, e4⟩ := num_kind1 ha h1
  have hp := parse_print (k.h / 4294967296) e3 e4
  have f := fourK_num e3 e4
  rw [h1, if_pos rfl, wholeB_1, wholeK_1, hp]
  refine ⟨by simp, ?_⟩
  unfold keyAt
  rw [if_neg (by rw [← hk, h1]; decide)]
  have hlen : k.len = lenD d i := by rcases hl with e | ⟨e, _⟩; exact e; exact absurd e (by rw [← hk, h1]; decide)
  refine ke_ext ?_ ?_ ?_ ?_ ?_
  ·exact h1.symm
  ·exact hlen.symm
  ·show (fourK (k.h / 4294967296)).h = k.h
   rw [f.2.1]; exact e1.symm
  ·show (fourK (k.h / 4294967296)).l = k.l
   rw [f.2.2, e2]
  ·exact ha.path.symm
 ·have ha := adr_of_right hr (.inr h2)
  have hnum := ha.range
  rw [h2, if_neg (by decide), if_pos rfl, wholeB_2, wholeK_2, six6_print hnum.1 hnum.2, back6_id (grp k.num) (grp_range _)]
  refine ⟨rfl, ?_⟩
  unfold keyAt
  rw [if_neg (by rw [← hk, h2]; decide)]
  have hlen : k.len = lenD d i := by rcases hl with e | ⟨e, _⟩; exact e; exact absurd e (by rw [← hk, h2]; decide)
  refine ke_ext ?_ ?_ ?_ ?_ ?_
  ·exact h2.symm
  ·exact hlen.symm
  ·exact hi_wv ha.h ha.l
  ·exact lo_wv ha.l
  ·exact ha.path.symm
 ·obtain ⟨hp, hkp⟩ := right_path hr h3
  rw [h3, if_neg (by decide), if_neg (by decide), wholeB_3, wholeK_3]
  refine ⟨hp, ?_⟩
  unfold keyAt pathR
  rw [if_pos (by rw [← hk]; exact h3), if_pos hp]
  exact hkp.symm
theorem part_back {d : Dm} {i : Int} {k : Ke} (h : onD d i k = true) : ppD d (partK d i k) = (i, k, 0) := by
 obtain ⟨hn, hk, hr, hl⟩ := (onD_iff d i k).1 h
 obtain ⟨hB, hK⟩ := word_back h
 obtain ⟨hd, _, _⟩ := lenD_there hn
 rw [partK_on h, ppD_at hd (not47 (wordK_chr k))]
 unfold ppR
 rw [if_pos ⟨hB, dec_tx _⟩, valT_dec, show (((lenD d i).toNat : Nat) : Int) = lenD d i by omega, level_len hn, hK, if_pos h]
theorem whole_chr {k : Int} (hk : k = 1 ∨ k = 2 ∨ k = 3) {s : List UInt8} (h : wholeB k s = true) : ∀ c ∈ s, okC c := by
 rcases hk with rfl | rfl | rfl
 ·rw [wholeB_1] at h; exact parse4_chr (of_decide_eq_true h)
 ·rw [wholeB_2] at h
  cases hp : parse6 s with
  | none => rw [hp] at h; cases h
  | some gs => exact parse6_chr hp
 ·rw [wholeB_3] at h; exact path_chr h
theorem ppR_no {d : Dm} {a b : List UInt8} (h : ¬ (wholeB d.kind a = true ∧ txB b = true)) : ppR d a b = (0, kz, 3) := if_neg h
theorem ppD_none {d : Dm} (hd : rightD d = true) {t : List UInt8} (h : (47 : UInt8) ∉ t) : ppD d t = (0, kz, 3) := by
 unfold ppD
 rw [if_pos hd, cut_none 47 t h]
 exact ppR_no (fun e => by have := e.2; rw [tx_nil] at this; cases this)
theorem ppD_last {d : Dm} (hd : rightD d = true) {a b : List UInt8} : ppD d (a ++ 47 :: b) = ppR d a b := by
 by_cases h : (47 : UInt8) ∈ a
 ·obtain ⟨x, y, rfl, hx⟩ := mem_first a h
  rw [List.append_assoc, List.cons_append, ppD_at hd hx]
  rw [ppR_no (fun e => not47 (tx_chr e.2) (by simp)), ppR_no (fun e => not47 (whole_chr (kind_dim hd) e.1) h)]
 ·exact ppD_at hd h
theorem ppD_bad {d : Dm} (hd : rightD d = false) (t : List UInt8) : ppD d t = (0, kz, 1) := by
 unfold ppD; rw [if_neg (by rw [hd]; decide)]
def printS (s : Sp) (p : Px) : List UInt8 := if rightP s p = true then (if s.n = 2 then partK s.d0 p.a0 p.k0 ++ 62 :: partK s.d1 p.a1 p.k1 else partK s.d0 p.a0 p.k0) else []
noncomputable def parse1 (s : Sp) (t : List UInt8) : Px × Int := if (ppD s.d0 t).2.2 = 0 then (⟨(ppD s.d0 t).1, 0, (ppD s.d0 t).2.1, kz⟩, 0) else (pz, (ppD s.d0 t).2.2)
noncomputable def parse2 (s : Sp) (a b : List UInt8) : Px × Int := if (ppD s.d0 a).2.2 = 0 then (if (ppD s.d1 b).2.2 = 0 then (⟨(ppD s.d0 a).1, (ppD s.d1 b).1, (ppD s.d0 a).2.1, (ppD s.d1 b).2.1⟩, 0) else (pz, (ppD s.d1 b).2.2)) else (pz, (ppD s.d0 a).2.2)
noncomputable def parseS (s : Sp) (t : List UInt8) : Px × Int := if soundS s = true then (if (t.count 62 : Int) = s.n - 1 then (if s.n = 1 then parse1 s t else parse2 s (Lib.cut t [62]).1 (Lib.cut t [62]).2.1) else (pz, 3)) else (pz, 1)
theorem right_dims {s : Sp} {p : Px} (h : rightP s p = true) : soundS s = true ∧ onD s.d0 p.a0 p.k0 = true ∧ (s.n = 1 ∧ s.d1 = dz ∧ p.a1 = 0 ∧ p.k1 = kz ∨ s.n = 2 ∧ rightD s.d1 = true ∧ onD s.d1 p.a1 p.k1 = true) := by
 obtain ⟨hs, h0, h1⟩ := (right_iff s p).1 h
 obtain ⟨hd0, _, hd⟩ := sound_dims hs
 unfold onE at h0
 rw [if_neg (not_dz hd0)] at h0
 refine ⟨hs, h0, ?_⟩
 rcases hd with ⟨hn, e⟩ | ⟨hn, hd1⟩
 ·unfold onE at h1
  rw [if_pos e] at h1
  simp only [Bool.and_eq_true, decide_eq_true_eq] at h1
  exact .inl ⟨hn, e, h1.1, h1.2⟩
 ·unfold onE at h1
  rw [if_neg (not_dz hd1)] at h1
  exact .inr ⟨hn, hd1, h1⟩
theorem count_two {a b : List UInt8} (ha : (62 : UInt8) ∉ a) (hb : (62 : UInt8) ∉ b) : (a ++ 62 :: b).count 62 = 1 := by
 rw [List.count_append, List.count_cons, List.count_eq_zero_of_not_mem ha, List.count_eq_zero_of_not_mem hb]; rfl
theorem count_one {t : List UInt8} (h : t.count 62 = 1) : ∃ a b, t = a ++ 62 :: b ∧ (62 : UInt8) ∉ a ∧ (62 : UInt8) ∉ b := by
 have hm : (62 : UInt8) ∈ t := List.count_pos_iff.1 (by omega)
 obtain ⟨a, b, rfl, ha⟩ := mem_first t hm
 refine ⟨a, b, rfl, ha, ?_⟩
 rw [List.count_append, List.count_cons, List.count_eq_zero_of_not_mem ha] at h
 simp only [beq_self_eq_true, if_true] at h
 exact List.count_eq_zero.1 (by omega)
theorem print_back {s : Sp} {p : Px} (h : rightP s p = true) : parseS s (printS s p) = (p, 0) := by
 obtain ⟨hs, h0, h1⟩ := right_dims h
 have b0 := part_back h0
 have c0 := partK_chr s.d0 p.a0 p.k0
 unfold printS parseS
 rw [if_pos h, if_pos hs]
 rcases h1 with ⟨hn, _, ha, hk⟩ | ⟨hn, _, h1⟩
 ·rw [if_neg (show ¬ s.n = 2 by omega), hn, List.count_eq_zero_of_not_mem c0, if_pos (by decide), if_pos rfl]
  unfold parse1
  rw [b0, if_pos rfl]
  exact Prod.ext (px_ext rfl ha.symm rfl hk.symm) rfl
 ·have b1 := part_back h1
  have c1 := partK_chr s.d1 p.a1 p.k1
  rw [if_pos hn, hn, count_two c0 c1, if_pos (by decide), if_neg (show ¬ (2 : Int) = 1 by decide), cut_at 62 _ _ c0]
  unfold parse2
  rw [b0, b1, if_pos rfl, if_pos rfl]
theorem print_bad {s : Sp} {p : Px} (h : rightP s p = false) : printS s p = [] := by unfold printS; rw [if_neg (by rw [h]; decide)]
/-! lengths -/
theorem print4_len (a : Int) : (print4 a).length ≤ 15 := by
 unfold print4
 rw [txt4_is]
 have h := fun i => decDigits_len (byteI a i).toNat (by have := byteI_range a i; omega)
 have h0 := h 0; have h1 := h 1; have h2 := h 2; have h3 := h 3
 simp only [List.length_append, List.length_cons]
 omega
theorem word_no (kd n h l : Int) (p : ByteArray) (w : World)
  (HR : ∀ w', Below w.heap.size w w' → Calls Tryz.prog 35 #[.agg #[.int .i64 kd, .int .i64 n, .int .u64 h, .int .u64 l, .string p]] w' fun e w'' => e = .returned (.bool false) ∧ Below w'.heap.size w' w'')
  : Calls Tryz.prog 11 #[.agg #[.int .i64 kd, .int .i64 n, .int .u64 h, .int .u64 l, .string p]] w fun e w' => e = .returned (.string ⟨#[]⟩) ∧ Below w.heap.size w w' := by
 obtain ⟨Rc, hb0⟩ := one_row w #[.int .i64 kd, .int .i64 n, .int .u64 h, .int .u64 l, .string p] 26
 (try clear c0 c1 c2 c3 c4); obtain ⟨c0, c1, c2, c3, c4⟩ := row5 Rc
 go_enter Tryz.func11, Tryz.ntmps11
 go_wp2_with fail
 refine (HR _ hb0).mono ?_
 rintro e w1 ⟨rfl, hb⟩
 replace Rc := Rc.later hb
 replace hb0 := below_step hb0 hb
 clear hb
 have lc := Rc.lt
 (try clear c0 c1 c2 c3 c4); obtain ⟨c0, c1, c2, c3, c4⟩ := row5 Rc
 go_wp2
 exact bodyPost_ret (v := .string ⟨#[]⟩) (by simp [results, Tryz.results11, go_sem]) rfl ⟨rfl, hb0⟩
theorem word_1 (n h l : Int) (p t : ByteArray) (h0 : 0 ≤ h) (h1 : h < 18446744073709551616) (w : World)
  (HR : ∀ w', Below w.heap.size w w' → Calls Tryz.prog 35 #[.agg #[.int .i64 1, .int .i64 n, .int .u64 h, .int .u64 l, .string p]] w' fun e w'' => e = .returned (.bool true) ∧ Below w'.heap.size w' w'')
  (HP : ∀ w', Below w.heap.size w w' → Calls Tryz.prog 36 #[.int .u32 (h / 4294967296)] w' fun e w'' => e = .returned (.string t) ∧ Below w'.heap.size w' w'')
  : Calls Tryz.prog 11 #[.agg #[.int .i64 1, .int .i64 n, .int .u64 h, .int .u64 l, .string p]] w fun e w' => e = .returned (.string t) ∧ Below w.heap.size w w' := by
 have hw : IntKind.u32.wrap (h / 4294967296) = h / 4294967296 := by simp [IntKind.wrap, IntKind.bits, IntKind.signed]; omega
 obtain ⟨Rc, hb0⟩ := one_row w #[.int .i64 1, .int .i64 n, .int .u64 h, .int .u64 l, .string p] 26
 (try clear c0 c1 c2 c3 c4); obtain ⟨c0, c1, c2, c3, c4⟩ := row5 Rc
 go_enter Tryz.func11, Tryz.ntmps11
 go_wp2_with fail
 refine (HR _ hb0).mono ?_
 rintro e w1 ⟨rfl, hb⟩
 replace Rc := Rc.later hb
 replace hb0 := below_step hb0 hb
 clear hb
 have lc := Rc.lt
 (try clear c0 c1 c2 c3 c4); obtain ⟨c0, c1, c2, c3, c4⟩ := row5 Rc
 go_wp2_with fail
 refine (HP _ hb0).mono ?_
 rintro e w2 ⟨rfl, hb⟩
 replace Rc := Rc.later hb
 replace hb0 := below_step hb0 hb
 clear hb
 have lc := Rc.lt
 (try clear c0 c1 c2 c3 c4); obtain ⟨c0, c1, c2, c3, c4⟩ := row5 Rc
 go_wp2
 exact bodyPost_ret (v := .string t) (by simp [results, Tryz.results11, go_sem]) rfl ⟨rfl, hb0⟩
theorem word_2 (n h l : Int) (p t : ByteArray) (w : World)
  (HR : ∀ w', Below w.heap.size w w' → Calls Tryz.prog 35 #[.agg #[.int .i64 2, .int .i64 n, .int .u64 h, .int .u64 l, .string p]] w' fun e w'' => e = .returned (.bool true) ∧ Below w'.heap.size w' w'')
  (HP : ∀ w', Below w.heap.size w w' → Calls Tryz.prog 37 #[.agg #[.int .u64 h, .int .u64 l]] w' fun e w'' => e = .returned (.string t) ∧ Below w'.heap.size w' w'')
  : Calls Tryz.prog 11 #[.agg #[.int .i64 2, .int .i64 n, .int .u64 h, .int .u64 l, .string p]] w fun e w' => e = .returned (.string t) ∧ Below w.heap.size w w' := by
 obtain ⟨Rc, hb0⟩ := one_row w #[.int .i64 2, .int .i64 n, .int .u64 h, .int .u64 l, .string p] 26
 (try clear c0 c1 c2 c3 c4); obtain ⟨c0, c1, c2, c3, c4⟩ := row5 Rc
 go_enter Tryz.func11, Tryz.ntmps11
 go_wp2_with fail
 refine (HR _ hb0).mono ?_
 rintro e w1 ⟨rfl, hb⟩
 replace Rc := Rc.later hb
 replace hb0 := below_step hb0 hb
 clear hb
 have lc := Rc.lt
 (try clear c0 c1 c2 c3 c4); obtain ⟨c0, c1, c2, c3, c4⟩ := row5 Rc
 go_wp2_with fail
 refine (HP _ hb0).mono ?_
 rintro e w2 ⟨rfl, hb⟩
 replace Rc := Rc.later hb
 replace hb0 := below_step hb0 hb
 clear hb
 have lc := Rc.lt
 (try clear c0 c1 c2 c3 c4); obtain ⟨c0, c1, c2, c3, c4⟩ := row5 Rc
 go_wp2
 exact bodyPost_ret (v := .string t) (by simp [results, Tryz.results11, go_sem]) rfl ⟨rfl, hb0⟩
theorem word_3 (n h l : Int) (p : ByteArray) (w : World)
  (HR : ∀ w', Below w.heap.size w w' → Calls Tryz.prog 35 #[.agg #[.int .i64 3, .int .i64 n, .int .u64 h, .int .u64 l, .string p]] w' fun e w'' => e = .returned (.bool true) ∧ Below w'.heap.size w' w'')
  : Calls Tryz.prog 11 #[.agg #[.int .i64 3, .int .i64 n, .int .u64 h, .int .u64 l, .string p]] w fun e w' => e = .returned (.string p) ∧ Below w.heap.size w w' := by
 obtain ⟨Rc, hb0⟩ := one_row w #[.int .i64 3, .int .i64 n, .int .u64 h, .int .u64 l, .string p] 26
 (try clear c0 c1 c2 c3 c4); obtain ⟨c0, c1, c2, c3, c4⟩ := row5 Rc
 go_enter Tryz.func11, Tryz.ntmps11
 go_wp2_with fail
 refine (HR _ hb0).mono ?_
 rintro e w1 ⟨rfl, hb⟩
 replace Rc := Rc.later hb
 replace hb0 := below_step hb0 hb
 clear hb
 have lc := Rc.lt
 (try clear c0 c1 c2 c3 c4); obtain ⟨c0, c1, c2, c3, c4⟩ := row5 Rc
 go_wp2
 exact bodyPost_ret (v := .string p) (by simp [results, Tryz.results11, go_sem]) rfl ⟨rfl, hb0⟩
theorem part_no (d : Dm) (lv : Int) (k : Ke) (w : World)
  (HO : ∀ w', Below w.heap.size w w' → Calls Tryz.prog 41 #[dv d, .int .i64 lv, kv k] w' fun e w'' => e = .returned (.bool false) ∧ Below w'.heap.size w' w'')
  : Calls Tryz.prog 13 #[dv d, .int .i64 lv, kv k] w fun e w' => e = .returned (.string ⟨#[]⟩) ∧ Below w.heap.size w w' := by
 unfold dv kv at *
 obtain ⟨Rc, Re, hb0⟩ := two_rows w #[.int .i64 d.kind, .int .i64 d.side, .int .i64 d.step] #[.int .i64 k.kind, .int .i64 k.len, .int .u64 k.h, .int .u64 k.l, .string ⟨k.path.toArray⟩] 23 26
 (try clear c0 c1 c2); obtain ⟨c0, c1, c2⟩ := row3 Rc
 (try clear e0 e1 e2 e3 e4); obtain ⟨e0, e1, e2, e3, e4⟩ := row5 Re
 go_enter Tryz.func13, Tryz.ntmps13
 go_wp2_with fail
 refine (HO _ hb0).mono ?_
 rintro e w1 ⟨rfl, hb⟩
 replace Rc := Rc.later hb
 replace Re := Re.later hb
 replace hb0 := below_step hb0 hb
 clear hb
 have lc := Rc.lt
 have le := Re.lt
 (try clear c0 c1 c2); obtain ⟨c0, c1, c2⟩ := row3 Rc
 (try clear e0 e1 e2 e3 e4); obtain ⟨e0, e1, e2, e3, e4⟩ := row5 Re
 go_wp2
 exact bodyPost_ret (v := .string ⟨#[]⟩) (by simp [results, Tryz.results13, go_sem]) rfl ⟨rfl, hb0⟩
theorem part_go (d : Dm) (lv ln : Int) (k : Ke) (A B : ByteArray) (l0 : 0 ≤ ln) (l1 : ln ≤ 128) (sA : A.size ≤ 1000000000000000000) (sB : B.size ≤ 1000000000000000000) (w : World)
  (HO : ∀ w', Below w.heap.size w w' → Calls Tryz.prog 41 #[dv d, .int .i64 lv, kv k] w' fun e w'' => e = .returned (.bool true) ∧ Below w'.heap.size w' w'')
  (HW : ∀ w', Below w.heap.size w w' → Calls Tryz.prog 11 #[kv k] w' fun e w'' => e = .returned (.string A) ∧ Below w'.heap.size w' w'')
  (HL : ∀ w', Below w.heap.size w w' → Calls Tryz.prog 43 #[dv d, .int .i64 lv] w' fun e w'' => e = .returned (.int .i64 ln) ∧ Below w'.heap.size w' w'')
  (HN : ∀ w', Below w.heap.size w w' → Calls Tryz.prog 42 #[.int .u64 ln] w' fun e w'' => e = .returned (.string B) ∧ Below w'.heap.size w' w'')
  : Calls Tryz.prog 13 #[dv d, .int .i64 lv, kv k] w fun e w' => e = .returned (.string (A ++ ⟨#[47]⟩ ++ B)) ∧ Below w.heap.size w w' := by
 have hw : IntKind.u64.wrap ln = ln := by rw [IntKind.wrap_u64]; omega
 have hz : (⟨#[47]⟩ : ByteArray).size = 1 := rfl
 have s1 : ¬ 9223372036854775807 < A.size + 1 := by omega
 have s1x : ¬ 9223372036854775807 < A.size + (⟨#[47]⟩ : ByteArray).size := by rw [hz]; omega
 have s2 : ¬ 9223372036854775807 < A.size + 1 + B.size := by omega
 have s2x : ¬ 9223372036854775807 < (A ++ (⟨#[47]⟩ : ByteArray)).size + B.size := by rw [ByteArray.size_append, hz]; omega
 unfold dv kv at *
 obtain ⟨Rc, Re, hb0⟩ := two_rows w #[.int .i64 d.kind, .int .i64 d.side, .int .i64 d.step] #[.int .i64 k.kind, .int .i64 k.len, .int .u64 k.h, .int .u64 k.l, .string ⟨k.path.toArray⟩] 23 26
 (try clear c0 c1 c2); obtain ⟨c0, c1, c2⟩ := row3 Rc
 (try clear e0 e1 e2 e3 e4); obtain ⟨e0, e1, e2, e3, e4⟩ := row5 Re
 go_enter Tryz.func13, Tryz.ntmps13
 go_wp2_with fail
 refine (HO _ hb0).mono ?_
 rintro e w1 ⟨rfl, hb⟩
 replace Rc := Rc.later hb
 replace Re := Re.later hb
 replace hb0 := below_step hb0 hb
 clear hb
 have lc := Rc.lt
 have le := Re.lt
 (try clear c0 c1 c2); obtain ⟨c0, c1, c2⟩ := row3 Rc
 (try clear e0 e1 e2 e3 e4); obtain ⟨e0, e1, e2, e3, e4⟩ := row5 Re
 go_wp2_with fail
 refine wp_region_held_drew (S := (fun w' => Row w' w.heap.size #[.int .i64 d.kind, .int .i64 d.side, .int .i64 d.step] 23 ∧ Row w' (w.heap.size + 1) #[.int .i64 k.kind, .int .i64 k.len, .int .u64 k.h, .int .u64 k.l, .string ⟨k.path.toArray⟩] 26)) (by kernel_rfl) ?hSr1_ (fun hH => ?_)
 case hSr1_ => (exact ⟨Rc.drew, Re.drew⟩)
 (clear c0 c1 c2 e0 e1 e2 e3 e4; (replace Rc := Rc.drew); (replace Re := Re.drew); (replace hb0 := hb0.drew); (generalize World.drew w1 = wq at *))
 refine tk 0 ⟨some 12, .load 26 (.tmp 5), 26, _, _, _⟩ hH ?_ (v := ?vr1_1_0) (hy := ?yr1_1_0)
 case yr1_1_0 => (intro wy hSw; obtain ⟨Qc, Qe⟩ := hSw; (with_reducible refine pexec_load 26 (.tmp 5) ?_ (w.heap.size + 1) ?_ 26 #[.int .i64 k.kind, .int .i64 k.len, .int .u64 k.h, .int .u64 k.l, .string ⟨k.path.toArray⟩] _ Qe Tryz.underlying26 ?_ ?_) <;> first | rfl | exact infoKe)
 refine tk 3 ⟨some 15, .load 23 (.tmp 3), 23, _, _, _⟩ hH ?_ (v := ?vr1_2_3) (hy := ?yr1_2_3)
 case yr1_2_3 => (intro wy hSw; obtain ⟨Qc, Qe⟩ := hSw; (with_reducible refine pexec_load 23 (.tmp 3) ?_ w.heap.size ?_ 23 #[.int .i64 d.kind, .int .i64 d.side, .int .i64 d.step] _ Qc Tryz.underlying23 ?_ ?_) <;> first | rfl | exact infoDm)
 refine tk 4 ⟨some 16, .move (.tmp 1), 3, _, _, _⟩ hH ?_
 refine wpAnyH_ready (rs := [1]) (by kernel_rfl) (by simp) ?_
 refine AllReadyH.cons (o := ⟨some 13, .call { callee := .value (.func 11), args := #[.tmp 12], argTypes := #[26] }, 9, _, _, _⟩) rfl (fun K hK => ?_) AllReadyH.nil
 (go_simp; (refine (HW _ hb0).mono ?_); (rintro e wz ⟨rfl, hb⟩); (replace Rc := Rc.later hb); (replace Re := Re.later hb); (replace hb0 := below_step hb0 hb); go_wp2_with fail)
 refine hK.out _ _ ?hSr1_4_1 fun _ => ?_
 case hSr1_4_1 => (exact kr hb ((·.later hb)) hH)
 clear hK K hH; rename_i hH
 rename World => wq
 (try simp only [Act.put, nz1, nz2, nz3])
 refine tk 2 ⟨some 14, .binOp .add 9 (.tmp 13) (.const (.string { data := #[47] })) 9, 9, _, _, _⟩ hH ?_
 refine wpAnyH_ready (rs := [5]) (by kernel_rfl) (by simp) ?_
 refine AllReadyH.cons (o := ⟨some 17, .call { callee := .value (.func 43), args := #[.tmp 15, .tmp 16], argTypes := #[23, 3] }, 3, _, _, _⟩) rfl (fun K hK => ?_) AllReadyH.nil
 (go_simp; (refine (HL _ hb0).mono ?_); (rintro e wz ⟨rfl, hb⟩); (replace Rc := Rc.later hb); (replace Re := Re.later hb); (replace hb0 := below_step hb0 hb); go_wp2_with fail)
 refine hK.out _ _ ?hSr1_6_5 fun _ => ?_
 case hSr1_6_5 => (exact kr hb ((·.later hb)) hH)
 clear hK K hH; rename_i hH
 rename World => wq
 (try simp only [Act.put, nz1, nz2, nz3])
 refine tk 6 ⟨some 18, .convert 3 24 (.tmp 17), 24, _, _, _⟩ hH ?_
 refine wpAnyH_ready (rs := [7]) (by kernel_rfl) (by simp) ?_
 refine AllReadyH.cons (o := ⟨some 19, .call { callee := .value (.func 42), args := #[.tmp 18], argTypes := #[24] }, 9, _, _, _⟩) rfl (fun K hK => ?_) AllReadyH.nil
 (go_simp; (refine (HN _ hb0).mono ?_); (rintro e wz ⟨rfl, hb⟩); (replace Rc := Rc.later hb); (replace Re := Re.later hb); (replace hb0 := below_step hb0 hb); go_wp2_with fail)
 refine hK.out _ _ ?hSr1_8_7 fun _ => ?_
 case hSr1_8_7 => (exact kr hb ((·.later hb)) hH)
 clear hK K hH; rename_i hH
 rename World => wq
 (try simp only [Act.put, nz1, nz2, nz3])
 refine tk 8 ⟨some 20, .binOp .add 9 (.tmp 14) (.tmp 19) 9, 9, _, _, _⟩ hH ?_
 refine tk 9 ⟨some 6, .assign (.tmp 20), 9, _, _, _⟩ hH ?_
 refine wpAnyH_done (by kernel_rfl) ?_ _
 clear hH
 rename World => w2
 have lc := Rc.lt
 have le := Re.lt
 (try clear c0 c1 c2); obtain ⟨c0, c1, c2⟩ := row3 Rc
 (try clear e0 e1 e2 e3 e4); obtain ⟨e0, e1, e2, e3, e4⟩ := row5 Re
 go_wp2
 exact bodyPost_ret (v := .string (A ++ ⟨#[47]⟩ ++ B)) (by simp [results, Tryz.results13, go_sem]) rfl ⟨rfl, hb0⟩
theorem p1_go (t : ByteArray) (a er : Int) (k : Ke) (w : World)
  (HP : ∀ w', Below w.heap.size w w' → Calls Tryz.prog 54 #[.string t] w' fun e w'' => e = .returned (.tuple #[.int .u32 a, .int .i64 er]) ∧ Below w'.heap.size w' w'')
  (HF : ∀ w', Below w.heap.size w w' → Calls Tryz.prog 55 #[.int .u32 a] w' fun e w'' => e = .returned (kv k) ∧ Below w'.heap.size w' w'')
  : Calls Tryz.prog 53 #[.string t] w fun e w' => e = .returned (.tuple #[kv k, .int .i64 er]) ∧ Below w.heap.size w w' := by
 unfold kv at *
 obtain ⟨Rr, hb0⟩ := one_row w #[.int .i64 0, .int .i64 0, .int .u64 0, .int .u64 0, .string ⟨#[]⟩] 26
 (try clear r0 r1 r2 r3 r4); obtain ⟨r0, r1, r2, r3, r4⟩ := row5 Rr
 go_enter Tryz.func53, Tryz.ntmps53
 go_wp2_with fail
 refine (HP _ hb0).mono ?_
 rintro e w1 ⟨rfl, hb⟩
 replace Rr := Rr.later hb
 replace hb0 := below_step hb0 hb
 clear hb
 have lr := Rr.lt
 (try clear r0 r1 r2 r3 r4); obtain ⟨r0, r1, r2, r3, r4⟩ := row5 Rr
 go_wp2_with fail
 refine (HF _ hb0).mono ?_
 rintro e w2 ⟨rfl, hb⟩
 replace Rr := Rr.later hb
 replace hb0 := below_step hb0 hb
 clear hb
 have lr := Rr.lt
 (try clear r0 r1 r2 r3 r4); obtain ⟨r0, r1, r2, r3, r4⟩ := row5 Rr
 obtain ⟨rf0, rf1, rf2, rf3, rf4⟩ := fz5 Rr
 go_wp2
 obtain ⟨w3, hwk, hwn⟩ := pnm w2 w.heap.size 0 [.int .i64 k.kind, .int .i64 k.len, .int .u64 k.h, .int .u64 k.l, .string ⟨k.path.toArray⟩]
 simp only [World.setCells] at hwk
 rw [← hwk]; clear hwk
 replace Rr : Row w3 w.heap.size #[.int .i64 k.kind, .int .i64 k.len, .int .u64 k.h, .int .u64 k.l, .string ⟨k.path.toArray⟩] 26 := psm hwn Rr (by simp [setL])
 replace hb0 := pbl hwn hb0
 clear hwn r0 r1 r2 r3 r4
 (try clear rf0 rf1 rf2 rf3 rf4)
 (try clear r0 r1 r2 r3 r4); obtain ⟨r0, r1, r2, r3, r4⟩ := row5 Rr
 exact bodyPost_ret (v := .tuple #[.agg #[.int .i64 k.kind, .int .i64 k.len, .int .u64 k.h, .int .u64 k.l, .string ⟨k.path.toArray⟩], .int .i64 er]) (by simp [results, Tryz.results53, go_sem, r0, r1, r2, r3, r4]) rfl ⟨rfl, hb0⟩
theorem p2_go (t : ByteArray) (h l er : Int) (k : Ke) (w : World)
  (HP : ∀ w', Below w.heap.size w w' → Calls Tryz.prog 57 #[.string t] w' fun e w'' => e = .returned (.tuple #[.agg #[.int .u64 h, .int .u64 l], .int .i64 er]) ∧ Below w'.heap.size w' w'')
  (HF : ∀ w', Below w.heap.size w w' → Calls Tryz.prog 58 #[.agg #[.int .u64 h, .int .u64 l]] w' fun e w'' => e = .returned (kv k) ∧ Below w'.heap.size w' w'')
  : Calls Tryz.prog 56 #[.string t] w fun e w' => e = .returned (.tuple #[kv k, .int .i64 er]) ∧ Below w.heap.size w w' := by
 unfold kv at *
 obtain ⟨Rr, hb0⟩ := one_row w #[.int .i64 0, .int .i64 0, .int .u64 0, .int .u64 0, .string ⟨#[]⟩] 26
 (try clear r0 r1 r2 r3 r4); obtain ⟨r0, r1, r2, r3, r4⟩ := row5 Rr
 go_enter Tryz.func56, Tryz.ntmps56
 go_wp2_with fail
 refine (HP _ hb0).mono ?_
 rintro e w1 ⟨rfl, hb⟩
 replace Rr := Rr.later hb
 replace hb0 := below_step hb0 hb
 clear hb
 have lr := Rr.lt
 (try clear r0 r1 r2 r3 r4); obtain ⟨r0, r1, r2, r3, r4⟩ := row5 Rr
 go_wp2_with fail
 refine (HF _ (hb0.alloc hb0.size _)).mono ?_
 rintro e w2 ⟨rfl, hb⟩
 have nbr := Rr.lt
 replace Rr := (Rr.alloc _).later hb
 have Rb := Row.later (Row.new _ _ _) hb
 have mb := hb0.size
 replace hb0 := below_step (hb0.alloc hb0.size _) hb
 clear hb
 generalize w1.heap.size = gb at *
 have lr := Rr.lt
 have lb := Rb.lt
 (try clear r0 r1 r2 r3 r4); obtain ⟨r0, r1, r2, r3, r4⟩ := row5 Rr
 (try clear b0 b1); obtain ⟨b0, b1⟩ := row2 Rb
 obtain ⟨rf0, rf1, rf2, rf3, rf4⟩ := fz5 Rr
 go_wp2
 obtain ⟨w3, hwk, hwn⟩ := pnm w2 w.heap.size 0 [.int .i64 k.kind, .int .i64 k.len, .int .u64 k.h, .int .u64 k.l, .string ⟨k.path.toArray⟩]
 simp only [World.setCells] at hwk
 rw [← hwk]; clear hwk
 replace Rr : Row w3 w.heap.size #[.int .i64 k.kind, .int .i64 k.len, .int .u64 k.h, .int .u64 k.l, .string ⟨k.path.toArray⟩] 26 := psm hwn Rr (by simp [setL])
 replace Rb := prf hwn Rb
 replace hb0 := pbl hwn hb0
 clear hwn r0 r1 r2 r3 r4 b0 b1
 (try clear rf0 rf1 rf2 rf3 rf4)
 (try clear r0 r1 r2 r3 r4); obtain ⟨r0, r1, r2, r3, r4⟩ := row5 Rr
 (try clear b0 b1); obtain ⟨b0, b1⟩ := row2 Rb
 exact bodyPost_ret (v := .tuple #[.agg #[.int .i64 k.kind, .int .i64 k.len, .int .u64 k.h, .int .u64 k.l, .string ⟨k.path.toArray⟩], .int .i64 er]) (by simp [results, Tryz.results56, go_sem, r0, r1, r2, r3, r4]) rfl ⟨rfl, hb0⟩
theorem p3_go (t : ByteArray) (er : Int) (k : Ke) (w : World)
  (HP : ∀ w', Below w.heap.size w w' → Calls Tryz.prog 60 #[.string t] w' fun e w'' => e = .returned (.tuple #[kv k, .int .i64 er]) ∧ Below w'.heap.size w' w'')
  : Calls Tryz.prog 59 #[.string t] w fun e w' => e = .returned (.tuple #[kv k, .int .i64 er]) ∧ Below w.heap.size w w' := by
 unfold kv at *
 obtain ⟨Rr, hb0⟩ := one_row w #[.int .i64 0, .int .i64 0, .int .u64 0, .int .u64 0, .string ⟨#[]⟩] 26
 (try clear r0 r1 r2 r3 r4); obtain ⟨r0, r1, r2, r3, r4⟩ := row5 Rr
 go_enter Tryz.func59, Tryz.ntmps59
 go_wp2_with fail
 refine (HP _ hb0).mono ?_
 rintro e w1 ⟨rfl, hb⟩
 replace Rr := Rr.later hb
 replace hb0 := below_step hb0 hb
 clear hb
 have lr := Rr.lt
 (try clear r0 r1 r2 r3 r4); obtain ⟨r0, r1, r2, r3, r4⟩ := row5 Rr
 obtain ⟨rf0, rf1, rf2, rf3, rf4⟩ := fz5 Rr
 go_wp2
 obtain ⟨w2, hwk, hwn⟩ := pnm w1 w.heap.size 0 [.int .i64 k.kind, .int .i64 k.len, .int .u64 k.h, .int .u64 k.l, .string ⟨k.path.toArray⟩]
 simp only [World.setCells] at hwk
 rw [← hwk]; clear hwk
 replace Rr : Row w2 w.heap.size #[.int .i64 k.kind, .int .i64 k.len, .int .u64 k.h, .int .u64 k.l, .string ⟨k.path.toArray⟩] 26 := psm hwn Rr (by simp [setL])
 replace hb0 := pbl hwn hb0
 clear hwn r0 r1 r2 r3 r4
 (try clear rf0 rf1 rf2 rf3 rf4)
 (try clear r0 r1 r2 r3 r4); obtain ⟨r0, r1, r2, r3, r4⟩ := row5 Rr
 exact bodyPost_ret (v := .tuple #[.agg #[.int .i64 k.kind, .int .i64 k.len, .int .u64 k.h, .int .u64 k.l, .string ⟨k.path.toArray⟩], .int .i64 er]) (by simp [results, Tryz.results59, go_sem, r0, r1, r2, r3, r4]) rfl ⟨rfl, hb0⟩
theorem parser_a  (w : World)
  : Calls Tryz.prog 22 #[.int .i64 1] w fun e w' => e = .returned (.func (.func 53) #[] #[]) ∧ Below w.heap.size w w' := by
 go_enter Tryz.func22, Tryz.ntmps22
 go_wp2
 exact bodyPost_ret (v := .func (.func 53) #[] #[]) (by simp [results, Tryz.results22, go_sem]) rfl ⟨rfl, Below.refl _ _⟩
theorem parser_b  (w : World)
  : Calls Tryz.prog 22 #[.int .i64 2] w fun e w' => e = .returned (.func (.func 56) #[] #[]) ∧ Below w.heap.size w w' := by
 go_enter Tryz.func22, Tryz.ntmps22
 go_wp2
 exact bodyPost_ret (v := .func (.func 56) #[] #[]) (by simp [results, Tryz.results22, go_sem]) rfl ⟨rfl, Below.refl _ _⟩
theorem parser_c  (w : World)
  : Calls Tryz.prog 22 #[.int .i64 3] w fun e w' => e = .returned (.func (.func 59) #[] #[]) ∧ Below w.heap.size w w' := by
 go_enter Tryz.func22, Tryz.ntmps22
 go_wp2
 exact bodyPost_ret (v := .func (.func 59) #[] #[]) (by simp [results, Tryz.results22, go_sem]) rfl ⟨rfl, Below.refl _ _⟩
theorem alike_t (a b : Ke) (w : World)
  : Calls Tryz.prog 27 #[kv a, kv b] w fun e w' => e = .returned (.bool (decide (a = shortK b a.len))) ∧ Below w.heap.size w w' := by
 have HE : eqK a.kind a.len a.h a.l ⟨a.path.toArray⟩ b.kind a.len b.h b.l ⟨b.path.toArray⟩ = decide (a = shortK b a.len) := eqK_ke a (shortK b a.len)
 have eqx := eql_key a.kind a.len a.h a.l ⟨a.path.toArray⟩ b.kind a.len b.h b.l ⟨b.path.toArray⟩
 rw [HE] at eqx
 clear HE
 generalize decide (a = shortK b a.len) = r at *
 unfold kv
 obtain ⟨Rc, Re, hb0⟩ := two_rows w #[.int .i64 a.kind, .int .i64 a.len, .int .u64 a.h, .int .u64 a.l, .string ⟨a.path.toArray⟩] #[.int .i64 b.kind, .int .i64 b.len, .int .u64 b.h, .int .u64 b.l, .string ⟨b.path.toArray⟩] 26 26
 (try clear c0 c1 c2 c3 c4); obtain ⟨c0, c1, c2, c3, c4⟩ := row5 Rc
 (try clear e0 e1 e2 e3 e4); obtain ⟨e0, e1, e2, e3, e4⟩ := row5 Re
 go_enter Tryz.func27, Tryz.ntmps27
 obtain ⟨ef0, ef1, ef2, ef3, ef4⟩ := fz5 Re
 go_wp2_with fail
 exact bodyPost_ret (v := .bool r) (by simp [results, Tryz.results27, go_sem]) rfl ⟨rfl, (by repeat (first | exact Below.refl _ _ | assumption | (with_reducible refine Below.drew ?_) | ((with_reducible first | refine Below.setCell ?_ ?h _ | refine Below.alloc ?_ ?h _ | refine Below.trans ?_ (hb0.mono ?h)); case h => first | omega | (simp; done) | (simp; omega))))⟩
end Go.Proofs.YtboinifeemghaaaGreatDoor
