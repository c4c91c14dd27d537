/- P4: what the theorem needs of these texts. No conditions beyond those that are written. -/
import Derived.Test.YtbekocknfpekoaaCP3
namespace Go.Proofs.Ytbekocknfpekoaa
set_option linter.unusedVariables false
set_option maxHeartbeats 8000000
set_option linter.unusedSimpArgs false
open Go.RowKit
def leafP (s : Sp) (a b : Ke) : Px := if rightP s ⟨0, 0, a, b⟩ = true then ⟨0, 0, a, b⟩ else pz
def heightP (s : Sp) (p : Px) : Int := if rightP s p = true then p.a0 + p.a1 else 0
set_option maxRecDepth 100000 in
theorem leaf_false (s : Sp) (a b : Ke) (HR : ∀ w, Calls Try.prog 20 #[sv s, pv ⟨0, 0, a, b⟩] w fun e w' => e = .returned (.bool false) ∧ Below w.heap.size w w') (w : World) : Calls Try.prog 16 #[sv s, kv a, kv b] w fun e w' => e = .returned (.tuple #[.agg #[.int .i64 0, .int .i64 0, .int .i64 0, .int .i64 0, .int .u64 0, .int .u64 0, .string ⟨#[]⟩, .int .i64 0, .int .i64 0, .int .u64 0, .int .u64 0, .string ⟨#[]⟩], .bool false]) ∧ Below w.heap.size w w' := by
  unfold sv pv at *
  unfold kv
  dsimp only at *
  obtain ⟨RR0, RR1, RR2, RR3, hb0⟩ := four_rows w #[.int .i64 s.n, .int .i64 s.d0.kind, .int .i64 s.d0.side, .int .i64 s.d0.step, .int .i64 s.d1.kind, .int .i64 s.d1.side, .int .i64 s.d1.step] #[.int .i64 a.kind, .int .i64 a.len, .int .u64 a.h, .int .u64 a.l, .string ⟨a.path.toArray⟩] #[.int .i64 b.kind, .int .i64 b.len, .int .u64 b.h, .int .u64 b.l, .string ⟨b.path.toArray⟩] #[.int .i64 0, .int .i64 0, .int .i64 0, .int .i64 0, .int .u64 0, .int .u64 0, .string ⟨#[]⟩, .int .i64 0, .int .i64 0, .int .u64 0, .int .u64 0, .string ⟨#[]⟩] 26 30 30 33
  have c0 := (RR0.cell 0).trans (show _ = some (Value.int .i64 s.n) from rfl)
  have c1 := (RR0.cell 1).trans (show _ = some (Value.int .i64 s.d0.kind) from rfl)
  have c2 := (RR0.cell 2).trans (show _ = some (Value.int .i64 s.d0.side) from rfl)
  have c3 := (RR0.cell 3).trans (show _ = some (Value.int .i64 s.d0.step) from rfl)
  have c4 := (RR0.cell 4).trans (show _ = some (Value.int .i64 s.d1.kind) from rfl)
  have c5 := (RR0.cell 5).trans (show _ = some (Value.int .i64 s.d1.side) from rfl)
  have c6 := (RR0.cell 6).trans (show _ = some (Value.int .i64 s.d1.step) from rfl)
  have d0 := (RR1.cell 0).trans (show _ = some (Value.int .i64 a.kind) from rfl)
  have d1 := (RR1.cell 1).trans (show _ = some (Value.int .i64 a.len) from rfl)
  have d2 := (RR1.cell 2).trans (show _ = some (Value.int .u64 a.h) from rfl)
  have d3 := (RR1.cell 3).trans (show _ = some (Value.int .u64 a.l) from rfl)
  have d4 := (RR1.cell 4).trans (show _ = some (Value.string ⟨a.path.toArray⟩) from rfl)
  have e0 := (RR2.cell 0).trans (show _ = some (Value.int .i64 b.kind) from rfl)
  have e1 := (RR2.cell 1).trans (show _ = some (Value.int .i64 b.len) from rfl)
  have e2 := (RR2.cell 2).trans (show _ = some (Value.int .u64 b.h) from rfl)
  have e3 := (RR2.cell 3).trans (show _ = some (Value.int .u64 b.l) from rfl)
  have e4 := (RR2.cell 4).trans (show _ = some (Value.string ⟨b.path.toArray⟩) from rfl)
  have r0 := (RR3.cell 0).trans (show _ = some (Value.int .i64 0) from rfl)
  have r1 := (RR3.cell 1).trans (show _ = some (Value.int .i64 0) from rfl)
  have r2 := (RR3.cell 2).trans (show _ = some (Value.int .i64 0) from rfl)
  have r3 := (RR3.cell 3).trans (show _ = some (Value.int .i64 0) from rfl)
  have r4 := (RR3.cell 4).trans (show _ = some (Value.int .u64 0) from rfl)
  have r5 := (RR3.cell 5).trans (show _ = some (Value.int .u64 0) from rfl)
  have r6 := (RR3.cell 6).trans (show _ = some (Value.string ⟨#[]⟩) from rfl)
  have r7 := (RR3.cell 7).trans (show _ = some (Value.int .i64 0) from rfl)
  have r8 := (RR3.cell 8).trans (show _ = some (Value.int .i64 0) from rfl)
  have r9 := (RR3.cell 9).trans (show _ = some (Value.int .u64 0) from rfl)
  have r10 := (RR3.cell 10).trans (show _ = some (Value.int .u64 0) from rfl)
  have r11 := (RR3.cell 11).trans (show _ = some (Value.string ⟨#[]⟩) from rfl)
  have Rr := RR3
  clear RR0 RR1 RR2 RR3
  go_enter Try.func16, Try.ntmps16
  go_wp2_with fail
  refine (HR _).mono ?_
  rintro e w1 ⟨rfl, hb⟩
  replace c0 := cell_later hb (cell_later ((Below.refl _ _).alloc (Nat.le_refl _) _) c0)
  replace c1 := cell_later hb (cell_later ((Below.refl _ _).alloc (Nat.le_refl _) _) c1)
  replace c2 := cell_later hb (cell_later ((Below.refl _ _).alloc (Nat.le_refl _) _) c2)
  replace c3 := cell_later hb (cell_later ((Below.refl _ _).alloc (Nat.le_refl _) _) c3)
  replace c4 := cell_later hb (cell_later ((Below.refl _ _).alloc (Nat.le_refl _) _) c4)
  replace c5 := cell_later hb (cell_later ((Below.refl _ _).alloc (Nat.le_refl _) _) c5)
  replace c6 := cell_later hb (cell_later ((Below.refl _ _).alloc (Nat.le_refl _) _) c6)
  replace d0 := cell_later hb (cell_later ((Below.refl _ _).alloc (Nat.le_refl _) _) d0)
  replace d1 := cell_later hb (cell_later ((Below.refl _ _).alloc (Nat.le_refl _) _) d1)
  replace d2 := cell_later hb (cell_later ((Below.refl _ _).alloc (Nat.le_refl _) _) d2)
  replace d3 := cell_later hb (cell_later ((Below.refl _ _).alloc (Nat.le_refl _) _) d3)
  replace d4 := cell_later hb (cell_later ((Below.refl _ _).alloc (Nat.le_refl _) _) d4)
  replace e0 := cell_later hb (cell_later ((Below.refl _ _).alloc (Nat.le_refl _) _) e0)
  replace e1 := cell_later hb (cell_later ((Below.refl _ _).alloc (Nat.le_refl _) _) e1)
  replace e2 := cell_later hb (cell_later ((Below.refl _ _).alloc (Nat.le_refl _) _) e2)
  replace e3 := cell_later hb (cell_later ((Below.refl _ _).alloc (Nat.le_refl _) _) e3)
  replace e4 := cell_later hb (cell_later ((Below.refl _ _).alloc (Nat.le_refl _) _) e4)
  replace r0 := cell_later hb (cell_later ((Below.refl _ _).alloc (Nat.le_refl _) _) r0)
  replace r1 := cell_later hb (cell_later ((Below.refl _ _).alloc (Nat.le_refl _) _) r1)
  replace r2 := cell_later hb (cell_later ((Below.refl _ _).alloc (Nat.le_refl _) _) r2)
  replace r3 := cell_later hb (cell_later ((Below.refl _ _).alloc (Nat.le_refl _) _) r3)
  replace r4 := cell_later hb (cell_later ((Below.refl _ _).alloc (Nat.le_refl _) _) r4)
  replace r5 := cell_later hb (cell_later ((Below.refl _ _).alloc (Nat.le_refl _) _) r5)
  replace r6 := cell_later hb (cell_later ((Below.refl _ _).alloc (Nat.le_refl _) _) r6)
  replace r7 := cell_later hb (cell_later ((Below.refl _ _).alloc (Nat.le_refl _) _) r7)
  replace r8 := cell_later hb (cell_later ((Below.refl _ _).alloc (Nat.le_refl _) _) r8)
  replace r9 := cell_later hb (cell_later ((Below.refl _ _).alloc (Nat.le_refl _) _) r9)
  replace r10 := cell_later hb (cell_later ((Below.refl _ _).alloc (Nat.le_refl _) _) r10)
  replace r11 := cell_later hb (cell_later ((Below.refl _ _).alloc (Nat.le_refl _) _) r11)
  replace Rr := (Rr.alloc _).later hb
  have f0 := ((Row.later (Row.new _ _ _) hb).cell 0).trans (show _ = some (Value.int .i64 0) from rfl)
  have f1 := ((Row.later (Row.new _ _ _) hb).cell 1).trans (show _ = some (Value.int .i64 0) from rfl)
  have f2 := ((Row.later (Row.new _ _ _) hb).cell 2).trans (show _ = some (Value.int .i64 a.kind) from rfl)
  have f3 := ((Row.later (Row.new _ _ _) hb).cell 3).trans (show _ = some (Value.int .i64 a.len) from rfl)
  have f4 := ((Row.later (Row.new _ _ _) hb).cell 4).trans (show _ = some (Value.int .u64 a.h) from rfl)
  have f5 := ((Row.later (Row.new _ _ _) hb).cell 5).trans (show _ = some (Value.int .u64 a.l) from rfl)
  have f6 := ((Row.later (Row.new _ _ _) hb).cell 6).trans (show _ = some (Value.string ⟨a.path.toArray⟩) from rfl)
  have f7 := ((Row.later (Row.new _ _ _) hb).cell 7).trans (show _ = some (Value.int .i64 b.kind) from rfl)
  have f8 := ((Row.later (Row.new _ _ _) hb).cell 8).trans (show _ = some (Value.int .i64 b.len) from rfl)
  have f9 := ((Row.later (Row.new _ _ _) hb).cell 9).trans (show _ = some (Value.int .u64 b.h) from rfl)
  have f10 := ((Row.later (Row.new _ _ _) hb).cell 10).trans (show _ = some (Value.int .u64 b.l) from rfl)
  have f11 := ((Row.later (Row.new _ _ _) hb).cell 11).trans (show _ = some (Value.string ⟨b.path.toArray⟩) from rfl)
  simp only [World.size_alloc] at f0
  simp only [World.size_alloc] at f1
  simp only [World.size_alloc] at f2
  simp only [World.size_alloc] at f3
  simp only [World.size_alloc] at f4
  simp only [World.size_alloc] at f5
  simp only [World.size_alloc] at f6
  simp only [World.size_alloc] at f7
  simp only [World.size_alloc] at f8
  simp only [World.size_alloc] at f9
  simp only [World.size_alloc] at f10
  simp only [World.size_alloc] at f11
  replace hb0 := below_step (hb0.alloc (Nat.le_trans hb0.size (Nat.le_refl _)) _) hb
  clear hb
  have lc := World.block_lt_of_cell? _ _ c0
  dsimp only at lc
  have ld := World.block_lt_of_cell? _ _ d0
  dsimp only at ld
  have le := World.block_lt_of_cell? _ _ e0
  dsimp only at le
  have lr := World.block_lt_of_cell? _ _ r0
  dsimp only at lr
  have lf := World.block_lt_of_cell? _ _ f0
  dsimp only at lf
  have rf0 := Rr.frozen 0
  have rf1 := Rr.frozen 1
  have rf2 := Rr.frozen 2
  have rf3 := Rr.frozen 3
  have rf4 := Rr.frozen 4
  have rf5 := Rr.frozen 5
  have rf6 := Rr.frozen 6
  have rf7 := Rr.frozen 7
  have rf8 := Rr.frozen 8
  have rf9 := Rr.frozen 9
  have rf10 := Rr.frozen 10
  have rf11 := Rr.frozen 11
  go_wp2
  have RF := set12 Rr rfl (Value.int .i64 0) (Value.int .i64 0) (Value.int .i64 0) (Value.int .i64 0) (Value.int .u64 0) (Value.int .u64 0) (Value.string ⟨#[]⟩) (Value.int .i64 0) (Value.int .i64 0) (Value.int .u64 0) (Value.int .u64 0) (Value.string ⟨#[]⟩)
  have hbF := bset12 (g := (w.heap.size + 1 + 1 + 1)) hb0 (by omega) (Value.int .i64 0) (Value.int .i64 0) (Value.int .i64 0) (Value.int .i64 0) (Value.int .u64 0) (Value.int .u64 0) (Value.string ⟨#[]⟩) (Value.int .i64 0) (Value.int .i64 0) (Value.int .u64 0) (Value.int .u64 0) (Value.string ⟨#[]⟩)
  generalize hWF : (World.setCell (World.setCell (World.setCell (World.setCell (World.setCell (World.setCell (World.setCell (World.setCell (World.setCell (World.setCell (World.setCell (World.setCell w1 ⟨(w.heap.size + 1 + 1 + 1), 0, none⟩ (Value.int .i64 0)) ⟨(w.heap.size + 1 + 1 + 1), 1, none⟩ (Value.int .i64 0)) ⟨(w.heap.size + 1 + 1 + 1), 2, none⟩ (Value.int .i64 0)) ⟨(w.heap.size + 1 + 1 + 1), 3, none⟩ (Value.int .i64 0)) ⟨(w.heap.size + 1 + 1 + 1), 4, none⟩ (Value.int .u64 0)) ⟨(w.heap.size + 1 + 1 + 1), 5, none⟩ (Value.int .u64 0)) ⟨(w.heap.size + 1 + 1 + 1), 6, none⟩ (Value.string ⟨#[]⟩)) ⟨(w.heap.size + 1 + 1 + 1), 7, none⟩ (Value.int .i64 0)) ⟨(w.heap.size + 1 + 1 + 1), 8, none⟩ (Value.int .i64 0)) ⟨(w.heap.size + 1 + 1 + 1), 9, none⟩ (Value.int .u64 0)) ⟨(w.heap.size + 1 + 1 + 1), 10, none⟩ (Value.int .u64 0)) ⟨(w.heap.size + 1 + 1 + 1), 11, none⟩ (Value.string ⟨#[]⟩)) = wF at *
  have z0 := (RF.cell 0).trans (show _ = some (Value.int .i64 0) from rfl)
  have z1 := (RF.cell 1).trans (show _ = some (Value.int .i64 0) from rfl)
  have z2 := (RF.cell 2).trans (show _ = some (Value.int .i64 0) from rfl)
  have z3 := (RF.cell 3).trans (show _ = some (Value.int .i64 0) from rfl)
  have z4 := (RF.cell 4).trans (show _ = some (Value.int .u64 0) from rfl)
  have z5 := (RF.cell 5).trans (show _ = some (Value.int .u64 0) from rfl)
  have z6 := (RF.cell 6).trans (show _ = some (Value.string ⟨#[]⟩) from rfl)
  have z7 := (RF.cell 7).trans (show _ = some (Value.int .i64 0) from rfl)
  have z8 := (RF.cell 8).trans (show _ = some (Value.int .i64 0) from rfl)
  have z9 := (RF.cell 9).trans (show _ = some (Value.int .u64 0) from rfl)
  have z10 := (RF.cell 10).trans (show _ = some (Value.int .u64 0) from rfl)
  have z11 := (RF.cell 11).trans (show _ = some (Value.string ⟨#[]⟩) from rfl)
  refine bodyPost_ret (v := .tuple #[.agg #[.int .i64 0, .int .i64 0, .int .i64 0, .int .i64 0, .int .u64 0, .int .u64 0, .string ⟨#[]⟩, .int .i64 0, .int .i64 0, .int .u64 0, .int .u64 0, .string ⟨#[]⟩], .bool false]) (by simp [results, Try.results16, go_sem, z0, z1, z2, z3, z4, z5, z6, z7, z8, z9, z10, z11]) rfl ⟨rfl, hbF⟩
set_option maxRecDepth 100000 in
theorem leaf_true (s : Sp) (a b : Ke) (HR : ∀ w, Calls Try.prog 20 #[sv s, pv ⟨0, 0, a, b⟩] w fun e w' => e = .returned (.bool true) ∧ Below w.heap.size w w') (w : World) : Calls Try.prog 16 #[sv s, kv a, kv b] w fun e w' => e = .returned (.tuple #[.agg #[.int .i64 0, .int .i64 0, .int .i64 a.kind, .int .i64 a.len, .int .u64 a.h, .int .u64 a.l, .string ⟨a.path.toArray⟩, .int .i64 b.kind, .int .i64 b.len, .int .u64 b.h, .int .u64 b.l, .string ⟨b.path.toArray⟩], .bool true]) ∧ Below w.heap.size w w' := by
  unfold sv pv at *
  unfold kv
  dsimp only at *
  obtain ⟨RR0, RR1, RR2, RR3, hb0⟩ := four_rows w #[.int .i64 s.n, .int .i64 s.d0.kind, .int .i64 s.d0.side, .int .i64 s.d0.step, .int .i64 s.d1.kind, .int .i64 s.d1.side, .int .i64 s.d1.step] #[.int .i64 a.kind, .int .i64 a.len, .int .u64 a.h, .int .u64 a.l, .string ⟨a.path.toArray⟩] #[.int .i64 b.kind, .int .i64 b.len, .int .u64 b.h, .int .u64 b.l, .string ⟨b.path.toArray⟩] #[.int .i64 0, .int .i64 0, .int .i64 0, .int .i64 0, .int .u64 0, .int .u64 0, .string ⟨#[]⟩, .int .i64 0, .int .i64 0, .int .u64 0, .int .u64 0, .string ⟨#[]⟩] 26 30 30 33
  have c0 := (RR0.cell 0).trans (show _ = some (Value.int .i64 s.n) from rfl)
  have c1 := (RR0.cell 1).trans (show _ = some (Value.int .i64 s.d0.kind) from rfl)
  have c2 := (RR0.cell 2).trans (show _ = some (Value.int .i64 s.d0.side) from rfl)
  have c3 := (RR0.cell 3).trans (show _ = some (Value.int .i64 s.d0.step) from rfl)
  have c4 := (RR0.cell 4).trans (show _ = some (Value.int .i64 s.d1.kind) from rfl)
  have c5 := (RR0.cell 5).trans (show _ = some (Value.int .i64 s.d1.side) from rfl)
  have c6 := (RR0.cell 6).trans (show _ = some (Value.int .i64 s.d1.step) from rfl)
  have d0 := (RR1.cell 0).trans (show _ = some (Value.int .i64 a.kind) from rfl)
  have d1 := (RR1.cell 1).trans (show _ = some (Value.int .i64 a.len) from rfl)
  have d2 := (RR1.cell 2).trans (show _ = some (Value.int .u64 a.h) from rfl)
  have d3 := (RR1.cell 3).trans (show _ = some (Value.int .u64 a.l) from rfl)
  have d4 := (RR1.cell 4).trans (show _ = some (Value.string ⟨a.path.toArray⟩) from rfl)
  have e0 := (RR2.cell 0).trans (show _ = some (Value.int .i64 b.kind) from rfl)
  have e1 := (RR2.cell 1).trans (show _ = some (Value.int .i64 b.len) from rfl)
  have e2 := (RR2.cell 2).trans (show _ = some (Value.int .u64 b.h) from rfl)
  have e3 := (RR2.cell 3).trans (show _ = some (Value.int .u64 b.l) from rfl)
  have e4 := (RR2.cell 4).trans (show _ = some (Value.string ⟨b.path.toArray⟩) from rfl)
  have r0 := (RR3.cell 0).trans (show _ = some (Value.int .i64 0) from rfl)
  have r1 := (RR3.cell 1).trans (show _ = some (Value.int .i64 0) from rfl)
  have r2 := (RR3.cell 2).trans (show _ = some (Value.int .i64 0) from rfl)
  have r3 := (RR3.cell 3).trans (show _ = some (Value.int .i64 0) from rfl)
  have r4 := (RR3.cell 4).trans (show _ = some (Value.int .u64 0) from rfl)
  have r5 := (RR3.cell 5).trans (show _ = some (Value.int .u64 0) from rfl)
  have r6 := (RR3.cell 6).trans (show _ = some (Value.string ⟨#[]⟩) from rfl)
  have r7 := (RR3.cell 7).trans (show _ = some (Value.int .i64 0) from rfl)
  have r8 := (RR3.cell 8).trans (show _ = some (Value.int .i64 0) from rfl)
  have r9 := (RR3.cell 9).trans (show _ = some (Value.int .u64 0) from rfl)
  have r10 := (RR3.cell 10).trans (show _ = some (Value.int .u64 0) from rfl)
  have r11 := (RR3.cell 11).trans (show _ = some (Value.string ⟨#[]⟩) from rfl)
  have Rr := RR3
  clear RR0 RR1 RR2 RR3
  go_enter Try.func16, Try.ntmps16
  go_wp2_with fail
  refine (HR _).mono ?_
  rintro e w2 ⟨rfl, hb⟩
  replace c0 := cell_later hb (cell_later ((Below.refl _ _).alloc (Nat.le_refl _) _) c0)
  replace c1 := cell_later hb (cell_later ((Below.refl _ _).alloc (Nat.le_refl _) _) c1)
  replace c2 := cell_later hb (cell_later ((Below.refl _ _).alloc (Nat.le_refl _) _) c2)
  replace c3 := cell_later hb (cell_later ((Below.refl _ _).alloc (Nat.le_refl _) _) c3)
  replace c4 := cell_later hb (cell_later ((Below.refl _ _).alloc (Nat.le_refl _) _) c4)
  replace c5 := cell_later hb (cell_later ((Below.refl _ _).alloc (Nat.le_refl _) _) c5)
  replace c6 := cell_later hb (cell_later ((Below.refl _ _).alloc (Nat.le_refl _) _) c6)
  replace d0 := cell_later hb (cell_later ((Below.refl _ _).alloc (Nat.le_refl _) _) d0)
  replace d1 := cell_later hb (cell_later ((Below.refl _ _).alloc (Nat.le_refl _) _) d1)
  replace d2 := cell_later hb (cell_later ((Below.refl _ _).alloc (Nat.le_refl _) _) d2)
  replace d3 := cell_later hb (cell_later ((Below.refl _ _).alloc (Nat.le_refl _) _) d3)
  replace d4 := cell_later hb (cell_later ((Below.refl _ _).alloc (Nat.le_refl _) _) d4)
  replace e0 := cell_later hb (cell_later ((Below.refl _ _).alloc (Nat.le_refl _) _) e0)
  replace e1 := cell_later hb (cell_later ((Below.refl _ _).alloc (Nat.le_refl _) _) e1)
  replace e2 := cell_later hb (cell_later ((Below.refl _ _).alloc (Nat.le_refl _) _) e2)
  replace e3 := cell_later hb (cell_later ((Below.refl _ _).alloc (Nat.le_refl _) _) e3)
  replace e4 := cell_later hb (cell_later ((Below.refl _ _).alloc (Nat.le_refl _) _) e4)
  replace r0 := cell_later hb (cell_later ((Below.refl _ _).alloc (Nat.le_refl _) _) r0)
  replace r1 := cell_later hb (cell_later ((Below.refl _ _).alloc (Nat.le_refl _) _) r1)
  replace r2 := cell_later hb (cell_later ((Below.refl _ _).alloc (Nat.le_refl _) _) r2)
  replace r3 := cell_later hb (cell_later ((Below.refl _ _).alloc (Nat.le_refl _) _) r3)
  replace r4 := cell_later hb (cell_later ((Below.refl _ _).alloc (Nat.le_refl _) _) r4)
  replace r5 := cell_later hb (cell_later ((Below.refl _ _).alloc (Nat.le_refl _) _) r5)
  replace r6 := cell_later hb (cell_later ((Below.refl _ _).alloc (Nat.le_refl _) _) r6)
  replace r7 := cell_later hb (cell_later ((Below.refl _ _).alloc (Nat.le_refl _) _) r7)
  replace r8 := cell_later hb (cell_later ((Below.refl _ _).alloc (Nat.le_refl _) _) r8)
  replace r9 := cell_later hb (cell_later ((Below.refl _ _).alloc (Nat.le_refl _) _) r9)
  replace r10 := cell_later hb (cell_later ((Below.refl _ _).alloc (Nat.le_refl _) _) r10)
  replace r11 := cell_later hb (cell_later ((Below.refl _ _).alloc (Nat.le_refl _) _) r11)
  replace Rr := (Rr.alloc _).later hb
  have f0 := ((Row.later (Row.new _ _ _) hb).cell 0).trans (show _ = some (Value.int .i64 0) from rfl)
  have f1 := ((Row.later (Row.new _ _ _) hb).cell 1).trans (show _ = some (Value.int .i64 0) from rfl)
  have f2 := ((Row.later (Row.new _ _ _) hb).cell 2).trans (show _ = some (Value.int .i64 a.kind) from rfl)
  have f3 := ((Row.later (Row.new _ _ _) hb).cell 3).trans (show _ = some (Value.int .i64 a.len) from rfl)
  have f4 := ((Row.later (Row.new _ _ _) hb).cell 4).trans (show _ = some (Value.int .u64 a.h) from rfl)
  have f5 := ((Row.later (Row.new _ _ _) hb).cell 5).trans (show _ = some (Value.int .u64 a.l) from rfl)
  have f6 := ((Row.later (Row.new _ _ _) hb).cell 6).trans (show _ = some (Value.string ⟨a.path.toArray⟩) from rfl)
  have f7 := ((Row.later (Row.new _ _ _) hb).cell 7).trans (show _ = some (Value.int .i64 b.kind) from rfl)
  have f8 := ((Row.later (Row.new _ _ _) hb).cell 8).trans (show _ = some (Value.int .i64 b.len) from rfl)
  have f9 := ((Row.later (Row.new _ _ _) hb).cell 9).trans (show _ = some (Value.int .u64 b.h) from rfl)
  have f10 := ((Row.later (Row.new _ _ _) hb).cell 10).trans (show _ = some (Value.int .u64 b.l) from rfl)
  have f11 := ((Row.later (Row.new _ _ _) hb).cell 11).trans (show _ = some (Value.string ⟨b.path.toArray⟩) from rfl)
  simp only [World.size_alloc] at f0
  simp only [World.size_alloc] at f1
  simp only [World.size_alloc] at f2
  simp only [World.size_alloc] at f3
  simp only [World.size_alloc] at f4
  simp only [World.size_alloc] at f5
  simp only [World.size_alloc] at f6
  simp only [World.size_alloc] at f7
  simp only [World.size_alloc] at f8
  simp only [World.size_alloc] at f9
  simp only [World.size_alloc] at f10
  simp only [World.size_alloc] at f11
  replace hb0 := below_step (hb0.alloc (Nat.le_trans hb0.size (Nat.le_refl _)) _) hb
  clear hb
  have lc := World.block_lt_of_cell? _ _ c0
  dsimp only at lc
  have ld := World.block_lt_of_cell? _ _ d0
  dsimp only at ld
  have le := World.block_lt_of_cell? _ _ e0
  dsimp only at le
  have lr := World.block_lt_of_cell? _ _ r0
  dsimp only at lr
  have lf := World.block_lt_of_cell? _ _ f0
  dsimp only at lf
  have rf0 := Rr.frozen 0
  have rf1 := Rr.frozen 1
  have rf2 := Rr.frozen 2
  have rf3 := Rr.frozen 3
  have rf4 := Rr.frozen 4
  have rf5 := Rr.frozen 5
  have rf6 := Rr.frozen 6
  have rf7 := Rr.frozen 7
  have rf8 := Rr.frozen 8
  have rf9 := Rr.frozen 9
  have rf10 := Rr.frozen 10
  have rf11 := Rr.frozen 11
  go_wp2
  have RF := set12 Rr rfl (Value.int .i64 0) (Value.int .i64 0) (Value.int .i64 a.kind) (Value.int .i64 a.len) (Value.int .u64 a.h) (Value.int .u64 a.l) (Value.string ⟨a.path.toArray⟩) (Value.int .i64 b.kind) (Value.int .i64 b.len) (Value.int .u64 b.h) (Value.int .u64 b.l) (Value.string ⟨b.path.toArray⟩)
  have hbF := bset12 (g := (w.heap.size + 1 + 1 + 1)) hb0 (by omega) (Value.int .i64 0) (Value.int .i64 0) (Value.int .i64 a.kind) (Value.int .i64 a.len) (Value.int .u64 a.h) (Value.int .u64 a.l) (Value.string ⟨a.path.toArray⟩) (Value.int .i64 b.kind) (Value.int .i64 b.len) (Value.int .u64 b.h) (Value.int .u64 b.l) (Value.string ⟨b.path.toArray⟩)
  generalize hWF : (World.setCell (World.setCell (World.setCell (World.setCell (World.setCell (World.setCell (World.setCell (World.setCell (World.setCell (World.setCell (World.setCell (World.setCell w2 ⟨(w.heap.size + 1 + 1 + 1), 0, none⟩ (Value.int .i64 0)) ⟨(w.heap.size + 1 + 1 + 1), 1, none⟩ (Value.int .i64 0)) ⟨(w.heap.size + 1 + 1 + 1), 2, none⟩ (Value.int .i64 a.kind)) ⟨(w.heap.size + 1 + 1 + 1), 3, none⟩ (Value.int .i64 a.len)) ⟨(w.heap.size + 1 + 1 + 1), 4, none⟩ (Value.int .u64 a.h)) ⟨(w.heap.size + 1 + 1 + 1), 5, none⟩ (Value.int .u64 a.l)) ⟨(w.heap.size + 1 + 1 + 1), 6, none⟩ (Value.string ⟨a.path.toArray⟩)) ⟨(w.heap.size + 1 + 1 + 1), 7, none⟩ (Value.int .i64 b.kind)) ⟨(w.heap.size + 1 + 1 + 1), 8, none⟩ (Value.int .i64 b.len)) ⟨(w.heap.size + 1 + 1 + 1), 9, none⟩ (Value.int .u64 b.h)) ⟨(w.heap.size + 1 + 1 + 1), 10, none⟩ (Value.int .u64 b.l)) ⟨(w.heap.size + 1 + 1 + 1), 11, none⟩ (Value.string ⟨b.path.toArray⟩)) = wF at *
  have z0 := (RF.cell 0).trans (show _ = some (Value.int .i64 0) from rfl)
  have z1 := (RF.cell 1).trans (show _ = some (Value.int .i64 0) from rfl)
  have z2 := (RF.cell 2).trans (show _ = some (Value.int .i64 a.kind) from rfl)
  have z3 := (RF.cell 3).trans (show _ = some (Value.int .i64 a.len) from rfl)
  have z4 := (RF.cell 4).trans (show _ = some (Value.int .u64 a.h) from rfl)
  have z5 := (RF.cell 5).trans (show _ = some (Value.int .u64 a.l) from rfl)
  have z6 := (RF.cell 6).trans (show _ = some (Value.string ⟨a.path.toArray⟩) from rfl)
  have z7 := (RF.cell 7).trans (show _ = some (Value.int .i64 b.kind) from rfl)
  have z8 := (RF.cell 8).trans (show _ = some (Value.int .i64 b.len) from rfl)
  have z9 := (RF.cell 9).trans (show _ = some (Value.int .u64 b.h) from rfl)
  have z10 := (RF.cell 10).trans (show _ = some (Value.int .u64 b.l) from rfl)
  have z11 := (RF.cell 11).trans (show _ = some (Value.string ⟨b.path.toArray⟩) from rfl)
  refine bodyPost_ret (v := .tuple #[.agg #[.int .i64 0, .int .i64 0, .int .i64 a.kind, .int .i64 a.len, .int .u64 a.h, .int .u64 a.l, .string ⟨a.path.toArray⟩, .int .i64 b.kind, .int .i64 b.len, .int .u64 b.h, .int .u64 b.l, .string ⟨b.path.toArray⟩], .bool true]) (by simp [results, Try.results16, go_sem, z0, z1, z2, z3, z4, z5, z6, z7, z8, z9, z10, z11]) rfl ⟨rfl, hbF⟩
theorem leaf_t (s : Sp) (a b : Ke) (oa : a.ok) (ob : b.ok) (w : World) : Calls Try.prog 16 #[sv s, kv a, kv b] w fun e w' => e = .returned (.tuple #[pv (leafP s a b), .bool (rightP s ⟨0, 0, a, b⟩)]) ∧ Below w.heap.size w w' := by
  have HR := right9_t s ⟨0, 0, a, b⟩ ⟨oa, ob, (by dsimp only; omega), (by dsimp only; omega), (by dsimp only; omega), (by dsimp only; omega)⟩
  unfold leafP
  cases h : rightP s ⟨0, 0, a, b⟩ with
  | false => rw [h] at HR; exact leaf_false s a b HR w
  | true => rw [h] at HR; exact leaf_true s a b HR w
theorem at_sum {d e : Dm} {a b : Int} {k l : Ke} (h : onD d a k = true) (h2 : onD e b l = true ∨ b = 0) : 0 ≤ a ∧ a ≤ 128 ∧ 0 ≤ b ∧ b ≤ 128 := by
  have one : ∀ {d : Dm} {a : Int} {k : Ke}, onD d a k = true → 0 ≤ a ∧ a ≤ 128 := by
    intro d a k h
    obtain ⟨h1, _⟩ := (onD_iff d a k).1 h
    obtain ⟨g1, g2, g3⟩ := lenD_there h1
    have := (depth_range g1).2.1
    omega
  have := one h
  rcases h2 with h2 | h2
  · have := one h2; omega
  · omega
theorem at_range {s : Sp} {p : Px} (h : rightP s p = true) : 0 ≤ p.a0 ∧ p.a0 ≤ 128 ∧ 0 ≤ p.a1 ∧ p.a1 ≤ 128 := by
  unfold rightP at h
  simp only [Bool.and_eq_true] at h
  obtain ⟨_, h1, h2⟩ := h
  refine at_sum h1 ?_ (e := s.d1) (l := p.k1)
  split at h2
  · right; simp only [Bool.and_eq_true, decide_eq_true_eq] at h2; exact h2.1
  · left; exact h2
set_option maxRecDepth 100000 in
theorem height_t (s : Sp) (p : Px) (ok : p.ok) (w : World) : Calls Try.prog 25 #[sv s, pv p] w fun e w' => e = .returned (.int .i64 (heightP s p)) ∧ Below w.heap.size w w' := by
  have HR := right9_t s p ok
  unfold heightP
  cases h : rightP s p with
  | false =>
    rw [h] at HR
    rw [if_neg (by simp)]
    clear h ok
    unfold sv pv at *
    obtain ⟨RR0, RR1, hb0⟩ := two_rows w #[.int .i64 s.n, .int .i64 s.d0.kind, .int .i64 s.d0.side, .int .i64 s.d0.step, .int .i64 s.d1.kind, .int .i64 s.d1.side, .int .i64 s.d1.step] #[.int .i64 p.a0, .int .i64 p.a1, .int .i64 p.k0.kind, .int .i64 p.k0.len, .int .u64 p.k0.h, .int .u64 p.k0.l, .string ⟨p.k0.path.toArray⟩, .int .i64 p.k1.kind, .int .i64 p.k1.len, .int .u64 p.k1.h, .int .u64 p.k1.l, .string ⟨p.k1.path.toArray⟩] 26 33
    have c0 := (RR0.cell 0).trans (show _ = some (Value.int .i64 s.n) from rfl)
    have c1 := (RR0.cell 1).trans (show _ = some (Value.int .i64 s.d0.kind) from rfl)
    have c2 := (RR0.cell 2).trans (show _ = some (Value.int .i64 s.d0.side) from rfl)
    have c3 := (RR0.cell 3).trans (show _ = some (Value.int .i64 s.d0.step) from rfl)
    have c4 := (RR0.cell 4).trans (show _ = some (Value.int .i64 s.d1.kind) from rfl)
    have c5 := (RR0.cell 5).trans (show _ = some (Value.int .i64 s.d1.side) from rfl)
    have c6 := (RR0.cell 6).trans (show _ = some (Value.int .i64 s.d1.step) from rfl)
    have d0 := (RR1.cell 0).trans (show _ = some (Value.int .i64 p.a0) from rfl)
    have d1 := (RR1.cell 1).trans (show _ = some (Value.int .i64 p.a1) from rfl)
    have d2 := (RR1.cell 2).trans (show _ = some (Value.int .i64 p.k0.kind) from rfl)
    have d3 := (RR1.cell 3).trans (show _ = some (Value.int .i64 p.k0.len) from rfl)
    have d4 := (RR1.cell 4).trans (show _ = some (Value.int .u64 p.k0.h) from rfl)
    have d5 := (RR1.cell 5).trans (show _ = some (Value.int .u64 p.k0.l) from rfl)
    have d6 := (RR1.cell 6).trans (show _ = some (Value.string ⟨p.k0.path.toArray⟩) from rfl)
    have d7 := (RR1.cell 7).trans (show _ = some (Value.int .i64 p.k1.kind) from rfl)
    have d8 := (RR1.cell 8).trans (show _ = some (Value.int .i64 p.k1.len) from rfl)
    have d9 := (RR1.cell 9).trans (show _ = some (Value.int .u64 p.k1.h) from rfl)
    have d10 := (RR1.cell 10).trans (show _ = some (Value.int .u64 p.k1.l) from rfl)
    have d11 := (RR1.cell 11).trans (show _ = some (Value.string ⟨p.k1.path.toArray⟩) from rfl)
    clear RR0 RR1
    go_enter Try.func25, Try.ntmps25
    go_wp2_with fail
    refine (HR _).mono ?_
    rintro e w3 ⟨rfl, hb⟩
    replace c0 := cell_later hb c0
    replace c1 := cell_later hb c1
    replace c2 := cell_later hb c2
    replace c3 := cell_later hb c3
    replace c4 := cell_later hb c4
    replace c5 := cell_later hb c5
    replace c6 := cell_later hb c6
    replace d0 := cell_later hb d0
    replace d1 := cell_later hb d1
    replace d2 := cell_later hb d2
    replace d3 := cell_later hb d3
    replace d4 := cell_later hb d4
    replace d5 := cell_later hb d5
    replace d6 := cell_later hb d6
    replace d7 := cell_later hb d7
    replace d8 := cell_later hb d8
    replace d9 := cell_later hb d9
    replace d10 := cell_later hb d10
    replace d11 := cell_later hb d11
    replace hb0 := below_step hb0 hb
    clear hb
    have lc := World.block_lt_of_cell? _ _ c0
    dsimp only at lc
    have ld := World.block_lt_of_cell? _ _ d0
    dsimp only at ld
    go_wp2
    go_ret
    exact ⟨rfl, hb0⟩
  | true =>
    rw [h] at HR
    rw [if_pos rfl]
    obtain ⟨g0, g1, g2, g3⟩ := at_range h
    have t1 : IntKind.i64.wrap (p.a0 + p.a1) = p.a0 + p.a1 := IntWalk.i64_in _ (by omega)
    clear h ok g0 g1 g2 g3
    unfold sv pv at *
    obtain ⟨RR0, RR1, hb0⟩ := two_rows w #[.int .i64 s.n, .int .i64 s.d0.kind, .int .i64 s.d0.side, .int .i64 s.d0.step, .int .i64 s.d1.kind, .int .i64 s.d1.side, .int .i64 s.d1.step] #[.int .i64 p.a0, .int .i64 p.a1, .int .i64 p.k0.kind, .int .i64 p.k0.len, .int .u64 p.k0.h, .int .u64 p.k0.l, .string ⟨p.k0.path.toArray⟩, .int .i64 p.k1.kind, .int .i64 p.k1.len, .int .u64 p.k1.h, .int .u64 p.k1.l, .string ⟨p.k1.path.toArray⟩] 26 33
    have c0 := (RR0.cell 0).trans (show _ = some (Value.int .i64 s.n) from rfl)
    have c1 := (RR0.cell 1).trans (show _ = some (Value.int .i64 s.d0.kind) from rfl)
    have c2 := (RR0.cell 2).trans (show _ = some (Value.int .i64 s.d0.side) from rfl)
    have c3 := (RR0.cell 3).trans (show _ = some (Value.int .i64 s.d0.step) from rfl)
    have c4 := (RR0.cell 4).trans (show _ = some (Value.int .i64 s.d1.kind) from rfl)
    have c5 := (RR0.cell 5).trans (show _ = some (Value.int .i64 s.d1.side) from rfl)
    have c6 := (RR0.cell 6).trans (show _ = some (Value.int .i64 s.d1.step) from rfl)
    have d0 := (RR1.cell 0).trans (show _ = some (Value.int .i64 p.a0) from rfl)
    have d1 := (RR1.cell 1).trans (show _ = some (Value.int .i64 p.a1) from rfl)
    have d2 := (RR1.cell 2).trans (show _ = some (Value.int .i64 p.k0.kind) from rfl)
    have d3 := (RR1.cell 3).trans (show _ = some (Value.int .i64 p.k0.len) from rfl)
    have d4 := (RR1.cell 4).trans (show _ = some (Value.int .u64 p.k0.h) from rfl)
    have d5 := (RR1.cell 5).trans (show _ = some (Value.int .u64 p.k0.l) from rfl)
    have d6 := (RR1.cell 6).trans (show _ = some (Value.string ⟨p.k0.path.toArray⟩) from rfl)
    have d7 := (RR1.cell 7).trans (show _ = some (Value.int .i64 p.k1.kind) from rfl)
    have d8 := (RR1.cell 8).trans (show _ = some (Value.int .i64 p.k1.len) from rfl)
    have d9 := (RR1.cell 9).trans (show _ = some (Value.int .u64 p.k1.h) from rfl)
    have d10 := (RR1.cell 10).trans (show _ = some (Value.int .u64 p.k1.l) from rfl)
    have d11 := (RR1.cell 11).trans (show _ = some (Value.string ⟨p.k1.path.toArray⟩) from rfl)
    clear RR0 RR1
    go_enter Try.func25, Try.ntmps25
    go_wp2_with fail
    refine (HR _).mono ?_
    rintro e w4 ⟨rfl, hb⟩
    replace c0 := cell_later hb c0
    replace c1 := cell_later hb c1
    replace c2 := cell_later hb c2
    replace c3 := cell_later hb c3
    replace c4 := cell_later hb c4
    replace c5 := cell_later hb c5
    replace c6 := cell_later hb c6
    replace d0 := cell_later hb d0
    replace d1 := cell_later hb d1
    replace d2 := cell_later hb d2
    replace d3 := cell_later hb d3
    replace d4 := cell_later hb d4
    replace d5 := cell_later hb d5
    replace d6 := cell_later hb d6
    replace d7 := cell_later hb d7
    replace d8 := cell_later hb d8
    replace d9 := cell_later hb d9
    replace d10 := cell_later hb d10
    replace d11 := cell_later hb d11
    replace hb0 := below_step hb0 hb
    clear hb
    have lc := World.block_lt_of_cell? _ _ c0
    dsimp only at lc
    have ld := World.block_lt_of_cell? _ _ d0
    dsimp only at ld
    go_wp2
    go_ret
    exact ⟨rfl, hb0⟩
end Go.Proofs.Ytbekocknfpekoaa
