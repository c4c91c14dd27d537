/- The call of WideBack answers true, whatever the three numbers are. No conditions. -/
import Derived.Test.YtbofnfccejjolaaWideH
namespace Go.Proofs.Ytbofnfccejjolaa
set_option linter.unusedVariables false
set_option linter.unusedSimpArgs false
open Go.RowKit
theorem over_iff (A B : Int) : decide (cmpI ((A + B) % MM) (A % MM) < 0) = addB (A % MM) (B % MM) := by
  rw [cmpI_neg]; unfold addB; rw [decide_eq_decide]; unfold MM; omega
set_option maxRecDepth 100000 in
set_option maxHeartbeats 1600000 in
theorem wideBack_any (A B C : Int) (w : World) :
    Calls Try.prog 6 #[.agg #[.int .u64 (hi A), .int .u64 (lo A)], .agg #[.int .u64 (hi B), .int .u64 (lo B)], .agg #[.int .u64 (hi C), .int .u64 (lo C)]] w fun e w' =>
      e = .returned (.bool true) ∧ Below w.heap.size w w' := by
  have e1 : hi (B + A) = hi (A + B) := by rw [Int.add_comm]
  have e2 : lo (B + A) = lo (A + B) := by rw [Int.add_comm]
  have e3 : hi (A + B - B) = hi A := by congr 1; omega
  have e4 : lo (A + B - B) = lo A := by congr 1; omega
  have e5 : hi (A + (B + C)) = hi (A + B + C) := by congr 1; omega
  have e6 : lo (A + (B + C)) = lo (A + B + C) := by congr 1; omega
  have e7 := over_iff A B
  go_enter Try.func6, Try.ntmps6
  go_wp2_with fail
  refine ((add_h A B _)).mono ?_
  rintro e w1 ⟨rfl, hx1⟩
  have hb1 : Below w.heap.size w w1 := below_step (by repeat (first | exact Below.refl _ _ | assumption | (with_reducible refine Below.setCell ?_ ?h _; case h => first | omega | (simp; done) | (simp; omega)) | (with_reducible refine Below.alloc ?_ ?h _; case h => first | omega | (simp; done) | (simp; omega)) | (with_reducible refine Below.drew ?_) | (with_reducible refine Below.trans ?_ (hb4.mono ?h); case h => first | omega | (simp; done) | (simp; omega)) | (with_reducible refine Below.trans ?_ (hb3.mono ?h); case h => first | omega | (simp; done) | (simp; omega)) | (with_reducible refine Below.trans ?_ (hb2.mono ?h); case h => first | omega | (simp; done) | (simp; omega)) | (with_reducible refine Below.trans ?_ (hb.mono ?h); case h => first | omega | (simp; done) | (simp; omega)) | (with_reducible refine Below.trans ?_ (hb0.mono ?h); case h => first | omega | (simp; done) | (simp; omega)))) hx1
  have a0 := cell_later (a := ⟨w.heap.size, 0, none⟩) hx1 (v := .int .u64 (hi A)) (by simp [go_sem])
  have la0 := World.block_lt_of_cell? _ _ a0; dsimp only at la0
  have a1 := cell_later (a := ⟨w.heap.size, 1, none⟩) hx1 (v := .int .u64 (lo A)) (by simp [go_sem])
  have b0 := cell_later (a := ⟨w.heap.size + 1, 0, none⟩) hx1 (v := .int .u64 (hi B)) (by simp [go_sem])
  have lb0 := World.block_lt_of_cell? _ _ b0; dsimp only at lb0
  have b1 := cell_later (a := ⟨w.heap.size + 1, 1, none⟩) hx1 (v := .int .u64 (lo B)) (by simp [go_sem])
  have c0 := cell_later (a := ⟨w.heap.size + 1 + 1, 0, none⟩) hx1 (v := .int .u64 (hi C)) (by simp [go_sem])
  have lc0 := World.block_lt_of_cell? _ _ c0; dsimp only at lc0
  have c1 := cell_later (a := ⟨w.heap.size + 1 + 1, 1, none⟩) hx1 (v := .int .u64 (lo C)) (by simp [go_sem])
  go_wp2_with fail
  refine ((add_h B A _)).mono ?_
  rintro e w2 ⟨rfl, hx2⟩
  have hb2 : Below w1.heap.size w1 w2 := below_step (by repeat (first | exact Below.refl _ _ | assumption | (with_reducible refine Below.setCell ?_ ?h _; case h => first | omega | (simp; done) | (simp; omega)) | (with_reducible refine Below.alloc ?_ ?h _; case h => first | omega | (simp; done) | (simp; omega)) | (with_reducible refine Below.drew ?_) | (with_reducible refine Below.trans ?_ (hb4.mono ?h); case h => first | omega | (simp; done) | (simp; omega)) | (with_reducible refine Below.trans ?_ (hb3.mono ?h); case h => first | omega | (simp; done) | (simp; omega)) | (with_reducible refine Below.trans ?_ (hb2.mono ?h); case h => first | omega | (simp; done) | (simp; omega)) | (with_reducible refine Below.trans ?_ (hb.mono ?h); case h => first | omega | (simp; done) | (simp; omega)) | (with_reducible refine Below.trans ?_ (hb0.mono ?h); case h => first | omega | (simp; done) | (simp; omega)))) hx2
  replace a0 := cell_later hb2 a0
  replace la0 := World.block_lt_of_cell? _ _ a0; dsimp only at la0
  replace a1 := cell_later hb2 a1
  replace b0 := cell_later hb2 b0
  replace lb0 := World.block_lt_of_cell? _ _ b0; dsimp only at lb0
  replace b1 := cell_later hb2 b1
  replace c0 := cell_later hb2 c0
  replace lc0 := World.block_lt_of_cell? _ _ c0; dsimp only at lc0
  replace c1 := cell_later hb2 c1
  have s0 := cell_later (a := ⟨w1.heap.size, 0, none⟩) hx2 (v := .int .u64 (hi (A + B))) (by simp [go_sem])
  have ls0 := World.block_lt_of_cell? _ _ s0; dsimp only at ls0
  have s1 := cell_later (a := ⟨w1.heap.size, 1, none⟩) hx2 (v := .int .u64 (lo (A + B))) (by simp [go_sem])
  go_wp2_with fail
  refine ((sub_h (A + B) B _)).mono ?_
  rintro e w3 ⟨rfl, hx3⟩
  have hb3 : Below w2.heap.size w2 w3 := below_step (by repeat (first | exact Below.refl _ _ | assumption | (with_reducible refine Below.setCell ?_ ?h _; case h => first | omega | (simp; done) | (simp; omega)) | (with_reducible refine Below.alloc ?_ ?h _; case h => first | omega | (simp; done) | (simp; omega)) | (with_reducible refine Below.drew ?_) | (with_reducible refine Below.trans ?_ (hb4.mono ?h); case h => first | omega | (simp; done) | (simp; omega)) | (with_reducible refine Below.trans ?_ (hb3.mono ?h); case h => first | omega | (simp; done) | (simp; omega)) | (with_reducible refine Below.trans ?_ (hb2.mono ?h); case h => first | omega | (simp; done) | (simp; omega)) | (with_reducible refine Below.trans ?_ (hb.mono ?h); case h => first | omega | (simp; done) | (simp; omega)) | (with_reducible refine Below.trans ?_ (hb0.mono ?h); case h => first | omega | (simp; done) | (simp; omega)))) hx3
  replace a0 := cell_later hb3 a0
  replace la0 := World.block_lt_of_cell? _ _ a0; dsimp only at la0
  replace a1 := cell_later hb3 a1
  replace b0 := cell_later hb3 b0
  replace lb0 := World.block_lt_of_cell? _ _ b0; dsimp only at lb0
  replace b1 := cell_later hb3 b1
  replace c0 := cell_later hb3 c0
  replace lc0 := World.block_lt_of_cell? _ _ c0; dsimp only at lc0
  replace c1 := cell_later hb3 c1
  replace s0 := cell_later hb3 s0
  replace ls0 := World.block_lt_of_cell? _ _ s0; dsimp only at ls0
  replace s1 := cell_later hb3 s1
  have t0 := cell_later (a := ⟨w2.heap.size, 0, none⟩) hx3 (v := .int .u64 (hi (A + B))) (by simp [go_sem])
  have lt0 := World.block_lt_of_cell? _ _ t0; dsimp only at lt0
  have t1 := cell_later (a := ⟨w2.heap.size, 1, none⟩) hx3 (v := .int .u64 (lo (A + B))) (by simp [go_sem])
  go_wp2_with fail
  refine ((add_h (A + B) C _)).mono ?_
  rintro e w4 ⟨rfl, hx4⟩
  have hb4 : Below w3.heap.size w3 w4 := below_step (by repeat (first | exact Below.refl _ _ | assumption | (with_reducible refine Below.setCell ?_ ?h _; case h => first | omega | (simp; done) | (simp; omega)) | (with_reducible refine Below.alloc ?_ ?h _; case h => first | omega | (simp; done) | (simp; omega)) | (with_reducible refine Below.drew ?_) | (with_reducible refine Below.trans ?_ (hb4.mono ?h); case h => first | omega | (simp; done) | (simp; omega)) | (with_reducible refine Below.trans ?_ (hb3.mono ?h); case h => first | omega | (simp; done) | (simp; omega)) | (with_reducible refine Below.trans ?_ (hb2.mono ?h); case h => first | omega | (simp; done) | (simp; omega)) | (with_reducible refine Below.trans ?_ (hb.mono ?h); case h => first | omega | (simp; done) | (simp; omega)) | (with_reducible refine Below.trans ?_ (hb0.mono ?h); case h => first | omega | (simp; done) | (simp; omega)))) hx4
  replace a0 := cell_later hb4 a0
  replace la0 := World.block_lt_of_cell? _ _ a0; dsimp only at la0
  replace a1 := cell_later hb4 a1
  replace b0 := cell_later hb4 b0
  replace lb0 := World.block_lt_of_cell? _ _ b0; dsimp only at lb0
  replace b1 := cell_later hb4 b1
  replace c0 := cell_later hb4 c0
  replace lc0 := World.block_lt_of_cell? _ _ c0; dsimp only at lc0
  replace c1 := cell_later hb4 c1
  replace s0 := cell_later hb4 s0
  replace ls0 := World.block_lt_of_cell? _ _ s0; dsimp only at ls0
  replace s1 := cell_later hb4 s1
  replace t0 := cell_later hb4 t0
  replace lt0 := World.block_lt_of_cell? _ _ t0; dsimp only at lt0
  replace t1 := cell_later hb4 t1
  have d0 := cell_later (a := ⟨w3.heap.size, 0, none⟩) hx4 (v := .int .u64 (hi A)) (by simp [go_sem])
  have ld0 := World.block_lt_of_cell? _ _ d0; dsimp only at ld0
  have d1 := cell_later (a := ⟨w3.heap.size, 1, none⟩) hx4 (v := .int .u64 (lo A)) (by simp [go_sem])
  go_wp2_with fail
  refine ((add_h B C _)).mono ?_
  rintro e w5 ⟨rfl, hx5⟩
  have hb5 : Below w4.heap.size w4 w5 := below_step (by repeat (first | exact Below.refl _ _ | assumption | (with_reducible refine Below.setCell ?_ ?h _; case h => first | omega | (simp; done) | (simp; omega)) | (with_reducible refine Below.alloc ?_ ?h _; case h => first | omega | (simp; done) | (simp; omega)) | (with_reducible refine Below.drew ?_) | (with_reducible refine Below.trans ?_ (hb4.mono ?h); case h => first | omega | (simp; done) | (simp; omega)) | (with_reducible refine Below.trans ?_ (hb3.mono ?h); case h => first | omega | (simp; done) | (simp; omega)) | (with_reducible refine Below.trans ?_ (hb2.mono ?h); case h => first | omega | (simp; done) | (simp; omega)) | (with_reducible refine Below.trans ?_ (hb.mono ?h); case h => first | omega | (simp; done) | (simp; omega)) | (with_reducible refine Below.trans ?_ (hb0.mono ?h); case h => first | omega | (simp; done) | (simp; omega)))) hx5
  replace a0 := cell_later hb5 a0
  replace la0 := World.block_lt_of_cell? _ _ a0; dsimp only at la0
  replace a1 := cell_later hb5 a1
  replace b0 := cell_later hb5 b0
  replace lb0 := World.block_lt_of_cell? _ _ b0; dsimp only at lb0
  replace b1 := cell_later hb5 b1
  replace c0 := cell_later hb5 c0
  replace lc0 := World.block_lt_of_cell? _ _ c0; dsimp only at lc0
  replace c1 := cell_later hb5 c1
  replace s0 := cell_later hb5 s0
  replace ls0 := World.block_lt_of_cell? _ _ s0; dsimp only at ls0
  replace s1 := cell_later hb5 s1
  replace t0 := cell_later hb5 t0
  replace lt0 := World.block_lt_of_cell? _ _ t0; dsimp only at lt0
  replace t1 := cell_later hb5 t1
  replace d0 := cell_later hb5 d0
  replace ld0 := World.block_lt_of_cell? _ _ d0; dsimp only at ld0
  replace d1 := cell_later hb5 d1
  have u0 := cell_later (a := ⟨w4.heap.size, 0, none⟩) hx5 (v := .int .u64 (hi (A + B + C))) (by simp [go_sem])
  have lu0 := World.block_lt_of_cell? _ _ u0; dsimp only at lu0
  have u1 := cell_later (a := ⟨w4.heap.size, 1, none⟩) hx5 (v := .int .u64 (lo (A + B + C))) (by simp [go_sem])
  go_wp2_with fail
  refine ((add_h A (B + C) _)).mono ?_
  rintro e w6 ⟨rfl, hx6⟩
  have hb6 : Below w5.heap.size w5 w6 := below_step (by repeat (first | exact Below.refl _ _ | assumption | (with_reducible refine Below.setCell ?_ ?h _; case h => first | omega | (simp; done) | (simp; omega)) | (with_reducible refine Below.alloc ?_ ?h _; case h => first | omega | (simp; done) | (simp; omega)) | (with_reducible refine Below.drew ?_) | (with_reducible refine Below.trans ?_ (hb4.mono ?h); case h => first | omega | (simp; done) | (simp; omega)) | (with_reducible refine Below.trans ?_ (hb3.mono ?h); case h => first | omega | (simp; done) | (simp; omega)) | (with_reducible refine Below.trans ?_ (hb2.mono ?h); case h => first | omega | (simp; done) | (simp; omega)) | (with_reducible refine Below.trans ?_ (hb.mono ?h); case h => first | omega | (simp; done) | (simp; omega)) | (with_reducible refine Below.trans ?_ (hb0.mono ?h); case h => first | omega | (simp; done) | (simp; omega)))) hx6
  replace a0 := cell_later hb6 a0
  replace la0 := World.block_lt_of_cell? _ _ a0; dsimp only at la0
  replace a1 := cell_later hb6 a1
  replace b0 := cell_later hb6 b0
  replace lb0 := World.block_lt_of_cell? _ _ b0; dsimp only at lb0
  replace b1 := cell_later hb6 b1
  replace c0 := cell_later hb6 c0
  replace lc0 := World.block_lt_of_cell? _ _ c0; dsimp only at lc0
  replace c1 := cell_later hb6 c1
  replace s0 := cell_later hb6 s0
  replace ls0 := World.block_lt_of_cell? _ _ s0; dsimp only at ls0
  replace s1 := cell_later hb6 s1
  replace t0 := cell_later hb6 t0
  replace lt0 := World.block_lt_of_cell? _ _ t0; dsimp only at lt0
  replace t1 := cell_later hb6 t1
  replace d0 := cell_later hb6 d0
  replace ld0 := World.block_lt_of_cell? _ _ d0; dsimp only at ld0
  replace d1 := cell_later hb6 d1
  replace u0 := cell_later hb6 u0
  replace lu0 := World.block_lt_of_cell? _ _ u0; dsimp only at lu0
  replace u1 := cell_later hb6 u1
  go_wp2_with fail
  refine ((alive_any _)).mono ?_
  rintro e w7 ⟨rfl, hx7⟩
  have hb7 : Below w6.heap.size w6 w7 := below_step (by repeat (first | exact Below.refl _ _ | assumption | (with_reducible refine Below.setCell ?_ ?h _; case h => first | omega | (simp; done) | (simp; omega)) | (with_reducible refine Below.alloc ?_ ?h _; case h => first | omega | (simp; done) | (simp; omega)) | (with_reducible refine Below.drew ?_) | (with_reducible refine Below.trans ?_ (hb4.mono ?h); case h => first | omega | (simp; done) | (simp; omega)) | (with_reducible refine Below.trans ?_ (hb3.mono ?h); case h => first | omega | (simp; done) | (simp; omega)) | (with_reducible refine Below.trans ?_ (hb2.mono ?h); case h => first | omega | (simp; done) | (simp; omega)) | (with_reducible refine Below.trans ?_ (hb.mono ?h); case h => first | omega | (simp; done) | (simp; omega)) | (with_reducible refine Below.trans ?_ (hb0.mono ?h); case h => first | omega | (simp; done) | (simp; omega)))) hx7
  replace a0 := cell_later hb7 a0
  replace la0 := World.block_lt_of_cell? _ _ a0; dsimp only at la0
  replace a1 := cell_later hb7 a1
  replace s0 := cell_later hb7 s0
  replace ls0 := World.block_lt_of_cell? _ _ s0; dsimp only at ls0
  replace s1 := cell_later hb7 s1
  replace t0 := cell_later hb7 t0
  replace lt0 := World.block_lt_of_cell? _ _ t0; dsimp only at lt0
  replace t1 := cell_later hb7 t1
  replace d0 := cell_later hb7 d0
  replace ld0 := World.block_lt_of_cell? _ _ d0; dsimp only at ld0
  replace d1 := cell_later hb7 d1
  replace u0 := cell_later hb7 u0
  replace lu0 := World.block_lt_of_cell? _ _ u0; dsimp only at lu0
  replace u1 := cell_later hb7 u1
  have v0 := cell_later (a := ⟨w6.heap.size, 0, none⟩) hx7 (v := .int .u64 (hi (A + B + C))) (by simp [go_sem])
  have lv0 := World.block_lt_of_cell? _ _ v0; dsimp only at lv0
  have v1 := cell_later (a := ⟨w6.heap.size, 1, none⟩) hx7 (v := .int .u64 (lo (A + B + C))) (by simp [go_sem])
  go_wp2_with fail
  refine ((cmp_h (A + B) A _)).mono ?_
  rintro e w8 ⟨rfl, hx8⟩
  have hb8 : Below w7.heap.size w7 w8 := below_step (by repeat (first | exact Below.refl _ _ | assumption | (with_reducible refine Below.setCell ?_ ?h _; case h => first | omega | (simp; done) | (simp; omega)) | (with_reducible refine Below.alloc ?_ ?h _; case h => first | omega | (simp; done) | (simp; omega)) | (with_reducible refine Below.drew ?_) | (with_reducible refine Below.trans ?_ (hb4.mono ?h); case h => first | omega | (simp; done) | (simp; omega)) | (with_reducible refine Below.trans ?_ (hb3.mono ?h); case h => first | omega | (simp; done) | (simp; omega)) | (with_reducible refine Below.trans ?_ (hb2.mono ?h); case h => first | omega | (simp; done) | (simp; omega)) | (with_reducible refine Below.trans ?_ (hb.mono ?h); case h => first | omega | (simp; done) | (simp; omega)) | (with_reducible refine Below.trans ?_ (hb0.mono ?h); case h => first | omega | (simp; done) | (simp; omega)))) hx8
  replace a0 := cell_later hb8 a0
  replace la0 := World.block_lt_of_cell? _ _ a0; dsimp only at la0
  replace a1 := cell_later hb8 a1
  replace s0 := cell_later hb8 s0
  replace ls0 := World.block_lt_of_cell? _ _ s0; dsimp only at ls0
  replace s1 := cell_later hb8 s1
  replace t0 := cell_later hb8 t0
  replace lt0 := World.block_lt_of_cell? _ _ t0; dsimp only at lt0
  replace t1 := cell_later hb8 t1
  replace d0 := cell_later hb8 d0
  replace ld0 := World.block_lt_of_cell? _ _ d0; dsimp only at ld0
  replace d1 := cell_later hb8 d1
  replace u0 := cell_later hb8 u0
  replace lu0 := World.block_lt_of_cell? _ _ u0; dsimp only at lu0
  replace u1 := cell_later hb8 u1
  replace v0 := cell_later hb8 v0
  replace lv0 := World.block_lt_of_cell? _ _ v0; dsimp only at lv0
  replace v1 := cell_later hb8 v1
  go_wp2
  go_ret
  exact ⟨rfl, below_step (below_step (below_step (below_step (below_step (below_step (below_step hb1 hb2) hb3) hb4) hb5) hb6) hb7) hb8⟩
end Go.Proofs.Ytbofnfccejjolaa
