/- R9c: what the theorem needs of these texts. No conditions beyond those that are written. -/
import Derived.Test.YtbekocknfpekoaaBJD9
namespace Go.Proofs.Ytbekocknfpekoaa
set_option linter.unusedVariables false
set_option linter.unusedSimpArgs false
open Go.RowKit
set_option maxRecDepth 100000 in
set_option maxHeartbeats 32000000 in
theorem rover_a (n : Int) (d0 d1 : Dm) (p q : Px) (u0 u1 : Ke)
    (H1 : ∀ w, Calls Try.prog 21 #[sv ⟨n, d0, d1⟩, pv p] w fun e w' => e = .returned (.bool false) ∧ Below w.heap.size w w') (w : World) :
    Calls Try.prog 29 #[sv ⟨n, d0, d1⟩, pv p, pv q] w fun e w' => e = .returned (.bool false) ∧ Below w.heap.size w w' := by
  unfold sv pv at *
  (try unfold dv kv at *)
  (try dsimp only at *)
  obtain ⟨Rc, Ry, Rz, hb0⟩ := three_rows w #[.int .i64 n, .int .i64 d0.kind, .int .i64 d0.side, .int .i64 d0.step, .int .i64 d1.kind, .int .i64 d1.side, .int .i64 d1.step] #[.int .i64 p.a0, .int .i64 p.a1, .int .i64 p.k0.kind, .int .i64 p.k0.len, .int .u64 p.k0.h, .int .u64 p.k0.l, .string ⟨p.k0.path.toArray⟩, .int .i64 p.k1.kind, .int .i64 p.k1.len, .int .u64 p.k1.h, .int .u64 p.k1.l, .string ⟨p.k1.path.toArray⟩] #[.int .i64 q.a0, .int .i64 q.a1, .int .i64 q.k0.kind, .int .i64 q.k0.len, .int .u64 q.k0.h, .int .u64 q.k0.l, .string ⟨q.k0.path.toArray⟩, .int .i64 q.k1.kind, .int .i64 q.k1.len, .int .u64 q.k1.h, .int .u64 q.k1.l, .string ⟨q.k1.path.toArray⟩] 26 33 33
  (try clear c0 c1 c2 c3 c4 c5 c6); obtain ⟨c0, c1, c2, c3, c4, c5, c6⟩ := row7 Rc
  (try clear y0 y1 y2 y3 y4 y5 y6 y7 y8 y9 y10 y11); obtain ⟨y0, y1, y2, y3, y4, y5, y6, y7, y8, y9, y10, y11⟩ := row12 Ry
  (try clear z0 z1 z2 z3 z4 z5 z6 z7 z8 z9 z10 z11); obtain ⟨z0, z1, z2, z3, z4, z5, z6, z7, z8, z9, z10, z11⟩ := row12 Rz
  go_enter Try.func29, Try.ntmps29
  go_wp2_with fail
  refine (H1 _).mono ?_
  rintro e w1 ⟨rfl, hb⟩
  replace Rc := Rc.later hb
  replace Ry := Ry.later hb
  replace Rz := Rz.later hb
  replace hb0 := below_step hb0 hb
  clear hb
  have lc := Rc.lt
  have ly := Ry.lt
  have lz := Rz.lt
  (try clear c0 c1 c2 c3 c4 c5 c6); obtain ⟨c0, c1, c2, c3, c4, c5, c6⟩ := row7 Rc
  (try clear y0 y1 y2 y3 y4 y5 y6 y7 y8 y9 y10 y11); obtain ⟨y0, y1, y2, y3, y4, y5, y6, y7, y8, y9, y10, y11⟩ := row12 Ry
  (try clear z0 z1 z2 z3 z4 z5 z6 z7 z8 z9 z10 z11); obtain ⟨z0, z1, z2, z3, z4, z5, z6, z7, z8, z9, z10, z11⟩ := row12 Rz
  go_wp2
  go_ret
  exact ⟨rfl, hb0⟩
set_option maxRecDepth 100000 in
set_option maxHeartbeats 32000000 in
theorem rover_b (n : Int) (d0 d1 : Dm) (p q : Px) (u0 u1 : Ke)
    (H1 : ∀ w, Calls Try.prog 21 #[sv ⟨n, d0, d1⟩, pv p] w fun e w' => e = .returned (.bool true) ∧ Below w.heap.size w w')
    (H2 : ∀ w, Calls Try.prog 21 #[sv ⟨n, d0, d1⟩, pv q] w fun e w' => e = .returned (.bool false) ∧ Below w.heap.size w w') (w : World) :
    Calls Try.prog 29 #[sv ⟨n, d0, d1⟩, pv p, pv q] w fun e w' => e = .returned (.bool false) ∧ Below w.heap.size w w' := by
  unfold sv pv at *
  (try unfold dv kv at *)
  (try dsimp only at *)
  obtain ⟨Rc, Ry, Rz, hb0⟩ := three_rows w #[.int .i64 n, .int .i64 d0.kind, .int .i64 d0.side, .int .i64 d0.step, .int .i64 d1.kind, .int .i64 d1.side, .int .i64 d1.step] #[.int .i64 p.a0, .int .i64 p.a1, .int .i64 p.k0.kind, .int .i64 p.k0.len, .int .u64 p.k0.h, .int .u64 p.k0.l, .string ⟨p.k0.path.toArray⟩, .int .i64 p.k1.kind, .int .i64 p.k1.len, .int .u64 p.k1.h, .int .u64 p.k1.l, .string ⟨p.k1.path.toArray⟩] #[.int .i64 q.a0, .int .i64 q.a1, .int .i64 q.k0.kind, .int .i64 q.k0.len, .int .u64 q.k0.h, .int .u64 q.k0.l, .string ⟨q.k0.path.toArray⟩, .int .i64 q.k1.kind, .int .i64 q.k1.len, .int .u64 q.k1.h, .int .u64 q.k1.l, .string ⟨q.k1.path.toArray⟩] 26 33 33
  (try clear c0 c1 c2 c3 c4 c5 c6); obtain ⟨c0, c1, c2, c3, c4, c5, c6⟩ := row7 Rc
  (try clear y0 y1 y2 y3 y4 y5 y6 y7 y8 y9 y10 y11); obtain ⟨y0, y1, y2, y3, y4, y5, y6, y7, y8, y9, y10, y11⟩ := row12 Ry
  (try clear z0 z1 z2 z3 z4 z5 z6 z7 z8 z9 z10 z11); obtain ⟨z0, z1, z2, z3, z4, z5, z6, z7, z8, z9, z10, z11⟩ := row12 Rz
  go_enter Try.func29, Try.ntmps29
  go_wp2_with fail
  refine (H1 _).mono ?_
  rintro e w1 ⟨rfl, hb⟩
  replace Rc := Rc.later hb
  replace Ry := Ry.later hb
  replace Rz := Rz.later hb
  replace hb0 := below_step hb0 hb
  clear hb
  have lc := Rc.lt
  have ly := Ry.lt
  have lz := Rz.lt
  (try clear c0 c1 c2 c3 c4 c5 c6); obtain ⟨c0, c1, c2, c3, c4, c5, c6⟩ := row7 Rc
  (try clear y0 y1 y2 y3 y4 y5 y6 y7 y8 y9 y10 y11); obtain ⟨y0, y1, y2, y3, y4, y5, y6, y7, y8, y9, y10, y11⟩ := row12 Ry
  (try clear z0 z1 z2 z3 z4 z5 z6 z7 z8 z9 z10 z11); obtain ⟨z0, z1, z2, z3, z4, z5, z6, z7, z8, z9, z10, z11⟩ := row12 Rz
  go_wp2_with fail
  refine (H2 _).mono ?_
  rintro e w2 ⟨rfl, hb⟩
  replace Rc := Rc.later hb
  replace Ry := Ry.later hb
  replace Rz := Rz.later hb
  replace hb0 := below_step hb0 hb
  clear hb
  have lc := Rc.lt
  have ly := Ry.lt
  have lz := Rz.lt
  (try clear c0 c1 c2 c3 c4 c5 c6); obtain ⟨c0, c1, c2, c3, c4, c5, c6⟩ := row7 Rc
  (try clear y0 y1 y2 y3 y4 y5 y6 y7 y8 y9 y10 y11); obtain ⟨y0, y1, y2, y3, y4, y5, y6, y7, y8, y9, y10, y11⟩ := row12 Ry
  (try clear z0 z1 z2 z3 z4 z5 z6 z7 z8 z9 z10 z11); obtain ⟨z0, z1, z2, z3, z4, z5, z6, z7, z8, z9, z10, z11⟩ := row12 Rz
  go_wp2
  go_ret
  exact ⟨rfl, hb0⟩
set_option maxRecDepth 100000 in
set_option maxHeartbeats 32000000 in
theorem rover_c1 (n : Int) (d0 d1 : Dm) (p q : Px) (u0 u1 : Ke)
    (H1 : ∀ w, Calls Try.prog 21 #[sv ⟨1, d0, d1⟩, pv p] w fun e w' => e = .returned (.bool true) ∧ Below w.heap.size w w')
    (H2 : ∀ w, Calls Try.prog 21 #[sv ⟨1, d0, d1⟩, pv q] w fun e w' => e = .returned (.bool true) ∧ Below w.heap.size w w')
    (g0 : p.a0 < q.a0) (w : World) :
    Calls Try.prog 29 #[sv ⟨1, d0, d1⟩, pv p, pv q] w fun e w' => e = .returned (.bool false) ∧ Below w.heap.size w w' := by
  have g0' : decide (p.a0 < q.a0) = true := decide_eq_true g0
  unfold sv pv at *
  (try unfold dv kv at *)
  (try dsimp only at *)
  obtain ⟨Rc, Ry, Rz, hb0⟩ := three_rows w #[.int .i64 1, .int .i64 d0.kind, .int .i64 d0.side, .int .i64 d0.step, .int .i64 d1.kind, .int .i64 d1.side, .int .i64 d1.step] #[.int .i64 p.a0, .int .i64 p.a1, .int .i64 p.k0.kind, .int .i64 p.k0.len, .int .u64 p.k0.h, .int .u64 p.k0.l, .string ⟨p.k0.path.toArray⟩, .int .i64 p.k1.kind, .int .i64 p.k1.len, .int .u64 p.k1.h, .int .u64 p.k1.l, .string ⟨p.k1.path.toArray⟩] #[.int .i64 q.a0, .int .i64 q.a1, .int .i64 q.k0.kind, .int .i64 q.k0.len, .int .u64 q.k0.h, .int .u64 q.k0.l, .string ⟨q.k0.path.toArray⟩, .int .i64 q.k1.kind, .int .i64 q.k1.len, .int .u64 q.k1.h, .int .u64 q.k1.l, .string ⟨q.k1.path.toArray⟩] 26 33 33
  (try clear c0 c1 c2 c3 c4 c5 c6); obtain ⟨c0, c1, c2, c3, c4, c5, c6⟩ := row7 Rc
  (try clear y0 y1 y2 y3 y4 y5 y6 y7 y8 y9 y10 y11); obtain ⟨y0, y1, y2, y3, y4, y5, y6, y7, y8, y9, y10, y11⟩ := row12 Ry
  (try clear z0 z1 z2 z3 z4 z5 z6 z7 z8 z9 z10 z11); obtain ⟨z0, z1, z2, z3, z4, z5, z6, z7, z8, z9, z10, z11⟩ := row12 Rz
  go_enter Try.func29, Try.ntmps29
  go_wp2_with fail
  refine (H1 _).mono ?_
  rintro e w1 ⟨rfl, hb⟩
  replace Rc := Rc.later hb
  replace Ry := Ry.later hb
  replace Rz := Rz.later hb
  replace hb0 := below_step hb0 hb
  clear hb
  have lc := Rc.lt
  have ly := Ry.lt
  have lz := Rz.lt
  (try clear c0 c1 c2 c3 c4 c5 c6); obtain ⟨c0, c1, c2, c3, c4, c5, c6⟩ := row7 Rc
  (try clear y0 y1 y2 y3 y4 y5 y6 y7 y8 y9 y10 y11); obtain ⟨y0, y1, y2, y3, y4, y5, y6, y7, y8, y9, y10, y11⟩ := row12 Ry
  (try clear z0 z1 z2 z3 z4 z5 z6 z7 z8 z9 z10 z11); obtain ⟨z0, z1, z2, z3, z4, z5, z6, z7, z8, z9, z10, z11⟩ := row12 Rz
  go_wp2_with fail
  refine (H2 _).mono ?_
  rintro e w2 ⟨rfl, hb⟩
  replace Rc := Rc.later hb
  replace Ry := Ry.later hb
  replace Rz := Rz.later hb
  replace hb0 := below_step hb0 hb
  clear hb
  have lc := Rc.lt
  have ly := Ry.lt
  have lz := Rz.lt
  (try clear c0 c1 c2 c3 c4 c5 c6); obtain ⟨c0, c1, c2, c3, c4, c5, c6⟩ := row7 Rc
  (try clear y0 y1 y2 y3 y4 y5 y6 y7 y8 y9 y10 y11); obtain ⟨y0, y1, y2, y3, y4, y5, y6, y7, y8, y9, y10, y11⟩ := row12 Ry
  (try clear z0 z1 z2 z3 z4 z5 z6 z7 z8 z9 z10 z11); obtain ⟨z0, z1, z2, z3, z4, z5, z6, z7, z8, z9, z10, z11⟩ := row12 Rz
  go_wp2_with fail
  refine wp_loop_rounds 3 ?_
  rw [rounds_succ]
  go_wp2_with fail
  refine wp_region_held_drew (S := (fun w' => w'.cell? ⟨w.heap.size + 1, 0, none⟩ = some (Value.int .i64 p.a0) ∧ w'.cell? ⟨w.heap.size + 1 + 1, 0, none⟩ = some (Value.int .i64 q.a0) ∧ w'.cell? ⟨w.heap.size + 1, 2, none⟩ = some (Value.int .i64 p.k0.kind) ∧ w'.cell? ⟨w.heap.size + 1, 3, none⟩ = some (Value.int .i64 p.k0.len) ∧ w'.cell? ⟨w.heap.size + 1, 4, none⟩ = some (Value.int .u64 p.k0.h) ∧ w'.cell? ⟨w.heap.size + 1, 5, none⟩ = some (Value.int .u64 p.k0.l) ∧ w'.cell? ⟨w.heap.size + 1, 6, none⟩ = some (Value.string ⟨p.k0.path.toArray⟩) ∧ w'.cell? ⟨w.heap.size + 1 + 1, 2, none⟩ = some (Value.int .i64 q.k0.kind) ∧ w'.cell? ⟨w.heap.size + 1 + 1, 3, none⟩ = some (Value.int .i64 q.k0.len) ∧ w'.cell? ⟨w.heap.size + 1 + 1, 4, none⟩ = some (Value.int .u64 q.k0.h) ∧ w'.cell? ⟨w.heap.size + 1 + 1, 5, none⟩ = some (Value.int .u64 q.k0.l) ∧ w'.cell? ⟨w.heap.size + 1 + 1, 6, none⟩ = some (Value.string ⟨q.k0.path.toArray⟩) ∧ w'.cell? ⟨w.heap.size, 1, none⟩ = some (Value.int .i64 d0.kind) ∧ w'.cell? ⟨w.heap.size, 2, none⟩ = some (Value.int .i64 d0.side) ∧ w'.cell? ⟨w.heap.size, 3, none⟩ = some (Value.int .i64 d0.step))) (by kernel_rfl) ?hSr66_ (fun hHeld => ?_)
  case hSr66_ => (exact ⟨y0, z0, y2, y3, y4, y5, y6, z2, z3, z4, z5, z6, c1, c2, c3⟩)
  (clear c0 c1 c2 c3 c4 c5 c6 y0 y1 y2 y3 y4 y5 y6 y7 y8 y9 y10 y11 z0 z1 z2 z3 z4 z5 z6 z7 z8 z9 z10 z11; (replace Rc := Rc.drew); (replace Ry := Ry.drew); (replace Rz := Rz.drew); (replace hb0 := hb0.drew); (generalize World.drew w2 = wq at *))
  refine tk 0 ⟨some 24, .move (.tmp 7), 3, _, _, _⟩ hHeld ?_
  (try simp only [Act.put, nz1, nz2, nz3])
  refine tk 1 ⟨some 25, .fieldAddr 33 (.tmp 4) 0, 0, _, _, _⟩ hHeld ?_
  (try simp only [Act.put, nz1, nz2, nz3])
  refine tk 2 ⟨some 26, .indexAddr 27 (.tmp 25) (.tmp 24), 0, _, _, _⟩ hHeld ?_
  (try simp only [Act.put, nz1, nz2, nz3])
  refine tk 3 ⟨some 27, .load 3 (.tmp 26), 3, _, _, _⟩ hHeld ?_
  (try simp only [Act.put, nz1, nz2, nz3])
  refine tk 4 ⟨some 28, .move (.tmp 7), 3, _, _, _⟩ hHeld ?_
  (try simp only [Act.put, nz1, nz2, nz3])
  refine tk 5 ⟨some 29, .fieldAddr 33 (.tmp 5) 0, 0, _, _, _⟩ hHeld ?_
  (try simp only [Act.put, nz1, nz2, nz3])
  refine tk 6 ⟨some 30, .indexAddr 27 (.tmp 29) (.tmp 28), 0, _, _, _⟩ hHeld ?_
  (try simp only [Act.put, nz1, nz2, nz3])
  refine tk 7 ⟨some 31, .load 3 (.tmp 30), 3, _, _, _⟩ hHeld ?_
  (try simp only [Act.put, nz1, nz2, nz3])
  refine tk 8 ⟨some 32, .binOp .lss 3 (.tmp 27) (.tmp 31) 3, 4, _, _, _⟩ hHeld ?_
  (try simp only [Act.put, nz1, nz2, nz3])
  refine tk 9 ⟨some 33, .move (.tmp 32), 4, _, _, _⟩ hHeld ?_
  (try simp only [Act.put, nz1, nz2, nz3])
  refine ts 10 ⟨some 34, .move (.tmp 7), 3, _, _, _⟩ hHeld ?_
  (try simp only [Act.put, nz1, nz2, nz3])
  refine ts 11 ⟨some 35, .fieldAddr 33 (.tmp 4) 1, 0, _, _, _⟩ hHeld ?_
  (try simp only [Act.put, nz1, nz2, nz3])
  refine ts 12 ⟨some 36, .indexAddr 31 (.tmp 35) (.tmp 34), 0, _, _, _⟩ hHeld ?_
  (try simp only [Act.put, nz1, nz2, nz3])
  refine ts 13 ⟨some 37, .load 30 (.tmp 36), 30, _, _, _⟩ hHeld ?_
  (try simp only [Act.put, nz1, nz2, nz3])
  refine ts 14 ⟨some 38, .move (.tmp 7), 3, _, _, _⟩ hHeld ?_
  (try simp only [Act.put, nz1, nz2, nz3])
  refine ts 15 ⟨some 39, .fieldAddr 26 (.tmp 3) 1, 0, _, _, _⟩ hHeld ?_
  (try simp only [Act.put, nz1, nz2, nz3])
  refine ts 16 ⟨some 40, .indexAddr 24 (.tmp 39) (.tmp 38), 0, _, _, _⟩ hHeld ?_
  (try simp only [Act.put, nz1, nz2, nz3])
  refine ts 17 ⟨some 41, .load 23 (.tmp 40), 23, _, _, _⟩ hHeld ?_
  (try simp only [Act.put, nz1, nz2, nz3])
  refine ts 18 ⟨some 42, .move (.tmp 7), 3, _, _, _⟩ hHeld ?_
  (try simp only [Act.put, nz1, nz2, nz3])
  refine ts 19 ⟨some 43, .fieldAddr 33 (.tmp 4) 0, 0, _, _, _⟩ hHeld ?_
  (try simp only [Act.put, nz1, nz2, nz3])
  refine ts 20 ⟨some 44, .indexAddr 27 (.tmp 43) (.tmp 42), 0, _, _, _⟩ hHeld ?_
  (try simp only [Act.put, nz1, nz2, nz3])
  refine ts 21 ⟨some 45, .load 3 (.tmp 44), 3, _, _, _⟩ hHeld ?_
  (try simp only [Act.put, nz1, nz2, nz3])
  refine ts 22 ⟨some 46, .move (.tmp 7), 3, _, _, _⟩ hHeld ?_
  (try simp only [Act.put, nz1, nz2, nz3])
  refine ts 23 ⟨some 47, .fieldAddr 33 (.tmp 5) 1, 0, _, _, _⟩ hHeld ?_
  (try simp only [Act.put, nz1, nz2, nz3])
  refine ts 24 ⟨some 48, .indexAddr 31 (.tmp 47) (.tmp 46), 0, _, _, _⟩ hHeld ?_
  (try simp only [Act.put, nz1, nz2, nz3])
  refine ts 25 ⟨some 49, .load 30 (.tmp 48), 30, _, _, _⟩ hHeld ?_
  (try simp only [Act.put, nz1, nz2, nz3])
  refine ts 26 ⟨some 50, .call { callee := .value (.func 62), args := #[.tmp 41, .tmp 45, .tmp 49], argTypes := #[23, 3, 30] }, 30, _, _, _⟩ hHeld ?_
  (try simp only [Act.put, nz1, nz2, nz3])
  refine ts 27 ⟨some 51, .binOp .neq 30 (.tmp 37) (.tmp 50) 30, 4, _, _, _⟩ hHeld ?_
  (try simp only [Act.put, nz1, nz2, nz3])
  refine tk 28 ⟨some 52, .pick (.tmp 33) (.const (.bool true)) (.tmp 51), 4, _, _, _⟩ hHeld ?_
  (try simp only [Act.put, nz1, nz2, nz3])
  refine wpAnyH_done (by kernel_rfl) ?_ _
  clear hHeld
  rename World => w3
  have lc := Rc.lt
  have ly := Ry.lt
  have lz := Rz.lt
  (try clear c0 c1 c2 c3 c4 c5 c6); obtain ⟨c0, c1, c2, c3, c4, c5, c6⟩ := row7 Rc
  (try clear y0 y1 y2 y3 y4 y5 y6 y7 y8 y9 y10 y11); obtain ⟨y0, y1, y2, y3, y4, y5, y6, y7, y8, y9, y10, y11⟩ := row12 Ry
  (try clear z0 z1 z2 z3 z4 z5 z6 z7 z8 z9 z10 z11); obtain ⟨z0, z1, z2, z3, z4, z5, z6, z7, z8, z9, z10, z11⟩ := row12 Rz
  go_wp2
  go_ret
  exact ⟨rfl, hb0⟩
set_option maxRecDepth 100000 in
set_option maxHeartbeats 32000000 in
theorem rover_d1 (n : Int) (d0 d1 : Dm) (p q : Px) (u0 u1 : Ke)
    (H1 : ∀ w, Calls Try.prog 21 #[sv ⟨1, d0, d1⟩, pv p] w fun e w' => e = .returned (.bool true) ∧ Below w.heap.size w w')
    (H2 : ∀ w, Calls Try.prog 21 #[sv ⟨1, d0, d1⟩, pv q] w fun e w' => e = .returned (.bool true) ∧ Below w.heap.size w w')
    (g0 : ¬ p.a0 < q.a0)
    (HC0 : ∀ w, Calls Try.prog 62 #[dv d0, .int .i64 p.a0, kv q.k0] w fun e w' => e = .returned (kv u0) ∧ Below w.heap.size w w')
    (e0 : eqK p.k0.kind p.k0.len p.k0.h p.k0.l ⟨p.k0.path.toArray⟩ u0.kind u0.len u0.h u0.l ⟨u0.path.toArray⟩ = false) (w : World) :
    Calls Try.prog 29 #[sv ⟨1, d0, d1⟩, pv p, pv q] w fun e w' => e = .returned (.bool false) ∧ Below w.heap.size w w' := by
  have g0' : decide (p.a0 < q.a0) = false := decide_eq_false g0
  have n0 := fun w1 => neq_key p.k0.kind p.k0.len p.k0.h p.k0.l ⟨p.k0.path.toArray⟩ u0.kind u0.len u0.h u0.l ⟨u0.path.toArray⟩ w1
  simp only [e0] at n0
  unfold sv pv at *
  (try unfold dv kv at *)
  (try dsimp only at *)
  obtain ⟨Rc, Ry, Rz, hb0⟩ := three_rows w #[.int .i64 1, .int .i64 d0.kind, .int .i64 d0.side, .int .i64 d0.step, .int .i64 d1.kind, .int .i64 d1.side, .int .i64 d1.step] #[.int .i64 p.a0, .int .i64 p.a1, .int .i64 p.k0.kind, .int .i64 p.k0.len, .int .u64 p.k0.h, .int .u64 p.k0.l, .string ⟨p.k0.path.toArray⟩, .int .i64 p.k1.kind, .int .i64 p.k1.len, .int .u64 p.k1.h, .int .u64 p.k1.l, .string ⟨p.k1.path.toArray⟩] #[.int .i64 q.a0, .int .i64 q.a1, .int .i64 q.k0.kind, .int .i64 q.k0.len, .int .u64 q.k0.h, .int .u64 q.k0.l, .string ⟨q.k0.path.toArray⟩, .int .i64 q.k1.kind, .int .i64 q.k1.len, .int .u64 q.k1.h, .int .u64 q.k1.l, .string ⟨q.k1.path.toArray⟩] 26 33 33
  (try clear c0 c1 c2 c3 c4 c5 c6); obtain ⟨c0, c1, c2, c3, c4, c5, c6⟩ := row7 Rc
  (try clear y0 y1 y2 y3 y4 y5 y6 y7 y8 y9 y10 y11); obtain ⟨y0, y1, y2, y3, y4, y5, y6, y7, y8, y9, y10, y11⟩ := row12 Ry
  (try clear z0 z1 z2 z3 z4 z5 z6 z7 z8 z9 z10 z11); obtain ⟨z0, z1, z2, z3, z4, z5, z6, z7, z8, z9, z10, z11⟩ := row12 Rz
  go_enter Try.func29, Try.ntmps29
  go_wp2_with fail
  refine (H1 _).mono ?_
  rintro e w1 ⟨rfl, hb⟩
  replace Rc := Rc.later hb
  replace Ry := Ry.later hb
  replace Rz := Rz.later hb
  replace hb0 := below_step hb0 hb
  clear hb
  have lc := Rc.lt
  have ly := Ry.lt
  have lz := Rz.lt
  (try clear c0 c1 c2 c3 c4 c5 c6); obtain ⟨c0, c1, c2, c3, c4, c5, c6⟩ := row7 Rc
  (try clear y0 y1 y2 y3 y4 y5 y6 y7 y8 y9 y10 y11); obtain ⟨y0, y1, y2, y3, y4, y5, y6, y7, y8, y9, y10, y11⟩ := row12 Ry
  (try clear z0 z1 z2 z3 z4 z5 z6 z7 z8 z9 z10 z11); obtain ⟨z0, z1, z2, z3, z4, z5, z6, z7, z8, z9, z10, z11⟩ := row12 Rz
  go_wp2_with fail
  refine (H2 _).mono ?_
  rintro e w2 ⟨rfl, hb⟩
  replace Rc := Rc.later hb
  replace Ry := Ry.later hb
  replace Rz := Rz.later hb
  replace hb0 := below_step hb0 hb
  clear hb
  have lc := Rc.lt
  have ly := Ry.lt
  have lz := Rz.lt
  (try clear c0 c1 c2 c3 c4 c5 c6); obtain ⟨c0, c1, c2, c3, c4, c5, c6⟩ := row7 Rc
  (try clear y0 y1 y2 y3 y4 y5 y6 y7 y8 y9 y10 y11); obtain ⟨y0, y1, y2, y3, y4, y5, y6, y7, y8, y9, y10, y11⟩ := row12 Ry
  (try clear z0 z1 z2 z3 z4 z5 z6 z7 z8 z9 z10 z11); obtain ⟨z0, z1, z2, z3, z4, z5, z6, z7, z8, z9, z10, z11⟩ := row12 Rz
  go_wp2_with fail
  refine wp_loop_rounds 3 ?_
  rw [rounds_succ]
  go_wp2_with fail
  refine wp_region_held_drew (S := (fun w' => w'.cell? ⟨w.heap.size + 1, 0, none⟩ = some (Value.int .i64 p.a0) ∧ w'.cell? ⟨w.heap.size + 1 + 1, 0, none⟩ = some (Value.int .i64 q.a0) ∧ w'.cell? ⟨w.heap.size + 1, 2, none⟩ = some (Value.int .i64 p.k0.kind) ∧ w'.cell? ⟨w.heap.size + 1, 3, none⟩ = some (Value.int .i64 p.k0.len) ∧ w'.cell? ⟨w.heap.size + 1, 4, none⟩ = some (Value.int .u64 p.k0.h) ∧ w'.cell? ⟨w.heap.size + 1, 5, none⟩ = some (Value.int .u64 p.k0.l) ∧ w'.cell? ⟨w.heap.size + 1, 6, none⟩ = some (Value.string ⟨p.k0.path.toArray⟩) ∧ w'.cell? ⟨w.heap.size + 1 + 1, 2, none⟩ = some (Value.int .i64 q.k0.kind) ∧ w'.cell? ⟨w.heap.size + 1 + 1, 3, none⟩ = some (Value.int .i64 q.k0.len) ∧ w'.cell? ⟨w.heap.size + 1 + 1, 4, none⟩ = some (Value.int .u64 q.k0.h) ∧ w'.cell? ⟨w.heap.size + 1 + 1, 5, none⟩ = some (Value.int .u64 q.k0.l) ∧ w'.cell? ⟨w.heap.size + 1 + 1, 6, none⟩ = some (Value.string ⟨q.k0.path.toArray⟩) ∧ w'.cell? ⟨w.heap.size, 1, none⟩ = some (Value.int .i64 d0.kind) ∧ w'.cell? ⟨w.heap.size, 2, none⟩ = some (Value.int .i64 d0.side) ∧ w'.cell? ⟨w.heap.size, 3, none⟩ = some (Value.int .i64 d0.step))) (by kernel_rfl) ?hSr67_ (fun hHeld => ?_)
  case hSr67_ => (exact ⟨y0, z0, y2, y3, y4, y5, y6, z2, z3, z4, z5, z6, c1, c2, c3⟩)
  (clear c0 c1 c2 c3 c4 c5 c6 y0 y1 y2 y3 y4 y5 y6 y7 y8 y9 y10 y11 z0 z1 z2 z3 z4 z5 z6 z7 z8 z9 z10 z11; (replace Rc := Rc.drew); (replace Ry := Ry.drew); (replace Rz := Rz.drew); (replace hb0 := hb0.drew); (generalize World.drew w2 = wq at *))
  refine tk 0 ⟨some 24, .move (.tmp 7), 3, _, _, _⟩ hHeld ?_
  (try simp only [Act.put, nz1, nz2, nz3])
  refine tk 1 ⟨some 25, .fieldAddr 33 (.tmp 4) 0, 0, _, _, _⟩ hHeld ?_
  (try simp only [Act.put, nz1, nz2, nz3])
  refine tk 2 ⟨some 26, .indexAddr 27 (.tmp 25) (.tmp 24), 0, _, _, _⟩ hHeld ?_
  (try simp only [Act.put, nz1, nz2, nz3])
  refine tk 3 ⟨some 27, .load 3 (.tmp 26), 3, _, _, _⟩ hHeld ?_
  (try simp only [Act.put, nz1, nz2, nz3])
  refine tk 4 ⟨some 28, .move (.tmp 7), 3, _, _, _⟩ hHeld ?_
  (try simp only [Act.put, nz1, nz2, nz3])
  refine tk 5 ⟨some 29, .fieldAddr 33 (.tmp 5) 0, 0, _, _, _⟩ hHeld ?_
  (try simp only [Act.put, nz1, nz2, nz3])
  refine tk 6 ⟨some 30, .indexAddr 27 (.tmp 29) (.tmp 28), 0, _, _, _⟩ hHeld ?_
  (try simp only [Act.put, nz1, nz2, nz3])
  refine tk 7 ⟨some 31, .load 3 (.tmp 30), 3, _, _, _⟩ hHeld ?_
  (try simp only [Act.put, nz1, nz2, nz3])
  refine tk 8 ⟨some 32, .binOp .lss 3 (.tmp 27) (.tmp 31) 3, 4, _, _, _⟩ hHeld ?_
  (try simp only [Act.put, nz1, nz2, nz3])
  refine tk 9 ⟨some 33, .move (.tmp 32), 4, _, _, _⟩ hHeld ?_
  (try simp only [Act.put, nz1, nz2, nz3])
  refine tk 10 ⟨some 34, .move (.tmp 7), 3, _, _, _⟩ hHeld ?_
  (try simp only [Act.put, nz1, nz2, nz3])
  refine tk 11 ⟨some 35, .fieldAddr 33 (.tmp 4) 1, 0, _, _, _⟩ hHeld ?_
  (try simp only [Act.put, nz1, nz2, nz3])
  refine tk 12 ⟨some 36, .indexAddr 31 (.tmp 35) (.tmp 34), 0, _, _, _⟩ hHeld ?_
  (try simp only [Act.put, nz1, nz2, nz3])
  refine tk 13 ⟨some 37, .load 30 (.tmp 36), 30, _, _, _⟩ hHeld ?_
  (try simp only [Act.put, nz1, nz2, nz3])
  refine tk 14 ⟨some 38, .move (.tmp 7), 3, _, _, _⟩ hHeld ?_
  (try simp only [Act.put, nz1, nz2, nz3])
  refine tk 15 ⟨some 39, .fieldAddr 26 (.tmp 3) 1, 0, _, _, _⟩ hHeld ?_
  (try simp only [Act.put, nz1, nz2, nz3])
  refine tk 16 ⟨some 40, .indexAddr 24 (.tmp 39) (.tmp 38), 0, _, _, _⟩ hHeld ?_
  (try simp only [Act.put, nz1, nz2, nz3])
  refine tk 17 ⟨some 41, .load 23 (.tmp 40), 23, _, _, _⟩ hHeld ?_
  (try simp only [Act.put, nz1, nz2, nz3])
  refine tk 18 ⟨some 42, .move (.tmp 7), 3, _, _, _⟩ hHeld ?_
  (try simp only [Act.put, nz1, nz2, nz3])
  refine tk 19 ⟨some 43, .fieldAddr 33 (.tmp 4) 0, 0, _, _, _⟩ hHeld ?_
  (try simp only [Act.put, nz1, nz2, nz3])
  refine tk 20 ⟨some 44, .indexAddr 27 (.tmp 43) (.tmp 42), 0, _, _, _⟩ hHeld ?_
  (try simp only [Act.put, nz1, nz2, nz3])
  refine tk 21 ⟨some 45, .load 3 (.tmp 44), 3, _, _, _⟩ hHeld ?_
  (try simp only [Act.put, nz1, nz2, nz3])
  refine tk 22 ⟨some 46, .move (.tmp 7), 3, _, _, _⟩ hHeld ?_
  (try simp only [Act.put, nz1, nz2, nz3])
  refine tk 23 ⟨some 47, .fieldAddr 33 (.tmp 5) 1, 0, _, _, _⟩ hHeld ?_
  (try simp only [Act.put, nz1, nz2, nz3])
  refine tk 24 ⟨some 48, .indexAddr 31 (.tmp 47) (.tmp 46), 0, _, _, _⟩ hHeld ?_
  (try simp only [Act.put, nz1, nz2, nz3])
  refine tk 25 ⟨some 49, .load 30 (.tmp 48), 30, _, _, _⟩ hHeld ?_
  (try simp only [Act.put, nz1, nz2, nz3])
  refine wpAnyH_ready (rs := [26]) (by kernel_rfl) (by simp) ?_
  refine AllReadyH.cons (o := ⟨some 50, .call { callee := .value (.func 62), args := #[.tmp 41, .tmp 45, .tmp 49], argTypes := #[23, 3, 30] }, 30, _, _, _⟩) rfl (fun K hK => ?_) AllReadyH.nil
  (go_simp; (refine (HC0 _).mono ?_); (rintro e wz ⟨rfl, hb⟩); (replace Rc := Rc.later hb); (replace Ry := Ry.later hb); (replace Rz := Rz.later hb); (replace hb0 := below_step hb0 hb); go_wp2_with fail)
  refine hK.out _ _ ?hSr67_27_26 (fun hHeld2 => ?_)
  case hSr67_27_26 => (obtain ⟨y0, z0, y2, y3, y4, y5, y6, z2, z3, z4, z5, z6, c1, c2, c3⟩ := hHeld; exact ⟨cell_later hb y0, cell_later hb z0, cell_later hb y2, cell_later hb y3, cell_later hb y4, cell_later hb y5, cell_later hb y6, cell_later hb z2, cell_later hb z3, cell_later hb z4, cell_later hb z5, cell_later hb z6, cell_later hb c1, cell_later hb c2, cell_later hb c3⟩)
  clear hK K hHeld
  have hHeld := hHeld2
  clear hHeld2
  rename World => wq
  (try simp only [Act.put, nz1, nz2, nz3])
  refine tk 27 ⟨some 51, .binOp .neq 30 (.tmp 37) (.tmp 50) 30, 4, _, _, _⟩ hHeld ?_
  (try simp only [Act.put, nz1, nz2, nz3])
  refine tk 28 ⟨some 52, .pick (.tmp 33) (.const (.bool true)) (.tmp 51), 4, _, _, _⟩ hHeld ?_
  (try simp only [Act.put, nz1, nz2, nz3])
  refine wpAnyH_done (by kernel_rfl) ?_ _
  clear hHeld
  rename World => w3
  have lc := Rc.lt
  have ly := Ry.lt
  have lz := Rz.lt
  (try clear c0 c1 c2 c3 c4 c5 c6); obtain ⟨c0, c1, c2, c3, c4, c5, c6⟩ := row7 Rc
  (try clear y0 y1 y2 y3 y4 y5 y6 y7 y8 y9 y10 y11); obtain ⟨y0, y1, y2, y3, y4, y5, y6, y7, y8, y9, y10, y11⟩ := row12 Ry
  (try clear z0 z1 z2 z3 z4 z5 z6 z7 z8 z9 z10 z11); obtain ⟨z0, z1, z2, z3, z4, z5, z6, z7, z8, z9, z10, z11⟩ := row12 Rz
  go_wp2
  go_ret
  exact ⟨rfl, hb0⟩
set_option maxRecDepth 100000 in
set_option maxHeartbeats 32000000 in
theorem rover_e1 (n : Int) (d0 d1 : Dm) (p q : Px) (u0 u1 : Ke)
    (H1 : ∀ w, Calls Try.prog 21 #[sv ⟨1, d0, d1⟩, pv p] w fun e w' => e = .returned (.bool true) ∧ Below w.heap.size w w')
    (H2 : ∀ w, Calls Try.prog 21 #[sv ⟨1, d0, d1⟩, pv q] w fun e w' => e = .returned (.bool true) ∧ Below w.heap.size w w')
    (g0 : ¬ p.a0 < q.a0)
    (HC0 : ∀ w, Calls Try.prog 62 #[dv d0, .int .i64 p.a0, kv q.k0] w fun e w' => e = .returned (kv u0) ∧ Below w.heap.size w w')
    (e0 : eqK p.k0.kind p.k0.len p.k0.h p.k0.l ⟨p.k0.path.toArray⟩ u0.kind u0.len u0.h u0.l ⟨u0.path.toArray⟩ = true) (w : World) :
    Calls Try.prog 29 #[sv ⟨1, d0, d1⟩, pv p, pv q] w fun e w' => e = .returned (.bool true) ∧ Below w.heap.size w w' := by
  have g0' : decide (p.a0 < q.a0) = false := decide_eq_false g0
  have n0 := fun w1 => neq_key p.k0.kind p.k0.len p.k0.h p.k0.l ⟨p.k0.path.toArray⟩ u0.kind u0.len u0.h u0.l ⟨u0.path.toArray⟩ w1
  simp only [e0] at n0
  unfold sv pv at *
  (try unfold dv kv at *)
  (try dsimp only at *)
  obtain ⟨Rc, Ry, Rz, hb0⟩ := three_rows w #[.int .i64 1, .int .i64 d0.kind, .int .i64 d0.side, .int .i64 d0.step, .int .i64 d1.kind, .int .i64 d1.side, .int .i64 d1.step] #[.int .i64 p.a0, .int .i64 p.a1, .int .i64 p.k0.kind, .int .i64 p.k0.len, .int .u64 p.k0.h, .int .u64 p.k0.l, .string ⟨p.k0.path.toArray⟩, .int .i64 p.k1.kind, .int .i64 p.k1.len, .int .u64 p.k1.h, .int .u64 p.k1.l, .string ⟨p.k1.path.toArray⟩] #[.int .i64 q.a0, .int .i64 q.a1, .int .i64 q.k0.kind, .int .i64 q.k0.len, .int .u64 q.k0.h, .int .u64 q.k0.l, .string ⟨q.k0.path.toArray⟩, .int .i64 q.k1.kind, .int .i64 q.k1.len, .int .u64 q.k1.h, .int .u64 q.k1.l, .string ⟨q.k1.path.toArray⟩] 26 33 33
  (try clear c0 c1 c2 c3 c4 c5 c6); obtain ⟨c0, c1, c2, c3, c4, c5, c6⟩ := row7 Rc
  (try clear y0 y1 y2 y3 y4 y5 y6 y7 y8 y9 y10 y11); obtain ⟨y0, y1, y2, y3, y4, y5, y6, y7, y8, y9, y10, y11⟩ := row12 Ry
  (try clear z0 z1 z2 z3 z4 z5 z6 z7 z8 z9 z10 z11); obtain ⟨z0, z1, z2, z3, z4, z5, z6, z7, z8, z9, z10, z11⟩ := row12 Rz
  go_enter Try.func29, Try.ntmps29
  go_wp2_with fail
  refine (H1 _).mono ?_
  rintro e w1 ⟨rfl, hb⟩
  replace Rc := Rc.later hb
  replace Ry := Ry.later hb
  replace Rz := Rz.later hb
  replace hb0 := below_step hb0 hb
  clear hb
  have lc := Rc.lt
  have ly := Ry.lt
  have lz := Rz.lt
  (try clear c0 c1 c2 c3 c4 c5 c6); obtain ⟨c0, c1, c2, c3, c4, c5, c6⟩ := row7 Rc
  (try clear y0 y1 y2 y3 y4 y5 y6 y7 y8 y9 y10 y11); obtain ⟨y0, y1, y2, y3, y4, y5, y6, y7, y8, y9, y10, y11⟩ := row12 Ry
  (try clear z0 z1 z2 z3 z4 z5 z6 z7 z8 z9 z10 z11); obtain ⟨z0, z1, z2, z3, z4, z5, z6, z7, z8, z9, z10, z11⟩ := row12 Rz
  go_wp2_with fail
  refine (H2 _).mono ?_
  rintro e w2 ⟨rfl, hb⟩
  replace Rc := Rc.later hb
  replace Ry := Ry.later hb
  replace Rz := Rz.later hb
  replace hb0 := below_step hb0 hb
  clear hb
  have lc := Rc.lt
  have ly := Ry.lt
  have lz := Rz.lt
  (try clear c0 c1 c2 c3 c4 c5 c6); obtain ⟨c0, c1, c2, c3, c4, c5, c6⟩ := row7 Rc
  (try clear y0 y1 y2 y3 y4 y5 y6 y7 y8 y9 y10 y11); obtain ⟨y0, y1, y2, y3, y4, y5, y6, y7, y8, y9, y10, y11⟩ := row12 Ry
  (try clear z0 z1 z2 z3 z4 z5 z6 z7 z8 z9 z10 z11); obtain ⟨z0, z1, z2, z3, z4, z5, z6, z7, z8, z9, z10, z11⟩ := row12 Rz
  go_wp2_with fail
  refine wp_loop_rounds 3 ?_
  rw [rounds_succ]
  go_wp2_with fail
  refine wp_region_held_drew (S := (fun w' => w'.cell? ⟨w.heap.size + 1, 0, none⟩ = some (Value.int .i64 p.a0) ∧ w'.cell? ⟨w.heap.size + 1 + 1, 0, none⟩ = some (Value.int .i64 q.a0) ∧ w'.cell? ⟨w.heap.size + 1, 2, none⟩ = some (Value.int .i64 p.k0.kind) ∧ w'.cell? ⟨w.heap.size + 1, 3, none⟩ = some (Value.int .i64 p.k0.len) ∧ w'.cell? ⟨w.heap.size + 1, 4, none⟩ = some (Value.int .u64 p.k0.h) ∧ w'.cell? ⟨w.heap.size + 1, 5, none⟩ = some (Value.int .u64 p.k0.l) ∧ w'.cell? ⟨w.heap.size + 1, 6, none⟩ = some (Value.string ⟨p.k0.path.toArray⟩) ∧ w'.cell? ⟨w.heap.size + 1 + 1, 2, none⟩ = some (Value.int .i64 q.k0.kind) ∧ w'.cell? ⟨w.heap.size + 1 + 1, 3, none⟩ = some (Value.int .i64 q.k0.len) ∧ w'.cell? ⟨w.heap.size + 1 + 1, 4, none⟩ = some (Value.int .u64 q.k0.h) ∧ w'.cell? ⟨w.heap.size + 1 + 1, 5, none⟩ = some (Value.int .u64 q.k0.l) ∧ w'.cell? ⟨w.heap.size + 1 + 1, 6, none⟩ = some (Value.string ⟨q.k0.path.toArray⟩) ∧ w'.cell? ⟨w.heap.size, 1, none⟩ = some (Value.int .i64 d0.kind) ∧ w'.cell? ⟨w.heap.size, 2, none⟩ = some (Value.int .i64 d0.side) ∧ w'.cell? ⟨w.heap.size, 3, none⟩ = some (Value.int .i64 d0.step))) (by kernel_rfl) ?hSr68_ (fun hHeld => ?_)
  case hSr68_ => (exact ⟨y0, z0, y2, y3, y4, y5, y6, z2, z3, z4, z5, z6, c1, c2, c3⟩)
  (clear c0 c1 c2 c3 c4 c5 c6 y0 y1 y2 y3 y4 y5 y6 y7 y8 y9 y10 y11 z0 z1 z2 z3 z4 z5 z6 z7 z8 z9 z10 z11; (replace Rc := Rc.drew); (replace Ry := Ry.drew); (replace Rz := Rz.drew); (replace hb0 := hb0.drew); (generalize World.drew w2 = wq at *))
  refine tk 0 ⟨some 24, .move (.tmp 7), 3, _, _, _⟩ hHeld ?_
  (try simp only [Act.put, nz1, nz2, nz3])
  refine tk 1 ⟨some 25, .fieldAddr 33 (.tmp 4) 0, 0, _, _, _⟩ hHeld ?_
  (try simp only [Act.put, nz1, nz2, nz3])
  refine tk 2 ⟨some 26, .indexAddr 27 (.tmp 25) (.tmp 24), 0, _, _, _⟩ hHeld ?_
  (try simp only [Act.put, nz1, nz2, nz3])
  refine tk 3 ⟨some 27, .load 3 (.tmp 26), 3, _, _, _⟩ hHeld ?_
  (try simp only [Act.put, nz1, nz2, nz3])
  refine tk 4 ⟨some 28, .move (.tmp 7), 3, _, _, _⟩ hHeld ?_
  (try simp only [Act.put, nz1, nz2, nz3])
  refine tk 5 ⟨some 29, .fieldAddr 33 (.tmp 5) 0, 0, _, _, _⟩ hHeld ?_
  (try simp only [Act.put, nz1, nz2, nz3])
  refine tk 6 ⟨some 30, .indexAddr 27 (.tmp 29) (.tmp 28), 0, _, _, _⟩ hHeld ?_
  (try simp only [Act.put, nz1, nz2, nz3])
  refine tk 7 ⟨some 31, .load 3 (.tmp 30), 3, _, _, _⟩ hHeld ?_
  (try simp only [Act.put, nz1, nz2, nz3])
  refine tk 8 ⟨some 32, .binOp .lss 3 (.tmp 27) (.tmp 31) 3, 4, _, _, _⟩ hHeld ?_
  (try simp only [Act.put, nz1, nz2, nz3])
  refine tk 9 ⟨some 33, .move (.tmp 32), 4, _, _, _⟩ hHeld ?_
  (try simp only [Act.put, nz1, nz2, nz3])
  refine tk 10 ⟨some 34, .move (.tmp 7), 3, _, _, _⟩ hHeld ?_
  (try simp only [Act.put, nz1, nz2, nz3])
  refine tk 11 ⟨some 35, .fieldAddr 33 (.tmp 4) 1, 0, _, _, _⟩ hHeld ?_
  (try simp only [Act.put, nz1, nz2, nz3])
  refine tk 12 ⟨some 36, .indexAddr 31 (.tmp 35) (.tmp 34), 0, _, _, _⟩ hHeld ?_
  (try simp only [Act.put, nz1, nz2, nz3])
  refine tk 13 ⟨some 37, .load 30 (.tmp 36), 30, _, _, _⟩ hHeld ?_
  (try simp only [Act.put, nz1, nz2, nz3])
  refine tk 14 ⟨some 38, .move (.tmp 7), 3, _, _, _⟩ hHeld ?_
  (try simp only [Act.put, nz1, nz2, nz3])
  refine tk 15 ⟨some 39, .fieldAddr 26 (.tmp 3) 1, 0, _, _, _⟩ hHeld ?_
  (try simp only [Act.put, nz1, nz2, nz3])
  refine tk 16 ⟨some 40, .indexAddr 24 (.tmp 39) (.tmp 38), 0, _, _, _⟩ hHeld ?_
  (try simp only [Act.put, nz1, nz2, nz3])
  refine tk 17 ⟨some 41, .load 23 (.tmp 40), 23, _, _, _⟩ hHeld ?_
  (try simp only [Act.put, nz1, nz2, nz3])
  refine tk 18 ⟨some 42, .move (.tmp 7), 3, _, _, _⟩ hHeld ?_
  (try simp only [Act.put, nz1, nz2, nz3])
  refine tk 19 ⟨some 43, .fieldAddr 33 (.tmp 4) 0, 0, _, _, _⟩ hHeld ?_
  (try simp only [Act.put, nz1, nz2, nz3])
  refine tk 20 ⟨some 44, .indexAddr 27 (.tmp 43) (.tmp 42), 0, _, _, _⟩ hHeld ?_
  (try simp only [Act.put, nz1, nz2, nz3])
  refine tk 21 ⟨some 45, .load 3 (.tmp 44), 3, _, _, _⟩ hHeld ?_
  (try simp only [Act.put, nz1, nz2, nz3])
  refine tk 22 ⟨some 46, .move (.tmp 7), 3, _, _, _⟩ hHeld ?_
  (try simp only [Act.put, nz1, nz2, nz3])
  refine tk 23 ⟨some 47, .fieldAddr 33 (.tmp 5) 1, 0, _, _, _⟩ hHeld ?_
  (try simp only [Act.put, nz1, nz2, nz3])
  refine tk 24 ⟨some 48, .indexAddr 31 (.tmp 47) (.tmp 46), 0, _, _, _⟩ hHeld ?_
  (try simp only [Act.put, nz1, nz2, nz3])
  refine tk 25 ⟨some 49, .load 30 (.tmp 48), 30, _, _, _⟩ hHeld ?_
  (try simp only [Act.put, nz1, nz2, nz3])
  refine wpAnyH_ready (rs := [26]) (by kernel_rfl) (by simp) ?_
  refine AllReadyH.cons (o := ⟨some 50, .call { callee := .value (.func 62), args := #[.tmp 41, .tmp 45, .tmp 49], argTypes := #[23, 3, 30] }, 30, _, _, _⟩) rfl (fun K hK => ?_) AllReadyH.nil
  (go_simp; (refine (HC0 _).mono ?_); (rintro e wz ⟨rfl, hb⟩); (replace Rc := Rc.later hb); (replace Ry := Ry.later hb); (replace Rz := Rz.later hb); (replace hb0 := below_step hb0 hb); go_wp2_with fail)
  refine hK.out _ _ ?hSr68_27_26 (fun hHeld2 => ?_)
  case hSr68_27_26 => (obtain ⟨y0, z0, y2, y3, y4, y5, y6, z2, z3, z4, z5, z6, c1, c2, c3⟩ := hHeld; exact ⟨cell_later hb y0, cell_later hb z0, cell_later hb y2, cell_later hb y3, cell_later hb y4, cell_later hb y5, cell_later hb y6, cell_later hb z2, cell_later hb z3, cell_later hb z4, cell_later hb z5, cell_later hb z6, cell_later hb c1, cell_later hb c2, cell_later hb c3⟩)
  clear hK K hHeld
  have hHeld := hHeld2
  clear hHeld2
  rename World => wq
  (try simp only [Act.put, nz1, nz2, nz3])
  refine tk 27 ⟨some 51, .binOp .neq 30 (.tmp 37) (.tmp 50) 30, 4, _, _, _⟩ hHeld ?_
  (try simp only [Act.put, nz1, nz2, nz3])
  refine tk 28 ⟨some 52, .pick (.tmp 33) (.const (.bool true)) (.tmp 51), 4, _, _, _⟩ hHeld ?_
  (try simp only [Act.put, nz1, nz2, nz3])
  refine wpAnyH_done (by kernel_rfl) ?_ _
  clear hHeld
  rename World => w3
  have lc := Rc.lt
  have ly := Ry.lt
  have lz := Rz.lt
  (try clear c0 c1 c2 c3 c4 c5 c6); obtain ⟨c0, c1, c2, c3, c4, c5, c6⟩ := row7 Rc
  (try clear y0 y1 y2 y3 y4 y5 y6 y7 y8 y9 y10 y11); obtain ⟨y0, y1, y2, y3, y4, y5, y6, y7, y8, y9, y10, y11⟩ := row12 Ry
  (try clear z0 z1 z2 z3 z4 z5 z6 z7 z8 z9 z10 z11); obtain ⟨z0, z1, z2, z3, z4, z5, z6, z7, z8, z9, z10, z11⟩ := row12 Rz
  go_wp2_with fail
  rw [rounds_succ]
  go_wp2
  go_ret
  exact ⟨rfl, hb0⟩
set_option maxRecDepth 100000 in
set_option maxHeartbeats 32000000 in
theorem rover_c2 (n : Int) (d0 d1 : Dm) (p q : Px) (u0 u1 : Ke)
    (H1 : ∀ w, Calls Try.prog 21 #[sv ⟨2, d0, d1⟩, pv p] w fun e w' => e = .returned (.bool true) ∧ Below w.heap.size w w')
    (H2 : ∀ w, Calls Try.prog 21 #[sv ⟨2, d0, d1⟩, pv q] w fun e w' => e = .returned (.bool true) ∧ Below w.heap.size w w')
    (g0 : p.a0 < q.a0) (w : World) :
    Calls Try.prog 29 #[sv ⟨2, d0, d1⟩, pv p, pv q] w fun e w' => e = .returned (.bool false) ∧ Below w.heap.size w w' := by
  have g0' : decide (p.a0 < q.a0) = true := decide_eq_true g0
  unfold sv pv at *
  (try unfold dv kv at *)
  (try dsimp only at *)
  obtain ⟨Rc, Ry, Rz, hb0⟩ := three_rows w #[.int .i64 2, .int .i64 d0.kind, .int .i64 d0.side, .int .i64 d0.step, .int .i64 d1.kind, .int .i64 d1.side, .int .i64 d1.step] #[.int .i64 p.a0, .int .i64 p.a1, .int .i64 p.k0.kind, .int .i64 p.k0.len, .int .u64 p.k0.h, .int .u64 p.k0.l, .string ⟨p.k0.path.toArray⟩, .int .i64 p.k1.kind, .int .i64 p.k1.len, .int .u64 p.k1.h, .int .u64 p.k1.l, .string ⟨p.k1.path.toArray⟩] #[.int .i64 q.a0, .int .i64 q.a1, .int .i64 q.k0.kind, .int .i64 q.k0.len, .int .u64 q.k0.h, .int .u64 q.k0.l, .string ⟨q.k0.path.toArray⟩, .int .i64 q.k1.kind, .int .i64 q.k1.len, .int .u64 q.k1.h, .int .u64 q.k1.l, .string ⟨q.k1.path.toArray⟩] 26 33 33
  (try clear c0 c1 c2 c3 c4 c5 c6); obtain ⟨c0, c1, c2, c3, c4, c5, c6⟩ := row7 Rc
  (try clear y0 y1 y2 y3 y4 y5 y6 y7 y8 y9 y10 y11); obtain ⟨y0, y1, y2, y3, y4, y5, y6, y7, y8, y9, y10, y11⟩ := row12 Ry
  (try clear z0 z1 z2 z3 z4 z5 z6 z7 z8 z9 z10 z11); obtain ⟨z0, z1, z2, z3, z4, z5, z6, z7, z8, z9, z10, z11⟩ := row12 Rz
  go_enter Try.func29, Try.ntmps29
  go_wp2_with fail
  refine (H1 _).mono ?_
  rintro e w1 ⟨rfl, hb⟩
  replace Rc := Rc.later hb
  replace Ry := Ry.later hb
  replace Rz := Rz.later hb
  replace hb0 := below_step hb0 hb
  clear hb
  have lc := Rc.lt
  have ly := Ry.lt
  have lz := Rz.lt
  (try clear c0 c1 c2 c3 c4 c5 c6); obtain ⟨c0, c1, c2, c3, c4, c5, c6⟩ := row7 Rc
  (try clear y0 y1 y2 y3 y4 y5 y6 y7 y8 y9 y10 y11); obtain ⟨y0, y1, y2, y3, y4, y5, y6, y7, y8, y9, y10, y11⟩ := row12 Ry
  (try clear z0 z1 z2 z3 z4 z5 z6 z7 z8 z9 z10 z11); obtain ⟨z0, z1, z2, z3, z4, z5, z6, z7, z8, z9, z10, z11⟩ := row12 Rz
  go_wp2_with fail
  refine (H2 _).mono ?_
  rintro e w2 ⟨rfl, hb⟩
  replace Rc := Rc.later hb
  replace Ry := Ry.later hb
  replace Rz := Rz.later hb
  replace hb0 := below_step hb0 hb
  clear hb
  have lc := Rc.lt
  have ly := Ry.lt
  have lz := Rz.lt
  (try clear c0 c1 c2 c3 c4 c5 c6); obtain ⟨c0, c1, c2, c3, c4, c5, c6⟩ := row7 Rc
  (try clear y0 y1 y2 y3 y4 y5 y6 y7 y8 y9 y10 y11); obtain ⟨y0, y1, y2, y3, y4, y5, y6, y7, y8, y9, y10, y11⟩ := row12 Ry
  (try clear z0 z1 z2 z3 z4 z5 z6 z7 z8 z9 z10 z11); obtain ⟨z0, z1, z2, z3, z4, z5, z6, z7, z8, z9, z10, z11⟩ := row12 Rz
  go_wp2_with fail
  refine wp_loop_rounds 3 ?_
  rw [rounds_succ]
  go_wp2_with fail
  refine wp_region_held_drew (S := (fun w' => w'.cell? ⟨w.heap.size + 1, 0, none⟩ = some (Value.int .i64 p.a0) ∧ w'.cell? ⟨w.heap.size + 1 + 1, 0, none⟩ = some (Value.int .i64 q.a0) ∧ w'.cell? ⟨w.heap.size + 1, 2, none⟩ = some (Value.int .i64 p.k0.kind) ∧ w'.cell? ⟨w.heap.size + 1, 3, none⟩ = some (Value.int .i64 p.k0.len) ∧ w'.cell? ⟨w.heap.size + 1, 4, none⟩ = some (Value.int .u64 p.k0.h) ∧ w'.cell? ⟨w.heap.size + 1, 5, none⟩ = some (Value.int .u64 p.k0.l) ∧ w'.cell? ⟨w.heap.size + 1, 6, none⟩ = some (Value.string ⟨p.k0.path.toArray⟩) ∧ w'.cell? ⟨w.heap.size + 1 + 1, 2, none⟩ = some (Value.int .i64 q.k0.kind) ∧ w'.cell? ⟨w.heap.size + 1 + 1, 3, none⟩ = some (Value.int .i64 q.k0.len) ∧ w'.cell? ⟨w.heap.size + 1 + 1, 4, none⟩ = some (Value.int .u64 q.k0.h) ∧ w'.cell? ⟨w.heap.size + 1 + 1, 5, none⟩ = some (Value.int .u64 q.k0.l) ∧ w'.cell? ⟨w.heap.size + 1 + 1, 6, none⟩ = some (Value.string ⟨q.k0.path.toArray⟩) ∧ w'.cell? ⟨w.heap.size, 1, none⟩ = some (Value.int .i64 d0.kind) ∧ w'.cell? ⟨w.heap.size, 2, none⟩ = some (Value.int .i64 d0.side) ∧ w'.cell? ⟨w.heap.size, 3, none⟩ = some (Value.int .i64 d0.step))) (by kernel_rfl) ?hSr69_ (fun hHeld => ?_)
  case hSr69_ => (exact ⟨y0, z0, y2, y3, y4, y5, y6, z2, z3, z4, z5, z6, c1, c2, c3⟩)
  (clear c0 c1 c2 c3 c4 c5 c6 y0 y1 y2 y3 y4 y5 y6 y7 y8 y9 y10 y11 z0 z1 z2 z3 z4 z5 z6 z7 z8 z9 z10 z11; (replace Rc := Rc.drew); (replace Ry := Ry.drew); (replace Rz := Rz.drew); (replace hb0 := hb0.drew); (generalize World.drew w2 = wq at *))
  refine tk 0 ⟨some 24, .move (.tmp 7), 3, _, _, _⟩ hHeld ?_
  (try simp only [Act.put, nz1, nz2, nz3])
  refine tk 1 ⟨some 25, .fieldAddr 33 (.tmp 4) 0, 0, _, _, _⟩ hHeld ?_
  (try simp only [Act.put, nz1, nz2, nz3])
  refine tk 2 ⟨some 26, .indexAddr 27 (.tmp 25) (.tmp 24), 0, _, _, _⟩ hHeld ?_
  (try simp only [Act.put, nz1, nz2, nz3])
  refine tk 3 ⟨some 27, .load 3 (.tmp 26), 3, _, _, _⟩ hHeld ?_
  (try simp only [Act.put, nz1, nz2, nz3])
  refine tk 4 ⟨some 28, .move (.tmp 7), 3, _, _, _⟩ hHeld ?_
  (try simp only [Act.put, nz1, nz2, nz3])
  refine tk 5 ⟨some 29, .fieldAddr 33 (.tmp 5) 0, 0, _, _, _⟩ hHeld ?_
  (try simp only [Act.put, nz1, nz2, nz3])
  refine tk 6 ⟨some 30, .indexAddr 27 (.tmp 29) (.tmp 28), 0, _, _, _⟩ hHeld ?_
  (try simp only [Act.put, nz1, nz2, nz3])
  refine tk 7 ⟨some 31, .load 3 (.tmp 30), 3, _, _, _⟩ hHeld ?_
  (try simp only [Act.put, nz1, nz2, nz3])
  refine tk 8 ⟨some 32, .binOp .lss 3 (.tmp 27) (.tmp 31) 3, 4, _, _, _⟩ hHeld ?_
  (try simp only [Act.put, nz1, nz2, nz3])
  refine tk 9 ⟨some 33, .move (.tmp 32), 4, _, _, _⟩ hHeld ?_
  (try simp only [Act.put, nz1, nz2, nz3])
  refine ts 10 ⟨some 34, .move (.tmp 7), 3, _, _, _⟩ hHeld ?_
  (try simp only [Act.put, nz1, nz2, nz3])
  refine ts 11 ⟨some 35, .fieldAddr 33 (.tmp 4) 1, 0, _, _, _⟩ hHeld ?_
  (try simp only [Act.put, nz1, nz2, nz3])
  refine ts 12 ⟨some 36, .indexAddr 31 (.tmp 35) (.tmp 34), 0, _, _, _⟩ hHeld ?_
  (try simp only [Act.put, nz1, nz2, nz3])
  refine ts 13 ⟨some 37, .load 30 (.tmp 36), 30, _, _, _⟩ hHeld ?_
  (try simp only [Act.put, nz1, nz2, nz3])
  refine ts 14 ⟨some 38, .move (.tmp 7), 3, _, _, _⟩ hHeld ?_
  (try simp only [Act.put, nz1, nz2, nz3])
  refine ts 15 ⟨some 39, .fieldAddr 26 (.tmp 3) 1, 0, _, _, _⟩ hHeld ?_
  (try simp only [Act.put, nz1, nz2, nz3])
  refine ts 16 ⟨some 40, .indexAddr 24 (.tmp 39) (.tmp 38), 0, _, _, _⟩ hHeld ?_
  (try simp only [Act.put, nz1, nz2, nz3])
  refine ts 17 ⟨some 41, .load 23 (.tmp 40), 23, _, _, _⟩ hHeld ?_
  (try simp only [Act.put, nz1, nz2, nz3])
  refine ts 18 ⟨some 42, .move (.tmp 7), 3, _, _, _⟩ hHeld ?_
  (try simp only [Act.put, nz1, nz2, nz3])
  refine ts 19 ⟨some 43, .fieldAddr 33 (.tmp 4) 0, 0, _, _, _⟩ hHeld ?_
  (try simp only [Act.put, nz1, nz2, nz3])
  refine ts 20 ⟨some 44, .indexAddr 27 (.tmp 43) (.tmp 42), 0, _, _, _⟩ hHeld ?_
  (try simp only [Act.put, nz1, nz2, nz3])
  refine ts 21 ⟨some 45, .load 3 (.tmp 44), 3, _, _, _⟩ hHeld ?_
  (try simp only [Act.put, nz1, nz2, nz3])
  refine ts 22 ⟨some 46, .move (.tmp 7), 3, _, _, _⟩ hHeld ?_
  (try simp only [Act.put, nz1, nz2, nz3])
  refine ts 23 ⟨some 47, .fieldAddr 33 (.tmp 5) 1, 0, _, _, _⟩ hHeld ?_
  (try simp only [Act.put, nz1, nz2, nz3])
  refine ts 24 ⟨some 48, .indexAddr 31 (.tmp 47) (.tmp 46), 0, _, _, _⟩ hHeld ?_
  (try simp only [Act.put, nz1, nz2, nz3])
  refine ts 25 ⟨some 49, .load 30 (.tmp 48), 30, _, _, _⟩ hHeld ?_
  (try simp only [Act.put, nz1, nz2, nz3])
  refine ts 26 ⟨some 50, .call { callee := .value (.func 62), args := #[.tmp 41, .tmp 45, .tmp 49], argTypes := #[23, 3, 30] }, 30, _, _, _⟩ hHeld ?_
  (try simp only [Act.put, nz1, nz2, nz3])
  refine ts 27 ⟨some 51, .binOp .neq 30 (.tmp 37) (.tmp 50) 30, 4, _, _, _⟩ hHeld ?_
  (try simp only [Act.put, nz1, nz2, nz3])
  refine tk 28 ⟨some 52, .pick (.tmp 33) (.const (.bool true)) (.tmp 51), 4, _, _, _⟩ hHeld ?_
  (try simp only [Act.put, nz1, nz2, nz3])
  refine wpAnyH_done (by kernel_rfl) ?_ _
  clear hHeld
  rename World => w3
  have lc := Rc.lt
  have ly := Ry.lt
  have lz := Rz.lt
  (try clear c0 c1 c2 c3 c4 c5 c6); obtain ⟨c0, c1, c2, c3, c4, c5, c6⟩ := row7 Rc
  (try clear y0 y1 y2 y3 y4 y5 y6 y7 y8 y9 y10 y11); obtain ⟨y0, y1, y2, y3, y4, y5, y6, y7, y8, y9, y10, y11⟩ := row12 Ry
  (try clear z0 z1 z2 z3 z4 z5 z6 z7 z8 z9 z10 z11); obtain ⟨z0, z1, z2, z3, z4, z5, z6, z7, z8, z9, z10, z11⟩ := row12 Rz
  go_wp2
  go_ret
  exact ⟨rfl, hb0⟩
set_option maxRecDepth 100000 in
set_option maxHeartbeats 32000000 in
theorem rover_d2 (n : Int) (d0 d1 : Dm) (p q : Px) (u0 u1 : Ke)
    (H1 : ∀ w, Calls Try.prog 21 #[sv ⟨2, d0, d1⟩, pv p] w fun e w' => e = .returned (.bool true) ∧ Below w.heap.size w w')
    (H2 : ∀ w, Calls Try.prog 21 #[sv ⟨2, d0, d1⟩, pv q] w fun e w' => e = .returned (.bool true) ∧ Below w.heap.size w w')
    (g0 : ¬ p.a0 < q.a0)
    (HC0 : ∀ w, Calls Try.prog 62 #[dv d0, .int .i64 p.a0, kv q.k0] w fun e w' => e = .returned (kv u0) ∧ Below w.heap.size w w')
    (e0 : eqK p.k0.kind p.k0.len p.k0.h p.k0.l ⟨p.k0.path.toArray⟩ u0.kind u0.len u0.h u0.l ⟨u0.path.toArray⟩ = false) (w : World) :
    Calls Try.prog 29 #[sv ⟨2, d0, d1⟩, pv p, pv q] w fun e w' => e = .returned (.bool false) ∧ Below w.heap.size w w' := by
  have g0' : decide (p.a0 < q.a0) = false := decide_eq_false g0
  have n0 := fun w1 => neq_key p.k0.kind p.k0.len p.k0.h p.k0.l ⟨p.k0.path.toArray⟩ u0.kind u0.len u0.h u0.l ⟨u0.path.toArray⟩ w1
  simp only [e0] at n0
  unfold sv pv at *
  (try unfold dv kv at *)
  (try dsimp only at *)
  obtain ⟨Rc, Ry, Rz, hb0⟩ := three_rows w #[.int .i64 2, .int .i64 d0.kind, .int .i64 d0.side, .int .i64 d0.step, .int .i64 d1.kind, .int .i64 d1.side, .int .i64 d1.step] #[.int .i64 p.a0, .int .i64 p.a1, .int .i64 p.k0.kind, .int .i64 p.k0.len, .int .u64 p.k0.h, .int .u64 p.k0.l, .string ⟨p.k0.path.toArray⟩, .int .i64 p.k1.kind, .int .i64 p.k1.len, .int .u64 p.k1.h, .int .u64 p.k1.l, .string ⟨p.k1.path.toArray⟩] #[.int .i64 q.a0, .int .i64 q.a1, .int .i64 q.k0.kind, .int .i64 q.k0.len, .int .u64 q.k0.h, .int .u64 q.k0.l, .string ⟨q.k0.path.toArray⟩, .int .i64 q.k1.kind, .int .i64 q.k1.len, .int .u64 q.k1.h, .int .u64 q.k1.l, .string ⟨q.k1.path.toArray⟩] 26 33 33
  (try clear c0 c1 c2 c3 c4 c5 c6); obtain ⟨c0, c1, c2, c3, c4, c5, c6⟩ := row7 Rc
  (try clear y0 y1 y2 y3 y4 y5 y6 y7 y8 y9 y10 y11); obtain ⟨y0, y1, y2, y3, y4, y5, y6, y7, y8, y9, y10, y11⟩ := row12 Ry
  (try clear z0 z1 z2 z3 z4 z5 z6 z7 z8 z9 z10 z11); obtain ⟨z0, z1, z2, z3, z4, z5, z6, z7, z8, z9, z10, z11⟩ := row12 Rz
  go_enter Try.func29, Try.ntmps29
  go_wp2_with fail
  refine (H1 _).mono ?_
  rintro e w1 ⟨rfl, hb⟩
  replace Rc := Rc.later hb
  replace Ry := Ry.later hb
  replace Rz := Rz.later hb
  replace hb0 := below_step hb0 hb
  clear hb
  have lc := Rc.lt
  have ly := Ry.lt
  have lz := Rz.lt
  (try clear c0 c1 c2 c3 c4 c5 c6); obtain ⟨c0, c1, c2, c3, c4, c5, c6⟩ := row7 Rc
  (try clear y0 y1 y2 y3 y4 y5 y6 y7 y8 y9 y10 y11); obtain ⟨y0, y1, y2, y3, y4, y5, y6, y7, y8, y9, y10, y11⟩ := row12 Ry
  (try clear z0 z1 z2 z3 z4 z5 z6 z7 z8 z9 z10 z11); obtain ⟨z0, z1, z2, z3, z4, z5, z6, z7, z8, z9, z10, z11⟩ := row12 Rz
  go_wp2_with fail
  refine (H2 _).mono ?_
  rintro e w2 ⟨rfl, hb⟩
  replace Rc := Rc.later hb
  replace Ry := Ry.later hb
  replace Rz := Rz.later hb
  replace hb0 := below_step hb0 hb
  clear hb
  have lc := Rc.lt
  have ly := Ry.lt
  have lz := Rz.lt
  (try clear c0 c1 c2 c3 c4 c5 c6); obtain ⟨c0, c1, c2, c3, c4, c5, c6⟩ := row7 Rc
  (try clear y0 y1 y2 y3 y4 y5 y6 y7 y8 y9 y10 y11); obtain ⟨y0, y1, y2, y3, y4, y5, y6, y7, y8, y9, y10, y11⟩ := row12 Ry
  (try clear z0 z1 z2 z3 z4 z5 z6 z7 z8 z9 z10 z11); obtain ⟨z0, z1, z2, z3, z4, z5, z6, z7, z8, z9, z10, z11⟩ := row12 Rz
  go_wp2_with fail
  refine wp_loop_rounds 3 ?_
  rw [rounds_succ]
  go_wp2_with fail
  refine wp_region_held_drew (S := (fun w' => w'.cell? ⟨w.heap.size + 1, 0, none⟩ = some (Value.int .i64 p.a0) ∧ w'.cell? ⟨w.heap.size + 1 + 1, 0, none⟩ = some (Value.int .i64 q.a0) ∧ w'.cell? ⟨w.heap.size + 1, 2, none⟩ = some (Value.int .i64 p.k0.kind) ∧ w'.cell? ⟨w.heap.size + 1, 3, none⟩ = some (Value.int .i64 p.k0.len) ∧ w'.cell? ⟨w.heap.size + 1, 4, none⟩ = some (Value.int .u64 p.k0.h) ∧ w'.cell? ⟨w.heap.size + 1, 5, none⟩ = some (Value.int .u64 p.k0.l) ∧ w'.cell? ⟨w.heap.size + 1, 6, none⟩ = some (Value.string ⟨p.k0.path.toArray⟩) ∧ w'.cell? ⟨w.heap.size + 1 + 1, 2, none⟩ = some (Value.int .i64 q.k0.kind) ∧ w'.cell? ⟨w.heap.size + 1 + 1, 3, none⟩ = some (Value.int .i64 q.k0.len) ∧ w'.cell? ⟨w.heap.size + 1 + 1, 4, none⟩ = some (Value.int .u64 q.k0.h) ∧ w'.cell? ⟨w.heap.size + 1 + 1, 5, none⟩ = some (Value.int .u64 q.k0.l) ∧ w'.cell? ⟨w.heap.size + 1 + 1, 6, none⟩ = some (Value.string ⟨q.k0.path.toArray⟩) ∧ w'.cell? ⟨w.heap.size, 1, none⟩ = some (Value.int .i64 d0.kind) ∧ w'.cell? ⟨w.heap.size, 2, none⟩ = some (Value.int .i64 d0.side) ∧ w'.cell? ⟨w.heap.size, 3, none⟩ = some (Value.int .i64 d0.step))) (by kernel_rfl) ?hSr70_ (fun hHeld => ?_)
  case hSr70_ => (exact ⟨y0, z0, y2, y3, y4, y5, y6, z2, z3, z4, z5, z6, c1, c2, c3⟩)
  (clear c0 c1 c2 c3 c4 c5 c6 y0 y1 y2 y3 y4 y5 y6 y7 y8 y9 y10 y11 z0 z1 z2 z3 z4 z5 z6 z7 z8 z9 z10 z11; (replace Rc := Rc.drew); (replace Ry := Ry.drew); (replace Rz := Rz.drew); (replace hb0 := hb0.drew); (generalize World.drew w2 = wq at *))
  refine tk 0 ⟨some 24, .move (.tmp 7), 3, _, _, _⟩ hHeld ?_
  (try simp only [Act.put, nz1, nz2, nz3])
  refine tk 1 ⟨some 25, .fieldAddr 33 (.tmp 4) 0, 0, _, _, _⟩ hHeld ?_
  (try simp only [Act.put, nz1, nz2, nz3])
  refine tk 2 ⟨some 26, .indexAddr 27 (.tmp 25) (.tmp 24), 0, _, _, _⟩ hHeld ?_
  (try simp only [Act.put, nz1, nz2, nz3])
  refine tk 3 ⟨some 27, .load 3 (.tmp 26), 3, _, _, _⟩ hHeld ?_
  (try simp only [Act.put, nz1, nz2, nz3])
  refine tk 4 ⟨some 28, .move (.tmp 7), 3, _, _, _⟩ hHeld ?_
  (try simp only [Act.put, nz1, nz2, nz3])
  refine tk 5 ⟨some 29, .fieldAddr 33 (.tmp 5) 0, 0, _, _, _⟩ hHeld ?_
  (try simp only [Act.put, nz1, nz2, nz3])
  refine tk 6 ⟨some 30, .indexAddr 27 (.tmp 29) (.tmp 28), 0, _, _, _⟩ hHeld ?_
  (try simp only [Act.put, nz1, nz2, nz3])
  refine tk 7 ⟨some 31, .load 3 (.tmp 30), 3, _, _, _⟩ hHeld ?_
  (try simp only [Act.put, nz1, nz2, nz3])
  refine tk 8 ⟨some 32, .binOp .lss 3 (.tmp 27) (.tmp 31) 3, 4, _, _, _⟩ hHeld ?_
  (try simp only [Act.put, nz1, nz2, nz3])
  refine tk 9 ⟨some 33, .move (.tmp 32), 4, _, _, _⟩ hHeld ?_
  (try simp only [Act.put, nz1, nz2, nz3])
  refine tk 10 ⟨some 34, .move (.tmp 7), 3, _, _, _⟩ hHeld ?_
  (try simp only [Act.put, nz1, nz2, nz3])
  refine tk 11 ⟨some 35, .fieldAddr 33 (.tmp 4) 1, 0, _, _, _⟩ hHeld ?_
  (try simp only [Act.put, nz1, nz2, nz3])
  refine tk 12 ⟨some 36, .indexAddr 31 (.tmp 35) (.tmp 34), 0, _, _, _⟩ hHeld ?_
  (try simp only [Act.put, nz1, nz2, nz3])
  refine tk 13 ⟨some 37, .load 30 (.tmp 36), 30, _, _, _⟩ hHeld ?_
  (try simp only [Act.put, nz1, nz2, nz3])
  refine tk 14 ⟨some 38, .move (.tmp 7), 3, _, _, _⟩ hHeld ?_
  (try simp only [Act.put, nz1, nz2, nz3])
  refine tk 15 ⟨some 39, .fieldAddr 26 (.tmp 3) 1, 0, _, _, _⟩ hHeld ?_
  (try simp only [Act.put, nz1, nz2, nz3])
  refine tk 16 ⟨some 40, .indexAddr 24 (.tmp 39) (.tmp 38), 0, _, _, _⟩ hHeld ?_
  (try simp only [Act.put, nz1, nz2, nz3])
  refine tk 17 ⟨some 41, .load 23 (.tmp 40), 23, _, _, _⟩ hHeld ?_
  (try simp only [Act.put, nz1, nz2, nz3])
  refine tk 18 ⟨some 42, .move (.tmp 7), 3, _, _, _⟩ hHeld ?_
  (try simp only [Act.put, nz1, nz2, nz3])
  refine tk 19 ⟨some 43, .fieldAddr 33 (.tmp 4) 0, 0, _, _, _⟩ hHeld ?_
  (try simp only [Act.put, nz1, nz2, nz3])
  refine tk 20 ⟨some 44, .indexAddr 27 (.tmp 43) (.tmp 42), 0, _, _, _⟩ hHeld ?_
  (try simp only [Act.put, nz1, nz2, nz3])
  refine tk 21 ⟨some 45, .load 3 (.tmp 44), 3, _, _, _⟩ hHeld ?_
  (try simp only [Act.put, nz1, nz2, nz3])
  refine tk 22 ⟨some 46, .move (.tmp 7), 3, _, _, _⟩ hHeld ?_
  (try simp only [Act.put, nz1, nz2, nz3])
  refine tk 23 ⟨some 47, .fieldAddr 33 (.tmp 5) 1, 0, _, _, _⟩ hHeld ?_
  (try simp only [Act.put, nz1, nz2, nz3])
  refine tk 24 ⟨some 48, .indexAddr 31 (.tmp 47) (.tmp 46), 0, _, _, _⟩ hHeld ?_
  (try simp only [Act.put, nz1, nz2, nz3])
  refine tk 25 ⟨some 49, .load 30 (.tmp 48), 30, _, _, _⟩ hHeld ?_
  (try simp only [Act.put, nz1, nz2, nz3])
  refine wpAnyH_ready (rs := [26]) (by kernel_rfl) (by simp) ?_
  refine AllReadyH.cons (o := ⟨some 50, .call { callee := .value (.func 62), args := #[.tmp 41, .tmp 45, .tmp 49], argTypes := #[23, 3, 30] }, 30, _, _, _⟩) rfl (fun K hK => ?_) AllReadyH.nil
  (go_simp; (refine (HC0 _).mono ?_); (rintro e wz ⟨rfl, hb⟩); (replace Rc := Rc.later hb); (replace Ry := Ry.later hb); (replace Rz := Rz.later hb); (replace hb0 := below_step hb0 hb); go_wp2_with fail)
  refine hK.out _ _ ?hSr70_27_26 (fun hHeld2 => ?_)
  case hSr70_27_26 => (obtain ⟨y0, z0, y2, y3, y4, y5, y6, z2, z3, z4, z5, z6, c1, c2, c3⟩ := hHeld; exact ⟨cell_later hb y0, cell_later hb z0, cell_later hb y2, cell_later hb y3, cell_later hb y4, cell_later hb y5, cell_later hb y6, cell_later hb z2, cell_later hb z3, cell_later hb z4, cell_later hb z5, cell_later hb z6, cell_later hb c1, cell_later hb c2, cell_later hb c3⟩)
  clear hK K hHeld
  have hHeld := hHeld2
  clear hHeld2
  rename World => wq
  (try simp only [Act.put, nz1, nz2, nz3])
  refine tk 27 ⟨some 51, .binOp .neq 30 (.tmp 37) (.tmp 50) 30, 4, _, _, _⟩ hHeld ?_
  (try simp only [Act.put, nz1, nz2, nz3])
  refine tk 28 ⟨some 52, .pick (.tmp 33) (.const (.bool true)) (.tmp 51), 4, _, _, _⟩ hHeld ?_
  (try simp only [Act.put, nz1, nz2, nz3])
  refine wpAnyH_done (by kernel_rfl) ?_ _
  clear hHeld
  rename World => w3
  have lc := Rc.lt
  have ly := Ry.lt
  have lz := Rz.lt
  (try clear c0 c1 c2 c3 c4 c5 c6); obtain ⟨c0, c1, c2, c3, c4, c5, c6⟩ := row7 Rc
  (try clear y0 y1 y2 y3 y4 y5 y6 y7 y8 y9 y10 y11); obtain ⟨y0, y1, y2, y3, y4, y5, y6, y7, y8, y9, y10, y11⟩ := row12 Ry
  (try clear z0 z1 z2 z3 z4 z5 z6 z7 z8 z9 z10 z11); obtain ⟨z0, z1, z2, z3, z4, z5, z6, z7, z8, z9, z10, z11⟩ := row12 Rz
  go_wp2
  go_ret
  exact ⟨rfl, hb0⟩
set_option maxRecDepth 100000 in
set_option maxHeartbeats 32000000 in
theorem rover_e2 (n : Int) (d0 d1 : Dm) (p q : Px) (u0 u1 : Ke)
    (H1 : ∀ w, Calls Try.prog 21 #[sv ⟨2, d0, d1⟩, pv p] w fun e w' => e = .returned (.bool true) ∧ Below w.heap.size w w')
    (H2 : ∀ w, Calls Try.prog 21 #[sv ⟨2, d0, d1⟩, pv q] w fun e w' => e = .returned (.bool true) ∧ Below w.heap.size w w')
    (g0 : ¬ p.a0 < q.a0)
    (HC0 : ∀ w, Calls Try.prog 62 #[dv d0, .int .i64 p.a0, kv q.k0] w fun e w' => e = .returned (kv u0) ∧ Below w.heap.size w w')
    (e0 : eqK p.k0.kind p.k0.len p.k0.h p.k0.l ⟨p.k0.path.toArray⟩ u0.kind u0.len u0.h u0.l ⟨u0.path.toArray⟩ = true)
    (g1 : p.a1 < q.a1) (w : World) :
    Calls Try.prog 29 #[sv ⟨2, d0, d1⟩, pv p, pv q] w fun e w' => e = .returned (.bool false) ∧ Below w.heap.size w w' := by
  have g0' : decide (p.a0 < q.a0) = false := decide_eq_false g0
  have n0 := fun w1 => neq_key p.k0.kind p.k0.len p.k0.h p.k0.l ⟨p.k0.path.toArray⟩ u0.kind u0.len u0.h u0.l ⟨u0.path.toArray⟩ w1
  simp only [e0] at n0
  have g1' : decide (p.a1 < q.a1) = true := decide_eq_true g1
  unfold sv pv at *
  (try unfold dv kv at *)
  (try dsimp only at *)
  obtain ⟨Rc, Ry, Rz, hb0⟩ := three_rows w #[.int .i64 2, .int .i64 d0.kind, .int .i64 d0.side, .int .i64 d0.step, .int .i64 d1.kind, .int .i64 d1.side, .int .i64 d1.step] #[.int .i64 p.a0, .int .i64 p.a1, .int .i64 p.k0.kind, .int .i64 p.k0.len, .int .u64 p.k0.h, .int .u64 p.k0.l, .string ⟨p.k0.path.toArray⟩, .int .i64 p.k1.kind, .int .i64 p.k1.len, .int .u64 p.k1.h, .int .u64 p.k1.l, .string ⟨p.k1.path.toArray⟩] #[.int .i64 q.a0, .int .i64 q.a1, .int .i64 q.k0.kind, .int .i64 q.k0.len, .int .u64 q.k0.h, .int .u64 q.k0.l, .string ⟨q.k0.path.toArray⟩, .int .i64 q.k1.kind, .int .i64 q.k1.len, .int .u64 q.k1.h, .int .u64 q.k1.l, .string ⟨q.k1.path.toArray⟩] 26 33 33
  (try clear c0 c1 c2 c3 c4 c5 c6); obtain ⟨c0, c1, c2, c3, c4, c5, c6⟩ := row7 Rc
  (try clear y0 y1 y2 y3 y4 y5 y6 y7 y8 y9 y10 y11); obtain ⟨y0, y1, y2, y3, y4, y5, y6, y7, y8, y9, y10, y11⟩ := row12 Ry
  (try clear z0 z1 z2 z3 z4 z5 z6 z7 z8 z9 z10 z11); obtain ⟨z0, z1, z2, z3, z4, z5, z6, z7, z8, z9, z10, z11⟩ := row12 Rz
  go_enter Try.func29, Try.ntmps29
  go_wp2_with fail
  refine (H1 _).mono ?_
  rintro e w1 ⟨rfl, hb⟩
  replace Rc := Rc.later hb
  replace Ry := Ry.later hb
  replace Rz := Rz.later hb
  replace hb0 := below_step hb0 hb
  clear hb
  have lc := Rc.lt
  have ly := Ry.lt
  have lz := Rz.lt
  (try clear c0 c1 c2 c3 c4 c5 c6); obtain ⟨c0, c1, c2, c3, c4, c5, c6⟩ := row7 Rc
  (try clear y0 y1 y2 y3 y4 y5 y6 y7 y8 y9 y10 y11); obtain ⟨y0, y1, y2, y3, y4, y5, y6, y7, y8, y9, y10, y11⟩ := row12 Ry
  (try clear z0 z1 z2 z3 z4 z5 z6 z7 z8 z9 z10 z11); obtain ⟨z0, z1, z2, z3, z4, z5, z6, z7, z8, z9, z10, z11⟩ := row12 Rz
  go_wp2_with fail
  refine (H2 _).mono ?_
  rintro e w2 ⟨rfl, hb⟩
  replace Rc := Rc.later hb
  replace Ry := Ry.later hb
  replace Rz := Rz.later hb
  replace hb0 := below_step hb0 hb
  clear hb
  have lc := Rc.lt
  have ly := Ry.lt
  have lz := Rz.lt
  (try clear c0 c1 c2 c3 c4 c5 c6); obtain ⟨c0, c1, c2, c3, c4, c5, c6⟩ := row7 Rc
  (try clear y0 y1 y2 y3 y4 y5 y6 y7 y8 y9 y10 y11); obtain ⟨y0, y1, y2, y3, y4, y5, y6, y7, y8, y9, y10, y11⟩ := row12 Ry
  (try clear z0 z1 z2 z3 z4 z5 z6 z7 z8 z9 z10 z11); obtain ⟨z0, z1, z2, z3, z4, z5, z6, z7, z8, z9, z10, z11⟩ := row12 Rz
  go_wp2_with fail
  refine wp_loop_rounds 3 ?_
  rw [rounds_succ]
  go_wp2_with fail
  refine wp_region_held_drew (S := (fun w' => w'.cell? ⟨w.heap.size + 1, 0, none⟩ = some (Value.int .i64 p.a0) ∧ w'.cell? ⟨w.heap.size + 1 + 1, 0, none⟩ = some (Value.int .i64 q.a0) ∧ w'.cell? ⟨w.heap.size + 1, 2, none⟩ = some (Value.int .i64 p.k0.kind) ∧ w'.cell? ⟨w.heap.size + 1, 3, none⟩ = some (Value.int .i64 p.k0.len) ∧ w'.cell? ⟨w.heap.size + 1, 4, none⟩ = some (Value.int .u64 p.k0.h) ∧ w'.cell? ⟨w.heap.size + 1, 5, none⟩ = some (Value.int .u64 p.k0.l) ∧ w'.cell? ⟨w.heap.size + 1, 6, none⟩ = some (Value.string ⟨p.k0.path.toArray⟩) ∧ w'.cell? ⟨w.heap.size + 1 + 1, 2, none⟩ = some (Value.int .i64 q.k0.kind) ∧ w'.cell? ⟨w.heap.size + 1 + 1, 3, none⟩ = some (Value.int .i64 q.k0.len) ∧ w'.cell? ⟨w.heap.size + 1 + 1, 4, none⟩ = some (Value.int .u64 q.k0.h) ∧ w'.cell? ⟨w.heap.size + 1 + 1, 5, none⟩ = some (Value.int .u64 q.k0.l) ∧ w'.cell? ⟨w.heap.size + 1 + 1, 6, none⟩ = some (Value.string ⟨q.k0.path.toArray⟩) ∧ w'.cell? ⟨w.heap.size, 1, none⟩ = some (Value.int .i64 d0.kind) ∧ w'.cell? ⟨w.heap.size, 2, none⟩ = some (Value.int .i64 d0.side) ∧ w'.cell? ⟨w.heap.size, 3, none⟩ = some (Value.int .i64 d0.step))) (by kernel_rfl) ?hSr71_ (fun hHeld => ?_)
  case hSr71_ => (exact ⟨y0, z0, y2, y3, y4, y5, y6, z2, z3, z4, z5, z6, c1, c2, c3⟩)
  (clear c0 c1 c2 c3 c4 c5 c6 y0 y1 y2 y3 y4 y5 y6 y7 y8 y9 y10 y11 z0 z1 z2 z3 z4 z5 z6 z7 z8 z9 z10 z11; (replace Rc := Rc.drew); (replace Ry := Ry.drew); (replace Rz := Rz.drew); (replace hb0 := hb0.drew); (generalize World.drew w2 = wq at *))
  refine tk 0 ⟨some 24, .move (.tmp 7), 3, _, _, _⟩ hHeld ?_
  (try simp only [Act.put, nz1, nz2, nz3])
  refine tk 1 ⟨some 25, .fieldAddr 33 (.tmp 4) 0, 0, _, _, _⟩ hHeld ?_
  (try simp only [Act.put, nz1, nz2, nz3])
  refine tk 2 ⟨some 26, .indexAddr 27 (.tmp 25) (.tmp 24), 0, _, _, _⟩ hHeld ?_
  (try simp only [Act.put, nz1, nz2, nz3])
  refine tk 3 ⟨some 27, .load 3 (.tmp 26), 3, _, _, _⟩ hHeld ?_
  (try simp only [Act.put, nz1, nz2, nz3])
  refine tk 4 ⟨some 28, .move (.tmp 7), 3, _, _, _⟩ hHeld ?_
  (try simp only [Act.put, nz1, nz2, nz3])
  refine tk 5 ⟨some 29, .fieldAddr 33 (.tmp 5) 0, 0, _, _, _⟩ hHeld ?_
  (try simp only [Act.put, nz1, nz2, nz3])
  refine tk 6 ⟨some 30, .indexAddr 27 (.tmp 29) (.tmp 28), 0, _, _, _⟩ hHeld ?_
  (try simp only [Act.put, nz1, nz2, nz3])
  refine tk 7 ⟨some 31, .load 3 (.tmp 30), 3, _, _, _⟩ hHeld ?_
  (try simp only [Act.put, nz1, nz2, nz3])
  refine tk 8 ⟨some 32, .binOp .lss 3 (.tmp 27) (.tmp 31) 3, 4, _, _, _⟩ hHeld ?_
  (try simp only [Act.put, nz1, nz2, nz3])
  refine tk 9 ⟨some 33, .move (.tmp 32), 4, _, _, _⟩ hHeld ?_
  (try simp only [Act.put, nz1, nz2, nz3])
  refine tk 10 ⟨some 34, .move (.tmp 7), 3, _, _, _⟩ hHeld ?_
  (try simp only [Act.put, nz1, nz2, nz3])
  refine tk 11 ⟨some 35, .fieldAddr 33 (.tmp 4) 1, 0, _, _, _⟩ hHeld ?_
  (try simp only [Act.put, nz1, nz2, nz3])
  refine tk 12 ⟨some 36, .indexAddr 31 (.tmp 35) (.tmp 34), 0, _, _, _⟩ hHeld ?_
  (try simp only [Act.put, nz1, nz2, nz3])
  refine tk 13 ⟨some 37, .load 30 (.tmp 36), 30, _, _, _⟩ hHeld ?_
  (try simp only [Act.put, nz1, nz2, nz3])
  refine tk 14 ⟨some 38, .move (.tmp 7), 3, _, _, _⟩ hHeld ?_
  (try simp only [Act.put, nz1, nz2, nz3])
  refine tk 15 ⟨some 39, .fieldAddr 26 (.tmp 3) 1, 0, _, _, _⟩ hHeld ?_
  (try simp only [Act.put, nz1, nz2, nz3])
  refine tk 16 ⟨some 40, .indexAddr 24 (.tmp 39) (.tmp 38), 0, _, _, _⟩ hHeld ?_
  (try simp only [Act.put, nz1, nz2, nz3])
  refine tk 17 ⟨some 41, .load 23 (.tmp 40), 23, _, _, _⟩ hHeld ?_
  (try simp only [Act.put, nz1, nz2, nz3])
  refine tk 18 ⟨some 42, .move (.tmp 7), 3, _, _, _⟩ hHeld ?_
  (try simp only [Act.put, nz1, nz2, nz3])
  refine tk 19 ⟨some 43, .fieldAddr 33 (.tmp 4) 0, 0, _, _, _⟩ hHeld ?_
  (try simp only [Act.put, nz1, nz2, nz3])
  refine tk 20 ⟨some 44, .indexAddr 27 (.tmp 43) (.tmp 42), 0, _, _, _⟩ hHeld ?_
  (try simp only [Act.put, nz1, nz2, nz3])
  refine tk 21 ⟨some 45, .load 3 (.tmp 44), 3, _, _, _⟩ hHeld ?_
  (try simp only [Act.put, nz1, nz2, nz3])
  refine tk 22 ⟨some 46, .move (.tmp 7), 3, _, _, _⟩ hHeld ?_
  (try simp only [Act.put, nz1, nz2, nz3])
  refine tk 23 ⟨some 47, .fieldAddr 33 (.tmp 5) 1, 0, _, _, _⟩ hHeld ?_
  (try simp only [Act.put, nz1, nz2, nz3])
  refine tk 24 ⟨some 48, .indexAddr 31 (.tmp 47) (.tmp 46), 0, _, _, _⟩ hHeld ?_
  (try simp only [Act.put, nz1, nz2, nz3])
  refine tk 25 ⟨some 49, .load 30 (.tmp 48), 30, _, _, _⟩ hHeld ?_
  (try simp only [Act.put, nz1, nz2, nz3])
  refine wpAnyH_ready (rs := [26]) (by kernel_rfl) (by simp) ?_
  refine AllReadyH.cons (o := ⟨some 50, .call { callee := .value (.func 62), args := #[.tmp 41, .tmp 45, .tmp 49], argTypes := #[23, 3, 30] }, 30, _, _, _⟩) rfl (fun K hK => ?_) AllReadyH.nil
  (go_simp; (refine (HC0 _).mono ?_); (rintro e wz ⟨rfl, hb⟩); (replace Rc := Rc.later hb); (replace Ry := Ry.later hb); (replace Rz := Rz.later hb); (replace hb0 := below_step hb0 hb); go_wp2_with fail)
  refine hK.out _ _ ?hSr71_27_26 (fun hHeld2 => ?_)
  case hSr71_27_26 => (obtain ⟨y0, z0, y2, y3, y4, y5, y6, z2, z3, z4, z5, z6, c1, c2, c3⟩ := hHeld; exact ⟨cell_later hb y0, cell_later hb z0, cell_later hb y2, cell_later hb y3, cell_later hb y4, cell_later hb y5, cell_later hb y6, cell_later hb z2, cell_later hb z3, cell_later hb z4, cell_later hb z5, cell_later hb z6, cell_later hb c1, cell_later hb c2, cell_later hb c3⟩)
  clear hK K hHeld
  have hHeld := hHeld2
  clear hHeld2
  rename World => wq
  (try simp only [Act.put, nz1, nz2, nz3])
  refine tk 27 ⟨some 51, .binOp .neq 30 (.tmp 37) (.tmp 50) 30, 4, _, _, _⟩ hHeld ?_
  (try simp only [Act.put, nz1, nz2, nz3])
  refine tk 28 ⟨some 52, .pick (.tmp 33) (.const (.bool true)) (.tmp 51), 4, _, _, _⟩ hHeld ?_
  (try simp only [Act.put, nz1, nz2, nz3])
  refine wpAnyH_done (by kernel_rfl) ?_ _
  clear hHeld
  rename World => w3
  have lc := Rc.lt
  have ly := Ry.lt
  have lz := Rz.lt
  (try clear c0 c1 c2 c3 c4 c5 c6); obtain ⟨c0, c1, c2, c3, c4, c5, c6⟩ := row7 Rc
  (try clear y0 y1 y2 y3 y4 y5 y6 y7 y8 y9 y10 y11); obtain ⟨y0, y1, y2, y3, y4, y5, y6, y7, y8, y9, y10, y11⟩ := row12 Ry
  (try clear z0 z1 z2 z3 z4 z5 z6 z7 z8 z9 z10 z11); obtain ⟨z0, z1, z2, z3, z4, z5, z6, z7, z8, z9, z10, z11⟩ := row12 Rz
  go_wp2_with fail
  rw [rounds_succ]
  go_wp2_with fail
  refine wp_region_held_drew (S := (fun w' => w'.cell? ⟨w.heap.size + 1, 1, none⟩ = some (Value.int .i64 p.a1) ∧ w'.cell? ⟨w.heap.size + 1 + 1, 1, none⟩ = some (Value.int .i64 q.a1) ∧ w'.cell? ⟨w.heap.size + 1, 7, none⟩ = some (Value.int .i64 p.k1.kind) ∧ w'.cell? ⟨w.heap.size + 1, 8, none⟩ = some (Value.int .i64 p.k1.len) ∧ w'.cell? ⟨w.heap.size + 1, 9, none⟩ = some (Value.int .u64 p.k1.h) ∧ w'.cell? ⟨w.heap.size + 1, 10, none⟩ = some (Value.int .u64 p.k1.l) ∧ w'.cell? ⟨w.heap.size + 1, 11, none⟩ = some (Value.string ⟨p.k1.path.toArray⟩) ∧ w'.cell? ⟨w.heap.size + 1 + 1, 7, none⟩ = some (Value.int .i64 q.k1.kind) ∧ w'.cell? ⟨w.heap.size + 1 + 1, 8, none⟩ = some (Value.int .i64 q.k1.len) ∧ w'.cell? ⟨w.heap.size + 1 + 1, 9, none⟩ = some (Value.int .u64 q.k1.h) ∧ w'.cell? ⟨w.heap.size + 1 + 1, 10, none⟩ = some (Value.int .u64 q.k1.l) ∧ w'.cell? ⟨w.heap.size + 1 + 1, 11, none⟩ = some (Value.string ⟨q.k1.path.toArray⟩) ∧ w'.cell? ⟨w.heap.size, 4, none⟩ = some (Value.int .i64 d1.kind) ∧ w'.cell? ⟨w.heap.size, 5, none⟩ = some (Value.int .i64 d1.side) ∧ w'.cell? ⟨w.heap.size, 6, none⟩ = some (Value.int .i64 d1.step))) (by kernel_rfl) ?hSr72_ (fun hHeld => ?_)
  case hSr72_ => (exact ⟨y1, z1, y7, y8, y9, y10, y11, z7, z8, z9, z10, z11, c4, c5, c6⟩)
  (clear c0 c1 c2 c3 c4 c5 c6 y0 y1 y2 y3 y4 y5 y6 y7 y8 y9 y10 y11 z0 z1 z2 z3 z4 z5 z6 z7 z8 z9 z10 z11; (replace Rc := Rc.drew); (replace Ry := Ry.drew); (replace Rz := Rz.drew); (replace hb0 := hb0.drew); (generalize World.drew w3 = wq at *))
  refine tk 0 ⟨some 24, .move (.tmp 7), 3, _, _, _⟩ hHeld ?_
  (try simp only [Act.put, nz1, nz2, nz3])
  refine tk 1 ⟨some 25, .fieldAddr 33 (.tmp 4) 0, 0, _, _, _⟩ hHeld ?_
  (try simp only [Act.put, nz1, nz2, nz3])
  refine tk 2 ⟨some 26, .indexAddr 27 (.tmp 25) (.tmp 24), 0, _, _, _⟩ hHeld ?_
  (try simp only [Act.put, nz1, nz2, nz3])
  refine tk 3 ⟨some 27, .load 3 (.tmp 26), 3, _, _, _⟩ hHeld ?_
  (try simp only [Act.put, nz1, nz2, nz3])
  refine tk 4 ⟨some 28, .move (.tmp 7), 3, _, _, _⟩ hHeld ?_
  (try simp only [Act.put, nz1, nz2, nz3])
  refine tk 5 ⟨some 29, .fieldAddr 33 (.tmp 5) 0, 0, _, _, _⟩ hHeld ?_
  (try simp only [Act.put, nz1, nz2, nz3])
  refine tk 6 ⟨some 30, .indexAddr 27 (.tmp 29) (.tmp 28), 0, _, _, _⟩ hHeld ?_
  (try simp only [Act.put, nz1, nz2, nz3])
  refine tk 7 ⟨some 31, .load 3 (.tmp 30), 3, _, _, _⟩ hHeld ?_
  (try simp only [Act.put, nz1, nz2, nz3])
  refine tk 8 ⟨some 32, .binOp .lss 3 (.tmp 27) (.tmp 31) 3, 4, _, _, _⟩ hHeld ?_
  (try simp only [Act.put, nz1, nz2, nz3])
  refine tk 9 ⟨some 33, .move (.tmp 32), 4, _, _, _⟩ hHeld ?_
  (try simp only [Act.put, nz1, nz2, nz3])
  refine ts 10 ⟨some 34, .move (.tmp 7), 3, _, _, _⟩ hHeld ?_
  (try simp only [Act.put, nz1, nz2, nz3])
  refine ts 11 ⟨some 35, .fieldAddr 33 (.tmp 4) 1, 0, _, _, _⟩ hHeld ?_
  (try simp only [Act.put, nz1, nz2, nz3])
  refine ts 12 ⟨some 36, .indexAddr 31 (.tmp 35) (.tmp 34), 0, _, _, _⟩ hHeld ?_
  (try simp only [Act.put, nz1, nz2, nz3])
  refine ts 13 ⟨some 37, .load 30 (.tmp 36), 30, _, _, _⟩ hHeld ?_
  (try simp only [Act.put, nz1, nz2, nz3])
  refine ts 14 ⟨some 38, .move (.tmp 7), 3, _, _, _⟩ hHeld ?_
  (try simp only [Act.put, nz1, nz2, nz3])
  refine ts 15 ⟨some 39, .fieldAddr 26 (.tmp 3) 1, 0, _, _, _⟩ hHeld ?_
  (try simp only [Act.put, nz1, nz2, nz3])
  refine ts 16 ⟨some 40, .indexAddr 24 (.tmp 39) (.tmp 38), 0, _, _, _⟩ hHeld ?_
  (try simp only [Act.put, nz1, nz2, nz3])
  refine ts 17 ⟨some 41, .load 23 (.tmp 40), 23, _, _, _⟩ hHeld ?_
  (try simp only [Act.put, nz1, nz2, nz3])
  refine ts 18 ⟨some 42, .move (.tmp 7), 3, _, _, _⟩ hHeld ?_
  (try simp only [Act.put, nz1, nz2, nz3])
  refine ts 19 ⟨some 43, .fieldAddr 33 (.tmp 4) 0, 0, _, _, _⟩ hHeld ?_
  (try simp only [Act.put, nz1, nz2, nz3])
  refine ts 20 ⟨some 44, .indexAddr 27 (.tmp 43) (.tmp 42), 0, _, _, _⟩ hHeld ?_
  (try simp only [Act.put, nz1, nz2, nz3])
  refine ts 21 ⟨some 45, .load 3 (.tmp 44), 3, _, _, _⟩ hHeld ?_
  (try simp only [Act.put, nz1, nz2, nz3])
  refine ts 22 ⟨some 46, .move (.tmp 7), 3, _, _, _⟩ hHeld ?_
  (try simp only [Act.put, nz1, nz2, nz3])
  refine ts 23 ⟨some 47, .fieldAddr 33 (.tmp 5) 1, 0, _, _, _⟩ hHeld ?_
  (try simp only [Act.put, nz1, nz2, nz3])
  refine ts 24 ⟨some 48, .indexAddr 31 (.tmp 47) (.tmp 46), 0, _, _, _⟩ hHeld ?_
  (try simp only [Act.put, nz1, nz2, nz3])
  refine ts 25 ⟨some 49, .load 30 (.tmp 48), 30, _, _, _⟩ hHeld ?_
  (try simp only [Act.put, nz1, nz2, nz3])
  refine ts 26 ⟨some 50, .call { callee := .value (.func 62), args := #[.tmp 41, .tmp 45, .tmp 49], argTypes := #[23, 3, 30] }, 30, _, _, _⟩ hHeld ?_
  (try simp only [Act.put, nz1, nz2, nz3])
  refine ts 27 ⟨some 51, .binOp .neq 30 (.tmp 37) (.tmp 50) 30, 4, _, _, _⟩ hHeld ?_
  (try simp only [Act.put, nz1, nz2, nz3])
  refine tk 28 ⟨some 52, .pick (.tmp 33) (.const (.bool true)) (.tmp 51), 4, _, _, _⟩ hHeld ?_
  (try simp only [Act.put, nz1, nz2, nz3])
  refine wpAnyH_done (by kernel_rfl) ?_ _
  clear hHeld
  rename World => w4
  have lc := Rc.lt
  have ly := Ry.lt
  have lz := Rz.lt
  (try clear c0 c1 c2 c3 c4 c5 c6); obtain ⟨c0, c1, c2, c3, c4, c5, c6⟩ := row7 Rc
  (try clear y0 y1 y2 y3 y4 y5 y6 y7 y8 y9 y10 y11); obtain ⟨y0, y1, y2, y3, y4, y5, y6, y7, y8, y9, y10, y11⟩ := row12 Ry
  (try clear z0 z1 z2 z3 z4 z5 z6 z7 z8 z9 z10 z11); obtain ⟨z0, z1, z2, z3, z4, z5, z6, z7, z8, z9, z10, z11⟩ := row12 Rz
  go_wp2
  go_ret
  exact ⟨rfl, hb0⟩
set_option maxRecDepth 100000 in
set_option maxHeartbeats 32000000 in
theorem rover_f2 (n : Int) (d0 d1 : Dm) (p q : Px) (u0 u1 : Ke)
    (H1 : ∀ w, Calls Try.prog 21 #[sv ⟨2, d0, d1⟩, pv p] w fun e w' => e = .returned (.bool true) ∧ Below w.heap.size w w')
    (H2 : ∀ w, Calls Try.prog 21 #[sv ⟨2, d0, d1⟩, pv q] w fun e w' => e = .returned (.bool true) ∧ Below w.heap.size w w')
    (g0 : ¬ p.a0 < q.a0)
    (HC0 : ∀ w, Calls Try.prog 62 #[dv d0, .int .i64 p.a0, kv q.k0] w fun e w' => e = .returned (kv u0) ∧ Below w.heap.size w w')
    (e0 : eqK p.k0.kind p.k0.len p.k0.h p.k0.l ⟨p.k0.path.toArray⟩ u0.kind u0.len u0.h u0.l ⟨u0.path.toArray⟩ = true)
    (g1 : ¬ p.a1 < q.a1)
    (HC1 : ∀ w, Calls Try.prog 62 #[dv d1, .int .i64 p.a1, kv q.k1] w fun e w' => e = .returned (kv u1) ∧ Below w.heap.size w w')
    (e1 : eqK p.k1.kind p.k1.len p.k1.h p.k1.l ⟨p.k1.path.toArray⟩ u1.kind u1.len u1.h u1.l ⟨u1.path.toArray⟩ = false) (w : World) :
    Calls Try.prog 29 #[sv ⟨2, d0, d1⟩, pv p, pv q] w fun e w' => e = .returned (.bool false) ∧ Below w.heap.size w w' := by
  have g0' : decide (p.a0 < q.a0) = false := decide_eq_false g0
  have n0 := fun w1 => neq_key p.k0.kind p.k0.len p.k0.h p.k0.l ⟨p.k0.path.toArray⟩ u0.kind u0.len u0.h u0.l ⟨u0.path.toArray⟩ w1
  simp only [e0] at n0
  have g1' : decide (p.a1 < q.a1) = false := decide_eq_false g1
  have n1 := fun w1 => neq_key p.k1.kind p.k1.len p.k1.h p.k1.l ⟨p.k1.path.toArray⟩ u1.kind u1.len u1.h u1.l ⟨u1.path.toArray⟩ w1
  simp only [e1] at n1
  unfold sv pv at *
  (try unfold dv kv at *)
  (try dsimp only at *)
  obtain ⟨Rc, Ry, Rz, hb0⟩ := three_rows w #[.int .i64 2, .int .i64 d0.kind, .int .i64 d0.side, .int .i64 d0.step, .int .i64 d1.kind, .int .i64 d1.side, .int .i64 d1.step] #[.int .i64 p.a0, .int .i64 p.a1, .int .i64 p.k0.kind, .int .i64 p.k0.len, .int .u64 p.k0.h, .int .u64 p.k0.l, .string ⟨p.k0.path.toArray⟩, .int .i64 p.k1.kind, .int .i64 p.k1.len, .int .u64 p.k1.h, .int .u64 p.k1.l, .string ⟨p.k1.path.toArray⟩] #[.int .i64 q.a0, .int .i64 q.a1, .int .i64 q.k0.kind, .int .i64 q.k0.len, .int .u64 q.k0.h, .int .u64 q.k0.l, .string ⟨q.k0.path.toArray⟩, .int .i64 q.k1.kind, .int .i64 q.k1.len, .int .u64 q.k1.h, .int .u64 q.k1.l, .string ⟨q.k1.path.toArray⟩] 26 33 33
  (try clear c0 c1 c2 c3 c4 c5 c6); obtain ⟨c0, c1, c2, c3, c4, c5, c6⟩ := row7 Rc
  (try clear y0 y1 y2 y3 y4 y5 y6 y7 y8 y9 y10 y11); obtain ⟨y0, y1, y2, y3, y4, y5, y6, y7, y8, y9, y10, y11⟩ := row12 Ry
  (try clear z0 z1 z2 z3 z4 z5 z6 z7 z8 z9 z10 z11); obtain ⟨z0, z1, z2, z3, z4, z5, z6, z7, z8, z9, z10, z11⟩ := row12 Rz
  go_enter Try.func29, Try.ntmps29
  go_wp2_with fail
  refine (H1 _).mono ?_
  rintro e w1 ⟨rfl, hb⟩
  replace Rc := Rc.later hb
  replace Ry := Ry.later hb
  replace Rz := Rz.later hb
  replace hb0 := below_step hb0 hb
  clear hb
  have lc := Rc.lt
  have ly := Ry.lt
  have lz := Rz.lt
  (try clear c0 c1 c2 c3 c4 c5 c6); obtain ⟨c0, c1, c2, c3, c4, c5, c6⟩ := row7 Rc
  (try clear y0 y1 y2 y3 y4 y5 y6 y7 y8 y9 y10 y11); obtain ⟨y0, y1, y2, y3, y4, y5, y6, y7, y8, y9, y10, y11⟩ := row12 Ry
  (try clear z0 z1 z2 z3 z4 z5 z6 z7 z8 z9 z10 z11); obtain ⟨z0, z1, z2, z3, z4, z5, z6, z7, z8, z9, z10, z11⟩ := row12 Rz
  go_wp2_with fail
  refine (H2 _).mono ?_
  rintro e w2 ⟨rfl, hb⟩
  replace Rc := Rc.later hb
  replace Ry := Ry.later hb
  replace Rz := Rz.later hb
  replace hb0 := below_step hb0 hb
  clear hb
  have lc := Rc.lt
  have ly := Ry.lt
  have lz := Rz.lt
  (try clear c0 c1 c2 c3 c4 c5 c6); obtain ⟨c0, c1, c2, c3, c4, c5, c6⟩ := row7 Rc
  (try clear y0 y1 y2 y3 y4 y5 y6 y7 y8 y9 y10 y11); obtain ⟨y0, y1, y2, y3, y4, y5, y6, y7, y8, y9, y10, y11⟩ := row12 Ry
  (try clear z0 z1 z2 z3 z4 z5 z6 z7 z8 z9 z10 z11); obtain ⟨z0, z1, z2, z3, z4, z5, z6, z7, z8, z9, z10, z11⟩ := row12 Rz
  go_wp2_with fail
  refine wp_loop_rounds 3 ?_
  rw [rounds_succ]
  go_wp2_with fail
  refine wp_region_held_drew (S := (fun w' => w'.cell? ⟨w.heap.size + 1, 0, none⟩ = some (Value.int .i64 p.a0) ∧ w'.cell? ⟨w.heap.size + 1 + 1, 0, none⟩ = some (Value.int .i64 q.a0) ∧ w'.cell? ⟨w.heap.size + 1, 2, none⟩ = some (Value.int .i64 p.k0.kind) ∧ w'.cell? ⟨w.heap.size + 1, 3, none⟩ = some (Value.int .i64 p.k0.len) ∧ w'.cell? ⟨w.heap.size + 1, 4, none⟩ = some (Value.int .u64 p.k0.h) ∧ w'.cell? ⟨w.heap.size + 1, 5, none⟩ = some (Value.int .u64 p.k0.l) ∧ w'.cell? ⟨w.heap.size + 1, 6, none⟩ = some (Value.string ⟨p.k0.path.toArray⟩) ∧ w'.cell? ⟨w.heap.size + 1 + 1, 2, none⟩ = some (Value.int .i64 q.k0.kind) ∧ w'.cell? ⟨w.heap.size + 1 + 1, 3, none⟩ = some (Value.int .i64 q.k0.len) ∧ w'.cell? ⟨w.heap.size + 1 + 1, 4, none⟩ = some (Value.int .u64 q.k0.h) ∧ w'.cell? ⟨w.heap.size + 1 + 1, 5, none⟩ = some (Value.int .u64 q.k0.l) ∧ w'.cell? ⟨w.heap.size + 1 + 1, 6, none⟩ = some (Value.string ⟨q.k0.path.toArray⟩) ∧ w'.cell? ⟨w.heap.size, 1, none⟩ = some (Value.int .i64 d0.kind) ∧ w'.cell? ⟨w.heap.size, 2, none⟩ = some (Value.int .i64 d0.side) ∧ w'.cell? ⟨w.heap.size, 3, none⟩ = some (Value.int .i64 d0.step))) (by kernel_rfl) ?hSr73_ (fun hHeld => ?_)
  case hSr73_ => (exact ⟨y0, z0, y2, y3, y4, y5, y6, z2, z3, z4, z5, z6, c1, c2, c3⟩)
  (clear c0 c1 c2 c3 c4 c5 c6 y0 y1 y2 y3 y4 y5 y6 y7 y8 y9 y10 y11 z0 z1 z2 z3 z4 z5 z6 z7 z8 z9 z10 z11; (replace Rc := Rc.drew); (replace Ry := Ry.drew); (replace Rz := Rz.drew); (replace hb0 := hb0.drew); (generalize World.drew w2 = wq at *))
  refine tk 0 ⟨some 24, .move (.tmp 7), 3, _, _, _⟩ hHeld ?_
  (try simp only [Act.put, nz1, nz2, nz3])
  refine tk 1 ⟨some 25, .fieldAddr 33 (.tmp 4) 0, 0, _, _, _⟩ hHeld ?_
  (try simp only [Act.put, nz1, nz2, nz3])
  refine tk 2 ⟨some 26, .indexAddr 27 (.tmp 25) (.tmp 24), 0, _, _, _⟩ hHeld ?_
  (try simp only [Act.put, nz1, nz2, nz3])
  refine tk 3 ⟨some 27, .load 3 (.tmp 26), 3, _, _, _⟩ hHeld ?_
  (try simp only [Act.put, nz1, nz2, nz3])
  refine tk 4 ⟨some 28, .move (.tmp 7), 3, _, _, _⟩ hHeld ?_
  (try simp only [Act.put, nz1, nz2, nz3])
  refine tk 5 ⟨some 29, .fieldAddr 33 (.tmp 5) 0, 0, _, _, _⟩ hHeld ?_
  (try simp only [Act.put, nz1, nz2, nz3])
  refine tk 6 ⟨some 30, .indexAddr 27 (.tmp 29) (.tmp 28), 0, _, _, _⟩ hHeld ?_
  (try simp only [Act.put, nz1, nz2, nz3])
  refine tk 7 ⟨some 31, .load 3 (.tmp 30), 3, _, _, _⟩ hHeld ?_
  (try simp only [Act.put, nz1, nz2, nz3])
  refine tk 8 ⟨some 32, .binOp .lss 3 (.tmp 27) (.tmp 31) 3, 4, _, _, _⟩ hHeld ?_
  (try simp only [Act.put, nz1, nz2, nz3])
  refine tk 9 ⟨some 33, .move (.tmp 32), 4, _, _, _⟩ hHeld ?_
  (try simp only [Act.put, nz1, nz2, nz3])
  refine tk 10 ⟨some 34, .move (.tmp 7), 3, _, _, _⟩ hHeld ?_
  (try simp only [Act.put, nz1, nz2, nz3])
  refine tk 11 ⟨some 35, .fieldAddr 33 (.tmp 4) 1, 0, _, _, _⟩ hHeld ?_
  (try simp only [Act.put, nz1, nz2, nz3])
  refine tk 12 ⟨some 36, .indexAddr 31 (.tmp 35) (.tmp 34), 0, _, _, _⟩ hHeld ?_
  (try simp only [Act.put, nz1, nz2, nz3])
  refine tk 13 ⟨some 37, .load 30 (.tmp 36), 30, _, _, _⟩ hHeld ?_
  (try simp only [Act.put, nz1, nz2, nz3])
  refine tk 14 ⟨some 38, .move (.tmp 7), 3, _, _, _⟩ hHeld ?_
  (try simp only [Act.put, nz1, nz2, nz3])
  refine tk 15 ⟨some 39, .fieldAddr 26 (.tmp 3) 1, 0, _, _, _⟩ hHeld ?_
  (try simp only [Act.put, nz1, nz2, nz3])
  refine tk 16 ⟨some 40, .indexAddr 24 (.tmp 39) (.tmp 38), 0, _, _, _⟩ hHeld ?_
  (try simp only [Act.put, nz1, nz2, nz3])
  refine tk 17 ⟨some 41, .load 23 (.tmp 40), 23, _, _, _⟩ hHeld ?_
  (try simp only [Act.put, nz1, nz2, nz3])
  refine tk 18 ⟨some 42, .move (.tmp 7), 3, _, _, _⟩ hHeld ?_
  (try simp only [Act.put, nz1, nz2, nz3])
  refine tk 19 ⟨some 43, .fieldAddr 33 (.tmp 4) 0, 0, _, _, _⟩ hHeld ?_
  (try simp only [Act.put, nz1, nz2, nz3])
  refine tk 20 ⟨some 44, .indexAddr 27 (.tmp 43) (.tmp 42), 0, _, _, _⟩ hHeld ?_
  (try simp only [Act.put, nz1, nz2, nz3])
  refine tk 21 ⟨some 45, .load 3 (.tmp 44), 3, _, _, _⟩ hHeld ?_
  (try simp only [Act.put, nz1, nz2, nz3])
  refine tk 22 ⟨some 46, .move (.tmp 7), 3, _, _, _⟩ hHeld ?_
  (try simp only [Act.put, nz1, nz2, nz3])
  refine tk 23 ⟨some 47, .fieldAddr 33 (.tmp 5) 1, 0, _, _, _⟩ hHeld ?_
  (try simp only [Act.put, nz1, nz2, nz3])
  refine tk 24 ⟨some 48, .indexAddr 31 (.tmp 47) (.tmp 46), 0, _, _, _⟩ hHeld ?_
  (try simp only [Act.put, nz1, nz2, nz3])
  refine tk 25 ⟨some 49, .load 30 (.tmp 48), 30, _, _, _⟩ hHeld ?_
  (try simp only [Act.put, nz1, nz2, nz3])
  refine wpAnyH_ready (rs := [26]) (by kernel_rfl) (by simp) ?_
  refine AllReadyH.cons (o := ⟨some 50, .call { callee := .value (.func 62), args := #[.tmp 41, .tmp 45, .tmp 49], argTypes := #[23, 3, 30] }, 30, _, _, _⟩) rfl (fun K hK => ?_) AllReadyH.nil
  (go_simp; (refine (HC0 _).mono ?_); (rintro e wz ⟨rfl, hb⟩); (replace Rc := Rc.later hb); (replace Ry := Ry.later hb); (replace Rz := Rz.later hb); (replace hb0 := below_step hb0 hb); go_wp2_with fail)
  refine hK.out _ _ ?hSr73_27_26 (fun hHeld2 => ?_)
  case hSr73_27_26 => (obtain ⟨y0, z0, y2, y3, y4, y5, y6, z2, z3, z4, z5, z6, c1, c2, c3⟩ := hHeld; exact ⟨cell_later hb y0, cell_later hb z0, cell_later hb y2, cell_later hb y3, cell_later hb y4, cell_later hb y5, cell_later hb y6, cell_later hb z2, cell_later hb z3, cell_later hb z4, cell_later hb z5, cell_later hb z6, cell_later hb c1, cell_later hb c2, cell_later hb c3⟩)
  clear hK K hHeld
  have hHeld := hHeld2
  clear hHeld2
  rename World => wq
  (try simp only [Act.put, nz1, nz2, nz3])
  refine tk 27 ⟨some 51, .binOp .neq 30 (.tmp 37) (.tmp 50) 30, 4, _, _, _⟩ hHeld ?_
  (try simp only [Act.put, nz1, nz2, nz3])
  refine tk 28 ⟨some 52, .pick (.tmp 33) (.const (.bool true)) (.tmp 51), 4, _, _, _⟩ hHeld ?_
  (try simp only [Act.put, nz1, nz2, nz3])
  refine wpAnyH_done (by kernel_rfl) ?_ _
  clear hHeld
  rename World => w3
  have lc := Rc.lt
  have ly := Ry.lt
  have lz := Rz.lt
  (try clear c0 c1 c2 c3 c4 c5 c6); obtain ⟨c0, c1, c2, c3, c4, c5, c6⟩ := row7 Rc
  (try clear y0 y1 y2 y3 y4 y5 y6 y7 y8 y9 y10 y11); obtain ⟨y0, y1, y2, y3, y4, y5, y6, y7, y8, y9, y10, y11⟩ := row12 Ry
  (try clear z0 z1 z2 z3 z4 z5 z6 z7 z8 z9 z10 z11); obtain ⟨z0, z1, z2, z3, z4, z5, z6, z7, z8, z9, z10, z11⟩ := row12 Rz
  go_wp2_with fail
  rw [rounds_succ]
  go_wp2_with fail
  refine wp_region_held_drew (S := (fun w' => w'.cell? ⟨w.heap.size + 1, 1, none⟩ = some (Value.int .i64 p.a1) ∧ w'.cell? ⟨w.heap.size + 1 + 1, 1, none⟩ = some (Value.int .i64 q.a1) ∧ w'.cell? ⟨w.heap.size + 1, 7, none⟩ = some (Value.int .i64 p.k1.kind) ∧ w'.cell? ⟨w.heap.size + 1, 8, none⟩ = some (Value.int .i64 p.k1.len) ∧ w'.cell? ⟨w.heap.size + 1, 9, none⟩ = some (Value.int .u64 p.k1.h) ∧ w'.cell? ⟨w.heap.size + 1, 10, none⟩ = some (Value.int .u64 p.k1.l) ∧ w'.cell? ⟨w.heap.size + 1, 11, none⟩ = some (Value.string ⟨p.k1.path.toArray⟩) ∧ w'.cell? ⟨w.heap.size + 1 + 1, 7, none⟩ = some (Value.int .i64 q.k1.kind) ∧ w'.cell? ⟨w.heap.size + 1 + 1, 8, none⟩ = some (Value.int .i64 q.k1.len) ∧ w'.cell? ⟨w.heap.size + 1 + 1, 9, none⟩ = some (Value.int .u64 q.k1.h) ∧ w'.cell? ⟨w.heap.size + 1 + 1, 10, none⟩ = some (Value.int .u64 q.k1.l) ∧ w'.cell? ⟨w.heap.size + 1 + 1, 11, none⟩ = some (Value.string ⟨q.k1.path.toArray⟩) ∧ w'.cell? ⟨w.heap.size, 4, none⟩ = some (Value.int .i64 d1.kind) ∧ w'.cell? ⟨w.heap.size, 5, none⟩ = some (Value.int .i64 d1.side) ∧ w'.cell? ⟨w.heap.size, 6, none⟩ = some (Value.int .i64 d1.step))) (by kernel_rfl) ?hSr74_ (fun hHeld => ?_)
  case hSr74_ => (exact ⟨y1, z1, y7, y8, y9, y10, y11, z7, z8, z9, z10, z11, c4, c5, c6⟩)
  (clear c0 c1 c2 c3 c4 c5 c6 y0 y1 y2 y3 y4 y5 y6 y7 y8 y9 y10 y11 z0 z1 z2 z3 z4 z5 z6 z7 z8 z9 z10 z11; (replace Rc := Rc.drew); (replace Ry := Ry.drew); (replace Rz := Rz.drew); (replace hb0 := hb0.drew); (generalize World.drew w3 = wq at *))
  refine tk 0 ⟨some 24, .move (.tmp 7), 3, _, _, _⟩ hHeld ?_
  (try simp only [Act.put, nz1, nz2, nz3])
  refine tk 1 ⟨some 25, .fieldAddr 33 (.tmp 4) 0, 0, _, _, _⟩ hHeld ?_
  (try simp only [Act.put, nz1, nz2, nz3])
  refine tk 2 ⟨some 26, .indexAddr 27 (.tmp 25) (.tmp 24), 0, _, _, _⟩ hHeld ?_
  (try simp only [Act.put, nz1, nz2, nz3])
  refine tk 3 ⟨some 27, .load 3 (.tmp 26), 3, _, _, _⟩ hHeld ?_
  (try simp only [Act.put, nz1, nz2, nz3])
  refine tk 4 ⟨some 28, .move (.tmp 7), 3, _, _, _⟩ hHeld ?_
  (try simp only [Act.put, nz1, nz2, nz3])
  refine tk 5 ⟨some 29, .fieldAddr 33 (.tmp 5) 0, 0, _, _, _⟩ hHeld ?_
  (try simp only [Act.put, nz1, nz2, nz3])
  refine tk 6 ⟨some 30, .indexAddr 27 (.tmp 29) (.tmp 28), 0, _, _, _⟩ hHeld ?_
  (try simp only [Act.put, nz1, nz2, nz3])
  refine tk 7 ⟨some 31, .load 3 (.tmp 30), 3, _, _, _⟩ hHeld ?_
  (try simp only [Act.put, nz1, nz2, nz3])
  refine tk 8 ⟨some 32, .binOp .lss 3 (.tmp 27) (.tmp 31) 3, 4, _, _, _⟩ hHeld ?_
  (try simp only [Act.put, nz1, nz2, nz3])
  refine tk 9 ⟨some 33, .move (.tmp 32), 4, _, _, _⟩ hHeld ?_
  (try simp only [Act.put, nz1, nz2, nz3])
  refine tk 10 ⟨some 34, .move (.tmp 7), 3, _, _, _⟩ hHeld ?_
  (try simp only [Act.put, nz1, nz2, nz3])
  refine tk 11 ⟨some 35, .fieldAddr 33 (.tmp 4) 1, 0, _, _, _⟩ hHeld ?_
  (try simp only [Act.put, nz1, nz2, nz3])
  refine tk 12 ⟨some 36, .indexAddr 31 (.tmp 35) (.tmp 34), 0, _, _, _⟩ hHeld ?_
  (try simp only [Act.put, nz1, nz2, nz3])
  refine tk 13 ⟨some 37, .load 30 (.tmp 36), 30, _, _, _⟩ hHeld ?_
  (try simp only [Act.put, nz1, nz2, nz3])
  refine tk 14 ⟨some 38, .move (.tmp 7), 3, _, _, _⟩ hHeld ?_
  (try simp only [Act.put, nz1, nz2, nz3])
  refine tk 15 ⟨some 39, .fieldAddr 26 (.tmp 3) 1, 0, _, _, _⟩ hHeld ?_
  (try simp only [Act.put, nz1, nz2, nz3])
  refine tk 16 ⟨some 40, .indexAddr 24 (.tmp 39) (.tmp 38), 0, _, _, _⟩ hHeld ?_
  (try simp only [Act.put, nz1, nz2, nz3])
  refine tk 17 ⟨some 41, .load 23 (.tmp 40), 23, _, _, _⟩ hHeld ?_
  (try simp only [Act.put, nz1, nz2, nz3])
  refine tk 18 ⟨some 42, .move (.tmp 7), 3, _, _, _⟩ hHeld ?_
  (try simp only [Act.put, nz1, nz2, nz3])
  refine tk 19 ⟨some 43, .fieldAddr 33 (.tmp 4) 0, 0, _, _, _⟩ hHeld ?_
  (try simp only [Act.put, nz1, nz2, nz3])
  refine tk 20 ⟨some 44, .indexAddr 27 (.tmp 43) (.tmp 42), 0, _, _, _⟩ hHeld ?_
  (try simp only [Act.put, nz1, nz2, nz3])
  refine tk 21 ⟨some 45, .load 3 (.tmp 44), 3, _, _, _⟩ hHeld ?_
  (try simp only [Act.put, nz1, nz2, nz3])
  refine tk 22 ⟨some 46, .move (.tmp 7), 3, _, _, _⟩ hHeld ?_
  (try simp only [Act.put, nz1, nz2, nz3])
  refine tk 23 ⟨some 47, .fieldAddr 33 (.tmp 5) 1, 0, _, _, _⟩ hHeld ?_
  (try simp only [Act.put, nz1, nz2, nz3])
  refine tk 24 ⟨some 48, .indexAddr 31 (.tmp 47) (.tmp 46), 0, _, _, _⟩ hHeld ?_
  (try simp only [Act.put, nz1, nz2, nz3])
  refine tk 25 ⟨some 49, .load 30 (.tmp 48), 30, _, _, _⟩ hHeld ?_
  (try simp only [Act.put, nz1, nz2, nz3])
  refine wpAnyH_ready (rs := [26]) (by kernel_rfl) (by simp) ?_
  refine AllReadyH.cons (o := ⟨some 50, .call { callee := .value (.func 62), args := #[.tmp 41, .tmp 45, .tmp 49], argTypes := #[23, 3, 30] }, 30, _, _, _⟩) rfl (fun K hK => ?_) AllReadyH.nil
  (go_simp; (refine (HC1 _).mono ?_); (rintro e wz ⟨rfl, hb⟩); (replace Rc := Rc.later hb); (replace Ry := Ry.later hb); (replace Rz := Rz.later hb); (replace hb0 := below_step hb0 hb); go_wp2_with fail)
  refine hK.out _ _ ?hSr74_27_26 (fun hHeld2 => ?_)
  case hSr74_27_26 => (obtain ⟨y1, z1, y7, y8, y9, y10, y11, z7, z8, z9, z10, z11, c4, c5, c6⟩ := hHeld; exact ⟨cell_later hb y1, cell_later hb z1, cell_later hb y7, cell_later hb y8, cell_later hb y9, cell_later hb y10, cell_later hb y11, cell_later hb z7, cell_later hb z8, cell_later hb z9, cell_later hb z10, cell_later hb z11, cell_later hb c4, cell_later hb c5, cell_later hb c6⟩)
  clear hK K hHeld
  have hHeld := hHeld2
  clear hHeld2
  rename World => wq
  (try simp only [Act.put, nz1, nz2, nz3])
  refine tk 27 ⟨some 51, .binOp .neq 30 (.tmp 37) (.tmp 50) 30, 4, _, _, _⟩ hHeld ?_
  (try simp only [Act.put, nz1, nz2, nz3])
  refine tk 28 ⟨some 52, .pick (.tmp 33) (.const (.bool true)) (.tmp 51), 4, _, _, _⟩ hHeld ?_
  (try simp only [Act.put, nz1, nz2, nz3])
  refine wpAnyH_done (by kernel_rfl) ?_ _
  clear hHeld
  rename World => w4
  have lc := Rc.lt
  have ly := Ry.lt
  have lz := Rz.lt
  (try clear c0 c1 c2 c3 c4 c5 c6); obtain ⟨c0, c1, c2, c3, c4, c5, c6⟩ := row7 Rc
  (try clear y0 y1 y2 y3 y4 y5 y6 y7 y8 y9 y10 y11); obtain ⟨y0, y1, y2, y3, y4, y5, y6, y7, y8, y9, y10, y11⟩ := row12 Ry
  (try clear z0 z1 z2 z3 z4 z5 z6 z7 z8 z9 z10 z11); obtain ⟨z0, z1, z2, z3, z4, z5, z6, z7, z8, z9, z10, z11⟩ := row12 Rz
  go_wp2
  go_ret
  exact ⟨rfl, hb0⟩
set_option maxRecDepth 100000 in
set_option maxHeartbeats 32000000 in
theorem rover_g2 (n : Int) (d0 d1 : Dm) (p q : Px) (u0 u1 : Ke)
    (H1 : ∀ w, Calls Try.prog 21 #[sv ⟨2, d0, d1⟩, pv p] w fun e w' => e = .returned (.bool true) ∧ Below w.heap.size w w')
    (H2 : ∀ w, Calls Try.prog 21 #[sv ⟨2, d0, d1⟩, pv q] w fun e w' => e = .returned (.bool true) ∧ Below w.heap.size w w')
    (g0 : ¬ p.a0 < q.a0)
    (HC0 : ∀ w, Calls Try.prog 62 #[dv d0, .int .i64 p.a0, kv q.k0] w fun e w' => e = .returned (kv u0) ∧ Below w.heap.size w w')
    (e0 : eqK p.k0.kind p.k0.len p.k0.h p.k0.l ⟨p.k0.path.toArray⟩ u0.kind u0.len u0.h u0.l ⟨u0.path.toArray⟩ = true)
    (g1 : ¬ p.a1 < q.a1)
    (HC1 : ∀ w, Calls Try.prog 62 #[dv d1, .int .i64 p.a1, kv q.k1] w fun e w' => e = .returned (kv u1) ∧ Below w.heap.size w w')
    (e1 : eqK p.k1.kind p.k1.len p.k1.h p.k1.l ⟨p.k1.path.toArray⟩ u1.kind u1.len u1.h u1.l ⟨u1.path.toArray⟩ = true) (w : World) :
    Calls Try.prog 29 #[sv ⟨2, d0, d1⟩, pv p, pv q] w fun e w' => e = .returned (.bool true) ∧ Below w.heap.size w w' := by
  have g0' : decide (p.a0 < q.a0) = false := decide_eq_false g0
  have n0 := fun w1 => neq_key p.k0.kind p.k0.len p.k0.h p.k0.l ⟨p.k0.path.toArray⟩ u0.kind u0.len u0.h u0.l ⟨u0.path.toArray⟩ w1
  simp only [e0] at n0
  have g1' : decide (p.a1 < q.a1) = false := decide_eq_false g1
  have n1 := fun w1 => neq_key p.k1.kind p.k1.len p.k1.h p.k1.l ⟨p.k1.path.toArray⟩ u1.kind u1.len u1.h u1.l ⟨u1.path.toArray⟩ w1
  simp only [e1] at n1
  unfold sv pv at *
  (try unfold dv kv at *)
  (try dsimp only at *)
  obtain ⟨Rc, Ry, Rz, hb0⟩ := three_rows w #[.int .i64 2, .int .i64 d0.kind, .int .i64 d0.side, .int .i64 d0.step, .int .i64 d1.kind, .int .i64 d1.side, .int .i64 d1.step] #[.int .i64 p.a0, .int .i64 p.a1, .int .i64 p.k0.kind, .int .i64 p.k0.len, .int .u64 p.k0.h, .int .u64 p.k0.l, .string ⟨p.k0.path.toArray⟩, .int .i64 p.k1.kind, .int .i64 p.k1.len, .int .u64 p.k1.h, .int .u64 p.k1.l, .string ⟨p.k1.path.toArray⟩] #[.int .i64 q.a0, .int .i64 q.a1, .int .i64 q.k0.kind, .int .i64 q.k0.len, .int .u64 q.k0.h, .int .u64 q.k0.l, .string ⟨q.k0.path.toArray⟩, .int .i64 q.k1.kind, .int .i64 q.k1.len, .int .u64 q.k1.h, .int .u64 q.k1.l, .string ⟨q.k1.path.toArray⟩] 26 33 33
  (try clear c0 c1 c2 c3 c4 c5 c6); obtain ⟨c0, c1, c2, c3, c4, c5, c6⟩ := row7 Rc
  (try clear y0 y1 y2 y3 y4 y5 y6 y7 y8 y9 y10 y11); obtain ⟨y0, y1, y2, y3, y4, y5, y6, y7, y8, y9, y10, y11⟩ := row12 Ry
  (try clear z0 z1 z2 z3 z4 z5 z6 z7 z8 z9 z10 z11); obtain ⟨z0, z1, z2, z3, z4, z5, z6, z7, z8, z9, z10, z11⟩ := row12 Rz
  go_enter Try.func29, Try.ntmps29
  go_wp2_with fail
  refine (H1 _).mono ?_
  rintro e w1 ⟨rfl, hb⟩
  replace Rc := Rc.later hb
  replace Ry := Ry.later hb
  replace Rz := Rz.later hb
  replace hb0 := below_step hb0 hb
  clear hb
  have lc := Rc.lt
  have ly := Ry.lt
  have lz := Rz.lt
  (try clear c0 c1 c2 c3 c4 c5 c6); obtain ⟨c0, c1, c2, c3, c4, c5, c6⟩ := row7 Rc
  (try clear y0 y1 y2 y3 y4 y5 y6 y7 y8 y9 y10 y11); obtain ⟨y0, y1, y2, y3, y4, y5, y6, y7, y8, y9, y10, y11⟩ := row12 Ry
  (try clear z0 z1 z2 z3 z4 z5 z6 z7 z8 z9 z10 z11); obtain ⟨z0, z1, z2, z3, z4, z5, z6, z7, z8, z9, z10, z11⟩ := row12 Rz
  go_wp2_with fail
  refine (H2 _).mono ?_
  rintro e w2 ⟨rfl, hb⟩
  replace Rc := Rc.later hb
  replace Ry := Ry.later hb
  replace Rz := Rz.later hb
  replace hb0 := below_step hb0 hb
  clear hb
  have lc := Rc.lt
  have ly := Ry.lt
  have lz := Rz.lt
  (try clear c0 c1 c2 c3 c4 c5 c6); obtain ⟨c0, c1, c2, c3, c4, c5, c6⟩ := row7 Rc
  (try clear y0 y1 y2 y3 y4 y5 y6 y7 y8 y9 y10 y11); obtain ⟨y0, y1, y2, y3, y4, y5, y6, y7, y8, y9, y10, y11⟩ := row12 Ry
  (try clear z0 z1 z2 z3 z4 z5 z6 z7 z8 z9 z10 z11); obtain ⟨z0, z1, z2, z3, z4, z5, z6, z7, z8, z9, z10, z11⟩ := row12 Rz
  go_wp2_with fail
  refine wp_loop_rounds 3 ?_
  rw [rounds_succ]
  go_wp2_with fail
  refine wp_region_held_drew (S := (fun w' => w'.cell? ⟨w.heap.size + 1, 0, none⟩ = some (Value.int .i64 p.a0) ∧ w'.cell? ⟨w.heap.size + 1 + 1, 0, none⟩ = some (Value.int .i64 q.a0) ∧ w'.cell? ⟨w.heap.size + 1, 2, none⟩ = some (Value.int .i64 p.k0.kind) ∧ w'.cell? ⟨w.heap.size + 1, 3, none⟩ = some (Value.int .i64 p.k0.len) ∧ w'.cell? ⟨w.heap.size + 1, 4, none⟩ = some (Value.int .u64 p.k0.h) ∧ w'.cell? ⟨w.heap.size + 1, 5, none⟩ = some (Value.int .u64 p.k0.l) ∧ w'.cell? ⟨w.heap.size + 1, 6, none⟩ = some (Value.string ⟨p.k0.path.toArray⟩) ∧ w'.cell? ⟨w.heap.size + 1 + 1, 2, none⟩ = some (Value.int .i64 q.k0.kind) ∧ w'.cell? ⟨w.heap.size + 1 + 1, 3, none⟩ = some (Value.int .i64 q.k0.len) ∧ w'.cell? ⟨w.heap.size + 1 + 1, 4, none⟩ = some (Value.int .u64 q.k0.h) ∧ w'.cell? ⟨w.heap.size + 1 + 1, 5, none⟩ = some (Value.int .u64 q.k0.l) ∧ w'.cell? ⟨w.heap.size + 1 + 1, 6, none⟩ = some (Value.string ⟨q.k0.path.toArray⟩) ∧ w'.cell? ⟨w.heap.size, 1, none⟩ = some (Value.int .i64 d0.kind) ∧ w'.cell? ⟨w.heap.size, 2, none⟩ = some (Value.int .i64 d0.side) ∧ w'.cell? ⟨w.heap.size, 3, none⟩ = some (Value.int .i64 d0.step))) (by kernel_rfl) ?hSr75_ (fun hHeld => ?_)
  case hSr75_ => (exact ⟨y0, z0, y2, y3, y4, y5, y6, z2, z3, z4, z5, z6, c1, c2, c3⟩)
  (clear c0 c1 c2 c3 c4 c5 c6 y0 y1 y2 y3 y4 y5 y6 y7 y8 y9 y10 y11 z0 z1 z2 z3 z4 z5 z6 z7 z8 z9 z10 z11; (replace Rc := Rc.drew); (replace Ry := Ry.drew); (replace Rz := Rz.drew); (replace hb0 := hb0.drew); (generalize World.drew w2 = wq at *))
  refine tk 0 ⟨some 24, .move (.tmp 7), 3, _, _, _⟩ hHeld ?_
  (try simp only [Act.put, nz1, nz2, nz3])
  refine tk 1 ⟨some 25, .fieldAddr 33 (.tmp 4) 0, 0, _, _, _⟩ hHeld ?_
  (try simp only [Act.put, nz1, nz2, nz3])
  refine tk 2 ⟨some 26, .indexAddr 27 (.tmp 25) (.tmp 24), 0, _, _, _⟩ hHeld ?_
  (try simp only [Act.put, nz1, nz2, nz3])
  refine tk 3 ⟨some 27, .load 3 (.tmp 26), 3, _, _, _⟩ hHeld ?_
  (try simp only [Act.put, nz1, nz2, nz3])
  refine tk 4 ⟨some 28, .move (.tmp 7), 3, _, _, _⟩ hHeld ?_
  (try simp only [Act.put, nz1, nz2, nz3])
  refine tk 5 ⟨some 29, .fieldAddr 33 (.tmp 5) 0, 0, _, _, _⟩ hHeld ?_
  (try simp only [Act.put, nz1, nz2, nz3])
  refine tk 6 ⟨some 30, .indexAddr 27 (.tmp 29) (.tmp 28), 0, _, _, _⟩ hHeld ?_
  (try simp only [Act.put, nz1, nz2, nz3])
  refine tk 7 ⟨some 31, .load 3 (.tmp 30), 3, _, _, _⟩ hHeld ?_
  (try simp only [Act.put, nz1, nz2, nz3])
  refine tk 8 ⟨some 32, .binOp .lss 3 (.tmp 27) (.tmp 31) 3, 4, _, _, _⟩ hHeld ?_
  (try simp only [Act.put, nz1, nz2, nz3])
  refine tk 9 ⟨some 33, .move (.tmp 32), 4, _, _, _⟩ hHeld ?_
  (try simp only [Act.put, nz1, nz2, nz3])
  refine tk 10 ⟨some 34, .move (.tmp 7), 3, _, _, _⟩ hHeld ?_
  (try simp only [Act.put, nz1, nz2, nz3])
  refine tk 11 ⟨some 35, .fieldAddr 33 (.tmp 4) 1, 0, _, _, _⟩ hHeld ?_
  (try simp only [Act.put, nz1, nz2, nz3])
  refine tk 12 ⟨some 36, .indexAddr 31 (.tmp 35) (.tmp 34), 0, _, _, _⟩ hHeld ?_
  (try simp only [Act.put, nz1, nz2, nz3])
  refine tk 13 ⟨some 37, .load 30 (.tmp 36), 30, _, _, _⟩ hHeld ?_
  (try simp only [Act.put, nz1, nz2, nz3])
  refine tk 14 ⟨some 38, .move (.tmp 7), 3, _, _, _⟩ hHeld ?_
  (try simp only [Act.put, nz1, nz2, nz3])
  refine tk 15 ⟨some 39, .fieldAddr 26 (.tmp 3) 1, 0, _, _, _⟩ hHeld ?_
  (try simp only [Act.put, nz1, nz2, nz3])
  refine tk 16 ⟨some 40, .indexAddr 24 (.tmp 39) (.tmp 38), 0, _, _, _⟩ hHeld ?_
  (try simp only [Act.put, nz1, nz2, nz3])
  refine tk 17 ⟨some 41, .load 23 (.tmp 40), 23, _, _, _⟩ hHeld ?_
  (try simp only [Act.put, nz1, nz2, nz3])
  refine tk 18 ⟨some 42, .move (.tmp 7), 3, _, _, _⟩ hHeld ?_
  (try simp only [Act.put, nz1, nz2, nz3])
  refine tk 19 ⟨some 43, .fieldAddr 33 (.tmp 4) 0, 0, _, _, _⟩ hHeld ?_
  (try simp only [Act.put, nz1, nz2, nz3])
  refine tk 20 ⟨some 44, .indexAddr 27 (.tmp 43) (.tmp 42), 0, _, _, _⟩ hHeld ?_
  (try simp only [Act.put, nz1, nz2, nz3])
  refine tk 21 ⟨some 45, .load 3 (.tmp 44), 3, _, _, _⟩ hHeld ?_
  (try simp only [Act.put, nz1, nz2, nz3])
  refine tk 22 ⟨some 46, .move (.tmp 7), 3, _, _, _⟩ hHeld ?_
  (try simp only [Act.put, nz1, nz2, nz3])
  refine tk 23 ⟨some 47, .fieldAddr 33 (.tmp 5) 1, 0, _, _, _⟩ hHeld ?_
  (try simp only [Act.put, nz1, nz2, nz3])
  refine tk 24 ⟨some 48, .indexAddr 31 (.tmp 47) (.tmp 46), 0, _, _, _⟩ hHeld ?_
  (try simp only [Act.put, nz1, nz2, nz3])
  refine tk 25 ⟨some 49, .load 30 (.tmp 48), 30, _, _, _⟩ hHeld ?_
  (try simp only [Act.put, nz1, nz2, nz3])
  refine wpAnyH_ready (rs := [26]) (by kernel_rfl) (by simp) ?_
  refine AllReadyH.cons (o := ⟨some 50, .call { callee := .value (.func 62), args := #[.tmp 41, .tmp 45, .tmp 49], argTypes := #[23, 3, 30] }, 30, _, _, _⟩) rfl (fun K hK => ?_) AllReadyH.nil
  (go_simp; (refine (HC0 _).mono ?_); (rintro e wz ⟨rfl, hb⟩); (replace Rc := Rc.later hb); (replace Ry := Ry.later hb); (replace Rz := Rz.later hb); (replace hb0 := below_step hb0 hb); go_wp2_with fail)
  refine hK.out _ _ ?hSr75_27_26 (fun hHeld2 => ?_)
  case hSr75_27_26 => (obtain ⟨y0, z0, y2, y3, y4, y5, y6, z2, z3, z4, z5, z6, c1, c2, c3⟩ := hHeld; exact ⟨cell_later hb y0, cell_later hb z0, cell_later hb y2, cell_later hb y3, cell_later hb y4, cell_later hb y5, cell_later hb y6, cell_later hb z2, cell_later hb z3, cell_later hb z4, cell_later hb z5, cell_later hb z6, cell_later hb c1, cell_later hb c2, cell_later hb c3⟩)
  clear hK K hHeld
  have hHeld := hHeld2
  clear hHeld2
  rename World => wq
  (try simp only [Act.put, nz1, nz2, nz3])
  refine tk 27 ⟨some 51, .binOp .neq 30 (.tmp 37) (.tmp 50) 30, 4, _, _, _⟩ hHeld ?_
  (try simp only [Act.put, nz1, nz2, nz3])
  refine tk 28 ⟨some 52, .pick (.tmp 33) (.const (.bool true)) (.tmp 51), 4, _, _, _⟩ hHeld ?_
  (try simp only [Act.put, nz1, nz2, nz3])
  refine wpAnyH_done (by kernel_rfl) ?_ _
  clear hHeld
  rename World => w3
  have lc := Rc.lt
  have ly := Ry.lt
  have lz := Rz.lt
  (try clear c0 c1 c2 c3 c4 c5 c6); obtain ⟨c0, c1, c2, c3, c4, c5, c6⟩ := row7 Rc
  (try clear y0 y1 y2 y3 y4 y5 y6 y7 y8 y9 y10 y11); obtain ⟨y0, y1, y2, y3, y4, y5, y6, y7, y8, y9, y10, y11⟩ := row12 Ry
  (try clear z0 z1 z2 z3 z4 z5 z6 z7 z8 z9 z10 z11); obtain ⟨z0, z1, z2, z3, z4, z5, z6, z7, z8, z9, z10, z11⟩ := row12 Rz
  go_wp2_with fail
  rw [rounds_succ]
  go_wp2_with fail
  refine wp_region_held_drew (S := (fun w' => w'.cell? ⟨w.heap.size + 1, 1, none⟩ = some (Value.int .i64 p.a1) ∧ w'.cell? ⟨w.heap.size + 1 + 1, 1, none⟩ = some (Value.int .i64 q.a1) ∧ w'.cell? ⟨w.heap.size + 1, 7, none⟩ = some (Value.int .i64 p.k1.kind) ∧ w'.cell? ⟨w.heap.size + 1, 8, none⟩ = some (Value.int .i64 p.k1.len) ∧ w'.cell? ⟨w.heap.size + 1, 9, none⟩ = some (Value.int .u64 p.k1.h) ∧ w'.cell? ⟨w.heap.size + 1, 10, none⟩ = some (Value.int .u64 p.k1.l) ∧ w'.cell? ⟨w.heap.size + 1, 11, none⟩ = some (Value.string ⟨p.k1.path.toArray⟩) ∧ w'.cell? ⟨w.heap.size + 1 + 1, 7, none⟩ = some (Value.int .i64 q.k1.kind) ∧ w'.cell? ⟨w.heap.size + 1 + 1, 8, none⟩ = some (Value.int .i64 q.k1.len) ∧ w'.cell? ⟨w.heap.size + 1 + 1, 9, none⟩ = some (Value.int .u64 q.k1.h) ∧ w'.cell? ⟨w.heap.size + 1 + 1, 10, none⟩ = some (Value.int .u64 q.k1.l) ∧ w'.cell? ⟨w.heap.size + 1 + 1, 11, none⟩ = some (Value.string ⟨q.k1.path.toArray⟩) ∧ w'.cell? ⟨w.heap.size, 4, none⟩ = some (Value.int .i64 d1.kind) ∧ w'.cell? ⟨w.heap.size, 5, none⟩ = some (Value.int .i64 d1.side) ∧ w'.cell? ⟨w.heap.size, 6, none⟩ = some (Value.int .i64 d1.step))) (by kernel_rfl) ?hSr76_ (fun hHeld => ?_)
  case hSr76_ => (exact ⟨y1, z1, y7, y8, y9, y10, y11, z7, z8, z9, z10, z11, c4, c5, c6⟩)
  (clear c0 c1 c2 c3 c4 c5 c6 y0 y1 y2 y3 y4 y5 y6 y7 y8 y9 y10 y11 z0 z1 z2 z3 z4 z5 z6 z7 z8 z9 z10 z11; (replace Rc := Rc.drew); (replace Ry := Ry.drew); (replace Rz := Rz.drew); (replace hb0 := hb0.drew); (generalize World.drew w3 = wq at *))
  refine tk 0 ⟨some 24, .move (.tmp 7), 3, _, _, _⟩ hHeld ?_
  (try simp only [Act.put, nz1, nz2, nz3])
  refine tk 1 ⟨some 25, .fieldAddr 33 (.tmp 4) 0, 0, _, _, _⟩ hHeld ?_
  (try simp only [Act.put, nz1, nz2, nz3])
  refine tk 2 ⟨some 26, .indexAddr 27 (.tmp 25) (.tmp 24), 0, _, _, _⟩ hHeld ?_
  (try simp only [Act.put, nz1, nz2, nz3])
  refine tk 3 ⟨some 27, .load 3 (.tmp 26), 3, _, _, _⟩ hHeld ?_
  (try simp only [Act.put, nz1, nz2, nz3])
  refine tk 4 ⟨some 28, .move (.tmp 7), 3, _, _, _⟩ hHeld ?_
  (try simp only [Act.put, nz1, nz2, nz3])
  refine tk 5 ⟨some 29, .fieldAddr 33 (.tmp 5) 0, 0, _, _, _⟩ hHeld ?_
  (try simp only [Act.put, nz1, nz2, nz3])
  refine tk 6 ⟨some 30, .indexAddr 27 (.tmp 29) (.tmp 28), 0, _, _, _⟩ hHeld ?_
  (try simp only [Act.put, nz1, nz2, nz3])
  refine tk 7 ⟨some 31, .load 3 (.tmp 30), 3, _, _, _⟩ hHeld ?_
  (try simp only [Act.put, nz1, nz2, nz3])
  refine tk 8 ⟨some 32, .binOp .lss 3 (.tmp 27) (.tmp 31) 3, 4, _, _, _⟩ hHeld ?_
  (try simp only [Act.put, nz1, nz2, nz3])
  refine tk 9 ⟨some 33, .move (.tmp 32), 4, _, _, _⟩ hHeld ?_
  (try simp only [Act.put, nz1, nz2, nz3])
  refine tk 10 ⟨some 34, .move (.tmp 7), 3, _, _, _⟩ hHeld ?_
  (try simp only [Act.put, nz1, nz2, nz3])
  refine tk 11 ⟨some 35, .fieldAddr 33 (.tmp 4) 1, 0, _, _, _⟩ hHeld ?_
  (try simp only [Act.put, nz1, nz2, nz3])
  refine tk 12 ⟨some 36, .indexAddr 31 (.tmp 35) (.tmp 34), 0, _, _, _⟩ hHeld ?_
  (try simp only [Act.put, nz1, nz2, nz3])
  refine tk 13 ⟨some 37, .load 30 (.tmp 36), 30, _, _, _⟩ hHeld ?_
  (try simp only [Act.put, nz1, nz2, nz3])
  refine tk 14 ⟨some 38, .move (.tmp 7), 3, _, _, _⟩ hHeld ?_
  (try simp only [Act.put, nz1, nz2, nz3])
  refine tk 15 ⟨some 39, .fieldAddr 26 (.tmp 3) 1, 0, _, _, _⟩ hHeld ?_
  (try simp only [Act.put, nz1, nz2, nz3])
  refine tk 16 ⟨some 40, .indexAddr 24 (.tmp 39) (.tmp 38), 0, _, _, _⟩ hHeld ?_
  (try simp only [Act.put, nz1, nz2, nz3])
  refine tk 17 ⟨some 41, .load 23 (.tmp 40), 23, _, _, _⟩ hHeld ?_
  (try simp only [Act.put, nz1, nz2, nz3])
  refine tk 18 ⟨some 42, .move (.tmp 7), 3, _, _, _⟩ hHeld ?_
  (try simp only [Act.put, nz1, nz2, nz3])
  refine tk 19 ⟨some 43, .fieldAddr 33 (.tmp 4) 0, 0, _, _, _⟩ hHeld ?_
  (try simp only [Act.put, nz1, nz2, nz3])
  refine tk 20 ⟨some 44, .indexAddr 27 (.tmp 43) (.tmp 42), 0, _, _, _⟩ hHeld ?_
  (try simp only [Act.put, nz1, nz2, nz3])
  refine tk 21 ⟨some 45, .load 3 (.tmp 44), 3, _, _, _⟩ hHeld ?_
  (try simp only [Act.put, nz1, nz2, nz3])
  refine tk 22 ⟨some 46, .move (.tmp 7), 3, _, _, _⟩ hHeld ?_
  (try simp only [Act.put, nz1, nz2, nz3])
  refine tk 23 ⟨some 47, .fieldAddr 33 (.tmp 5) 1, 0, _, _, _⟩ hHeld ?_
  (try simp only [Act.put, nz1, nz2, nz3])
  refine tk 24 ⟨some 48, .indexAddr 31 (.tmp 47) (.tmp 46), 0, _, _, _⟩ hHeld ?_
  (try simp only [Act.put, nz1, nz2, nz3])
  refine tk 25 ⟨some 49, .load 30 (.tmp 48), 30, _, _, _⟩ hHeld ?_
  (try simp only [Act.put, nz1, nz2, nz3])
  refine wpAnyH_ready (rs := [26]) (by kernel_rfl) (by simp) ?_
  refine AllReadyH.cons (o := ⟨some 50, .call { callee := .value (.func 62), args := #[.tmp 41, .tmp 45, .tmp 49], argTypes := #[23, 3, 30] }, 30, _, _, _⟩) rfl (fun K hK => ?_) AllReadyH.nil
  (go_simp; (refine (HC1 _).mono ?_); (rintro e wz ⟨rfl, hb⟩); (replace Rc := Rc.later hb); (replace Ry := Ry.later hb); (replace Rz := Rz.later hb); (replace hb0 := below_step hb0 hb); go_wp2_with fail)
  refine hK.out _ _ ?hSr76_27_26 (fun hHeld2 => ?_)
  case hSr76_27_26 => (obtain ⟨y1, z1, y7, y8, y9, y10, y11, z7, z8, z9, z10, z11, c4, c5, c6⟩ := hHeld; exact ⟨cell_later hb y1, cell_later hb z1, cell_later hb y7, cell_later hb y8, cell_later hb y9, cell_later hb y10, cell_later hb y11, cell_later hb z7, cell_later hb z8, cell_later hb z9, cell_later hb z10, cell_later hb z11, cell_later hb c4, cell_later hb c5, cell_later hb c6⟩)
  clear hK K hHeld
  have hHeld := hHeld2
  clear hHeld2
  rename World => wq
  (try simp only [Act.put, nz1, nz2, nz3])
  refine tk 27 ⟨some 51, .binOp .neq 30 (.tmp 37) (.tmp 50) 30, 4, _, _, _⟩ hHeld ?_
  (try simp only [Act.put, nz1, nz2, nz3])
  refine tk 28 ⟨some 52, .pick (.tmp 33) (.const (.bool true)) (.tmp 51), 4, _, _, _⟩ hHeld ?_
  (try simp only [Act.put, nz1, nz2, nz3])
  refine wpAnyH_done (by kernel_rfl) ?_ _
  clear hHeld
  rename World => w4
  have lc := Rc.lt
  have ly := Ry.lt
  have lz := Rz.lt
  (try clear c0 c1 c2 c3 c4 c5 c6); obtain ⟨c0, c1, c2, c3, c4, c5, c6⟩ := row7 Rc
  (try clear y0 y1 y2 y3 y4 y5 y6 y7 y8 y9 y10 y11); obtain ⟨y0, y1, y2, y3, y4, y5, y6, y7, y8, y9, y10, y11⟩ := row12 Ry
  (try clear z0 z1 z2 z3 z4 z5 z6 z7 z8 z9 z10 z11); obtain ⟨z0, z1, z2, z3, z4, z5, z6, z7, z8, z9, z10, z11⟩ := row12 Rz
  go_wp2_with fail
  rw [rounds_succ]
  go_wp2
  go_ret
  exact ⟨rfl, hb0⟩
theorem rover9_t (s : Sp) (p q : Px) (op : p.ok) (oq : q.ok) (w : World) : Calls Try.prog 29 #[sv s, pv p, pv q] w fun e w' => e = .returned (.bool (overP s p q)) ∧ Below w.heap.size w w' := by
  have H1 := rright9_t s p op
  have H2 := rright9_t s q oq
  have HC0 := r8cut_t s.d0 p.a0 q.k0 oq.k0
  have HC1 := r8cut_t s.d1 p.a1 q.k1 oq.k1
  have hi := overP_iff s p q
  have hd := @sound_dims s
  have hrt := right_iff s p
  have hrq := right_iff s q
  have E0 := eqK_ke p.k0 (cutD s.d0 p.a0 q.k0)
  have E1 := eqK_ke p.k1 (cutD s.d1 p.a1 q.k1)
  have no : ¬ (rightP s p = true ∧ rightP s q = true ∧ (q.a0 ≤ p.a0 ∧ p.k0 = cutD s.d0 p.a0 q.k0) ∧ q.a1 ≤ p.a1 ∧ p.k1 = cutD s.d1 p.a1 q.k1) → overP s p q = false := fun h => by
    cases ho : overP s p q with
    | false => rfl
    | true => exact absurd (hi.1 ho) h
  cases h1 : rightP s p with
  | false => rw [h1] at H1; rw [no (by rw [h1]; simp)]; exact rover_a s.n s.d0 s.d1 p q kz kz H1 w
  | true =>
    cases h2 : rightP s q with
    | false => rw [h1] at H1; rw [h2] at H2; rw [no (by rw [h2]; simp)]; exact rover_b s.n s.d0 s.d1 p q kz kz H1 H2 w
    | true =>
      rw [h1] at H1
      rw [h2] at H2
      obtain ⟨hs, _, o1⟩ := hrt.1 h1
      obtain ⟨_, _, m1⟩ := hrq.1 h2
      obtain ⟨_, _, hn⟩ := hd hs
      have hq : overP s p q = (decide (q.a0 ≤ p.a0) && (decide (p.k0 = cutD s.d0 p.a0 q.k0) && (decide (q.a1 ≤ p.a1) && decide (p.k1 = cutD s.d1 p.a1 q.k1)))) := by
        rw [Bool.eq_iff_iff, hi, h1, h2]; simp [and_assoc]
      rw [hq]
      clear hq no hi hrt hrq
      obtain ⟨n, d0, d1⟩ := s
      dsimp only at *
      generalize cutD d0 p.a0 q.k0 = u0 at *
      rcases hn with ⟨rfl, rfl⟩ | ⟨rfl, hr1⟩
      · have x1 : decide (q.a1 ≤ p.a1) = true := by
          unfold onE at o1 m1
          simp at o1 m1
          exact decide_eq_true (by omega)
        have x2 : decide (p.k1 = cutD dz p.a1 q.k1) = true := by
          unfold onE at o1
          simp at o1
          rw [cutD_dz]; exact decide_eq_true o1.2
        rw [x1, x2]
        by_cases g0 : p.a0 < q.a0
        · rw [decide_eq_false (by omega : ¬ q.a0 ≤ p.a0)]; exact rover_c1 1 d0 dz p q kz kz H1 H2 g0 w
        rw [decide_eq_true (by omega : q.a0 ≤ p.a0)]
        cases e0 : decide (p.k0 = u0) with
        | false => rw [e0] at E0; exact rover_d1 1 d0 dz p q u0 kz H1 H2 g0 HC0 E0 w
        | true => rw [e0] at E0; exact rover_e1 1 d0 dz p q u0 kz H1 H2 g0 HC0 E0 w
      · generalize cutD d1 p.a1 q.k1 = u1 at *
        by_cases g0 : p.a0 < q.a0
        · rw [decide_eq_false (by omega : ¬ q.a0 ≤ p.a0)]; exact rover_c2 2 d0 d1 p q kz kz H1 H2 g0 w
        rw [decide_eq_true (by omega : q.a0 ≤ p.a0)]
        cases e0 : decide (p.k0 = u0) with
        | false => rw [e0] at E0; exact rover_d2 2 d0 d1 p q u0 kz H1 H2 g0 HC0 E0 w
        | true =>
          rw [e0] at E0
          by_cases g1 : p.a1 < q.a1
          · rw [decide_eq_false (by omega : ¬ q.a1 ≤ p.a1)]; exact rover_e2 2 d0 d1 p q u0 kz H1 H2 g0 HC0 E0 g1 w
          rw [decide_eq_true (by omega : q.a1 ≤ p.a1)]
          cases e1 : decide (p.k1 = u1) with
          | false => rw [e1] at E1; exact rover_f2 2 d0 d1 p q u0 u1 H1 H2 g0 HC0 E0 g1 HC1 E1 w
          | true => rw [e1] at E1; exact rover_g2 2 d0 d1 p q u0 u1 H1 H2 g0 HC0 E0 g1 HC1 E1 w
end Go.Proofs.Ytbekocknfpekoaa
