/- P6, P7, P8, PA, P9, P11, G2, G3, G4, G5, G6: what the theorem needs of these texts. No conditions beyond those that are written. -/
import Derived.Test.YtbekocknfpekoaaP5
namespace Go.Proofs.Ytbekocknfpekoaa
set_option linter.unusedVariables false
set_option linter.unusedSimpArgs false
open Go.RowKit
theorem up9_t (s : Sp) (p : Px) (ok : p.ok) (b0 b1 : Int) (w : World) : Calls Try.prog 26 #[sv s, pv p, .agg #[.int .i64 b0, .int .i64 b1]] w fun e w' => e = .returned (pv (upP s p b0 b1)) ∧ Below w.heap.size w w' := by
  have HR := right9_t s p ok
  have HD0 := ddepth_t s.d0
  have HD1 := ddepth_t s.d1
  have HC0 := dcut_t s.d0 b0 p.k0 ok.k0
  have HC1 := dcut_t s.d1 b1 p.k1 ok.k1
  unfold upP upB upX
  cases hr : rightP s p with
  | false => rw [hr] at HR; rw [Bool.false_and, if_neg (by simp)]; exact up_bad s p b0 b1 HR w
  | true =>
    rw [hr] at HR
    rw [Bool.true_and]
    by_cases g0 : b0 < p.a0
    · rw [decide_eq_false (by omega : ¬ p.a0 ≤ b0), Bool.false_and, if_neg (by simp)]
      exact up_lo0 s p b0 b1 HR g0 w
    rw [decide_eq_true (by omega : p.a0 ≤ b0), Bool.true_and]
    by_cases h0 : depthD s.d0 < b0
    · rw [decide_eq_false (by omega : ¬ b0 ≤ depthD s.d0), Bool.false_and, if_neg (by simp)]
      exact up_hi0 s p b0 b1 HR _ HD0 g0 h0 w
    rw [decide_eq_true (by omega : b0 ≤ depthD s.d0), Bool.true_and]
    by_cases g1 : b1 < p.a1
    · rw [decide_eq_false (by omega : ¬ p.a1 ≤ b1), Bool.false_and, if_neg (by simp)]
      exact up_lo1 s p b0 b1 HR _ HD0 _ HC0 g0 h0 g1 w
    rw [decide_eq_true (by omega : p.a1 ≤ b1), Bool.true_and]
    by_cases h1 : depthD s.d1 < b1
    · rw [decide_eq_false (by omega : ¬ b1 ≤ depthD s.d1), if_neg (by simp)]
      exact up_hi1 s p b0 b1 HR _ HD0 _ HC0 g0 h0 _ HD1 g1 h1 w
    rw [decide_eq_true (by omega : b1 ≤ depthD s.d1), if_pos rfl]
    exact up_ok s p b0 b1 HR _ HD0 _ HC0 g0 h0 _ HD1 _ HC1 g1 h1 w
def overP (s : Sp) (p q : Px) : Bool := rightP s p && decide (p = upP s q p.a0 p.a1)
set_option maxRecDepth 100000 in
set_option maxHeartbeats 16000000 in
theorem over_no (s : Sp) (p q : Px) (HR : ∀ w, Calls Try.prog 20 #[sv s, pv p] w fun e w' => e = .returned (.bool false) ∧ Below w.heap.size w w') (w : World) : Calls Try.prog 28 #[sv s, pv p, pv q] w fun e w' => e = .returned (.bool false) ∧ Below w.heap.size w w' := by
  unfold sv pv at *
  obtain ⟨Rc, Rd, Re, hb0⟩ := three_rows w #[.int .i64 s.n, .int .i64 s.d0.kind, .int .i64 s.d0.side, .int .i64 s.d0.step, .int .i64 s.d1.kind, .int .i64 s.d1.side, .int .i64 s.d1.step] #[.int .i64 p.a0, .int .i64 p.a1, .int .i64 p.k0.kind, .int .i64 p.k0.len, .int .u64 p.k0.h, .int .u64 p.k0.l, .string ⟨p.k0.path.toArray⟩, .int .i64 p.k1.kind, .int .i64 p.k1.len, .int .u64 p.k1.h, .int .u64 p.k1.l, .string ⟨p.k1.path.toArray⟩] #[.int .i64 q.a0, .int .i64 q.a1, .int .i64 q.k0.kind, .int .i64 q.k0.len, .int .u64 q.k0.h, .int .u64 q.k0.l, .string ⟨q.k0.path.toArray⟩, .int .i64 q.k1.kind, .int .i64 q.k1.len, .int .u64 q.k1.h, .int .u64 q.k1.l, .string ⟨q.k1.path.toArray⟩] 26 33 33
  (try clear c0 c1 c2 c3 c4 c5 c6); obtain ⟨c0, c1, c2, c3, c4, c5, c6⟩ := row7 Rc
  (try clear d0 d1 d2 d3 d4 d5 d6 d7 d8 d9 d10 d11); obtain ⟨d0, d1, d2, d3, d4, d5, d6, d7, d8, d9, d10, d11⟩ := row12 Rd
  (try clear e0 e1 e2 e3 e4 e5 e6 e7 e8 e9 e10 e11); obtain ⟨e0, e1, e2, e3, e4, e5, e6, e7, e8, e9, e10, e11⟩ := row12 Re
  go_enter Try.func28, Try.ntmps28
  go_wp2_with fail
  refine wp_region_held_drew (S := (fun w' => w'.cell? ⟨w.heap.size, 0, none⟩ = some (Value.int .i64 s.n) ∧ w'.cell? ⟨w.heap.size, 1, none⟩ = some (Value.int .i64 s.d0.kind) ∧ w'.cell? ⟨w.heap.size, 2, none⟩ = some (Value.int .i64 s.d0.side) ∧ w'.cell? ⟨w.heap.size, 3, none⟩ = some (Value.int .i64 s.d0.step) ∧ w'.cell? ⟨w.heap.size, 4, none⟩ = some (Value.int .i64 s.d1.kind) ∧ w'.cell? ⟨w.heap.size, 5, none⟩ = some (Value.int .i64 s.d1.side) ∧ w'.cell? ⟨w.heap.size, 6, none⟩ = some (Value.int .i64 s.d1.step) ∧ w'.cell? ⟨w.heap.size + 1, 0, none⟩ = some (Value.int .i64 p.a0) ∧ w'.cell? ⟨w.heap.size + 1, 1, none⟩ = some (Value.int .i64 p.a1) ∧ w'.cell? ⟨w.heap.size + 1, 2, none⟩ = some (Value.int .i64 p.k0.kind) ∧ w'.cell? ⟨w.heap.size + 1, 3, none⟩ = some (Value.int .i64 p.k0.len) ∧ w'.cell? ⟨w.heap.size + 1, 4, none⟩ = some (Value.int .u64 p.k0.h) ∧ w'.cell? ⟨w.heap.size + 1, 5, none⟩ = some (Value.int .u64 p.k0.l) ∧ w'.cell? ⟨w.heap.size + 1, 6, none⟩ = some (Value.string ⟨p.k0.path.toArray⟩) ∧ w'.cell? ⟨w.heap.size + 1, 7, none⟩ = some (Value.int .i64 p.k1.kind) ∧ w'.cell? ⟨w.heap.size + 1, 8, none⟩ = some (Value.int .i64 p.k1.len) ∧ w'.cell? ⟨w.heap.size + 1, 9, none⟩ = some (Value.int .u64 p.k1.h) ∧ w'.cell? ⟨w.heap.size + 1, 10, none⟩ = some (Value.int .u64 p.k1.l) ∧ w'.cell? ⟨w.heap.size + 1, 11, none⟩ = some (Value.string ⟨p.k1.path.toArray⟩))) (by kernel_rfl) ?hSr44_ (fun hHeld => ?_)
  case hSr44_ => (exact ⟨c0, c1, c2, c3, c4, c5, c6, d0, d1, d2, d3, d4, d5, d6, d7, d8, d9, d10, d11⟩)
  (clear c0 c1 c2 c3 c4 c5 c6 d0 d1 d2 d3 d4 d5 d6 d7 d8 d9 d10 d11 e0 e1 e2 e3 e4 e5 e6 e7 e8 e9 e10 e11; (replace Rc := Rc.drew); (replace Rd := Rd.drew); (replace Re := Re.drew); (replace hb0 := hb0.drew); (generalize World.drew _ = wq at *))
  refine tk 0 ⟨some 7, .load 26 (.tmp 3), 26, _, _, _⟩ hHeld ?_
  (try simp only [Act.put, nz1, nz2, nz3])
  refine tk 1 ⟨some 8, .load 33 (.tmp 4), 33, _, _, _⟩ hHeld ?_
  (try simp only [Act.put, nz1, nz2, nz3])
  refine wpAnyH_ready (rs := [2]) (by kernel_rfl) (by simp) ?_
  refine AllReadyH.cons (o := ⟨some 9, .call { callee := .value (.func 20), args := #[.tmp 7, .tmp 8], argTypes := #[26, 33] }, 4, _, _, _⟩) rfl (fun K hK => ?_) AllReadyH.nil
  (go_simp; (refine (HR _).mono ?_); (rintro e wz ⟨rfl, hb⟩); (replace Rc := Rc.later hb); (replace Rd := Rd.later hb); (replace Re := Re.later hb); (replace hb0 := below_step hb0 hb); go_wp2_with fail)
  refine hK.out _ _ ?hSr44_3_2 (fun hHeld2 => ?_)
  case hSr44_3_2 => (obtain ⟨c0, c1, c2, c3, c4, c5, c6, d0, d1, d2, d3, d4, d5, d6, d7, d8, d9, d10, d11⟩ := hHeld; exact ⟨cell_later hb c0, cell_later hb c1, cell_later hb c2, cell_later hb c3, cell_later hb c4, cell_later hb c5, cell_later hb c6, cell_later hb d0, cell_later hb d1, cell_later hb d2, cell_later hb d3, cell_later hb d4, cell_later hb d5, cell_later hb d6, cell_later hb d7, cell_later hb d8, cell_later hb d9, cell_later hb d10, cell_later hb d11⟩)
  clear hK K hHeld
  have hHeld := hHeld2
  clear hHeld2
  rename World => wq
  (try simp only [Act.put, nz1, nz2, nz3])
  refine tk 3 ⟨some 10, .move (.tmp 9), 4, _, _, _⟩ hHeld ?_
  (try simp only [Act.put, nz1, nz2, nz3])
  refine ts 4 ⟨some 11, .load 33 (.tmp 4), 33, _, _, _⟩ hHeld ?_
  (try simp only [Act.put, nz1, nz2, nz3])
  refine ts 5 ⟨some 12, .load 26 (.tmp 3), 26, _, _, _⟩ hHeld ?_
  (try simp only [Act.put, nz1, nz2, nz3])
  refine ts 6 ⟨some 13, .load 33 (.tmp 5), 33, _, _, _⟩ hHeld ?_
  (try simp only [Act.put, nz1, nz2, nz3])
  refine ts 7 ⟨some 14, .fieldAddr 33 (.tmp 4) 0, 0, _, _, _⟩ hHeld ?_
  (try simp only [Act.put, nz1, nz2, nz3])
  refine ts 8 ⟨some 15, .load 27 (.tmp 14), 27, _, _, _⟩ hHeld ?_
  (try simp only [Act.put, nz1, nz2, nz3])
  refine ts 9 ⟨some 16, .call { callee := .value (.func 26), args := #[.tmp 12, .tmp 13, .tmp 15], argTypes := #[26, 33, 27] }, 33, _, _, _⟩ hHeld ?_
  (try simp only [Act.put, nz1, nz2, nz3])
  refine ts 10 ⟨some 17, .binOp .eql 33 (.tmp 11) (.tmp 16) 33, 4, _, _, _⟩ hHeld ?_
  (try simp only [Act.put, nz1, nz2, nz3])
  refine tk 11 ⟨some 18, .pick (.tmp 10) (.tmp 17) (.const (.bool false)), 4, _, _, _⟩ hHeld ?_
  (try simp only [Act.put, nz1, nz2, nz3])
  refine tk 12 ⟨some 6, .assign (.tmp 18), 4, _, _, _⟩ hHeld ?_
  (try simp only [Act.put, nz1, nz2, nz3])
  refine wpAnyH_done (by kernel_rfl) ?_ _
  clear hHeld
  rename World => w1
  have lc := Rc.lt
  have ld := Rd.lt
  have le := Re.lt
  (try clear c0 c1 c2 c3 c4 c5 c6); obtain ⟨c0, c1, c2, c3, c4, c5, c6⟩ := row7 Rc
  (try clear d0 d1 d2 d3 d4 d5 d6 d7 d8 d9 d10 d11); obtain ⟨d0, d1, d2, d3, d4, d5, d6, d7, d8, d9, d10, d11⟩ := row12 Rd
  (try clear e0 e1 e2 e3 e4 e5 e6 e7 e8 e9 e10 e11); obtain ⟨e0, e1, e2, e3, e4, e5, e6, e7, e8, e9, e10, e11⟩ := row12 Re
  go_wp2
  go_ret
  exact ⟨rfl, hb0⟩
set_option maxRecDepth 100000 in
set_option maxHeartbeats 16000000 in
theorem over_go (s : Sp) (p q u : Px) (HR : ∀ w, Calls Try.prog 20 #[sv s, pv p] w fun e w' => e = .returned (.bool true) ∧ Below w.heap.size w w')
    (HU : ∀ w, Calls Try.prog 26 #[sv s, pv q, .agg #[.int .i64 p.a0, .int .i64 p.a1]] w fun e w' => e = .returned (pv u) ∧ Below w.heap.size w w') (w : World) : Calls Try.prog 28 #[sv s, pv p, pv q] w fun e w' => e = .returned (.bool (decide (p = u))) ∧ Below w.heap.size w w' := by
  have qe := eql_px p u
  generalize decide (p = u) = b at *
  unfold sv pv at *
  obtain ⟨Rc, Rd, Re, hb0⟩ := three_rows w #[.int .i64 s.n, .int .i64 s.d0.kind, .int .i64 s.d0.side, .int .i64 s.d0.step, .int .i64 s.d1.kind, .int .i64 s.d1.side, .int .i64 s.d1.step] #[.int .i64 p.a0, .int .i64 p.a1, .int .i64 p.k0.kind, .int .i64 p.k0.len, .int .u64 p.k0.h, .int .u64 p.k0.l, .string ⟨p.k0.path.toArray⟩, .int .i64 p.k1.kind, .int .i64 p.k1.len, .int .u64 p.k1.h, .int .u64 p.k1.l, .string ⟨p.k1.path.toArray⟩] #[.int .i64 q.a0, .int .i64 q.a1, .int .i64 q.k0.kind, .int .i64 q.k0.len, .int .u64 q.k0.h, .int .u64 q.k0.l, .string ⟨q.k0.path.toArray⟩, .int .i64 q.k1.kind, .int .i64 q.k1.len, .int .u64 q.k1.h, .int .u64 q.k1.l, .string ⟨q.k1.path.toArray⟩] 26 33 33
  (try clear c0 c1 c2 c3 c4 c5 c6); obtain ⟨c0, c1, c2, c3, c4, c5, c6⟩ := row7 Rc
  (try clear d0 d1 d2 d3 d4 d5 d6 d7 d8 d9 d10 d11); obtain ⟨d0, d1, d2, d3, d4, d5, d6, d7, d8, d9, d10, d11⟩ := row12 Rd
  (try clear e0 e1 e2 e3 e4 e5 e6 e7 e8 e9 e10 e11); obtain ⟨e0, e1, e2, e3, e4, e5, e6, e7, e8, e9, e10, e11⟩ := row12 Re
  go_enter Try.func28, Try.ntmps28
  go_wp2_with fail
  refine wp_region_held_drew (S := (fun w' => w'.cell? ⟨w.heap.size, 0, none⟩ = some (Value.int .i64 s.n) ∧ w'.cell? ⟨w.heap.size, 1, none⟩ = some (Value.int .i64 s.d0.kind) ∧ w'.cell? ⟨w.heap.size, 2, none⟩ = some (Value.int .i64 s.d0.side) ∧ w'.cell? ⟨w.heap.size, 3, none⟩ = some (Value.int .i64 s.d0.step) ∧ w'.cell? ⟨w.heap.size, 4, none⟩ = some (Value.int .i64 s.d1.kind) ∧ w'.cell? ⟨w.heap.size, 5, none⟩ = some (Value.int .i64 s.d1.side) ∧ w'.cell? ⟨w.heap.size, 6, none⟩ = some (Value.int .i64 s.d1.step) ∧ w'.cell? ⟨w.heap.size + 1, 0, none⟩ = some (Value.int .i64 p.a0) ∧ w'.cell? ⟨w.heap.size + 1, 1, none⟩ = some (Value.int .i64 p.a1) ∧ w'.cell? ⟨w.heap.size + 1, 2, none⟩ = some (Value.int .i64 p.k0.kind) ∧ w'.cell? ⟨w.heap.size + 1, 3, none⟩ = some (Value.int .i64 p.k0.len) ∧ w'.cell? ⟨w.heap.size + 1, 4, none⟩ = some (Value.int .u64 p.k0.h) ∧ w'.cell? ⟨w.heap.size + 1, 5, none⟩ = some (Value.int .u64 p.k0.l) ∧ w'.cell? ⟨w.heap.size + 1, 6, none⟩ = some (Value.string ⟨p.k0.path.toArray⟩) ∧ w'.cell? ⟨w.heap.size + 1, 7, none⟩ = some (Value.int .i64 p.k1.kind) ∧ w'.cell? ⟨w.heap.size + 1, 8, none⟩ = some (Value.int .i64 p.k1.len) ∧ w'.cell? ⟨w.heap.size + 1, 9, none⟩ = some (Value.int .u64 p.k1.h) ∧ w'.cell? ⟨w.heap.size + 1, 10, none⟩ = some (Value.int .u64 p.k1.l) ∧ w'.cell? ⟨w.heap.size + 1, 11, none⟩ = some (Value.string ⟨p.k1.path.toArray⟩) ∧ w'.cell? ⟨w.heap.size + 1 + 1, 0, none⟩ = some (Value.int .i64 q.a0) ∧ w'.cell? ⟨w.heap.size + 1 + 1, 1, none⟩ = some (Value.int .i64 q.a1) ∧ w'.cell? ⟨w.heap.size + 1 + 1, 2, none⟩ = some (Value.int .i64 q.k0.kind) ∧ w'.cell? ⟨w.heap.size + 1 + 1, 3, none⟩ = some (Value.int .i64 q.k0.len) ∧ w'.cell? ⟨w.heap.size + 1 + 1, 4, none⟩ = some (Value.int .u64 q.k0.h) ∧ w'.cell? ⟨w.heap.size + 1 + 1, 5, none⟩ = some (Value.int .u64 q.k0.l) ∧ w'.cell? ⟨w.heap.size + 1 + 1, 6, none⟩ = some (Value.string ⟨q.k0.path.toArray⟩) ∧ w'.cell? ⟨w.heap.size + 1 + 1, 7, none⟩ = some (Value.int .i64 q.k1.kind) ∧ w'.cell? ⟨w.heap.size + 1 + 1, 8, none⟩ = some (Value.int .i64 q.k1.len) ∧ w'.cell? ⟨w.heap.size + 1 + 1, 9, none⟩ = some (Value.int .u64 q.k1.h) ∧ w'.cell? ⟨w.heap.size + 1 + 1, 10, none⟩ = some (Value.int .u64 q.k1.l) ∧ w'.cell? ⟨w.heap.size + 1 + 1, 11, none⟩ = some (Value.string ⟨q.k1.path.toArray⟩))) (by kernel_rfl) ?hSr45_ (fun hHeld => ?_)
  case hSr45_ => (exact ⟨c0, c1, c2, c3, c4, c5, c6, d0, d1, d2, d3, d4, d5, d6, d7, d8, d9, d10, d11, e0, e1, e2, e3, e4, e5, e6, e7, e8, e9, e10, e11⟩)
  (clear c0 c1 c2 c3 c4 c5 c6 d0 d1 d2 d3 d4 d5 d6 d7 d8 d9 d10 d11 e0 e1 e2 e3 e4 e5 e6 e7 e8 e9 e10 e11; (replace Rc := Rc.drew); (replace Rd := Rd.drew); (replace Re := Re.drew); (replace hb0 := hb0.drew); (generalize World.drew _ = wq at *))
  refine tk 0 ⟨some 7, .load 26 (.tmp 3), 26, _, _, _⟩ hHeld ?_
  (try simp only [Act.put, nz1, nz2, nz3])
  refine tk 1 ⟨some 8, .load 33 (.tmp 4), 33, _, _, _⟩ hHeld ?_
  (try simp only [Act.put, nz1, nz2, nz3])
  refine wpAnyH_ready (rs := [2]) (by kernel_rfl) (by simp) ?_
  refine AllReadyH.cons (o := ⟨some 9, .call { callee := .value (.func 20), args := #[.tmp 7, .tmp 8], argTypes := #[26, 33] }, 4, _, _, _⟩) rfl (fun K hK => ?_) AllReadyH.nil
  (go_simp; (refine (HR _).mono ?_); (rintro e wz ⟨rfl, hb⟩); (replace Rc := Rc.later hb); (replace Rd := Rd.later hb); (replace Re := Re.later hb); (replace hb0 := below_step hb0 hb); go_wp2_with fail)
  refine hK.out _ _ ?hSr45_3_2 (fun hHeld2 => ?_)
  case hSr45_3_2 => (obtain ⟨c0, c1, c2, c3, c4, c5, c6, d0, d1, d2, d3, d4, d5, d6, d7, d8, d9, d10, d11, e0, e1, e2, e3, e4, e5, e6, e7, e8, e9, e10, e11⟩ := hHeld; exact ⟨cell_later hb c0, cell_later hb c1, cell_later hb c2, cell_later hb c3, cell_later hb c4, cell_later hb c5, cell_later hb c6, cell_later hb d0, cell_later hb d1, cell_later hb d2, cell_later hb d3, cell_later hb d4, cell_later hb d5, cell_later hb d6, cell_later hb d7, cell_later hb d8, cell_later hb d9, cell_later hb d10, cell_later hb d11, cell_later hb e0, cell_later hb e1, cell_later hb e2, cell_later hb e3, cell_later hb e4, cell_later hb e5, cell_later hb e6, cell_later hb e7, cell_later hb e8, cell_later hb e9, cell_later hb e10, cell_later hb e11⟩)
  clear hK K hHeld
  have hHeld := hHeld2
  clear hHeld2
  rename World => wq
  (try simp only [Act.put, nz1, nz2, nz3])
  refine tk 3 ⟨some 10, .move (.tmp 9), 4, _, _, _⟩ hHeld ?_
  (try simp only [Act.put, nz1, nz2, nz3])
  refine tk 4 ⟨some 11, .load 33 (.tmp 4), 33, _, _, _⟩ hHeld ?_
  (try simp only [Act.put, nz1, nz2, nz3])
  refine tk 5 ⟨some 12, .load 26 (.tmp 3), 26, _, _, _⟩ hHeld ?_
  (try simp only [Act.put, nz1, nz2, nz3])
  refine tk 6 ⟨some 13, .load 33 (.tmp 5), 33, _, _, _⟩ hHeld ?_
  (try simp only [Act.put, nz1, nz2, nz3])
  refine tk 7 ⟨some 14, .fieldAddr 33 (.tmp 4) 0, 0, _, _, _⟩ hHeld ?_
  (try simp only [Act.put, nz1, nz2, nz3])
  refine tk 8 ⟨some 15, .load 27 (.tmp 14), 27, _, _, _⟩ hHeld ?_
  (try simp only [Act.put, nz1, nz2, nz3])
  refine wpAnyH_ready (rs := [9]) (by kernel_rfl) (by simp) ?_
  refine AllReadyH.cons (o := ⟨some 16, .call { callee := .value (.func 26), args := #[.tmp 12, .tmp 13, .tmp 15], argTypes := #[26, 33, 27] }, 33, _, _, _⟩) rfl (fun K hK => ?_) AllReadyH.nil
  (go_simp; (refine (HU _).mono ?_); (rintro e wz ⟨rfl, hb⟩); (replace Rc := Rc.later hb); (replace Rd := Rd.later hb); (replace Re := Re.later hb); (replace hb0 := below_step hb0 hb); go_wp2_with fail)
  refine hK.out _ _ ?hSr45_10_9 (fun hHeld2 => ?_)
  case hSr45_10_9 => (obtain ⟨c0, c1, c2, c3, c4, c5, c6, d0, d1, d2, d3, d4, d5, d6, d7, d8, d9, d10, d11, e0, e1, e2, e3, e4, e5, e6, e7, e8, e9, e10, e11⟩ := hHeld; exact ⟨cell_later hb c0, cell_later hb c1, cell_later hb c2, cell_later hb c3, cell_later hb c4, cell_later hb c5, cell_later hb c6, cell_later hb d0, cell_later hb d1, cell_later hb d2, cell_later hb d3, cell_later hb d4, cell_later hb d5, cell_later hb d6, cell_later hb d7, cell_later hb d8, cell_later hb d9, cell_later hb d10, cell_later hb d11, cell_later hb e0, cell_later hb e1, cell_later hb e2, cell_later hb e3, cell_later hb e4, cell_later hb e5, cell_later hb e6, cell_later hb e7, cell_later hb e8, cell_later hb e9, cell_later hb e10, cell_later hb e11⟩)
  clear hK K hHeld
  have hHeld := hHeld2
  clear hHeld2
  rename World => wq
  (try simp only [Act.put, nz1, nz2, nz3])
  refine tk 10 ⟨some 17, .binOp .eql 33 (.tmp 11) (.tmp 16) 33, 4, _, _, _⟩ hHeld ?_
  (try simp only [Act.put, nz1, nz2, nz3])
  refine tk 11 ⟨some 18, .pick (.tmp 10) (.tmp 17) (.const (.bool false)), 4, _, _, _⟩ hHeld ?_
  (try simp only [Act.put, nz1, nz2, nz3])
  refine tk 12 ⟨some 6, .assign (.tmp 18), 4, _, _, _⟩ hHeld ?_
  (try simp only [Act.put, nz1, nz2, nz3])
  refine wpAnyH_done (by kernel_rfl) ?_ _
  clear hHeld
  rename World => w1
  have lc := Rc.lt
  have ld := Rd.lt
  have le := Re.lt
  (try clear c0 c1 c2 c3 c4 c5 c6); obtain ⟨c0, c1, c2, c3, c4, c5, c6⟩ := row7 Rc
  (try clear d0 d1 d2 d3 d4 d5 d6 d7 d8 d9 d10 d11); obtain ⟨d0, d1, d2, d3, d4, d5, d6, d7, d8, d9, d10, d11⟩ := row12 Rd
  (try clear e0 e1 e2 e3 e4 e5 e6 e7 e8 e9 e10 e11); obtain ⟨e0, e1, e2, e3, e4, e5, e6, e7, e8, e9, e10, e11⟩ := row12 Re
  go_wp2
  go_ret
  exact ⟨rfl, hb0⟩
theorem over9_t (s : Sp) (p q : Px) (op : p.ok) (oq : q.ok) (w : World) : Calls Try.prog 28 #[sv s, pv p, pv q] w fun e w' => e = .returned (.bool (overP s p q)) ∧ Below w.heap.size w w' := by
  have HR := right9_t s p op
  have HU := up9_t s q oq p.a0 p.a1
  unfold overP
  cases hr : rightP s p with
  | false => rw [hr] at HR; exact over_no s p q HR w
  | true => rw [hr] at HR; exact over_go s p q _ HR HU w
/-- in each dimension the lower one of the two -/
def crossX (p q : Px) : Px := ⟨if q.a0 < p.a0 then q.a0 else p.a0, if q.a1 < p.a1 then q.a1 else p.a1, if q.a0 < p.a0 then q.k0 else p.k0, if q.a1 < p.a1 then q.k1 else p.k1⟩
def crossB (s : Sp) (p q : Px) : Bool := overP s p (crossX p q) && overP s q (crossX p q)
def crossP (s : Sp) (p q : Px) : Px := if crossB s p q = true then crossX p q else pz
end Go.Proofs.Ytbekocknfpekoaa
namespace Go.Proofs.Ytbekocknfpekoaa
set_option linter.unusedVariables false
set_option linter.unusedSimpArgs false
open Go.RowKit
def topP (s : Sp) : Px := if soundS s = true then ⟨depthD s.d0, depthD s.d1, rootK s.d0.kind, rootK s.d1.kind⟩ else pz
set_option maxRecDepth 100000 in
set_option maxHeartbeats 16000000 in
theorem top_go (s : Sp) (b : Bool) (D0 D1 : Int) (u0 u1 : Ke) (HS : ∀ w, Calls Try.prog 18 #[sv s] w fun e w' => e = .returned (.bool b) ∧ Below w.heap.size w w')
    (HD0 : ∀ w, Calls Try.prog 55 #[dv s.d0] w fun e w' => e = .returned (.int .i64 D0) ∧ Below w.heap.size w w') (HD1 : ∀ w, Calls Try.prog 55 #[dv s.d1] w fun e w' => e = .returned (.int .i64 D1) ∧ Below w.heap.size w w')
    (HK0 : ∀ w, Calls Try.prog 56 #[.int .i64 s.d0.kind] w fun e w' => e = .returned (kv u0) ∧ Below w.heap.size w w') (HK1 : ∀ w, Calls Try.prog 56 #[.int .i64 s.d1.kind] w fun e w' => e = .returned (kv u1) ∧ Below w.heap.size w w') (w : World) :
    Calls Try.prog 22 #[sv s] w fun e w' => e = .returned (pv (if b = true then ⟨D0, D1, u0, u1⟩ else pz)) ∧ Below w.heap.size w w' := by
  have i0 := ixd0
  have i1 := ixd1
  unfold pz kz
  unfold pv sv dv kv at *
  (try dsimp only at *)
  obtain ⟨Rc, Rr, hb0⟩ := two_rows w #[.int .i64 s.n, .int .i64 s.d0.kind, .int .i64 s.d0.side, .int .i64 s.d0.step, .int .i64 s.d1.kind, .int .i64 s.d1.side, .int .i64 s.d1.step] #[.int .i64 0, .int .i64 0, .int .i64 0, .int .i64 0, .int .u64 0, .int .u64 0, .string ⟨#[]⟩, .int .i64 0, .int .i64 0, .int .u64 0, .int .u64 0, .string ⟨#[]⟩] 26 33
  (try clear c0 c1 c2 c3 c4 c5 c6); obtain ⟨c0, c1, c2, c3, c4, c5, c6⟩ := row7 Rc
  (try clear r0 r1 r2 r3 r4 r5 r6 r7 r8 r9 r10 r11); obtain ⟨r0, r1, r2, r3, r4, r5, r6, r7, r8, r9, r10, r11⟩ := row12 Rr
  go_enter Try.func22, Try.ntmps22
  cases b with
  | false =>
    go_wp2_with fail
    refine (HS _).mono ?_
    rintro e w1 ⟨rfl, hb⟩
    replace Rc := (Rc.alloc _).later hb
    replace Rr := (Rr.alloc _).later hb
    have Rp := Row.later (Row.new _ _ _) hb
    simp only [World.size_alloc] at Rp
    replace hb0 := below_step (hb0.alloc hb0.size _) hb
    clear hb
    have lc := Rc.lt
    have lr := Rr.lt
    have lp := Rp.lt
    (try clear c0 c1 c2 c3 c4 c5 c6); obtain ⟨c0, c1, c2, c3, c4, c5, c6⟩ := row7 Rc
    (try clear r0 r1 r2 r3 r4 r5 r6 r7 r8 r9 r10 r11); obtain ⟨r0, r1, r2, r3, r4, r5, r6, r7, r8, r9, r10, r11⟩ := row12 Rr
    (try clear p0 p1 p2 p3 p4 p5 p6 p7 p8 p9 p10 p11); obtain ⟨p0, p1, p2, p3, p4, p5, p6, p7, p8, p9, p10, p11⟩ := row12 Rp
    have rf0 := Rr.frozen 0
    have rf1 := Rr.frozen 1
    have rf2 := Rr.frozen 2
    have rf3 := Rr.frozen 3
    have rf4 := Rr.frozen 4
    have rf5 := Rr.frozen 5
    have rf6 := Rr.frozen 6
    have rf7 := Rr.frozen 7
    have rf8 := Rr.frozen 8
    have rf9 := Rr.frozen 9
    have rf10 := Rr.frozen 10
    have rf11 := Rr.frozen 11
    go_wp2
    obtain ⟨w2, hwn⟩ : ∃ wz, wz = (World.setCell (World.setCell (World.setCell (World.setCell (World.setCell (World.setCell (World.setCell (World.setCell (World.setCell (World.setCell (World.setCell (World.setCell w1 ⟨(w.heap.size + 1), 0, none⟩ (.int .i64 0)) ⟨(w.heap.size + 1), 1, none⟩ (.int .i64 0)) ⟨(w.heap.size + 1), 2, none⟩ (.int .i64 0)) ⟨(w.heap.size + 1), 3, none⟩ (.int .i64 0)) ⟨(w.heap.size + 1), 4, none⟩ (.int .u64 0)) ⟨(w.heap.size + 1), 5, none⟩ (.int .u64 0)) ⟨(w.heap.size + 1), 6, none⟩ (.string ⟨#[]⟩)) ⟨(w.heap.size + 1), 7, none⟩ (.int .i64 0)) ⟨(w.heap.size + 1), 8, none⟩ (.int .i64 0)) ⟨(w.heap.size + 1), 9, none⟩ (.int .u64 0)) ⟨(w.heap.size + 1), 10, none⟩ (.int .u64 0)) ⟨(w.heap.size + 1), 11, none⟩ (.string ⟨#[]⟩)) := ⟨_, rfl⟩
    rw [← hwn]
    replace hwn : w2 = World.setCells w1 (w.heap.size + 1) 0 [.int .i64 0, .int .i64 0, .int .i64 0, .int .i64 0, .int .u64 0, .int .u64 0, .string ⟨#[]⟩, .int .i64 0, .int .i64 0, .int .u64 0, .int .u64 0, .string ⟨#[]⟩] := hwn
    replace Rr : Row w2 (w.heap.size + 1) #[.int .i64 0, .int .i64 0, .int .i64 0, .int .i64 0, .int .u64 0, .int .u64 0, .string ⟨#[]⟩, .int .i64 0, .int .i64 0, .int .u64 0, .int .u64 0, .string ⟨#[]⟩] 33 := psm hwn Rr (by simp [setL])
    replace Rc := prf hwn Rc
    replace Rp := prf hwn Rp
    replace hb0 := pbl hwn hb0
    clear hwn c0 c1 c2 c3 c4 c5 c6 r0 r1 r2 r3 r4 r5 r6 r7 r8 r9 r10 r11 p0 p1 p2 p3 p4 p5 p6 p7 p8 p9 p10 p11
    (try clear rf0 rf1 rf2 rf3 rf4 rf5 rf6 rf7 rf8 rf9 rf10 rf11)
    (try clear c0 c1 c2 c3 c4 c5 c6); obtain ⟨c0, c1, c2, c3, c4, c5, c6⟩ := row7 Rc
    (try clear r0 r1 r2 r3 r4 r5 r6 r7 r8 r9 r10 r11); obtain ⟨r0, r1, r2, r3, r4, r5, r6, r7, r8, r9, r10, r11⟩ := row12 Rr
    (try clear p0 p1 p2 p3 p4 p5 p6 p7 p8 p9 p10 p11); obtain ⟨p0, p1, p2, p3, p4, p5, p6, p7, p8, p9, p10, p11⟩ := row12 Rp
    refine bodyPost_ret (v := .agg #[.int .i64 0, .int .i64 0, .int .i64 0, .int .i64 0, .int .u64 0, .int .u64 0, .string ⟨#[]⟩, .int .i64 0, .int .i64 0, .int .u64 0, .int .u64 0, .string ⟨#[]⟩]) (by simp [results, Try.results22, go_sem, r0, r1, r2, r3, r4, r5, r6, r7, r8, r9, r10, r11]) rfl ⟨rfl, hb0⟩
  | true =>
    go_wp2_with fail
    refine (HS _).mono ?_
    rintro e w1 ⟨rfl, hb⟩
    replace Rc := (Rc.alloc _).later hb
    replace Rr := (Rr.alloc _).later hb
    have Rp := Row.later (Row.new _ _ _) hb
    simp only [World.size_alloc] at Rp
    replace hb0 := below_step (hb0.alloc hb0.size _) hb
    clear hb
    have lc := Rc.lt
    have lr := Rr.lt
    have lp := Rp.lt
    (try clear c0 c1 c2 c3 c4 c5 c6); obtain ⟨c0, c1, c2, c3, c4, c5, c6⟩ := row7 Rc
    (try clear r0 r1 r2 r3 r4 r5 r6 r7 r8 r9 r10 r11); obtain ⟨r0, r1, r2, r3, r4, r5, r6, r7, r8, r9, r10, r11⟩ := row12 Rr
    (try clear p0 p1 p2 p3 p4 p5 p6 p7 p8 p9 p10 p11); obtain ⟨p0, p1, p2, p3, p4, p5, p6, p7, p8, p9, p10, p11⟩ := row12 Rp
    go_wp2_with fail
    refine wp_loop_rounds 3 ?_
    rw [rounds_succ]
    go_wp2_with fail
    replace Rc := Rc.alloc (.cells #[Value.int .i64 s.d0.kind, Value.int .i64 s.d0.side, Value.int .i64 s.d0.step] 23)
    replace Rr := Rr.alloc (.cells #[Value.int .i64 s.d0.kind, Value.int .i64 s.d0.side, Value.int .i64 s.d0.step] 23)
    replace Rp := Rp.alloc (.cells #[Value.int .i64 s.d0.kind, Value.int .i64 s.d0.side, Value.int .i64 s.d0.step] 23)
    have Rf0x := Row.new w1 #[Value.int .i64 s.d0.kind, Value.int .i64 s.d0.side, Value.int .i64 s.d0.step] 23
    have mf0x := hb0.size
    replace hb0 := hb0.alloc hb0.size (.cells #[Value.int .i64 s.d0.kind, Value.int .i64 s.d0.side, Value.int .i64 s.d0.step] 23)
    (try clear c0 c1 c2 c3 c4 c5 c6); obtain ⟨c0, c1, c2, c3, c4, c5, c6⟩ := row7 Rc
    (try clear r0 r1 r2 r3 r4 r5 r6 r7 r8 r9 r10 r11); obtain ⟨r0, r1, r2, r3, r4, r5, r6, r7, r8, r9, r10, r11⟩ := row12 Rr
    (try clear p0 p1 p2 p3 p4 p5 p6 p7 p8 p9 p10 p11); obtain ⟨p0, p1, p2, p3, p4, p5, p6, p7, p8, p9, p10, p11⟩ := row12 Rp
    (try clear f0x0 f0x1 f0x2); obtain ⟨f0x0, f0x1, f0x2⟩ := row3 Rf0x
    refine wp_region_held_drew (S := (fun w' => w'.cell? ⟨w1.heap.size, 0, none⟩ = some (Value.int .i64 s.d0.kind) ∧ w'.cell? ⟨w1.heap.size, 1, none⟩ = some (Value.int .i64 s.d0.side) ∧ w'.cell? ⟨w1.heap.size, 2, none⟩ = some (Value.int .i64 s.d0.step))) (by kernel_rfl) ?hSr50_ (fun hHeld => ?_)
    case hSr50_ => (exact ⟨f0x0, f0x1, f0x2⟩)
    (clear c0 c1 c2 c3 c4 c5 c6 r0 r1 r2 r3 r4 r5 r6 r7 r8 r9 r10 r11 p0 p1 p2 p3 p4 p5 p6 p7 p8 p9 p10 p11 f0x0 f0x1 f0x2; (replace Rc := Rc.drew); (replace Rr := Rr.drew); (replace Rp := Rp.drew); (replace Rf0x := Rf0x.drew); (replace hb0 := hb0.drew); (generalize World.drew (World.alloc w1 (.cells #[Value.int .i64 s.d0.kind, Value.int .i64 s.d0.side, Value.int .i64 s.d0.step] 23)) = wq at *))
    refine tk 0 ⟨some 16, .move (.tmp 4), 3, _, _, _⟩ hHeld ?_
    (try simp only [Act.put, nz1, nz2, nz3])
    refine tk 1 ⟨some 17, .move (.tmp 4), 3, _, _, _⟩ hHeld ?_
    (try simp only [Act.put, nz1, nz2, nz3])
    refine tk 2 ⟨some 18, .load 23 (.tmp 5), 23, _, _, _⟩ hHeld ?_
    (try simp only [Act.put, nz1, nz2, nz3])
    refine tk 4 ⟨some 20, .fieldAddr 23 (.tmp 5) 0, 0, _, _, _⟩ hHeld ?_
    (try simp only [Act.put, nz1, nz2, nz3])
    refine tk 5 ⟨some 21, .load 3 (.tmp 20), 3, _, _, _⟩ hHeld ?_
    (try simp only [Act.put, nz1, nz2, nz3])
    refine tk 7 ⟨some 23, .fieldAddr 33 (.tmp 3) 0, 0, _, _, _⟩ hHeld ?_
    (try simp only [Act.put, nz1, nz2, nz3])
    refine tk 10 ⟨some 25, .fieldAddr 33 (.tmp 3) 1, 0, _, _, _⟩ hHeld ?_
    (try simp only [Act.put, nz1, nz2, nz3])
    refine wpAnyH_ready (rs := [3]) (by kernel_rfl) (by simp) ?_
    refine AllReadyH.cons (o := ⟨some 19, .call { callee := .value (.func 55), args := #[.tmp 18], argTypes := #[23] }, 3, _, _, _⟩) rfl (fun K hK => ?_) AllReadyH.nil
    (go_simp; (refine (HD0 _).mono ?_); (rintro e wz ⟨rfl, hb⟩); (replace Rc := Rc.later hb); (replace Rr := Rr.later hb); (replace Rp := Rp.later hb); (replace Rf0x := Rf0x.later hb); (replace hb0 := below_step hb0 hb); go_wp2_with fail)
    refine hK.out _ _ ?hSr50_8_3 (fun hHeld2 => ?_)
    case hSr50_8_3 => (obtain ⟨f0x0, f0x1, f0x2⟩ := hHeld; exact ⟨cell_later hb f0x0, cell_later hb f0x1, cell_later hb f0x2⟩)
    clear hK K hHeld
    have hHeld := hHeld2
    clear hHeld2
    rename World => wq
    (try simp only [Act.put, nz1, nz2, nz3])
    refine tk 8 ⟨some 24, .indexAddr 27 (.tmp 23) (.tmp 16), 0, _, _, _⟩ hHeld ?_
    (try simp only [Act.put, nz1, nz2, nz3])
    refine wpAnyH_ready (rs := [6]) (by kernel_rfl) (by simp) ?_
    refine AllReadyH.cons (o := ⟨some 22, .call { callee := .value (.func 56), args := #[.tmp 21], argTypes := #[3] }, 30, _, _, _⟩) rfl (fun K hK => ?_) AllReadyH.nil
    (go_simp; (refine (HK0 _).mono ?_); (rintro e wz ⟨rfl, hb⟩); (replace Rc := Rc.later hb); (replace Rr := Rr.later hb); (replace Rp := Rp.later hb); (replace Rf0x := Rf0x.later hb); (replace hb0 := below_step hb0 hb); go_wp2_with fail)
    refine hK.out _ _ ?hSr50_10_6 (fun hHeld2 => ?_)
    case hSr50_10_6 => (obtain ⟨f0x0, f0x1, f0x2⟩ := hHeld; exact ⟨cell_later hb f0x0, cell_later hb f0x1, cell_later hb f0x2⟩)
    clear hK K hHeld
    have hHeld := hHeld2
    clear hHeld2
    rename World => wq
    (try simp only [Act.put, nz1, nz2, nz3])
    refine wpAnyH_ready (rs := [9]) (by kernel_rfl) (by simp) ?_
    refine AllReadyH.cons (o := ⟨none, .store 3 (.tmp 24) (.tmp 19), 0, _, _, _⟩) rfl (fun K hK => ?_) AllReadyH.nil
    ((obtain ⟨zc0, zd1, zd2, zd3, zd4, zd5, zd6, zd7, zd8, zd9, zd10, zd11⟩ := row12 Rp); (have zf0 := Rp.frozen 0); (have hHq := hHeld); (obtain ⟨f0x0, f0x1, f0x2⟩ := hHq); go_simp; clear zc0 zf0 zd1 zd2 zd3 zd4 zd5 zd6 zd7 zd8 zd9 zd10 zd11; (replace f0x0 := pcell_far (g := (w.heap.size + 1 + 1)) (o := 0) (vs := [Value.int .i64 D0]) f0x0 (by first | omega | (simp; done) | (simp; omega) | omega)); (replace f0x1 := pcell_far (g := (w.heap.size + 1 + 1)) (o := 0) (vs := [Value.int .i64 D0]) f0x1 (by first | omega | (simp; done) | (simp; omega) | omega)); (replace f0x2 := pcell_far (g := (w.heap.size + 1 + 1)) (o := 0) (vs := [Value.int .i64 D0]) f0x2 (by first | omega | (simp; done) | (simp; omega) | omega)); (replace Rc := prow_far (g := (w.heap.size + 1 + 1)) (o := 0) (vs := [Value.int .i64 D0]) Rc (by first | omega | (simp; done) | (simp; omega) | omega)); (replace Rr := prow_far (g := (w.heap.size + 1 + 1)) (o := 0) (vs := [Value.int .i64 D0]) Rr (by first | omega | (simp; done) | (simp; omega) | omega)); (replace Rf0x := prow_far (g := (w.heap.size + 1 + 1)) (o := 0) (vs := [Value.int .i64 D0]) Rf0x (by first | omega | (simp; done) | (simp; omega) | omega)); (replace hb0 := below_setCells (g := (w.heap.size + 1 + 1)) (by omega) [Value.int .i64 D0] 0 _ hb0); (replace Rp : Row (World.setCells wq (w.heap.size + 1 + 1) 0 [Value.int .i64 D0]) (w.heap.size + 1 + 1) #[.int .i64 D0, .int .i64 0, .int .i64 0, .int .i64 0, .int .u64 0, .int .u64 0, .string ⟨#[]⟩, .int .i64 0, .int .i64 0, .int .u64 0, .int .u64 0, .string ⟨#[]⟩] 33 := Row.setMany Rp 0 [Value.int .i64 D0] (by simp [setL])); (simp only [World.setCells] at Rc Rr Rp Rf0x f0x0 f0x1 f0x2 hb0); generalize (World.setCell wq ⟨(w.heap.size + 1 + 1), 0, none⟩ (Value.int .i64 D0)) = wz at *)
    refine hK.out _ _ ?hSr50_11_9 (fun hHeld2 => ?_)
    case hSr50_11_9 => (exact ⟨f0x0, f0x1, f0x2⟩)
    clear hK K hHeld
    have hHeld := hHeld2
    clear hHeld2
    rename World => wq
    (try simp only [Act.put, nz1, nz2, nz3])
    refine tk 11 ⟨some 26, .indexAddr 31 (.tmp 25) (.tmp 17), 0, _, _, _⟩ hHeld ?_
    (try simp only [Act.put, nz1, nz2, nz3])
    refine wpAnyH_ready (rs := [12]) (by kernel_rfl) (by simp) ?_
    refine AllReadyH.cons (o := ⟨none, .store 30 (.tmp 26) (.tmp 22), 0, _, _, _⟩) rfl (fun K hK => ?_) AllReadyH.nil
    ((obtain ⟨zd0, zd1, zc0, zc1, zc2, zc3, zc4, zd7, zd8, zd9, zd10, zd11⟩ := row12 Rp); (have zf0 := Rp.frozen 2); (have zf1 := Rp.frozen 3); (have zf2 := Rp.frozen 4); (have zf3 := Rp.frozen 5); (have zf4 := Rp.frozen 6); (have hHq := hHeld); (obtain ⟨f0x0, f0x1, f0x2⟩ := hHq); go_simp; clear zc0 zf0 zc1 zf1 zc2 zf2 zc3 zf3 zc4 zf4 zd0 zd1 zd7 zd8 zd9 zd10 zd11; (replace f0x0 := pcell_far (g := (w.heap.size + 1 + 1)) (o := 2) (vs := [Value.int .i64 u0.kind, Value.int .i64 u0.len, Value.int .u64 u0.h, Value.int .u64 u0.l, Value.string ⟨u0.path.toArray⟩]) f0x0 (by first | omega | (simp; done) | (simp; omega) | omega)); (replace f0x1 := pcell_far (g := (w.heap.size + 1 + 1)) (o := 2) (vs := [Value.int .i64 u0.kind, Value.int .i64 u0.len, Value.int .u64 u0.h, Value.int .u64 u0.l, Value.string ⟨u0.path.toArray⟩]) f0x1 (by first | omega | (simp; done) | (simp; omega) | omega)); (replace f0x2 := pcell_far (g := (w.heap.size + 1 + 1)) (o := 2) (vs := [Value.int .i64 u0.kind, Value.int .i64 u0.len, Value.int .u64 u0.h, Value.int .u64 u0.l, Value.string ⟨u0.path.toArray⟩]) f0x2 (by first | omega | (simp; done) | (simp; omega) | omega)); (replace Rc := prow_far (g := (w.heap.size + 1 + 1)) (o := 2) (vs := [Value.int .i64 u0.kind, Value.int .i64 u0.len, Value.int .u64 u0.h, Value.int .u64 u0.l, Value.string ⟨u0.path.toArray⟩]) Rc (by first | omega | (simp; done) | (simp; omega) | omega)); (replace Rr := prow_far (g := (w.heap.size + 1 + 1)) (o := 2) (vs := [Value.int .i64 u0.kind, Value.int .i64 u0.len, Value.int .u64 u0.h, Value.int .u64 u0.l, Value.string ⟨u0.path.toArray⟩]) Rr (by first | omega | (simp; done) | (simp; omega) | omega)); (replace Rf0x := prow_far (g := (w.heap.size + 1 + 1)) (o := 2) (vs := [Value.int .i64 u0.kind, Value.int .i64 u0.len, Value.int .u64 u0.h, Value.int .u64 u0.l, Value.string ⟨u0.path.toArray⟩]) Rf0x (by first | omega | (simp; done) | (simp; omega) | omega)); (replace hb0 := below_setCells (g := (w.heap.size + 1 + 1)) (by omega) [Value.int .i64 u0.kind, Value.int .i64 u0.len, Value.int .u64 u0.h, Value.int .u64 u0.l, Value.string ⟨u0.path.toArray⟩] 2 _ hb0); (replace Rp : Row (World.setCells wq (w.heap.size + 1 + 1) 2 [Value.int .i64 u0.kind, Value.int .i64 u0.len, Value.int .u64 u0.h, Value.int .u64 u0.l, Value.string ⟨u0.path.toArray⟩]) (w.heap.size + 1 + 1) #[.int .i64 D0, .int .i64 0, .int .i64 u0.kind, .int .i64 u0.len, .int .u64 u0.h, .int .u64 u0.l, .string ⟨u0.path.toArray⟩, .int .i64 0, .int .i64 0, .int .u64 0, .int .u64 0, .string ⟨#[]⟩] 33 := Row.setMany Rp 2 [Value.int .i64 u0.kind, Value.int .i64 u0.len, Value.int .u64 u0.h, Value.int .u64 u0.l, Value.string ⟨u0.path.toArray⟩] (by simp [setL])); (simp only [World.setCells] at Rc Rr Rp Rf0x f0x0 f0x1 f0x2 hb0); generalize (World.setCell (World.setCell (World.setCell (World.setCell (World.setCell wq ⟨(w.heap.size + 1 + 1), 2, none⟩ (Value.int .i64 u0.kind)) ⟨(w.heap.size + 1 + 1), 3, none⟩ (Value.int .i64 u0.len)) ⟨(w.heap.size + 1 + 1), 4, none⟩ (Value.int .u64 u0.h)) ⟨(w.heap.size + 1 + 1), 5, none⟩ (Value.int .u64 u0.l)) ⟨(w.heap.size + 1 + 1), 6, none⟩ (Value.string ⟨u0.path.toArray⟩)) = wz at *)
    refine hK.out _ _ ?hSr50_13_12 (fun hHeld2 => ?_)
    case hSr50_13_12 => (exact ⟨f0x0, f0x1, f0x2⟩)
    clear hK K hHeld
    have hHeld := hHeld2
    clear hHeld2
    rename World => wq
    (try simp only [Act.put, nz1, nz2, nz3])
    refine wpAnyH_done (by kernel_rfl) ?_ _
    clear hHeld
    rename World => w2
    have lc := Rc.lt
    have lr := Rr.lt
    have lp := Rp.lt
    have lf0x := Rf0x.lt
    (try clear c0 c1 c2 c3 c4 c5 c6); obtain ⟨c0, c1, c2, c3, c4, c5, c6⟩ := row7 Rc
    (try clear r0 r1 r2 r3 r4 r5 r6 r7 r8 r9 r10 r11); obtain ⟨r0, r1, r2, r3, r4, r5, r6, r7, r8, r9, r10, r11⟩ := row12 Rr
    (try clear p0 p1 p2 p3 p4 p5 p6 p7 p8 p9 p10 p11); obtain ⟨p0, p1, p2, p3, p4, p5, p6, p7, p8, p9, p10, p11⟩ := row12 Rp
    (try clear f0x0 f0x1 f0x2); obtain ⟨f0x0, f0x1, f0x2⟩ := row3 Rf0x
    go_wp2_with fail
    rw [rounds_succ]
    go_wp2_with fail
    replace Rc := Rc.alloc (.cells #[Value.int .i64 s.d1.kind, Value.int .i64 s.d1.side, Value.int .i64 s.d1.step] 23)
    replace Rr := Rr.alloc (.cells #[Value.int .i64 s.d1.kind, Value.int .i64 s.d1.side, Value.int .i64 s.d1.step] 23)
    replace Rp := Rp.alloc (.cells #[Value.int .i64 s.d1.kind, Value.int .i64 s.d1.side, Value.int .i64 s.d1.step] 23)
    replace Rf0x := Rf0x.alloc (.cells #[Value.int .i64 s.d1.kind, Value.int .i64 s.d1.side, Value.int .i64 s.d1.step] 23)
    have Rf1x := Row.new w2 #[Value.int .i64 s.d1.kind, Value.int .i64 s.d1.side, Value.int .i64 s.d1.step] 23
    have mf1x := hb0.size
    replace hb0 := hb0.alloc hb0.size (.cells #[Value.int .i64 s.d1.kind, Value.int .i64 s.d1.side, Value.int .i64 s.d1.step] 23)
    (try clear c0 c1 c2 c3 c4 c5 c6); obtain ⟨c0, c1, c2, c3, c4, c5, c6⟩ := row7 Rc
    (try clear r0 r1 r2 r3 r4 r5 r6 r7 r8 r9 r10 r11); obtain ⟨r0, r1, r2, r3, r4, r5, r6, r7, r8, r9, r10, r11⟩ := row12 Rr
    (try clear p0 p1 p2 p3 p4 p5 p6 p7 p8 p9 p10 p11); obtain ⟨p0, p1, p2, p3, p4, p5, p6, p7, p8, p9, p10, p11⟩ := row12 Rp
    (try clear f0x0 f0x1 f0x2); obtain ⟨f0x0, f0x1, f0x2⟩ := row3 Rf0x
    (try clear f1x0 f1x1 f1x2); obtain ⟨f1x0, f1x1, f1x2⟩ := row3 Rf1x
    refine wp_region_held_drew (S := (fun w' => w'.cell? ⟨w2.heap.size, 0, none⟩ = some (Value.int .i64 s.d1.kind) ∧ w'.cell? ⟨w2.heap.size, 1, none⟩ = some (Value.int .i64 s.d1.side) ∧ w'.cell? ⟨w2.heap.size, 2, none⟩ = some (Value.int .i64 s.d1.step))) (by kernel_rfl) ?hSr51_ (fun hHeld => ?_)
    case hSr51_ => (exact ⟨f1x0, f1x1, f1x2⟩)
    (clear c0 c1 c2 c3 c4 c5 c6 r0 r1 r2 r3 r4 r5 r6 r7 r8 r9 r10 r11 p0 p1 p2 p3 p4 p5 p6 p7 p8 p9 p10 p11 f0x0 f0x1 f0x2 f1x0 f1x1 f1x2; (replace Rc := Rc.drew); (replace Rr := Rr.drew); (replace Rp := Rp.drew); (replace Rf0x := Rf0x.drew); (replace Rf1x := Rf1x.drew); (replace hb0 := hb0.drew); (generalize World.drew (World.alloc w2 (.cells #[Value.int .i64 s.d1.kind, Value.int .i64 s.d1.side, Value.int .i64 s.d1.step] 23)) = wq at *))
    refine tk 0 ⟨some 16, .move (.tmp 4), 3, _, _, _⟩ hHeld ?_
    (try simp only [Act.put, nz1, nz2, nz3])
    refine tk 1 ⟨some 17, .move (.tmp 4), 3, _, _, _⟩ hHeld ?_
    (try simp only [Act.put, nz1, nz2, nz3])
    refine tk 2 ⟨some 18, .load 23 (.tmp 5), 23, _, _, _⟩ hHeld ?_
    (try simp only [Act.put, nz1, nz2, nz3])
    refine tk 4 ⟨some 20, .fieldAddr 23 (.tmp 5) 0, 0, _, _, _⟩ hHeld ?_
    (try simp only [Act.put, nz1, nz2, nz3])
    refine tk 5 ⟨some 21, .load 3 (.tmp 20), 3, _, _, _⟩ hHeld ?_
    (try simp only [Act.put, nz1, nz2, nz3])
    refine tk 7 ⟨some 23, .fieldAddr 33 (.tmp 3) 0, 0, _, _, _⟩ hHeld ?_
    (try simp only [Act.put, nz1, nz2, nz3])
    refine tk 10 ⟨some 25, .fieldAddr 33 (.tmp 3) 1, 0, _, _, _⟩ hHeld ?_
    (try simp only [Act.put, nz1, nz2, nz3])
    refine wpAnyH_ready (rs := [3]) (by kernel_rfl) (by simp) ?_
    refine AllReadyH.cons (o := ⟨some 19, .call { callee := .value (.func 55), args := #[.tmp 18], argTypes := #[23] }, 3, _, _, _⟩) rfl (fun K hK => ?_) AllReadyH.nil
    (go_simp; (refine (HD1 _).mono ?_); (rintro e wz ⟨rfl, hb⟩); (replace Rc := Rc.later hb); (replace Rr := Rr.later hb); (replace Rp := Rp.later hb); (replace Rf0x := Rf0x.later hb); (replace Rf1x := Rf1x.later hb); (replace hb0 := below_step hb0 hb); go_wp2_with fail)
    refine hK.out _ _ ?hSr51_8_3 (fun hHeld2 => ?_)
    case hSr51_8_3 => (obtain ⟨f1x0, f1x1, f1x2⟩ := hHeld; exact ⟨cell_later hb f1x0, cell_later hb f1x1, cell_later hb f1x2⟩)
    clear hK K hHeld
    have hHeld := hHeld2
    clear hHeld2
    rename World => wq
    (try simp only [Act.put, nz1, nz2, nz3])
    refine tk 8 ⟨some 24, .indexAddr 27 (.tmp 23) (.tmp 16), 0, _, _, _⟩ hHeld ?_
    (try simp only [Act.put, nz1, nz2, nz3])
    refine wpAnyH_ready (rs := [6]) (by kernel_rfl) (by simp) ?_
    refine AllReadyH.cons (o := ⟨some 22, .call { callee := .value (.func 56), args := #[.tmp 21], argTypes := #[3] }, 30, _, _, _⟩) rfl (fun K hK => ?_) AllReadyH.nil
    (go_simp; (refine (HK1 _).mono ?_); (rintro e wz ⟨rfl, hb⟩); (replace Rc := Rc.later hb); (replace Rr := Rr.later hb); (replace Rp := Rp.later hb); (replace Rf0x := Rf0x.later hb); (replace Rf1x := Rf1x.later hb); (replace hb0 := below_step hb0 hb); go_wp2_with fail)
    refine hK.out _ _ ?hSr51_10_6 (fun hHeld2 => ?_)
    case hSr51_10_6 => (obtain ⟨f1x0, f1x1, f1x2⟩ := hHeld; exact ⟨cell_later hb f1x0, cell_later hb f1x1, cell_later hb f1x2⟩)
    clear hK K hHeld
    have hHeld := hHeld2
    clear hHeld2
    rename World => wq
    (try simp only [Act.put, nz1, nz2, nz3])
    refine wpAnyH_ready (rs := [9]) (by kernel_rfl) (by simp) ?_
    refine AllReadyH.cons (o := ⟨none, .store 3 (.tmp 24) (.tmp 19), 0, _, _, _⟩) rfl (fun K hK => ?_) AllReadyH.nil
    ((obtain ⟨zd0, zc0, zd2, zd3, zd4, zd5, zd6, zd7, zd8, zd9, zd10, zd11⟩ := row12 Rp); (have zf0 := Rp.frozen 1); (have hHq := hHeld); (obtain ⟨f1x0, f1x1, f1x2⟩ := hHq); go_simp; clear zc0 zf0 zd0 zd2 zd3 zd4 zd5 zd6 zd7 zd8 zd9 zd10 zd11; (replace f1x0 := pcell_far (g := (w.heap.size + 1 + 1)) (o := 1) (vs := [Value.int .i64 D1]) f1x0 (by first | omega | (simp; done) | (simp; omega) | omega)); (replace f1x1 := pcell_far (g := (w.heap.size + 1 + 1)) (o := 1) (vs := [Value.int .i64 D1]) f1x1 (by first | omega | (simp; done) | (simp; omega) | omega)); (replace f1x2 := pcell_far (g := (w.heap.size + 1 + 1)) (o := 1) (vs := [Value.int .i64 D1]) f1x2 (by first | omega | (simp; done) | (simp; omega) | omega)); (replace Rc := prow_far (g := (w.heap.size + 1 + 1)) (o := 1) (vs := [Value.int .i64 D1]) Rc (by first | omega | (simp; done) | (simp; omega) | omega)); (replace Rr := prow_far (g := (w.heap.size + 1 + 1)) (o := 1) (vs := [Value.int .i64 D1]) Rr (by first | omega | (simp; done) | (simp; omega) | omega)); (replace Rf0x := prow_far (g := (w.heap.size + 1 + 1)) (o := 1) (vs := [Value.int .i64 D1]) Rf0x (by first | omega | (simp; done) | (simp; omega) | omega)); (replace Rf1x := prow_far (g := (w.heap.size + 1 + 1)) (o := 1) (vs := [Value.int .i64 D1]) Rf1x (by first | omega | (simp; done) | (simp; omega) | omega)); (replace hb0 := below_setCells (g := (w.heap.size + 1 + 1)) (by omega) [Value.int .i64 D1] 1 _ hb0); (replace Rp : Row (World.setCells wq (w.heap.size + 1 + 1) 1 [Value.int .i64 D1]) (w.heap.size + 1 + 1) #[.int .i64 D0, .int .i64 D1, .int .i64 u0.kind, .int .i64 u0.len, .int .u64 u0.h, .int .u64 u0.l, .string ⟨u0.path.toArray⟩, .int .i64 0, .int .i64 0, .int .u64 0, .int .u64 0, .string ⟨#[]⟩] 33 := Row.setMany Rp 1 [Value.int .i64 D1] (by simp [setL])); (simp only [World.setCells] at Rc Rr Rp Rf0x Rf1x f1x0 f1x1 f1x2 hb0); generalize (World.setCell wq ⟨(w.heap.size + 1 + 1), 1, none⟩ (Value.int .i64 D1)) = wz at *)
    refine hK.out _ _ ?hSr51_11_9 (fun hHeld2 => ?_)
    case hSr51_11_9 => (exact ⟨f1x0, f1x1, f1x2⟩)
    clear hK K hHeld
    have hHeld := hHeld2
    clear hHeld2
    rename World => wq
    (try simp only [Act.put, nz1, nz2, nz3])
    refine tk 11 ⟨some 26, .indexAddr 31 (.tmp 25) (.tmp 17), 0, _, _, _⟩ hHeld ?_
    (try simp only [Act.put, nz1, nz2, nz3])
    refine wpAnyH_ready (rs := [12]) (by kernel_rfl) (by simp) ?_
    refine AllReadyH.cons (o := ⟨none, .store 30 (.tmp 26) (.tmp 22), 0, _, _, _⟩) rfl (fun K hK => ?_) AllReadyH.nil
    ((obtain ⟨zd0, zd1, zd2, zd3, zd4, zd5, zd6, zc0, zc1, zc2, zc3, zc4⟩ := row12 Rp); (have zf0 := Rp.frozen 7); (have zf1 := Rp.frozen 8); (have zf2 := Rp.frozen 9); (have zf3 := Rp.frozen 10); (have zf4 := Rp.frozen 11); (have hHq := hHeld); (obtain ⟨f1x0, f1x1, f1x2⟩ := hHq); go_simp; clear zc0 zf0 zc1 zf1 zc2 zf2 zc3 zf3 zc4 zf4 zd0 zd1 zd2 zd3 zd4 zd5 zd6; (replace f1x0 := pcell_far (g := (w.heap.size + 1 + 1)) (o := 7) (vs := [Value.int .i64 u1.kind, Value.int .i64 u1.len, Value.int .u64 u1.h, Value.int .u64 u1.l, Value.string ⟨u1.path.toArray⟩]) f1x0 (by first | omega | (simp; done) | (simp; omega) | omega)); (replace f1x1 := pcell_far (g := (w.heap.size + 1 + 1)) (o := 7) (vs := [Value.int .i64 u1.kind, Value.int .i64 u1.len, Value.int .u64 u1.h, Value.int .u64 u1.l, Value.string ⟨u1.path.toArray⟩]) f1x1 (by first | omega | (simp; done) | (simp; omega) | omega)); (replace f1x2 := pcell_far (g := (w.heap.size + 1 + 1)) (o := 7) (vs := [Value.int .i64 u1.kind, Value.int .i64 u1.len, Value.int .u64 u1.h, Value.int .u64 u1.l, Value.string ⟨u1.path.toArray⟩]) f1x2 (by first | omega | (simp; done) | (simp; omega) | omega)); (replace Rc := prow_far (g := (w.heap.size + 1 + 1)) (o := 7) (vs := [Value.int .i64 u1.kind, Value.int .i64 u1.len, Value.int .u64 u1.h, Value.int .u64 u1.l, Value.string ⟨u1.path.toArray⟩]) Rc (by first | omega | (simp; done) | (simp; omega) | omega)); (replace Rr := prow_far (g := (w.heap.size + 1 + 1)) (o := 7) (vs := [Value.int .i64 u1.kind, Value.int .i64 u1.len, Value.int .u64 u1.h, Value.int .u64 u1.l, Value.string ⟨u1.path.toArray⟩]) Rr (by first | omega | (simp; done) | (simp; omega) | omega)); (replace Rf0x := prow_far (g := (w.heap.size + 1 + 1)) (o := 7) (vs := [Value.int .i64 u1.kind, Value.int .i64 u1.len, Value.int .u64 u1.h, Value.int .u64 u1.l, Value.string ⟨u1.path.toArray⟩]) Rf0x (by first | omega | (simp; done) | (simp; omega) | omega)); (replace Rf1x := prow_far (g := (w.heap.size + 1 + 1)) (o := 7) (vs := [Value.int .i64 u1.kind, Value.int .i64 u1.len, Value.int .u64 u1.h, Value.int .u64 u1.l, Value.string ⟨u1.path.toArray⟩]) Rf1x (by first | omega | (simp; done) | (simp; omega) | omega)); (replace hb0 := below_setCells (g := (w.heap.size + 1 + 1)) (by omega) [Value.int .i64 u1.kind, Value.int .i64 u1.len, Value.int .u64 u1.h, Value.int .u64 u1.l, Value.string ⟨u1.path.toArray⟩] 7 _ hb0); (replace Rp : Row (World.setCells wq (w.heap.size + 1 + 1) 7 [Value.int .i64 u1.kind, Value.int .i64 u1.len, Value.int .u64 u1.h, Value.int .u64 u1.l, Value.string ⟨u1.path.toArray⟩]) (w.heap.size + 1 + 1) #[.int .i64 D0, .int .i64 D1, .int .i64 u0.kind, .int .i64 u0.len, .int .u64 u0.h, .int .u64 u0.l, .string ⟨u0.path.toArray⟩, .int .i64 u1.kind, .int .i64 u1.len, .int .u64 u1.h, .int .u64 u1.l, .string ⟨u1.path.toArray⟩] 33 := Row.setMany Rp 7 [Value.int .i64 u1.kind, Value.int .i64 u1.len, Value.int .u64 u1.h, Value.int .u64 u1.l, Value.string ⟨u1.path.toArray⟩] (by simp [setL])); (simp only [World.setCells] at Rc Rr Rp Rf0x Rf1x f1x0 f1x1 f1x2 hb0); generalize (World.setCell (World.setCell (World.setCell (World.setCell (World.setCell wq ⟨(w.heap.size + 1 + 1), 7, none⟩ (Value.int .i64 u1.kind)) ⟨(w.heap.size + 1 + 1), 8, none⟩ (Value.int .i64 u1.len)) ⟨(w.heap.size + 1 + 1), 9, none⟩ (Value.int .u64 u1.h)) ⟨(w.heap.size + 1 + 1), 10, none⟩ (Value.int .u64 u1.l)) ⟨(w.heap.size + 1 + 1), 11, none⟩ (Value.string ⟨u1.path.toArray⟩)) = wz at *)
    refine hK.out _ _ ?hSr51_13_12 (fun hHeld2 => ?_)
    case hSr51_13_12 => (exact ⟨f1x0, f1x1, f1x2⟩)
    clear hK K hHeld
    have hHeld := hHeld2
    clear hHeld2
    rename World => wq
    (try simp only [Act.put, nz1, nz2, nz3])
    refine wpAnyH_done (by kernel_rfl) ?_ _
    clear hHeld
    rename World => w3
    have lc := Rc.lt
    have lr := Rr.lt
    have lp := Rp.lt
    have lf0x := Rf0x.lt
    have lf1x := Rf1x.lt
    (try clear c0 c1 c2 c3 c4 c5 c6); obtain ⟨c0, c1, c2, c3, c4, c5, c6⟩ := row7 Rc
    (try clear r0 r1 r2 r3 r4 r5 r6 r7 r8 r9 r10 r11); obtain ⟨r0, r1, r2, r3, r4, r5, r6, r7, r8, r9, r10, r11⟩ := row12 Rr
    (try clear p0 p1 p2 p3 p4 p5 p6 p7 p8 p9 p10 p11); obtain ⟨p0, p1, p2, p3, p4, p5, p6, p7, p8, p9, p10, p11⟩ := row12 Rp
    (try clear f0x0 f0x1 f0x2); obtain ⟨f0x0, f0x1, f0x2⟩ := row3 Rf0x
    (try clear f1x0 f1x1 f1x2); obtain ⟨f1x0, f1x1, f1x2⟩ := row3 Rf1x
    go_wp2_with fail
    rw [rounds_succ]
    have rf0 := Rr.frozen 0
    have rf1 := Rr.frozen 1
    have rf2 := Rr.frozen 2
    have rf3 := Rr.frozen 3
    have rf4 := Rr.frozen 4
    have rf5 := Rr.frozen 5
    have rf6 := Rr.frozen 6
    have rf7 := Rr.frozen 7
    have rf8 := Rr.frozen 8
    have rf9 := Rr.frozen 9
    have rf10 := Rr.frozen 10
    have rf11 := Rr.frozen 11
    go_wp2
    obtain ⟨w4, hwn⟩ : ∃ wz, wz = (World.setCell (World.setCell (World.setCell (World.setCell (World.setCell (World.setCell (World.setCell (World.setCell (World.setCell (World.setCell (World.setCell (World.setCell w3 ⟨(w.heap.size + 1), 0, none⟩ (.int .i64 D0)) ⟨(w.heap.size + 1), 1, none⟩ (.int .i64 D1)) ⟨(w.heap.size + 1), 2, none⟩ (.int .i64 u0.kind)) ⟨(w.heap.size + 1), 3, none⟩ (.int .i64 u0.len)) ⟨(w.heap.size + 1), 4, none⟩ (.int .u64 u0.h)) ⟨(w.heap.size + 1), 5, none⟩ (.int .u64 u0.l)) ⟨(w.heap.size + 1), 6, none⟩ (.string ⟨u0.path.toArray⟩)) ⟨(w.heap.size + 1), 7, none⟩ (.int .i64 u1.kind)) ⟨(w.heap.size + 1), 8, none⟩ (.int .i64 u1.len)) ⟨(w.heap.size + 1), 9, none⟩ (.int .u64 u1.h)) ⟨(w.heap.size + 1), 10, none⟩ (.int .u64 u1.l)) ⟨(w.heap.size + 1), 11, none⟩ (.string ⟨u1.path.toArray⟩)) := ⟨_, rfl⟩
    rw [← hwn]
    replace hwn : w4 = World.setCells w3 (w.heap.size + 1) 0 [.int .i64 D0, .int .i64 D1, .int .i64 u0.kind, .int .i64 u0.len, .int .u64 u0.h, .int .u64 u0.l, .string ⟨u0.path.toArray⟩, .int .i64 u1.kind, .int .i64 u1.len, .int .u64 u1.h, .int .u64 u1.l, .string ⟨u1.path.toArray⟩] := hwn
    replace Rr : Row w4 (w.heap.size + 1) #[.int .i64 D0, .int .i64 D1, .int .i64 u0.kind, .int .i64 u0.len, .int .u64 u0.h, .int .u64 u0.l, .string ⟨u0.path.toArray⟩, .int .i64 u1.kind, .int .i64 u1.len, .int .u64 u1.h, .int .u64 u1.l, .string ⟨u1.path.toArray⟩] 33 := psm hwn Rr (by simp [setL])
    replace Rc := prf hwn Rc
    replace Rp := prf hwn Rp
    replace Rf0x := prf hwn Rf0x
    replace Rf1x := prf hwn Rf1x
    replace hb0 := pbl hwn hb0
    clear hwn c0 c1 c2 c3 c4 c5 c6 r0 r1 r2 r3 r4 r5 r6 r7 r8 r9 r10 r11 p0 p1 p2 p3 p4 p5 p6 p7 p8 p9 p10 p11 f0x0 f0x1 f0x2 f1x0 f1x1 f1x2
    (try clear rf0 rf1 rf2 rf3 rf4 rf5 rf6 rf7 rf8 rf9 rf10 rf11)
    (try clear c0 c1 c2 c3 c4 c5 c6); obtain ⟨c0, c1, c2, c3, c4, c5, c6⟩ := row7 Rc
    (try clear r0 r1 r2 r3 r4 r5 r6 r7 r8 r9 r10 r11); obtain ⟨r0, r1, r2, r3, r4, r5, r6, r7, r8, r9, r10, r11⟩ := row12 Rr
    (try clear p0 p1 p2 p3 p4 p5 p6 p7 p8 p9 p10 p11); obtain ⟨p0, p1, p2, p3, p4, p5, p6, p7, p8, p9, p10, p11⟩ := row12 Rp
    (try clear f0x0 f0x1 f0x2); obtain ⟨f0x0, f0x1, f0x2⟩ := row3 Rf0x
    (try clear f1x0 f1x1 f1x2); obtain ⟨f1x0, f1x1, f1x2⟩ := row3 Rf1x
    refine bodyPost_ret (v := .agg #[.int .i64 D0, .int .i64 D1, .int .i64 u0.kind, .int .i64 u0.len, .int .u64 u0.h, .int .u64 u0.l, .string ⟨u0.path.toArray⟩, .int .i64 u1.kind, .int .i64 u1.len, .int .u64 u1.h, .int .u64 u1.l, .string ⟨u1.path.toArray⟩]) (by simp [results, Try.results22, go_sem, r0, r1, r2, r3, r4, r5, r6, r7, r8, r9, r10, r11]) rfl ⟨rfl, hb0⟩
theorem top9_t (s : Sp) (w : World) : Calls Try.prog 22 #[sv s] w fun e w' => e = .returned (pv (topP s)) ∧ Below w.heap.size w w' :=
  top_go s _ _ _ _ _ (sound_t s) (ddepth_t s.d0) (ddepth_t s.d1) (kroot_t s.d0.kind) (kroot_t s.d1.kind) w
end Go.Proofs.Ytbekocknfpekoaa
namespace Go.Proofs.Ytbekocknfpekoaa
set_option linter.unusedVariables false
set_option linter.unusedSimpArgs false
open Go.RowKit
def cmpP (p q : Px) : Int := if cmpI p.a0 q.a0 ≠ 0 then cmpI p.a0 q.a0 else if cmpI p.a1 q.a1 ≠ 0 then cmpI p.a1 q.a1 else if cmpK p.k0 q.k0 ≠ 0 then cmpK p.k0 q.k0 else if cmpK p.k1 q.k1 ≠ 0 then cmpK p.k1 q.k1 else 0
end Go.Proofs.Ytbekocknfpekoaa
namespace Go.Proofs.Ytbekocknfpekoaa
set_option linter.unusedVariables false
set_option linter.unusedSimpArgs false
open Go.RowKit
theorem pz_ok : pz.ok := ⟨kz_ok, kz_ok, by decide, by decide, by decide, by decide⟩
theorem upP_ok {p : Px} (ok : p.ok) (s : Sp) (b0 b1 : Int) (h0 : -9223372036854775808 ≤ b0) (h1 : b0 ≤ 9223372036854775807) (h2 : -9223372036854775808 ≤ b1) (h3 : b1 ≤ 9223372036854775807) : (upP s p b0 b1).ok := by
  unfold upP
  split
  · exact ⟨cutD_ok ok.k0 _ _, cutD_ok ok.k1 _ _, h0, h1, h2, h3⟩
  · exact pz_ok
theorem depthD_range (d : Dm) : 0 ≤ depthD d ∧ depthD d ≤ 128 := by
  cases h : rightD d with
  | true => have := depth_range h; omega
  | false => unfold depthD; rw [if_neg (by simp [h])]; omega
structure Sp.ok (s : Sp) : Prop where
  n0 : -9223372036854775808 ≤ s.n
  n1 : s.n ≤ 9223372036854775807
  d0 : s.d0.ok
  d1 : s.d1.ok
theorem fourK_ok (a : Int) : (fourK a).ok := ⟨word_hi _, word_lo _, by unfold fourK; dsimp only; omega, by unfold fourK; dsimp only; omega, by unfold fourK; dsimp only; omega, by unfold fourK; dsimp only; omega, by unfold fourK; simp⟩
def s9 : Sp := ⟨2, ⟨1, 1, 8⟩, ⟨1, 2, 8⟩⟩
def p9 : Px := ⟨0, 0, fourK 167837953, fourK 3232235777⟩
def a9 : Px := upP s9 p9 3 4
def b9 : Px := upP s9 p9 4 2
def x9 : Px := crossP s9 a9 b9
def t9 : Px := topP s9
end Go.Proofs.Ytbekocknfpekoaa
namespace Go.Proofs.Ytbekocknfpekoaa
set_option linter.unusedVariables false
set_option linter.unusedSimpArgs false
open Go.RowKit
/-- on a level of a dimension, the zero dimension of a space of one dimension too -/
def onE (d : Dm) (l : Int) (k : Ke) : Bool := if d = dz then decide (l = 0) && decide (k = kz) else onD d l k
theorem rightD_dz : rightD dz = false := by decide +kernel
theorem depth_dz : depthD dz = 0 := by decide +kernel
theorem lenD_dz (l : Int) : lenD dz l = -1 := lenD_no (by rw [rightD_dz]; simp)
theorem cutD_dz (l : Int) (k : Ke) : cutD dz l k = kz := by unfold cutD; rw [if_pos (.inl (lenD_dz l))]
theorem not_dz {d : Dm} (h : rightD d = true) : ¬ d = dz := by rintro rfl; rw [rightD_dz] at h; cases h
theorem onE_range {d : Dm} {l : Int} {k : Ke} (h : onE d l k = true) : 0 ≤ l ∧ l ≤ depthD d := by
  unfold onE at h
  split at h
  · rename_i e; subst e
    simp only [Bool.and_eq_true, decide_eq_true_eq] at h
    rw [depth_dz]; omega
  · obtain ⟨_, g2, g3⟩ := lenD_there ((onD_iff d l k).1 h).1
    exact ⟨g2, g3⟩
theorem lenD_nn {d : Dm} {l : Int} (h : rightD d = true) (h0 : 0 ≤ l) (h1 : l ≤ depthD d) : 0 ≤ lenD d l := by
  rw [lenD_yes h h0 h1]; omega
theorem onE_cut {d : Dm} {l : Int} {k : Ke} (h : onE d l k = true) : cutD d l k = k := by
  unfold onE at h
  split at h
  · rename_i e; subst e
    simp only [Bool.and_eq_true, decide_eq_true_eq] at h
    rw [cutD_dz, h.2]
  · exact (on_cut h).1
theorem onE_up {d : Dm} {i j : Int} {k : Ke} (h : onE d i k = true) (hij : i ≤ j) (hj : j ≤ depthD d) : onE d j (cutD d j k) = true := by
  have hr := onE_range h
  unfold onE at *
  split at h
  · rename_i e; subst e
    rw [if_pos rfl, cutD_dz]
    rw [depth_dz] at hj
    simp; omega
  · rename_i e
    rw [if_neg e]
    have r := (lenD_there ((onD_iff d i k).1 h).1).1
    exact cut_on h (lenD_nn r (by omega) hj) hij
theorem onE_twice {d : Dm} {i j l : Int} {k x : Ke} (h : onE d l x = true) (h0 : 0 ≤ i) (hij : i ≤ j) (hj : j ≤ depthD d) : cutD d j (cutD d i k) = cutD d j k := by
  unfold onE at h
  split at h
  · rename_i e; subst e; rw [cutD_dz, cutD_dz]
  · have r := (lenD_there ((onD_iff d l x).1 h).1).1
    exact cutD_cutD k (lenD_nn r h0 (by omega)) (lenD_nn r (by omega) hj) hij
theorem sound_dims {s : Sp} (h : soundS s = true) : rightD s.d0 = true ∧ (rightD s.d1 = true ∨ s.d1 = dz) ∧ (s.n = 1 ∧ s.d1 = dz ∨ s.n = 2 ∧ rightD s.d1 = true) := by
  unfold soundS at h
  split at h
  · simp only [Bool.and_eq_true, decide_eq_true_eq] at h
    exact ⟨h.1, .inr h.2, .inl ⟨by assumption, h.2⟩⟩
  · simp only [Bool.and_eq_true, decide_eq_true_eq] at h
    exact ⟨h.2.1, .inl h.2.2, .inr ⟨h.1, h.2.2⟩⟩
theorem right_iff (s : Sp) (p : Px) : rightP s p = true ↔ soundS s = true ∧ onE s.d0 p.a0 p.k0 = true ∧ onE s.d1 p.a1 p.k1 = true := by
  unfold rightP
  simp only [Bool.and_eq_true]
  constructor
  · rintro ⟨h1, h2, h3⟩
    obtain ⟨g1, g2, g3⟩ := sound_dims h1
    refine ⟨h1, by unfold onE; rw [if_neg (not_dz g1)]; exact h2, ?_⟩
    unfold onE
    rcases g3 with ⟨g3, g4⟩ | ⟨g3, g4⟩
    · rw [if_pos g3] at h3; rw [if_pos g4]; exact h3
    · rw [if_neg (by omega)] at h3; rw [if_neg (not_dz g4)]; exact h3
  · rintro ⟨h1, h2, h3⟩
    obtain ⟨g1, g2, g3⟩ := sound_dims h1
    unfold onE at h2 h3
    rw [if_neg (not_dz g1)] at h2
    refine ⟨h1, h2, ?_⟩
    rcases g3 with ⟨g3, g4⟩ | ⟨g3, g4⟩
    · rw [if_pos g4] at h3; rw [if_pos g3]; exact h3
    · rw [if_neg (not_dz g4)] at h3; rw [if_neg (by omega)]; exact h3
theorem pz_not_right (s : Sp) : rightP s pz = false := by
  cases h : rightP s pz with
  | false => rfl
  | true =>
    obtain ⟨h1, h2, _⟩ := (right_iff s pz).1 h
    obtain ⟨g1, _, _⟩ := sound_dims h1
    unfold onE at h2
    rw [if_neg (not_dz g1)] at h2
    obtain ⟨_, e, _⟩ := (onD_iff _ _ _).1 h2
    have := kind_dim g1
    rw [← e] at this
    revert this
    decide +kernel
/-- what covering says -/
theorem overP_iff (s : Sp) (p q : Px) : overP s p q = true ↔ rightP s p = true ∧ rightP s q = true ∧ (q.a0 ≤ p.a0 ∧ p.k0 = cutD s.d0 p.a0 q.k0) ∧ q.a1 ≤ p.a1 ∧ p.k1 = cutD s.d1 p.a1 q.k1 := by
  unfold overP
  simp only [Bool.and_eq_true, decide_eq_true_eq]
  constructor
  · rintro ⟨h1, h2⟩
    cases hb : upB s q p.a0 p.a1 with
    | false =>
      unfold upP at h2
      rw [hb, if_neg (by simp)] at h2
      rw [h2, pz_not_right] at h1; cases h1
    | true =>
      unfold upP at h2
      rw [hb, if_pos rfl] at h2
      unfold upB at hb
      simp only [Bool.and_eq_true, decide_eq_true_eq] at hb
      have e0 : p.k0 = cutD s.d0 p.a0 q.k0 := congrArg Px.k0 h2
      have e1 : p.k1 = cutD s.d1 p.a1 q.k1 := congrArg Px.k1 h2
      exact ⟨h1, hb.1, ⟨hb.2.1, e0⟩, hb.2.2.2.1, e1⟩
  · rintro ⟨h1, h2, ⟨h3, h4⟩, h5, h6⟩
    refine ⟨h1, ?_⟩
    obtain ⟨_, o0, o1⟩ := (right_iff s p).1 h1
    have r0 := onE_range o0
    have r1 := onE_range o1
    unfold upP
    rw [if_pos (by unfold upB; simp only [Bool.and_eq_true, decide_eq_true_eq]; exact ⟨h2, h3, r0.2, h5, r1.2⟩)]
    exact px_ext rfl rfl h4 h6
theorem over_self9 (s : Sp) (p : Px) : overP s p p = rightP s p := by
  rw [Bool.eq_iff_iff, overP_iff]
  constructor
  · exact fun h => h.1
  · intro h
    obtain ⟨_, o0, o1⟩ := (right_iff s p).1 h
    exact ⟨h, h, ⟨by omega, (onE_cut o0).symm⟩, by omega, (onE_cut o1).symm⟩
theorem over_trans9 {s : Sp} {p q x : Px} (h : overP s p q = true) (h' : overP s q x = true) : overP s p x = true := by
  obtain ⟨p1, q1, ⟨q2, q3⟩, q4, q5⟩ := (overP_iff s p q).1 h
  obtain ⟨_, x1, ⟨t2, t3⟩, t4, t5⟩ := (overP_iff s q x).1 h'
  obtain ⟨_, o0, o1⟩ := (right_iff s p).1 p1
  obtain ⟨_, m0, m1⟩ := (right_iff s q).1 q1
  have r0 := onE_range o0
  have r1 := onE_range o1
  have n0 := onE_range m0
  have n1 := onE_range m1
  rw [overP_iff]
  refine ⟨p1, x1, ⟨by omega, ?_⟩, by omega, ?_⟩
  · rw [q3, t3, onE_twice m0 n0.1 q2 r0.2]
  · rw [q5, t5, onE_twice m1 n1.1 q4 r1.2]
theorem over_right {s : Sp} {p q : Px} (h : overP s p q = true) : rightP s p = true ∧ rightP s q = true := ⟨((overP_iff s p q).1 h).1, ((overP_iff s p q).1 h).2.1⟩
end Go.Proofs.Ytbekocknfpekoaa
namespace Go.Proofs.Ytbekocknfpekoaa
set_option linter.unusedVariables false
set_option linter.unusedSimpArgs false
open Go.RowKit
/-- the last level of each dimension; no node at all where the space may not be -/
def wA (s : Sp) : Int := if soundS s = true then depthD s.d0 else -1
def wB (s : Sp) : Int := if soundS s = true then depthD s.d1 else 0
theorem wA_range (s : Sp) : -1 ≤ wA s ∧ wA s ≤ 128 := by unfold wA; have := depthD_range s.d0; split <;> omega
theorem wB_range (s : Sp) : 0 ≤ wB s ∧ wB s ≤ 128 := by unfold wB; have := depthD_range s.d1; split <;> omega
def rv (a b : Int) : Value := .agg #[.int .i64 a, .int .i64 b]
set_option maxRecDepth 100000 in
set_option maxHeartbeats 32000000 in
theorem whole_false (s : Sp) (D0 D1 : Int)
    (HS : ∀ w, Calls Try.prog 18 #[sv s] w fun e w' => e = .returned (.bool false) ∧ Below w.heap.size w w') (w : World) :
    Calls Try.prog 67 #[sv s] w fun e w' => e = .returned (.agg #[.int .i64 (-1), .int .i64 0]) ∧ Below w.heap.size w w' := by
  unfold sv at *
  (try unfold dv at *)
  (try dsimp only at *)
  obtain ⟨Rc, Rr, hb0⟩ := two_rows w #[.int .i64 s.n, .int .i64 s.d0.kind, .int .i64 s.d0.side, .int .i64 s.d0.step, .int .i64 s.d1.kind, .int .i64 s.d1.side, .int .i64 s.d1.step] #[.int .i64 0, .int .i64 0] 26 75
  (try clear c0 c1 c2 c3 c4 c5 c6); obtain ⟨c0, c1, c2, c3, c4, c5, c6⟩ := row7 Rc
  (try clear r0 r1); obtain ⟨r0, r1⟩ := row2 Rr
  go_enter Try.func67, Try.ntmps67
  go_wp2_with fail
  refine (HS _).mono ?_
  rintro e w1 ⟨rfl, hb⟩
  replace Rc := Rc.later hb
  replace Rr := Rr.later hb
  replace hb0 := below_step hb0 hb
  clear hb
  have lc := Rc.lt
  have lr := Rr.lt
  (try clear c0 c1 c2 c3 c4 c5 c6); obtain ⟨c0, c1, c2, c3, c4, c5, c6⟩ := row7 Rc
  (try clear r0 r1); obtain ⟨r0, r1⟩ := row2 Rr
  have rf0 := Rr.frozen 0
  have rf1 := Rr.frozen 1
  go_wp2
  obtain ⟨w2, hwn⟩ : ∃ wz, wz = (World.setCell (World.setCell w1 ⟨(w.heap.size + 1), 0, none⟩ (.int .i64 (-1))) ⟨(w.heap.size + 1), 1, none⟩ (.int .i64 0)) := ⟨_, rfl⟩
  rw [← hwn]
  replace hwn : w2 = World.setCells w1 (w.heap.size + 1) 0 [.int .i64 (-1), .int .i64 0] := hwn
  replace Rr : Row w2 (w.heap.size + 1) #[.int .i64 (-1), .int .i64 0] 75 := psm hwn Rr (by simp [setL])
  replace Rc := prf hwn Rc
  replace hb0 := pbl hwn hb0
  clear hwn c0 c1 c2 c3 c4 c5 c6 r0 r1
  (try clear rf0 rf1)
  (try clear c0 c1 c2 c3 c4 c5 c6); obtain ⟨c0, c1, c2, c3, c4, c5, c6⟩ := row7 Rc
  (try clear r0 r1); obtain ⟨r0, r1⟩ := row2 Rr
  refine bodyPost_ret (v := .agg #[.int .i64 (-1), .int .i64 0]) (by simp [results, Try.results67, go_sem, r0, r1]) rfl ⟨rfl, hb0⟩
set_option maxRecDepth 100000 in
set_option maxHeartbeats 32000000 in
theorem whole_true (s : Sp) (D0 D1 : Int)
    (HS : ∀ w, Calls Try.prog 18 #[sv s] w fun e w' => e = .returned (.bool true) ∧ Below w.heap.size w w')
    (HD0 : ∀ w, Calls Try.prog 55 #[dv s.d0] w fun e w' => e = .returned (.int .i64 D0) ∧ Below w.heap.size w w')
    (HD1 : ∀ w, Calls Try.prog 55 #[dv s.d1] w fun e w' => e = .returned (.int .i64 D1) ∧ Below w.heap.size w w') (w : World) :
    Calls Try.prog 67 #[sv s] w fun e w' => e = .returned (.agg #[.int .i64 D0, .int .i64 D1]) ∧ Below w.heap.size w w' := by
  unfold sv at *
  (try unfold dv at *)
  (try dsimp only at *)
  have i0 := ixd0
  have i1 := ixd1
  obtain ⟨Rc, Rr, hb0⟩ := two_rows w #[.int .i64 s.n, .int .i64 s.d0.kind, .int .i64 s.d0.side, .int .i64 s.d0.step, .int .i64 s.d1.kind, .int .i64 s.d1.side, .int .i64 s.d1.step] #[.int .i64 0, .int .i64 0] 26 75
  (try clear c0 c1 c2 c3 c4 c5 c6); obtain ⟨c0, c1, c2, c3, c4, c5, c6⟩ := row7 Rc
  (try clear r0 r1); obtain ⟨r0, r1⟩ := row2 Rr
  go_enter Try.func67, Try.ntmps67
  go_wp2_with fail
  refine (HS _).mono ?_
  rintro e w1 ⟨rfl, hb⟩
  replace Rc := Rc.later hb
  replace Rr := Rr.later hb
  replace hb0 := below_step hb0 hb
  clear hb
  have lc := Rc.lt
  have lr := Rr.lt
  (try clear c0 c1 c2 c3 c4 c5 c6); obtain ⟨c0, c1, c2, c3, c4, c5, c6⟩ := row7 Rc
  (try clear r0 r1); obtain ⟨r0, r1⟩ := row2 Rr
  go_wp2_with fail
  have nxc := Rc.lt
  have nxr := Rr.lt
  replace Rc := Rc.alloc (.cells #[Value.int .i64 0, Value.int .i64 0] 75)
  replace Rr := Rr.alloc (.cells #[Value.int .i64 0, Value.int .i64 0] 75)
  have Rx := Row.new w1 #[Value.int .i64 0, Value.int .i64 0] 75
  have mx := hb0.size
  replace hb0 := hb0.alloc hb0.size (.cells #[Value.int .i64 0, Value.int .i64 0] 75)
  (try clear c0 c1 c2 c3 c4 c5 c6); obtain ⟨c0, c1, c2, c3, c4, c5, c6⟩ := row7 Rc
  (try clear r0 r1); obtain ⟨r0, r1⟩ := row2 Rr
  (try clear x0 x1); obtain ⟨x0, x1⟩ := row2 Rx
  have lx := Rx.lt
  generalize (World.alloc w1 (.cells #[Value.int .i64 0, Value.int .i64 0] 75)) = w2 at *
  refine wp_loop_rounds 3 ?_
  rw [rounds_succ]
  go_wp2_with fail
  refine (HD0 _).mono ?_
  rintro e w3 ⟨rfl, hb⟩
  have ne0c := Rc.lt
  have ne0r := Rr.lt
  have ne0x := Rx.lt
  replace Rc := (Rc.alloc _).later hb
  replace Rr := (Rr.alloc _).later hb
  replace Rx := (Rx.alloc _).later hb
  have Re0 := Row.later (Row.new _ _ _) hb
  have me0 := hb0.size
  replace hb0 := below_step (hb0.alloc hb0.size _) hb
  clear hb
  generalize w2.heap.size = ge0 at *
  have lc := Rc.lt
  have lr := Rr.lt
  have lx := Rx.lt
  have le0 := Re0.lt
  (try clear c0 c1 c2 c3 c4 c5 c6); obtain ⟨c0, c1, c2, c3, c4, c5, c6⟩ := row7 Rc
  (try clear r0 r1); obtain ⟨r0, r1⟩ := row2 Rr
  (try clear x0 x1); obtain ⟨x0, x1⟩ := row2 Rx
  (try clear e00 e01 e02); obtain ⟨e00, e01, e02⟩ := row3 Re0
  have xf0 := Rx.frozen 0
  have xf1 := Rx.frozen 1
  go_wp2_with fail
  obtain ⟨w4, hwn⟩ : ∃ wz, wz = (World.setCell w3 ⟨w1.heap.size, 0, none⟩ (.int .i64 D0)) := ⟨_, rfl⟩
  rw [← hwn]
  replace hwn : w4 = World.setCells w3 w1.heap.size 0 [.int .i64 D0] := hwn
  replace Rx : Row w4 w1.heap.size #[.int .i64 D0, .int .i64 0] 75 := psm hwn Rx (by simp [setL])
  replace Rc := prf hwn Rc
  replace Rr := prf hwn Rr
  replace Re0 := prf hwn Re0
  replace hb0 := pbl hwn hb0
  clear hwn c0 c1 c2 c3 c4 c5 c6 r0 r1 x0 x1 e00 e01 e02
  (try clear xf0 xf1)
  (try clear c0 c1 c2 c3 c4 c5 c6); obtain ⟨c0, c1, c2, c3, c4, c5, c6⟩ := row7 Rc
  (try clear r0 r1); obtain ⟨r0, r1⟩ := row2 Rr
  (try clear x0 x1); obtain ⟨x0, x1⟩ := row2 Rx
  (try clear e00 e01 e02); obtain ⟨e00, e01, e02⟩ := row3 Re0
  rw [rounds_succ]
  go_wp2_with fail
  refine (HD1 _).mono ?_
  rintro e w5 ⟨rfl, hb⟩
  have ne1c := Rc.lt
  have ne1r := Rr.lt
  have ne1x := Rx.lt
  have ne1e0 := Re0.lt
  replace Rc := (Rc.alloc _).later hb
  replace Rr := (Rr.alloc _).later hb
  replace Rx := (Rx.alloc _).later hb
  replace Re0 := (Re0.alloc _).later hb
  have Re1 := Row.later (Row.new _ _ _) hb
  have me1 := hb0.size
  replace hb0 := below_step (hb0.alloc hb0.size _) hb
  clear hb
  generalize w4.heap.size = ge1 at *
  have lc := Rc.lt
  have lr := Rr.lt
  have lx := Rx.lt
  have le0 := Re0.lt
  have le1 := Re1.lt
  (try clear c0 c1 c2 c3 c4 c5 c6); obtain ⟨c0, c1, c2, c3, c4, c5, c6⟩ := row7 Rc
  (try clear r0 r1); obtain ⟨r0, r1⟩ := row2 Rr
  (try clear x0 x1); obtain ⟨x0, x1⟩ := row2 Rx
  (try clear e00 e01 e02); obtain ⟨e00, e01, e02⟩ := row3 Re0
  (try clear e10 e11 e12); obtain ⟨e10, e11, e12⟩ := row3 Re1
  have xf0 := Rx.frozen 0
  have xf1 := Rx.frozen 1
  go_wp2_with fail
  obtain ⟨w6, hwn⟩ : ∃ wz, wz = (World.setCell w5 ⟨w1.heap.size, 1, none⟩ (.int .i64 D1)) := ⟨_, rfl⟩
  rw [← hwn]
  replace hwn : w6 = World.setCells w5 w1.heap.size 1 [.int .i64 D1] := hwn
  replace Rx : Row w6 w1.heap.size #[.int .i64 D0, .int .i64 D1] 75 := psm hwn Rx (by simp [setL])
  replace Rc := prf hwn Rc
  replace Rr := prf hwn Rr
  replace Re0 := prf hwn Re0
  replace Re1 := prf hwn Re1
  replace hb0 := pbl hwn hb0
  clear hwn c0 c1 c2 c3 c4 c5 c6 r0 r1 x0 x1 e00 e01 e02 e10 e11 e12
  (try clear xf0 xf1)
  (try clear c0 c1 c2 c3 c4 c5 c6); obtain ⟨c0, c1, c2, c3, c4, c5, c6⟩ := row7 Rc
  (try clear r0 r1); obtain ⟨r0, r1⟩ := row2 Rr
  (try clear x0 x1); obtain ⟨x0, x1⟩ := row2 Rx
  (try clear e00 e01 e02); obtain ⟨e00, e01, e02⟩ := row3 Re0
  (try clear e10 e11 e12); obtain ⟨e10, e11, e12⟩ := row3 Re1
  rw [rounds_succ]
  have rf0 := Rr.frozen 0
  have rf1 := Rr.frozen 1
  go_wp2
  obtain ⟨w7, hwn⟩ : ∃ wz, wz = (World.setCell (World.setCell w6 ⟨(w.heap.size + 1), 0, none⟩ (.int .i64 D0)) ⟨(w.heap.size + 1), 1, none⟩ (.int .i64 D1)) := ⟨_, rfl⟩
  rw [← hwn]
  replace hwn : w7 = World.setCells w6 (w.heap.size + 1) 0 [.int .i64 D0, .int .i64 D1] := hwn
  replace Rr : Row w7 (w.heap.size + 1) #[.int .i64 D0, .int .i64 D1] 75 := psm hwn Rr (by simp [setL])
  replace Rc := prf hwn Rc
  replace Rx := prf hwn Rx
  replace Re0 := prf hwn Re0
  replace Re1 := prf hwn Re1
  replace hb0 := pbl hwn hb0
  clear hwn c0 c1 c2 c3 c4 c5 c6 r0 r1 x0 x1 e00 e01 e02 e10 e11 e12
  (try clear rf0 rf1)
  (try clear c0 c1 c2 c3 c4 c5 c6); obtain ⟨c0, c1, c2, c3, c4, c5, c6⟩ := row7 Rc
  (try clear r0 r1); obtain ⟨r0, r1⟩ := row2 Rr
  (try clear x0 x1); obtain ⟨x0, x1⟩ := row2 Rx
  (try clear e00 e01 e02); obtain ⟨e00, e01, e02⟩ := row3 Re0
  (try clear e10 e11 e12); obtain ⟨e10, e11, e12⟩ := row3 Re1
  refine bodyPost_ret (v := .agg #[.int .i64 D0, .int .i64 D1]) (by simp [results, Try.results67, go_sem, r0, r1]) rfl ⟨rfl, hb0⟩
theorem whole_t (s : Sp) (w : World) : Calls Try.prog 67 #[sv s] w fun e w' => e = .returned (rv (wA s) (wB s)) ∧ Below w.heap.size w w' := by
  have HS := sound_t s
  unfold wA wB rv
  cases h : soundS s with
  | false => rw [h] at HS; exact whole_false s 0 0 HS w
  | true => rw [h] at HS; exact whole_true s _ _ HS (ddepth_t s.d0) (ddepth_t s.d1) w
set_option maxRecDepth 100000 in
set_option maxHeartbeats 32000000 in
theorem count_t (a b : Int)
    (h0 : -1 ≤ a) (h1 : a ≤ 128) (h2 : 0 ≤ b) (h3 : b ≤ 128) (w : World) :
    Calls Try.prog 68 #[rv a b] w fun e w' => e = .returned (.int .i64 ((a + 1) * (b + 1))) ∧ Below w.heap.size w w' := by
  have q0 : 0 ≤ (a + 1) * (b + 1) := Int.mul_nonneg (by omega) (by omega)
  have q1 : (a + 1) * (b + 1) ≤ 129 * 129 := Int.mul_le_mul (by omega) (by omega) (by omega) (by omega)
  have w0 : IntKind.i64.wrap (a + 1) = a + 1 := IntWalk.i64_in _ (by omega)
  have w1 : IntKind.i64.wrap (b + 1) = b + 1 := IntWalk.i64_in _ (by omega)
  have w2 : IntKind.i64.wrap ((a + 1) * (b + 1)) = (a + 1) * (b + 1) := IntWalk.i64_in _ (by omega)
  clear h0 h1 h2 h3 q0 q1
  unfold rv
  obtain ⟨Rr, hb0⟩ := one_row w #[.int .i64 a, .int .i64 b] 75
  (try clear r0 r1); obtain ⟨r0, r1⟩ := row2 Rr
  go_enter Try.func68, Try.ntmps68
  go_wp2
  go_ret
  exact ⟨rfl, hb0⟩
set_option maxRecDepth 100000 in
set_option maxHeartbeats 32000000 in
theorem tall_t (a b : Int)
    (h0 : -1 ≤ a) (h1 : a ≤ 128) (h2 : 0 ≤ b) (h3 : b ≤ 128) (w : World) :
    Calls Try.prog 69 #[rv a b] w fun e w' => e = .returned (.int .i64 (a + b)) ∧ Below w.heap.size w w' := by
  have w2 : IntKind.i64.wrap (a + b) = a + b := IntWalk.i64_in _ (by omega)
  clear h0 h1 h2 h3
  unfold rv
  obtain ⟨Rr, hb0⟩ := one_row w #[.int .i64 a, .int .i64 b] 75
  (try clear r0 r1); obtain ⟨r0, r1⟩ := row2 Rr
  go_enter Try.func69, Try.ntmps69
  go_wp2
  go_ret
  exact ⟨rfl, hb0⟩
set_option maxRecDepth 100000 in
set_option maxHeartbeats 32000000 in
theorem has_a (a b x y : Int)
    (g0 : x < 0) (w : World) :
    Calls Try.prog 72 #[rv a b, rv x y] w fun e w' => e = .returned (.bool false) ∧ Below w.heap.size w w' := by
  have g0' : decide (x < 0) = true := decide_eq_true g0
  have i0 := ixa0
  have i1 := ixa1
  unfold rv
  obtain ⟨Rr, Ry, hb0⟩ := two_rows w #[.int .i64 a, .int .i64 b] #[.int .i64 x, .int .i64 y] 75 27
  (try clear r0 r1); obtain ⟨r0, r1⟩ := row2 Rr
  (try clear y0 y1); obtain ⟨y0, y1⟩ := row2 Ry
  go_enter Try.func72, Try.ntmps72
  go_wp2_with fail
  refine wp_loop_rounds 3 ?_
  rw [rounds_succ]
  go_wp2_with fail
  go_wp2
  go_ret
  exact ⟨rfl, hb0⟩
set_option maxRecDepth 100000 in
set_option maxHeartbeats 32000000 in
theorem has_b (a b x y : Int)
    (g0 : ¬ x < 0) (g1 : a < x) (w : World) :
    Calls Try.prog 72 #[rv a b, rv x y] w fun e w' => e = .returned (.bool false) ∧ Below w.heap.size w w' := by
  have g0' : decide (x < 0) = false := decide_eq_false g0
  have g1' : decide (a < x) = true := decide_eq_true g1
  have i0 := ixa0
  have i1 := ixa1
  unfold rv
  obtain ⟨Rr, Ry, hb0⟩ := two_rows w #[.int .i64 a, .int .i64 b] #[.int .i64 x, .int .i64 y] 75 27
  (try clear r0 r1); obtain ⟨r0, r1⟩ := row2 Rr
  (try clear y0 y1); obtain ⟨y0, y1⟩ := row2 Ry
  go_enter Try.func72, Try.ntmps72
  go_wp2_with fail
  refine wp_loop_rounds 3 ?_
  rw [rounds_succ]
  go_wp2_with fail
  go_wp2
  go_ret
  exact ⟨rfl, hb0⟩
set_option maxRecDepth 100000 in
set_option maxHeartbeats 32000000 in
theorem has_c (a b x y : Int)
    (g0 : ¬ x < 0) (g1 : ¬ a < x) (g2 : y < 0) (w : World) :
    Calls Try.prog 72 #[rv a b, rv x y] w fun e w' => e = .returned (.bool false) ∧ Below w.heap.size w w' := by
  have g0' : decide (x < 0) = false := decide_eq_false g0
  have g1' : decide (a < x) = false := decide_eq_false g1
  have g2' : decide (y < 0) = true := decide_eq_true g2
  have i0 := ixa0
  have i1 := ixa1
  unfold rv
  obtain ⟨Rr, Ry, hb0⟩ := two_rows w #[.int .i64 a, .int .i64 b] #[.int .i64 x, .int .i64 y] 75 27
  (try clear r0 r1); obtain ⟨r0, r1⟩ := row2 Rr
  (try clear y0 y1); obtain ⟨y0, y1⟩ := row2 Ry
  go_enter Try.func72, Try.ntmps72
  go_wp2_with fail
  refine wp_loop_rounds 3 ?_
  rw [rounds_succ]
  go_wp2_with fail
  rw [rounds_succ]
  go_wp2_with fail
  go_wp2
  go_ret
  exact ⟨rfl, hb0⟩
set_option maxRecDepth 100000 in
set_option maxHeartbeats 32000000 in
theorem has_d (a b x y : Int)
    (g0 : ¬ x < 0) (g1 : ¬ a < x) (g2 : ¬ y < 0) (g3 : b < y) (w : World) :
    Calls Try.prog 72 #[rv a b, rv x y] w fun e w' => e = .returned (.bool false) ∧ Below w.heap.size w w' := by
  have g0' : decide (x < 0) = false := decide_eq_false g0
  have g1' : decide (a < x) = false := decide_eq_false g1
  have g2' : decide (y < 0) = false := decide_eq_false g2
  have g3' : decide (b < y) = true := decide_eq_true g3
  have i0 := ixa0
  have i1 := ixa1
  unfold rv
  obtain ⟨Rr, Ry, hb0⟩ := two_rows w #[.int .i64 a, .int .i64 b] #[.int .i64 x, .int .i64 y] 75 27
  (try clear r0 r1); obtain ⟨r0, r1⟩ := row2 Rr
  (try clear y0 y1); obtain ⟨y0, y1⟩ := row2 Ry
  go_enter Try.func72, Try.ntmps72
  go_wp2_with fail
  refine wp_loop_rounds 3 ?_
  rw [rounds_succ]
  go_wp2_with fail
  rw [rounds_succ]
  go_wp2_with fail
  go_wp2
  go_ret
  exact ⟨rfl, hb0⟩
set_option maxRecDepth 100000 in
set_option maxHeartbeats 32000000 in
theorem has_e (a b x y : Int)
    (g0 : ¬ x < 0) (g1 : ¬ a < x) (g2 : ¬ y < 0) (g3 : ¬ b < y) (w : World) :
    Calls Try.prog 72 #[rv a b, rv x y] w fun e w' => e = .returned (.bool true) ∧ Below w.heap.size w w' := by
  have g0' : decide (x < 0) = false := decide_eq_false g0
  have g1' : decide (a < x) = false := decide_eq_false g1
  have g2' : decide (y < 0) = false := decide_eq_false g2
  have g3' : decide (b < y) = false := decide_eq_false g3
  have i0 := ixa0
  have i1 := ixa1
  unfold rv
  obtain ⟨Rr, Ry, hb0⟩ := two_rows w #[.int .i64 a, .int .i64 b] #[.int .i64 x, .int .i64 y] 75 27
  (try clear r0 r1); obtain ⟨r0, r1⟩ := row2 Rr
  (try clear y0 y1); obtain ⟨y0, y1⟩ := row2 Ry
  go_enter Try.func72, Try.ntmps72
  go_wp2_with fail
  refine wp_loop_rounds 3 ?_
  rw [rounds_succ]
  go_wp2_with fail
  rw [rounds_succ]
  go_wp2_with fail
  rw [rounds_succ]
  go_wp2
  go_ret
  exact ⟨rfl, hb0⟩
def hasB (a b x y : Int) : Bool := decide (0 ≤ x ∧ x ≤ a ∧ 0 ≤ y ∧ y ≤ b)
theorem has_t (a b x y : Int) (w : World) : Calls Try.prog 72 #[rv a b, rv x y] w fun e w' => e = .returned (.bool (hasB a b x y)) ∧ Below w.heap.size w w' := by
  unfold hasB
  by_cases g0 : x < 0
  · rw [decide_eq_false (by omega)]; exact has_a a b x y g0 w
  by_cases g1 : a < x
  · rw [decide_eq_false (by omega)]; exact has_b a b x y g0 g1 w
  by_cases g2 : y < 0
  · rw [decide_eq_false (by omega)]; exact has_c a b x y g0 g1 g2 w
  by_cases g3 : b < y
  · rw [decide_eq_false (by omega)]; exact has_d a b x y g0 g1 g2 g3 w
  rw [decide_eq_true (by omega)]; exact has_e a b x y g0 g1 g2 g3 w
set_option maxRecDepth 100000 in
set_option maxHeartbeats 32000000 in
theorem ends_t (a b h : Int)
    (h0 : -1 ≤ a) (h1 : a ≤ 128) (h2 : 0 ≤ b) (h3 : b ≤ 128) (h4 : 0 ≤ h) (h5 : h ≤ 1000) (w : World) :
    Calls Try.prog 73 #[rv a b, .int .i64 h] w fun e w' => e = .returned (.tuple #[.int .i64 (max (h - b) 0), .int .i64 (min h a)]) ∧ Below w.heap.size w w' := by
  have w2 : IntKind.i64.wrap (h - b) = h - b := IntWalk.i64_in _ (by omega)
  clear h0 h1 h2 h3 h4 h5
  unfold rv
  obtain ⟨Rr, hb0⟩ := one_row w #[.int .i64 a, .int .i64 b] 75
  (try clear r0 r1); obtain ⟨r0, r1⟩ := row2 Rr
  go_enter Try.func73, Try.ntmps73
  go_wp2_with fail
  refine wp_region_held_drew (S := (fun w' => w'.cell? ⟨w.heap.size, 0, none⟩ = some (Value.int .i64 a) ∧ w'.cell? ⟨w.heap.size, 1, none⟩ = some (Value.int .i64 b))) (by kernel_rfl) ?hSr1_ (fun hHeld => ?_)
  case hSr1_ => (exact ⟨r0, r1⟩)
  (clear r0 r1; (replace Rr := Rr.drew); (replace hb0 := hb0.drew); (generalize World.drew _ = wq at *))
  refine tk 0 ⟨some 6, .move (.tmp 1), 3, _, _, _⟩ hHeld ?_
  (try simp only [Act.put, nz1, nz2, nz3])
  refine tk 1 ⟨some 7, .indexAddr 75 (.tmp 2) (.const (.int .i64 1)), 0, _, _, _⟩ hHeld ?_
  (try simp only [Act.put, nz1, nz2, nz3])
  refine tk 2 ⟨some 8, .load 3 (.tmp 7), 3, _, _, _⟩ hHeld ?_
  (try simp only [Act.put, nz1, nz2, nz3])
  refine tk 3 ⟨some 9, .binOp .sub 3 (.tmp 6) (.tmp 8) 3, 3, _, _, _⟩ hHeld ?_
  (try simp only [Act.put, nz1, nz2, nz3])
  refine tk 4 ⟨some 10, .call { callee := .builtin .max, args := #[.tmp 9, .const (.int .i64 0)], argTypes := #[3, 3] }, 3, _, _, _⟩ hHeld ?_
  (try simp only [Act.put, nz1, nz2, nz3])
  refine tk 5 ⟨some 11, .move (.tmp 1), 3, _, _, _⟩ hHeld ?_
  (try simp only [Act.put, nz1, nz2, nz3])
  refine tk 6 ⟨some 12, .indexAddr 75 (.tmp 2) (.const (.int .i64 0)), 0, _, _, _⟩ hHeld ?_
  (try simp only [Act.put, nz1, nz2, nz3])
  refine tk 7 ⟨some 13, .load 3 (.tmp 12), 3, _, _, _⟩ hHeld ?_
  (try simp only [Act.put, nz1, nz2, nz3])
  refine tk 8 ⟨some 14, .call { callee := .builtin .min, args := #[.tmp 11, .tmp 13], argTypes := #[3, 3] }, 3, _, _, _⟩ hHeld ?_
  (try simp only [Act.put, nz1, nz2, nz3])
  refine tk 9 ⟨some 4, .assign (.tmp 10), 3, _, _, _⟩ hHeld ?_
  (try simp only [Act.put, nz1, nz2, nz3])
  refine tk 10 ⟨some 5, .assign (.tmp 14), 3, _, _, _⟩ hHeld ?_
  (try simp only [Act.put, nz1, nz2, nz3])
  refine wpAnyH_done (by kernel_rfl) ?_ _
  clear hHeld
  rename World => w1
  have lr := Rr.lt
  (try clear r0 r1); obtain ⟨r0, r1⟩ := row2 Rr
  go_wp2
  refine bodyPost_ret (v := .tuple #[.int .i64 (max (h - b) 0), .int .i64 (min h a)]) (by simp [results, Try.results73, go_sem]) rfl ⟨rfl, hb0⟩
theorem across_t (a b h : Int) (w : World) : Calls Try.prog 71 #[rv a b, .int .i64 h] w fun e w' => e = .returned (.func (.func 95) #[] #[.pointer (some ⟨w.heap.size + 1, 0, none⟩), .pointer (some ⟨w.heap.size, 0, none⟩)]) ∧ w' = (w.alloc (.cells #[.int .i64 a, .int .i64 b] 75)).alloc (.cells #[.int .i64 h] 3) := by
  have hmf : ∀ (fn : Fn) (first cap : Array Value) (w : World), (Instr.makeFunc fn first cap).run Try.prog w = .ok (.func fn first cap) w := fun _ _ _ _ => rfl
  unfold rv
  go_enter Try.func71, Try.ntmps71
  go_wp2
  go_ret
  exact ⟨rfl, rfl⟩
theorem walk_t (a b : Int) (w : World) : Calls Try.prog 74 #[rv a b] w fun e w' => e = .returned (.func (.func 96) #[] #[.pointer (some ⟨w.heap.size, 0, none⟩)]) ∧ w' = w.alloc (.cells #[.int .i64 a, .int .i64 b] 75) := by
  have hmf : ∀ (fn : Fn) (first cap : Array Value) (w : World), (Instr.makeFunc fn first cap).run Try.prog w = .ok (.func fn first cap) w := fun _ _ _ _ => rfl
  unfold rv
  go_enter Try.func74, Try.ntmps74
  go_wp2
  go_ret
  exact ⟨rfl, rfl⟩
set_option maxRecDepth 100000 in
set_option maxHeartbeats 8000000 in
theorem gwalk_t (s : Sp) (w : World) : Calls Try.prog 45 #[sv s] w fun e w' => ∃ g, e = .returned (.func (.func 96) #[] #[.pointer (some ⟨g, 0, none⟩)]) ∧ Row w' g #[.int .i64 (wA s), .int .i64 (wB s)] 75 ∧ w.heap.size ≤ g ∧ Below w.heap.size w w' := by
  have HW := whole_t s
  have HK := walk_t (wA s) (wB s)
  generalize wA s = a at *
  generalize wB s = b at *
  unfold sv rv at *
  obtain ⟨Rc, hb0⟩ := one_row w #[.int .i64 s.n, .int .i64 s.d0.kind, .int .i64 s.d0.side, .int .i64 s.d0.step, .int .i64 s.d1.kind, .int .i64 s.d1.side, .int .i64 s.d1.step] 26
  (try clear c0 c1 c2 c3 c4 c5 c6); obtain ⟨c0, c1, c2, c3, c4, c5, c6⟩ := row7 Rc
  go_enter Try.func45, Try.ntmps45
  go_wp2_with fail
  refine (HW _).mono ?_
  rintro e w1 ⟨rfl, hb⟩
  replace Rc := Rc.later hb
  replace hb0 := below_step hb0 hb
  clear hb
  have lc := Rc.lt
  (try clear c0 c1 c2 c3 c4 c5 c6); obtain ⟨c0, c1, c2, c3, c4, c5, c6⟩ := row7 Rc
  go_wp2_with fail
  refine (HK _).mono ?_
  rintro e w2 ⟨rfl, rfl⟩
  have hs := hb0.size
  have hb1 := hb0.alloc hb0.size (.cells #[.int .i64 a, .int .i64 b] 75)
  have RG := Row.new w1 #[.int .i64 a, .int .i64 b] 75
  go_wp2
  go_ret
  exact ⟨_, rfl, RG, hs, hb1⟩
set_option maxRecDepth 100000 in
set_option maxHeartbeats 32000000 in
theorem gcount_t (s : Sp)
 (w : World) :
    Calls Try.prog 35 #[sv s] w fun e w' => e = .returned (.int .i64 ((wA s + 1) * (wB s + 1))) ∧ Below w.heap.size w w' := by
  have HW := whole_t s
  have qa := wA_range s
  have qb := wB_range s
  have HC := count_t (wA s) (wB s) qa.1 qa.2 qb.1 qb.2
  generalize wA s = a at *
  generalize wB s = b at *
  clear qa qb
  unfold sv rv at *
  obtain ⟨Rc, hb0⟩ := one_row w #[.int .i64 s.n, .int .i64 s.d0.kind, .int .i64 s.d0.side, .int .i64 s.d0.step, .int .i64 s.d1.kind, .int .i64 s.d1.side, .int .i64 s.d1.step] 26
  (try clear c0 c1 c2 c3 c4 c5 c6); obtain ⟨c0, c1, c2, c3, c4, c5, c6⟩ := row7 Rc
  go_enter Try.func35, Try.ntmps35
  go_wp2_with fail
  refine (HW _).mono ?_
  rintro e w1 ⟨rfl, hb⟩
  replace Rc := Rc.later hb
  replace hb0 := below_step hb0 hb
  clear hb
  have lc := Rc.lt
  (try clear c0 c1 c2 c3 c4 c5 c6); obtain ⟨c0, c1, c2, c3, c4, c5, c6⟩ := row7 Rc
  go_wp2_with fail
  refine (HC _).mono ?_
  rintro e w2 ⟨rfl, hb⟩
  replace Rc := Rc.later hb
  replace hb0 := below_step hb0 hb
  clear hb
  have lc := Rc.lt
  (try clear c0 c1 c2 c3 c4 c5 c6); obtain ⟨c0, c1, c2, c3, c4, c5, c6⟩ := row7 Rc
  go_wp2
  go_ret
  exact ⟨rfl, hb0⟩
set_option maxRecDepth 100000 in
set_option maxHeartbeats 32000000 in
theorem gtall_t (s : Sp)
 (w : World) :
    Calls Try.prog 39 #[sv s] w fun e w' => e = .returned (.int .i64 (max (wA s + wB s) 0)) ∧ Below w.heap.size w w' := by
  have HW := whole_t s
  have qa := wA_range s
  have qb := wB_range s
  have HC := tall_t (wA s) (wB s) qa.1 qa.2 qb.1 qb.2
  generalize wA s = a at *
  generalize wB s = b at *
  clear qa qb
  unfold sv rv at *
  obtain ⟨Rc, hb0⟩ := one_row w #[.int .i64 s.n, .int .i64 s.d0.kind, .int .i64 s.d0.side, .int .i64 s.d0.step, .int .i64 s.d1.kind, .int .i64 s.d1.side, .int .i64 s.d1.step] 26
  (try clear c0 c1 c2 c3 c4 c5 c6); obtain ⟨c0, c1, c2, c3, c4, c5, c6⟩ := row7 Rc
  go_enter Try.func39, Try.ntmps39
  go_wp2_with fail
  refine (HW _).mono ?_
  rintro e w1 ⟨rfl, hb⟩
  replace Rc := Rc.later hb
  replace hb0 := below_step hb0 hb
  clear hb
  have lc := Rc.lt
  (try clear c0 c1 c2 c3 c4 c5 c6); obtain ⟨c0, c1, c2, c3, c4, c5, c6⟩ := row7 Rc
  go_wp2_with fail
  refine (HC _).mono ?_
  rintro e w2 ⟨rfl, hb⟩
  replace Rc := Rc.later hb
  replace hb0 := below_step hb0 hb
  clear hb
  have lc := Rc.lt
  (try clear c0 c1 c2 c3 c4 c5 c6); obtain ⟨c0, c1, c2, c3, c4, c5, c6⟩ := row7 Rc
  go_wp2
  go_ret
  exact ⟨rfl, hb0⟩
end Go.Proofs.Ytbekocknfpekoaa
namespace Go.Proofs.Ytbekocknfpekoaa
set_option linter.unusedVariables false
set_option linter.unusedSimpArgs false
open Go.RowKit
attribute [local go_sem] Oper.semAt_some
def acrF (a b h : Int) (k : Nat) : Array Value := #[rv (max (h - b) 0 + (k : Int)) (h - (max (h - b) 0 + (k : Int)))]
set_option maxRecDepth 100000 in
set_option maxHeartbeats 8000000 in
theorem across1_in (a b h : Int) (h0 : -1 ≤ a) (h1 : a ≤ 128) (h2 : 0 ≤ b) (h3 : b ≤ 128) (n gr gh : Nat) (w : World) (hR : Row w gr #[.int .i64 a, .int .i64 b] 75) (hH : Row w gh #[.int .i64 h] 3) :
    SeqN Fence.wide n Try.prog 95 #[.pointer (some ⟨gh, 0, none⟩), .pointer (some ⟨gr, 0, none⟩)] (acrF a b h) (fun V V' => V'.heap[gr]? = V.heap[gr]? ∧ V'.heap[gh]? = V.heap[gh]?) (cntH a b h) w := by
  intro i J Jx W hb hJ hJx hY h00
  have Rr := hR.below hb hR.lt
  have Rq := hH.below hb hH.lt
  have HT := tall_t a b h0 h1 h2 h3
  have HE := ends_t a b h h0 h1 h2 h3
  have hN : cntH a b h = (min h a - max (h - b) 0 + 1).toNat := rfl
  have hF : ∀ k, acrF a b h k = #[rv (max (h - b) 0 + (k : Int)) (h - (max (h - b) 0 + (k : Int)))] := fun _ => rfl
  have hN0 : (h < 0 ∨ a + b < h) → cntH a b h = 0 := fun hh => by rw [hN]; omega
  have hN1 : ¬ h < 0 → ¬ a + b < h → (cntH a b h : Int) = min h a - max (h - b) 0 + 1 ∧ cntH a b h ≤ 129 ∧ 0 ≤ max (h - b) 0 ∧ max (h - b) 0 ≤ 128 ∧ 0 ≤ h ∧ h ≤ 256 := fun x y => by rw [hN]; omega
  clear hb hR hH hN
  generalize acrF a b h = F at *
  generalize cntH a b h = N at *
  unfold rv at HT HE hF
  refine callsIn_of_wp Try.func95 rfl trivial ?_ rfl
  simp only [Try.ntmps95, List.size_toArray, List.length_cons, List.length_nil, Nat.reduceAdd, Nat.reduceSub, Array.replicate_succ, Array.replicate_zero, List.push_toArray, List.append_toArray, List.nil_append, List.cons_append]
  have HJ := Lib.hid (And.intro hJ hJx)
  have hY' := Lib.hid hY
  have H0 := Lib.hid h00
  have HF := Lib.hid hF
  have HN := Lib.hid (And.intro hN0 hN1)
  clear hY hJ hJx h00 hF hN0 hN1
  have hb0 : Below W.heap.size W W := Below.refl _ _
  have lr := Rr.lt
  have lq := Rq.lt
  obtain ⟨r0, r1⟩ := row2 Rr
  have q0 := Rq.cell 0
  by_cases g0 : h < 0
  · have g0' : decide (h < 0) = true := decide_eq_true g0
    have e0 := HN.out.1 (.inl g0)
    subst e0
    clear HN
    refine wpIn_wide.2 ?_
    go_wp2_with fail
    refine wp_region_held_drew (S := (fun w' => w'.cell? ⟨gh, 0, none⟩ = some (Value.int .i64 h))) (by kernel_rfl) ?hSr1_ (fun hHeld => ?_)
    case hSr1_ => (exact q0)
    (clear r0 r1 q0; (replace Rr := Rr.drew); (replace Rq := Rq.drew); (replace hb0 := hb0.drew); (generalize World.drew _ = wq at *))
    refine tk 0 ⟨some 7, .load 3 (.tmp 1), 3, _, _, _⟩ hHeld ?_
    (try simp only [Act.put, nz1, nz2, nz3])
    refine tk 1 ⟨some 8, .binOp .lss 3 (.tmp 7) (.const (.int .i64 0)) 3, 4, _, _, _⟩ hHeld ?_
    (try simp only [Act.put, nz1, nz2, nz3])
    refine tk 2 ⟨some 9, .move (.tmp 8), 4, _, _, _⟩ hHeld ?_
    (try simp only [Act.put, nz1, nz2, nz3])
    refine ts 3 ⟨some 10, .load 3 (.tmp 1), 3, _, _, _⟩ hHeld ?_
    (try simp only [Act.put, nz1, nz2, nz3])
    refine ts 4 ⟨some 11, .load 75 (.tmp 2), 75, _, _, _⟩ hHeld ?_
    (try simp only [Act.put, nz1, nz2, nz3])
    refine ts 5 ⟨some 12, .call { callee := .value (.func 69), args := #[.tmp 11], argTypes := #[75] }, 3, _, _, _⟩ hHeld ?_
    (try simp only [Act.put, nz1, nz2, nz3])
    refine ts 6 ⟨some 13, .binOp .gtr 3 (.tmp 10) (.tmp 12) 3, 4, _, _, _⟩ hHeld ?_
    (try simp only [Act.put, nz1, nz2, nz3])
    refine tk 7 ⟨some 14, .pick (.tmp 9) (.const (.bool true)) (.tmp 13), 4, _, _, _⟩ hHeld ?_
    (try simp only [Act.put, nz1, nz2, nz3])
    refine wpAnyH_done (by kernel_rfl) ?_ _
    clear hHeld
    rename World => w1
    have lr := Rr.lt
    have lq := Rq.lt
    (try clear r0 r1); obtain ⟨r0, r1⟩ := row2 Rr
    replace q0 := (Rq.cell 0).trans (show _ = some (Value.int .i64 h) from rfl)
    have J1 := abides_below HJ.out.1 H0.out hb0
    go_wp2
    exact bodyPost_ret (results_none rfl _ _ _) rfl ⟨⟨_, rfl⟩, .inl J1⟩
  have g0' : decide (h < 0) = false := decide_eq_false g0
  by_cases g1 : a + b < h
  · have g1' : decide (a + b < h) = true := decide_eq_true g1
    have e0 := HN.out.1 (.inr g1)
    subst e0
    clear HN
    refine wpIn_wide.2 ?_
    go_wp2_with fail
    refine wp_region_held_drew (S := (fun w' => w'.cell? ⟨gh, 0, none⟩ = some (Value.int .i64 h) ∧ w'.cell? ⟨gr, 0, none⟩ = some (Value.int .i64 a) ∧ w'.cell? ⟨gr, 1, none⟩ = some (Value.int .i64 b))) (by kernel_rfl) ?hSr2_ (fun hHeld => ?_)
    case hSr2_ => (exact ⟨q0, r0, r1⟩)
    (clear r0 r1 q0; (replace Rr := Rr.drew); (replace Rq := Rq.drew); (replace hb0 := hb0.drew); (generalize World.drew _ = wq at *))
    refine tk 0 ⟨some 7, .load 3 (.tmp 1), 3, _, _, _⟩ hHeld ?_
    (try simp only [Act.put, nz1, nz2, nz3])
    refine tk 1 ⟨some 8, .binOp .lss 3 (.tmp 7) (.const (.int .i64 0)) 3, 4, _, _, _⟩ hHeld ?_
    (try simp only [Act.put, nz1, nz2, nz3])
    refine tk 2 ⟨some 9, .move (.tmp 8), 4, _, _, _⟩ hHeld ?_
    (try simp only [Act.put, nz1, nz2, nz3])
    refine tk 3 ⟨some 10, .load 3 (.tmp 1), 3, _, _, _⟩ hHeld ?_
    (try simp only [Act.put, nz1, nz2, nz3])
    refine tk 4 ⟨some 11, .load 75 (.tmp 2), 75, _, _, _⟩ hHeld ?_
    (try simp only [Act.put, nz1, nz2, nz3])
    refine wpAnyH_ready (rs := [5]) (by kernel_rfl) (by simp) ?_
    refine AllReadyH.cons (o := ⟨some 12, .call { callee := .value (.func 69), args := #[.tmp 11], argTypes := #[75] }, 3, _, _, _⟩) rfl (fun K hK => ?_) AllReadyH.nil
    (go_simp; (refine (HT _).mono ?_); (rintro e wz ⟨rfl, hb⟩); (replace Rr := Rr.later hb); (replace Rq := Rq.later hb); (replace hb0 := below_step hb0 hb); go_wp2_with fail)
    refine hK.out _ _ ?hSr2_6_5 (fun hHeld2 => ?_)
    case hSr2_6_5 => (obtain ⟨q0, r0, r1⟩ := hHeld; exact ⟨cell_later hb q0, cell_later hb r0, cell_later hb r1⟩)
    clear hK K hHeld
    have hHeld := hHeld2
    clear hHeld2
    rename World => wq
    (try simp only [Act.put, nz1, nz2, nz3])
    refine tk 6 ⟨some 13, .binOp .gtr 3 (.tmp 10) (.tmp 12) 3, 4, _, _, _⟩ hHeld ?_
    (try simp only [Act.put, nz1, nz2, nz3])
    refine tk 7 ⟨some 14, .pick (.tmp 9) (.const (.bool true)) (.tmp 13), 4, _, _, _⟩ hHeld ?_
    (try simp only [Act.put, nz1, nz2, nz3])
    refine wpAnyH_done (by kernel_rfl) ?_ _
    clear hHeld
    rename World => w1
    have lr := Rr.lt
    have lq := Rq.lt
    (try clear r0 r1); obtain ⟨r0, r1⟩ := row2 Rr
    replace q0 := (Rq.cell 0).trans (show _ = some (Value.int .i64 h) from rfl)
    have J1 := abides_below HJ.out.1 H0.out hb0
    go_wp2
    exact bodyPost_ret (results_none rfl _ _ _) rfl ⟨⟨_, rfl⟩, .inl J1⟩
  have g1' : decide (a + b < h) = false := decide_eq_false g1
  obtain ⟨n1, n2, n3, n4, n5, n6⟩ := HN.out.2 g0 g1
  have HEh := HE n5 (by omega)
  clear HN HE
  have n1x := Lib.hid n1
  generalize hfm : max (h - b) 0 = fm at *
  generalize hlm : min h a = lm at *
  clear hfm hlm
  gi_wp2_with fail
  refine wpIn_wide.2 ?_
  refine wp_region_held_drew (S := (fun w' => w'.cell? ⟨gh, 0, none⟩ = some (Value.int .i64 h) ∧ w'.cell? ⟨gr, 0, none⟩ = some (Value.int .i64 a) ∧ w'.cell? ⟨gr, 1, none⟩ = some (Value.int .i64 b))) (by kernel_rfl) ?hSr3_ (fun hHeld => ?_)
  case hSr3_ => (exact ⟨q0, r0, r1⟩)
  (clear r0 r1 q0; (replace Rr := Rr.drew); (replace Rq := Rq.drew); (replace hb0 := hb0.drew); (generalize World.drew _ = wq at *))
  refine tk 0 ⟨some 7, .load 3 (.tmp 1), 3, _, _, _⟩ hHeld ?_
  (try simp only [Act.put, nz1, nz2, nz3])
  refine tk 1 ⟨some 8, .binOp .lss 3 (.tmp 7) (.const (.int .i64 0)) 3, 4, _, _, _⟩ hHeld ?_
  (try simp only [Act.put, nz1, nz2, nz3])
  refine tk 2 ⟨some 9, .move (.tmp 8), 4, _, _, _⟩ hHeld ?_
  (try simp only [Act.put, nz1, nz2, nz3])
  refine tk 3 ⟨some 10, .load 3 (.tmp 1), 3, _, _, _⟩ hHeld ?_
  (try simp only [Act.put, nz1, nz2, nz3])
  refine tk 4 ⟨some 11, .load 75 (.tmp 2), 75, _, _, _⟩ hHeld ?_
  (try simp only [Act.put, nz1, nz2, nz3])
  refine wpAnyH_ready (rs := [5]) (by kernel_rfl) (by simp) ?_
  refine AllReadyH.cons (o := ⟨some 12, .call { callee := .value (.func 69), args := #[.tmp 11], argTypes := #[75] }, 3, _, _, _⟩) rfl (fun K hK => ?_) AllReadyH.nil
  (go_simp; (refine (HT _).mono ?_); (rintro e wz ⟨rfl, hb⟩); (replace Rr := Rr.later hb); (replace Rq := Rq.later hb); (replace hb0 := below_step hb0 hb); go_wp2_with fail)
  refine hK.out _ _ ?hSr3_6_5 (fun hHeld2 => ?_)
  case hSr3_6_5 => (obtain ⟨q0, r0, r1⟩ := hHeld; exact ⟨cell_later hb q0, cell_later hb r0, cell_later hb r1⟩)
  clear hK K hHeld
  have hHeld := hHeld2
  clear hHeld2
  rename World => wq
  (try simp only [Act.put, nz1, nz2, nz3])
  refine tk 6 ⟨some 13, .binOp .gtr 3 (.tmp 10) (.tmp 12) 3, 4, _, _, _⟩ hHeld ?_
  (try simp only [Act.put, nz1, nz2, nz3])
  refine tk 7 ⟨some 14, .pick (.tmp 9) (.const (.bool true)) (.tmp 13), 4, _, _, _⟩ hHeld ?_
  (try simp only [Act.put, nz1, nz2, nz3])
  refine wpAnyH_done (by kernel_rfl) ?_ _
  clear hHeld
  rename World => w1
  have lr := Rr.lt
  have lq := Rq.lt
  (try clear r0 r1); obtain ⟨r0, r1⟩ := row2 Rr
  replace q0 := (Rq.cell 0).trans (show _ = some (Value.int .i64 h) from rfl)
  have J1 := Lib.hid (abides_below HJ.out.1 H0.out hb0)
  have HRR := Lib.hid (And.intro Rr Rq)
  clear H0 hb0 Rr Rq HT lr lq
  gi_wp2
  refine ⟨trivial, fun h => (by cases h), (callsIn_wide.2 (HEh w1)).mono ?_⟩
  rintro e w2 ⟨rfl, hb⟩
  replace J1 := Lib.hid (abides_below HJ.out.1 J1.out hb)
  replace HRR := Lib.hid (And.intro (HRR.out.1.later hb) (HRR.out.2.later hb))
  clear hb HEh r0 r1 q0 n1
  gi_wp2
  gi_loopw [6] (fun iv wr => ∃ k : Nat, iv = .int .i64 (fm + (k : Int)) ∧ k ≤ N ∧ Hid (J k wr) ∧ Hid (Row wr gr #[.int .i64 a, .int .i64 b] 75 ∧ Row wr gh #[.int .i64 h] 3)) (fun iv _ => (fm + N - intOf iv).toNat)
  case atStart => exact ⟨0, by simp, Nat.zero_le _, J1, HRR⟩
  case round =>
    clear J1 HRR
    obtain ⟨k, rfl, hk, hJk, hRk⟩ := hrel
    have nn := n1x.out
    by_cases hlt : k < N
    · have hle : fm + (k : Int) ≤ lm := by omega
      have hle' : decide (fm + (k : Int) ≤ lm) = true := decide_eq_true hle
      have q0 := hRk.out.2.cell 0
      have w8 : IntKind.i64.wrap (h - (fm + (k : Int))) = h - (fm + (k : Int)) := IntWalk.i64_in _ (by omega)
      have w9 : IntKind.i64.wrap (fm + (k : Int) + 1) = fm + (k : Int) + 1 := IntWalk.i64_in _ (by omega)
      obtain ⟨fn, tmps, assign, body, hy, hRb⟩ := hY'.out k wr hlt hJk.out
      rw [HF.out k] at hy
      clear hJk
      gi_wp2
      refine ⟨fun h => (by cases h), hRb.mono ?_⟩
      rintro e W3 (⟨rfl, hJ3, hK3⟩ | ⟨rfl, hJx3⟩)
      · have R3 := Lib.hid (And.intro (show Row W3 gr #[.int .i64 a, .int .i64 b] 75 from hK3.1.trans hRk.out.1) (show Row W3 gh #[.int .i64 h] 3 from hK3.2.trans hRk.out.2))
        replace hJ3 := Lib.hid hJ3
        clear hK3 hRk
        gi_wp2
        refine ⟨⟨k + 1, ?_, by omega, hJ3, R3⟩, ?_⟩
        · congr 1; omega
        · simp [intOf]; omega
      · gi_wp2
        refine bodyPost_ret (results_none rfl _ _ _) rfl ?_
        exact ⟨⟨_, rfl⟩, .inr ⟨_, by omega, hJx3⟩⟩
    · have hkN : k = N := by omega
      subst hkN
      have hle : ¬ fm + (k : Int) ≤ lm := by omega
      have hle' : decide (fm + (k : Int) ≤ lm) = false := decide_eq_false hle
      clear nn n1x
      gi_wp2
      go_end0
      exact ⟨⟨_, rfl⟩, .inl hJk.out⟩
end Go.Proofs.Ytbekocknfpekoaa
namespace Go.Proofs.Ytbekocknfpekoaa
set_option linter.unusedVariables false
set_option linter.unusedSimpArgs false
open Go.RowKit
attribute [local go_sem] Oper.semAt_some
theorem take_snoc {α : Type} (l : List α) (k : Nat) (x : α) (h : l[k]? = some x) : l.take (k + 1) = l.take k ++ [x] := by
  rw [List.take_add_one, h]; rfl
theorem take_full {α : Type} (l : List α) : l.take l.length = l := List.take_length
set_option maxRecDepth 100000 in
set_option maxHeartbeats 8000000 in
theorem appendSeq_t (a b h : Int) (h0 : -1 ≤ a) (h1 : a ≤ 128) (h2 : 0 ≤ b) (h3 : b ≤ 128) (gr gh : Nat) (w : World) (hR : Row w gr #[.int .i64 a, .int .i64 b] 75) (hH : Row w gh #[.int .i64 h] 3) :
    Calls Try.prog 94 #[.slice none 0 0, .func (.func 95) #[] #[.pointer (some ⟨gh, 0, none⟩), .pointer (some ⟨gr, 0, none⟩)]] w fun e w' => ∃ v, e = .returned v ∧ TS w' v (lineN a b h) ∧ Below w.heap.size w w' := by
  have hLN : (lineN a b h).length = cntH a b h := lineN_length a b h
  have hLG : ∀ k, k < cntH a b h → (lineN a b h).take (k + 1) = (lineN a b h).take k ++ [(max (h - b) 0 + (k : Int), h - (max (h - b) 0 + (k : Int)))] := fun k hk => take_snoc _ _ _ (lineN_get hk)
  have hTF : (lineN a b h).take (cntH a b h) = lineN a b h := by rw [← hLN]; exact take_full _
  have hTL : ∀ k, k ≤ cntH a b h → ((lineN a b h).take k).length = k := fun k hk => by rw [List.length_take]; omega
  have hNN : cntH a b h ≤ 129 := by unfold cntH; omega
  have hF : ∀ k, acrF a b h k = #[.agg #[.int .i64 (max (h - b) 0 + (k : Int)), .int .i64 (h - (max (h - b) 0 + (k : Int)))]] := fun _ => rfl
  have hseq := fun (w0 : World) R1 R2 => across1_in a b h h0 h1 h2 h3 2 gr gh w0 R1 R2
  clear h0 h1 h2 h3 hLN
  generalize lineN a b h = L at *
  generalize cntH a b h = N at *
  generalize acrF a b h = F at *
  generalize hfm : max (h - b) 0 = fm at *
  clear hfm
  refine (callsIn_wide (n := 3)).1 ?_
  refine callsIn_of_wp_marks Try.func94 rfl trivial ?_ rfl
  simp only [Try.ntmps94, List.size_toArray, List.length_cons, List.length_nil, Nat.reduceAdd, Nat.reduceSub, Array.replicate_succ, Array.replicate_zero, List.push_toArray, List.append_toArray, List.nil_append, List.cons_append]
  have HTFx := Lib.hid (And.intro hTF hTL)
  have HLGx := Lib.hid hLG
  have HFx := Lib.hid hF
  clear hTF hTL hLG hF
  gi_wp2
  obtain ⟨R0, hB0⟩ := one_row w #[.slice none 0 0] 49
  have hlr := hR.lt
  have hlh := hH.lt
  replace hR := hR.alloc (.cells #[.slice none 0 0] 49)
  replace hH := hH.alloc (.cells #[.slice none 0 0] 49)
  have hs0 := hB0.size
  have hs1 : (w.alloc (.cells #[.slice none 0 0] 49)).heap.size = w.heap.size + 1 := by simp
  generalize w.alloc (.cells #[.slice none 0 0] 49) = w0 at *
  refine wpIn_rangeNA rfl (by omega) (gf := 95) (lb := #[.pointer (some ⟨gh, 0, none⟩), .pointer (some ⟨gr, 0, none⟩)]) rfl trivial (enters_of Try.func95 (by kernel_rfl) rfl)
    (hseq w0 hR hH) (fun h1 h2 => ⟨h2.1.trans h1.1, h2.2.trans h1.2⟩) (fun W l o o' hl _ _ _ => ⟨World.putObj_heap_other (by omega), World.putObj_heap_other (by omega)⟩) (fun W o hW => ⟨Below.heap_alloc W o _ (by omega), Below.heap_alloc W o _ (by omega)⟩) (Below.refl _ _) (fun k => by rw [HFx.out k]; rfl)
    (fun k W => (∃ po co, Row W w.heap.size #[.slice po k co] 49 ∧ OwnT w0.heap.size W (.slice po k co) (L.take k)) ∧ Below w.heap.size w W)
    (fun c _ W => False)
    (OwnFrom.and (Own.from (fun s A B row hs hg hr => by obtain ⟨po, co, h1, h2⟩ := hs; exact ⟨po, co, row_kept h1 hg hr, h2.grown hg hr⟩) _) (ownFrom_below (Nat.le_refl _) hs0))
    (fun c s A B row hs hg hr => hs.elim)
    ⟨⟨none, 0, R0, OwnT.nil _ _⟩, hB0⟩
    (fun k => .cells #[.int .i64 (fm + (k : Int)), .int .i64 (h - (fm + (k : Int)))] 27)
    (fun k b => { tmps := #[.slice none 0 0, .func (.func 95) #[] #[.pointer (some ⟨gh, 0, none⟩), .pointer (some ⟨gr, 0, none⟩)], .pointer (some ⟨w.heap.size, 0, none⟩), undef, .slice none 0 0, .pointer (some ⟨b, 0, none⟩), .func (.func 95) #[] #[.pointer (some ⟨gh, 0, none⟩), .pointer (some ⟨gr, 0, none⟩)], .agg #[.int .i64 (fm + (k : Int)), .int .i64 (h - (fm + (k : Int)))], undef, undef, undef, undef, undef], defers := [] }) ?assign ?body ?done ?stop
  case assign =>
    intro i k W K hK
    rw [HFx.out k]
    gi_wp2
    exact hK
  case body =>
    rintro i k b W hkN ⟨⟨po, co, RO, HO⟩, hB⟩ hbx hbb
    have RX : Row W b #[.int .i64 (fm + (k : Int)), .int .i64 (h - (fm + (k : Int)))] 27 := hbx
    generalize hx : fm + (k : Int) = x at *
    generalize hy : h - x = y at *
    have c2 := (RO.cell 0).trans (show _ = some (Value.slice po k co) from rfl)
    have x0 := (RX.cell 0).trans (show _ = some (Value.int .i64 x) from rfl)
    have x1 := (RX.cell 1).trans (show _ = some (Value.int .i64 y) from rfl)
    have hsW := hB.size
    have hbW := RX.lt
    have hoW := RO.lt
    have hTk := HTFx.out.2 k (by omega)
    have hG := HLGx.out k hkN
    rw [hx, hy] at hG
    obtain ⟨v', w3, hrun, hown, hgrow⟩ := appT_one (x, y) HO (by rw [hTk]; omega) (by omega)
    rw [← hG] at hown
    obtain ⟨pv, cv, hpv, _, _⟩ := hown.read
    rw [HTFx.out.2 (k + 1) (by omega)] at hpv
    subst hpv
    have RO3 := rowT_app HO hgrow RO (by omega)
    have K3 := keepsT_app HO hgrow w0.heap.size
    have BR := blockT_app HO hgrow (g := gr) (by omega) (by omega)
    have BH := blockT_app HO hgrow (g := gh) (by omega) (by omega)
    have HB3 := appT_below HO (Below.refl w0.heap.size W) (by omega) hgrow
    have hB3 := hB.trans (HB3.mono (show w.heap.size ≤ w0.heap.size by omega))
    have df2 := RO3.frozen 0
    have d2 := (RO3.cell 0).trans (show _ = some (Value.slice po k co) from rfl)
    have HFIN := Lib.hid (show KeepsFrom w0.heap.size W (w3.setCell ⟨w.heap.size, 0, none⟩ (.slice pv (k + 1) cv)) from K3.trans ((KeepsOthers.setCell _ _ _).from _))
    have HKP := Lib.hid (show (w3.setCell ⟨w.heap.size, 0, none⟩ (.slice pv (k + 1) cv)).heap[gr]? = W.heap[gr]? ∧ (w3.setCell ⟨w.heap.size, 0, none⟩ (.slice pv (k + 1) cv)).heap[gh]? = W.heap[gh]? from ⟨(heap_setCell_other _ _ _ _ (by simp; omega)).trans BR, (heap_setCell_other _ _ _ _ (by simp; omega)).trans BH⟩)
    have HROW := Lib.hid (show Row (w3.setCell ⟨w.heap.size, 0, none⟩ (.slice pv (k + 1) cv)) w.heap.size #[.slice pv (k + 1) cv] 49 from RO3.set 0 (.slice pv (k + 1) cv))
    have HOWN := Lib.hid (hown.set 0 (.slice pv (k + 1) cv) (show w.heap.size < w0.heap.size by omega))
    have HBEL := Lib.hid (hB3.setCell (p := ⟨w.heap.size, 0, none⟩) (Nat.le_refl _) (.slice pv (k + 1) cv))
    have HRUN := Lib.hid hrun
    have hk63 := Lib.hid (show k ≤ 200 by omega)
    clear RX RO HO hB hrun hown hgrow RO3 K3 BR BH HB3 R0 hB0 hB3 hbx hR hH hG hTk hx hy
    gi_wp2_with ((with_reducible refine wpListIn_appR (o := ⟨some 11, _, _, _, _, _⟩) ?_ (.tmp 8) (.tmp 10) 49 ?_ (v := .slice po k co) (bv := .slice (some ⟨W.heap.size, 0, none⟩) 1 1) ?_ ?_ HRUN.out ?_); (with_reducible rfl); (with_reducible rfl); rfl; rfl; clear HRUN)
    exact ⟨HFIN.out, HKP.out, ⟨pv, cv, HROW.out, HOWN.out⟩, HBEL.out⟩
  case done =>
    rintro D W hD ⟨⟨po, co, RO, HO⟩, hB⟩ hK
    have c2 := (RO.cell 0).trans (show _ = some (Value.slice po N co) from rfl)
    have HP := HO.grown (grownBy_putObj' W D (.deferred none)) (fun r e => by cases e; exact ⟨_, hK, rfl⟩)
    have HF := Lib.hid (show TS (W.putObj D (.deferred none)) (.slice po N co) L by have := HP.read; rw [HTFx.out.1] at this; exact this)
    have hc5 := ((row_put RO (.deferred none) hK rfl).cell 0).trans (show _ = some (Value.slice po N co) from rfl)
    clear RO HO HP R0 hB0 hR hH
    gi_wp2
    refine ⟨by simp, .inl ⟨_, _, rfl, run_takeDeferred hK, ?_⟩⟩
    refine ⟨.slice po N co, ?_, ⟨_, rfl, HF.out, hB.trans (belowK_b (w := w) (Nat.le_refl _) W D _ _ (by omega) hK rfl rfl)⟩⟩
    simp only [results, Try.results94]
    simp [go_sem, hc5]
  case stop =>
    rintro D c k W hD _ hs hK
    exact hs.elim
set_option maxRecDepth 100000 in
set_option maxHeartbeats 8000000 in
theorem collect_t (a b h : Int) (h0 : -1 ≤ a) (h1 : a ≤ 128) (h2 : 0 ≤ b) (h3 : b ≤ 128) (gr gh : Nat) (w : World) (hR : Row w gr #[.int .i64 a, .int .i64 b] 75) (hH : Row w gh #[.int .i64 h] 3) :
    Calls Try.prog 70 #[.func (.func 95) #[] #[.pointer (some ⟨gh, 0, none⟩), .pointer (some ⟨gr, 0, none⟩)]] w fun e w' => ∃ v, e = .returned v ∧ TS w' v (lineN a b h) ∧ Below w.heap.size w w' := by
  have HA := appendSeq_t a b h h0 h1 h2 h3 gr gh w hR hH
  clear hR hH h0 h1 h2 h3
  generalize lineN a b h = L at *
  go_enter Try.func70, Try.ntmps70
  go_wp2_with fail
  refine HA.mono ?_
  rintro e w1 ⟨v, rfl, hT, hb⟩
  go_wp2
  go_ret
  exact ⟨_, rfl, hT, hb⟩
set_option maxRecDepth 100000 in
set_option maxHeartbeats 8000000 in
theorem on_t (s : Sp) (h : Int) (w : World) : Calls Try.prog 41 #[sv s, .int .i64 h] w fun e w' => ∃ v, e = .returned v ∧ TS w' v (lineN (wA s) (wB s) h) ∧ Below w.heap.size w w' := by
  have HW := whole_t s
  have HK := across_t (wA s) (wB s) h
  have ra := wA_range s
  have rb := wB_range s
  have HC := fun gr gh w1 => collect_t (wA s) (wB s) h ra.1 ra.2 rb.1 rb.2 gr gh w1
  generalize wA s = a at *
  generalize wB s = b at *
  generalize lineN a b h = L at *
  clear ra rb
  unfold sv rv at *
  obtain ⟨Rc, hb0⟩ := one_row w #[Value.int .i64 s.n, Value.int .i64 s.d0.kind, Value.int .i64 s.d0.side, Value.int .i64 s.d0.step, Value.int .i64 s.d1.kind, Value.int .i64 s.d1.side, Value.int .i64 s.d1.step] 26
  replace c0 := (Rc.cell 0).trans (show _ = some (Value.int .i64 s.n) from rfl)
  replace c1 := (Rc.cell 1).trans (show _ = some (Value.int .i64 s.d0.kind) from rfl)
  replace c2 := (Rc.cell 2).trans (show _ = some (Value.int .i64 s.d0.side) from rfl)
  replace c3 := (Rc.cell 3).trans (show _ = some (Value.int .i64 s.d0.step) from rfl)
  replace c4 := (Rc.cell 4).trans (show _ = some (Value.int .i64 s.d1.kind) from rfl)
  replace c5 := (Rc.cell 5).trans (show _ = some (Value.int .i64 s.d1.side) from rfl)
  replace c6 := (Rc.cell 6).trans (show _ = some (Value.int .i64 s.d1.step) from rfl)
  go_enter Try.func41, Try.ntmps41
  go_wp2_with fail
  refine (HW _).mono ?_
  rintro e w1 ⟨rfl, hb⟩
  replace Rc := Rc.later hb
  replace hb0 := below_step hb0 hb
  clear hb
  have lc := Rc.lt
  replace c0 := (Rc.cell 0).trans (show _ = some (Value.int .i64 s.n) from rfl)
  replace c1 := (Rc.cell 1).trans (show _ = some (Value.int .i64 s.d0.kind) from rfl)
  replace c2 := (Rc.cell 2).trans (show _ = some (Value.int .i64 s.d0.side) from rfl)
  replace c3 := (Rc.cell 3).trans (show _ = some (Value.int .i64 s.d0.step) from rfl)
  replace c4 := (Rc.cell 4).trans (show _ = some (Value.int .i64 s.d1.kind) from rfl)
  replace c5 := (Rc.cell 5).trans (show _ = some (Value.int .i64 s.d1.side) from rfl)
  replace c6 := (Rc.cell 6).trans (show _ = some (Value.int .i64 s.d1.step) from rfl)
  go_wp2_with fail
  refine (HK _).mono ?_
  rintro e w2 ⟨rfl, rfl⟩
  obtain ⟨RA, RB, hb1⟩ := two_rows w1 #[.int .i64 a, .int .i64 b] #[.int .i64 h] 75 3
  have HC2 := HC w1.heap.size (w1.heap.size + 1) _ RA RB
  replace hb0 := below_step hb0 hb1
  generalize (w1.alloc (.cells #[.int .i64 a, .int .i64 b] 75)).alloc (.cells #[.int .i64 h] 3) = w2 at *
  clear HC RA RB hb1 HK HW Rc c0 c1 c2 c3 c4 c5 c6
  go_wp2_with fail
  refine HC2.mono ?_
  rintro e w3 ⟨v, rfl, hT, hb⟩
  replace hb0 := below_step hb0 hb
  clear HC2 hb
  go_wp2
  go_ret
  exact ⟨_, rfl, hT, hb0⟩
end Go.Proofs.Ytbekocknfpekoaa
namespace Go.Proofs.Ytbekocknfpekoaa
set_option linter.unusedVariables false
set_option linter.unusedSimpArgs false
open Go.RowKit
attribute [local go_sem] Oper.semAt_some
def marksOf (Ds : List Nat) : List Deferred := Ds.map (fun D => { target := .collected D, args := #[] })
/-- the marks that ranges over iterators leave, taken in one by one -/
theorem leaves_marks {F : Fence} {n : Nat} {P : Program} {fn : Func} {tmps : Array Value} {R : Ending → World → Prop} (Φ : World → Prop) (B : Nat)
    (hΦ : ∀ w D, B ≤ D → Φ w → w.heap[D]? = some (.deferred (some [])) → Φ (w.putObj D (.deferred none)))
    (hend : ∀ w, Φ w → LeavesIn F n P fn tmps R [] .returning w) :
    ∀ (Ds : List Nat) (w : World), Ds.Nodup → (∀ D ∈ Ds, B ≤ D ∧ w.heap[D]? = some (.deferred (some []))) → Φ w → LeavesInM F n P fn tmps R (marksOf Ds) .returning w
  | [], w, _, _, h => hend w h
  | D :: Ds, w, hn, hd, h => by
    have h1 := hd D (by simp)
    obtain ⟨hn1, hn2⟩ := List.nodup_cons.1 hn
    refine ⟨by simp, .inl ⟨D, _, rfl, run_takeDeferred h1.2, leaves_marks Φ B hΦ hend Ds _ hn2 (fun D' hD' => ?_) (hΦ _ _ h1.1 h h1.2)⟩⟩
    have h2 := hd D' (by simp [hD'])
    exact ⟨h2.1, (World.putObj_heap_other (by rintro rfl; exact hn1 hD')).trans h2.2⟩
theorem roundIn_any {n m l0 : Nat} {P : Program} {l : Nat} {f : FuncId} {tmps : Array Value} {assign body : Code} {w : World} {R : Ending → World → Prop} (h : RoundIn Fence.wide n P l f tmps assign body w R) : RoundIn (Fence.wide.inRound l0) m P l f tmps assign body w R :=
  ⟨h.1, fun c cs _ => h.2 c cs (room_wide _)⟩
def walF (a b : Int) (k : Nat) : Array Value := #[.int .i64 (k : Int), .agg #[.int .i64 ((walkN a b).getD k (0, 0)).1, .int .i64 ((walkN a b).getD k (0, 0)).2]]
theorem walF_at {a b : Int} {H k : Nat} (hH : (H : Int) < a + b + 1) (hk : k < cntH a b (H : Int)) : walF a b (posF a b H + k) = #[.int .i64 ((posF a b H + k : Nat) : Int), .agg #[.int .i64 (max ((H : Int) - b) 0 + (k : Int)), .int .i64 ((H : Int) - (max ((H : Int) - b) 0 + (k : Int)))]] := by
  unfold walF
  have h := @upto_get a b H (a + b + 1).toNat k (by omega) hk
  have e : (walkN a b).getD (posF a b H + k) (0, 0) = (max ((H : Int) - b) 0 + (k : Int), (H : Int) - (max ((H : Int) - b) 0 + (k : Int))) := by
    rw [List.getD_eq_getElem?_getD]; unfold walkN; rw [h]; rfl
  rw [e]
theorem walk_len (a b : Int) : (walkN a b).length = posF a b (a + b + 1).toNat := upto_length _ _ _
/-- the marks' blocks lie as they were laid -/
def Marked (B : Nat) (Ds : List Nat) (V : World) : Prop := Ds.Nodup ∧ ∀ D ∈ Ds, B ≤ D ∧ V.heap[D]? = some (.deferred (some []))
theorem Marked.keeps {B L : Nat} {Ds : List Nat} {V V' : World} (h : Marked B Ds V) (hk : KeepsFrom L V V') (hl : L ≤ B) : Marked B Ds V' :=
  ⟨h.1, fun D hD => ⟨(h.2 D hD).1, hk.same D _ (Nat.le_trans hl (h.2 D hD).1) (h.2 D hD).2 rfl⟩⟩
theorem Marked.grown {B L : Nat} {Ds : List Nat} {V V' : World} {row : Option Nat} (h : Marked B Ds V) (hg : V.grownBy V' row) (hs : ∀ D ∈ Ds, D < L) (hr : ∀ r, row = some r → L ≤ r) : Marked B Ds V' :=
  ⟨h.1, fun D hD => ⟨(h.2 D hD).1, (hg.block D (Array.getElem?_eq_some_iff.1 (h.2 D hD).2).1 (fun e => by have := hr D e.symm; have := hs D hD; omega)).trans (h.2 D hD).2⟩⟩
theorem Marked.lt {B : Nat} {Ds : List Nat} {V : World} (h : Marked B Ds V) : ∀ D ∈ Ds, D < V.heap.size := fun D hD => (Array.getElem?_eq_some_iff.1 (h.2 D hD).2).1
theorem Marked.alloc {B : Nat} {Ds : List Nat} {V : World} (h : Marked B Ds V) (o : Obj) : Marked B Ds (V.alloc o) :=
  ⟨h.1, fun D hD => ⟨(h.2 D hD).1, (Below.heap_alloc V o D (h.lt D hD)).trans (h.2 D hD).2⟩⟩
theorem Marked.set {B : Nat} {Ds : List Nat} {V : World} (h : Marked B Ds V) (p : Addr) (v : Value) (hp : ∃ o : Obj, V.heap[p.block]? = some o ∧ o.isCells = true) : Marked B Ds (V.setCell p v) :=
  ⟨h.1, fun D hD => ⟨(h.2 D hD).1, (heap_setCell_other _ _ _ _ (fun e => by
    obtain ⟨o, h1, h2⟩ := hp
    rw [← e, (h.2 D hD).2] at h1; cases h1; cases h2)).trans (h.2 D hD).2⟩⟩
theorem Marked.below {B : Nat} {Ds : List Nat} {V V' : World} (h : Marked B Ds V) (hb : Below V.heap.size V V') : Marked B Ds V' :=
  ⟨h.1, fun D hD => ⟨(h.2 D hD).1, (hb.block D (h.lt D hD)).trans (h.2 D hD).2⟩⟩
theorem Marked.cons {B : Nat} {Ds : List Nat} {V : World} (h : Marked B Ds V) {D : Nat} (hB : B ≤ D) (hD : V.heap[D]? = some (.deferred (some []))) (hn : ∀ D' ∈ Ds, D' < D) : Marked B (D :: Ds) V :=
  ⟨List.nodup_cons.2 ⟨fun e => by have := hn D e; omega, h.1⟩, fun D' hD' => by
    rcases List.mem_cons.1 hD' with rfl | h1
    · exact ⟨hB, hD⟩
    · exact h.2 D' h1⟩
set_option maxRecDepth 100000 in
set_option maxHeartbeats 16000000 in
theorem walk1_in (a b : Int) (h0 : -1 ≤ a) (h1 : a ≤ 128) (h2 : 0 ≤ b) (h3 : b ≤ 128) (n g : Nat) (w : World) (hR : Row w g #[.int .i64 a, .int .i64 b] 75) :
    SeqR Fence.wide n Try.prog 96 #[.pointer (some ⟨g, 0, none⟩)] (walF a b) (fun V V' => V'.heap[g]? = V.heap[g]?) (walkN a b).length w := by
  intro l J Jx ρ0 W hb hJ hJx hC hCx hY h00
  have Rg := hR.below hb hR.lt
  have HT := tall_t a b h0 h1 h2 h3
  have HK := across_t a b
  have HS := fun (h : Int) gr gh w1 => across1_in a b h h0 h1 h2 h3 4 gr gh w1
  have HN := walk_len a b
  have HP : ∀ H : Nat, (H : Int) < a + b + 1 → ∀ k, k < cntH a b (H : Int) → posF a b H + k < (walkN a b).length := fun H hH k hk => by
    rw [HN]
    have m := posF_mono a b (show H + 1 ≤ (a + b + 1).toNat by omega)
    have e : posF a b (H + 1) = posF a b H + cntH a b (H : Int) := rfl
    omega
  have HPS : ∀ H : Nat, posF a b (H + 1) = posF a b H + cntH a b (H : Int) := fun _ => rfl
  have HP0 : posF a b 0 = 0 := rfl
  have HWF : ∀ H k : Nat, (H : Int) < a + b + 1 → k < cntH a b (H : Int) → walF a b (posF a b H + k) = #[.int .i64 ((posF a b H + k : Nat) : Int), .agg #[.int .i64 (max ((H : Int) - b) 0 + (k : Int)), .int .i64 ((H : Int) - (max ((H : Int) - b) 0 + (k : Int)))]] := fun H k x y => walF_at x y
  have hp63 : ∀ k : Nat, k < (walkN a b).length → k < 1000000 := fun k hk => by
    rcases Int.lt_or_le a 0 with h | h
    · have : a = -1 := by omega
      subst this
      rw [HN] at hk
      have z : posF (-1) b (-1 + b + 1).toNat = 0 := by
        have : ∀ H : Nat, posF (-1) b H = 0 := fun H => by
          induction H with
          | zero => rfl
          | succ m ih => show posF (-1) b m + cntH (-1) b (m : Int) = 0; rw [ih]; unfold cntH; omega
        exact this _
      omega
    · have e := walkN_length h h2
      have q1 : (a + 1) * (b + 1) ≤ 129 * 129 := Int.mul_le_mul (by omega) (by omega) (by omega) (by omega)
      omega
  have hAF : ∀ (h : Int) k, acrF a b h k = #[.agg #[.int .i64 (max (h - b) 0 + (k : Int)), .int .i64 (h - (max (h - b) 0 + (k : Int)))]] := fun _ _ => rfl
  have wT : IntKind.i64.wrap (a + b + 1) = a + b + 1 := IntWalk.i64_in _ (by omega)
  obtain ⟨T, hT⟩ : ∃ T : Nat, (T : Int) = a + b + 1 := ⟨(a + b + 1).toNat, by omega⟩
  have hTn : (a + b + 1).toNat = T := by omega
  have hT9 : T ≤ 300 := by omega
  rw [← hT] at HP
  have wT2 : IntKind.i64.wrap (a + b + 1) = (T : Int) := by rw [wT, hT]
  clear wT
  rw [hTn] at HN
  clear hb hR h0 h1 h2 h3 hTn
  rw [HN] at hY HP hp63 ⊢
  clear HN
  generalize acrF a b = AF at *
  generalize walF a b = F at *
  unfold rv at HT HK
  refine callsIn_wide.2 ((callsIn_wide (n := 5)).1 ?_)
  refine callsIn_of_wp_marks Try.func96 rfl trivial ?_ rfl
  simp only [Try.ntmps96, List.size_toArray, List.length_cons, List.length_nil, Nat.reduceAdd, Nat.reduceSub, Array.replicate_succ, Array.replicate_zero, List.push_toArray, List.append_toArray, List.nil_append, List.cons_append]
  have HJ := Lib.hid (And.intro hJ hJx)
  have HC := Lib.hid (And.intro hC hCx)
  have hY' := Lib.hid hY
  have hAFx := Lib.hid hAF
  have HPx := Lib.hid (And.intro HP (And.intro HPS hp63))
  have HWx := Lib.hid HWF
  have HSx := Lib.hid HS
  have hTx := Lib.hid hT
  clear hY hJ hJx hC hCx hAF HP HPS hp63 HWF HS
  have lg := Rg.lt
  -- the two boxes
  obtain ⟨RY, RN, hB0⟩ := two_rows W #[.func (.yield l) #[] #[]] #[.int .i64 0] 106 3
  have RG := (Rg.alloc (.cells #[.func (.yield l) #[] #[]] 106)).alloc (.cells #[.int .i64 0] 3)
  have J0 := HJ.out.1 _ _ _ _ h00 (.of_below hB0)
  have nρ : ρ0 ≠ some W.heap.size ∧ ρ0 ≠ some (W.heap.size + 1) := ⟨fun e => by have := (HC.out.1 _ _ _ h00).lt e; omega, fun e => by have := (HC.out.1 _ _ _ h00).lt e; omega⟩
  have g0 := RG.cell 0
  have g1 := RG.cell 1
  have g0' := g0.trans (show _ = some (Value.int .i64 a) from rfl)
  have g1' := g1.trans (show _ = some (Value.int .i64 b) from rfl)
  clear g0 g1 Rg
  have HR0 := Lib.hid (And.intro RY (And.intro RN RG))
  have HJ0 := Lib.hid J0
  have Hn0 := Lib.hid nρ
  clear RY RN RG J0 nρ h00 hT
  gi_wp2
  refine ⟨trivial, (callsIn_wide.2 (HT _)).mono ?_⟩
  rintro e w1 ⟨rfl, hb⟩
  replace HJ0 := Lib.hid (HJ.out.1 _ _ _ _ HJ0.out (.of_below hb))
  replace HR0 := Lib.hid (And.intro (HR0.out.1.later hb) (And.intro (HR0.out.2.1.later hb) (HR0.out.2.2.later hb)))
  have hsW : W.heap.size + 2 ≤ w1.heap.size := by have := hb.size; simp at this; omega
  clear hb hB0 g0' g1' HT
  gi_wp2
  refine wpIn_loop (I := fun a' wr => ∃ (H : Nat) (ρ : Option Nat) (Ds : List Nat) (u4 u5 u10 u11 u12 u13 u14 u15 u16 u17 u18 u19 u20 u21 u22 u23 : Value), a' = { tmps := #[.func (.yield l) #[] #[], .pointer (some ⟨g, 0, none⟩), .pointer (some ⟨W.heap.size, 0, none⟩), .pointer (some ⟨W.heap.size + 1, 0, none⟩), u4, u5, .agg #[.int .i64 a, .int .i64 b], .int .i64 (a + b), .int .i64 T, .int .i64 (H : Int), u10, u11, u12, u13, u14, u15, u16, u17, u18, u19, u20, u21, u22, u23], defers := marksOf Ds } ∧ H ≤ T ∧ Hid (J (posF a b H) ρ wr) ∧ Hid (Row wr W.heap.size #[.func (.yield l) #[] #[]] 106 ∧ Row wr (W.heap.size + 1) #[.int .i64 ((posF a b H : Nat) : Int)] 3 ∧ Row wr g #[.int .i64 a, .int .i64 b] 75) ∧ Hid (ρ ≠ some W.heap.size ∧ ρ ≠ some (W.heap.size + 1)) ∧ Hid (Marked W.heap.size Ds wr)) (μ := fun a' _ => T - (intOf (a'.tmps.getD 9 undef)).toNat) ?start ?round
  case start => exact ⟨0, ρ0, [], undef, undef, undef, undef, undef, undef, undef, undef, undef, undef, undef, undef, undef, undef, undef, undef, rfl, Nat.zero_le _, HJ0, HR0, Hn0, Lib.hid ⟨List.nodup_nil, by simp⟩⟩
  case round =>
    clear HJ0 HR0 Hn0 hsW
    rintro a' wr ⟨H, ρ, Ds, u4, u5, u10, u11, u12, u13, u14, u15, u16, u17, u18, u19, u20, u21, u22, u23, rfl, hH, hJr, hRr, hnr, hMr⟩
    by_cases hlt : H < T
    · have hlt' : (H : Int) < (T : Int) := by omega
      have hCy := Lib.hid (HC.out.1 _ _ _ hJr.out)
      have HKH := HK (H : Int) wr
      have g0 := (hRr.out.2.2.cell 0).trans (show _ = some (Value.int .i64 a) from rfl)
      have g1 := (hRr.out.2.2.cell 1).trans (show _ = some (Value.int .i64 b) from rfl)
      have hHab := Lib.hid (show (H : Int) < a + b + 1 by have := hTx.out; omega)
      have hwH : IntKind.i64.wrap ((H : Int) + 1) = (H : Int) + 1 := IntWalk.i64_in _ (by omega)
      clear HK
      gi_wp2
      refine ⟨trivial, (callsIn_wide.2 HKH).mono ?_⟩
      rintro e w2 ⟨rfl, rfl⟩
      clear HKH g0 g1
      obtain ⟨RA, RB, hbA⟩ := two_rows wr #[.int .i64 a, .int .i64 b] #[.int .i64 (H : Int)] 75 3
      have hJA := Lib.hid (HJ.out.1 _ _ _ _ hJr.out (.of_below hbA))
      have hRA := Lib.hid (And.intro (hRr.out.1.later hbA) (And.intro (hRr.out.2.1.later hbA) (hRr.out.2.2.later hbA)))
      have hMA := Lib.hid (hMr.out.below hbA)
      have hDl := Lib.hid hMr.out.lt
      have hnA := Lib.hid (show ρ ≠ some wr.heap.size ∧ ρ ≠ some (wr.heap.size + 1) from ⟨fun e => by have := hCy.out.lt e; omega, fun e => by have := hCy.out.lt e; omega⟩)
      have hsA : ((wr.alloc (.cells #[.int .i64 a, .int .i64 b] 75)).alloc (.cells #[.int .i64 (H : Int)] 3)).heap.size = wr.heap.size + 2 := by simp
      have hy0 := hRr.out.2.1.lt
      have hg0 := hRr.out.2.2.lt
      clear hJr hRr hMr hbA
      generalize (wr.alloc (.cells #[.int .i64 a, .int .i64 b] 75)).alloc (.cells #[.int .i64 (H : Int)] 3) = wA at *
      generalize wr.heap.size = gA at *
      gi_wp2
      refine wpIn_rangeNA rfl (by omega) (gf := 95) (lb := #[.pointer (some ⟨gA + 1, 0, none⟩), .pointer (some ⟨gA, 0, none⟩)]) rfl trivial (enters_of Try.func95 (by kernel_rfl) rfl)
        (HSx.out (H : Int) gA (gA + 1) wA RA RB) (fun h1 h2 => ⟨h2.1.trans h1.1, h2.2.trans h1.2⟩) (fun V l o o' hl _ _ _ => ⟨World.putObj_heap_other (by omega), World.putObj_heap_other (by omega)⟩) (fun V o hV => ⟨Below.heap_alloc V o _ (by omega), Below.heap_alloc V o _ (by omega)⟩) (Below.refl _ _) (fun k => by rw [hAFx.out]; rfl)
        (fun k V => ∃ ρ, J (posF a b H + k) ρ V ∧ Row V W.heap.size #[.func (.yield l) #[] #[]] 106 ∧ Row V (W.heap.size + 1) #[.int .i64 ((posF a b H + k : Nat) : Int)] 3 ∧ Row V g #[.int .i64 a, .int .i64 b] 75 ∧ (ρ ≠ some W.heap.size ∧ ρ ≠ some (W.heap.size + 1) ∧ ρ ≠ some gA ∧ ρ ≠ some (gA + 1)) ∧ Marked W.heap.size Ds V)
        (fun c k V => c = .ret ∧ (∃ ρ, Jx (posF a b H + k) ρ V) ∧ Marked W.heap.size Ds V)
        (fun s A B row hs hg hr => by
          obtain ⟨ρ, h1, h2, h3, h4, h5, h6⟩ := hs
          have hc := HC.out.1 _ _ _ h1
          exact ⟨ρ, HJ.out.1 _ _ _ _ h1 (.grown hg (fun r e => ⟨by have := (hr r e).1; omega, by obtain ⟨_, o, ho, hn⟩ := hr r e; exact hc.ne ho hn⟩)), row_kept h2 hg (fun r e => (hr r e).2), row_kept h3 hg (fun r e => (hr r e).2), row_kept h4 hg (fun r e => (hr r e).2), h5, h6.grown hg hDl.out (fun r e => by have := (hr r e).1; omega)⟩)
        (fun c s A B row hs hg hr => by
          obtain ⟨h0, ⟨ρ, h1⟩, h6⟩ := hs
          have hc := HC.out.2 _ _ _ h1
          exact ⟨h0, ⟨ρ, HJ.out.2 _ _ _ _ h1 (.grown hg (fun r e => ⟨by have := (hr r e).1; omega, by obtain ⟨_, o, ho, hn⟩ := hr r e; exact hc.ne ho hn⟩))⟩, h6.grown hg hDl.out (fun r e => by have := (hr r e).1; omega)⟩)
        ⟨ρ, hJA.out, hRA.out.1, hRA.out.2.1, hRA.out.2.2, ⟨hnr.out.1, hnr.out.2, hnA.out.1, hnA.out.2⟩, hMA.out⟩
        (fun k => .cells #[.int .i64 (max ((H : Int) - b) 0 + (k : Int)), .int .i64 ((H : Int) - (max ((H : Int) - b) 0 + (k : Int)))] 27)
        (fun k c => { tmps := #[.func (.yield l) #[] #[], .pointer (some ⟨g, 0, none⟩), .pointer (some ⟨W.heap.size, 0, none⟩), .pointer (some ⟨W.heap.size + 1, 0, none⟩), .int .i64 (H : Int), .pointer (some ⟨c, 0, none⟩), .agg #[.int .i64 a, .int .i64 b], .int .i64 (a + b), .int .i64 (T : Int), .int .i64 (H : Int), .bool true, .int .i64 (H : Int), .agg #[.int .i64 a, .int .i64 b], .int .i64 (H : Int), .func (.func 95) #[] #[.pointer (some ⟨gA + 1, 0, none⟩), .pointer (some ⟨gA, 0, none⟩)], .agg #[.int .i64 (max ((H : Int) - b) 0 + (k : Int)), .int .i64 ((H : Int) - (max ((H : Int) - b) 0 + (k : Int)))], u16, u17, u18, u19, u20, u21, u22, u23], defers := [] }) ?assign ?body ?done ?stop
      case assign =>
        intro i k V K hK
        rw [hAFx.out]
        gi_wp2
        exact hK
      case body =>
        rintro i k c V hk ⟨ρ, h1, RY, RN, RG, ⟨n1, n2, n3, n4⟩, hM⟩ hbx hbc
        have RX : Row V c #[.int .i64 (max ((H : Int) - b) 0 + (k : Int)), .int .i64 ((H : Int) - (max ((H : Int) - b) 0 + (k : Int)))] 27 := hbx
        have hmN := HPx.out.1 H hlt' k hk
        obtain ⟨fn, tmps, assign, body, hy, hRb⟩ := hY'.out (posF a b H + k) ρ V hmN h1
        rw [HWx.out H k hHab.out hk] at hy
        have hm6 := HPx.out.2.2 _ hmN
        have hcy := HC.out.1 _ _ _ h1
        have hk1 : posF a b H + (k + 1) = posF a b H + k + 1 := by omega
        generalize posF a b H + k = m at *
        generalize max ((H : Int) - b) 0 + (k : Int) = x at *
        generalize (H : Int) - x = y at *
        have cY := (RY.cell 0).trans (show _ = some (Value.func (.yield l) #[] #[]) from rfl)
        have cN := (RN.cell 0).trans (show _ = some (Value.int .i64 (m : Int)) from rfl)
        have x0 := (RX.cell 0).trans (show _ = some (Value.int .i64 x) from rfl)
        have x1 := (RX.cell 1).trans (show _ = some (Value.int .i64 y) from rfl)
        have ly := RY.lt
        have ln := RN.lt
        have lg2 := RG.lt
        have HR := Lib.hid (And.intro RY (And.intro RN RG))
        have HM := Lib.hid hM
        have Hn := Lib.hid (And.intro n1 (And.intro n2 (And.intro n3 n4)))
        have Hcy := Lib.hid hcy
        have hwm : IntKind.i64.wrap ((m : Int) + 1) = (m : Int) + 1 := IntWalk.i64_in _ (by omega)
        have hm1 : ((m + 1 : Nat) : Int) = (m : Int) + 1 := by omega
        have Hm1 := Lib.hid hm1
        have HmN := Lib.hid hmN
        have hVs : gA + 1 < V.heap.size := by have := RX.lt; omega
        have hHk1 := Lib.hid hk1
        clear RY RN RG RX hM n1 n2 n3 n4 hcy hbx hk1 hm1 h1 hmN
        gi_wp2
        refine (roundIn_any hRb).mono ?_
        rintro e V3 (⟨rfl, ρ', hJ3, hT3, hK3⟩ | ⟨rfl, hJx3, hKF⟩)
        · have hs3 := hT3.size
          have RY3 : Row V3 W.heap.size #[.func (.yield l) #[] #[]] 106 := (hT3.same _ (Nat.le_refl _) ly Hn.out.1).trans HR.out.1
          have RN3 : Row V3 (W.heap.size + 1) #[.int .i64 (m : Int)] 3 := (hT3.same _ (by omega) ln Hn.out.2.1).trans HR.out.2.1
          have RG3 : Row V3 g #[.int .i64 a, .int .i64 b] 75 := hK3.trans HR.out.2.2
          have KF3 := hT3.keeps Hcy.out
          have M3 := HM.out.keeps KF3 (Nat.le_refl _)
          have KA := hT3.same gA (by omega) (by omega) Hn.out.2.2.1
          have KB := hT3.same (gA + 1) (by omega) (by omega) Hn.out.2.2.2
          have n3 : ∀ j, j < V.heap.size → ρ ≠ some j → ρ' ≠ some j := fun j hj hne => by
            rcases hT3.row with h | ⟨r, h, hr⟩
            · rw [h]; exact hne
            · rw [h]; intro e; cases e; omega
          have m1 := n3 _ ly Hn.out.1
          have m2 := n3 _ ln Hn.out.2.1
          have m3 := n3 gA (by omega) Hn.out.2.2.1
          have m4 := n3 (gA + 1) (by omega) Hn.out.2.2.2
          have cN3 := (RN3.cell 0).trans (show _ = some (Value.int .i64 (m : Int)) from rfl)
          have fN3 := RN3.frozen 0
          have J4 := HJ.out.1 _ _ _ _ hJ3 (.setCell V3 (p := ⟨W.heap.size + 1, 0, none⟩) (.int .i64 ((m : Int) + 1)) (by simp) (by simpa using m2))
          have F1 := Lib.hid (show KeepsFrom wA.heap.size V (V3.setCell ⟨W.heap.size + 1, 0, none⟩ (.int .i64 ((m : Int) + 1))) from KeepsFrom.trans ⟨KF3.size, fun j o hj => KF3.same j o (by omega)⟩ ((KeepsOthers.setCell _ _ _).from _))
          have F2 := Lib.hid (show (V3.setCell ⟨W.heap.size + 1, 0, none⟩ (.int .i64 ((m : Int) + 1))).heap[gA]? = V.heap[gA]? ∧ (V3.setCell ⟨W.heap.size + 1, 0, none⟩ (.int .i64 ((m : Int) + 1))).heap[gA + 1]? = V.heap[gA + 1]? from ⟨(heap_setCell_other _ _ _ _ (by simp; omega)).trans KA, (heap_setCell_other _ _ _ _ (by simp; omega)).trans KB⟩)
          have F3 := Lib.hid (RY3.set_far ⟨W.heap.size + 1, 0, none⟩ (.int .i64 ((m : Int) + 1)) (by simp))
          have F4 := Lib.hid (show Row (V3.setCell ⟨W.heap.size + 1, 0, none⟩ (.int .i64 ((m : Int) + 1))) (W.heap.size + 1) #[.int .i64 ((m : Int) + 1)] 3 from RN3.set 0 (.int .i64 ((m : Int) + 1)))
          have F5 := Lib.hid (RG3.set_far ⟨W.heap.size + 1, 0, none⟩ (.int .i64 ((m : Int) + 1)) (by simp; omega))
          have F6 := Lib.hid (M3.set ⟨W.heap.size + 1, 0, none⟩ (.int .i64 ((m : Int) + 1)) ⟨_, RN3, rfl⟩)
          have F7 := Lib.hid J4
          have F8 := Lib.hid (And.intro m1 (And.intro m2 (And.intro m3 m4)))
          clear hJ3 hT3 hK3 RY3 RN3 RG3 KF3 M3 KA KB n3 m1 m2 m3 m4 J4 HR HM Hn Hcy hRb
          gi_wp2
          refine ⟨F1.out, F2.out, ρ', ?_, F3.out, ?_, F5.out, F8.out, F6.out⟩
          · rw [hHk1.out]; exact F7.out
          · rw [hHk1.out, Hm1.out]; exact F4.out
        · have hK' := Lib.hid (show KeepsFrom wA.heap.size V V3 from ⟨hKF.size, fun j o hj => hKF.same j o (by omega)⟩)
          have hM' := Lib.hid (HM.out.keeps hKF (Nat.le_refl _))
          have hJ' := Lib.hid hJx3
          clear hKF hJx3 HR HM Hn Hcy hRb
          gi_wp2
          refine ⟨hK'.out, rfl, ?_, hM'.out⟩
          rw [hHk1.out]; exact hJ'.out
      case done =>
        rintro D V hD ⟨ρ2, h1, RY, RN, RG, ⟨n1, n2, _, _⟩, hM⟩ hdf
        have hn := HPx.out.2.1 H
        rw [← hn] at h1 RN
        have F1 := Lib.hid h1
        have F2 := Lib.hid (And.intro RY (And.intro RN RG))
        have F3 := Lib.hid (And.intro n1 n2)
        have F4 := Lib.hid (hM.cons (by omega) hdf (fun D' hD' => by have := hDl.out D' hD'; omega))
        clear h1 RY RN RG n1 n2 hM hdf hn RA RB
        gi_wp2
        exact ⟨⟨H + 1, ρ2, D :: Ds, _, _, _, _, _, _, _, _, _, _, _, _, _, _, _, _, rfl, by omega, F1, F2, F3, F4⟩, by simp [intOf]; omega⟩
      case stop =>
        rintro D c k V hD hk ⟨rfl, h1, hM⟩ hdf
        have hle : posF a b H + k ≤ posF a b T := by
          have m := posF_mono a b (show H + 1 ≤ T by omega)
          have := HPx.out.2.1 H
          omega
        have F1 := Lib.hid h1
        have F4 := Lib.hid (hM.cons (by omega) hdf (fun D' hD' => by have := hDl.out D' hD'; omega))
        clear h1 hM hdf RA RB
        gi_wp2
        refine leaves_marks (fun w => ∃ ρ, Jx (posF a b H + k) ρ w) W.heap.size ?_ ?_ (D :: Ds) V F4.out.1 F4.out.2 F1.out
        · rintro w D' hB' ⟨ρ3, h3⟩ hd3
          exact ⟨ρ3, HJ.out.2 _ _ _ _ h3 (.putObj _ _ hB' ((HC.out.2 _ _ _ h3).ne hd3 rfl))⟩
        · rintro w ⟨ρ3, h3⟩
          exact ⟨_, results_none rfl _ _ _, ⟨⟨_, rfl⟩, .inr ⟨_, _, hle, h3⟩⟩⟩
    · obtain rfl : H = T := by omega
      clear HK hnr hRr
      gi_wp2
      refine leaves_marks (fun w => ∃ ρ, J (posF a b H) ρ w) W.heap.size ?_ ?_ Ds wr hMr.out.1 hMr.out.2 ⟨ρ, hJr.out⟩
      · rintro w D' hB' ⟨ρ3, h3⟩ hd3
        exact ⟨ρ3, HJ.out.1 _ _ _ _ h3 (.putObj _ _ hB' ((HC.out.1 _ _ _ h3).ne hd3 rfl))⟩
      · rintro w ⟨ρ3, h3⟩
        exact ⟨_, results_none rfl _ _ _, ⟨⟨_, rfl⟩, .inl ⟨ρ3, h3⟩⟩⟩
end Go.Proofs.Ytbekocknfpekoaa
namespace Go.Proofs.Ytbekocknfpekoaa
set_option linter.unusedVariables false
set_option linter.unusedSimpArgs false
open Go.RowKit
attribute [local go_sem] Oper.semAt_some
theorem walk_none {b : Int} (hb : 0 ≤ b) : walkN (-1) b = [] := by
  have z : ∀ H : Nat, posF (-1) b H = 0 := fun H => by
    induction H with
    | zero => rfl
    | succ m ih => show posF (-1) b m + cntH (-1) b (m : Int) = 0; rw [ih]; unfold cntH; omega
  exact List.length_eq_zero_iff.1 (by rw [walk_len]; exact z _)
theorem walk_cnt {a b : Int} (h0 : -1 ≤ a) (h1 : a ≤ 128) (h2 : 0 ≤ b) (h3 : b ≤ 128) : ((walkN a b).length : Int) = (a + 1) * (b + 1) ∧ (walkN a b).length ≤ 16641 := by
  rcases Int.lt_or_le a 0 with h | h
  · obtain rfl : a = -1 := by omega
    rw [walk_none h2]; simp
  · have e := walkN_length h h2
    have q1 : (a + 1) * (b + 1) ≤ 129 * 129 := Int.mul_le_mul (by omega) (by omega) (by omega) (by omega)
    exact ⟨e, by omega⟩
theorem Stays.below {B L : Nat} {ρ : Option Nat} {w V V' : World} (hb : Below B w V) (hs : Stays L ρ V V') (hB : B ≤ w.heap.size) (hl : B ≤ L) : Below B w V' :=
  ⟨hs.os.trans hb.os, hs.tape.trans hb.tape, hs.output.trans hb.output, Nat.le_trans hb.size hs.size, fun j hj => (hs.block j (Nat.lt_of_lt_of_le hj (Nat.le_trans hB hb.size)) (.inl (Nat.lt_of_lt_of_le hj hl))).trans (hb.block j hj)⟩
theorem OwnT.ne {base : Nat} {w : World} {v : Value} {l : List (Int × Int)} (ho : OwnT base w v l) {g : Nat} {cs : Array Value} {t : TypeId} (R : Row w g cs t) (ht : t ≠ 27) : v.ownBlock ≠ some g := fun e => by
  rcases ho.2 with ⟨rfl, _⟩ | ⟨g', cap, cur, rfl, hbs, hr, _⟩
  · cases e
  · have : g' = g := by simpa [Value.ownBlock] using e
    subst this
    rw [show w.heap[g']? = _ from R] at hr
    cases hr; exact ht rfl
theorem rowT_app2 {base : Nat} {w w' : World} {v : Value} {l : List (Int × Int)} {o : Obj} (ho : OwnT base w v l) (hg : (w.alloc o).grownBy w' v.ownBlock) {g : Nat} {cs : Array Value} {t : TypeId} (R : Row w g cs t) (ht : t ≠ 27) : Row w' g cs t := by
  have R2 := R.alloc o
  exact (hg.block g R2.lt (fun e => ho.ne R ht e.symm)).trans R2
theorem OwnT.set2 {base : Nat} {w : World} {v : Value} {l : List (Int × Int)} (h : OwnT base w v l) {g : Nat} (i : Nat) (u : Value) (hne : v.ownBlock ≠ some g) : OwnT base (w.setCell ⟨g, i, none⟩ u) v l := by
  obtain ⟨hl, h⟩ := h
  refine ⟨hl, ?_⟩
  rcases h with h | ⟨g', cap, cur, rfl, hbs, hr, h1⟩
  · exact .inl h
  · exact .inr ⟨g', cap, cur, rfl, hbs, (heap_setCell_other w _ g' _ (fun e => hne (by simp [Value.ownBlock]; exact e))).trans hr, h1⟩
theorem OwnX.ne {base : Nat} {w : World} {v : Value} {l : List Px} (ho : OwnX base w v l) {g : Nat} {cs : Array Value} {t : TypeId} (R : Row w g cs t) (ht : t ≠ 33) : v.ownBlock ≠ some g := fun e => by
  rcases ho.2 with ⟨rfl, _⟩ | ⟨g', cap, cur, rfl, hbs, hr, _⟩
  · cases e
  · have : g' = g := by simpa [Value.ownBlock] using e
    subst this
    rw [show w.heap[g']? = _ from R] at hr
    cases hr; exact ht rfl
theorem rowX_app2 {base : Nat} {w w' : World} {v : Value} {l : List Px} {o : Obj} (ho : OwnX base w v l) (hg : (w.alloc o).grownBy w' v.ownBlock) {g : Nat} {cs : Array Value} {t : TypeId} (R : Row w g cs t) (ht : t ≠ 33) : Row w' g cs t := by
  have R2 := R.alloc o
  exact (hg.block g R2.lt (fun e => ho.ne R ht e.symm)).trans R2
theorem rowX_app3 {base : Nat} {w w' : World} {v : Value} {l : List Px} {o : Obj} (ho : OwnX base w v l) (hg : (w.alloc o).grownBy w' v.ownBlock) {g : Nat} {cs : Array Value} {t : TypeId} (R : Row w g cs t) (hb : g < base) : Row w' g cs t := by
  have R2 := R.alloc o
  exact (hg.block g R2.lt (fun e => by have := (ho.block g e.symm).1; omega)).trans R2
theorem OwnX.set2 {base : Nat} {w : World} {v : Value} {l : List Px} (h : OwnX base w v l) {g : Nat} (i : Nat) (u : Value) (hne : v.ownBlock ≠ some g) : OwnX base (w.setCell ⟨g, i, none⟩ u) v l := by
  obtain ⟨hl, h⟩ := h
  refine ⟨hl, ?_⟩
  rcases h with h | ⟨g', cap, cur, rfl, hbs, hr, h1⟩
  · exact .inl h
  · exact .inr ⟨g', cap, cur, rfl, hbs, (heap_setCell_other w _ g' _ (fun e => hne (by simp [Value.ownBlock]; exact e))).trans hr, h1⟩
theorem OwnK.ne {base : Nat} {w : World} {v : Value} {l : List Ke} (ho : OwnK base w v l) {g : Nat} {cs : Array Value} {t : TypeId} (R : Row w g cs t) (ht : t ≠ 30) : v.ownBlock ≠ some g := fun e => by
  rcases ho.2 with ⟨rfl, _⟩ | ⟨g', cap, cur, rfl, hbs, hr, _⟩
  · cases e
  · have : g' = g := by simpa [Value.ownBlock] using e
    subst this
    rw [show w.heap[g']? = _ from R] at hr
    cases hr; exact ht rfl
theorem OwnK.set2 {base : Nat} {w : World} {v : Value} {l : List Ke} (h : OwnK base w v l) {g : Nat} (i : Nat) (u : Value) (hne : v.ownBlock ≠ some g) : OwnK base (w.setCell ⟨g, i, none⟩ u) v l := by
  obtain ⟨hl, h⟩ := h
  refine ⟨hl, ?_⟩
  rcases h with h | ⟨g', cap, cur, rfl, hbs, hr, h1⟩
  · exact .inl h
  · exact .inr ⟨g', cap, cur, rfl, hbs, (heap_setCell_other w _ g' _ (fun e => hne (by simp [Value.ownBlock]; exact e))).trans hr, h1⟩
set_option maxRecDepth 100000 in
set_option maxHeartbeats 8000000 in
theorem nodes_t (s : Sp) (w : World) : Calls Try.prog 38 #[sv s] w fun e w' => ∃ v, e = .returned v ∧ TS w' v (walkN (wA s) (wB s)) ∧ Below w.heap.size w w' := by
  have ra := wA_range s
  have rb := wB_range s
  obtain ⟨hc1, hc2⟩ := walk_cnt ra.1 ra.2 rb.1 rb.2
  have HC := gcount_t s
  have HG := gwalk_t s
  have hseq := fun g w0 R => walk1_in (wA s) (wB s) ra.1 ra.2 rb.1 rb.2 2 g w0 R
  rw [← hc1] at HC
  have hTF : (walkN (wA s) (wB s)).take (walkN (wA s) (wB s)).length = walkN (wA s) (wB s) := take_full _
  have hTL : ∀ k, k ≤ (walkN (wA s) (wB s)).length → ((walkN (wA s) (wB s)).take k).length = k := fun k hk => by rw [List.length_take]; omega
  have hF : ∀ k, walF (wA s) (wB s) k = #[.int .i64 (k : Int), .agg #[.int .i64 ((walkN (wA s) (wB s)).getD k (0, 0)).1, .int .i64 ((walkN (wA s) (wB s)).getD k (0, 0)).2]] := fun _ => rfl
  have hLG : ∀ k, k < (walkN (wA s) (wB s)).length → (walkN (wA s) (wB s)).take (k + 1) = (walkN (wA s) (wB s)).take k ++ [(((walkN (wA s) (wB s)).getD k (0, 0)).1, ((walkN (wA s) (wB s)).getD k (0, 0)).2)] := fun k hk => take_snoc _ _ _ (by rw [List.getD_eq_getElem?_getD, List.getElem?_eq_getElem hk]; rfl)
  obtain ⟨i0, hif, hz0, hz1, hz2⟩ := infoT
  generalize walF (wA s) (wB s) = F at *
  generalize wA s = a at *
  generalize wB s = b at *
  generalize hL : walkN a b = L at *
  clear hL ra rb hc1
  generalize hN : L.length = N at *
  have hmk := fun w => run_make (P := Try.prog) w 49 27 i0 _ Try.underlying49 hif hz0 .i64 .i64 0 (N : Int) (by omega) (by omega) (by rw [hz2]; omega) (by omega)
  simp only [Int.toNat_natCast, hz1, Int.toNat_zero] at hmk
  have HF := Lib.hid (And.intro hF (And.intro hLG (And.intro hTF hTL)))
  have HQ := Lib.hid hseq
  clear hF hLG hTF hTL hseq hif hz0 hz1 hz2 hN
  unfold sv at *
  obtain ⟨Rc, hb0⟩ := one_row w #[.int .i64 s.n, .int .i64 s.d0.kind, .int .i64 s.d0.side, .int .i64 s.d0.step, .int .i64 s.d1.kind, .int .i64 s.d1.side, .int .i64 s.d1.step] 26
  (try clear c0 c1 c2 c3 c4 c5 c6); obtain ⟨c0, c1, c2, c3, c4, c5, c6⟩ := row7 Rc
  refine (callsIn_wide (n := 3)).1 ?_
  refine callsIn_of_wp_marks Try.func38 rfl trivial ?_ rfl
  simp only [Try.ntmps38, List.size_toArray, List.length_cons, List.length_nil, Nat.reduceAdd, Nat.reduceSub, Array.replicate_succ, Array.replicate_zero, List.push_toArray, List.append_toArray, List.nil_append, List.cons_append]
  gi_wp2
  refine ⟨trivial, (callsIn_wide.2 (HC _)).mono ?_⟩
  rintro e w1 ⟨rfl, hb⟩
  replace hb0 := below_step hb0 hb
  replace Rc := Rc.later hb
  clear hb c0 c1 c2 c3 c4 c5 c6 HC
  obtain ⟨c0, c1, c2, c3, c4, c5, c6⟩ := row7 Rc
  have lc := Rc.lt
  have hcs := size_madeCells (#[Value.int .i64 0, Value.int .i64 0]) (N * 2)
  gi_wp2
  clear hmk c0 c1 c2 c3 c4 c5 c6
  obtain ⟨RM, RL, hb2⟩ := two_rows w1 (madeCells #[Value.int .i64 0, Value.int .i64 0] (N * 2)) #[.slice (some ⟨w1.heap.size, 0, none⟩) 0 N] 27 49
  refine ⟨trivial, (callsIn_wide.2 (HG _)).mono ?_⟩
  rintro e w2 ⟨g, rfl, RG, hg, hb⟩
  have hs2 : w1.heap.size + 2 ≤ g := by simpa using hg
  replace RM := RM.later hb
  replace RL := RL.later hb
  replace hb0 := below_step (below_step hb0 hb2) hb
  have HO := OwnT.make (base := w1.heap.size) (cap := N) RM (Nat.le_refl _) (by unfold maxLen; omega) (by rw [hcs])
  clear hb hb2 RM Rc hg HG hcs
  have lg := RG.lt
  have hs0 := hb0.size
  generalize w1.heap.size = gm at *
  gi_wp2
  refine wpIn_rangeRA rfl (by omega) (gf := 96) (lb := #[.pointer (some ⟨g, 0, none⟩)]) rfl trivial (enters_of Try.func96 (by kernel_rfl) rfl)
    (HQ.out g w2 RG) (fun h1 h2 => h2.trans h1) (fun W l o o' hl _ _ _ => World.putObj_heap_other (by omega)) (fun W o hW => Below.heap_alloc W o _ (by omega)) (Below.refl _ _) (fun k => by rw [HF.out.1 k]; rfl)
    (fun k ρ W => (∃ po co, ρ = (Value.slice po k co).ownBlock ∧ Row W (gm + 1) #[.slice po k co] 49 ∧ OwnT gm W (.slice po k co) (L.take k)) ∧ Below w.heap.size w W ∧ w2.heap.size ≤ W.heap.size ∧ Row W g #[.int .i64 a, .int .i64 b] 75)
    (fun c k ρ W => False)
    (fun k ρ V V' hs hst => by
      obtain ⟨⟨po, co, rfl, h1, h2⟩, h3, h4, h5⟩ := hs
      exact ⟨⟨po, co, rfl, (hst.block _ h1.lt (.inl (by omega))).trans h1, h2.stays hst⟩, hst.below h3 (Nat.le_refl _) (by omega), Nat.le_trans h4 hst.size, (hst.block _ h5.lt (.inl (by omega))).trans h5⟩)
    (fun c k ρ V V' hs hst => hs.elim)
    (fun k ρ W hs => by obtain ⟨⟨po, co, rfl, h1, h2⟩, _⟩ := hs; exact h2.cellsy)
    (fun c k ρ W hs => hs.elim)
    (some gm) ⟨⟨_, N, rfl, RL, HO⟩, hb0, Nat.le_refl _, RG⟩
    (fun k => .cells #[.int .i64 ((L.getD k (0, 0)).1), .int .i64 ((L.getD k (0, 0)).2)] 27)
    (fun k b => { tmps := #[.agg #[.int .i64 s.n, .int .i64 s.d0.kind, .int .i64 s.d0.side, .int .i64 s.d0.step, .int .i64 s.d1.kind, .int .i64 s.d1.side, .int .i64 s.d1.step], .pointer (some ⟨w.heap.size, 0, none⟩), .slice none 0 0, .pointer (some ⟨gm + 1, 0, none⟩), undef, .pointer (some ⟨b, 0, none⟩), .agg #[.int .i64 s.n, .int .i64 s.d0.kind, .int .i64 s.d0.side, .int .i64 s.d0.step, .int .i64 s.d1.kind, .int .i64 s.d1.side, .int .i64 s.d1.step], .int .i64 (N : Int), .slice (some ⟨gm, 0, none⟩) 0 N, .agg #[.int .i64 s.n, .int .i64 s.d0.kind, .int .i64 s.d0.side, .int .i64 s.d0.step, .int .i64 s.d1.kind, .int .i64 s.d1.side, .int .i64 s.d1.step], .func (.func 96) #[] #[.pointer (some ⟨g, 0, none⟩)], .int .i64 (k : Int), .agg #[.int .i64 ((L.getD k (0, 0)).1), .int .i64 ((L.getD k (0, 0)).2)], undef, undef, undef, undef, undef], defers := [] }) ?assign ?body ?done ?stop
  case assign =>
    intro i k W K hK
    rw [HF.out.1 k]
    gi_wp2
    exact hK
  case body =>
    rintro i k b ρ W hkN ⟨⟨po, co, rfl, RO, HO⟩, hB, hsz, RGW⟩ hbx hbb hne
    have RX : Row W b #[.int .i64 ((L.getD k (0, 0)).1), .int .i64 ((L.getD k (0, 0)).2)] 27 := hbx
    have hG := HF.out.2.1 k hkN
    generalize (L.getD k (0, 0)).1 = x at *
    generalize (L.getD k (0, 0)).2 = y at *
    have c3 := (RO.cell 0).trans (show _ = some (Value.slice po k co) from rfl)
    have x0 := (RX.cell 0).trans (show _ = some (Value.int .i64 x) from rfl)
    have x1 := (RX.cell 1).trans (show _ = some (Value.int .i64 y) from rfl)
    have hsW := hB.size
    have hbW := RX.lt
    have hoW := RO.lt
    have hTk := HF.out.2.2.2 k (by omega)
    obtain ⟨v', w3, hrun, hown, hgrow, hrow⟩ := appT_row (x, y) HO (by rw [hTk]; omega) (by omega)
    rw [← hG] at hown
    obtain ⟨pv, cv, hpv, _, _⟩ := hown.read
    rw [HF.out.2.2.2 (k + 1) (by omega)] at hpv
    subst hpv
    have RO3 := rowT_app2 HO hgrow RO (by decide)
    have df3 := RO3.frozen 0
    have d3 := (RO3.cell 0).trans (show _ = some (Value.slice po k co) from rfl)
    have HT := Lib.hid (turnT_app (B := w2.heap.size) HO hgrow hrow (g := gm + 1) 0 (.slice pv (k + 1) cv) (by omega))
    have RG3 := rowT_app2 HO hgrow RGW (by decide)
    have hne2 := hown.ne RO3 (by decide)
    have HKP := Lib.hid (show (w3.setCell ⟨gm + 1, 0, none⟩ (.slice pv (k + 1) cv)).heap[g]? = W.heap[g]? from (heap_setCell_other _ _ _ _ (by simp; omega)).trans (RG3.trans RGW.symm))
    have HROW := Lib.hid (show Row (w3.setCell ⟨gm + 1, 0, none⟩ (.slice pv (k + 1) cv)) (gm + 1) #[.slice pv (k + 1) cv] 49 from RO3.set 0 (.slice pv (k + 1) cv))
    have HOWN := Lib.hid (hown.set2 0 (.slice pv (k + 1) cv) hne2)
    have HB3 := appT_below HO (Below.refl gm W) (by omega) hgrow
    have HBEL := Lib.hid ((hB.trans (HB3.mono (show w.heap.size ≤ gm by omega))).setCell (p := ⟨gm + 1, 0, none⟩) (by simp; omega) (.slice pv (k + 1) cv))
    have HSZ := Lib.hid (show w2.heap.size ≤ (w3.setCell ⟨gm + 1, 0, none⟩ (.slice pv (k + 1) cv)).heap.size from Nat.le_trans hsz HT.out.size)
    have HRG := Lib.hid (RG3.set_far ⟨gm + 1, 0, none⟩ (.slice pv (k + 1) cv) (by simp; omega))
    have HRUN := Lib.hid hrun
    clear RX RO HO hB hrun hown hgrow RO3 RG3 HB3 hbx hG hTk hrow hne hne2 RGW RL hsz
    gi_wp2_with ((with_reducible refine wpListIn_appR (o := ⟨some 16, _, _, _, _, _⟩) ?_ (.tmp 13) (.tmp 15) 49 ?_ (v := .slice po k co) (bv := .slice (some ⟨W.heap.size, 0, none⟩) 1 1) ?_ ?_ HRUN.out ?_); (with_reducible rfl); (with_reducible rfl); rfl; rfl; clear HRUN)
    exact ⟨HKP.out, _, ⟨⟨pv, cv, rfl, HROW.out, HOWN.out⟩, HBEL.out, HSZ.out, HRG.out⟩, HT.out⟩
  case done =>
    rintro D ρ W hD ⟨⟨po, co, rfl, RO, HO⟩, hB, _, _⟩ hK
    have c3 := (RO.cell 0).trans (show _ = some (Value.slice po N co) from rfl)
    have HP := HO.stays (B := gm) (.putObj W (.deferred none) (show gm ≤ D by omega) (HO.cellsy.ne hK rfl))
    have HFX := Lib.hid (show TS (W.putObj D (.deferred none)) (.slice po N co) L by have := HP.read; rw [HF.out.2.2.1] at this; exact this)
    have hc5 := ((row_put RO (.deferred none) hK rfl).cell 0).trans (show _ = some (Value.slice po N co) from rfl)
    clear RO HO HP RL
    gi_wp2
    refine ⟨by simp, .inl ⟨_, _, rfl, run_takeDeferred hK, ?_⟩⟩
    refine ⟨.slice po N co, ?_, ⟨_, rfl, HFX.out, hB.trans (belowK_b (w := w) (Nat.le_refl _) W D _ _ (by omega) hK rfl rfl)⟩⟩
    simp only [results, Try.results38]
    simp [go_sem, hc5]
  case stop =>
    rintro D c k ρ W hD _ hs hK
    exact hs.elim
end Go.Proofs.Ytbekocknfpekoaa
