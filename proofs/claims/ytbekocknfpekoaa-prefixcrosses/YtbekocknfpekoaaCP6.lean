/- P6: what the theorem needs of these texts. No conditions beyond those that are written. -/
import Derived.Test.YtbekocknfpekoaaCP5
namespace Go.Proofs.Ytbekocknfpekoaa
set_option linter.unusedVariables false
set_option maxHeartbeats 16000000
set_option linter.unusedSimpArgs false
open Go.RowKit
theorem up9_t (s : Sp) (p : Px) (ok : p.ok) (b0 b1 : Int) (w : World) : Calls Try.prog 26 #[sv s, pv p, .agg #[.int .i64 b0, .int .i64 b1]] w fun e w' => e = .returned (pv (upP s p b0 b1)) ∧ Below w.heap.size w w' := by
  have HR := right9_t s p ok
  have HD0 := ddepth_t s.d0
  have HD1 := ddepth_t s.d1
  have HC0 := dcut_t s.d0 b0 p.k0 ok.k0
  have HC1 := dcut_t s.d1 b1 p.k1 ok.k1
  unfold upP upB upX
  cases hr : rightP s p with
  | false => rw [hr] at HR; rw [Bool.false_and, if_neg (by simp)]; exact up_bad s p b0 b1 HR w
  | true =>
    rw [hr] at HR
    rw [Bool.true_and]
    by_cases g0 : b0 < p.a0
    · rw [decide_eq_false (by omega : ¬ p.a0 ≤ b0), Bool.false_and, if_neg (by simp)]
      exact up_lo0 s p b0 b1 HR g0 w
    rw [decide_eq_true (by omega : p.a0 ≤ b0), Bool.true_and]
    by_cases h0 : depthD s.d0 < b0
    · rw [decide_eq_false (by omega : ¬ b0 ≤ depthD s.d0), Bool.false_and, if_neg (by simp)]
      exact up_hi0 s p b0 b1 HR _ HD0 g0 h0 w
    rw [decide_eq_true (by omega : b0 ≤ depthD s.d0), Bool.true_and]
    by_cases g1 : b1 < p.a1
    · rw [decide_eq_false (by omega : ¬ p.a1 ≤ b1), Bool.false_and, if_neg (by simp)]
      exact up_lo1 s p b0 b1 HR _ HD0 _ HC0 g0 h0 g1 w
    rw [decide_eq_true (by omega : p.a1 ≤ b1), Bool.true_and]
    by_cases h1 : depthD s.d1 < b1
    · rw [decide_eq_false (by omega : ¬ b1 ≤ depthD s.d1), if_neg (by simp)]
      exact up_hi1 s p b0 b1 HR _ HD0 _ HC0 g0 h0 _ HD1 g1 h1 w
    rw [decide_eq_true (by omega : b1 ≤ depthD s.d1), if_pos rfl]
    exact up_ok s p b0 b1 HR _ HD0 _ HC0 g0 h0 _ HD1 _ HC1 g1 h1 w
def overP (s : Sp) (p q : Px) : Bool := rightP s p && decide (p = upP s q p.a0 p.a1)
set_option maxRecDepth 100000 in
theorem over_no (s : Sp) (p q : Px) (HR : ∀ w, Calls Try.prog 20 #[sv s, pv p] w fun e w' => e = .returned (.bool false) ∧ Below w.heap.size w w') (w : World) : Calls Try.prog 28 #[sv s, pv p, pv q] w fun e w' => e = .returned (.bool false) ∧ Below w.heap.size w w' := by
  unfold sv pv at *
  obtain ⟨Rc, Rd, Re, hb0⟩ := three_rows w #[.int .i64 s.n, .int .i64 s.d0.kind, .int .i64 s.d0.side, .int .i64 s.d0.step, .int .i64 s.d1.kind, .int .i64 s.d1.side, .int .i64 s.d1.step] #[.int .i64 p.a0, .int .i64 p.a1, .int .i64 p.k0.kind, .int .i64 p.k0.len, .int .u64 p.k0.h, .int .u64 p.k0.l, .string ⟨p.k0.path.toArray⟩, .int .i64 p.k1.kind, .int .i64 p.k1.len, .int .u64 p.k1.h, .int .u64 p.k1.l, .string ⟨p.k1.path.toArray⟩] #[.int .i64 q.a0, .int .i64 q.a1, .int .i64 q.k0.kind, .int .i64 q.k0.len, .int .u64 q.k0.h, .int .u64 q.k0.l, .string ⟨q.k0.path.toArray⟩, .int .i64 q.k1.kind, .int .i64 q.k1.len, .int .u64 q.k1.h, .int .u64 q.k1.l, .string ⟨q.k1.path.toArray⟩] 26 33 33
  (try clear c0 c1 c2 c3 c4 c5 c6); obtain ⟨c0, c1, c2, c3, c4, c5, c6⟩ := row7 Rc
  (try clear d0 d1 d2 d3 d4 d5 d6 d7 d8 d9 d10 d11); obtain ⟨d0, d1, d2, d3, d4, d5, d6, d7, d8, d9, d10, d11⟩ := row12 Rd
  (try clear e0 e1 e2 e3 e4 e5 e6 e7 e8 e9 e10 e11); obtain ⟨e0, e1, e2, e3, e4, e5, e6, e7, e8, e9, e10, e11⟩ := row12 Re
  go_enter Try.func28, Try.ntmps28
  go_wp2_with fail
  refine wp_region_held_drew (S := (fun w' => w'.cell? ⟨w.heap.size, 0, none⟩ = some (Value.int .i64 s.n) ∧ w'.cell? ⟨w.heap.size, 1, none⟩ = some (Value.int .i64 s.d0.kind) ∧ w'.cell? ⟨w.heap.size, 2, none⟩ = some (Value.int .i64 s.d0.side) ∧ w'.cell? ⟨w.heap.size, 3, none⟩ = some (Value.int .i64 s.d0.step) ∧ w'.cell? ⟨w.heap.size, 4, none⟩ = some (Value.int .i64 s.d1.kind) ∧ w'.cell? ⟨w.heap.size, 5, none⟩ = some (Value.int .i64 s.d1.side) ∧ w'.cell? ⟨w.heap.size, 6, none⟩ = some (Value.int .i64 s.d1.step) ∧ w'.cell? ⟨w.heap.size + 1, 0, none⟩ = some (Value.int .i64 p.a0) ∧ w'.cell? ⟨w.heap.size + 1, 1, none⟩ = some (Value.int .i64 p.a1) ∧ w'.cell? ⟨w.heap.size + 1, 2, none⟩ = some (Value.int .i64 p.k0.kind) ∧ w'.cell? ⟨w.heap.size + 1, 3, none⟩ = some (Value.int .i64 p.k0.len) ∧ w'.cell? ⟨w.heap.size + 1, 4, none⟩ = some (Value.int .u64 p.k0.h) ∧ w'.cell? ⟨w.heap.size + 1, 5, none⟩ = some (Value.int .u64 p.k0.l) ∧ w'.cell? ⟨w.heap.size + 1, 6, none⟩ = some (Value.string ⟨p.k0.path.toArray⟩) ∧ w'.cell? ⟨w.heap.size + 1, 7, none⟩ = some (Value.int .i64 p.k1.kind) ∧ w'.cell? ⟨w.heap.size + 1, 8, none⟩ = some (Value.int .i64 p.k1.len) ∧ w'.cell? ⟨w.heap.size + 1, 9, none⟩ = some (Value.int .u64 p.k1.h) ∧ w'.cell? ⟨w.heap.size + 1, 10, none⟩ = some (Value.int .u64 p.k1.l) ∧ w'.cell? ⟨w.heap.size + 1, 11, none⟩ = some (Value.string ⟨p.k1.path.toArray⟩))) (by kernel_rfl) ?hSr44_ (fun hHeld => ?_)
  case hSr44_ => (exact ⟨c0, c1, c2, c3, c4, c5, c6, d0, d1, d2, d3, d4, d5, d6, d7, d8, d9, d10, d11⟩)
  (clear c0 c1 c2 c3 c4 c5 c6 d0 d1 d2 d3 d4 d5 d6 d7 d8 d9 d10 d11 e0 e1 e2 e3 e4 e5 e6 e7 e8 e9 e10 e11; (replace Rc := Rc.drew); (replace Rd := Rd.drew); (replace Re := Re.drew); (replace hb0 := hb0.drew); (generalize World.drew _ = wq at *))
  refine tk 0 ⟨some 7, .load 26 (.tmp 3), 26, _, _, _⟩ hHeld ?_
  (try simp only [Act.put, nz1, nz2, nz3])
  refine tk 1 ⟨some 8, .load 33 (.tmp 4), 33, _, _, _⟩ hHeld ?_
  (try simp only [Act.put, nz1, nz2, nz3])
  refine wpAnyH_ready (rs := [2]) (by kernel_rfl) (by simp) ?_
  refine AllReadyH.cons (o := ⟨some 9, .call { callee := .value (.func 20), args := #[.tmp 7, .tmp 8], argTypes := #[26, 33] }, 4, _, _, _⟩) rfl (fun K hK => ?_) AllReadyH.nil
  (go_simp; (refine (HR _).mono ?_); (rintro e wz ⟨rfl, hb⟩); (replace Rc := Rc.later hb); (replace Rd := Rd.later hb); (replace Re := Re.later hb); (replace hb0 := below_step hb0 hb); go_wp2_with fail)
  refine hK.out _ _ ?hSr44_3_2 (fun hHeld2 => ?_)
  case hSr44_3_2 => (obtain ⟨c0, c1, c2, c3, c4, c5, c6, d0, d1, d2, d3, d4, d5, d6, d7, d8, d9, d10, d11⟩ := hHeld; exact ⟨cell_later hb c0, cell_later hb c1, cell_later hb c2, cell_later hb c3, cell_later hb c4, cell_later hb c5, cell_later hb c6, cell_later hb d0, cell_later hb d1, cell_later hb d2, cell_later hb d3, cell_later hb d4, cell_later hb d5, cell_later hb d6, cell_later hb d7, cell_later hb d8, cell_later hb d9, cell_later hb d10, cell_later hb d11⟩)
  clear hK K hHeld
  have hHeld := hHeld2
  clear hHeld2
  rename World => wq
  (try simp only [Act.put, nz1, nz2, nz3])
  refine tk 3 ⟨some 10, .move (.tmp 9), 4, _, _, _⟩ hHeld ?_
  (try simp only [Act.put, nz1, nz2, nz3])
  refine ts 4 ⟨some 11, .load 33 (.tmp 4), 33, _, _, _⟩ hHeld ?_
  (try simp only [Act.put, nz1, nz2, nz3])
  refine ts 5 ⟨some 12, .load 26 (.tmp 3), 26, _, _, _⟩ hHeld ?_
  (try simp only [Act.put, nz1, nz2, nz3])
  refine ts 6 ⟨some 13, .load 33 (.tmp 5), 33, _, _, _⟩ hHeld ?_
  (try simp only [Act.put, nz1, nz2, nz3])
  refine ts 7 ⟨some 14, .fieldAddr 33 (.tmp 4) 0, 0, _, _, _⟩ hHeld ?_
  (try simp only [Act.put, nz1, nz2, nz3])
  refine ts 8 ⟨some 15, .load 27 (.tmp 14), 27, _, _, _⟩ hHeld ?_
  (try simp only [Act.put, nz1, nz2, nz3])
  refine ts 9 ⟨some 16, .call { callee := .value (.func 26), args := #[.tmp 12, .tmp 13, .tmp 15], argTypes := #[26, 33, 27] }, 33, _, _, _⟩ hHeld ?_
  (try simp only [Act.put, nz1, nz2, nz3])
  refine ts 10 ⟨some 17, .binOp .eql 33 (.tmp 11) (.tmp 16) 33, 4, _, _, _⟩ hHeld ?_
  (try simp only [Act.put, nz1, nz2, nz3])
  refine tk 11 ⟨some 18, .pick (.tmp 10) (.tmp 17) (.const (.bool false)), 4, _, _, _⟩ hHeld ?_
  (try simp only [Act.put, nz1, nz2, nz3])
  refine tk 12 ⟨some 6, .assign (.tmp 18), 4, _, _, _⟩ hHeld ?_
  (try simp only [Act.put, nz1, nz2, nz3])
  refine wpAnyH_done (by kernel_rfl) ?_ _
  clear hHeld
  rename World => w1
  have lc := Rc.lt
  have ld := Rd.lt
  have le := Re.lt
  (try clear c0 c1 c2 c3 c4 c5 c6); obtain ⟨c0, c1, c2, c3, c4, c5, c6⟩ := row7 Rc
  (try clear d0 d1 d2 d3 d4 d5 d6 d7 d8 d9 d10 d11); obtain ⟨d0, d1, d2, d3, d4, d5, d6, d7, d8, d9, d10, d11⟩ := row12 Rd
  (try clear e0 e1 e2 e3 e4 e5 e6 e7 e8 e9 e10 e11); obtain ⟨e0, e1, e2, e3, e4, e5, e6, e7, e8, e9, e10, e11⟩ := row12 Re
  go_wp2
  go_ret
  exact ⟨rfl, hb0⟩
set_option maxRecDepth 100000 in
theorem over_go (s : Sp) (p q u : Px) (HR : ∀ w, Calls Try.prog 20 #[sv s, pv p] w fun e w' => e = .returned (.bool true) ∧ Below w.heap.size w w')
    (HU : ∀ w, Calls Try.prog 26 #[sv s, pv q, .agg #[.int .i64 p.a0, .int .i64 p.a1]] w fun e w' => e = .returned (pv u) ∧ Below w.heap.size w w') (w : World) : Calls Try.prog 28 #[sv s, pv p, pv q] w fun e w' => e = .returned (.bool (decide (p = u))) ∧ Below w.heap.size w w' := by
  have qe := eql_px p u
  generalize decide (p = u) = b at *
  unfold sv pv at *
  obtain ⟨Rc, Rd, Re, hb0⟩ := three_rows w #[.int .i64 s.n, .int .i64 s.d0.kind, .int .i64 s.d0.side, .int .i64 s.d0.step, .int .i64 s.d1.kind, .int .i64 s.d1.side, .int .i64 s.d1.step] #[.int .i64 p.a0, .int .i64 p.a1, .int .i64 p.k0.kind, .int .i64 p.k0.len, .int .u64 p.k0.h, .int .u64 p.k0.l, .string ⟨p.k0.path.toArray⟩, .int .i64 p.k1.kind, .int .i64 p.k1.len, .int .u64 p.k1.h, .int .u64 p.k1.l, .string ⟨p.k1.path.toArray⟩] #[.int .i64 q.a0, .int .i64 q.a1, .int .i64 q.k0.kind, .int .i64 q.k0.len, .int .u64 q.k0.h, .int .u64 q.k0.l, .string ⟨q.k0.path.toArray⟩, .int .i64 q.k1.kind, .int .i64 q.k1.len, .int .u64 q.k1.h, .int .u64 q.k1.l, .string ⟨q.k1.path.toArray⟩] 26 33 33
  (try clear c0 c1 c2 c3 c4 c5 c6); obtain ⟨c0, c1, c2, c3, c4, c5, c6⟩ := row7 Rc
  (try clear d0 d1 d2 d3 d4 d5 d6 d7 d8 d9 d10 d11); obtain ⟨d0, d1, d2, d3, d4, d5, d6, d7, d8, d9, d10, d11⟩ := row12 Rd
  (try clear e0 e1 e2 e3 e4 e5 e6 e7 e8 e9 e10 e11); obtain ⟨e0, e1, e2, e3, e4, e5, e6, e7, e8, e9, e10, e11⟩ := row12 Re
  go_enter Try.func28, Try.ntmps28
  go_wp2_with fail
  refine wp_region_held_drew (S := (fun w' => w'.cell? ⟨w.heap.size, 0, none⟩ = some (Value.int .i64 s.n) ∧ w'.cell? ⟨w.heap.size, 1, none⟩ = some (Value.int .i64 s.d0.kind) ∧ w'.cell? ⟨w.heap.size, 2, none⟩ = some (Value.int .i64 s.d0.side) ∧ w'.cell? ⟨w.heap.size, 3, none⟩ = some (Value.int .i64 s.d0.step) ∧ w'.cell? ⟨w.heap.size, 4, none⟩ = some (Value.int .i64 s.d1.kind) ∧ w'.cell? ⟨w.heap.size, 5, none⟩ = some (Value.int .i64 s.d1.side) ∧ w'.cell? ⟨w.heap.size, 6, none⟩ = some (Value.int .i64 s.d1.step) ∧ w'.cell? ⟨w.heap.size + 1, 0, none⟩ = some (Value.int .i64 p.a0) ∧ w'.cell? ⟨w.heap.size + 1, 1, none⟩ = some (Value.int .i64 p.a1) ∧ w'.cell? ⟨w.heap.size + 1, 2, none⟩ = some (Value.int .i64 p.k0.kind) ∧ w'.cell? ⟨w.heap.size + 1, 3, none⟩ = some (Value.int .i64 p.k0.len) ∧ w'.cell? ⟨w.heap.size + 1, 4, none⟩ = some (Value.int .u64 p.k0.h) ∧ w'.cell? ⟨w.heap.size + 1, 5, none⟩ = some (Value.int .u64 p.k0.l) ∧ w'.cell? ⟨w.heap.size + 1, 6, none⟩ = some (Value.string ⟨p.k0.path.toArray⟩) ∧ w'.cell? ⟨w.heap.size + 1, 7, none⟩ = some (Value.int .i64 p.k1.kind) ∧ w'.cell? ⟨w.heap.size + 1, 8, none⟩ = some (Value.int .i64 p.k1.len) ∧ w'.cell? ⟨w.heap.size + 1, 9, none⟩ = some (Value.int .u64 p.k1.h) ∧ w'.cell? ⟨w.heap.size + 1, 10, none⟩ = some (Value.int .u64 p.k1.l) ∧ w'.cell? ⟨w.heap.size + 1, 11, none⟩ = some (Value.string ⟨p.k1.path.toArray⟩) ∧ w'.cell? ⟨w.heap.size + 1 + 1, 0, none⟩ = some (Value.int .i64 q.a0) ∧ w'.cell? ⟨w.heap.size + 1 + 1, 1, none⟩ = some (Value.int .i64 q.a1) ∧ w'.cell? ⟨w.heap.size + 1 + 1, 2, none⟩ = some (Value.int .i64 q.k0.kind) ∧ w'.cell? ⟨w.heap.size + 1 + 1, 3, none⟩ = some (Value.int .i64 q.k0.len) ∧ w'.cell? ⟨w.heap.size + 1 + 1, 4, none⟩ = some (Value.int .u64 q.k0.h) ∧ w'.cell? ⟨w.heap.size + 1 + 1, 5, none⟩ = some (Value.int .u64 q.k0.l) ∧ w'.cell? ⟨w.heap.size + 1 + 1, 6, none⟩ = some (Value.string ⟨q.k0.path.toArray⟩) ∧ w'.cell? ⟨w.heap.size + 1 + 1, 7, none⟩ = some (Value.int .i64 q.k1.kind) ∧ w'.cell? ⟨w.heap.size + 1 + 1, 8, none⟩ = some (Value.int .i64 q.k1.len) ∧ w'.cell? ⟨w.heap.size + 1 + 1, 9, none⟩ = some (Value.int .u64 q.k1.h) ∧ w'.cell? ⟨w.heap.size + 1 + 1, 10, none⟩ = some (Value.int .u64 q.k1.l) ∧ w'.cell? ⟨w.heap.size + 1 + 1, 11, none⟩ = some (Value.string ⟨q.k1.path.toArray⟩))) (by kernel_rfl) ?hSr45_ (fun hHeld => ?_)
  case hSr45_ => (exact ⟨c0, c1, c2, c3, c4, c5, c6, d0, d1, d2, d3, d4, d5, d6, d7, d8, d9, d10, d11, e0, e1, e2, e3, e4, e5, e6, e7, e8, e9, e10, e11⟩)
  (clear c0 c1 c2 c3 c4 c5 c6 d0 d1 d2 d3 d4 d5 d6 d7 d8 d9 d10 d11 e0 e1 e2 e3 e4 e5 e6 e7 e8 e9 e10 e11; (replace Rc := Rc.drew); (replace Rd := Rd.drew); (replace Re := Re.drew); (replace hb0 := hb0.drew); (generalize World.drew _ = wq at *))
  refine tk 0 ⟨some 7, .load 26 (.tmp 3), 26, _, _, _⟩ hHeld ?_
  (try simp only [Act.put, nz1, nz2, nz3])
  refine tk 1 ⟨some 8, .load 33 (.tmp 4), 33, _, _, _⟩ hHeld ?_
  (try simp only [Act.put, nz1, nz2, nz3])
  refine wpAnyH_ready (rs := [2]) (by kernel_rfl) (by simp) ?_
  refine AllReadyH.cons (o := ⟨some 9, .call { callee := .value (.func 20), args := #[.tmp 7, .tmp 8], argTypes := #[26, 33] }, 4, _, _, _⟩) rfl (fun K hK => ?_) AllReadyH.nil
  (go_simp; (refine (HR _).mono ?_); (rintro e wz ⟨rfl, hb⟩); (replace Rc := Rc.later hb); (replace Rd := Rd.later hb); (replace Re := Re.later hb); (replace hb0 := below_step hb0 hb); go_wp2_with fail)
  refine hK.out _ _ ?hSr45_3_2 (fun hHeld2 => ?_)
  case hSr45_3_2 => (obtain ⟨c0, c1, c2, c3, c4, c5, c6, d0, d1, d2, d3, d4, d5, d6, d7, d8, d9, d10, d11, e0, e1, e2, e3, e4, e5, e6, e7, e8, e9, e10, e11⟩ := hHeld; exact ⟨cell_later hb c0, cell_later hb c1, cell_later hb c2, cell_later hb c3, cell_later hb c4, cell_later hb c5, cell_later hb c6, cell_later hb d0, cell_later hb d1, cell_later hb d2, cell_later hb d3, cell_later hb d4, cell_later hb d5, cell_later hb d6, cell_later hb d7, cell_later hb d8, cell_later hb d9, cell_later hb d10, cell_later hb d11, cell_later hb e0, cell_later hb e1, cell_later hb e2, cell_later hb e3, cell_later hb e4, cell_later hb e5, cell_later hb e6, cell_later hb e7, cell_later hb e8, cell_later hb e9, cell_later hb e10, cell_later hb e11⟩)
  clear hK K hHeld
  have hHeld := hHeld2
  clear hHeld2
  rename World => wq
  (try simp only [Act.put, nz1, nz2, nz3])
  refine tk 3 ⟨some 10, .move (.tmp 9), 4, _, _, _⟩ hHeld ?_
  (try simp only [Act.put, nz1, nz2, nz3])
  refine tk 4 ⟨some 11, .load 33 (.tmp 4), 33, _, _, _⟩ hHeld ?_
  (try simp only [Act.put, nz1, nz2, nz3])
  refine tk 5 ⟨some 12, .load 26 (.tmp 3), 26, _, _, _⟩ hHeld ?_
  (try simp only [Act.put, nz1, nz2, nz3])
  refine tk 6 ⟨some 13, .load 33 (.tmp 5), 33, _, _, _⟩ hHeld ?_
  (try simp only [Act.put, nz1, nz2, nz3])
  refine tk 7 ⟨some 14, .fieldAddr 33 (.tmp 4) 0, 0, _, _, _⟩ hHeld ?_
  (try simp only [Act.put, nz1, nz2, nz3])
  refine tk 8 ⟨some 15, .load 27 (.tmp 14), 27, _, _, _⟩ hHeld ?_
  (try simp only [Act.put, nz1, nz2, nz3])
  refine wpAnyH_ready (rs := [9]) (by kernel_rfl) (by simp) ?_
  refine AllReadyH.cons (o := ⟨some 16, .call { callee := .value (.func 26), args := #[.tmp 12, .tmp 13, .tmp 15], argTypes := #[26, 33, 27] }, 33, _, _, _⟩) rfl (fun K hK => ?_) AllReadyH.nil
  (go_simp; (refine (HU _).mono ?_); (rintro e wz ⟨rfl, hb⟩); (replace Rc := Rc.later hb); (replace Rd := Rd.later hb); (replace Re := Re.later hb); (replace hb0 := below_step hb0 hb); go_wp2_with fail)
  refine hK.out _ _ ?hSr45_10_9 (fun hHeld2 => ?_)
  case hSr45_10_9 => (obtain ⟨c0, c1, c2, c3, c4, c5, c6, d0, d1, d2, d3, d4, d5, d6, d7, d8, d9, d10, d11, e0, e1, e2, e3, e4, e5, e6, e7, e8, e9, e10, e11⟩ := hHeld; exact ⟨cell_later hb c0, cell_later hb c1, cell_later hb c2, cell_later hb c3, cell_later hb c4, cell_later hb c5, cell_later hb c6, cell_later hb d0, cell_later hb d1, cell_later hb d2, cell_later hb d3, cell_later hb d4, cell_later hb d5, cell_later hb d6, cell_later hb d7, cell_later hb d8, cell_later hb d9, cell_later hb d10, cell_later hb d11, cell_later hb e0, cell_later hb e1, cell_later hb e2, cell_later hb e3, cell_later hb e4, cell_later hb e5, cell_later hb e6, cell_later hb e7, cell_later hb e8, cell_later hb e9, cell_later hb e10, cell_later hb e11⟩)
  clear hK K hHeld
  have hHeld := hHeld2
  clear hHeld2
  rename World => wq
  (try simp only [Act.put, nz1, nz2, nz3])
  refine tk 10 ⟨some 17, .binOp .eql 33 (.tmp 11) (.tmp 16) 33, 4, _, _, _⟩ hHeld ?_
  (try simp only [Act.put, nz1, nz2, nz3])
  refine tk 11 ⟨some 18, .pick (.tmp 10) (.tmp 17) (.const (.bool false)), 4, _, _, _⟩ hHeld ?_
  (try simp only [Act.put, nz1, nz2, nz3])
  refine tk 12 ⟨some 6, .assign (.tmp 18), 4, _, _, _⟩ hHeld ?_
  (try simp only [Act.put, nz1, nz2, nz3])
  refine wpAnyH_done (by kernel_rfl) ?_ _
  clear hHeld
  rename World => w1
  have lc := Rc.lt
  have ld := Rd.lt
  have le := Re.lt
  (try clear c0 c1 c2 c3 c4 c5 c6); obtain ⟨c0, c1, c2, c3, c4, c5, c6⟩ := row7 Rc
  (try clear d0 d1 d2 d3 d4 d5 d6 d7 d8 d9 d10 d11); obtain ⟨d0, d1, d2, d3, d4, d5, d6, d7, d8, d9, d10, d11⟩ := row12 Rd
  (try clear e0 e1 e2 e3 e4 e5 e6 e7 e8 e9 e10 e11); obtain ⟨e0, e1, e2, e3, e4, e5, e6, e7, e8, e9, e10, e11⟩ := row12 Re
  go_wp2
  go_ret
  exact ⟨rfl, hb0⟩
theorem over9_t (s : Sp) (p q : Px) (op : p.ok) (oq : q.ok) (w : World) : Calls Try.prog 28 #[sv s, pv p, pv q] w fun e w' => e = .returned (.bool (overP s p q)) ∧ Below w.heap.size w w' := by
  have HR := right9_t s p op
  have HU := up9_t s q oq p.a0 p.a1
  unfold overP
  cases hr : rightP s p with
  | false => rw [hr] at HR; exact over_no s p q HR w
  | true => rw [hr] at HR; exact over_go s p q _ HR HU w
def crossX (p q : Px) : Px := ⟨if q.a0 < p.a0 then q.a0 else p.a0, if q.a1 < p.a1 then q.a1 else p.a1, if q.a0 < p.a0 then q.k0 else p.k0, if q.a1 < p.a1 then q.k1 else p.k1⟩
def crossB (s : Sp) (p q : Px) : Bool := overP s p (crossX p q) && overP s q (crossX p q)
def crossP (s : Sp) (p q : Px) : Px := if crossB s p q = true then crossX p q else pz
set_option maxRecDepth 100000 in
theorem cross_00 (s : Sp) (p q : Px) (o1 o2 : Bool) (g0 : ¬ q.a0 < p.a0) (g1 : ¬ q.a1 < p.a1) (HO1 : ∀ w, Calls Try.prog 28 #[sv s, pv p, pv ⟨p.a0, p.a1, p.k0, p.k1⟩] w fun e w' => e = .returned (.bool o1) ∧ Below w.heap.size w w')
    (HO2 : ∀ w, Calls Try.prog 28 #[sv s, pv q, pv ⟨p.a0, p.a1, p.k0, p.k1⟩] w fun e w' => e = .returned (.bool o2) ∧ Below w.heap.size w w') (w : World) : Calls Try.prog 30 #[sv s, pv p, pv q] w fun e w' => e = .returned (.tuple #[pv (if (o1 && o2) = true then ⟨p.a0, p.a1, p.k0, p.k1⟩ else pz), .bool (o1 && o2)]) ∧ Below w.heap.size w w' := by
  have i0 := ixa0
  have i1 := ixa1
  have t0 : decide (q.a0 < p.a0) = false := decide_eq_false g0
  have t1 : decide (q.a1 < p.a1) = false := decide_eq_false g1
  unfold pz kz
  unfold sv pv at *
  dsimp only at *
  obtain ⟨Rc, Rd, Re, Rr, hb0⟩ := four_rows w #[.int .i64 s.n, .int .i64 s.d0.kind, .int .i64 s.d0.side, .int .i64 s.d0.step, .int .i64 s.d1.kind, .int .i64 s.d1.side, .int .i64 s.d1.step] #[.int .i64 p.a0, .int .i64 p.a1, .int .i64 p.k0.kind, .int .i64 p.k0.len, .int .u64 p.k0.h, .int .u64 p.k0.l, .string ⟨p.k0.path.toArray⟩, .int .i64 p.k1.kind, .int .i64 p.k1.len, .int .u64 p.k1.h, .int .u64 p.k1.l, .string ⟨p.k1.path.toArray⟩] #[.int .i64 q.a0, .int .i64 q.a1, .int .i64 q.k0.kind, .int .i64 q.k0.len, .int .u64 q.k0.h, .int .u64 q.k0.l, .string ⟨q.k0.path.toArray⟩, .int .i64 q.k1.kind, .int .i64 q.k1.len, .int .u64 q.k1.h, .int .u64 q.k1.l, .string ⟨q.k1.path.toArray⟩] #[.int .i64 0, .int .i64 0, .int .i64 0, .int .i64 0, .int .u64 0, .int .u64 0, .string ⟨#[]⟩, .int .i64 0, .int .i64 0, .int .u64 0, .int .u64 0, .string ⟨#[]⟩] 26 33 33 33
  (try clear c0 c1 c2 c3 c4 c5 c6); obtain ⟨c0, c1, c2, c3, c4, c5, c6⟩ := row7 Rc
  (try clear d0 d1 d2 d3 d4 d5 d6 d7 d8 d9 d10 d11); obtain ⟨d0, d1, d2, d3, d4, d5, d6, d7, d8, d9, d10, d11⟩ := row12 Rd
  (try clear e0 e1 e2 e3 e4 e5 e6 e7 e8 e9 e10 e11); obtain ⟨e0, e1, e2, e3, e4, e5, e6, e7, e8, e9, e10, e11⟩ := row12 Re
  (try clear r0 r1 r2 r3 r4 r5 r6 r7 r8 r9 r10 r11); obtain ⟨r0, r1, r2, r3, r4, r5, r6, r7, r8, r9, r10, r11⟩ := row12 Rr
  go_enter Try.func30, Try.ntmps30
  go_wp2_with fail
  replace Rc := Rc.alloc (.cells #[Value.int .i64 p.a0, Value.int .i64 p.a1, Value.int .i64 p.k0.kind, Value.int .i64 p.k0.len, Value.int .u64 p.k0.h, Value.int .u64 p.k0.l, Value.string ⟨p.k0.path.toArray⟩, Value.int .i64 p.k1.kind, Value.int .i64 p.k1.len, Value.int .u64 p.k1.h, Value.int .u64 p.k1.l, Value.string ⟨p.k1.path.toArray⟩] 33)
  replace Rd := Rd.alloc (.cells #[Value.int .i64 p.a0, Value.int .i64 p.a1, Value.int .i64 p.k0.kind, Value.int .i64 p.k0.len, Value.int .u64 p.k0.h, Value.int .u64 p.k0.l, Value.string ⟨p.k0.path.toArray⟩, Value.int .i64 p.k1.kind, Value.int .i64 p.k1.len, Value.int .u64 p.k1.h, Value.int .u64 p.k1.l, Value.string ⟨p.k1.path.toArray⟩] 33)
  replace Re := Re.alloc (.cells #[Value.int .i64 p.a0, Value.int .i64 p.a1, Value.int .i64 p.k0.kind, Value.int .i64 p.k0.len, Value.int .u64 p.k0.h, Value.int .u64 p.k0.l, Value.string ⟨p.k0.path.toArray⟩, Value.int .i64 p.k1.kind, Value.int .i64 p.k1.len, Value.int .u64 p.k1.h, Value.int .u64 p.k1.l, Value.string ⟨p.k1.path.toArray⟩] 33)
  replace Rr := Rr.alloc (.cells #[Value.int .i64 p.a0, Value.int .i64 p.a1, Value.int .i64 p.k0.kind, Value.int .i64 p.k0.len, Value.int .u64 p.k0.h, Value.int .u64 p.k0.l, Value.string ⟨p.k0.path.toArray⟩, Value.int .i64 p.k1.kind, Value.int .i64 p.k1.len, Value.int .u64 p.k1.h, Value.int .u64 p.k1.l, Value.string ⟨p.k1.path.toArray⟩] 33)
  have Rx := Row.new (World.alloc (World.alloc (World.alloc (World.alloc w (.cells #[.int .i64 s.n, .int .i64 s.d0.kind, .int .i64 s.d0.side, .int .i64 s.d0.step, .int .i64 s.d1.kind, .int .i64 s.d1.side, .int .i64 s.d1.step] 26)) (.cells #[.int .i64 p.a0, .int .i64 p.a1, .int .i64 p.k0.kind, .int .i64 p.k0.len, .int .u64 p.k0.h, .int .u64 p.k0.l, .string ⟨p.k0.path.toArray⟩, .int .i64 p.k1.kind, .int .i64 p.k1.len, .int .u64 p.k1.h, .int .u64 p.k1.l, .string ⟨p.k1.path.toArray⟩] 33)) (.cells #[.int .i64 q.a0, .int .i64 q.a1, .int .i64 q.k0.kind, .int .i64 q.k0.len, .int .u64 q.k0.h, .int .u64 q.k0.l, .string ⟨q.k0.path.toArray⟩, .int .i64 q.k1.kind, .int .i64 q.k1.len, .int .u64 q.k1.h, .int .u64 q.k1.l, .string ⟨q.k1.path.toArray⟩] 33)) (.cells #[.int .i64 0, .int .i64 0, .int .i64 0, .int .i64 0, .int .u64 0, .int .u64 0, .string ⟨#[]⟩, .int .i64 0, .int .i64 0, .int .u64 0, .int .u64 0, .string ⟨#[]⟩] 33)) #[Value.int .i64 p.a0, Value.int .i64 p.a1, Value.int .i64 p.k0.kind, Value.int .i64 p.k0.len, Value.int .u64 p.k0.h, Value.int .u64 p.k0.l, Value.string ⟨p.k0.path.toArray⟩, Value.int .i64 p.k1.kind, Value.int .i64 p.k1.len, Value.int .u64 p.k1.h, Value.int .u64 p.k1.l, Value.string ⟨p.k1.path.toArray⟩] 33
  simp only [World.size_alloc] at Rx
  have mx := hb0.size
  replace hb0 := hb0.alloc hb0.size (.cells #[Value.int .i64 p.a0, Value.int .i64 p.a1, Value.int .i64 p.k0.kind, Value.int .i64 p.k0.len, Value.int .u64 p.k0.h, Value.int .u64 p.k0.l, Value.string ⟨p.k0.path.toArray⟩, Value.int .i64 p.k1.kind, Value.int .i64 p.k1.len, Value.int .u64 p.k1.h, Value.int .u64 p.k1.l, Value.string ⟨p.k1.path.toArray⟩] 33)
  (try clear c0 c1 c2 c3 c4 c5 c6); obtain ⟨c0, c1, c2, c3, c4, c5, c6⟩ := row7 Rc
  (try clear d0 d1 d2 d3 d4 d5 d6 d7 d8 d9 d10 d11); obtain ⟨d0, d1, d2, d3, d4, d5, d6, d7, d8, d9, d10, d11⟩ := row12 Rd
  (try clear e0 e1 e2 e3 e4 e5 e6 e7 e8 e9 e10 e11); obtain ⟨e0, e1, e2, e3, e4, e5, e6, e7, e8, e9, e10, e11⟩ := row12 Re
  (try clear r0 r1 r2 r3 r4 r5 r6 r7 r8 r9 r10 r11); obtain ⟨r0, r1, r2, r3, r4, r5, r6, r7, r8, r9, r10, r11⟩ := row12 Rr
  (try clear x0 x1 x2 x3 x4 x5 x6 x7 x8 x9 x10 x11); obtain ⟨x0, x1, x2, x3, x4, x5, x6, x7, x8, x9, x10, x11⟩ := row12 Rx
  refine wp_loop_rounds 3 ?_
  rw [rounds_succ]
  go_wp2_with fail
  rw [rounds_succ]
  go_wp2_with fail
  rw [rounds_succ]
  cases o1 with
  | false =>
    go_wp2_with fail
    refine (HO1 _).mono ?_
    rintro e w1 ⟨rfl, hb⟩
    replace Rc := Rc.later hb
    replace Rd := Rd.later hb
    replace Re := Re.later hb
    replace Rr := Rr.later hb
    replace Rx := Rx.later hb
    replace hb0 := below_step hb0 hb
    clear hb
    have lc := Rc.lt
    have ld := Rd.lt
    have le := Re.lt
    have lr := Rr.lt
    have lx := Rx.lt
    (try clear c0 c1 c2 c3 c4 c5 c6); obtain ⟨c0, c1, c2, c3, c4, c5, c6⟩ := row7 Rc
    (try clear d0 d1 d2 d3 d4 d5 d6 d7 d8 d9 d10 d11); obtain ⟨d0, d1, d2, d3, d4, d5, d6, d7, d8, d9, d10, d11⟩ := row12 Rd
    (try clear e0 e1 e2 e3 e4 e5 e6 e7 e8 e9 e10 e11); obtain ⟨e0, e1, e2, e3, e4, e5, e6, e7, e8, e9, e10, e11⟩ := row12 Re
    (try clear r0 r1 r2 r3 r4 r5 r6 r7 r8 r9 r10 r11); obtain ⟨r0, r1, r2, r3, r4, r5, r6, r7, r8, r9, r10, r11⟩ := row12 Rr
    (try clear x0 x1 x2 x3 x4 x5 x6 x7 x8 x9 x10 x11); obtain ⟨x0, x1, x2, x3, x4, x5, x6, x7, x8, x9, x10, x11⟩ := row12 Rx
    have rf0 := Rr.frozen 0
    have rf1 := Rr.frozen 1
    have rf2 := Rr.frozen 2
    have rf3 := Rr.frozen 3
    have rf4 := Rr.frozen 4
    have rf5 := Rr.frozen 5
    have rf6 := Rr.frozen 6
    have rf7 := Rr.frozen 7
    have rf8 := Rr.frozen 8
    have rf9 := Rr.frozen 9
    have rf10 := Rr.frozen 10
    have rf11 := Rr.frozen 11
    go_wp2
    clear c0 c1 c2 c3 c4 c5 c6
    clear d0 d1 d2 d3 d4 d5 d6 d7 d8 d9 d10 d11
    clear e0 e1 e2 e3 e4 e5 e6 e7 e8 e9 e10 e11
    obtain ⟨w2, hwn⟩ : ∃ wz, wz = (World.setCell (World.setCell (World.setCell (World.setCell (World.setCell (World.setCell (World.setCell (World.setCell (World.setCell (World.setCell (World.setCell (World.setCell w1 ⟨(w.heap.size + 1 + 1 + 1), 0, none⟩ (.int .i64 0)) ⟨(w.heap.size + 1 + 1 + 1), 1, none⟩ (.int .i64 0)) ⟨(w.heap.size + 1 + 1 + 1), 2, none⟩ (.int .i64 0)) ⟨(w.heap.size + 1 + 1 + 1), 3, none⟩ (.int .i64 0)) ⟨(w.heap.size + 1 + 1 + 1), 4, none⟩ (.int .u64 0)) ⟨(w.heap.size + 1 + 1 + 1), 5, none⟩ (.int .u64 0)) ⟨(w.heap.size + 1 + 1 + 1), 6, none⟩ (.string ⟨#[]⟩)) ⟨(w.heap.size + 1 + 1 + 1), 7, none⟩ (.int .i64 0)) ⟨(w.heap.size + 1 + 1 + 1), 8, none⟩ (.int .i64 0)) ⟨(w.heap.size + 1 + 1 + 1), 9, none⟩ (.int .u64 0)) ⟨(w.heap.size + 1 + 1 + 1), 10, none⟩ (.int .u64 0)) ⟨(w.heap.size + 1 + 1 + 1), 11, none⟩ (.string ⟨#[]⟩)) := ⟨_, rfl⟩
    rw [← hwn]
    replace hwn : w2 = World.setCells w1 (w.heap.size + 1 + 1 + 1) 0 [.int .i64 0, .int .i64 0, .int .i64 0, .int .i64 0, .int .u64 0, .int .u64 0, .string ⟨#[]⟩, .int .i64 0, .int .i64 0, .int .u64 0, .int .u64 0, .string ⟨#[]⟩] := hwn
    replace Rr : Row w2 (w.heap.size + 1 + 1 + 1) #[.int .i64 0, .int .i64 0, .int .i64 0, .int .i64 0, .int .u64 0, .int .u64 0, .string ⟨#[]⟩, .int .i64 0, .int .i64 0, .int .u64 0, .int .u64 0, .string ⟨#[]⟩] 33 := psm hwn Rr (by simp [setL])
    replace Rc := prf hwn Rc
    replace Rd := prf hwn Rd
    replace Re := prf hwn Re
    replace Rx := prf hwn Rx
    replace hb0 := pbl hwn hb0
    clear hwn r0 r1 r2 r3 r4 r5 r6 r7 r8 r9 r10 r11 x0 x1 x2 x3 x4 x5 x6 x7 x8 x9 x10 x11
    (try clear rf0 rf1 rf2 rf3 rf4 rf5 rf6 rf7 rf8 rf9 rf10 rf11)
    (try clear r0 r1 r2 r3 r4 r5 r6 r7 r8 r9 r10 r11); obtain ⟨r0, r1, r2, r3, r4, r5, r6, r7, r8, r9, r10, r11⟩ := row12 Rr
    (try clear x0 x1 x2 x3 x4 x5 x6 x7 x8 x9 x10 x11); obtain ⟨x0, x1, x2, x3, x4, x5, x6, x7, x8, x9, x10, x11⟩ := row12 Rx
    refine bodyPost_ret (v := .tuple #[.agg #[.int .i64 0, .int .i64 0, .int .i64 0, .int .i64 0, .int .u64 0, .int .u64 0, .string ⟨#[]⟩, .int .i64 0, .int .i64 0, .int .u64 0, .int .u64 0, .string ⟨#[]⟩], .bool false]) (by simp [results, Try.results30, go_sem, r0, r1, r2, r3, r4, r5, r6, r7, r8, r9, r10, r11]) rfl ⟨rfl, hb0⟩
  | true =>
    cases o2 with
    | false =>
      go_wp2_with fail
      refine (HO1 _).mono ?_
      rintro e w1 ⟨rfl, hb⟩
      replace Rc := Rc.later hb
      replace Rd := Rd.later hb
      replace Re := Re.later hb
      replace Rr := Rr.later hb
      replace Rx := Rx.later hb
      replace hb0 := below_step hb0 hb
      clear hb
      have lc := Rc.lt
      have ld := Rd.lt
      have le := Re.lt
      have lr := Rr.lt
      have lx := Rx.lt
      (try clear c0 c1 c2 c3 c4 c5 c6); obtain ⟨c0, c1, c2, c3, c4, c5, c6⟩ := row7 Rc
      (try clear d0 d1 d2 d3 d4 d5 d6 d7 d8 d9 d10 d11); obtain ⟨d0, d1, d2, d3, d4, d5, d6, d7, d8, d9, d10, d11⟩ := row12 Rd
      (try clear e0 e1 e2 e3 e4 e5 e6 e7 e8 e9 e10 e11); obtain ⟨e0, e1, e2, e3, e4, e5, e6, e7, e8, e9, e10, e11⟩ := row12 Re
      (try clear r0 r1 r2 r3 r4 r5 r6 r7 r8 r9 r10 r11); obtain ⟨r0, r1, r2, r3, r4, r5, r6, r7, r8, r9, r10, r11⟩ := row12 Rr
      (try clear x0 x1 x2 x3 x4 x5 x6 x7 x8 x9 x10 x11); obtain ⟨x0, x1, x2, x3, x4, x5, x6, x7, x8, x9, x10, x11⟩ := row12 Rx
      go_wp2_with fail
      refine (HO2 _).mono ?_
      rintro e w2 ⟨rfl, hb⟩
      replace Rc := Rc.later hb
      replace Rd := Rd.later hb
      replace Re := Re.later hb
      replace Rr := Rr.later hb
      replace Rx := Rx.later hb
      replace hb0 := below_step hb0 hb
      clear hb
      have lc := Rc.lt
      have ld := Rd.lt
      have le := Re.lt
      have lr := Rr.lt
      have lx := Rx.lt
      (try clear c0 c1 c2 c3 c4 c5 c6); obtain ⟨c0, c1, c2, c3, c4, c5, c6⟩ := row7 Rc
      (try clear d0 d1 d2 d3 d4 d5 d6 d7 d8 d9 d10 d11); obtain ⟨d0, d1, d2, d3, d4, d5, d6, d7, d8, d9, d10, d11⟩ := row12 Rd
      (try clear e0 e1 e2 e3 e4 e5 e6 e7 e8 e9 e10 e11); obtain ⟨e0, e1, e2, e3, e4, e5, e6, e7, e8, e9, e10, e11⟩ := row12 Re
      (try clear r0 r1 r2 r3 r4 r5 r6 r7 r8 r9 r10 r11); obtain ⟨r0, r1, r2, r3, r4, r5, r6, r7, r8, r9, r10, r11⟩ := row12 Rr
      (try clear x0 x1 x2 x3 x4 x5 x6 x7 x8 x9 x10 x11); obtain ⟨x0, x1, x2, x3, x4, x5, x6, x7, x8, x9, x10, x11⟩ := row12 Rx
      have rf0 := Rr.frozen 0
      have rf1 := Rr.frozen 1
      have rf2 := Rr.frozen 2
      have rf3 := Rr.frozen 3
      have rf4 := Rr.frozen 4
      have rf5 := Rr.frozen 5
      have rf6 := Rr.frozen 6
      have rf7 := Rr.frozen 7
      have rf8 := Rr.frozen 8
      have rf9 := Rr.frozen 9
      have rf10 := Rr.frozen 10
      have rf11 := Rr.frozen 11
      go_wp2
      clear c0 c1 c2 c3 c4 c5 c6
      clear d0 d1 d2 d3 d4 d5 d6 d7 d8 d9 d10 d11
      clear e0 e1 e2 e3 e4 e5 e6 e7 e8 e9 e10 e11
      obtain ⟨w3, hwn⟩ : ∃ wz, wz = (World.setCell (World.setCell (World.setCell (World.setCell (World.setCell (World.setCell (World.setCell (World.setCell (World.setCell (World.setCell (World.setCell (World.setCell w2 ⟨(w.heap.size + 1 + 1 + 1), 0, none⟩ (.int .i64 0)) ⟨(w.heap.size + 1 + 1 + 1), 1, none⟩ (.int .i64 0)) ⟨(w.heap.size + 1 + 1 + 1), 2, none⟩ (.int .i64 0)) ⟨(w.heap.size + 1 + 1 + 1), 3, none⟩ (.int .i64 0)) ⟨(w.heap.size + 1 + 1 + 1), 4, none⟩ (.int .u64 0)) ⟨(w.heap.size + 1 + 1 + 1), 5, none⟩ (.int .u64 0)) ⟨(w.heap.size + 1 + 1 + 1), 6, none⟩ (.string ⟨#[]⟩)) ⟨(w.heap.size + 1 + 1 + 1), 7, none⟩ (.int .i64 0)) ⟨(w.heap.size + 1 + 1 + 1), 8, none⟩ (.int .i64 0)) ⟨(w.heap.size + 1 + 1 + 1), 9, none⟩ (.int .u64 0)) ⟨(w.heap.size + 1 + 1 + 1), 10, none⟩ (.int .u64 0)) ⟨(w.heap.size + 1 + 1 + 1), 11, none⟩ (.string ⟨#[]⟩)) := ⟨_, rfl⟩
      rw [← hwn]
      replace hwn : w3 = World.setCells w2 (w.heap.size + 1 + 1 + 1) 0 [.int .i64 0, .int .i64 0, .int .i64 0, .int .i64 0, .int .u64 0, .int .u64 0, .string ⟨#[]⟩, .int .i64 0, .int .i64 0, .int .u64 0, .int .u64 0, .string ⟨#[]⟩] := hwn
      replace Rr : Row w3 (w.heap.size + 1 + 1 + 1) #[.int .i64 0, .int .i64 0, .int .i64 0, .int .i64 0, .int .u64 0, .int .u64 0, .string ⟨#[]⟩, .int .i64 0, .int .i64 0, .int .u64 0, .int .u64 0, .string ⟨#[]⟩] 33 := psm hwn Rr (by simp [setL])
      replace Rc := prf hwn Rc
      replace Rd := prf hwn Rd
      replace Re := prf hwn Re
      replace Rx := prf hwn Rx
      replace hb0 := pbl hwn hb0
      clear hwn r0 r1 r2 r3 r4 r5 r6 r7 r8 r9 r10 r11 x0 x1 x2 x3 x4 x5 x6 x7 x8 x9 x10 x11
      (try clear rf0 rf1 rf2 rf3 rf4 rf5 rf6 rf7 rf8 rf9 rf10 rf11)
      (try clear r0 r1 r2 r3 r4 r5 r6 r7 r8 r9 r10 r11); obtain ⟨r0, r1, r2, r3, r4, r5, r6, r7, r8, r9, r10, r11⟩ := row12 Rr
      (try clear x0 x1 x2 x3 x4 x5 x6 x7 x8 x9 x10 x11); obtain ⟨x0, x1, x2, x3, x4, x5, x6, x7, x8, x9, x10, x11⟩ := row12 Rx
      refine bodyPost_ret (v := .tuple #[.agg #[.int .i64 0, .int .i64 0, .int .i64 0, .int .i64 0, .int .u64 0, .int .u64 0, .string ⟨#[]⟩, .int .i64 0, .int .i64 0, .int .u64 0, .int .u64 0, .string ⟨#[]⟩], .bool false]) (by simp [results, Try.results30, go_sem, r0, r1, r2, r3, r4, r5, r6, r7, r8, r9, r10, r11]) rfl ⟨rfl, hb0⟩
    | true =>
      go_wp2_with fail
      refine (HO1 _).mono ?_
      rintro e w1 ⟨rfl, hb⟩
      replace Rc := Rc.later hb
      replace Rd := Rd.later hb
      replace Re := Re.later hb
      replace Rr := Rr.later hb
      replace Rx := Rx.later hb
      replace hb0 := below_step hb0 hb
      clear hb
      have lc := Rc.lt
      have ld := Rd.lt
      have le := Re.lt
      have lr := Rr.lt
      have lx := Rx.lt
      (try clear c0 c1 c2 c3 c4 c5 c6); obtain ⟨c0, c1, c2, c3, c4, c5, c6⟩ := row7 Rc
      (try clear d0 d1 d2 d3 d4 d5 d6 d7 d8 d9 d10 d11); obtain ⟨d0, d1, d2, d3, d4, d5, d6, d7, d8, d9, d10, d11⟩ := row12 Rd
      (try clear e0 e1 e2 e3 e4 e5 e6 e7 e8 e9 e10 e11); obtain ⟨e0, e1, e2, e3, e4, e5, e6, e7, e8, e9, e10, e11⟩ := row12 Re
      (try clear r0 r1 r2 r3 r4 r5 r6 r7 r8 r9 r10 r11); obtain ⟨r0, r1, r2, r3, r4, r5, r6, r7, r8, r9, r10, r11⟩ := row12 Rr
      (try clear x0 x1 x2 x3 x4 x5 x6 x7 x8 x9 x10 x11); obtain ⟨x0, x1, x2, x3, x4, x5, x6, x7, x8, x9, x10, x11⟩ := row12 Rx
      go_wp2_with fail
      refine (HO2 _).mono ?_
      rintro e w2 ⟨rfl, hb⟩
      replace Rc := Rc.later hb
      replace Rd := Rd.later hb
      replace Re := Re.later hb
      replace Rr := Rr.later hb
      replace Rx := Rx.later hb
      replace hb0 := below_step hb0 hb
      clear hb
      have lc := Rc.lt
      have ld := Rd.lt
      have le := Re.lt
      have lr := Rr.lt
      have lx := Rx.lt
      (try clear c0 c1 c2 c3 c4 c5 c6); obtain ⟨c0, c1, c2, c3, c4, c5, c6⟩ := row7 Rc
      (try clear d0 d1 d2 d3 d4 d5 d6 d7 d8 d9 d10 d11); obtain ⟨d0, d1, d2, d3, d4, d5, d6, d7, d8, d9, d10, d11⟩ := row12 Rd
      (try clear e0 e1 e2 e3 e4 e5 e6 e7 e8 e9 e10 e11); obtain ⟨e0, e1, e2, e3, e4, e5, e6, e7, e8, e9, e10, e11⟩ := row12 Re
      (try clear r0 r1 r2 r3 r4 r5 r6 r7 r8 r9 r10 r11); obtain ⟨r0, r1, r2, r3, r4, r5, r6, r7, r8, r9, r10, r11⟩ := row12 Rr
      (try clear x0 x1 x2 x3 x4 x5 x6 x7 x8 x9 x10 x11); obtain ⟨x0, x1, x2, x3, x4, x5, x6, x7, x8, x9, x10, x11⟩ := row12 Rx
      have rf0 := Rr.frozen 0
      have rf1 := Rr.frozen 1
      have rf2 := Rr.frozen 2
      have rf3 := Rr.frozen 3
      have rf4 := Rr.frozen 4
      have rf5 := Rr.frozen 5
      have rf6 := Rr.frozen 6
      have rf7 := Rr.frozen 7
      have rf8 := Rr.frozen 8
      have rf9 := Rr.frozen 9
      have rf10 := Rr.frozen 10
      have rf11 := Rr.frozen 11
      go_wp2
      clear c0 c1 c2 c3 c4 c5 c6
      clear d0 d1 d2 d3 d4 d5 d6 d7 d8 d9 d10 d11
      clear e0 e1 e2 e3 e4 e5 e6 e7 e8 e9 e10 e11
      obtain ⟨w3, hwn⟩ : ∃ wz, wz = (World.setCell (World.setCell (World.setCell (World.setCell (World.setCell (World.setCell (World.setCell (World.setCell (World.setCell (World.setCell (World.setCell (World.setCell w2 ⟨(w.heap.size + 1 + 1 + 1), 0, none⟩ (.int .i64 p.a0)) ⟨(w.heap.size + 1 + 1 + 1), 1, none⟩ (.int .i64 p.a1)) ⟨(w.heap.size + 1 + 1 + 1), 2, none⟩ (.int .i64 p.k0.kind)) ⟨(w.heap.size + 1 + 1 + 1), 3, none⟩ (.int .i64 p.k0.len)) ⟨(w.heap.size + 1 + 1 + 1), 4, none⟩ (.int .u64 p.k0.h)) ⟨(w.heap.size + 1 + 1 + 1), 5, none⟩ (.int .u64 p.k0.l)) ⟨(w.heap.size + 1 + 1 + 1), 6, none⟩ (.string ⟨p.k0.path.toArray⟩)) ⟨(w.heap.size + 1 + 1 + 1), 7, none⟩ (.int .i64 p.k1.kind)) ⟨(w.heap.size + 1 + 1 + 1), 8, none⟩ (.int .i64 p.k1.len)) ⟨(w.heap.size + 1 + 1 + 1), 9, none⟩ (.int .u64 p.k1.h)) ⟨(w.heap.size + 1 + 1 + 1), 10, none⟩ (.int .u64 p.k1.l)) ⟨(w.heap.size + 1 + 1 + 1), 11, none⟩ (.string ⟨p.k1.path.toArray⟩)) := ⟨_, rfl⟩
      rw [← hwn]
      replace hwn : w3 = World.setCells w2 (w.heap.size + 1 + 1 + 1) 0 [.int .i64 p.a0, .int .i64 p.a1, .int .i64 p.k0.kind, .int .i64 p.k0.len, .int .u64 p.k0.h, .int .u64 p.k0.l, .string ⟨p.k0.path.toArray⟩, .int .i64 p.k1.kind, .int .i64 p.k1.len, .int .u64 p.k1.h, .int .u64 p.k1.l, .string ⟨p.k1.path.toArray⟩] := hwn
      replace Rr : Row w3 (w.heap.size + 1 + 1 + 1) #[.int .i64 p.a0, .int .i64 p.a1, .int .i64 p.k0.kind, .int .i64 p.k0.len, .int .u64 p.k0.h, .int .u64 p.k0.l, .string ⟨p.k0.path.toArray⟩, .int .i64 p.k1.kind, .int .i64 p.k1.len, .int .u64 p.k1.h, .int .u64 p.k1.l, .string ⟨p.k1.path.toArray⟩] 33 := psm hwn Rr (by simp [setL])
      replace Rc := prf hwn Rc
      replace Rd := prf hwn Rd
      replace Re := prf hwn Re
      replace Rx := prf hwn Rx
      replace hb0 := pbl hwn hb0
      clear hwn r0 r1 r2 r3 r4 r5 r6 r7 r8 r9 r10 r11 x0 x1 x2 x3 x4 x5 x6 x7 x8 x9 x10 x11
      (try clear rf0 rf1 rf2 rf3 rf4 rf5 rf6 rf7 rf8 rf9 rf10 rf11)
      (try clear r0 r1 r2 r3 r4 r5 r6 r7 r8 r9 r10 r11); obtain ⟨r0, r1, r2, r3, r4, r5, r6, r7, r8, r9, r10, r11⟩ := row12 Rr
      (try clear x0 x1 x2 x3 x4 x5 x6 x7 x8 x9 x10 x11); obtain ⟨x0, x1, x2, x3, x4, x5, x6, x7, x8, x9, x10, x11⟩ := row12 Rx
      refine bodyPost_ret (v := .tuple #[.agg #[.int .i64 p.a0, .int .i64 p.a1, .int .i64 p.k0.kind, .int .i64 p.k0.len, .int .u64 p.k0.h, .int .u64 p.k0.l, .string ⟨p.k0.path.toArray⟩, .int .i64 p.k1.kind, .int .i64 p.k1.len, .int .u64 p.k1.h, .int .u64 p.k1.l, .string ⟨p.k1.path.toArray⟩], .bool true]) (by simp [results, Try.results30, go_sem, r0, r1, r2, r3, r4, r5, r6, r7, r8, r9, r10, r11]) rfl ⟨rfl, hb0⟩
set_option maxRecDepth 100000 in
theorem cross_01 (s : Sp) (p q : Px) (o1 o2 : Bool) (g0 : ¬ q.a0 < p.a0) (g1 : q.a1 < p.a1) (HO1 : ∀ w, Calls Try.prog 28 #[sv s, pv p, pv ⟨p.a0, q.a1, p.k0, q.k1⟩] w fun e w' => e = .returned (.bool o1) ∧ Below w.heap.size w w')
    (HO2 : ∀ w, Calls Try.prog 28 #[sv s, pv q, pv ⟨p.a0, q.a1, p.k0, q.k1⟩] w fun e w' => e = .returned (.bool o2) ∧ Below w.heap.size w w') (w : World) : Calls Try.prog 30 #[sv s, pv p, pv q] w fun e w' => e = .returned (.tuple #[pv (if (o1 && o2) = true then ⟨p.a0, q.a1, p.k0, q.k1⟩ else pz), .bool (o1 && o2)]) ∧ Below w.heap.size w w' := by
  have i0 := ixa0
  have i1 := ixa1
  have t0 : decide (q.a0 < p.a0) = false := decide_eq_false g0
  have t1 : decide (q.a1 < p.a1) = true := decide_eq_true g1
  unfold pz kz
  unfold sv pv at *
  dsimp only at *
  obtain ⟨Rc, Rd, Re, Rr, hb0⟩ := four_rows w #[.int .i64 s.n, .int .i64 s.d0.kind, .int .i64 s.d0.side, .int .i64 s.d0.step, .int .i64 s.d1.kind, .int .i64 s.d1.side, .int .i64 s.d1.step] #[.int .i64 p.a0, .int .i64 p.a1, .int .i64 p.k0.kind, .int .i64 p.k0.len, .int .u64 p.k0.h, .int .u64 p.k0.l, .string ⟨p.k0.path.toArray⟩, .int .i64 p.k1.kind, .int .i64 p.k1.len, .int .u64 p.k1.h, .int .u64 p.k1.l, .string ⟨p.k1.path.toArray⟩] #[.int .i64 q.a0, .int .i64 q.a1, .int .i64 q.k0.kind, .int .i64 q.k0.len, .int .u64 q.k0.h, .int .u64 q.k0.l, .string ⟨q.k0.path.toArray⟩, .int .i64 q.k1.kind, .int .i64 q.k1.len, .int .u64 q.k1.h, .int .u64 q.k1.l, .string ⟨q.k1.path.toArray⟩] #[.int .i64 0, .int .i64 0, .int .i64 0, .int .i64 0, .int .u64 0, .int .u64 0, .string ⟨#[]⟩, .int .i64 0, .int .i64 0, .int .u64 0, .int .u64 0, .string ⟨#[]⟩] 26 33 33 33
  (try clear c0 c1 c2 c3 c4 c5 c6); obtain ⟨c0, c1, c2, c3, c4, c5, c6⟩ := row7 Rc
  (try clear d0 d1 d2 d3 d4 d5 d6 d7 d8 d9 d10 d11); obtain ⟨d0, d1, d2, d3, d4, d5, d6, d7, d8, d9, d10, d11⟩ := row12 Rd
  (try clear e0 e1 e2 e3 e4 e5 e6 e7 e8 e9 e10 e11); obtain ⟨e0, e1, e2, e3, e4, e5, e6, e7, e8, e9, e10, e11⟩ := row12 Re
  (try clear r0 r1 r2 r3 r4 r5 r6 r7 r8 r9 r10 r11); obtain ⟨r0, r1, r2, r3, r4, r5, r6, r7, r8, r9, r10, r11⟩ := row12 Rr
  go_enter Try.func30, Try.ntmps30
  go_wp2_with fail
  replace Rc := Rc.alloc (.cells #[Value.int .i64 p.a0, Value.int .i64 p.a1, Value.int .i64 p.k0.kind, Value.int .i64 p.k0.len, Value.int .u64 p.k0.h, Value.int .u64 p.k0.l, Value.string ⟨p.k0.path.toArray⟩, Value.int .i64 p.k1.kind, Value.int .i64 p.k1.len, Value.int .u64 p.k1.h, Value.int .u64 p.k1.l, Value.string ⟨p.k1.path.toArray⟩] 33)
  replace Rd := Rd.alloc (.cells #[Value.int .i64 p.a0, Value.int .i64 p.a1, Value.int .i64 p.k0.kind, Value.int .i64 p.k0.len, Value.int .u64 p.k0.h, Value.int .u64 p.k0.l, Value.string ⟨p.k0.path.toArray⟩, Value.int .i64 p.k1.kind, Value.int .i64 p.k1.len, Value.int .u64 p.k1.h, Value.int .u64 p.k1.l, Value.string ⟨p.k1.path.toArray⟩] 33)
  replace Re := Re.alloc (.cells #[Value.int .i64 p.a0, Value.int .i64 p.a1, Value.int .i64 p.k0.kind, Value.int .i64 p.k0.len, Value.int .u64 p.k0.h, Value.int .u64 p.k0.l, Value.string ⟨p.k0.path.toArray⟩, Value.int .i64 p.k1.kind, Value.int .i64 p.k1.len, Value.int .u64 p.k1.h, Value.int .u64 p.k1.l, Value.string ⟨p.k1.path.toArray⟩] 33)
  replace Rr := Rr.alloc (.cells #[Value.int .i64 p.a0, Value.int .i64 p.a1, Value.int .i64 p.k0.kind, Value.int .i64 p.k0.len, Value.int .u64 p.k0.h, Value.int .u64 p.k0.l, Value.string ⟨p.k0.path.toArray⟩, Value.int .i64 p.k1.kind, Value.int .i64 p.k1.len, Value.int .u64 p.k1.h, Value.int .u64 p.k1.l, Value.string ⟨p.k1.path.toArray⟩] 33)
  have Rx := Row.new (World.alloc (World.alloc (World.alloc (World.alloc w (.cells #[.int .i64 s.n, .int .i64 s.d0.kind, .int .i64 s.d0.side, .int .i64 s.d0.step, .int .i64 s.d1.kind, .int .i64 s.d1.side, .int .i64 s.d1.step] 26)) (.cells #[.int .i64 p.a0, .int .i64 p.a1, .int .i64 p.k0.kind, .int .i64 p.k0.len, .int .u64 p.k0.h, .int .u64 p.k0.l, .string ⟨p.k0.path.toArray⟩, .int .i64 p.k1.kind, .int .i64 p.k1.len, .int .u64 p.k1.h, .int .u64 p.k1.l, .string ⟨p.k1.path.toArray⟩] 33)) (.cells #[.int .i64 q.a0, .int .i64 q.a1, .int .i64 q.k0.kind, .int .i64 q.k0.len, .int .u64 q.k0.h, .int .u64 q.k0.l, .string ⟨q.k0.path.toArray⟩, .int .i64 q.k1.kind, .int .i64 q.k1.len, .int .u64 q.k1.h, .int .u64 q.k1.l, .string ⟨q.k1.path.toArray⟩] 33)) (.cells #[.int .i64 0, .int .i64 0, .int .i64 0, .int .i64 0, .int .u64 0, .int .u64 0, .string ⟨#[]⟩, .int .i64 0, .int .i64 0, .int .u64 0, .int .u64 0, .string ⟨#[]⟩] 33)) #[Value.int .i64 p.a0, Value.int .i64 p.a1, Value.int .i64 p.k0.kind, Value.int .i64 p.k0.len, Value.int .u64 p.k0.h, Value.int .u64 p.k0.l, Value.string ⟨p.k0.path.toArray⟩, Value.int .i64 p.k1.kind, Value.int .i64 p.k1.len, Value.int .u64 p.k1.h, Value.int .u64 p.k1.l, Value.string ⟨p.k1.path.toArray⟩] 33
  simp only [World.size_alloc] at Rx
  have mx := hb0.size
  replace hb0 := hb0.alloc hb0.size (.cells #[Value.int .i64 p.a0, Value.int .i64 p.a1, Value.int .i64 p.k0.kind, Value.int .i64 p.k0.len, Value.int .u64 p.k0.h, Value.int .u64 p.k0.l, Value.string ⟨p.k0.path.toArray⟩, Value.int .i64 p.k1.kind, Value.int .i64 p.k1.len, Value.int .u64 p.k1.h, Value.int .u64 p.k1.l, Value.string ⟨p.k1.path.toArray⟩] 33)
  (try clear c0 c1 c2 c3 c4 c5 c6); obtain ⟨c0, c1, c2, c3, c4, c5, c6⟩ := row7 Rc
  (try clear d0 d1 d2 d3 d4 d5 d6 d7 d8 d9 d10 d11); obtain ⟨d0, d1, d2, d3, d4, d5, d6, d7, d8, d9, d10, d11⟩ := row12 Rd
  (try clear e0 e1 e2 e3 e4 e5 e6 e7 e8 e9 e10 e11); obtain ⟨e0, e1, e2, e3, e4, e5, e6, e7, e8, e9, e10, e11⟩ := row12 Re
  (try clear r0 r1 r2 r3 r4 r5 r6 r7 r8 r9 r10 r11); obtain ⟨r0, r1, r2, r3, r4, r5, r6, r7, r8, r9, r10, r11⟩ := row12 Rr
  (try clear x0 x1 x2 x3 x4 x5 x6 x7 x8 x9 x10 x11); obtain ⟨x0, x1, x2, x3, x4, x5, x6, x7, x8, x9, x10, x11⟩ := row12 Rx
  refine wp_loop_rounds 3 ?_
  rw [rounds_succ]
  go_wp2_with fail
  rw [rounds_succ]
  go_wp2_with fail
  refine wp_region_held_drew (S := (fun w' => w'.cell? ⟨w.heap.size + 1 + 1, 7, none⟩ = some (Value.int .i64 q.k1.kind) ∧ w'.cell? ⟨w.heap.size + 1 + 1, 8, none⟩ = some (Value.int .i64 q.k1.len) ∧ w'.cell? ⟨w.heap.size + 1 + 1, 9, none⟩ = some (Value.int .u64 q.k1.h) ∧ w'.cell? ⟨w.heap.size + 1 + 1, 10, none⟩ = some (Value.int .u64 q.k1.l) ∧ w'.cell? ⟨w.heap.size + 1 + 1, 11, none⟩ = some (Value.string ⟨q.k1.path.toArray⟩))) (by kernel_rfl) ?hSr46_ (fun hHeld => ?_)
  case hSr46_ => (exact ⟨e7, e8, e9, e10, e11⟩)
  (clear c0 c1 c2 c3 c4 c5 c6 d0 d1 d2 d3 d4 d5 d6 d7 d8 d9 d10 d11 e0 e1 e2 e3 e4 e5 e6 e7 e8 e9 e10 e11 r0 r1 r2 r3 r4 r5 r6 r7 r8 r9 r10 r11 x0 x1 x2 x3 x4 x5 x6 x7 x8 x9 x10 x11; (replace Rc := Rc.drew); (replace Rd := Rd.drew); (replace Re := Re.drew); (replace Rr := Rr.drew); (replace Rx := Rx.drew); (replace hb0 := hb0.drew); (generalize World.drew (World.alloc (World.alloc (World.alloc (World.alloc (World.alloc w (.cells #[.int .i64 s.n, .int .i64 s.d0.kind, .int .i64 s.d0.side, .int .i64 s.d0.step, .int .i64 s.d1.kind, .int .i64 s.d1.side, .int .i64 s.d1.step] 26)) (.cells #[.int .i64 p.a0, .int .i64 p.a1, .int .i64 p.k0.kind, .int .i64 p.k0.len, .int .u64 p.k0.h, .int .u64 p.k0.l, .string ⟨p.k0.path.toArray⟩, .int .i64 p.k1.kind, .int .i64 p.k1.len, .int .u64 p.k1.h, .int .u64 p.k1.l, .string ⟨p.k1.path.toArray⟩] 33)) (.cells #[.int .i64 q.a0, .int .i64 q.a1, .int .i64 q.k0.kind, .int .i64 q.k0.len, .int .u64 q.k0.h, .int .u64 q.k0.l, .string ⟨q.k0.path.toArray⟩, .int .i64 q.k1.kind, .int .i64 q.k1.len, .int .u64 q.k1.h, .int .u64 q.k1.l, .string ⟨q.k1.path.toArray⟩] 33)) (.cells #[.int .i64 0, .int .i64 0, .int .i64 0, .int .i64 0, .int .u64 0, .int .u64 0, .string ⟨#[]⟩, .int .i64 0, .int .i64 0, .int .u64 0, .int .u64 0, .string ⟨#[]⟩] 33)) (.cells #[Value.int .i64 p.a0, Value.int .i64 p.a1, Value.int .i64 p.k0.kind, Value.int .i64 p.k0.len, Value.int .u64 p.k0.h, Value.int .u64 p.k0.l, Value.string ⟨p.k0.path.toArray⟩, Value.int .i64 p.k1.kind, Value.int .i64 p.k1.len, Value.int .u64 p.k1.h, Value.int .u64 p.k1.l, Value.string ⟨p.k1.path.toArray⟩] 33)) = wq at *))
  refine tk 0 ⟨some 24, .move (.tmp 9), 3, _, _, _⟩ hHeld ?_
  (try simp only [Act.put, nz1, nz2, nz3])
  refine tk 1 ⟨some 25, .move (.tmp 9), 3, _, _, _⟩ hHeld ?_
  (try simp only [Act.put, nz1, nz2, nz3])
  refine tk 2 ⟨some 26, .move (.tmp 10), 3, _, _, _⟩ hHeld ?_
  (try simp only [Act.put, nz1, nz2, nz3])
  refine tk 3 ⟨some 27, .move (.tmp 9), 3, _, _, _⟩ hHeld ?_
  (try simp only [Act.put, nz1, nz2, nz3])
  refine tk 4 ⟨some 28, .fieldAddr 33 (.tmp 5) 1, 0, _, _, _⟩ hHeld ?_
  (try simp only [Act.put, nz1, nz2, nz3])
  refine tk 5 ⟨some 29, .indexAddr 31 (.tmp 28) (.tmp 27), 0, _, _, _⟩ hHeld ?_
  (try simp only [Act.put, nz1, nz2, nz3])
  refine tk 6 ⟨some 30, .load 30 (.tmp 29), 30, _, _, _⟩ hHeld ?_
  (try simp only [Act.put, nz1, nz2, nz3])
  refine tk 7 ⟨some 31, .fieldAddr 33 (.tmp 8) 0, 0, _, _, _⟩ hHeld ?_
  (try simp only [Act.put, nz1, nz2, nz3])
  refine tk 8 ⟨some 32, .indexAddr 27 (.tmp 31) (.tmp 24), 0, _, _, _⟩ hHeld ?_
  (try simp only [Act.put, nz1, nz2, nz3])
  refine tk 10 ⟨some 33, .fieldAddr 33 (.tmp 8) 1, 0, _, _, _⟩ hHeld ?_
  (try simp only [Act.put, nz1, nz2, nz3])
  refine wpAnyH_ready (rs := [9]) (by kernel_rfl) (by simp) ?_
  refine AllReadyH.cons (o := ⟨none, .store 3 (.tmp 32) (.tmp 26), 0, _, _, _⟩) rfl (fun K hK => ?_) AllReadyH.nil
  ((obtain ⟨zd0, zc0, zd2, zd3, zd4, zd5, zd6, zd7, zd8, zd9, zd10, zd11⟩ := row12 Rx); (have zf0 := Rx.frozen 1); (have hHq := hHeld); (obtain ⟨e7, e8, e9, e10, e11⟩ := hHq); go_simp; clear zc0 zf0 zd0 zd2 zd3 zd4 zd5 zd6 zd7 zd8 zd9 zd10 zd11; (replace e7 := pcell_far (g := (w.heap.size + 1 + 1 + 1 + 1)) (o := 1) (vs := [Value.int .i64 q.a1]) e7 (by first | omega | (simp; done) | (simp; omega) | omega)); (replace e8 := pcell_far (g := (w.heap.size + 1 + 1 + 1 + 1)) (o := 1) (vs := [Value.int .i64 q.a1]) e8 (by first | omega | (simp; done) | (simp; omega) | omega)); (replace e9 := pcell_far (g := (w.heap.size + 1 + 1 + 1 + 1)) (o := 1) (vs := [Value.int .i64 q.a1]) e9 (by first | omega | (simp; done) | (simp; omega) | omega)); (replace e10 := pcell_far (g := (w.heap.size + 1 + 1 + 1 + 1)) (o := 1) (vs := [Value.int .i64 q.a1]) e10 (by first | omega | (simp; done) | (simp; omega) | omega)); (replace e11 := pcell_far (g := (w.heap.size + 1 + 1 + 1 + 1)) (o := 1) (vs := [Value.int .i64 q.a1]) e11 (by first | omega | (simp; done) | (simp; omega) | omega)); (replace Rc := prow_far (g := (w.heap.size + 1 + 1 + 1 + 1)) (o := 1) (vs := [Value.int .i64 q.a1]) Rc (by first | omega | (simp; done) | (simp; omega) | omega)); (replace Rd := prow_far (g := (w.heap.size + 1 + 1 + 1 + 1)) (o := 1) (vs := [Value.int .i64 q.a1]) Rd (by first | omega | (simp; done) | (simp; omega) | omega)); (replace Re := prow_far (g := (w.heap.size + 1 + 1 + 1 + 1)) (o := 1) (vs := [Value.int .i64 q.a1]) Re (by first | omega | (simp; done) | (simp; omega) | omega)); (replace Rr := prow_far (g := (w.heap.size + 1 + 1 + 1 + 1)) (o := 1) (vs := [Value.int .i64 q.a1]) Rr (by first | omega | (simp; done) | (simp; omega) | omega)); (replace hb0 := below_setCells (g := (w.heap.size + 1 + 1 + 1 + 1)) (by omega) [Value.int .i64 q.a1] 1 _ hb0); (replace Rx : Row (World.setCells wq (w.heap.size + 1 + 1 + 1 + 1) 1 [Value.int .i64 q.a1]) (w.heap.size + 1 + 1 + 1 + 1) #[.int .i64 p.a0, .int .i64 q.a1, .int .i64 p.k0.kind, .int .i64 p.k0.len, .int .u64 p.k0.h, .int .u64 p.k0.l, .string ⟨p.k0.path.toArray⟩, .int .i64 p.k1.kind, .int .i64 p.k1.len, .int .u64 p.k1.h, .int .u64 p.k1.l, .string ⟨p.k1.path.toArray⟩] 33 := Row.setMany Rx 1 [Value.int .i64 q.a1] (by simp [setL])); (simp only [World.setCells] at Rc Rd Re Rr Rx e7 e8 e9 e10 e11 hb0); generalize (World.setCell wq ⟨(w.heap.size + 1 + 1 + 1 + 1), 1, none⟩ (Value.int .i64 q.a1)) = wz at *)
  refine hK.out _ _ ?hSr46_11_9 (fun hHeld2 => ?_)
  case hSr46_11_9 => (exact ⟨e7, e8, e9, e10, e11⟩)
  clear hK K hHeld
  have hHeld := hHeld2
  clear hHeld2
  rename World => wq
  (try simp only [Act.put, nz1, nz2, nz3])
  refine tk 11 ⟨some 34, .indexAddr 31 (.tmp 33) (.tmp 25), 0, _, _, _⟩ hHeld ?_
  (try simp only [Act.put, nz1, nz2, nz3])
  refine wpAnyH_ready (rs := [12]) (by kernel_rfl) (by simp) ?_
  refine AllReadyH.cons (o := ⟨none, .store 30 (.tmp 34) (.tmp 30), 0, _, _, _⟩) rfl (fun K hK => ?_) AllReadyH.nil
  ((obtain ⟨zd0, zd1, zd2, zd3, zd4, zd5, zd6, zc0, zc1, zc2, zc3, zc4⟩ := row12 Rx); (have zf0 := Rx.frozen 7); (have zf1 := Rx.frozen 8); (have zf2 := Rx.frozen 9); (have zf3 := Rx.frozen 10); (have zf4 := Rx.frozen 11); (have hHq := hHeld); (obtain ⟨e7, e8, e9, e10, e11⟩ := hHq); go_simp; clear zc0 zf0 zc1 zf1 zc2 zf2 zc3 zf3 zc4 zf4 zd0 zd1 zd2 zd3 zd4 zd5 zd6; (replace e7 := pcell_far (g := (w.heap.size + 1 + 1 + 1 + 1)) (o := 7) (vs := [Value.int .i64 q.k1.kind, Value.int .i64 q.k1.len, Value.int .u64 q.k1.h, Value.int .u64 q.k1.l, Value.string ⟨q.k1.path.toArray⟩]) e7 (by first | omega | (simp; done) | (simp; omega) | omega)); (replace e8 := pcell_far (g := (w.heap.size + 1 + 1 + 1 + 1)) (o := 7) (vs := [Value.int .i64 q.k1.kind, Value.int .i64 q.k1.len, Value.int .u64 q.k1.h, Value.int .u64 q.k1.l, Value.string ⟨q.k1.path.toArray⟩]) e8 (by first | omega | (simp; done) | (simp; omega) | omega)); (replace e9 := pcell_far (g := (w.heap.size + 1 + 1 + 1 + 1)) (o := 7) (vs := [Value.int .i64 q.k1.kind, Value.int .i64 q.k1.len, Value.int .u64 q.k1.h, Value.int .u64 q.k1.l, Value.string ⟨q.k1.path.toArray⟩]) e9 (by first | omega | (simp; done) | (simp; omega) | omega)); (replace e10 := pcell_far (g := (w.heap.size + 1 + 1 + 1 + 1)) (o := 7) (vs := [Value.int .i64 q.k1.kind, Value.int .i64 q.k1.len, Value.int .u64 q.k1.h, Value.int .u64 q.k1.l, Value.string ⟨q.k1.path.toArray⟩]) e10 (by first | omega | (simp; done) | (simp; omega) | omega)); (replace e11 := pcell_far (g := (w.heap.size + 1 + 1 + 1 + 1)) (o := 7) (vs := [Value.int .i64 q.k1.kind, Value.int .i64 q.k1.len, Value.int .u64 q.k1.h, Value.int .u64 q.k1.l, Value.string ⟨q.k1.path.toArray⟩]) e11 (by first | omega | (simp; done) | (simp; omega) | omega)); (replace Rc := prow_far (g := (w.heap.size + 1 + 1 + 1 + 1)) (o := 7) (vs := [Value.int .i64 q.k1.kind, Value.int .i64 q.k1.len, Value.int .u64 q.k1.h, Value.int .u64 q.k1.l, Value.string ⟨q.k1.path.toArray⟩]) Rc (by first | omega | (simp; done) | (simp; omega) | omega)); (replace Rd := prow_far (g := (w.heap.size + 1 + 1 + 1 + 1)) (o := 7) (vs := [Value.int .i64 q.k1.kind, Value.int .i64 q.k1.len, Value.int .u64 q.k1.h, Value.int .u64 q.k1.l, Value.string ⟨q.k1.path.toArray⟩]) Rd (by first | omega | (simp; done) | (simp; omega) | omega)); (replace Re := prow_far (g := (w.heap.size + 1 + 1 + 1 + 1)) (o := 7) (vs := [Value.int .i64 q.k1.kind, Value.int .i64 q.k1.len, Value.int .u64 q.k1.h, Value.int .u64 q.k1.l, Value.string ⟨q.k1.path.toArray⟩]) Re (by first | omega | (simp; done) | (simp; omega) | omega)); (replace Rr := prow_far (g := (w.heap.size + 1 + 1 + 1 + 1)) (o := 7) (vs := [Value.int .i64 q.k1.kind, Value.int .i64 q.k1.len, Value.int .u64 q.k1.h, Value.int .u64 q.k1.l, Value.string ⟨q.k1.path.toArray⟩]) Rr (by first | omega | (simp; done) | (simp; omega) | omega)); (replace hb0 := below_setCells (g := (w.heap.size + 1 + 1 + 1 + 1)) (by omega) [Value.int .i64 q.k1.kind, Value.int .i64 q.k1.len, Value.int .u64 q.k1.h, Value.int .u64 q.k1.l, Value.string ⟨q.k1.path.toArray⟩] 7 _ hb0); (replace Rx : Row (World.setCells wq (w.heap.size + 1 + 1 + 1 + 1) 7 [Value.int .i64 q.k1.kind, Value.int .i64 q.k1.len, Value.int .u64 q.k1.h, Value.int .u64 q.k1.l, Value.string ⟨q.k1.path.toArray⟩]) (w.heap.size + 1 + 1 + 1 + 1) #[.int .i64 p.a0, .int .i64 q.a1, .int .i64 p.k0.kind, .int .i64 p.k0.len, .int .u64 p.k0.h, .int .u64 p.k0.l, .string ⟨p.k0.path.toArray⟩, .int .i64 q.k1.kind, .int .i64 q.k1.len, .int .u64 q.k1.h, .int .u64 q.k1.l, .string ⟨q.k1.path.toArray⟩] 33 := Row.setMany Rx 7 [Value.int .i64 q.k1.kind, Value.int .i64 q.k1.len, Value.int .u64 q.k1.h, Value.int .u64 q.k1.l, Value.string ⟨q.k1.path.toArray⟩] (by simp [setL])); (simp only [World.setCells] at Rc Rd Re Rr Rx e7 e8 e9 e10 e11 hb0); generalize (World.setCell (World.setCell (World.setCell (World.setCell (World.setCell wq ⟨(w.heap.size + 1 + 1 + 1 + 1), 7, none⟩ (Value.int .i64 q.k1.kind)) ⟨(w.heap.size + 1 + 1 + 1 + 1), 8, none⟩ (Value.int .i64 q.k1.len)) ⟨(w.heap.size + 1 + 1 + 1 + 1), 9, none⟩ (Value.int .u64 q.k1.h)) ⟨(w.heap.size + 1 + 1 + 1 + 1), 10, none⟩ (Value.int .u64 q.k1.l)) ⟨(w.heap.size + 1 + 1 + 1 + 1), 11, none⟩ (Value.string ⟨q.k1.path.toArray⟩)) = wz at *)
  refine hK.out _ _ ?hSr46_13_12 (fun hHeld2 => ?_)
  case hSr46_13_12 => (exact ⟨e7, e8, e9, e10, e11⟩)
  clear hK K hHeld
  have hHeld := hHeld2
  clear hHeld2
  rename World => wq
  (try simp only [Act.put, nz1, nz2, nz3])
  refine wpAnyH_done (by kernel_rfl) ?_ _
  clear hHeld
  rename World => w1
  have lc := Rc.lt
  have ld := Rd.lt
  have le := Re.lt
  have lr := Rr.lt
  have lx := Rx.lt
  (try clear c0 c1 c2 c3 c4 c5 c6); obtain ⟨c0, c1, c2, c3, c4, c5, c6⟩ := row7 Rc
  (try clear d0 d1 d2 d3 d4 d5 d6 d7 d8 d9 d10 d11); obtain ⟨d0, d1, d2, d3, d4, d5, d6, d7, d8, d9, d10, d11⟩ := row12 Rd
  (try clear e0 e1 e2 e3 e4 e5 e6 e7 e8 e9 e10 e11); obtain ⟨e0, e1, e2, e3, e4, e5, e6, e7, e8, e9, e10, e11⟩ := row12 Re
  (try clear r0 r1 r2 r3 r4 r5 r6 r7 r8 r9 r10 r11); obtain ⟨r0, r1, r2, r3, r4, r5, r6, r7, r8, r9, r10, r11⟩ := row12 Rr
  (try clear x0 x1 x2 x3 x4 x5 x6 x7 x8 x9 x10 x11); obtain ⟨x0, x1, x2, x3, x4, x5, x6, x7, x8, x9, x10, x11⟩ := row12 Rx
  go_wp2_with fail
  rw [rounds_succ]
  cases o1 with
  | false =>
    go_wp2_with fail
    refine (HO1 _).mono ?_
    rintro e w2 ⟨rfl, hb⟩
    replace Rc := Rc.later hb
    replace Rd := Rd.later hb
    replace Re := Re.later hb
    replace Rr := Rr.later hb
    replace Rx := Rx.later hb
    replace hb0 := below_step hb0 hb
    clear hb
    have lc := Rc.lt
    have ld := Rd.lt
    have le := Re.lt
    have lr := Rr.lt
    have lx := Rx.lt
    (try clear c0 c1 c2 c3 c4 c5 c6); obtain ⟨c0, c1, c2, c3, c4, c5, c6⟩ := row7 Rc
    (try clear d0 d1 d2 d3 d4 d5 d6 d7 d8 d9 d10 d11); obtain ⟨d0, d1, d2, d3, d4, d5, d6, d7, d8, d9, d10, d11⟩ := row12 Rd
    (try clear e0 e1 e2 e3 e4 e5 e6 e7 e8 e9 e10 e11); obtain ⟨e0, e1, e2, e3, e4, e5, e6, e7, e8, e9, e10, e11⟩ := row12 Re
    (try clear r0 r1 r2 r3 r4 r5 r6 r7 r8 r9 r10 r11); obtain ⟨r0, r1, r2, r3, r4, r5, r6, r7, r8, r9, r10, r11⟩ := row12 Rr
    (try clear x0 x1 x2 x3 x4 x5 x6 x7 x8 x9 x10 x11); obtain ⟨x0, x1, x2, x3, x4, x5, x6, x7, x8, x9, x10, x11⟩ := row12 Rx
    have rf0 := Rr.frozen 0
    have rf1 := Rr.frozen 1
    have rf2 := Rr.frozen 2
    have rf3 := Rr.frozen 3
    have rf4 := Rr.frozen 4
    have rf5 := Rr.frozen 5
    have rf6 := Rr.frozen 6
    have rf7 := Rr.frozen 7
    have rf8 := Rr.frozen 8
    have rf9 := Rr.frozen 9
    have rf10 := Rr.frozen 10
    have rf11 := Rr.frozen 11
    go_wp2
    clear c0 c1 c2 c3 c4 c5 c6
    clear d0 d1 d2 d3 d4 d5 d6 d7 d8 d9 d10 d11
    clear e0 e1 e2 e3 e4 e5 e6 e7 e8 e9 e10 e11
    obtain ⟨w3, hwn⟩ : ∃ wz, wz = (World.setCell (World.setCell (World.setCell (World.setCell (World.setCell (World.setCell (World.setCell (World.setCell (World.setCell (World.setCell (World.setCell (World.setCell w2 ⟨(w.heap.size + 1 + 1 + 1), 0, none⟩ (.int .i64 0)) ⟨(w.heap.size + 1 + 1 + 1), 1, none⟩ (.int .i64 0)) ⟨(w.heap.size + 1 + 1 + 1), 2, none⟩ (.int .i64 0)) ⟨(w.heap.size + 1 + 1 + 1), 3, none⟩ (.int .i64 0)) ⟨(w.heap.size + 1 + 1 + 1), 4, none⟩ (.int .u64 0)) ⟨(w.heap.size + 1 + 1 + 1), 5, none⟩ (.int .u64 0)) ⟨(w.heap.size + 1 + 1 + 1), 6, none⟩ (.string ⟨#[]⟩)) ⟨(w.heap.size + 1 + 1 + 1), 7, none⟩ (.int .i64 0)) ⟨(w.heap.size + 1 + 1 + 1), 8, none⟩ (.int .i64 0)) ⟨(w.heap.size + 1 + 1 + 1), 9, none⟩ (.int .u64 0)) ⟨(w.heap.size + 1 + 1 + 1), 10, none⟩ (.int .u64 0)) ⟨(w.heap.size + 1 + 1 + 1), 11, none⟩ (.string ⟨#[]⟩)) := ⟨_, rfl⟩
    rw [← hwn]
    replace hwn : w3 = World.setCells w2 (w.heap.size + 1 + 1 + 1) 0 [.int .i64 0, .int .i64 0, .int .i64 0, .int .i64 0, .int .u64 0, .int .u64 0, .string ⟨#[]⟩, .int .i64 0, .int .i64 0, .int .u64 0, .int .u64 0, .string ⟨#[]⟩] := hwn
    replace Rr : Row w3 (w.heap.size + 1 + 1 + 1) #[.int .i64 0, .int .i64 0, .int .i64 0, .int .i64 0, .int .u64 0, .int .u64 0, .string ⟨#[]⟩, .int .i64 0, .int .i64 0, .int .u64 0, .int .u64 0, .string ⟨#[]⟩] 33 := psm hwn Rr (by simp [setL])
    replace Rc := prf hwn Rc
    replace Rd := prf hwn Rd
    replace Re := prf hwn Re
    replace Rx := prf hwn Rx
    replace hb0 := pbl hwn hb0
    clear hwn r0 r1 r2 r3 r4 r5 r6 r7 r8 r9 r10 r11 x0 x1 x2 x3 x4 x5 x6 x7 x8 x9 x10 x11
    (try clear rf0 rf1 rf2 rf3 rf4 rf5 rf6 rf7 rf8 rf9 rf10 rf11)
    (try clear r0 r1 r2 r3 r4 r5 r6 r7 r8 r9 r10 r11); obtain ⟨r0, r1, r2, r3, r4, r5, r6, r7, r8, r9, r10, r11⟩ := row12 Rr
    (try clear x0 x1 x2 x3 x4 x5 x6 x7 x8 x9 x10 x11); obtain ⟨x0, x1, x2, x3, x4, x5, x6, x7, x8, x9, x10, x11⟩ := row12 Rx
    refine bodyPost_ret (v := .tuple #[.agg #[.int .i64 0, .int .i64 0, .int .i64 0, .int .i64 0, .int .u64 0, .int .u64 0, .string ⟨#[]⟩, .int .i64 0, .int .i64 0, .int .u64 0, .int .u64 0, .string ⟨#[]⟩], .bool false]) (by simp [results, Try.results30, go_sem, r0, r1, r2, r3, r4, r5, r6, r7, r8, r9, r10, r11]) rfl ⟨rfl, hb0⟩
  | true =>
    cases o2 with
    | false =>
      go_wp2_with fail
      refine (HO1 _).mono ?_
      rintro e w2 ⟨rfl, hb⟩
      replace Rc := Rc.later hb
      replace Rd := Rd.later hb
      replace Re := Re.later hb
      replace Rr := Rr.later hb
      replace Rx := Rx.later hb
      replace hb0 := below_step hb0 hb
      clear hb
      have lc := Rc.lt
      have ld := Rd.lt
      have le := Re.lt
      have lr := Rr.lt
      have lx := Rx.lt
      (try clear c0 c1 c2 c3 c4 c5 c6); obtain ⟨c0, c1, c2, c3, c4, c5, c6⟩ := row7 Rc
      (try clear d0 d1 d2 d3 d4 d5 d6 d7 d8 d9 d10 d11); obtain ⟨d0, d1, d2, d3, d4, d5, d6, d7, d8, d9, d10, d11⟩ := row12 Rd
      (try clear e0 e1 e2 e3 e4 e5 e6 e7 e8 e9 e10 e11); obtain ⟨e0, e1, e2, e3, e4, e5, e6, e7, e8, e9, e10, e11⟩ := row12 Re
      (try clear r0 r1 r2 r3 r4 r5 r6 r7 r8 r9 r10 r11); obtain ⟨r0, r1, r2, r3, r4, r5, r6, r7, r8, r9, r10, r11⟩ := row12 Rr
      (try clear x0 x1 x2 x3 x4 x5 x6 x7 x8 x9 x10 x11); obtain ⟨x0, x1, x2, x3, x4, x5, x6, x7, x8, x9, x10, x11⟩ := row12 Rx
      go_wp2_with fail
      refine (HO2 _).mono ?_
      rintro e w3 ⟨rfl, hb⟩
      replace Rc := Rc.later hb
      replace Rd := Rd.later hb
      replace Re := Re.later hb
      replace Rr := Rr.later hb
      replace Rx := Rx.later hb
      replace hb0 := below_step hb0 hb
      clear hb
      have lc := Rc.lt
      have ld := Rd.lt
      have le := Re.lt
      have lr := Rr.lt
      have lx := Rx.lt
      (try clear c0 c1 c2 c3 c4 c5 c6); obtain ⟨c0, c1, c2, c3, c4, c5, c6⟩ := row7 Rc
      (try clear d0 d1 d2 d3 d4 d5 d6 d7 d8 d9 d10 d11); obtain ⟨d0, d1, d2, d3, d4, d5, d6, d7, d8, d9, d10, d11⟩ := row12 Rd
      (try clear e0 e1 e2 e3 e4 e5 e6 e7 e8 e9 e10 e11); obtain ⟨e0, e1, e2, e3, e4, e5, e6, e7, e8, e9, e10, e11⟩ := row12 Re
      (try clear r0 r1 r2 r3 r4 r5 r6 r7 r8 r9 r10 r11); obtain ⟨r0, r1, r2, r3, r4, r5, r6, r7, r8, r9, r10, r11⟩ := row12 Rr
      (try clear x0 x1 x2 x3 x4 x5 x6 x7 x8 x9 x10 x11); obtain ⟨x0, x1, x2, x3, x4, x5, x6, x7, x8, x9, x10, x11⟩ := row12 Rx
      have rf0 := Rr.frozen 0
      have rf1 := Rr.frozen 1
      have rf2 := Rr.frozen 2
      have rf3 := Rr.frozen 3
      have rf4 := Rr.frozen 4
      have rf5 := Rr.frozen 5
      have rf6 := Rr.frozen 6
      have rf7 := Rr.frozen 7
      have rf8 := Rr.frozen 8
      have rf9 := Rr.frozen 9
      have rf10 := Rr.frozen 10
      have rf11 := Rr.frozen 11
      go_wp2
      clear c0 c1 c2 c3 c4 c5 c6
      clear d0 d1 d2 d3 d4 d5 d6 d7 d8 d9 d10 d11
      clear e0 e1 e2 e3 e4 e5 e6 e7 e8 e9 e10 e11
      obtain ⟨w4, hwn⟩ : ∃ wz, wz = (World.setCell (World.setCell (World.setCell (World.setCell (World.setCell (World.setCell (World.setCell (World.setCell (World.setCell (World.setCell (World.setCell (World.setCell w3 ⟨(w.heap.size + 1 + 1 + 1), 0, none⟩ (.int .i64 0)) ⟨(w.heap.size + 1 + 1 + 1), 1, none⟩ (.int .i64 0)) ⟨(w.heap.size + 1 + 1 + 1), 2, none⟩ (.int .i64 0)) ⟨(w.heap.size + 1 + 1 + 1), 3, none⟩ (.int .i64 0)) ⟨(w.heap.size + 1 + 1 + 1), 4, none⟩ (.int .u64 0)) ⟨(w.heap.size + 1 + 1 + 1), 5, none⟩ (.int .u64 0)) ⟨(w.heap.size + 1 + 1 + 1), 6, none⟩ (.string ⟨#[]⟩)) ⟨(w.heap.size + 1 + 1 + 1), 7, none⟩ (.int .i64 0)) ⟨(w.heap.size + 1 + 1 + 1), 8, none⟩ (.int .i64 0)) ⟨(w.heap.size + 1 + 1 + 1), 9, none⟩ (.int .u64 0)) ⟨(w.heap.size + 1 + 1 + 1), 10, none⟩ (.int .u64 0)) ⟨(w.heap.size + 1 + 1 + 1), 11, none⟩ (.string ⟨#[]⟩)) := ⟨_, rfl⟩
      rw [← hwn]
      replace hwn : w4 = World.setCells w3 (w.heap.size + 1 + 1 + 1) 0 [.int .i64 0, .int .i64 0, .int .i64 0, .int .i64 0, .int .u64 0, .int .u64 0, .string ⟨#[]⟩, .int .i64 0, .int .i64 0, .int .u64 0, .int .u64 0, .string ⟨#[]⟩] := hwn
      replace Rr : Row w4 (w.heap.size + 1 + 1 + 1) #[.int .i64 0, .int .i64 0, .int .i64 0, .int .i64 0, .int .u64 0, .int .u64 0, .string ⟨#[]⟩, .int .i64 0, .int .i64 0, .int .u64 0, .int .u64 0, .string ⟨#[]⟩] 33 := psm hwn Rr (by simp [setL])
      replace Rc := prf hwn Rc
      replace Rd := prf hwn Rd
      replace Re := prf hwn Re
      replace Rx := prf hwn Rx
      replace hb0 := pbl hwn hb0
      clear hwn r0 r1 r2 r3 r4 r5 r6 r7 r8 r9 r10 r11 x0 x1 x2 x3 x4 x5 x6 x7 x8 x9 x10 x11
      (try clear rf0 rf1 rf2 rf3 rf4 rf5 rf6 rf7 rf8 rf9 rf10 rf11)
      (try clear r0 r1 r2 r3 r4 r5 r6 r7 r8 r9 r10 r11); obtain ⟨r0, r1, r2, r3, r4, r5, r6, r7, r8, r9, r10, r11⟩ := row12 Rr
      (try clear x0 x1 x2 x3 x4 x5 x6 x7 x8 x9 x10 x11); obtain ⟨x0, x1, x2, x3, x4, x5, x6, x7, x8, x9, x10, x11⟩ := row12 Rx
      refine bodyPost_ret (v := .tuple #[.agg #[.int .i64 0, .int .i64 0, .int .i64 0, .int .i64 0, .int .u64 0, .int .u64 0, .string ⟨#[]⟩, .int .i64 0, .int .i64 0, .int .u64 0, .int .u64 0, .string ⟨#[]⟩], .bool false]) (by simp [results, Try.results30, go_sem, r0, r1, r2, r3, r4, r5, r6, r7, r8, r9, r10, r11]) rfl ⟨rfl, hb0⟩
    | true =>
      go_wp2_with fail
      refine (HO1 _).mono ?_
      rintro e w2 ⟨rfl, hb⟩
      replace Rc := Rc.later hb
      replace Rd := Rd.later hb
      replace Re := Re.later hb
      replace Rr := Rr.later hb
      replace Rx := Rx.later hb
      replace hb0 := below_step hb0 hb
      clear hb
      have lc := Rc.lt
      have ld := Rd.lt
      have le := Re.lt
      have lr := Rr.lt
      have lx := Rx.lt
      (try clear c0 c1 c2 c3 c4 c5 c6); obtain ⟨c0, c1, c2, c3, c4, c5, c6⟩ := row7 Rc
      (try clear d0 d1 d2 d3 d4 d5 d6 d7 d8 d9 d10 d11); obtain ⟨d0, d1, d2, d3, d4, d5, d6, d7, d8, d9, d10, d11⟩ := row12 Rd
      (try clear e0 e1 e2 e3 e4 e5 e6 e7 e8 e9 e10 e11); obtain ⟨e0, e1, e2, e3, e4, e5, e6, e7, e8, e9, e10, e11⟩ := row12 Re
      (try clear r0 r1 r2 r3 r4 r5 r6 r7 r8 r9 r10 r11); obtain ⟨r0, r1, r2, r3, r4, r5, r6, r7, r8, r9, r10, r11⟩ := row12 Rr
      (try clear x0 x1 x2 x3 x4 x5 x6 x7 x8 x9 x10 x11); obtain ⟨x0, x1, x2, x3, x4, x5, x6, x7, x8, x9, x10, x11⟩ := row12 Rx
      go_wp2_with fail
      refine (HO2 _).mono ?_
      rintro e w3 ⟨rfl, hb⟩
      replace Rc := Rc.later hb
      replace Rd := Rd.later hb
      replace Re := Re.later hb
      replace Rr := Rr.later hb
      replace Rx := Rx.later hb
      replace hb0 := below_step hb0 hb
      clear hb
      have lc := Rc.lt
      have ld := Rd.lt
      have le := Re.lt
      have lr := Rr.lt
      have lx := Rx.lt
      (try clear c0 c1 c2 c3 c4 c5 c6); obtain ⟨c0, c1, c2, c3, c4, c5, c6⟩ := row7 Rc
      (try clear d0 d1 d2 d3 d4 d5 d6 d7 d8 d9 d10 d11); obtain ⟨d0, d1, d2, d3, d4, d5, d6, d7, d8, d9, d10, d11⟩ := row12 Rd
      (try clear e0 e1 e2 e3 e4 e5 e6 e7 e8 e9 e10 e11); obtain ⟨e0, e1, e2, e3, e4, e5, e6, e7, e8, e9, e10, e11⟩ := row12 Re
      (try clear r0 r1 r2 r3 r4 r5 r6 r7 r8 r9 r10 r11); obtain ⟨r0, r1, r2, r3, r4, r5, r6, r7, r8, r9, r10, r11⟩ := row12 Rr
      (try clear x0 x1 x2 x3 x4 x5 x6 x7 x8 x9 x10 x11); obtain ⟨x0, x1, x2, x3, x4, x5, x6, x7, x8, x9, x10, x11⟩ := row12 Rx
      have rf0 := Rr.frozen 0
      have rf1 := Rr.frozen 1
      have rf2 := Rr.frozen 2
      have rf3 := Rr.frozen 3
      have rf4 := Rr.frozen 4
      have rf5 := Rr.frozen 5
      have rf6 := Rr.frozen 6
      have rf7 := Rr.frozen 7
      have rf8 := Rr.frozen 8
      have rf9 := Rr.frozen 9
      have rf10 := Rr.frozen 10
      have rf11 := Rr.frozen 11
      go_wp2
      clear c0 c1 c2 c3 c4 c5 c6
      clear d0 d1 d2 d3 d4 d5 d6 d7 d8 d9 d10 d11
      clear e0 e1 e2 e3 e4 e5 e6 e7 e8 e9 e10 e11
      obtain ⟨w4, hwn⟩ : ∃ wz, wz = (World.setCell (World.setCell (World.setCell (World.setCell (World.setCell (World.setCell (World.setCell (World.setCell (World.setCell (World.setCell (World.setCell (World.setCell w3 ⟨(w.heap.size + 1 + 1 + 1), 0, none⟩ (.int .i64 p.a0)) ⟨(w.heap.size + 1 + 1 + 1), 1, none⟩ (.int .i64 q.a1)) ⟨(w.heap.size + 1 + 1 + 1), 2, none⟩ (.int .i64 p.k0.kind)) ⟨(w.heap.size + 1 + 1 + 1), 3, none⟩ (.int .i64 p.k0.len)) ⟨(w.heap.size + 1 + 1 + 1), 4, none⟩ (.int .u64 p.k0.h)) ⟨(w.heap.size + 1 + 1 + 1), 5, none⟩ (.int .u64 p.k0.l)) ⟨(w.heap.size + 1 + 1 + 1), 6, none⟩ (.string ⟨p.k0.path.toArray⟩)) ⟨(w.heap.size + 1 + 1 + 1), 7, none⟩ (.int .i64 q.k1.kind)) ⟨(w.heap.size + 1 + 1 + 1), 8, none⟩ (.int .i64 q.k1.len)) ⟨(w.heap.size + 1 + 1 + 1), 9, none⟩ (.int .u64 q.k1.h)) ⟨(w.heap.size + 1 + 1 + 1), 10, none⟩ (.int .u64 q.k1.l)) ⟨(w.heap.size + 1 + 1 + 1), 11, none⟩ (.string ⟨q.k1.path.toArray⟩)) := ⟨_, rfl⟩
      rw [← hwn]
      replace hwn : w4 = World.setCells w3 (w.heap.size + 1 + 1 + 1) 0 [.int .i64 p.a0, .int .i64 q.a1, .int .i64 p.k0.kind, .int .i64 p.k0.len, .int .u64 p.k0.h, .int .u64 p.k0.l, .string ⟨p.k0.path.toArray⟩, .int .i64 q.k1.kind, .int .i64 q.k1.len, .int .u64 q.k1.h, .int .u64 q.k1.l, .string ⟨q.k1.path.toArray⟩] := hwn
      replace Rr : Row w4 (w.heap.size + 1 + 1 + 1) #[.int .i64 p.a0, .int .i64 q.a1, .int .i64 p.k0.kind, .int .i64 p.k0.len, .int .u64 p.k0.h, .int .u64 p.k0.l, .string ⟨p.k0.path.toArray⟩, .int .i64 q.k1.kind, .int .i64 q.k1.len, .int .u64 q.k1.h, .int .u64 q.k1.l, .string ⟨q.k1.path.toArray⟩] 33 := psm hwn Rr (by simp [setL])
      replace Rc := prf hwn Rc
      replace Rd := prf hwn Rd
      replace Re := prf hwn Re
      replace Rx := prf hwn Rx
      replace hb0 := pbl hwn hb0
      clear hwn r0 r1 r2 r3 r4 r5 r6 r7 r8 r9 r10 r11 x0 x1 x2 x3 x4 x5 x6 x7 x8 x9 x10 x11
      (try clear rf0 rf1 rf2 rf3 rf4 rf5 rf6 rf7 rf8 rf9 rf10 rf11)
      (try clear r0 r1 r2 r3 r4 r5 r6 r7 r8 r9 r10 r11); obtain ⟨r0, r1, r2, r3, r4, r5, r6, r7, r8, r9, r10, r11⟩ := row12 Rr
      (try clear x0 x1 x2 x3 x4 x5 x6 x7 x8 x9 x10 x11); obtain ⟨x0, x1, x2, x3, x4, x5, x6, x7, x8, x9, x10, x11⟩ := row12 Rx
      refine bodyPost_ret (v := .tuple #[.agg #[.int .i64 p.a0, .int .i64 q.a1, .int .i64 p.k0.kind, .int .i64 p.k0.len, .int .u64 p.k0.h, .int .u64 p.k0.l, .string ⟨p.k0.path.toArray⟩, .int .i64 q.k1.kind, .int .i64 q.k1.len, .int .u64 q.k1.h, .int .u64 q.k1.l, .string ⟨q.k1.path.toArray⟩], .bool true]) (by simp [results, Try.results30, go_sem, r0, r1, r2, r3, r4, r5, r6, r7, r8, r9, r10, r11]) rfl ⟨rfl, hb0⟩
set_option maxRecDepth 100000 in
theorem cross_10 (s : Sp) (p q : Px) (o1 o2 : Bool) (g0 : q.a0 < p.a0) (g1 : ¬ q.a1 < p.a1) (HO1 : ∀ w, Calls Try.prog 28 #[sv s, pv p, pv ⟨q.a0, p.a1, q.k0, p.k1⟩] w fun e w' => e = .returned (.bool o1) ∧ Below w.heap.size w w')
    (HO2 : ∀ w, Calls Try.prog 28 #[sv s, pv q, pv ⟨q.a0, p.a1, q.k0, p.k1⟩] w fun e w' => e = .returned (.bool o2) ∧ Below w.heap.size w w') (w : World) : Calls Try.prog 30 #[sv s, pv p, pv q] w fun e w' => e = .returned (.tuple #[pv (if (o1 && o2) = true then ⟨q.a0, p.a1, q.k0, p.k1⟩ else pz), .bool (o1 && o2)]) ∧ Below w.heap.size w w' := by
  have i0 := ixa0
  have i1 := ixa1
  have t0 : decide (q.a0 < p.a0) = true := decide_eq_true g0
  have t1 : decide (q.a1 < p.a1) = false := decide_eq_false g1
  unfold pz kz
  unfold sv pv at *
  dsimp only at *
  obtain ⟨Rc, Rd, Re, Rr, hb0⟩ := four_rows w #[.int .i64 s.n, .int .i64 s.d0.kind, .int .i64 s.d0.side, .int .i64 s.d0.step, .int .i64 s.d1.kind, .int .i64 s.d1.side, .int .i64 s.d1.step] #[.int .i64 p.a0, .int .i64 p.a1, .int .i64 p.k0.kind, .int .i64 p.k0.len, .int .u64 p.k0.h, .int .u64 p.k0.l, .string ⟨p.k0.path.toArray⟩, .int .i64 p.k1.kind, .int .i64 p.k1.len, .int .u64 p.k1.h, .int .u64 p.k1.l, .string ⟨p.k1.path.toArray⟩] #[.int .i64 q.a0, .int .i64 q.a1, .int .i64 q.k0.kind, .int .i64 q.k0.len, .int .u64 q.k0.h, .int .u64 q.k0.l, .string ⟨q.k0.path.toArray⟩, .int .i64 q.k1.kind, .int .i64 q.k1.len, .int .u64 q.k1.h, .int .u64 q.k1.l, .string ⟨q.k1.path.toArray⟩] #[.int .i64 0, .int .i64 0, .int .i64 0, .int .i64 0, .int .u64 0, .int .u64 0, .string ⟨#[]⟩, .int .i64 0, .int .i64 0, .int .u64 0, .int .u64 0, .string ⟨#[]⟩] 26 33 33 33
  (try clear c0 c1 c2 c3 c4 c5 c6); obtain ⟨c0, c1, c2, c3, c4, c5, c6⟩ := row7 Rc
  (try clear d0 d1 d2 d3 d4 d5 d6 d7 d8 d9 d10 d11); obtain ⟨d0, d1, d2, d3, d4, d5, d6, d7, d8, d9, d10, d11⟩ := row12 Rd
  (try clear e0 e1 e2 e3 e4 e5 e6 e7 e8 e9 e10 e11); obtain ⟨e0, e1, e2, e3, e4, e5, e6, e7, e8, e9, e10, e11⟩ := row12 Re
  (try clear r0 r1 r2 r3 r4 r5 r6 r7 r8 r9 r10 r11); obtain ⟨r0, r1, r2, r3, r4, r5, r6, r7, r8, r9, r10, r11⟩ := row12 Rr
  go_enter Try.func30, Try.ntmps30
  go_wp2_with fail
  replace Rc := Rc.alloc (.cells #[Value.int .i64 p.a0, Value.int .i64 p.a1, Value.int .i64 p.k0.kind, Value.int .i64 p.k0.len, Value.int .u64 p.k0.h, Value.int .u64 p.k0.l, Value.string ⟨p.k0.path.toArray⟩, Value.int .i64 p.k1.kind, Value.int .i64 p.k1.len, Value.int .u64 p.k1.h, Value.int .u64 p.k1.l, Value.string ⟨p.k1.path.toArray⟩] 33)
  replace Rd := Rd.alloc (.cells #[Value.int .i64 p.a0, Value.int .i64 p.a1, Value.int .i64 p.k0.kind, Value.int .i64 p.k0.len, Value.int .u64 p.k0.h, Value.int .u64 p.k0.l, Value.string ⟨p.k0.path.toArray⟩, Value.int .i64 p.k1.kind, Value.int .i64 p.k1.len, Value.int .u64 p.k1.h, Value.int .u64 p.k1.l, Value.string ⟨p.k1.path.toArray⟩] 33)
  replace Re := Re.alloc (.cells #[Value.int .i64 p.a0, Value.int .i64 p.a1, Value.int .i64 p.k0.kind, Value.int .i64 p.k0.len, Value.int .u64 p.k0.h, Value.int .u64 p.k0.l, Value.string ⟨p.k0.path.toArray⟩, Value.int .i64 p.k1.kind, Value.int .i64 p.k1.len, Value.int .u64 p.k1.h, Value.int .u64 p.k1.l, Value.string ⟨p.k1.path.toArray⟩] 33)
  replace Rr := Rr.alloc (.cells #[Value.int .i64 p.a0, Value.int .i64 p.a1, Value.int .i64 p.k0.kind, Value.int .i64 p.k0.len, Value.int .u64 p.k0.h, Value.int .u64 p.k0.l, Value.string ⟨p.k0.path.toArray⟩, Value.int .i64 p.k1.kind, Value.int .i64 p.k1.len, Value.int .u64 p.k1.h, Value.int .u64 p.k1.l, Value.string ⟨p.k1.path.toArray⟩] 33)
  have Rx := Row.new (World.alloc (World.alloc (World.alloc (World.alloc w (.cells #[.int .i64 s.n, .int .i64 s.d0.kind, .int .i64 s.d0.side, .int .i64 s.d0.step, .int .i64 s.d1.kind, .int .i64 s.d1.side, .int .i64 s.d1.step] 26)) (.cells #[.int .i64 p.a0, .int .i64 p.a1, .int .i64 p.k0.kind, .int .i64 p.k0.len, .int .u64 p.k0.h, .int .u64 p.k0.l, .string ⟨p.k0.path.toArray⟩, .int .i64 p.k1.kind, .int .i64 p.k1.len, .int .u64 p.k1.h, .int .u64 p.k1.l, .string ⟨p.k1.path.toArray⟩] 33)) (.cells #[.int .i64 q.a0, .int .i64 q.a1, .int .i64 q.k0.kind, .int .i64 q.k0.len, .int .u64 q.k0.h, .int .u64 q.k0.l, .string ⟨q.k0.path.toArray⟩, .int .i64 q.k1.kind, .int .i64 q.k1.len, .int .u64 q.k1.h, .int .u64 q.k1.l, .string ⟨q.k1.path.toArray⟩] 33)) (.cells #[.int .i64 0, .int .i64 0, .int .i64 0, .int .i64 0, .int .u64 0, .int .u64 0, .string ⟨#[]⟩, .int .i64 0, .int .i64 0, .int .u64 0, .int .u64 0, .string ⟨#[]⟩] 33)) #[Value.int .i64 p.a0, Value.int .i64 p.a1, Value.int .i64 p.k0.kind, Value.int .i64 p.k0.len, Value.int .u64 p.k0.h, Value.int .u64 p.k0.l, Value.string ⟨p.k0.path.toArray⟩, Value.int .i64 p.k1.kind, Value.int .i64 p.k1.len, Value.int .u64 p.k1.h, Value.int .u64 p.k1.l, Value.string ⟨p.k1.path.toArray⟩] 33
  simp only [World.size_alloc] at Rx
  have mx := hb0.size
  replace hb0 := hb0.alloc hb0.size (.cells #[Value.int .i64 p.a0, Value.int .i64 p.a1, Value.int .i64 p.k0.kind, Value.int .i64 p.k0.len, Value.int .u64 p.k0.h, Value.int .u64 p.k0.l, Value.string ⟨p.k0.path.toArray⟩, Value.int .i64 p.k1.kind, Value.int .i64 p.k1.len, Value.int .u64 p.k1.h, Value.int .u64 p.k1.l, Value.string ⟨p.k1.path.toArray⟩] 33)
  (try clear c0 c1 c2 c3 c4 c5 c6); obtain ⟨c0, c1, c2, c3, c4, c5, c6⟩ := row7 Rc
  (try clear d0 d1 d2 d3 d4 d5 d6 d7 d8 d9 d10 d11); obtain ⟨d0, d1, d2, d3, d4, d5, d6, d7, d8, d9, d10, d11⟩ := row12 Rd
  (try clear e0 e1 e2 e3 e4 e5 e6 e7 e8 e9 e10 e11); obtain ⟨e0, e1, e2, e3, e4, e5, e6, e7, e8, e9, e10, e11⟩ := row12 Re
  (try clear r0 r1 r2 r3 r4 r5 r6 r7 r8 r9 r10 r11); obtain ⟨r0, r1, r2, r3, r4, r5, r6, r7, r8, r9, r10, r11⟩ := row12 Rr
  (try clear x0 x1 x2 x3 x4 x5 x6 x7 x8 x9 x10 x11); obtain ⟨x0, x1, x2, x3, x4, x5, x6, x7, x8, x9, x10, x11⟩ := row12 Rx
  refine wp_loop_rounds 3 ?_
  rw [rounds_succ]
  go_wp2_with fail
  refine wp_region_held_drew (S := (fun w' => w'.cell? ⟨w.heap.size + 1 + 1, 2, none⟩ = some (Value.int .i64 q.k0.kind) ∧ w'.cell? ⟨w.heap.size + 1 + 1, 3, none⟩ = some (Value.int .i64 q.k0.len) ∧ w'.cell? ⟨w.heap.size + 1 + 1, 4, none⟩ = some (Value.int .u64 q.k0.h) ∧ w'.cell? ⟨w.heap.size + 1 + 1, 5, none⟩ = some (Value.int .u64 q.k0.l) ∧ w'.cell? ⟨w.heap.size + 1 + 1, 6, none⟩ = some (Value.string ⟨q.k0.path.toArray⟩))) (by kernel_rfl) ?hSr47_ (fun hHeld => ?_)
  case hSr47_ => (exact ⟨e2, e3, e4, e5, e6⟩)
  (clear c0 c1 c2 c3 c4 c5 c6 d0 d1 d2 d3 d4 d5 d6 d7 d8 d9 d10 d11 e0 e1 e2 e3 e4 e5 e6 e7 e8 e9 e10 e11 r0 r1 r2 r3 r4 r5 r6 r7 r8 r9 r10 r11 x0 x1 x2 x3 x4 x5 x6 x7 x8 x9 x10 x11; (replace Rc := Rc.drew); (replace Rd := Rd.drew); (replace Re := Re.drew); (replace Rr := Rr.drew); (replace Rx := Rx.drew); (replace hb0 := hb0.drew); (generalize World.drew (World.alloc (World.alloc (World.alloc (World.alloc (World.alloc w (.cells #[.int .i64 s.n, .int .i64 s.d0.kind, .int .i64 s.d0.side, .int .i64 s.d0.step, .int .i64 s.d1.kind, .int .i64 s.d1.side, .int .i64 s.d1.step] 26)) (.cells #[.int .i64 p.a0, .int .i64 p.a1, .int .i64 p.k0.kind, .int .i64 p.k0.len, .int .u64 p.k0.h, .int .u64 p.k0.l, .string ⟨p.k0.path.toArray⟩, .int .i64 p.k1.kind, .int .i64 p.k1.len, .int .u64 p.k1.h, .int .u64 p.k1.l, .string ⟨p.k1.path.toArray⟩] 33)) (.cells #[.int .i64 q.a0, .int .i64 q.a1, .int .i64 q.k0.kind, .int .i64 q.k0.len, .int .u64 q.k0.h, .int .u64 q.k0.l, .string ⟨q.k0.path.toArray⟩, .int .i64 q.k1.kind, .int .i64 q.k1.len, .int .u64 q.k1.h, .int .u64 q.k1.l, .string ⟨q.k1.path.toArray⟩] 33)) (.cells #[.int .i64 0, .int .i64 0, .int .i64 0, .int .i64 0, .int .u64 0, .int .u64 0, .string ⟨#[]⟩, .int .i64 0, .int .i64 0, .int .u64 0, .int .u64 0, .string ⟨#[]⟩] 33)) (.cells #[Value.int .i64 p.a0, Value.int .i64 p.a1, Value.int .i64 p.k0.kind, Value.int .i64 p.k0.len, Value.int .u64 p.k0.h, Value.int .u64 p.k0.l, Value.string ⟨p.k0.path.toArray⟩, Value.int .i64 p.k1.kind, Value.int .i64 p.k1.len, Value.int .u64 p.k1.h, Value.int .u64 p.k1.l, Value.string ⟨p.k1.path.toArray⟩] 33)) = wq at *))
  refine tk 0 ⟨some 24, .move (.tmp 9), 3, _, _, _⟩ hHeld ?_
  (try simp only [Act.put, nz1, nz2, nz3])
  refine tk 1 ⟨some 25, .move (.tmp 9), 3, _, _, _⟩ hHeld ?_
  (try simp only [Act.put, nz1, nz2, nz3])
  refine tk 2 ⟨some 26, .move (.tmp 10), 3, _, _, _⟩ hHeld ?_
  (try simp only [Act.put, nz1, nz2, nz3])
  refine tk 3 ⟨some 27, .move (.tmp 9), 3, _, _, _⟩ hHeld ?_
  (try simp only [Act.put, nz1, nz2, nz3])
  refine tk 4 ⟨some 28, .fieldAddr 33 (.tmp 5) 1, 0, _, _, _⟩ hHeld ?_
  (try simp only [Act.put, nz1, nz2, nz3])
  refine tk 5 ⟨some 29, .indexAddr 31 (.tmp 28) (.tmp 27), 0, _, _, _⟩ hHeld ?_
  (try simp only [Act.put, nz1, nz2, nz3])
  refine tk 6 ⟨some 30, .load 30 (.tmp 29), 30, _, _, _⟩ hHeld ?_
  (try simp only [Act.put, nz1, nz2, nz3])
  refine tk 7 ⟨some 31, .fieldAddr 33 (.tmp 8) 0, 0, _, _, _⟩ hHeld ?_
  (try simp only [Act.put, nz1, nz2, nz3])
  refine tk 8 ⟨some 32, .indexAddr 27 (.tmp 31) (.tmp 24), 0, _, _, _⟩ hHeld ?_
  (try simp only [Act.put, nz1, nz2, nz3])
  refine tk 10 ⟨some 33, .fieldAddr 33 (.tmp 8) 1, 0, _, _, _⟩ hHeld ?_
  (try simp only [Act.put, nz1, nz2, nz3])
  refine wpAnyH_ready (rs := [9]) (by kernel_rfl) (by simp) ?_
  refine AllReadyH.cons (o := ⟨none, .store 3 (.tmp 32) (.tmp 26), 0, _, _, _⟩) rfl (fun K hK => ?_) AllReadyH.nil
  ((obtain ⟨zc0, zd1, zd2, zd3, zd4, zd5, zd6, zd7, zd8, zd9, zd10, zd11⟩ := row12 Rx); (have zf0 := Rx.frozen 0); (have hHq := hHeld); (obtain ⟨e2, e3, e4, e5, e6⟩ := hHq); go_simp; clear zc0 zf0 zd1 zd2 zd3 zd4 zd5 zd6 zd7 zd8 zd9 zd10 zd11; (replace e2 := pcell_far (g := (w.heap.size + 1 + 1 + 1 + 1)) (o := 0) (vs := [Value.int .i64 q.a0]) e2 (by first | omega | (simp; done) | (simp; omega) | omega)); (replace e3 := pcell_far (g := (w.heap.size + 1 + 1 + 1 + 1)) (o := 0) (vs := [Value.int .i64 q.a0]) e3 (by first | omega | (simp; done) | (simp; omega) | omega)); (replace e4 := pcell_far (g := (w.heap.size + 1 + 1 + 1 + 1)) (o := 0) (vs := [Value.int .i64 q.a0]) e4 (by first | omega | (simp; done) | (simp; omega) | omega)); (replace e5 := pcell_far (g := (w.heap.size + 1 + 1 + 1 + 1)) (o := 0) (vs := [Value.int .i64 q.a0]) e5 (by first | omega | (simp; done) | (simp; omega) | omega)); (replace e6 := pcell_far (g := (w.heap.size + 1 + 1 + 1 + 1)) (o := 0) (vs := [Value.int .i64 q.a0]) e6 (by first | omega | (simp; done) | (simp; omega) | omega)); (replace Rc := prow_far (g := (w.heap.size + 1 + 1 + 1 + 1)) (o := 0) (vs := [Value.int .i64 q.a0]) Rc (by first | omega | (simp; done) | (simp; omega) | omega)); (replace Rd := prow_far (g := (w.heap.size + 1 + 1 + 1 + 1)) (o := 0) (vs := [Value.int .i64 q.a0]) Rd (by first | omega | (simp; done) | (simp; omega) | omega)); (replace Re := prow_far (g := (w.heap.size + 1 + 1 + 1 + 1)) (o := 0) (vs := [Value.int .i64 q.a0]) Re (by first | omega | (simp; done) | (simp; omega) | omega)); (replace Rr := prow_far (g := (w.heap.size + 1 + 1 + 1 + 1)) (o := 0) (vs := [Value.int .i64 q.a0]) Rr (by first | omega | (simp; done) | (simp; omega) | omega)); (replace hb0 := below_setCells (g := (w.heap.size + 1 + 1 + 1 + 1)) (by omega) [Value.int .i64 q.a0] 0 _ hb0); (replace Rx : Row (World.setCells wq (w.heap.size + 1 + 1 + 1 + 1) 0 [Value.int .i64 q.a0]) (w.heap.size + 1 + 1 + 1 + 1) #[.int .i64 q.a0, .int .i64 p.a1, .int .i64 p.k0.kind, .int .i64 p.k0.len, .int .u64 p.k0.h, .int .u64 p.k0.l, .string ⟨p.k0.path.toArray⟩, .int .i64 p.k1.kind, .int .i64 p.k1.len, .int .u64 p.k1.h, .int .u64 p.k1.l, .string ⟨p.k1.path.toArray⟩] 33 := Row.setMany Rx 0 [Value.int .i64 q.a0] (by simp [setL])); (simp only [World.setCells] at Rc Rd Re Rr Rx e2 e3 e4 e5 e6 hb0); generalize (World.setCell wq ⟨(w.heap.size + 1 + 1 + 1 + 1), 0, none⟩ (Value.int .i64 q.a0)) = wz at *)
  refine hK.out _ _ ?hSr47_11_9 (fun hHeld2 => ?_)
  case hSr47_11_9 => (exact ⟨e2, e3, e4, e5, e6⟩)
  clear hK K hHeld
  have hHeld := hHeld2
  clear hHeld2
  rename World => wq
  (try simp only [Act.put, nz1, nz2, nz3])
  refine tk 11 ⟨some 34, .indexAddr 31 (.tmp 33) (.tmp 25), 0, _, _, _⟩ hHeld ?_
  (try simp only [Act.put, nz1, nz2, nz3])
  refine wpAnyH_ready (rs := [12]) (by kernel_rfl) (by simp) ?_
  refine AllReadyH.cons (o := ⟨none, .store 30 (.tmp 34) (.tmp 30), 0, _, _, _⟩) rfl (fun K hK => ?_) AllReadyH.nil
  ((obtain ⟨zd0, zd1, zc0, zc1, zc2, zc3, zc4, zd7, zd8, zd9, zd10, zd11⟩ := row12 Rx); (have zf0 := Rx.frozen 2); (have zf1 := Rx.frozen 3); (have zf2 := Rx.frozen 4); (have zf3 := Rx.frozen 5); (have zf4 := Rx.frozen 6); (have hHq := hHeld); (obtain ⟨e2, e3, e4, e5, e6⟩ := hHq); go_simp; clear zc0 zf0 zc1 zf1 zc2 zf2 zc3 zf3 zc4 zf4 zd0 zd1 zd7 zd8 zd9 zd10 zd11; (replace e2 := pcell_far (g := (w.heap.size + 1 + 1 + 1 + 1)) (o := 2) (vs := [Value.int .i64 q.k0.kind, Value.int .i64 q.k0.len, Value.int .u64 q.k0.h, Value.int .u64 q.k0.l, Value.string ⟨q.k0.path.toArray⟩]) e2 (by first | omega | (simp; done) | (simp; omega) | omega)); (replace e3 := pcell_far (g := (w.heap.size + 1 + 1 + 1 + 1)) (o := 2) (vs := [Value.int .i64 q.k0.kind, Value.int .i64 q.k0.len, Value.int .u64 q.k0.h, Value.int .u64 q.k0.l, Value.string ⟨q.k0.path.toArray⟩]) e3 (by first | omega | (simp; done) | (simp; omega) | omega)); (replace e4 := pcell_far (g := (w.heap.size + 1 + 1 + 1 + 1)) (o := 2) (vs := [Value.int .i64 q.k0.kind, Value.int .i64 q.k0.len, Value.int .u64 q.k0.h, Value.int .u64 q.k0.l, Value.string ⟨q.k0.path.toArray⟩]) e4 (by first | omega | (simp; done) | (simp; omega) | omega)); (replace e5 := pcell_far (g := (w.heap.size + 1 + 1 + 1 + 1)) (o := 2) (vs := [Value.int .i64 q.k0.kind, Value.int .i64 q.k0.len, Value.int .u64 q.k0.h, Value.int .u64 q.k0.l, Value.string ⟨q.k0.path.toArray⟩]) e5 (by first | omega | (simp; done) | (simp; omega) | omega)); (replace e6 := pcell_far (g := (w.heap.size + 1 + 1 + 1 + 1)) (o := 2) (vs := [Value.int .i64 q.k0.kind, Value.int .i64 q.k0.len, Value.int .u64 q.k0.h, Value.int .u64 q.k0.l, Value.string ⟨q.k0.path.toArray⟩]) e6 (by first | omega | (simp; done) | (simp; omega) | omega)); (replace Rc := prow_far (g := (w.heap.size + 1 + 1 + 1 + 1)) (o := 2) (vs := [Value.int .i64 q.k0.kind, Value.int .i64 q.k0.len, Value.int .u64 q.k0.h, Value.int .u64 q.k0.l, Value.string ⟨q.k0.path.toArray⟩]) Rc (by first | omega | (simp; done) | (simp; omega) | omega)); (replace Rd := prow_far (g := (w.heap.size + 1 + 1 + 1 + 1)) (o := 2) (vs := [Value.int .i64 q.k0.kind, Value.int .i64 q.k0.len, Value.int .u64 q.k0.h, Value.int .u64 q.k0.l, Value.string ⟨q.k0.path.toArray⟩]) Rd (by first | omega | (simp; done) | (simp; omega) | omega)); (replace Re := prow_far (g := (w.heap.size + 1 + 1 + 1 + 1)) (o := 2) (vs := [Value.int .i64 q.k0.kind, Value.int .i64 q.k0.len, Value.int .u64 q.k0.h, Value.int .u64 q.k0.l, Value.string ⟨q.k0.path.toArray⟩]) Re (by first | omega | (simp; done) | (simp; omega) | omega)); (replace Rr := prow_far (g := (w.heap.size + 1 + 1 + 1 + 1)) (o := 2) (vs := [Value.int .i64 q.k0.kind, Value.int .i64 q.k0.len, Value.int .u64 q.k0.h, Value.int .u64 q.k0.l, Value.string ⟨q.k0.path.toArray⟩]) Rr (by first | omega | (simp; done) | (simp; omega) | omega)); (replace hb0 := below_setCells (g := (w.heap.size + 1 + 1 + 1 + 1)) (by omega) [Value.int .i64 q.k0.kind, Value.int .i64 q.k0.len, Value.int .u64 q.k0.h, Value.int .u64 q.k0.l, Value.string ⟨q.k0.path.toArray⟩] 2 _ hb0); (replace Rx : Row (World.setCells wq (w.heap.size + 1 + 1 + 1 + 1) 2 [Value.int .i64 q.k0.kind, Value.int .i64 q.k0.len, Value.int .u64 q.k0.h, Value.int .u64 q.k0.l, Value.string ⟨q.k0.path.toArray⟩]) (w.heap.size + 1 + 1 + 1 + 1) #[.int .i64 q.a0, .int .i64 p.a1, .int .i64 q.k0.kind, .int .i64 q.k0.len, .int .u64 q.k0.h, .int .u64 q.k0.l, .string ⟨q.k0.path.toArray⟩, .int .i64 p.k1.kind, .int .i64 p.k1.len, .int .u64 p.k1.h, .int .u64 p.k1.l, .string ⟨p.k1.path.toArray⟩] 33 := Row.setMany Rx 2 [Value.int .i64 q.k0.kind, Value.int .i64 q.k0.len, Value.int .u64 q.k0.h, Value.int .u64 q.k0.l, Value.string ⟨q.k0.path.toArray⟩] (by simp [setL])); (simp only [World.setCells] at Rc Rd Re Rr Rx e2 e3 e4 e5 e6 hb0); generalize (World.setCell (World.setCell (World.setCell (World.setCell (World.setCell wq ⟨(w.heap.size + 1 + 1 + 1 + 1), 2, none⟩ (Value.int .i64 q.k0.kind)) ⟨(w.heap.size + 1 + 1 + 1 + 1), 3, none⟩ (Value.int .i64 q.k0.len)) ⟨(w.heap.size + 1 + 1 + 1 + 1), 4, none⟩ (Value.int .u64 q.k0.h)) ⟨(w.heap.size + 1 + 1 + 1 + 1), 5, none⟩ (Value.int .u64 q.k0.l)) ⟨(w.heap.size + 1 + 1 + 1 + 1), 6, none⟩ (Value.string ⟨q.k0.path.toArray⟩)) = wz at *)
  refine hK.out _ _ ?hSr47_13_12 (fun hHeld2 => ?_)
  case hSr47_13_12 => (exact ⟨e2, e3, e4, e5, e6⟩)
  clear hK K hHeld
  have hHeld := hHeld2
  clear hHeld2
  rename World => wq
  (try simp only [Act.put, nz1, nz2, nz3])
  refine wpAnyH_done (by kernel_rfl) ?_ _
  clear hHeld
  rename World => w1
  have lc := Rc.lt
  have ld := Rd.lt
  have le := Re.lt
  have lr := Rr.lt
  have lx := Rx.lt
  (try clear c0 c1 c2 c3 c4 c5 c6); obtain ⟨c0, c1, c2, c3, c4, c5, c6⟩ := row7 Rc
  (try clear d0 d1 d2 d3 d4 d5 d6 d7 d8 d9 d10 d11); obtain ⟨d0, d1, d2, d3, d4, d5, d6, d7, d8, d9, d10, d11⟩ := row12 Rd
  (try clear e0 e1 e2 e3 e4 e5 e6 e7 e8 e9 e10 e11); obtain ⟨e0, e1, e2, e3, e4, e5, e6, e7, e8, e9, e10, e11⟩ := row12 Re
  (try clear r0 r1 r2 r3 r4 r5 r6 r7 r8 r9 r10 r11); obtain ⟨r0, r1, r2, r3, r4, r5, r6, r7, r8, r9, r10, r11⟩ := row12 Rr
  (try clear x0 x1 x2 x3 x4 x5 x6 x7 x8 x9 x10 x11); obtain ⟨x0, x1, x2, x3, x4, x5, x6, x7, x8, x9, x10, x11⟩ := row12 Rx
  go_wp2_with fail
  rw [rounds_succ]
  go_wp2_with fail
  rw [rounds_succ]
  cases o1 with
  | false =>
    go_wp2_with fail
    refine (HO1 _).mono ?_
    rintro e w2 ⟨rfl, hb⟩
    replace Rc := Rc.later hb
    replace Rd := Rd.later hb
    replace Re := Re.later hb
    replace Rr := Rr.later hb
    replace Rx := Rx.later hb
    replace hb0 := below_step hb0 hb
    clear hb
    have lc := Rc.lt
    have ld := Rd.lt
    have le := Re.lt
    have lr := Rr.lt
    have lx := Rx.lt
    (try clear c0 c1 c2 c3 c4 c5 c6); obtain ⟨c0, c1, c2, c3, c4, c5, c6⟩ := row7 Rc
    (try clear d0 d1 d2 d3 d4 d5 d6 d7 d8 d9 d10 d11); obtain ⟨d0, d1, d2, d3, d4, d5, d6, d7, d8, d9, d10, d11⟩ := row12 Rd
    (try clear e0 e1 e2 e3 e4 e5 e6 e7 e8 e9 e10 e11); obtain ⟨e0, e1, e2, e3, e4, e5, e6, e7, e8, e9, e10, e11⟩ := row12 Re
    (try clear r0 r1 r2 r3 r4 r5 r6 r7 r8 r9 r10 r11); obtain ⟨r0, r1, r2, r3, r4, r5, r6, r7, r8, r9, r10, r11⟩ := row12 Rr
    (try clear x0 x1 x2 x3 x4 x5 x6 x7 x8 x9 x10 x11); obtain ⟨x0, x1, x2, x3, x4, x5, x6, x7, x8, x9, x10, x11⟩ := row12 Rx
    have rf0 := Rr.frozen 0
    have rf1 := Rr.frozen 1
    have rf2 := Rr.frozen 2
    have rf3 := Rr.frozen 3
    have rf4 := Rr.frozen 4
    have rf5 := Rr.frozen 5
    have rf6 := Rr.frozen 6
    have rf7 := Rr.frozen 7
    have rf8 := Rr.frozen 8
    have rf9 := Rr.frozen 9
    have rf10 := Rr.frozen 10
    have rf11 := Rr.frozen 11
    go_wp2
    clear c0 c1 c2 c3 c4 c5 c6
    clear d0 d1 d2 d3 d4 d5 d6 d7 d8 d9 d10 d11
    clear e0 e1 e2 e3 e4 e5 e6 e7 e8 e9 e10 e11
    obtain ⟨w3, hwn⟩ : ∃ wz, wz = (World.setCell (World.setCell (World.setCell (World.setCell (World.setCell (World.setCell (World.setCell (World.setCell (World.setCell (World.setCell (World.setCell (World.setCell w2 ⟨(w.heap.size + 1 + 1 + 1), 0, none⟩ (.int .i64 0)) ⟨(w.heap.size + 1 + 1 + 1), 1, none⟩ (.int .i64 0)) ⟨(w.heap.size + 1 + 1 + 1), 2, none⟩ (.int .i64 0)) ⟨(w.heap.size + 1 + 1 + 1), 3, none⟩ (.int .i64 0)) ⟨(w.heap.size + 1 + 1 + 1), 4, none⟩ (.int .u64 0)) ⟨(w.heap.size + 1 + 1 + 1), 5, none⟩ (.int .u64 0)) ⟨(w.heap.size + 1 + 1 + 1), 6, none⟩ (.string ⟨#[]⟩)) ⟨(w.heap.size + 1 + 1 + 1), 7, none⟩ (.int .i64 0)) ⟨(w.heap.size + 1 + 1 + 1), 8, none⟩ (.int .i64 0)) ⟨(w.heap.size + 1 + 1 + 1), 9, none⟩ (.int .u64 0)) ⟨(w.heap.size + 1 + 1 + 1), 10, none⟩ (.int .u64 0)) ⟨(w.heap.size + 1 + 1 + 1), 11, none⟩ (.string ⟨#[]⟩)) := ⟨_, rfl⟩
    rw [← hwn]
    replace hwn : w3 = World.setCells w2 (w.heap.size + 1 + 1 + 1) 0 [.int .i64 0, .int .i64 0, .int .i64 0, .int .i64 0, .int .u64 0, .int .u64 0, .string ⟨#[]⟩, .int .i64 0, .int .i64 0, .int .u64 0, .int .u64 0, .string ⟨#[]⟩] := hwn
    replace Rr : Row w3 (w.heap.size + 1 + 1 + 1) #[.int .i64 0, .int .i64 0, .int .i64 0, .int .i64 0, .int .u64 0, .int .u64 0, .string ⟨#[]⟩, .int .i64 0, .int .i64 0, .int .u64 0, .int .u64 0, .string ⟨#[]⟩] 33 := psm hwn Rr (by simp [setL])
    replace Rc := prf hwn Rc
    replace Rd := prf hwn Rd
    replace Re := prf hwn Re
    replace Rx := prf hwn Rx
    replace hb0 := pbl hwn hb0
    clear hwn r0 r1 r2 r3 r4 r5 r6 r7 r8 r9 r10 r11 x0 x1 x2 x3 x4 x5 x6 x7 x8 x9 x10 x11
    (try clear rf0 rf1 rf2 rf3 rf4 rf5 rf6 rf7 rf8 rf9 rf10 rf11)
    (try clear r0 r1 r2 r3 r4 r5 r6 r7 r8 r9 r10 r11); obtain ⟨r0, r1, r2, r3, r4, r5, r6, r7, r8, r9, r10, r11⟩ := row12 Rr
    (try clear x0 x1 x2 x3 x4 x5 x6 x7 x8 x9 x10 x11); obtain ⟨x0, x1, x2, x3, x4, x5, x6, x7, x8, x9, x10, x11⟩ := row12 Rx
    refine bodyPost_ret (v := .tuple #[.agg #[.int .i64 0, .int .i64 0, .int .i64 0, .int .i64 0, .int .u64 0, .int .u64 0, .string ⟨#[]⟩, .int .i64 0, .int .i64 0, .int .u64 0, .int .u64 0, .string ⟨#[]⟩], .bool false]) (by simp [results, Try.results30, go_sem, r0, r1, r2, r3, r4, r5, r6, r7, r8, r9, r10, r11]) rfl ⟨rfl, hb0⟩
  | true =>
    cases o2 with
    | false =>
      go_wp2_with fail
      refine (HO1 _).mono ?_
      rintro e w2 ⟨rfl, hb⟩
      replace Rc := Rc.later hb
      replace Rd := Rd.later hb
      replace Re := Re.later hb
      replace Rr := Rr.later hb
      replace Rx := Rx.later hb
      replace hb0 := below_step hb0 hb
      clear hb
      have lc := Rc.lt
      have ld := Rd.lt
      have le := Re.lt
      have lr := Rr.lt
      have lx := Rx.lt
      (try clear c0 c1 c2 c3 c4 c5 c6); obtain ⟨c0, c1, c2, c3, c4, c5, c6⟩ := row7 Rc
      (try clear d0 d1 d2 d3 d4 d5 d6 d7 d8 d9 d10 d11); obtain ⟨d0, d1, d2, d3, d4, d5, d6, d7, d8, d9, d10, d11⟩ := row12 Rd
      (try clear e0 e1 e2 e3 e4 e5 e6 e7 e8 e9 e10 e11); obtain ⟨e0, e1, e2, e3, e4, e5, e6, e7, e8, e9, e10, e11⟩ := row12 Re
      (try clear r0 r1 r2 r3 r4 r5 r6 r7 r8 r9 r10 r11); obtain ⟨r0, r1, r2, r3, r4, r5, r6, r7, r8, r9, r10, r11⟩ := row12 Rr
      (try clear x0 x1 x2 x3 x4 x5 x6 x7 x8 x9 x10 x11); obtain ⟨x0, x1, x2, x3, x4, x5, x6, x7, x8, x9, x10, x11⟩ := row12 Rx
      go_wp2_with fail
      refine (HO2 _).mono ?_
      rintro e w3 ⟨rfl, hb⟩
      replace Rc := Rc.later hb
      replace Rd := Rd.later hb
      replace Re := Re.later hb
      replace Rr := Rr.later hb
      replace Rx := Rx.later hb
      replace hb0 := below_step hb0 hb
      clear hb
      have lc := Rc.lt
      have ld := Rd.lt
      have le := Re.lt
      have lr := Rr.lt
      have lx := Rx.lt
      (try clear c0 c1 c2 c3 c4 c5 c6); obtain ⟨c0, c1, c2, c3, c4, c5, c6⟩ := row7 Rc
      (try clear d0 d1 d2 d3 d4 d5 d6 d7 d8 d9 d10 d11); obtain ⟨d0, d1, d2, d3, d4, d5, d6, d7, d8, d9, d10, d11⟩ := row12 Rd
      (try clear e0 e1 e2 e3 e4 e5 e6 e7 e8 e9 e10 e11); obtain ⟨e0, e1, e2, e3, e4, e5, e6, e7, e8, e9, e10, e11⟩ := row12 Re
      (try clear r0 r1 r2 r3 r4 r5 r6 r7 r8 r9 r10 r11); obtain ⟨r0, r1, r2, r3, r4, r5, r6, r7, r8, r9, r10, r11⟩ := row12 Rr
      (try clear x0 x1 x2 x3 x4 x5 x6 x7 x8 x9 x10 x11); obtain ⟨x0, x1, x2, x3, x4, x5, x6, x7, x8, x9, x10, x11⟩ := row12 Rx
      have rf0 := Rr.frozen 0
      have rf1 := Rr.frozen 1
      have rf2 := Rr.frozen 2
      have rf3 := Rr.frozen 3
      have rf4 := Rr.frozen 4
      have rf5 := Rr.frozen 5
      have rf6 := Rr.frozen 6
      have rf7 := Rr.frozen 7
      have rf8 := Rr.frozen 8
      have rf9 := Rr.frozen 9
      have rf10 := Rr.frozen 10
      have rf11 := Rr.frozen 11
      go_wp2
      clear c0 c1 c2 c3 c4 c5 c6
      clear d0 d1 d2 d3 d4 d5 d6 d7 d8 d9 d10 d11
      clear e0 e1 e2 e3 e4 e5 e6 e7 e8 e9 e10 e11
      obtain ⟨w4, hwn⟩ : ∃ wz, wz = (World.setCell (World.setCell (World.setCell (World.setCell (World.setCell (World.setCell (World.setCell (World.setCell (World.setCell (World.setCell (World.setCell (World.setCell w3 ⟨(w.heap.size + 1 + 1 + 1), 0, none⟩ (.int .i64 0)) ⟨(w.heap.size + 1 + 1 + 1), 1, none⟩ (.int .i64 0)) ⟨(w.heap.size + 1 + 1 + 1), 2, none⟩ (.int .i64 0)) ⟨(w.heap.size + 1 + 1 + 1), 3, none⟩ (.int .i64 0)) ⟨(w.heap.size + 1 + 1 + 1), 4, none⟩ (.int .u64 0)) ⟨(w.heap.size + 1 + 1 + 1), 5, none⟩ (.int .u64 0)) ⟨(w.heap.size + 1 + 1 + 1), 6, none⟩ (.string ⟨#[]⟩)) ⟨(w.heap.size + 1 + 1 + 1), 7, none⟩ (.int .i64 0)) ⟨(w.heap.size + 1 + 1 + 1), 8, none⟩ (.int .i64 0)) ⟨(w.heap.size + 1 + 1 + 1), 9, none⟩ (.int .u64 0)) ⟨(w.heap.size + 1 + 1 + 1), 10, none⟩ (.int .u64 0)) ⟨(w.heap.size + 1 + 1 + 1), 11, none⟩ (.string ⟨#[]⟩)) := ⟨_, rfl⟩
      rw [← hwn]
      replace hwn : w4 = World.setCells w3 (w.heap.size + 1 + 1 + 1) 0 [.int .i64 0, .int .i64 0, .int .i64 0, .int .i64 0, .int .u64 0, .int .u64 0, .string ⟨#[]⟩, .int .i64 0, .int .i64 0, .int .u64 0, .int .u64 0, .string ⟨#[]⟩] := hwn
      replace Rr : Row w4 (w.heap.size + 1 + 1 + 1) #[.int .i64 0, .int .i64 0, .int .i64 0, .int .i64 0, .int .u64 0, .int .u64 0, .string ⟨#[]⟩, .int .i64 0, .int .i64 0, .int .u64 0, .int .u64 0, .string ⟨#[]⟩] 33 := psm hwn Rr (by simp [setL])
      replace Rc := prf hwn Rc
      replace Rd := prf hwn Rd
      replace Re := prf hwn Re
      replace Rx := prf hwn Rx
      replace hb0 := pbl hwn hb0
      clear hwn r0 r1 r2 r3 r4 r5 r6 r7 r8 r9 r10 r11 x0 x1 x2 x3 x4 x5 x6 x7 x8 x9 x10 x11
      (try clear rf0 rf1 rf2 rf3 rf4 rf5 rf6 rf7 rf8 rf9 rf10 rf11)
      (try clear r0 r1 r2 r3 r4 r5 r6 r7 r8 r9 r10 r11); obtain ⟨r0, r1, r2, r3, r4, r5, r6, r7, r8, r9, r10, r11⟩ := row12 Rr
      (try clear x0 x1 x2 x3 x4 x5 x6 x7 x8 x9 x10 x11); obtain ⟨x0, x1, x2, x3, x4, x5, x6, x7, x8, x9, x10, x11⟩ := row12 Rx
      refine bodyPost_ret (v := .tuple #[.agg #[.int .i64 0, .int .i64 0, .int .i64 0, .int .i64 0, .int .u64 0, .int .u64 0, .string ⟨#[]⟩, .int .i64 0, .int .i64 0, .int .u64 0, .int .u64 0, .string ⟨#[]⟩], .bool false]) (by simp [results, Try.results30, go_sem, r0, r1, r2, r3, r4, r5, r6, r7, r8, r9, r10, r11]) rfl ⟨rfl, hb0⟩
    | true =>
      go_wp2_with fail
      refine (HO1 _).mono ?_
      rintro e w2 ⟨rfl, hb⟩
      replace Rc := Rc.later hb
      replace Rd := Rd.later hb
      replace Re := Re.later hb
      replace Rr := Rr.later hb
      replace Rx := Rx.later hb
      replace hb0 := below_step hb0 hb
      clear hb
      have lc := Rc.lt
      have ld := Rd.lt
      have le := Re.lt
      have lr := Rr.lt
      have lx := Rx.lt
      (try clear c0 c1 c2 c3 c4 c5 c6); obtain ⟨c0, c1, c2, c3, c4, c5, c6⟩ := row7 Rc
      (try clear d0 d1 d2 d3 d4 d5 d6 d7 d8 d9 d10 d11); obtain ⟨d0, d1, d2, d3, d4, d5, d6, d7, d8, d9, d10, d11⟩ := row12 Rd
      (try clear e0 e1 e2 e3 e4 e5 e6 e7 e8 e9 e10 e11); obtain ⟨e0, e1, e2, e3, e4, e5, e6, e7, e8, e9, e10, e11⟩ := row12 Re
      (try clear r0 r1 r2 r3 r4 r5 r6 r7 r8 r9 r10 r11); obtain ⟨r0, r1, r2, r3, r4, r5, r6, r7, r8, r9, r10, r11⟩ := row12 Rr
      (try clear x0 x1 x2 x3 x4 x5 x6 x7 x8 x9 x10 x11); obtain ⟨x0, x1, x2, x3, x4, x5, x6, x7, x8, x9, x10, x11⟩ := row12 Rx
      go_wp2_with fail
      refine (HO2 _).mono ?_
      rintro e w3 ⟨rfl, hb⟩
      replace Rc := Rc.later hb
      replace Rd := Rd.later hb
      replace Re := Re.later hb
      replace Rr := Rr.later hb
      replace Rx := Rx.later hb
      replace hb0 := below_step hb0 hb
      clear hb
      have lc := Rc.lt
      have ld := Rd.lt
      have le := Re.lt
      have lr := Rr.lt
      have lx := Rx.lt
      (try clear c0 c1 c2 c3 c4 c5 c6); obtain ⟨c0, c1, c2, c3, c4, c5, c6⟩ := row7 Rc
      (try clear d0 d1 d2 d3 d4 d5 d6 d7 d8 d9 d10 d11); obtain ⟨d0, d1, d2, d3, d4, d5, d6, d7, d8, d9, d10, d11⟩ := row12 Rd
      (try clear e0 e1 e2 e3 e4 e5 e6 e7 e8 e9 e10 e11); obtain ⟨e0, e1, e2, e3, e4, e5, e6, e7, e8, e9, e10, e11⟩ := row12 Re
      (try clear r0 r1 r2 r3 r4 r5 r6 r7 r8 r9 r10 r11); obtain ⟨r0, r1, r2, r3, r4, r5, r6, r7, r8, r9, r10, r11⟩ := row12 Rr
      (try clear x0 x1 x2 x3 x4 x5 x6 x7 x8 x9 x10 x11); obtain ⟨x0, x1, x2, x3, x4, x5, x6, x7, x8, x9, x10, x11⟩ := row12 Rx
      have rf0 := Rr.frozen 0
      have rf1 := Rr.frozen 1
      have rf2 := Rr.frozen 2
      have rf3 := Rr.frozen 3
      have rf4 := Rr.frozen 4
      have rf5 := Rr.frozen 5
      have rf6 := Rr.frozen 6
      have rf7 := Rr.frozen 7
      have rf8 := Rr.frozen 8
      have rf9 := Rr.frozen 9
      have rf10 := Rr.frozen 10
      have rf11 := Rr.frozen 11
      go_wp2
      clear c0 c1 c2 c3 c4 c5 c6
      clear d0 d1 d2 d3 d4 d5 d6 d7 d8 d9 d10 d11
      clear e0 e1 e2 e3 e4 e5 e6 e7 e8 e9 e10 e11
      obtain ⟨w4, hwn⟩ : ∃ wz, wz = (World.setCell (World.setCell (World.setCell (World.setCell (World.setCell (World.setCell (World.setCell (World.setCell (World.setCell (World.setCell (World.setCell (World.setCell w3 ⟨(w.heap.size + 1 + 1 + 1), 0, none⟩ (.int .i64 q.a0)) ⟨(w.heap.size + 1 + 1 + 1), 1, none⟩ (.int .i64 p.a1)) ⟨(w.heap.size + 1 + 1 + 1), 2, none⟩ (.int .i64 q.k0.kind)) ⟨(w.heap.size + 1 + 1 + 1), 3, none⟩ (.int .i64 q.k0.len)) ⟨(w.heap.size + 1 + 1 + 1), 4, none⟩ (.int .u64 q.k0.h)) ⟨(w.heap.size + 1 + 1 + 1), 5, none⟩ (.int .u64 q.k0.l)) ⟨(w.heap.size + 1 + 1 + 1), 6, none⟩ (.string ⟨q.k0.path.toArray⟩)) ⟨(w.heap.size + 1 + 1 + 1), 7, none⟩ (.int .i64 p.k1.kind)) ⟨(w.heap.size + 1 + 1 + 1), 8, none⟩ (.int .i64 p.k1.len)) ⟨(w.heap.size + 1 + 1 + 1), 9, none⟩ (.int .u64 p.k1.h)) ⟨(w.heap.size + 1 + 1 + 1), 10, none⟩ (.int .u64 p.k1.l)) ⟨(w.heap.size + 1 + 1 + 1), 11, none⟩ (.string ⟨p.k1.path.toArray⟩)) := ⟨_, rfl⟩
      rw [← hwn]
      replace hwn : w4 = World.setCells w3 (w.heap.size + 1 + 1 + 1) 0 [.int .i64 q.a0, .int .i64 p.a1, .int .i64 q.k0.kind, .int .i64 q.k0.len, .int .u64 q.k0.h, .int .u64 q.k0.l, .string ⟨q.k0.path.toArray⟩, .int .i64 p.k1.kind, .int .i64 p.k1.len, .int .u64 p.k1.h, .int .u64 p.k1.l, .string ⟨p.k1.path.toArray⟩] := hwn
      replace Rr : Row w4 (w.heap.size + 1 + 1 + 1) #[.int .i64 q.a0, .int .i64 p.a1, .int .i64 q.k0.kind, .int .i64 q.k0.len, .int .u64 q.k0.h, .int .u64 q.k0.l, .string ⟨q.k0.path.toArray⟩, .int .i64 p.k1.kind, .int .i64 p.k1.len, .int .u64 p.k1.h, .int .u64 p.k1.l, .string ⟨p.k1.path.toArray⟩] 33 := psm hwn Rr (by simp [setL])
      replace Rc := prf hwn Rc
      replace Rd := prf hwn Rd
      replace Re := prf hwn Re
      replace Rx := prf hwn Rx
      replace hb0 := pbl hwn hb0
      clear hwn r0 r1 r2 r3 r4 r5 r6 r7 r8 r9 r10 r11 x0 x1 x2 x3 x4 x5 x6 x7 x8 x9 x10 x11
      (try clear rf0 rf1 rf2 rf3 rf4 rf5 rf6 rf7 rf8 rf9 rf10 rf11)
      (try clear r0 r1 r2 r3 r4 r5 r6 r7 r8 r9 r10 r11); obtain ⟨r0, r1, r2, r3, r4, r5, r6, r7, r8, r9, r10, r11⟩ := row12 Rr
      (try clear x0 x1 x2 x3 x4 x5 x6 x7 x8 x9 x10 x11); obtain ⟨x0, x1, x2, x3, x4, x5, x6, x7, x8, x9, x10, x11⟩ := row12 Rx
      refine bodyPost_ret (v := .tuple #[.agg #[.int .i64 q.a0, .int .i64 p.a1, .int .i64 q.k0.kind, .int .i64 q.k0.len, .int .u64 q.k0.h, .int .u64 q.k0.l, .string ⟨q.k0.path.toArray⟩, .int .i64 p.k1.kind, .int .i64 p.k1.len, .int .u64 p.k1.h, .int .u64 p.k1.l, .string ⟨p.k1.path.toArray⟩], .bool true]) (by simp [results, Try.results30, go_sem, r0, r1, r2, r3, r4, r5, r6, r7, r8, r9, r10, r11]) rfl ⟨rfl, hb0⟩
set_option maxRecDepth 100000 in
theorem cross_11 (s : Sp) (p q : Px) (o1 o2 : Bool) (g0 : q.a0 < p.a0) (g1 : q.a1 < p.a1) (HO1 : ∀ w, Calls Try.prog 28 #[sv s, pv p, pv ⟨q.a0, q.a1, q.k0, q.k1⟩] w fun e w' => e = .returned (.bool o1) ∧ Below w.heap.size w w')
    (HO2 : ∀ w, Calls Try.prog 28 #[sv s, pv q, pv ⟨q.a0, q.a1, q.k0, q.k1⟩] w fun e w' => e = .returned (.bool o2) ∧ Below w.heap.size w w') (w : World) : Calls Try.prog 30 #[sv s, pv p, pv q] w fun e w' => e = .returned (.tuple #[pv (if (o1 && o2) = true then ⟨q.a0, q.a1, q.k0, q.k1⟩ else pz), .bool (o1 && o2)]) ∧ Below w.heap.size w w' := by
  have i0 := ixa0
  have i1 := ixa1
  have t0 : decide (q.a0 < p.a0) = true := decide_eq_true g0
  have t1 : decide (q.a1 < p.a1) = true := decide_eq_true g1
  unfold pz kz
  unfold sv pv at *
  dsimp only at *
  obtain ⟨Rc, Rd, Re, Rr, hb0⟩ := four_rows w #[.int .i64 s.n, .int .i64 s.d0.kind, .int .i64 s.d0.side, .int .i64 s.d0.step, .int .i64 s.d1.kind, .int .i64 s.d1.side, .int .i64 s.d1.step] #[.int .i64 p.a0, .int .i64 p.a1, .int .i64 p.k0.kind, .int .i64 p.k0.len, .int .u64 p.k0.h, .int .u64 p.k0.l, .string ⟨p.k0.path.toArray⟩, .int .i64 p.k1.kind, .int .i64 p.k1.len, .int .u64 p.k1.h, .int .u64 p.k1.l, .string ⟨p.k1.path.toArray⟩] #[.int .i64 q.a0, .int .i64 q.a1, .int .i64 q.k0.kind, .int .i64 q.k0.len, .int .u64 q.k0.h, .int .u64 q.k0.l, .string ⟨q.k0.path.toArray⟩, .int .i64 q.k1.kind, .int .i64 q.k1.len, .int .u64 q.k1.h, .int .u64 q.k1.l, .string ⟨q.k1.path.toArray⟩] #[.int .i64 0, .int .i64 0, .int .i64 0, .int .i64 0, .int .u64 0, .int .u64 0, .string ⟨#[]⟩, .int .i64 0, .int .i64 0, .int .u64 0, .int .u64 0, .string ⟨#[]⟩] 26 33 33 33
  (try clear c0 c1 c2 c3 c4 c5 c6); obtain ⟨c0, c1, c2, c3, c4, c5, c6⟩ := row7 Rc
  (try clear d0 d1 d2 d3 d4 d5 d6 d7 d8 d9 d10 d11); obtain ⟨d0, d1, d2, d3, d4, d5, d6, d7, d8, d9, d10, d11⟩ := row12 Rd
  (try clear e0 e1 e2 e3 e4 e5 e6 e7 e8 e9 e10 e11); obtain ⟨e0, e1, e2, e3, e4, e5, e6, e7, e8, e9, e10, e11⟩ := row12 Re
  (try clear r0 r1 r2 r3 r4 r5 r6 r7 r8 r9 r10 r11); obtain ⟨r0, r1, r2, r3, r4, r5, r6, r7, r8, r9, r10, r11⟩ := row12 Rr
  go_enter Try.func30, Try.ntmps30
  go_wp2_with fail
  replace Rc := Rc.alloc (.cells #[Value.int .i64 p.a0, Value.int .i64 p.a1, Value.int .i64 p.k0.kind, Value.int .i64 p.k0.len, Value.int .u64 p.k0.h, Value.int .u64 p.k0.l, Value.string ⟨p.k0.path.toArray⟩, Value.int .i64 p.k1.kind, Value.int .i64 p.k1.len, Value.int .u64 p.k1.h, Value.int .u64 p.k1.l, Value.string ⟨p.k1.path.toArray⟩] 33)
  replace Rd := Rd.alloc (.cells #[Value.int .i64 p.a0, Value.int .i64 p.a1, Value.int .i64 p.k0.kind, Value.int .i64 p.k0.len, Value.int .u64 p.k0.h, Value.int .u64 p.k0.l, Value.string ⟨p.k0.path.toArray⟩, Value.int .i64 p.k1.kind, Value.int .i64 p.k1.len, Value.int .u64 p.k1.h, Value.int .u64 p.k1.l, Value.string ⟨p.k1.path.toArray⟩] 33)
  replace Re := Re.alloc (.cells #[Value.int .i64 p.a0, Value.int .i64 p.a1, Value.int .i64 p.k0.kind, Value.int .i64 p.k0.len, Value.int .u64 p.k0.h, Value.int .u64 p.k0.l, Value.string ⟨p.k0.path.toArray⟩, Value.int .i64 p.k1.kind, Value.int .i64 p.k1.len, Value.int .u64 p.k1.h, Value.int .u64 p.k1.l, Value.string ⟨p.k1.path.toArray⟩] 33)
  replace Rr := Rr.alloc (.cells #[Value.int .i64 p.a0, Value.int .i64 p.a1, Value.int .i64 p.k0.kind, Value.int .i64 p.k0.len, Value.int .u64 p.k0.h, Value.int .u64 p.k0.l, Value.string ⟨p.k0.path.toArray⟩, Value.int .i64 p.k1.kind, Value.int .i64 p.k1.len, Value.int .u64 p.k1.h, Value.int .u64 p.k1.l, Value.string ⟨p.k1.path.toArray⟩] 33)
  have Rx := Row.new (World.alloc (World.alloc (World.alloc (World.alloc w (.cells #[.int .i64 s.n, .int .i64 s.d0.kind, .int .i64 s.d0.side, .int .i64 s.d0.step, .int .i64 s.d1.kind, .int .i64 s.d1.side, .int .i64 s.d1.step] 26)) (.cells #[.int .i64 p.a0, .int .i64 p.a1, .int .i64 p.k0.kind, .int .i64 p.k0.len, .int .u64 p.k0.h, .int .u64 p.k0.l, .string ⟨p.k0.path.toArray⟩, .int .i64 p.k1.kind, .int .i64 p.k1.len, .int .u64 p.k1.h, .int .u64 p.k1.l, .string ⟨p.k1.path.toArray⟩] 33)) (.cells #[.int .i64 q.a0, .int .i64 q.a1, .int .i64 q.k0.kind, .int .i64 q.k0.len, .int .u64 q.k0.h, .int .u64 q.k0.l, .string ⟨q.k0.path.toArray⟩, .int .i64 q.k1.kind, .int .i64 q.k1.len, .int .u64 q.k1.h, .int .u64 q.k1.l, .string ⟨q.k1.path.toArray⟩] 33)) (.cells #[.int .i64 0, .int .i64 0, .int .i64 0, .int .i64 0, .int .u64 0, .int .u64 0, .string ⟨#[]⟩, .int .i64 0, .int .i64 0, .int .u64 0, .int .u64 0, .string ⟨#[]⟩] 33)) #[Value.int .i64 p.a0, Value.int .i64 p.a1, Value.int .i64 p.k0.kind, Value.int .i64 p.k0.len, Value.int .u64 p.k0.h, Value.int .u64 p.k0.l, Value.string ⟨p.k0.path.toArray⟩, Value.int .i64 p.k1.kind, Value.int .i64 p.k1.len, Value.int .u64 p.k1.h, Value.int .u64 p.k1.l, Value.string ⟨p.k1.path.toArray⟩] 33
  simp only [World.size_alloc] at Rx
  have mx := hb0.size
  replace hb0 := hb0.alloc hb0.size (.cells #[Value.int .i64 p.a0, Value.int .i64 p.a1, Value.int .i64 p.k0.kind, Value.int .i64 p.k0.len, Value.int .u64 p.k0.h, Value.int .u64 p.k0.l, Value.string ⟨p.k0.path.toArray⟩, Value.int .i64 p.k1.kind, Value.int .i64 p.k1.len, Value.int .u64 p.k1.h, Value.int .u64 p.k1.l, Value.string ⟨p.k1.path.toArray⟩] 33)
  (try clear c0 c1 c2 c3 c4 c5 c6); obtain ⟨c0, c1, c2, c3, c4, c5, c6⟩ := row7 Rc
  (try clear d0 d1 d2 d3 d4 d5 d6 d7 d8 d9 d10 d11); obtain ⟨d0, d1, d2, d3, d4, d5, d6, d7, d8, d9, d10, d11⟩ := row12 Rd
  (try clear e0 e1 e2 e3 e4 e5 e6 e7 e8 e9 e10 e11); obtain ⟨e0, e1, e2, e3, e4, e5, e6, e7, e8, e9, e10, e11⟩ := row12 Re
  (try clear r0 r1 r2 r3 r4 r5 r6 r7 r8 r9 r10 r11); obtain ⟨r0, r1, r2, r3, r4, r5, r6, r7, r8, r9, r10, r11⟩ := row12 Rr
  (try clear x0 x1 x2 x3 x4 x5 x6 x7 x8 x9 x10 x11); obtain ⟨x0, x1, x2, x3, x4, x5, x6, x7, x8, x9, x10, x11⟩ := row12 Rx
  refine wp_loop_rounds 3 ?_
  rw [rounds_succ]
  go_wp2_with fail
  refine wp_region_held_drew (S := (fun w' => w'.cell? ⟨w.heap.size + 1 + 1, 2, none⟩ = some (Value.int .i64 q.k0.kind) ∧ w'.cell? ⟨w.heap.size + 1 + 1, 3, none⟩ = some (Value.int .i64 q.k0.len) ∧ w'.cell? ⟨w.heap.size + 1 + 1, 4, none⟩ = some (Value.int .u64 q.k0.h) ∧ w'.cell? ⟨w.heap.size + 1 + 1, 5, none⟩ = some (Value.int .u64 q.k0.l) ∧ w'.cell? ⟨w.heap.size + 1 + 1, 6, none⟩ = some (Value.string ⟨q.k0.path.toArray⟩))) (by kernel_rfl) ?hSr48_ (fun hHeld => ?_)
  case hSr48_ => (exact ⟨e2, e3, e4, e5, e6⟩)
  (clear c0 c1 c2 c3 c4 c5 c6 d0 d1 d2 d3 d4 d5 d6 d7 d8 d9 d10 d11 e0 e1 e2 e3 e4 e5 e6 e7 e8 e9 e10 e11 r0 r1 r2 r3 r4 r5 r6 r7 r8 r9 r10 r11 x0 x1 x2 x3 x4 x5 x6 x7 x8 x9 x10 x11; (replace Rc := Rc.drew); (replace Rd := Rd.drew); (replace Re := Re.drew); (replace Rr := Rr.drew); (replace Rx := Rx.drew); (replace hb0 := hb0.drew); (generalize World.drew (World.alloc (World.alloc (World.alloc (World.alloc (World.alloc w (.cells #[.int .i64 s.n, .int .i64 s.d0.kind, .int .i64 s.d0.side, .int .i64 s.d0.step, .int .i64 s.d1.kind, .int .i64 s.d1.side, .int .i64 s.d1.step] 26)) (.cells #[.int .i64 p.a0, .int .i64 p.a1, .int .i64 p.k0.kind, .int .i64 p.k0.len, .int .u64 p.k0.h, .int .u64 p.k0.l, .string ⟨p.k0.path.toArray⟩, .int .i64 p.k1.kind, .int .i64 p.k1.len, .int .u64 p.k1.h, .int .u64 p.k1.l, .string ⟨p.k1.path.toArray⟩] 33)) (.cells #[.int .i64 q.a0, .int .i64 q.a1, .int .i64 q.k0.kind, .int .i64 q.k0.len, .int .u64 q.k0.h, .int .u64 q.k0.l, .string ⟨q.k0.path.toArray⟩, .int .i64 q.k1.kind, .int .i64 q.k1.len, .int .u64 q.k1.h, .int .u64 q.k1.l, .string ⟨q.k1.path.toArray⟩] 33)) (.cells #[.int .i64 0, .int .i64 0, .int .i64 0, .int .i64 0, .int .u64 0, .int .u64 0, .string ⟨#[]⟩, .int .i64 0, .int .i64 0, .int .u64 0, .int .u64 0, .string ⟨#[]⟩] 33)) (.cells #[Value.int .i64 p.a0, Value.int .i64 p.a1, Value.int .i64 p.k0.kind, Value.int .i64 p.k0.len, Value.int .u64 p.k0.h, Value.int .u64 p.k0.l, Value.string ⟨p.k0.path.toArray⟩, Value.int .i64 p.k1.kind, Value.int .i64 p.k1.len, Value.int .u64 p.k1.h, Value.int .u64 p.k1.l, Value.string ⟨p.k1.path.toArray⟩] 33)) = wq at *))
  refine tk 0 ⟨some 24, .move (.tmp 9), 3, _, _, _⟩ hHeld ?_
  (try simp only [Act.put, nz1, nz2, nz3])
  refine tk 1 ⟨some 25, .move (.tmp 9), 3, _, _, _⟩ hHeld ?_
  (try simp only [Act.put, nz1, nz2, nz3])
  refine tk 2 ⟨some 26, .move (.tmp 10), 3, _, _, _⟩ hHeld ?_
  (try simp only [Act.put, nz1, nz2, nz3])
  refine tk 3 ⟨some 27, .move (.tmp 9), 3, _, _, _⟩ hHeld ?_
  (try simp only [Act.put, nz1, nz2, nz3])
  refine tk 4 ⟨some 28, .fieldAddr 33 (.tmp 5) 1, 0, _, _, _⟩ hHeld ?_
  (try simp only [Act.put, nz1, nz2, nz3])
  refine tk 5 ⟨some 29, .indexAddr 31 (.tmp 28) (.tmp 27), 0, _, _, _⟩ hHeld ?_
  (try simp only [Act.put, nz1, nz2, nz3])
  refine tk 6 ⟨some 30, .load 30 (.tmp 29), 30, _, _, _⟩ hHeld ?_
  (try simp only [Act.put, nz1, nz2, nz3])
  refine tk 7 ⟨some 31, .fieldAddr 33 (.tmp 8) 0, 0, _, _, _⟩ hHeld ?_
  (try simp only [Act.put, nz1, nz2, nz3])
  refine tk 8 ⟨some 32, .indexAddr 27 (.tmp 31) (.tmp 24), 0, _, _, _⟩ hHeld ?_
  (try simp only [Act.put, nz1, nz2, nz3])
  refine tk 10 ⟨some 33, .fieldAddr 33 (.tmp 8) 1, 0, _, _, _⟩ hHeld ?_
  (try simp only [Act.put, nz1, nz2, nz3])
  refine wpAnyH_ready (rs := [9]) (by kernel_rfl) (by simp) ?_
  refine AllReadyH.cons (o := ⟨none, .store 3 (.tmp 32) (.tmp 26), 0, _, _, _⟩) rfl (fun K hK => ?_) AllReadyH.nil
  ((obtain ⟨zc0, zd1, zd2, zd3, zd4, zd5, zd6, zd7, zd8, zd9, zd10, zd11⟩ := row12 Rx); (have zf0 := Rx.frozen 0); (have hHq := hHeld); (obtain ⟨e2, e3, e4, e5, e6⟩ := hHq); go_simp; clear zc0 zf0 zd1 zd2 zd3 zd4 zd5 zd6 zd7 zd8 zd9 zd10 zd11; (replace e2 := pcell_far (g := (w.heap.size + 1 + 1 + 1 + 1)) (o := 0) (vs := [Value.int .i64 q.a0]) e2 (by first | omega | (simp; done) | (simp; omega) | omega)); (replace e3 := pcell_far (g := (w.heap.size + 1 + 1 + 1 + 1)) (o := 0) (vs := [Value.int .i64 q.a0]) e3 (by first | omega | (simp; done) | (simp; omega) | omega)); (replace e4 := pcell_far (g := (w.heap.size + 1 + 1 + 1 + 1)) (o := 0) (vs := [Value.int .i64 q.a0]) e4 (by first | omega | (simp; done) | (simp; omega) | omega)); (replace e5 := pcell_far (g := (w.heap.size + 1 + 1 + 1 + 1)) (o := 0) (vs := [Value.int .i64 q.a0]) e5 (by first | omega | (simp; done) | (simp; omega) | omega)); (replace e6 := pcell_far (g := (w.heap.size + 1 + 1 + 1 + 1)) (o := 0) (vs := [Value.int .i64 q.a0]) e6 (by first | omega | (simp; done) | (simp; omega) | omega)); (replace Rc := prow_far (g := (w.heap.size + 1 + 1 + 1 + 1)) (o := 0) (vs := [Value.int .i64 q.a0]) Rc (by first | omega | (simp; done) | (simp; omega) | omega)); (replace Rd := prow_far (g := (w.heap.size + 1 + 1 + 1 + 1)) (o := 0) (vs := [Value.int .i64 q.a0]) Rd (by first | omega | (simp; done) | (simp; omega) | omega)); (replace Re := prow_far (g := (w.heap.size + 1 + 1 + 1 + 1)) (o := 0) (vs := [Value.int .i64 q.a0]) Re (by first | omega | (simp; done) | (simp; omega) | omega)); (replace Rr := prow_far (g := (w.heap.size + 1 + 1 + 1 + 1)) (o := 0) (vs := [Value.int .i64 q.a0]) Rr (by first | omega | (simp; done) | (simp; omega) | omega)); (replace hb0 := below_setCells (g := (w.heap.size + 1 + 1 + 1 + 1)) (by omega) [Value.int .i64 q.a0] 0 _ hb0); (replace Rx : Row (World.setCells wq (w.heap.size + 1 + 1 + 1 + 1) 0 [Value.int .i64 q.a0]) (w.heap.size + 1 + 1 + 1 + 1) #[.int .i64 q.a0, .int .i64 p.a1, .int .i64 p.k0.kind, .int .i64 p.k0.len, .int .u64 p.k0.h, .int .u64 p.k0.l, .string ⟨p.k0.path.toArray⟩, .int .i64 p.k1.kind, .int .i64 p.k1.len, .int .u64 p.k1.h, .int .u64 p.k1.l, .string ⟨p.k1.path.toArray⟩] 33 := Row.setMany Rx 0 [Value.int .i64 q.a0] (by simp [setL])); (simp only [World.setCells] at Rc Rd Re Rr Rx e2 e3 e4 e5 e6 hb0); generalize (World.setCell wq ⟨(w.heap.size + 1 + 1 + 1 + 1), 0, none⟩ (Value.int .i64 q.a0)) = wz at *)
  refine hK.out _ _ ?hSr48_11_9 (fun hHeld2 => ?_)
  case hSr48_11_9 => (exact ⟨e2, e3, e4, e5, e6⟩)
  clear hK K hHeld
  have hHeld := hHeld2
  clear hHeld2
  rename World => wq
  (try simp only [Act.put, nz1, nz2, nz3])
  refine tk 11 ⟨some 34, .indexAddr 31 (.tmp 33) (.tmp 25), 0, _, _, _⟩ hHeld ?_
  (try simp only [Act.put, nz1, nz2, nz3])
  refine wpAnyH_ready (rs := [12]) (by kernel_rfl) (by simp) ?_
  refine AllReadyH.cons (o := ⟨none, .store 30 (.tmp 34) (.tmp 30), 0, _, _, _⟩) rfl (fun K hK => ?_) AllReadyH.nil
  ((obtain ⟨zd0, zd1, zc0, zc1, zc2, zc3, zc4, zd7, zd8, zd9, zd10, zd11⟩ := row12 Rx); (have zf0 := Rx.frozen 2); (have zf1 := Rx.frozen 3); (have zf2 := Rx.frozen 4); (have zf3 := Rx.frozen 5); (have zf4 := Rx.frozen 6); (have hHq := hHeld); (obtain ⟨e2, e3, e4, e5, e6⟩ := hHq); go_simp; clear zc0 zf0 zc1 zf1 zc2 zf2 zc3 zf3 zc4 zf4 zd0 zd1 zd7 zd8 zd9 zd10 zd11; (replace e2 := pcell_far (g := (w.heap.size + 1 + 1 + 1 + 1)) (o := 2) (vs := [Value.int .i64 q.k0.kind, Value.int .i64 q.k0.len, Value.int .u64 q.k0.h, Value.int .u64 q.k0.l, Value.string ⟨q.k0.path.toArray⟩]) e2 (by first | omega | (simp; done) | (simp; omega) | omega)); (replace e3 := pcell_far (g := (w.heap.size + 1 + 1 + 1 + 1)) (o := 2) (vs := [Value.int .i64 q.k0.kind, Value.int .i64 q.k0.len, Value.int .u64 q.k0.h, Value.int .u64 q.k0.l, Value.string ⟨q.k0.path.toArray⟩]) e3 (by first | omega | (simp; done) | (simp; omega) | omega)); (replace e4 := pcell_far (g := (w.heap.size + 1 + 1 + 1 + 1)) (o := 2) (vs := [Value.int .i64 q.k0.kind, Value.int .i64 q.k0.len, Value.int .u64 q.k0.h, Value.int .u64 q.k0.l, Value.string ⟨q.k0.path.toArray⟩]) e4 (by first | omega | (simp; done) | (simp; omega) | omega)); (replace e5 := pcell_far (g := (w.heap.size + 1 + 1 + 1 + 1)) (o := 2) (vs := [Value.int .i64 q.k0.kind, Value.int .i64 q.k0.len, Value.int .u64 q.k0.h, Value.int .u64 q.k0.l, Value.string ⟨q.k0.path.toArray⟩]) e5 (by first | omega | (simp; done) | (simp; omega) | omega)); (replace e6 := pcell_far (g := (w.heap.size + 1 + 1 + 1 + 1)) (o := 2) (vs := [Value.int .i64 q.k0.kind, Value.int .i64 q.k0.len, Value.int .u64 q.k0.h, Value.int .u64 q.k0.l, Value.string ⟨q.k0.path.toArray⟩]) e6 (by first | omega | (simp; done) | (simp; omega) | omega)); (replace Rc := prow_far (g := (w.heap.size + 1 + 1 + 1 + 1)) (o := 2) (vs := [Value.int .i64 q.k0.kind, Value.int .i64 q.k0.len, Value.int .u64 q.k0.h, Value.int .u64 q.k0.l, Value.string ⟨q.k0.path.toArray⟩]) Rc (by first | omega | (simp; done) | (simp; omega) | omega)); (replace Rd := prow_far (g := (w.heap.size + 1 + 1 + 1 + 1)) (o := 2) (vs := [Value.int .i64 q.k0.kind, Value.int .i64 q.k0.len, Value.int .u64 q.k0.h, Value.int .u64 q.k0.l, Value.string ⟨q.k0.path.toArray⟩]) Rd (by first | omega | (simp; done) | (simp; omega) | omega)); (replace Re := prow_far (g := (w.heap.size + 1 + 1 + 1 + 1)) (o := 2) (vs := [Value.int .i64 q.k0.kind, Value.int .i64 q.k0.len, Value.int .u64 q.k0.h, Value.int .u64 q.k0.l, Value.string ⟨q.k0.path.toArray⟩]) Re (by first | omega | (simp; done) | (simp; omega) | omega)); (replace Rr := prow_far (g := (w.heap.size + 1 + 1 + 1 + 1)) (o := 2) (vs := [Value.int .i64 q.k0.kind, Value.int .i64 q.k0.len, Value.int .u64 q.k0.h, Value.int .u64 q.k0.l, Value.string ⟨q.k0.path.toArray⟩]) Rr (by first | omega | (simp; done) | (simp; omega) | omega)); (replace hb0 := below_setCells (g := (w.heap.size + 1 + 1 + 1 + 1)) (by omega) [Value.int .i64 q.k0.kind, Value.int .i64 q.k0.len, Value.int .u64 q.k0.h, Value.int .u64 q.k0.l, Value.string ⟨q.k0.path.toArray⟩] 2 _ hb0); (replace Rx : Row (World.setCells wq (w.heap.size + 1 + 1 + 1 + 1) 2 [Value.int .i64 q.k0.kind, Value.int .i64 q.k0.len, Value.int .u64 q.k0.h, Value.int .u64 q.k0.l, Value.string ⟨q.k0.path.toArray⟩]) (w.heap.size + 1 + 1 + 1 + 1) #[.int .i64 q.a0, .int .i64 p.a1, .int .i64 q.k0.kind, .int .i64 q.k0.len, .int .u64 q.k0.h, .int .u64 q.k0.l, .string ⟨q.k0.path.toArray⟩, .int .i64 p.k1.kind, .int .i64 p.k1.len, .int .u64 p.k1.h, .int .u64 p.k1.l, .string ⟨p.k1.path.toArray⟩] 33 := Row.setMany Rx 2 [Value.int .i64 q.k0.kind, Value.int .i64 q.k0.len, Value.int .u64 q.k0.h, Value.int .u64 q.k0.l, Value.string ⟨q.k0.path.toArray⟩] (by simp [setL])); (simp only [World.setCells] at Rc Rd Re Rr Rx e2 e3 e4 e5 e6 hb0); generalize (World.setCell (World.setCell (World.setCell (World.setCell (World.setCell wq ⟨(w.heap.size + 1 + 1 + 1 + 1), 2, none⟩ (Value.int .i64 q.k0.kind)) ⟨(w.heap.size + 1 + 1 + 1 + 1), 3, none⟩ (Value.int .i64 q.k0.len)) ⟨(w.heap.size + 1 + 1 + 1 + 1), 4, none⟩ (Value.int .u64 q.k0.h)) ⟨(w.heap.size + 1 + 1 + 1 + 1), 5, none⟩ (Value.int .u64 q.k0.l)) ⟨(w.heap.size + 1 + 1 + 1 + 1), 6, none⟩ (Value.string ⟨q.k0.path.toArray⟩)) = wz at *)
  refine hK.out _ _ ?hSr48_13_12 (fun hHeld2 => ?_)
  case hSr48_13_12 => (exact ⟨e2, e3, e4, e5, e6⟩)
  clear hK K hHeld
  have hHeld := hHeld2
  clear hHeld2
  rename World => wq
  (try simp only [Act.put, nz1, nz2, nz3])
  refine wpAnyH_done (by kernel_rfl) ?_ _
  clear hHeld
  rename World => w1
  have lc := Rc.lt
  have ld := Rd.lt
  have le := Re.lt
  have lr := Rr.lt
  have lx := Rx.lt
  (try clear c0 c1 c2 c3 c4 c5 c6); obtain ⟨c0, c1, c2, c3, c4, c5, c6⟩ := row7 Rc
  (try clear d0 d1 d2 d3 d4 d5 d6 d7 d8 d9 d10 d11); obtain ⟨d0, d1, d2, d3, d4, d5, d6, d7, d8, d9, d10, d11⟩ := row12 Rd
  (try clear e0 e1 e2 e3 e4 e5 e6 e7 e8 e9 e10 e11); obtain ⟨e0, e1, e2, e3, e4, e5, e6, e7, e8, e9, e10, e11⟩ := row12 Re
  (try clear r0 r1 r2 r3 r4 r5 r6 r7 r8 r9 r10 r11); obtain ⟨r0, r1, r2, r3, r4, r5, r6, r7, r8, r9, r10, r11⟩ := row12 Rr
  (try clear x0 x1 x2 x3 x4 x5 x6 x7 x8 x9 x10 x11); obtain ⟨x0, x1, x2, x3, x4, x5, x6, x7, x8, x9, x10, x11⟩ := row12 Rx
  go_wp2_with fail
  rw [rounds_succ]
  go_wp2_with fail
  refine wp_region_held_drew (S := (fun w' => w'.cell? ⟨w.heap.size + 1 + 1, 7, none⟩ = some (Value.int .i64 q.k1.kind) ∧ w'.cell? ⟨w.heap.size + 1 + 1, 8, none⟩ = some (Value.int .i64 q.k1.len) ∧ w'.cell? ⟨w.heap.size + 1 + 1, 9, none⟩ = some (Value.int .u64 q.k1.h) ∧ w'.cell? ⟨w.heap.size + 1 + 1, 10, none⟩ = some (Value.int .u64 q.k1.l) ∧ w'.cell? ⟨w.heap.size + 1 + 1, 11, none⟩ = some (Value.string ⟨q.k1.path.toArray⟩))) (by kernel_rfl) ?hSr49_ (fun hHeld => ?_)
  case hSr49_ => (exact ⟨e7, e8, e9, e10, e11⟩)
  (clear c0 c1 c2 c3 c4 c5 c6 d0 d1 d2 d3 d4 d5 d6 d7 d8 d9 d10 d11 e0 e1 e2 e3 e4 e5 e6 e7 e8 e9 e10 e11 r0 r1 r2 r3 r4 r5 r6 r7 r8 r9 r10 r11 x0 x1 x2 x3 x4 x5 x6 x7 x8 x9 x10 x11; (replace Rc := Rc.drew); (replace Rd := Rd.drew); (replace Re := Re.drew); (replace Rr := Rr.drew); (replace Rx := Rx.drew); (replace hb0 := hb0.drew); (generalize World.drew w1 = wq at *))
  refine tk 0 ⟨some 24, .move (.tmp 9), 3, _, _, _⟩ hHeld ?_
  (try simp only [Act.put, nz1, nz2, nz3])
  refine tk 1 ⟨some 25, .move (.tmp 9), 3, _, _, _⟩ hHeld ?_
  (try simp only [Act.put, nz1, nz2, nz3])
  refine tk 2 ⟨some 26, .move (.tmp 10), 3, _, _, _⟩ hHeld ?_
  (try simp only [Act.put, nz1, nz2, nz3])
  refine tk 3 ⟨some 27, .move (.tmp 9), 3, _, _, _⟩ hHeld ?_
  (try simp only [Act.put, nz1, nz2, nz3])
  refine tk 4 ⟨some 28, .fieldAddr 33 (.tmp 5) 1, 0, _, _, _⟩ hHeld ?_
  (try simp only [Act.put, nz1, nz2, nz3])
  refine tk 5 ⟨some 29, .indexAddr 31 (.tmp 28) (.tmp 27), 0, _, _, _⟩ hHeld ?_
  (try simp only [Act.put, nz1, nz2, nz3])
  refine tk 6 ⟨some 30, .load 30 (.tmp 29), 30, _, _, _⟩ hHeld ?_
  (try simp only [Act.put, nz1, nz2, nz3])
  refine tk 7 ⟨some 31, .fieldAddr 33 (.tmp 8) 0, 0, _, _, _⟩ hHeld ?_
  (try simp only [Act.put, nz1, nz2, nz3])
  refine tk 8 ⟨some 32, .indexAddr 27 (.tmp 31) (.tmp 24), 0, _, _, _⟩ hHeld ?_
  (try simp only [Act.put, nz1, nz2, nz3])
  refine tk 10 ⟨some 33, .fieldAddr 33 (.tmp 8) 1, 0, _, _, _⟩ hHeld ?_
  (try simp only [Act.put, nz1, nz2, nz3])
  refine wpAnyH_ready (rs := [9]) (by kernel_rfl) (by simp) ?_
  refine AllReadyH.cons (o := ⟨none, .store 3 (.tmp 32) (.tmp 26), 0, _, _, _⟩) rfl (fun K hK => ?_) AllReadyH.nil
  ((obtain ⟨zd0, zc0, zd2, zd3, zd4, zd5, zd6, zd7, zd8, zd9, zd10, zd11⟩ := row12 Rx); (have zf0 := Rx.frozen 1); (have hHq := hHeld); (obtain ⟨e7, e8, e9, e10, e11⟩ := hHq); go_simp; clear zc0 zf0 zd0 zd2 zd3 zd4 zd5 zd6 zd7 zd8 zd9 zd10 zd11; (replace e7 := pcell_far (g := (w.heap.size + 1 + 1 + 1 + 1)) (o := 1) (vs := [Value.int .i64 q.a1]) e7 (by first | omega | (simp; done) | (simp; omega) | omega)); (replace e8 := pcell_far (g := (w.heap.size + 1 + 1 + 1 + 1)) (o := 1) (vs := [Value.int .i64 q.a1]) e8 (by first | omega | (simp; done) | (simp; omega) | omega)); (replace e9 := pcell_far (g := (w.heap.size + 1 + 1 + 1 + 1)) (o := 1) (vs := [Value.int .i64 q.a1]) e9 (by first | omega | (simp; done) | (simp; omega) | omega)); (replace e10 := pcell_far (g := (w.heap.size + 1 + 1 + 1 + 1)) (o := 1) (vs := [Value.int .i64 q.a1]) e10 (by first | omega | (simp; done) | (simp; omega) | omega)); (replace e11 := pcell_far (g := (w.heap.size + 1 + 1 + 1 + 1)) (o := 1) (vs := [Value.int .i64 q.a1]) e11 (by first | omega | (simp; done) | (simp; omega) | omega)); (replace Rc := prow_far (g := (w.heap.size + 1 + 1 + 1 + 1)) (o := 1) (vs := [Value.int .i64 q.a1]) Rc (by first | omega | (simp; done) | (simp; omega) | omega)); (replace Rd := prow_far (g := (w.heap.size + 1 + 1 + 1 + 1)) (o := 1) (vs := [Value.int .i64 q.a1]) Rd (by first | omega | (simp; done) | (simp; omega) | omega)); (replace Re := prow_far (g := (w.heap.size + 1 + 1 + 1 + 1)) (o := 1) (vs := [Value.int .i64 q.a1]) Re (by first | omega | (simp; done) | (simp; omega) | omega)); (replace Rr := prow_far (g := (w.heap.size + 1 + 1 + 1 + 1)) (o := 1) (vs := [Value.int .i64 q.a1]) Rr (by first | omega | (simp; done) | (simp; omega) | omega)); (replace hb0 := below_setCells (g := (w.heap.size + 1 + 1 + 1 + 1)) (by omega) [Value.int .i64 q.a1] 1 _ hb0); (replace Rx : Row (World.setCells wq (w.heap.size + 1 + 1 + 1 + 1) 1 [Value.int .i64 q.a1]) (w.heap.size + 1 + 1 + 1 + 1) #[.int .i64 q.a0, .int .i64 q.a1, .int .i64 q.k0.kind, .int .i64 q.k0.len, .int .u64 q.k0.h, .int .u64 q.k0.l, .string ⟨q.k0.path.toArray⟩, .int .i64 p.k1.kind, .int .i64 p.k1.len, .int .u64 p.k1.h, .int .u64 p.k1.l, .string ⟨p.k1.path.toArray⟩] 33 := Row.setMany Rx 1 [Value.int .i64 q.a1] (by simp [setL])); (simp only [World.setCells] at Rc Rd Re Rr Rx e7 e8 e9 e10 e11 hb0); generalize (World.setCell wq ⟨(w.heap.size + 1 + 1 + 1 + 1), 1, none⟩ (Value.int .i64 q.a1)) = wz at *)
  refine hK.out _ _ ?hSr49_11_9 (fun hHeld2 => ?_)
  case hSr49_11_9 => (exact ⟨e7, e8, e9, e10, e11⟩)
  clear hK K hHeld
  have hHeld := hHeld2
  clear hHeld2
  rename World => wq
  (try simp only [Act.put, nz1, nz2, nz3])
  refine tk 11 ⟨some 34, .indexAddr 31 (.tmp 33) (.tmp 25), 0, _, _, _⟩ hHeld ?_
  (try simp only [Act.put, nz1, nz2, nz3])
  refine wpAnyH_ready (rs := [12]) (by kernel_rfl) (by simp) ?_
  refine AllReadyH.cons (o := ⟨none, .store 30 (.tmp 34) (.tmp 30), 0, _, _, _⟩) rfl (fun K hK => ?_) AllReadyH.nil
  ((obtain ⟨zd0, zd1, zd2, zd3, zd4, zd5, zd6, zc0, zc1, zc2, zc3, zc4⟩ := row12 Rx); (have zf0 := Rx.frozen 7); (have zf1 := Rx.frozen 8); (have zf2 := Rx.frozen 9); (have zf3 := Rx.frozen 10); (have zf4 := Rx.frozen 11); (have hHq := hHeld); (obtain ⟨e7, e8, e9, e10, e11⟩ := hHq); go_simp; clear zc0 zf0 zc1 zf1 zc2 zf2 zc3 zf3 zc4 zf4 zd0 zd1 zd2 zd3 zd4 zd5 zd6; (replace e7 := pcell_far (g := (w.heap.size + 1 + 1 + 1 + 1)) (o := 7) (vs := [Value.int .i64 q.k1.kind, Value.int .i64 q.k1.len, Value.int .u64 q.k1.h, Value.int .u64 q.k1.l, Value.string ⟨q.k1.path.toArray⟩]) e7 (by first | omega | (simp; done) | (simp; omega) | omega)); (replace e8 := pcell_far (g := (w.heap.size + 1 + 1 + 1 + 1)) (o := 7) (vs := [Value.int .i64 q.k1.kind, Value.int .i64 q.k1.len, Value.int .u64 q.k1.h, Value.int .u64 q.k1.l, Value.string ⟨q.k1.path.toArray⟩]) e8 (by first | omega | (simp; done) | (simp; omega) | omega)); (replace e9 := pcell_far (g := (w.heap.size + 1 + 1 + 1 + 1)) (o := 7) (vs := [Value.int .i64 q.k1.kind, Value.int .i64 q.k1.len, Value.int .u64 q.k1.h, Value.int .u64 q.k1.l, Value.string ⟨q.k1.path.toArray⟩]) e9 (by first | omega | (simp; done) | (simp; omega) | omega)); (replace e10 := pcell_far (g := (w.heap.size + 1 + 1 + 1 + 1)) (o := 7) (vs := [Value.int .i64 q.k1.kind, Value.int .i64 q.k1.len, Value.int .u64 q.k1.h, Value.int .u64 q.k1.l, Value.string ⟨q.k1.path.toArray⟩]) e10 (by first | omega | (simp; done) | (simp; omega) | omega)); (replace e11 := pcell_far (g := (w.heap.size + 1 + 1 + 1 + 1)) (o := 7) (vs := [Value.int .i64 q.k1.kind, Value.int .i64 q.k1.len, Value.int .u64 q.k1.h, Value.int .u64 q.k1.l, Value.string ⟨q.k1.path.toArray⟩]) e11 (by first | omega | (simp; done) | (simp; omega) | omega)); (replace Rc := prow_far (g := (w.heap.size + 1 + 1 + 1 + 1)) (o := 7) (vs := [Value.int .i64 q.k1.kind, Value.int .i64 q.k1.len, Value.int .u64 q.k1.h, Value.int .u64 q.k1.l, Value.string ⟨q.k1.path.toArray⟩]) Rc (by first | omega | (simp; done) | (simp; omega) | omega)); (replace Rd := prow_far (g := (w.heap.size + 1 + 1 + 1 + 1)) (o := 7) (vs := [Value.int .i64 q.k1.kind, Value.int .i64 q.k1.len, Value.int .u64 q.k1.h, Value.int .u64 q.k1.l, Value.string ⟨q.k1.path.toArray⟩]) Rd (by first | omega | (simp; done) | (simp; omega) | omega)); (replace Re := prow_far (g := (w.heap.size + 1 + 1 + 1 + 1)) (o := 7) (vs := [Value.int .i64 q.k1.kind, Value.int .i64 q.k1.len, Value.int .u64 q.k1.h, Value.int .u64 q.k1.l, Value.string ⟨q.k1.path.toArray⟩]) Re (by first | omega | (simp; done) | (simp; omega) | omega)); (replace Rr := prow_far (g := (w.heap.size + 1 + 1 + 1 + 1)) (o := 7) (vs := [Value.int .i64 q.k1.kind, Value.int .i64 q.k1.len, Value.int .u64 q.k1.h, Value.int .u64 q.k1.l, Value.string ⟨q.k1.path.toArray⟩]) Rr (by first | omega | (simp; done) | (simp; omega) | omega)); (replace hb0 := below_setCells (g := (w.heap.size + 1 + 1 + 1 + 1)) (by omega) [Value.int .i64 q.k1.kind, Value.int .i64 q.k1.len, Value.int .u64 q.k1.h, Value.int .u64 q.k1.l, Value.string ⟨q.k1.path.toArray⟩] 7 _ hb0); (replace Rx : Row (World.setCells wq (w.heap.size + 1 + 1 + 1 + 1) 7 [Value.int .i64 q.k1.kind, Value.int .i64 q.k1.len, Value.int .u64 q.k1.h, Value.int .u64 q.k1.l, Value.string ⟨q.k1.path.toArray⟩]) (w.heap.size + 1 + 1 + 1 + 1) #[.int .i64 q.a0, .int .i64 q.a1, .int .i64 q.k0.kind, .int .i64 q.k0.len, .int .u64 q.k0.h, .int .u64 q.k0.l, .string ⟨q.k0.path.toArray⟩, .int .i64 q.k1.kind, .int .i64 q.k1.len, .int .u64 q.k1.h, .int .u64 q.k1.l, .string ⟨q.k1.path.toArray⟩] 33 := Row.setMany Rx 7 [Value.int .i64 q.k1.kind, Value.int .i64 q.k1.len, Value.int .u64 q.k1.h, Value.int .u64 q.k1.l, Value.string ⟨q.k1.path.toArray⟩] (by simp [setL])); (simp only [World.setCells] at Rc Rd Re Rr Rx e7 e8 e9 e10 e11 hb0); generalize (World.setCell (World.setCell (World.setCell (World.setCell (World.setCell wq ⟨(w.heap.size + 1 + 1 + 1 + 1), 7, none⟩ (Value.int .i64 q.k1.kind)) ⟨(w.heap.size + 1 + 1 + 1 + 1), 8, none⟩ (Value.int .i64 q.k1.len)) ⟨(w.heap.size + 1 + 1 + 1 + 1), 9, none⟩ (Value.int .u64 q.k1.h)) ⟨(w.heap.size + 1 + 1 + 1 + 1), 10, none⟩ (Value.int .u64 q.k1.l)) ⟨(w.heap.size + 1 + 1 + 1 + 1), 11, none⟩ (Value.string ⟨q.k1.path.toArray⟩)) = wz at *)
  refine hK.out _ _ ?hSr49_13_12 (fun hHeld2 => ?_)
  case hSr49_13_12 => (exact ⟨e7, e8, e9, e10, e11⟩)
  clear hK K hHeld
  have hHeld := hHeld2
  clear hHeld2
  rename World => wq
  (try simp only [Act.put, nz1, nz2, nz3])
  refine wpAnyH_done (by kernel_rfl) ?_ _
  clear hHeld
  rename World => w2
  have lc := Rc.lt
  have ld := Rd.lt
  have le := Re.lt
  have lr := Rr.lt
  have lx := Rx.lt
  (try clear c0 c1 c2 c3 c4 c5 c6); obtain ⟨c0, c1, c2, c3, c4, c5, c6⟩ := row7 Rc
  (try clear d0 d1 d2 d3 d4 d5 d6 d7 d8 d9 d10 d11); obtain ⟨d0, d1, d2, d3, d4, d5, d6, d7, d8, d9, d10, d11⟩ := row12 Rd
  (try clear e0 e1 e2 e3 e4 e5 e6 e7 e8 e9 e10 e11); obtain ⟨e0, e1, e2, e3, e4, e5, e6, e7, e8, e9, e10, e11⟩ := row12 Re
  (try clear r0 r1 r2 r3 r4 r5 r6 r7 r8 r9 r10 r11); obtain ⟨r0, r1, r2, r3, r4, r5, r6, r7, r8, r9, r10, r11⟩ := row12 Rr
  (try clear x0 x1 x2 x3 x4 x5 x6 x7 x8 x9 x10 x11); obtain ⟨x0, x1, x2, x3, x4, x5, x6, x7, x8, x9, x10, x11⟩ := row12 Rx
  go_wp2_with fail
  rw [rounds_succ]
  cases o1 with
  | false =>
    go_wp2_with fail
    refine (HO1 _).mono ?_
    rintro e w3 ⟨rfl, hb⟩
    replace Rc := Rc.later hb
    replace Rd := Rd.later hb
    replace Re := Re.later hb
    replace Rr := Rr.later hb
    replace Rx := Rx.later hb
    replace hb0 := below_step hb0 hb
    clear hb
    have lc := Rc.lt
    have ld := Rd.lt
    have le := Re.lt
    have lr := Rr.lt
    have lx := Rx.lt
    (try clear c0 c1 c2 c3 c4 c5 c6); obtain ⟨c0, c1, c2, c3, c4, c5, c6⟩ := row7 Rc
    (try clear d0 d1 d2 d3 d4 d5 d6 d7 d8 d9 d10 d11); obtain ⟨d0, d1, d2, d3, d4, d5, d6, d7, d8, d9, d10, d11⟩ := row12 Rd
    (try clear e0 e1 e2 e3 e4 e5 e6 e7 e8 e9 e10 e11); obtain ⟨e0, e1, e2, e3, e4, e5, e6, e7, e8, e9, e10, e11⟩ := row12 Re
    (try clear r0 r1 r2 r3 r4 r5 r6 r7 r8 r9 r10 r11); obtain ⟨r0, r1, r2, r3, r4, r5, r6, r7, r8, r9, r10, r11⟩ := row12 Rr
    (try clear x0 x1 x2 x3 x4 x5 x6 x7 x8 x9 x10 x11); obtain ⟨x0, x1, x2, x3, x4, x5, x6, x7, x8, x9, x10, x11⟩ := row12 Rx
    have rf0 := Rr.frozen 0
    have rf1 := Rr.frozen 1
    have rf2 := Rr.frozen 2
    have rf3 := Rr.frozen 3
    have rf4 := Rr.frozen 4
    have rf5 := Rr.frozen 5
    have rf6 := Rr.frozen 6
    have rf7 := Rr.frozen 7
    have rf8 := Rr.frozen 8
    have rf9 := Rr.frozen 9
    have rf10 := Rr.frozen 10
    have rf11 := Rr.frozen 11
    go_wp2
    clear c0 c1 c2 c3 c4 c5 c6
    clear d0 d1 d2 d3 d4 d5 d6 d7 d8 d9 d10 d11
    clear e0 e1 e2 e3 e4 e5 e6 e7 e8 e9 e10 e11
    obtain ⟨w4, hwn⟩ : ∃ wz, wz = (World.setCell (World.setCell (World.setCell (World.setCell (World.setCell (World.setCell (World.setCell (World.setCell (World.setCell (World.setCell (World.setCell (World.setCell w3 ⟨(w.heap.size + 1 + 1 + 1), 0, none⟩ (.int .i64 0)) ⟨(w.heap.size + 1 + 1 + 1), 1, none⟩ (.int .i64 0)) ⟨(w.heap.size + 1 + 1 + 1), 2, none⟩ (.int .i64 0)) ⟨(w.heap.size + 1 + 1 + 1), 3, none⟩ (.int .i64 0)) ⟨(w.heap.size + 1 + 1 + 1), 4, none⟩ (.int .u64 0)) ⟨(w.heap.size + 1 + 1 + 1), 5, none⟩ (.int .u64 0)) ⟨(w.heap.size + 1 + 1 + 1), 6, none⟩ (.string ⟨#[]⟩)) ⟨(w.heap.size + 1 + 1 + 1), 7, none⟩ (.int .i64 0)) ⟨(w.heap.size + 1 + 1 + 1), 8, none⟩ (.int .i64 0)) ⟨(w.heap.size + 1 + 1 + 1), 9, none⟩ (.int .u64 0)) ⟨(w.heap.size + 1 + 1 + 1), 10, none⟩ (.int .u64 0)) ⟨(w.heap.size + 1 + 1 + 1), 11, none⟩ (.string ⟨#[]⟩)) := ⟨_, rfl⟩
    rw [← hwn]
    replace hwn : w4 = World.setCells w3 (w.heap.size + 1 + 1 + 1) 0 [.int .i64 0, .int .i64 0, .int .i64 0, .int .i64 0, .int .u64 0, .int .u64 0, .string ⟨#[]⟩, .int .i64 0, .int .i64 0, .int .u64 0, .int .u64 0, .string ⟨#[]⟩] := hwn
    replace Rr : Row w4 (w.heap.size + 1 + 1 + 1) #[.int .i64 0, .int .i64 0, .int .i64 0, .int .i64 0, .int .u64 0, .int .u64 0, .string ⟨#[]⟩, .int .i64 0, .int .i64 0, .int .u64 0, .int .u64 0, .string ⟨#[]⟩] 33 := psm hwn Rr (by simp [setL])
    replace Rc := prf hwn Rc
    replace Rd := prf hwn Rd
    replace Re := prf hwn Re
    replace Rx := prf hwn Rx
    replace hb0 := pbl hwn hb0
    clear hwn r0 r1 r2 r3 r4 r5 r6 r7 r8 r9 r10 r11 x0 x1 x2 x3 x4 x5 x6 x7 x8 x9 x10 x11
    (try clear rf0 rf1 rf2 rf3 rf4 rf5 rf6 rf7 rf8 rf9 rf10 rf11)
    (try clear r0 r1 r2 r3 r4 r5 r6 r7 r8 r9 r10 r11); obtain ⟨r0, r1, r2, r3, r4, r5, r6, r7, r8, r9, r10, r11⟩ := row12 Rr
    (try clear x0 x1 x2 x3 x4 x5 x6 x7 x8 x9 x10 x11); obtain ⟨x0, x1, x2, x3, x4, x5, x6, x7, x8, x9, x10, x11⟩ := row12 Rx
    refine bodyPost_ret (v := .tuple #[.agg #[.int .i64 0, .int .i64 0, .int .i64 0, .int .i64 0, .int .u64 0, .int .u64 0, .string ⟨#[]⟩, .int .i64 0, .int .i64 0, .int .u64 0, .int .u64 0, .string ⟨#[]⟩], .bool false]) (by simp [results, Try.results30, go_sem, r0, r1, r2, r3, r4, r5, r6, r7, r8, r9, r10, r11]) rfl ⟨rfl, hb0⟩
  | true =>
    cases o2 with
    | false =>
      go_wp2_with fail
      refine (HO1 _).mono ?_
      rintro e w3 ⟨rfl, hb⟩
      replace Rc := Rc.later hb
      replace Rd := Rd.later hb
      replace Re := Re.later hb
      replace Rr := Rr.later hb
      replace Rx := Rx.later hb
      replace hb0 := below_step hb0 hb
      clear hb
      have lc := Rc.lt
      have ld := Rd.lt
      have le := Re.lt
      have lr := Rr.lt
      have lx := Rx.lt
      (try clear c0 c1 c2 c3 c4 c5 c6); obtain ⟨c0, c1, c2, c3, c4, c5, c6⟩ := row7 Rc
      (try clear d0 d1 d2 d3 d4 d5 d6 d7 d8 d9 d10 d11); obtain ⟨d0, d1, d2, d3, d4, d5, d6, d7, d8, d9, d10, d11⟩ := row12 Rd
      (try clear e0 e1 e2 e3 e4 e5 e6 e7 e8 e9 e10 e11); obtain ⟨e0, e1, e2, e3, e4, e5, e6, e7, e8, e9, e10, e11⟩ := row12 Re
      (try clear r0 r1 r2 r3 r4 r5 r6 r7 r8 r9 r10 r11); obtain ⟨r0, r1, r2, r3, r4, r5, r6, r7, r8, r9, r10, r11⟩ := row12 Rr
      (try clear x0 x1 x2 x3 x4 x5 x6 x7 x8 x9 x10 x11); obtain ⟨x0, x1, x2, x3, x4, x5, x6, x7, x8, x9, x10, x11⟩ := row12 Rx
      go_wp2_with fail
      refine (HO2 _).mono ?_
      rintro e w4 ⟨rfl, hb⟩
      replace Rc := Rc.later hb
      replace Rd := Rd.later hb
      replace Re := Re.later hb
      replace Rr := Rr.later hb
      replace Rx := Rx.later hb
      replace hb0 := below_step hb0 hb
      clear hb
      have lc := Rc.lt
      have ld := Rd.lt
      have le := Re.lt
      have lr := Rr.lt
      have lx := Rx.lt
      (try clear c0 c1 c2 c3 c4 c5 c6); obtain ⟨c0, c1, c2, c3, c4, c5, c6⟩ := row7 Rc
      (try clear d0 d1 d2 d3 d4 d5 d6 d7 d8 d9 d10 d11); obtain ⟨d0, d1, d2, d3, d4, d5, d6, d7, d8, d9, d10, d11⟩ := row12 Rd
      (try clear e0 e1 e2 e3 e4 e5 e6 e7 e8 e9 e10 e11); obtain ⟨e0, e1, e2, e3, e4, e5, e6, e7, e8, e9, e10, e11⟩ := row12 Re
      (try clear r0 r1 r2 r3 r4 r5 r6 r7 r8 r9 r10 r11); obtain ⟨r0, r1, r2, r3, r4, r5, r6, r7, r8, r9, r10, r11⟩ := row12 Rr
      (try clear x0 x1 x2 x3 x4 x5 x6 x7 x8 x9 x10 x11); obtain ⟨x0, x1, x2, x3, x4, x5, x6, x7, x8, x9, x10, x11⟩ := row12 Rx
      have rf0 := Rr.frozen 0
      have rf1 := Rr.frozen 1
      have rf2 := Rr.frozen 2
      have rf3 := Rr.frozen 3
      have rf4 := Rr.frozen 4
      have rf5 := Rr.frozen 5
      have rf6 := Rr.frozen 6
      have rf7 := Rr.frozen 7
      have rf8 := Rr.frozen 8
      have rf9 := Rr.frozen 9
      have rf10 := Rr.frozen 10
      have rf11 := Rr.frozen 11
      go_wp2
      clear c0 c1 c2 c3 c4 c5 c6
      clear d0 d1 d2 d3 d4 d5 d6 d7 d8 d9 d10 d11
      clear e0 e1 e2 e3 e4 e5 e6 e7 e8 e9 e10 e11
      obtain ⟨w5, hwn⟩ : ∃ wz, wz = (World.setCell (World.setCell (World.setCell (World.setCell (World.setCell (World.setCell (World.setCell (World.setCell (World.setCell (World.setCell (World.setCell (World.setCell w4 ⟨(w.heap.size + 1 + 1 + 1), 0, none⟩ (.int .i64 0)) ⟨(w.heap.size + 1 + 1 + 1), 1, none⟩ (.int .i64 0)) ⟨(w.heap.size + 1 + 1 + 1), 2, none⟩ (.int .i64 0)) ⟨(w.heap.size + 1 + 1 + 1), 3, none⟩ (.int .i64 0)) ⟨(w.heap.size + 1 + 1 + 1), 4, none⟩ (.int .u64 0)) ⟨(w.heap.size + 1 + 1 + 1), 5, none⟩ (.int .u64 0)) ⟨(w.heap.size + 1 + 1 + 1), 6, none⟩ (.string ⟨#[]⟩)) ⟨(w.heap.size + 1 + 1 + 1), 7, none⟩ (.int .i64 0)) ⟨(w.heap.size + 1 + 1 + 1), 8, none⟩ (.int .i64 0)) ⟨(w.heap.size + 1 + 1 + 1), 9, none⟩ (.int .u64 0)) ⟨(w.heap.size + 1 + 1 + 1), 10, none⟩ (.int .u64 0)) ⟨(w.heap.size + 1 + 1 + 1), 11, none⟩ (.string ⟨#[]⟩)) := ⟨_, rfl⟩
      rw [← hwn]
      replace hwn : w5 = World.setCells w4 (w.heap.size + 1 + 1 + 1) 0 [.int .i64 0, .int .i64 0, .int .i64 0, .int .i64 0, .int .u64 0, .int .u64 0, .string ⟨#[]⟩, .int .i64 0, .int .i64 0, .int .u64 0, .int .u64 0, .string ⟨#[]⟩] := hwn
      replace Rr : Row w5 (w.heap.size + 1 + 1 + 1) #[.int .i64 0, .int .i64 0, .int .i64 0, .int .i64 0, .int .u64 0, .int .u64 0, .string ⟨#[]⟩, .int .i64 0, .int .i64 0, .int .u64 0, .int .u64 0, .string ⟨#[]⟩] 33 := psm hwn Rr (by simp [setL])
      replace Rc := prf hwn Rc
      replace Rd := prf hwn Rd
      replace Re := prf hwn Re
      replace Rx := prf hwn Rx
      replace hb0 := pbl hwn hb0
      clear hwn r0 r1 r2 r3 r4 r5 r6 r7 r8 r9 r10 r11 x0 x1 x2 x3 x4 x5 x6 x7 x8 x9 x10 x11
      (try clear rf0 rf1 rf2 rf3 rf4 rf5 rf6 rf7 rf8 rf9 rf10 rf11)
      (try clear r0 r1 r2 r3 r4 r5 r6 r7 r8 r9 r10 r11); obtain ⟨r0, r1, r2, r3, r4, r5, r6, r7, r8, r9, r10, r11⟩ := row12 Rr
      (try clear x0 x1 x2 x3 x4 x5 x6 x7 x8 x9 x10 x11); obtain ⟨x0, x1, x2, x3, x4, x5, x6, x7, x8, x9, x10, x11⟩ := row12 Rx
      refine bodyPost_ret (v := .tuple #[.agg #[.int .i64 0, .int .i64 0, .int .i64 0, .int .i64 0, .int .u64 0, .int .u64 0, .string ⟨#[]⟩, .int .i64 0, .int .i64 0, .int .u64 0, .int .u64 0, .string ⟨#[]⟩], .bool false]) (by simp [results, Try.results30, go_sem, r0, r1, r2, r3, r4, r5, r6, r7, r8, r9, r10, r11]) rfl ⟨rfl, hb0⟩
    | true =>
      go_wp2_with fail
      refine (HO1 _).mono ?_
      rintro e w3 ⟨rfl, hb⟩
      replace Rc := Rc.later hb
      replace Rd := Rd.later hb
      replace Re := Re.later hb
      replace Rr := Rr.later hb
      replace Rx := Rx.later hb
      replace hb0 := below_step hb0 hb
      clear hb
      have lc := Rc.lt
      have ld := Rd.lt
      have le := Re.lt
      have lr := Rr.lt
      have lx := Rx.lt
      (try clear c0 c1 c2 c3 c4 c5 c6); obtain ⟨c0, c1, c2, c3, c4, c5, c6⟩ := row7 Rc
      (try clear d0 d1 d2 d3 d4 d5 d6 d7 d8 d9 d10 d11); obtain ⟨d0, d1, d2, d3, d4, d5, d6, d7, d8, d9, d10, d11⟩ := row12 Rd
      (try clear e0 e1 e2 e3 e4 e5 e6 e7 e8 e9 e10 e11); obtain ⟨e0, e1, e2, e3, e4, e5, e6, e7, e8, e9, e10, e11⟩ := row12 Re
      (try clear r0 r1 r2 r3 r4 r5 r6 r7 r8 r9 r10 r11); obtain ⟨r0, r1, r2, r3, r4, r5, r6, r7, r8, r9, r10, r11⟩ := row12 Rr
      (try clear x0 x1 x2 x3 x4 x5 x6 x7 x8 x9 x10 x11); obtain ⟨x0, x1, x2, x3, x4, x5, x6, x7, x8, x9, x10, x11⟩ := row12 Rx
      go_wp2_with fail
      refine (HO2 _).mono ?_
      rintro e w4 ⟨rfl, hb⟩
      replace Rc := Rc.later hb
      replace Rd := Rd.later hb
      replace Re := Re.later hb
      replace Rr := Rr.later hb
      replace Rx := Rx.later hb
      replace hb0 := below_step hb0 hb
      clear hb
      have lc := Rc.lt
      have ld := Rd.lt
      have le := Re.lt
      have lr := Rr.lt
      have lx := Rx.lt
      (try clear c0 c1 c2 c3 c4 c5 c6); obtain ⟨c0, c1, c2, c3, c4, c5, c6⟩ := row7 Rc
      (try clear d0 d1 d2 d3 d4 d5 d6 d7 d8 d9 d10 d11); obtain ⟨d0, d1, d2, d3, d4, d5, d6, d7, d8, d9, d10, d11⟩ := row12 Rd
      (try clear e0 e1 e2 e3 e4 e5 e6 e7 e8 e9 e10 e11); obtain ⟨e0, e1, e2, e3, e4, e5, e6, e7, e8, e9, e10, e11⟩ := row12 Re
      (try clear r0 r1 r2 r3 r4 r5 r6 r7 r8 r9 r10 r11); obtain ⟨r0, r1, r2, r3, r4, r5, r6, r7, r8, r9, r10, r11⟩ := row12 Rr
      (try clear x0 x1 x2 x3 x4 x5 x6 x7 x8 x9 x10 x11); obtain ⟨x0, x1, x2, x3, x4, x5, x6, x7, x8, x9, x10, x11⟩ := row12 Rx
      have rf0 := Rr.frozen 0
      have rf1 := Rr.frozen 1
      have rf2 := Rr.frozen 2
      have rf3 := Rr.frozen 3
      have rf4 := Rr.frozen 4
      have rf5 := Rr.frozen 5
      have rf6 := Rr.frozen 6
      have rf7 := Rr.frozen 7
      have rf8 := Rr.frozen 8
      have rf9 := Rr.frozen 9
      have rf10 := Rr.frozen 10
      have rf11 := Rr.frozen 11
      go_wp2
      clear c0 c1 c2 c3 c4 c5 c6
      clear d0 d1 d2 d3 d4 d5 d6 d7 d8 d9 d10 d11
      clear e0 e1 e2 e3 e4 e5 e6 e7 e8 e9 e10 e11
      obtain ⟨w5, hwn⟩ : ∃ wz, wz = (World.setCell (World.setCell (World.setCell (World.setCell (World.setCell (World.setCell (World.setCell (World.setCell (World.setCell (World.setCell (World.setCell (World.setCell w4 ⟨(w.heap.size + 1 + 1 + 1), 0, none⟩ (.int .i64 q.a0)) ⟨(w.heap.size + 1 + 1 + 1), 1, none⟩ (.int .i64 q.a1)) ⟨(w.heap.size + 1 + 1 + 1), 2, none⟩ (.int .i64 q.k0.kind)) ⟨(w.heap.size + 1 + 1 + 1), 3, none⟩ (.int .i64 q.k0.len)) ⟨(w.heap.size + 1 + 1 + 1), 4, none⟩ (.int .u64 q.k0.h)) ⟨(w.heap.size + 1 + 1 + 1), 5, none⟩ (.int .u64 q.k0.l)) ⟨(w.heap.size + 1 + 1 + 1), 6, none⟩ (.string ⟨q.k0.path.toArray⟩)) ⟨(w.heap.size + 1 + 1 + 1), 7, none⟩ (.int .i64 q.k1.kind)) ⟨(w.heap.size + 1 + 1 + 1), 8, none⟩ (.int .i64 q.k1.len)) ⟨(w.heap.size + 1 + 1 + 1), 9, none⟩ (.int .u64 q.k1.h)) ⟨(w.heap.size + 1 + 1 + 1), 10, none⟩ (.int .u64 q.k1.l)) ⟨(w.heap.size + 1 + 1 + 1), 11, none⟩ (.string ⟨q.k1.path.toArray⟩)) := ⟨_, rfl⟩
      rw [← hwn]
      replace hwn : w5 = World.setCells w4 (w.heap.size + 1 + 1 + 1) 0 [.int .i64 q.a0, .int .i64 q.a1, .int .i64 q.k0.kind, .int .i64 q.k0.len, .int .u64 q.k0.h, .int .u64 q.k0.l, .string ⟨q.k0.path.toArray⟩, .int .i64 q.k1.kind, .int .i64 q.k1.len, .int .u64 q.k1.h, .int .u64 q.k1.l, .string ⟨q.k1.path.toArray⟩] := hwn
      replace Rr : Row w5 (w.heap.size + 1 + 1 + 1) #[.int .i64 q.a0, .int .i64 q.a1, .int .i64 q.k0.kind, .int .i64 q.k0.len, .int .u64 q.k0.h, .int .u64 q.k0.l, .string ⟨q.k0.path.toArray⟩, .int .i64 q.k1.kind, .int .i64 q.k1.len, .int .u64 q.k1.h, .int .u64 q.k1.l, .string ⟨q.k1.path.toArray⟩] 33 := psm hwn Rr (by simp [setL])
      replace Rc := prf hwn Rc
      replace Rd := prf hwn Rd
      replace Re := prf hwn Re
      replace Rx := prf hwn Rx
      replace hb0 := pbl hwn hb0
      clear hwn r0 r1 r2 r3 r4 r5 r6 r7 r8 r9 r10 r11 x0 x1 x2 x3 x4 x5 x6 x7 x8 x9 x10 x11
      (try clear rf0 rf1 rf2 rf3 rf4 rf5 rf6 rf7 rf8 rf9 rf10 rf11)
      (try clear r0 r1 r2 r3 r4 r5 r6 r7 r8 r9 r10 r11); obtain ⟨r0, r1, r2, r3, r4, r5, r6, r7, r8, r9, r10, r11⟩ := row12 Rr
      (try clear x0 x1 x2 x3 x4 x5 x6 x7 x8 x9 x10 x11); obtain ⟨x0, x1, x2, x3, x4, x5, x6, x7, x8, x9, x10, x11⟩ := row12 Rx
      refine bodyPost_ret (v := .tuple #[.agg #[.int .i64 q.a0, .int .i64 q.a1, .int .i64 q.k0.kind, .int .i64 q.k0.len, .int .u64 q.k0.h, .int .u64 q.k0.l, .string ⟨q.k0.path.toArray⟩, .int .i64 q.k1.kind, .int .i64 q.k1.len, .int .u64 q.k1.h, .int .u64 q.k1.l, .string ⟨q.k1.path.toArray⟩], .bool true]) (by simp [results, Try.results30, go_sem, r0, r1, r2, r3, r4, r5, r6, r7, r8, r9, r10, r11]) rfl ⟨rfl, hb0⟩
end Go.Proofs.Ytbekocknfpekoaa
