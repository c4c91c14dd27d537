/- D1, D2, D3, D4, D5, D6, D8, P0, P1, P2: what the theorem needs of these texts. No conditions beyond those that are written. -/
import Derived.Test.YtbekocknfpekoaaBJK3
namespace Go.Proofs.Ytbekocknfpekoaa
set_option linter.unusedVariables false
set_option linter.unusedSimpArgs false
open Go.RowKit
def rightD (d : Dm) : Bool := (decide (d.side = 1) || decide (d.side = 2)) && (decide (1 ≤ d.step) && decide (d.step ≤ wid d.kind))
def depthD (d : Dm) : Int := if rightD d = true then (wid d.kind + d.step - 1) / d.step else 0
def lenD (d : Dm) (l : Int) : Int := if rightD d = true ∧ 0 ≤ l ∧ l ≤ depthD d then max (wid d.kind - l * d.step) 0 else -1
theorem rightD_iff (d : Dm) : rightD d = true ↔ (d.side = 1 ∨ d.side = 2) ∧ 1 ≤ d.step ∧ d.step ≤ wid d.kind := by
  unfold rightD; simp
theorem depth_range {d : Dm} (h : rightD d = true) : 1 ≤ depthD d ∧ depthD d ≤ 128 ∧ wid d.kind ≤ depthD d * d.step ∧ (depthD d - 1) * d.step < wid d.kind := by
  obtain ⟨_, s1, s2⟩ := (rightD_iff d).1 h
  have hw := wid_range d.kind
  unfold depthD
  rw [if_pos h]
  generalize wid d.kind = W at *
  generalize d.step = s at *
  have hm := Int.mul_ediv_self_le (x := W + s - 1) (k := s) (by omega)
  have hl := Int.lt_mul_ediv_self_add (x := W + s - 1) (k := s) (by omega)
  generalize (W + s - 1) / s = q at *
  have e1 : s * q = q * s := Int.mul_comm _ _
  rw [e1] at hm hl
  have hq1 : 1 ≤ q := by
    by_cases h : q < 1
    · exfalso
      have : q * s ≤ 0 * s := Int.mul_le_mul_of_nonneg_right (by omega) (by omega)
      omega
    · omega
  have hq2 : q ≤ 128 := by
    by_cases h : 128 < q
    · exfalso
      have h1 : (129 : Int) * s ≤ q * s := Int.mul_le_mul_of_nonneg_right (by omega) (by omega)
      omega
    · omega
  refine ⟨hq1, hq2, by omega, ?_⟩
  rw [Int.sub_mul]; omega
set_option maxRecDepth 100000 in
set_option maxHeartbeats 4000000 in
theorem dright_t (d : Dm) (w : World) : Calls Try.prog 51 #[dv d] w fun e w' => e = .returned (.bool (rightD d)) ∧ Below w.heap.size w w' := by
  have HW := width_t d.kind
  have hd : rightD d = ((decide (d.side = 1) || decide (d.side = 2)) && (decide (1 ≤ d.step) && decide (d.step ≤ wid d.kind))) := rfl
  obtain ⟨kd, sd, st⟩ := d
  dsimp only at *
  generalize rightD ⟨kd, sd, st⟩ = r at *
  generalize wid kd = wd at *
  unfold dv
  dsimp only
  obtain ⟨RR0, hb0⟩ := one_row w #[.int .i64 kd, .int .i64 sd, .int .i64 st] 23
  have c0 := (RR0.cell 0).trans (show _ = some (Value.int .i64 kd) from rfl)
  have c1 := (RR0.cell 1).trans (show _ = some (Value.int .i64 sd) from rfl)
  have c2 := (RR0.cell 2).trans (show _ = some (Value.int .i64 st) from rfl)
  clear RR0
  by_cases s0 : sd = 1 ∨ sd = 2
  · have hd2 : r = (decide (1 ≤ st) && decide (st ≤ wd)) := by rw [hd]; rcases s0 with e | e <;> subst e <;> simp
    clear hd
    by_cases t1 : 1 ≤ st
    · by_cases t2 : st ≤ wd
      · have e : r = true := by rw [hd2]; simp [t1, t2]
        subst e
        clear hd2
        rcases s0 with rfl | rfl
        · go_enter Try.func51, Try.ntmps51
          go_wp2_with fail
          refine wp_region_held_drew (S := (fun w' => w'.cell? ⟨w.heap.size, 0, none⟩ = some (.int .i64 kd) ∧ w'.cell? ⟨w.heap.size, 1, none⟩ = some (.int .i64 1) ∧ w'.cell? ⟨w.heap.size, 2, none⟩ = some (.int .i64 st) ∧ Below w.heap.size w w')) (by kernel_rfl) ?hSr11_ (fun hHeld => ?_)
          case hSr11_ => (first | exact ⟨c0, c1, c2, hb0.drew⟩ | exact ⟨c0, c1, c2, hb0⟩ | (obtain ⟨c0, c1, c2, hb0⟩ := hHeld; exact ⟨cell_later hb c0, cell_later hb c1, cell_later hb c2, below_step hb0 hb⟩))
          refine tk 0 ⟨some 3, .fieldAddr 23 (.tmp 1) 1, 0, _, _, _⟩ hHeld ?_
          (try simp only [Act.put, nz1, nz2, nz3])
          refine tk 1 ⟨some 4, .load 3 (.tmp 3), 3, _, _, _⟩ hHeld ?_
          (try simp only [Act.put, nz1, nz2, nz3])
          refine tk 2 ⟨some 5, .binOp .eql 3 (.tmp 4) (.const (.int .i64 1)) 3, 4, _, _, _⟩ hHeld ?_
          (try simp only [Act.put, nz1, nz2, nz3])
          refine tk 3 ⟨some 6, .move (.tmp 5), 4, _, _, _⟩ hHeld ?_
          (try simp only [Act.put, nz1, nz2, nz3])
          refine ts 4 ⟨some 7, .fieldAddr 23 (.tmp 1) 1, 0, _, _, _⟩ hHeld ?_
          (try simp only [Act.put, nz1, nz2, nz3])
          refine ts 5 ⟨some 8, .load 3 (.tmp 7), 3, _, _, _⟩ hHeld ?_
          (try simp only [Act.put, nz1, nz2, nz3])
          refine ts 6 ⟨some 9, .binOp .eql 3 (.tmp 8) (.const (.int .i64 2)) 3, 4, _, _, _⟩ hHeld ?_
          (try simp only [Act.put, nz1, nz2, nz3])
          refine tk 7 ⟨some 10, .pick (.tmp 6) (.const (.bool true)) (.tmp 9), 4, _, _, _⟩ hHeld ?_
          (try simp only [Act.put, nz1, nz2, nz3])
          refine tk 8 ⟨some 11, .move (.tmp 10), 4, _, _, _⟩ hHeld ?_
          (try simp only [Act.put, nz1, nz2, nz3])
          refine tk 9 ⟨some 12, .fieldAddr 23 (.tmp 1) 2, 0, _, _, _⟩ hHeld ?_
          (try simp only [Act.put, nz1, nz2, nz3])
          refine tk 10 ⟨some 13, .load 3 (.tmp 12), 3, _, _, _⟩ hHeld ?_
          (try simp only [Act.put, nz1, nz2, nz3])
          refine tk 11 ⟨some 14, .binOp .geq 3 (.tmp 13) (.const (.int .i64 1)) 3, 4, _, _, _⟩ hHeld ?_
          (try simp only [Act.put, nz1, nz2, nz3])
          refine tk 12 ⟨some 15, .pick (.tmp 11) (.tmp 14) (.const (.bool false)), 4, _, _, _⟩ hHeld ?_
          (try simp only [Act.put, nz1, nz2, nz3])
          refine tk 13 ⟨some 16, .move (.tmp 15), 4, _, _, _⟩ hHeld ?_
          (try simp only [Act.put, nz1, nz2, nz3])
          refine tk 14 ⟨some 17, .fieldAddr 23 (.tmp 1) 2, 0, _, _, _⟩ hHeld ?_
          (try simp only [Act.put, nz1, nz2, nz3])
          refine tk 15 ⟨some 18, .load 3 (.tmp 17), 3, _, _, _⟩ hHeld ?_
          (try simp only [Act.put, nz1, nz2, nz3])
          refine tk 16 ⟨some 19, .fieldAddr 23 (.tmp 1) 0, 0, _, _, _⟩ hHeld ?_
          (try simp only [Act.put, nz1, nz2, nz3])
          refine tk 17 ⟨some 20, .load 3 (.tmp 19), 3, _, _, _⟩ hHeld ?_
          (try simp only [Act.put, nz1, nz2, nz3])
          refine wpAnyH_ready (rs := [18]) (by kernel_rfl) (by simp) ?_
          refine AllReadyH.cons (o := ⟨some 21, .call { callee := .value (.func 76), args := #[.tmp 20], argTypes := #[3] }, 3, _, _, _⟩) rfl (fun K hK => ?_) AllReadyH.nil
          (go_simp; (refine (HW _).mono ?_); (rintro e wn ⟨rfl, hb⟩); go_wp2_with fail)
          refine hK.out _ _ ?hSr11_19_18 (fun hHeld2 => ?_)
          case hSr11_19_18 => (first | exact ⟨c0, c1, c2, hb0.drew⟩ | exact ⟨c0, c1, c2, hb0⟩ | (obtain ⟨c0, c1, c2, hb0⟩ := hHeld; exact ⟨cell_later hb c0, cell_later hb c1, cell_later hb c2, below_step hb0 hb⟩))
          clear hK K hHeld
          have hHeld := hHeld2
          clear hHeld2
          (try simp only [Act.put, nz1, nz2, nz3])
          refine tk 19 ⟨some 22, .binOp .leq 3 (.tmp 18) (.tmp 21) 3, 4, _, _, _⟩ hHeld ?_
          (try simp only [Act.put, nz1, nz2, nz3])
          refine tk 20 ⟨some 23, .pick (.tmp 16) (.tmp 22) (.const (.bool false)), 4, _, _, _⟩ hHeld ?_
          (try simp only [Act.put, nz1, nz2, nz3])
          refine tk 21 ⟨some 2, .assign (.tmp 23), 4, _, _, _⟩ hHeld ?_
          (try simp only [Act.put, nz1, nz2, nz3])
          refine wpAnyH_done (by kernel_rfl) ?_ _
          clear c0 c1 c2 hb0
          obtain ⟨c0, c1, c2, hb0⟩ := hHeld
          go_wp2
          go_ret
          exact ⟨rfl, hb0⟩
        · go_enter Try.func51, Try.ntmps51
          go_wp2_with fail
          refine wp_region_held_drew (S := (fun w' => w'.cell? ⟨w.heap.size, 0, none⟩ = some (.int .i64 kd) ∧ w'.cell? ⟨w.heap.size, 1, none⟩ = some (.int .i64 2) ∧ w'.cell? ⟨w.heap.size, 2, none⟩ = some (.int .i64 st) ∧ Below w.heap.size w w')) (by kernel_rfl) ?hSr12_ (fun hHeld => ?_)
          case hSr12_ => (first | exact ⟨c0, c1, c2, hb0.drew⟩ | exact ⟨c0, c1, c2, hb0⟩ | (obtain ⟨c0, c1, c2, hb0⟩ := hHeld; exact ⟨cell_later hb c0, cell_later hb c1, cell_later hb c2, below_step hb0 hb⟩))
          refine tk 0 ⟨some 3, .fieldAddr 23 (.tmp 1) 1, 0, _, _, _⟩ hHeld ?_
          (try simp only [Act.put, nz1, nz2, nz3])
          refine tk 1 ⟨some 4, .load 3 (.tmp 3), 3, _, _, _⟩ hHeld ?_
          (try simp only [Act.put, nz1, nz2, nz3])
          refine tk 2 ⟨some 5, .binOp .eql 3 (.tmp 4) (.const (.int .i64 1)) 3, 4, _, _, _⟩ hHeld ?_
          (try simp only [Act.put, nz1, nz2, nz3])
          refine tk 3 ⟨some 6, .move (.tmp 5), 4, _, _, _⟩ hHeld ?_
          (try simp only [Act.put, nz1, nz2, nz3])
          refine tk 4 ⟨some 7, .fieldAddr 23 (.tmp 1) 1, 0, _, _, _⟩ hHeld ?_
          (try simp only [Act.put, nz1, nz2, nz3])
          refine tk 5 ⟨some 8, .load 3 (.tmp 7), 3, _, _, _⟩ hHeld ?_
          (try simp only [Act.put, nz1, nz2, nz3])
          refine tk 6 ⟨some 9, .binOp .eql 3 (.tmp 8) (.const (.int .i64 2)) 3, 4, _, _, _⟩ hHeld ?_
          (try simp only [Act.put, nz1, nz2, nz3])
          refine tk 7 ⟨some 10, .pick (.tmp 6) (.const (.bool true)) (.tmp 9), 4, _, _, _⟩ hHeld ?_
          (try simp only [Act.put, nz1, nz2, nz3])
          refine tk 8 ⟨some 11, .move (.tmp 10), 4, _, _, _⟩ hHeld ?_
          (try simp only [Act.put, nz1, nz2, nz3])
          refine tk 9 ⟨some 12, .fieldAddr 23 (.tmp 1) 2, 0, _, _, _⟩ hHeld ?_
          (try simp only [Act.put, nz1, nz2, nz3])
          refine tk 10 ⟨some 13, .load 3 (.tmp 12), 3, _, _, _⟩ hHeld ?_
          (try simp only [Act.put, nz1, nz2, nz3])
          refine tk 11 ⟨some 14, .binOp .geq 3 (.tmp 13) (.const (.int .i64 1)) 3, 4, _, _, _⟩ hHeld ?_
          (try simp only [Act.put, nz1, nz2, nz3])
          refine tk 12 ⟨some 15, .pick (.tmp 11) (.tmp 14) (.const (.bool false)), 4, _, _, _⟩ hHeld ?_
          (try simp only [Act.put, nz1, nz2, nz3])
          refine tk 13 ⟨some 16, .move (.tmp 15), 4, _, _, _⟩ hHeld ?_
          (try simp only [Act.put, nz1, nz2, nz3])
          refine tk 14 ⟨some 17, .fieldAddr 23 (.tmp 1) 2, 0, _, _, _⟩ hHeld ?_
          (try simp only [Act.put, nz1, nz2, nz3])
          refine tk 15 ⟨some 18, .load 3 (.tmp 17), 3, _, _, _⟩ hHeld ?_
          (try simp only [Act.put, nz1, nz2, nz3])
          refine tk 16 ⟨some 19, .fieldAddr 23 (.tmp 1) 0, 0, _, _, _⟩ hHeld ?_
          (try simp only [Act.put, nz1, nz2, nz3])
          refine tk 17 ⟨some 20, .load 3 (.tmp 19), 3, _, _, _⟩ hHeld ?_
          (try simp only [Act.put, nz1, nz2, nz3])
          refine wpAnyH_ready (rs := [18]) (by kernel_rfl) (by simp) ?_
          refine AllReadyH.cons (o := ⟨some 21, .call { callee := .value (.func 76), args := #[.tmp 20], argTypes := #[3] }, 3, _, _, _⟩) rfl (fun K hK => ?_) AllReadyH.nil
          (go_simp; (refine (HW _).mono ?_); (rintro e wn ⟨rfl, hb⟩); go_wp2_with fail)
          refine hK.out _ _ ?hSr12_19_18 (fun hHeld2 => ?_)
          case hSr12_19_18 => (first | exact ⟨c0, c1, c2, hb0.drew⟩ | exact ⟨c0, c1, c2, hb0⟩ | (obtain ⟨c0, c1, c2, hb0⟩ := hHeld; exact ⟨cell_later hb c0, cell_later hb c1, cell_later hb c2, below_step hb0 hb⟩))
          clear hK K hHeld
          have hHeld := hHeld2
          clear hHeld2
          (try simp only [Act.put, nz1, nz2, nz3])
          refine tk 19 ⟨some 22, .binOp .leq 3 (.tmp 18) (.tmp 21) 3, 4, _, _, _⟩ hHeld ?_
          (try simp only [Act.put, nz1, nz2, nz3])
          refine tk 20 ⟨some 23, .pick (.tmp 16) (.tmp 22) (.const (.bool false)), 4, _, _, _⟩ hHeld ?_
          (try simp only [Act.put, nz1, nz2, nz3])
          refine tk 21 ⟨some 2, .assign (.tmp 23), 4, _, _, _⟩ hHeld ?_
          (try simp only [Act.put, nz1, nz2, nz3])
          refine wpAnyH_done (by kernel_rfl) ?_ _
          clear c0 c1 c2 hb0
          obtain ⟨c0, c1, c2, hb0⟩ := hHeld
          go_wp2
          go_ret
          exact ⟨rfl, hb0⟩
      · have e : r = false := by rw [hd2]; simp [t2]
        have t2' : decide (st ≤ wd) = false := decide_eq_false t2
        subst e
        clear hd2
        rcases s0 with rfl | rfl
        · go_enter Try.func51, Try.ntmps51
          go_wp2_with fail
          refine wp_region_held_drew (S := (fun w' => w'.cell? ⟨w.heap.size, 0, none⟩ = some (.int .i64 kd) ∧ w'.cell? ⟨w.heap.size, 1, none⟩ = some (.int .i64 1) ∧ w'.cell? ⟨w.heap.size, 2, none⟩ = some (.int .i64 st) ∧ Below w.heap.size w w')) (by kernel_rfl) ?hSr13_ (fun hHeld => ?_)
          case hSr13_ => (first | exact ⟨c0, c1, c2, hb0.drew⟩ | exact ⟨c0, c1, c2, hb0⟩ | (obtain ⟨c0, c1, c2, hb0⟩ := hHeld; exact ⟨cell_later hb c0, cell_later hb c1, cell_later hb c2, below_step hb0 hb⟩))
          refine tk 0 ⟨some 3, .fieldAddr 23 (.tmp 1) 1, 0, _, _, _⟩ hHeld ?_
          (try simp only [Act.put, nz1, nz2, nz3])
          refine tk 1 ⟨some 4, .load 3 (.tmp 3), 3, _, _, _⟩ hHeld ?_
          (try simp only [Act.put, nz1, nz2, nz3])
          refine tk 2 ⟨some 5, .binOp .eql 3 (.tmp 4) (.const (.int .i64 1)) 3, 4, _, _, _⟩ hHeld ?_
          (try simp only [Act.put, nz1, nz2, nz3])
          refine tk 3 ⟨some 6, .move (.tmp 5), 4, _, _, _⟩ hHeld ?_
          (try simp only [Act.put, nz1, nz2, nz3])
          refine ts 4 ⟨some 7, .fieldAddr 23 (.tmp 1) 1, 0, _, _, _⟩ hHeld ?_
          (try simp only [Act.put, nz1, nz2, nz3])
          refine ts 5 ⟨some 8, .load 3 (.tmp 7), 3, _, _, _⟩ hHeld ?_
          (try simp only [Act.put, nz1, nz2, nz3])
          refine ts 6 ⟨some 9, .binOp .eql 3 (.tmp 8) (.const (.int .i64 2)) 3, 4, _, _, _⟩ hHeld ?_
          (try simp only [Act.put, nz1, nz2, nz3])
          refine tk 7 ⟨some 10, .pick (.tmp 6) (.const (.bool true)) (.tmp 9), 4, _, _, _⟩ hHeld ?_
          (try simp only [Act.put, nz1, nz2, nz3])
          refine tk 8 ⟨some 11, .move (.tmp 10), 4, _, _, _⟩ hHeld ?_
          (try simp only [Act.put, nz1, nz2, nz3])
          refine tk 9 ⟨some 12, .fieldAddr 23 (.tmp 1) 2, 0, _, _, _⟩ hHeld ?_
          (try simp only [Act.put, nz1, nz2, nz3])
          refine tk 10 ⟨some 13, .load 3 (.tmp 12), 3, _, _, _⟩ hHeld ?_
          (try simp only [Act.put, nz1, nz2, nz3])
          refine tk 11 ⟨some 14, .binOp .geq 3 (.tmp 13) (.const (.int .i64 1)) 3, 4, _, _, _⟩ hHeld ?_
          (try simp only [Act.put, nz1, nz2, nz3])
          refine tk 12 ⟨some 15, .pick (.tmp 11) (.tmp 14) (.const (.bool false)), 4, _, _, _⟩ hHeld ?_
          (try simp only [Act.put, nz1, nz2, nz3])
          refine tk 13 ⟨some 16, .move (.tmp 15), 4, _, _, _⟩ hHeld ?_
          (try simp only [Act.put, nz1, nz2, nz3])
          refine tk 14 ⟨some 17, .fieldAddr 23 (.tmp 1) 2, 0, _, _, _⟩ hHeld ?_
          (try simp only [Act.put, nz1, nz2, nz3])
          refine tk 15 ⟨some 18, .load 3 (.tmp 17), 3, _, _, _⟩ hHeld ?_
          (try simp only [Act.put, nz1, nz2, nz3])
          refine tk 16 ⟨some 19, .fieldAddr 23 (.tmp 1) 0, 0, _, _, _⟩ hHeld ?_
          (try simp only [Act.put, nz1, nz2, nz3])
          refine tk 17 ⟨some 20, .load 3 (.tmp 19), 3, _, _, _⟩ hHeld ?_
          (try simp only [Act.put, nz1, nz2, nz3])
          refine wpAnyH_ready (rs := [18]) (by kernel_rfl) (by simp) ?_
          refine AllReadyH.cons (o := ⟨some 21, .call { callee := .value (.func 76), args := #[.tmp 20], argTypes := #[3] }, 3, _, _, _⟩) rfl (fun K hK => ?_) AllReadyH.nil
          (go_simp; (refine (HW _).mono ?_); (rintro e wn ⟨rfl, hb⟩); go_wp2_with fail)
          refine hK.out _ _ ?hSr13_19_18 (fun hHeld2 => ?_)
          case hSr13_19_18 => (first | exact ⟨c0, c1, c2, hb0.drew⟩ | exact ⟨c0, c1, c2, hb0⟩ | (obtain ⟨c0, c1, c2, hb0⟩ := hHeld; exact ⟨cell_later hb c0, cell_later hb c1, cell_later hb c2, below_step hb0 hb⟩))
          clear hK K hHeld
          have hHeld := hHeld2
          clear hHeld2
          (try simp only [Act.put, nz1, nz2, nz3])
          refine tk 19 ⟨some 22, .binOp .leq 3 (.tmp 18) (.tmp 21) 3, 4, _, _, _⟩ hHeld ?_
          (try simp only [Act.put, nz1, nz2, nz3])
          refine tk 20 ⟨some 23, .pick (.tmp 16) (.tmp 22) (.const (.bool false)), 4, _, _, _⟩ hHeld ?_
          (try simp only [Act.put, nz1, nz2, nz3])
          refine tk 21 ⟨some 2, .assign (.tmp 23), 4, _, _, _⟩ hHeld ?_
          (try simp only [Act.put, nz1, nz2, nz3])
          refine wpAnyH_done (by kernel_rfl) ?_ _
          clear c0 c1 c2 hb0
          obtain ⟨c0, c1, c2, hb0⟩ := hHeld
          go_wp2
          go_ret
          exact ⟨rfl, hb0⟩
        · go_enter Try.func51, Try.ntmps51
          go_wp2_with fail
          refine wp_region_held_drew (S := (fun w' => w'.cell? ⟨w.heap.size, 0, none⟩ = some (.int .i64 kd) ∧ w'.cell? ⟨w.heap.size, 1, none⟩ = some (.int .i64 2) ∧ w'.cell? ⟨w.heap.size, 2, none⟩ = some (.int .i64 st) ∧ Below w.heap.size w w')) (by kernel_rfl) ?hSr14_ (fun hHeld => ?_)
          case hSr14_ => (first | exact ⟨c0, c1, c2, hb0.drew⟩ | exact ⟨c0, c1, c2, hb0⟩ | (obtain ⟨c0, c1, c2, hb0⟩ := hHeld; exact ⟨cell_later hb c0, cell_later hb c1, cell_later hb c2, below_step hb0 hb⟩))
          refine tk 0 ⟨some 3, .fieldAddr 23 (.tmp 1) 1, 0, _, _, _⟩ hHeld ?_
          (try simp only [Act.put, nz1, nz2, nz3])
          refine tk 1 ⟨some 4, .load 3 (.tmp 3), 3, _, _, _⟩ hHeld ?_
          (try simp only [Act.put, nz1, nz2, nz3])
          refine tk 2 ⟨some 5, .binOp .eql 3 (.tmp 4) (.const (.int .i64 1)) 3, 4, _, _, _⟩ hHeld ?_
          (try simp only [Act.put, nz1, nz2, nz3])
          refine tk 3 ⟨some 6, .move (.tmp 5), 4, _, _, _⟩ hHeld ?_
          (try simp only [Act.put, nz1, nz2, nz3])
          refine tk 4 ⟨some 7, .fieldAddr 23 (.tmp 1) 1, 0, _, _, _⟩ hHeld ?_
          (try simp only [Act.put, nz1, nz2, nz3])
          refine tk 5 ⟨some 8, .load 3 (.tmp 7), 3, _, _, _⟩ hHeld ?_
          (try simp only [Act.put, nz1, nz2, nz3])
          refine tk 6 ⟨some 9, .binOp .eql 3 (.tmp 8) (.const (.int .i64 2)) 3, 4, _, _, _⟩ hHeld ?_
          (try simp only [Act.put, nz1, nz2, nz3])
          refine tk 7 ⟨some 10, .pick (.tmp 6) (.const (.bool true)) (.tmp 9), 4, _, _, _⟩ hHeld ?_
          (try simp only [Act.put, nz1, nz2, nz3])
          refine tk 8 ⟨some 11, .move (.tmp 10), 4, _, _, _⟩ hHeld ?_
          (try simp only [Act.put, nz1, nz2, nz3])
          refine tk 9 ⟨some 12, .fieldAddr 23 (.tmp 1) 2, 0, _, _, _⟩ hHeld ?_
          (try simp only [Act.put, nz1, nz2, nz3])
          refine tk 10 ⟨some 13, .load 3 (.tmp 12), 3, _, _, _⟩ hHeld ?_
          (try simp only [Act.put, nz1, nz2, nz3])
          refine tk 11 ⟨some 14, .binOp .geq 3 (.tmp 13) (.const (.int .i64 1)) 3, 4, _, _, _⟩ hHeld ?_
          (try simp only [Act.put, nz1, nz2, nz3])
          refine tk 12 ⟨some 15, .pick (.tmp 11) (.tmp 14) (.const (.bool false)), 4, _, _, _⟩ hHeld ?_
          (try simp only [Act.put, nz1, nz2, nz3])
          refine tk 13 ⟨some 16, .move (.tmp 15), 4, _, _, _⟩ hHeld ?_
          (try simp only [Act.put, nz1, nz2, nz3])
          refine tk 14 ⟨some 17, .fieldAddr 23 (.tmp 1) 2, 0, _, _, _⟩ hHeld ?_
          (try simp only [Act.put, nz1, nz2, nz3])
          refine tk 15 ⟨some 18, .load 3 (.tmp 17), 3, _, _, _⟩ hHeld ?_
          (try simp only [Act.put, nz1, nz2, nz3])
          refine tk 16 ⟨some 19, .fieldAddr 23 (.tmp 1) 0, 0, _, _, _⟩ hHeld ?_
          (try simp only [Act.put, nz1, nz2, nz3])
          refine tk 17 ⟨some 20, .load 3 (.tmp 19), 3, _, _, _⟩ hHeld ?_
          (try simp only [Act.put, nz1, nz2, nz3])
          refine wpAnyH_ready (rs := [18]) (by kernel_rfl) (by simp) ?_
          refine AllReadyH.cons (o := ⟨some 21, .call { callee := .value (.func 76), args := #[.tmp 20], argTypes := #[3] }, 3, _, _, _⟩) rfl (fun K hK => ?_) AllReadyH.nil
          (go_simp; (refine (HW _).mono ?_); (rintro e wn ⟨rfl, hb⟩); go_wp2_with fail)
          refine hK.out _ _ ?hSr14_19_18 (fun hHeld2 => ?_)
          case hSr14_19_18 => (first | exact ⟨c0, c1, c2, hb0.drew⟩ | exact ⟨c0, c1, c2, hb0⟩ | (obtain ⟨c0, c1, c2, hb0⟩ := hHeld; exact ⟨cell_later hb c0, cell_later hb c1, cell_later hb c2, below_step hb0 hb⟩))
          clear hK K hHeld
          have hHeld := hHeld2
          clear hHeld2
          (try simp only [Act.put, nz1, nz2, nz3])
          refine tk 19 ⟨some 22, .binOp .leq 3 (.tmp 18) (.tmp 21) 3, 4, _, _, _⟩ hHeld ?_
          (try simp only [Act.put, nz1, nz2, nz3])
          refine tk 20 ⟨some 23, .pick (.tmp 16) (.tmp 22) (.const (.bool false)), 4, _, _, _⟩ hHeld ?_
          (try simp only [Act.put, nz1, nz2, nz3])
          refine tk 21 ⟨some 2, .assign (.tmp 23), 4, _, _, _⟩ hHeld ?_
          (try simp only [Act.put, nz1, nz2, nz3])
          refine wpAnyH_done (by kernel_rfl) ?_ _
          clear c0 c1 c2 hb0
          obtain ⟨c0, c1, c2, hb0⟩ := hHeld
          go_wp2
          go_ret
          exact ⟨rfl, hb0⟩
    · have e : r = false := by rw [hd2]; simp [t1]
      have t1' : decide (1 ≤ st) = false := decide_eq_false t1
      subst e
      clear hd2
      rcases s0 with rfl | rfl
      · go_enter Try.func51, Try.ntmps51
        go_wp2_with fail
        refine wp_region_held_drew (S := (fun w' => w'.cell? ⟨w.heap.size, 0, none⟩ = some (.int .i64 kd) ∧ w'.cell? ⟨w.heap.size, 1, none⟩ = some (.int .i64 1) ∧ w'.cell? ⟨w.heap.size, 2, none⟩ = some (.int .i64 st) ∧ Below w.heap.size w w')) (by kernel_rfl) ?hSr15_ (fun hHeld => ?_)
        case hSr15_ => (exact ⟨c0, c1, c2, hb0.drew⟩)
        (generalize World.drew _ = wn at *)
        refine tk 0 ⟨some 3, .fieldAddr 23 (.tmp 1) 1, 0, _, _, _⟩ hHeld ?_
        (try simp only [Act.put, nz1, nz2, nz3])
        refine tk 1 ⟨some 4, .load 3 (.tmp 3), 3, _, _, _⟩ hHeld ?_
        (try simp only [Act.put, nz1, nz2, nz3])
        refine tk 2 ⟨some 5, .binOp .eql 3 (.tmp 4) (.const (.int .i64 1)) 3, 4, _, _, _⟩ hHeld ?_
        (try simp only [Act.put, nz1, nz2, nz3])
        refine tk 3 ⟨some 6, .move (.tmp 5), 4, _, _, _⟩ hHeld ?_
        (try simp only [Act.put, nz1, nz2, nz3])
        refine ts 4 ⟨some 7, .fieldAddr 23 (.tmp 1) 1, 0, _, _, _⟩ hHeld ?_
        (try simp only [Act.put, nz1, nz2, nz3])
        refine ts 5 ⟨some 8, .load 3 (.tmp 7), 3, _, _, _⟩ hHeld ?_
        (try simp only [Act.put, nz1, nz2, nz3])
        refine ts 6 ⟨some 9, .binOp .eql 3 (.tmp 8) (.const (.int .i64 2)) 3, 4, _, _, _⟩ hHeld ?_
        (try simp only [Act.put, nz1, nz2, nz3])
        refine tk 7 ⟨some 10, .pick (.tmp 6) (.const (.bool true)) (.tmp 9), 4, _, _, _⟩ hHeld ?_
        (try simp only [Act.put, nz1, nz2, nz3])
        refine tk 8 ⟨some 11, .move (.tmp 10), 4, _, _, _⟩ hHeld ?_
        (try simp only [Act.put, nz1, nz2, nz3])
        refine tk 9 ⟨some 12, .fieldAddr 23 (.tmp 1) 2, 0, _, _, _⟩ hHeld ?_
        (try simp only [Act.put, nz1, nz2, nz3])
        refine tk 10 ⟨some 13, .load 3 (.tmp 12), 3, _, _, _⟩ hHeld ?_
        (try simp only [Act.put, nz1, nz2, nz3])
        refine tk 11 ⟨some 14, .binOp .geq 3 (.tmp 13) (.const (.int .i64 1)) 3, 4, _, _, _⟩ hHeld ?_
        (try simp only [Act.put, nz1, nz2, nz3])
        refine tk 12 ⟨some 15, .pick (.tmp 11) (.tmp 14) (.const (.bool false)), 4, _, _, _⟩ hHeld ?_
        (try simp only [Act.put, nz1, nz2, nz3])
        refine tk 13 ⟨some 16, .move (.tmp 15), 4, _, _, _⟩ hHeld ?_
        (try simp only [Act.put, nz1, nz2, nz3])
        refine ts 14 ⟨some 17, .fieldAddr 23 (.tmp 1) 2, 0, _, _, _⟩ hHeld ?_
        (try simp only [Act.put, nz1, nz2, nz3])
        refine ts 15 ⟨some 18, .load 3 (.tmp 17), 3, _, _, _⟩ hHeld ?_
        (try simp only [Act.put, nz1, nz2, nz3])
        refine ts 16 ⟨some 19, .fieldAddr 23 (.tmp 1) 0, 0, _, _, _⟩ hHeld ?_
        (try simp only [Act.put, nz1, nz2, nz3])
        refine ts 17 ⟨some 20, .load 3 (.tmp 19), 3, _, _, _⟩ hHeld ?_
        (try simp only [Act.put, nz1, nz2, nz3])
        refine ts 18 ⟨some 21, .call { callee := .value (.func 76), args := #[.tmp 20], argTypes := #[3] }, 3, _, _, _⟩ hHeld ?_
        (try simp only [Act.put, nz1, nz2, nz3])
        refine ts 19 ⟨some 22, .binOp .leq 3 (.tmp 18) (.tmp 21) 3, 4, _, _, _⟩ hHeld ?_
        (try simp only [Act.put, nz1, nz2, nz3])
        refine tk 20 ⟨some 23, .pick (.tmp 16) (.tmp 22) (.const (.bool false)), 4, _, _, _⟩ hHeld ?_
        (try simp only [Act.put, nz1, nz2, nz3])
        refine tk 21 ⟨some 2, .assign (.tmp 23), 4, _, _, _⟩ hHeld ?_
        (try simp only [Act.put, nz1, nz2, nz3])
        refine wpAnyH_done (by kernel_rfl) ?_ _
        clear c0 c1 c2 hb0
        obtain ⟨c0, c1, c2, hb0⟩ := hHeld
        go_wp2
        go_ret
        exact ⟨rfl, hb0⟩
      · go_enter Try.func51, Try.ntmps51
        go_wp2_with fail
        refine wp_region_held_drew (S := (fun w' => w'.cell? ⟨w.heap.size, 0, none⟩ = some (.int .i64 kd) ∧ w'.cell? ⟨w.heap.size, 1, none⟩ = some (.int .i64 2) ∧ w'.cell? ⟨w.heap.size, 2, none⟩ = some (.int .i64 st) ∧ Below w.heap.size w w')) (by kernel_rfl) ?hSr16_ (fun hHeld => ?_)
        case hSr16_ => (exact ⟨c0, c1, c2, hb0.drew⟩)
        (generalize World.drew _ = wn at *)
        refine tk 0 ⟨some 3, .fieldAddr 23 (.tmp 1) 1, 0, _, _, _⟩ hHeld ?_
        (try simp only [Act.put, nz1, nz2, nz3])
        refine tk 1 ⟨some 4, .load 3 (.tmp 3), 3, _, _, _⟩ hHeld ?_
        (try simp only [Act.put, nz1, nz2, nz3])
        refine tk 2 ⟨some 5, .binOp .eql 3 (.tmp 4) (.const (.int .i64 1)) 3, 4, _, _, _⟩ hHeld ?_
        (try simp only [Act.put, nz1, nz2, nz3])
        refine tk 3 ⟨some 6, .move (.tmp 5), 4, _, _, _⟩ hHeld ?_
        (try simp only [Act.put, nz1, nz2, nz3])
        refine tk 4 ⟨some 7, .fieldAddr 23 (.tmp 1) 1, 0, _, _, _⟩ hHeld ?_
        (try simp only [Act.put, nz1, nz2, nz3])
        refine tk 5 ⟨some 8, .load 3 (.tmp 7), 3, _, _, _⟩ hHeld ?_
        (try simp only [Act.put, nz1, nz2, nz3])
        refine tk 6 ⟨some 9, .binOp .eql 3 (.tmp 8) (.const (.int .i64 2)) 3, 4, _, _, _⟩ hHeld ?_
        (try simp only [Act.put, nz1, nz2, nz3])
        refine tk 7 ⟨some 10, .pick (.tmp 6) (.const (.bool true)) (.tmp 9), 4, _, _, _⟩ hHeld ?_
        (try simp only [Act.put, nz1, nz2, nz3])
        refine tk 8 ⟨some 11, .move (.tmp 10), 4, _, _, _⟩ hHeld ?_
        (try simp only [Act.put, nz1, nz2, nz3])
        refine tk 9 ⟨some 12, .fieldAddr 23 (.tmp 1) 2, 0, _, _, _⟩ hHeld ?_
        (try simp only [Act.put, nz1, nz2, nz3])
        refine tk 10 ⟨some 13, .load 3 (.tmp 12), 3, _, _, _⟩ hHeld ?_
        (try simp only [Act.put, nz1, nz2, nz3])
        refine tk 11 ⟨some 14, .binOp .geq 3 (.tmp 13) (.const (.int .i64 1)) 3, 4, _, _, _⟩ hHeld ?_
        (try simp only [Act.put, nz1, nz2, nz3])
        refine tk 12 ⟨some 15, .pick (.tmp 11) (.tmp 14) (.const (.bool false)), 4, _, _, _⟩ hHeld ?_
        (try simp only [Act.put, nz1, nz2, nz3])
        refine tk 13 ⟨some 16, .move (.tmp 15), 4, _, _, _⟩ hHeld ?_
        (try simp only [Act.put, nz1, nz2, nz3])
        refine ts 14 ⟨some 17, .fieldAddr 23 (.tmp 1) 2, 0, _, _, _⟩ hHeld ?_
        (try simp only [Act.put, nz1, nz2, nz3])
        refine ts 15 ⟨some 18, .load 3 (.tmp 17), 3, _, _, _⟩ hHeld ?_
        (try simp only [Act.put, nz1, nz2, nz3])
        refine ts 16 ⟨some 19, .fieldAddr 23 (.tmp 1) 0, 0, _, _, _⟩ hHeld ?_
        (try simp only [Act.put, nz1, nz2, nz3])
        refine ts 17 ⟨some 20, .load 3 (.tmp 19), 3, _, _, _⟩ hHeld ?_
        (try simp only [Act.put, nz1, nz2, nz3])
        refine ts 18 ⟨some 21, .call { callee := .value (.func 76), args := #[.tmp 20], argTypes := #[3] }, 3, _, _, _⟩ hHeld ?_
        (try simp only [Act.put, nz1, nz2, nz3])
        refine ts 19 ⟨some 22, .binOp .leq 3 (.tmp 18) (.tmp 21) 3, 4, _, _, _⟩ hHeld ?_
        (try simp only [Act.put, nz1, nz2, nz3])
        refine tk 20 ⟨some 23, .pick (.tmp 16) (.tmp 22) (.const (.bool false)), 4, _, _, _⟩ hHeld ?_
        (try simp only [Act.put, nz1, nz2, nz3])
        refine tk 21 ⟨some 2, .assign (.tmp 23), 4, _, _, _⟩ hHeld ?_
        (try simp only [Act.put, nz1, nz2, nz3])
        refine wpAnyH_done (by kernel_rfl) ?_ _
        clear c0 c1 c2 hb0
        obtain ⟨c0, c1, c2, hb0⟩ := hHeld
        go_wp2
        go_ret
        exact ⟨rfl, hb0⟩
  · have e : r = false := by
      rw [hd, decide_eq_false (fun h => s0 (.inl h)), decide_eq_false (fun h => s0 (.inr h))]; rfl
    have x1 : (sd == 1) = false := by simp; omega
    have x2 : (sd == 2) = false := by simp; omega
    subst e
    clear hd s0 HW
    go_enter Try.func51, Try.ntmps51
    go_wp2_with fail
    refine wp_region_held_drew (S := (fun w' => w'.cell? ⟨w.heap.size, 0, none⟩ = some (.int .i64 kd) ∧ w'.cell? ⟨w.heap.size, 1, none⟩ = some (.int .i64 sd) ∧ w'.cell? ⟨w.heap.size, 2, none⟩ = some (.int .i64 st) ∧ Below w.heap.size w w')) (by kernel_rfl) ?hSr17_ (fun hHeld => ?_)
    case hSr17_ => (exact ⟨c0, c1, c2, hb0.drew⟩)
    (generalize World.drew _ = wn at *)
    refine tk 0 ⟨some 3, .fieldAddr 23 (.tmp 1) 1, 0, _, _, _⟩ hHeld ?_
    (try simp only [Act.put, nz1, nz2, nz3])
    refine tk 1 ⟨some 4, .load 3 (.tmp 3), 3, _, _, _⟩ hHeld ?_
    (try simp only [Act.put, nz1, nz2, nz3])
    refine tk 2 ⟨some 5, .binOp .eql 3 (.tmp 4) (.const (.int .i64 1)) 3, 4, _, _, _⟩ hHeld ?_
    (try simp only [Act.put, nz1, nz2, nz3])
    refine tk 3 ⟨some 6, .move (.tmp 5), 4, _, _, _⟩ hHeld ?_
    (try simp only [Act.put, nz1, nz2, nz3])
    refine tk 4 ⟨some 7, .fieldAddr 23 (.tmp 1) 1, 0, _, _, _⟩ hHeld ?_
    (try simp only [Act.put, nz1, nz2, nz3])
    refine tk 5 ⟨some 8, .load 3 (.tmp 7), 3, _, _, _⟩ hHeld ?_
    (try simp only [Act.put, nz1, nz2, nz3])
    refine tk 6 ⟨some 9, .binOp .eql 3 (.tmp 8) (.const (.int .i64 2)) 3, 4, _, _, _⟩ hHeld ?_
    (try simp only [Act.put, nz1, nz2, nz3])
    refine tk 7 ⟨some 10, .pick (.tmp 6) (.const (.bool true)) (.tmp 9), 4, _, _, _⟩ hHeld ?_
    (try simp only [Act.put, nz1, nz2, nz3])
    refine tk 8 ⟨some 11, .move (.tmp 10), 4, _, _, _⟩ hHeld ?_
    (try simp only [Act.put, nz1, nz2, nz3])
    refine ts 9 ⟨some 12, .fieldAddr 23 (.tmp 1) 2, 0, _, _, _⟩ hHeld ?_
    (try simp only [Act.put, nz1, nz2, nz3])
    refine ts 10 ⟨some 13, .load 3 (.tmp 12), 3, _, _, _⟩ hHeld ?_
    (try simp only [Act.put, nz1, nz2, nz3])
    refine ts 11 ⟨some 14, .binOp .geq 3 (.tmp 13) (.const (.int .i64 1)) 3, 4, _, _, _⟩ hHeld ?_
    (try simp only [Act.put, nz1, nz2, nz3])
    refine tk 12 ⟨some 15, .pick (.tmp 11) (.tmp 14) (.const (.bool false)), 4, _, _, _⟩ hHeld ?_
    (try simp only [Act.put, nz1, nz2, nz3])
    refine tk 13 ⟨some 16, .move (.tmp 15), 4, _, _, _⟩ hHeld ?_
    (try simp only [Act.put, nz1, nz2, nz3])
    refine ts 14 ⟨some 17, .fieldAddr 23 (.tmp 1) 2, 0, _, _, _⟩ hHeld ?_
    (try simp only [Act.put, nz1, nz2, nz3])
    refine ts 15 ⟨some 18, .load 3 (.tmp 17), 3, _, _, _⟩ hHeld ?_
    (try simp only [Act.put, nz1, nz2, nz3])
    refine ts 16 ⟨some 19, .fieldAddr 23 (.tmp 1) 0, 0, _, _, _⟩ hHeld ?_
    (try simp only [Act.put, nz1, nz2, nz3])
    refine ts 17 ⟨some 20, .load 3 (.tmp 19), 3, _, _, _⟩ hHeld ?_
    (try simp only [Act.put, nz1, nz2, nz3])
    refine ts 18 ⟨some 21, .call { callee := .value (.func 76), args := #[.tmp 20], argTypes := #[3] }, 3, _, _, _⟩ hHeld ?_
    (try simp only [Act.put, nz1, nz2, nz3])
    refine ts 19 ⟨some 22, .binOp .leq 3 (.tmp 18) (.tmp 21) 3, 4, _, _, _⟩ hHeld ?_
    (try simp only [Act.put, nz1, nz2, nz3])
    refine tk 20 ⟨some 23, .pick (.tmp 16) (.tmp 22) (.const (.bool false)), 4, _, _, _⟩ hHeld ?_
    (try simp only [Act.put, nz1, nz2, nz3])
    refine tk 21 ⟨some 2, .assign (.tmp 23), 4, _, _, _⟩ hHeld ?_
    (try simp only [Act.put, nz1, nz2, nz3])
    refine wpAnyH_done (by kernel_rfl) ?_ _
    clear c0 c1 c2 hb0
    obtain ⟨c0, c1, c2, hb0⟩ := hHeld
    go_wp2
    go_ret
    exact ⟨rfl, hb0⟩
end Go.Proofs.Ytbekocknfpekoaa
namespace Go.Proofs.Ytbekocknfpekoaa
set_option linter.unusedVariables false
set_option linter.unusedSimpArgs false
open Go.RowKit
set_option maxRecDepth 100000 in
set_option maxHeartbeats 4000000 in
theorem ddepth_t (d : Dm) (w : World) : Calls Try.prog 55 #[dv d] w fun e w' => e = .returned (.int .i64 (depthD d)) ∧ Below w.heap.size w w' := by
  have HR := dright_t d
  have HW := width_t d.kind
  have hw := wid_range d.kind
  have hD : depthD d = if rightD d = true then (wid d.kind + d.step - 1) / d.step else 0 := rfl
  cases hr : rightD d with
  | false =>
    rw [hr] at HR hD
    rw [hD, if_neg (by simp)]
    clear hD hr
    unfold dv at *
    obtain ⟨RR0, hb0⟩ := one_row w #[.int .i64 d.kind, .int .i64 d.side, .int .i64 d.step] 23
    have c0 := (RR0.cell 0).trans (show _ = some (Value.int .i64 d.kind) from rfl)
    have c1 := (RR0.cell 1).trans (show _ = some (Value.int .i64 d.side) from rfl)
    have c2 := (RR0.cell 2).trans (show _ = some (Value.int .i64 d.step) from rfl)
    clear RR0
    go_enter Try.func55, Try.ntmps55
    go_wp2_with fail
    refine (HR _).mono ?_
    rintro e w1 ⟨rfl, hb⟩
    replace c0 := cell_later hb c0
    replace c1 := cell_later hb c1
    replace c2 := cell_later hb c2
    replace hb0 := below_step hb0 hb
    clear hb
    have lc := World.block_lt_of_cell? _ _ c0
    dsimp only at lc
    go_wp2
    go_ret
    exact ⟨rfl, hb0⟩
  | true =>
    obtain ⟨g1, g2, _, _⟩ := depth_range hr
    obtain ⟨_, s1, s2⟩ := (rightD_iff d).1 hr
    rw [hr] at HR
    rw [hr, if_pos rfl] at hD
    generalize depthD d = q at *
    obtain ⟨kd, sd, st⟩ := d
    dsimp only at *
    clear hr
    generalize wid kd = wd at *
    have t1 : IntKind.i64.wrap (wd + st) = wd + st := IntWalk.i64_in _ (by omega)
    have t2 : IntKind.i64.wrap (wd + st - 1) = wd + st - 1 := IntWalk.i64_in _ (by omega)
    have t3 : (wd + st - 1).tdiv st = q := by rw [Int.tdiv_eq_ediv_of_nonneg (by omega)]; exact hD.symm
    have t4 : IntKind.i64.wrap q = q := IntWalk.i64_in _ (by omega)
    have t5 : (st == 0) = false := by simp; omega
    have t6 : ¬ st = 0 := by omega
    clear hD s2 g1 g2 hw
    unfold dv at *
    dsimp only at *
    obtain ⟨RR0, hb0⟩ := one_row w #[.int .i64 kd, .int .i64 sd, .int .i64 st] 23
    have c0 := (RR0.cell 0).trans (show _ = some (Value.int .i64 kd) from rfl)
    have c1 := (RR0.cell 1).trans (show _ = some (Value.int .i64 sd) from rfl)
    have c2 := (RR0.cell 2).trans (show _ = some (Value.int .i64 st) from rfl)
    clear RR0
    go_enter Try.func55, Try.ntmps55
    go_wp2_with fail
    refine (HR _).mono ?_
    rintro e w2 ⟨rfl, hb⟩
    replace c0 := cell_later hb c0
    replace c1 := cell_later hb c1
    replace c2 := cell_later hb c2
    replace hb0 := below_step hb0 hb
    clear hb
    have lc := World.block_lt_of_cell? _ _ c0
    dsimp only at lc
    go_wp2_with fail
    refine wp_region_held_drew (S := (fun w' => w'.cell? ⟨w.heap.size, 0, none⟩ = some (.int .i64 kd) ∧ w'.cell? ⟨w.heap.size, 1, none⟩ = some (.int .i64 sd) ∧ w'.cell? ⟨w.heap.size, 2, none⟩ = some (.int .i64 st) ∧ Below w.heap.size w w')) (by kernel_rfl) ?hSr18_ (fun hHeld => ?_)
    case hSr18_ => (first | exact ⟨c0, c1, c2, hb0.drew⟩ | exact ⟨c0, c1, c2, hb0⟩ | (obtain ⟨c0, c1, c2, hb0⟩ := hHeld; exact ⟨cell_later hb c0, cell_later hb c1, cell_later hb c2, below_step hb0 hb⟩))
    refine tk 0 ⟨some 6, .fieldAddr 23 (.tmp 1) 0, 0, _, _, _⟩ hHeld ?_
    (try simp only [Act.put, nz1, nz2, nz3])
    refine tk 1 ⟨some 7, .load 3 (.tmp 6), 3, _, _, _⟩ hHeld ?_
    (try simp only [Act.put, nz1, nz2, nz3])
    refine tk 3 ⟨some 9, .fieldAddr 23 (.tmp 1) 2, 0, _, _, _⟩ hHeld ?_
    (try simp only [Act.put, nz1, nz2, nz3])
    refine tk 4 ⟨some 10, .load 3 (.tmp 9), 3, _, _, _⟩ hHeld ?_
    (try simp only [Act.put, nz1, nz2, nz3])
    refine tk 7 ⟨some 13, .fieldAddr 23 (.tmp 1) 2, 0, _, _, _⟩ hHeld ?_
    (try simp only [Act.put, nz1, nz2, nz3])
    refine tk 8 ⟨some 14, .load 3 (.tmp 13), 3, _, _, _⟩ hHeld ?_
    (try simp only [Act.put, nz1, nz2, nz3])
    refine wpAnyH_ready (rs := [2]) (by kernel_rfl) (by simp) ?_
    refine AllReadyH.cons (o := ⟨some 8, .call { callee := .value (.func 76), args := #[.tmp 7], argTypes := #[3] }, 3, _, _, _⟩) rfl (fun K hK => ?_) AllReadyH.nil
    (go_simp; (refine (HW _).mono ?_); (rintro e wn ⟨rfl, hb⟩); go_wp2_with fail)
    refine hK.out _ _ ?hSr18_7_2 (fun hHeld2 => ?_)
    case hSr18_7_2 => (first | exact ⟨c0, c1, c2, hb0.drew⟩ | exact ⟨c0, c1, c2, hb0⟩ | (obtain ⟨c0, c1, c2, hb0⟩ := hHeld; exact ⟨cell_later hb c0, cell_later hb c1, cell_later hb c2, below_step hb0 hb⟩))
    clear hK K hHeld
    have hHeld := hHeld2
    clear hHeld2
    (try simp only [Act.put, nz1, nz2, nz3])
    refine tk 5 ⟨some 11, .binOp .add 3 (.tmp 8) (.tmp 10) 3, 3, _, _, _⟩ hHeld ?_
    (try simp only [Act.put, nz1, nz2, nz3])
    refine tk 6 ⟨some 12, .binOp .sub 3 (.tmp 11) (.const (.int .i64 1)) 3, 3, _, _, _⟩ hHeld ?_
    (try simp only [Act.put, nz1, nz2, nz3])
    refine tk 9 ⟨some 15, .binOp .quo 3 (.tmp 12) (.tmp 14) 3, 3, _, _, _⟩ hHeld ?_
    (try simp only [Act.put, nz1, nz2, nz3])
    refine tk 10 ⟨some 2, .assign (.tmp 15), 3, _, _, _⟩ hHeld ?_
    (try simp only [Act.put, nz1, nz2, nz3])
    refine wpAnyH_done (by kernel_rfl) ?_ _
    clear c0 c1 c2 hb0
    obtain ⟨c0, c1, c2, hb0⟩ := hHeld
    go_wp2
    go_ret
    exact ⟨rfl, hb0⟩
set_option maxRecDepth 100000 in
set_option maxHeartbeats 4000000 in
theorem dlen_t (d : Dm) (l : Int) (w : World) : Calls Try.prog 86 #[dv d, .int .i64 l] w fun e w' => e = .returned (.int .i64 (lenD d l)) ∧ Below w.heap.size w w' := by
  have HR := dright_t d
  have HE := ddepth_t d
  have HW := width_t d.kind
  have hw := wid_range d.kind
  have hD : lenD d l = if rightD d = true ∧ 0 ≤ l ∧ l ≤ depthD d then max (wid d.kind - l * d.step) 0 else -1 := rfl
  cases hr : rightD d with
  | false =>
    rw [hr] at HR hD
    rw [hD, if_neg (by simp)]
    clear hD hr HE HW
    unfold dv at *
    obtain ⟨RR0, hb0⟩ := one_row w #[.int .i64 d.kind, .int .i64 d.side, .int .i64 d.step] 23
    have c0 := (RR0.cell 0).trans (show _ = some (Value.int .i64 d.kind) from rfl)
    have c1 := (RR0.cell 1).trans (show _ = some (Value.int .i64 d.side) from rfl)
    have c2 := (RR0.cell 2).trans (show _ = some (Value.int .i64 d.step) from rfl)
    clear RR0
    go_enter Try.func86, Try.ntmps86
    go_wp2_with fail
    refine (HR _).mono ?_
    rintro e w3 ⟨rfl, hb⟩
    replace c0 := cell_later hb c0
    replace c1 := cell_later hb c1
    replace c2 := cell_later hb c2
    replace hb0 := below_step hb0 hb
    clear hb
    have lc := World.block_lt_of_cell? _ _ c0
    dsimp only at lc
    go_wp2
    go_ret
    exact ⟨rfl, hb0⟩
  | true =>
    obtain ⟨g1, g2, _, _⟩ := depth_range hr
    obtain ⟨_, s1, s2⟩ := (rightD_iff d).1 hr
    rw [hr] at HR hD
    generalize depthD d = q at *
    obtain ⟨kd, sd, st⟩ := d
    dsimp only at *
    clear hr
    generalize wid kd = wd at *
    unfold dv at *
    dsimp only at *
    obtain ⟨RR0, hb0⟩ := one_row w #[.int .i64 kd, .int .i64 sd, .int .i64 st] 23
    have c0 := (RR0.cell 0).trans (show _ = some (Value.int .i64 kd) from rfl)
    have c1 := (RR0.cell 1).trans (show _ = some (Value.int .i64 sd) from rfl)
    have c2 := (RR0.cell 2).trans (show _ = some (Value.int .i64 st) from rfl)
    clear RR0
    by_cases l0 : l < 0
    · rw [hD, if_neg (by omega)]
      clear hD HE HW
      go_enter Try.func86, Try.ntmps86
      go_wp2_with fail
      refine (HR _).mono ?_
      rintro e w4 ⟨rfl, hb⟩
      replace c0 := cell_later hb c0
      replace c1 := cell_later hb c1
      replace c2 := cell_later hb c2
      replace hb0 := below_step hb0 hb
      clear hb
      have lc := World.block_lt_of_cell? _ _ c0
      dsimp only at lc
      go_wp2
      go_ret
      exact ⟨rfl, hb0⟩
    · by_cases l1 : q < l
      · rw [hD, if_neg (by omega)]
        clear hD HW
        go_enter Try.func86, Try.ntmps86
        go_wp2_with fail
        refine (HR _).mono ?_
        rintro e w5 ⟨rfl, hb⟩
        replace c0 := cell_later hb c0
        replace c1 := cell_later hb c1
        replace c2 := cell_later hb c2
        replace hb0 := below_step hb0 hb
        clear hb
        have lc := World.block_lt_of_cell? _ _ c0
        dsimp only at lc
        go_wp2_with fail
        refine (HE _).mono ?_
        rintro e w6 ⟨rfl, hb⟩
        replace c0 := cell_later hb c0
        replace c1 := cell_later hb c1
        replace c2 := cell_later hb c2
        replace hb0 := below_step hb0 hb
        clear hb
        have lc := World.block_lt_of_cell? _ _ c0
        dsimp only at lc
        go_wp2
        go_ret
        exact ⟨rfl, hb0⟩
      · rw [if_pos ⟨rfl, by omega, by omega⟩] at hD
        rw [hD]
        have m0 : 0 ≤ l * st := Int.mul_nonneg (by omega) (by omega)
        have m1 : l * st ≤ 128 * 128 := Int.mul_le_mul (by omega) (by omega) (by omega) (by omega)
        have t1 : IntKind.i64.wrap (l * st) = l * st := IntWalk.i64_in _ (by omega)
        have t2 : IntKind.i64.wrap (wd - l * st) = wd - l * st := IntWalk.i64_in _ (by omega)
        obtain ⟨mx, hmx⟩ : ∃ mx, max (wd - l * st) 0 = mx := ⟨_, rfl⟩
        rw [hmx]
        have HM := Lib.hid hmx
        clear hD hmx m0 m1
        go_enter Try.func86, Try.ntmps86
        go_wp2_with fail
        refine (HR _).mono ?_
        rintro e w7 ⟨rfl, hb⟩
        replace c0 := cell_later hb c0
        replace c1 := cell_later hb c1
        replace c2 := cell_later hb c2
        replace hb0 := below_step hb0 hb
        clear hb
        have lc := World.block_lt_of_cell? _ _ c0
        dsimp only at lc
        go_wp2_with fail
        refine (HE _).mono ?_
        rintro e w8 ⟨rfl, hb⟩
        replace c0 := cell_later hb c0
        replace c1 := cell_later hb c1
        replace c2 := cell_later hb c2
        replace hb0 := below_step hb0 hb
        clear hb
        have lc := World.block_lt_of_cell? _ _ c0
        dsimp only at lc
        go_wp2_with fail
        refine wp_region_held_drew (S := (fun w' => w'.cell? ⟨w.heap.size, 0, none⟩ = some (.int .i64 kd) ∧ w'.cell? ⟨w.heap.size, 1, none⟩ = some (.int .i64 sd) ∧ w'.cell? ⟨w.heap.size, 2, none⟩ = some (.int .i64 st) ∧ Below w.heap.size w w')) (by kernel_rfl) ?hSr19_ (fun hHeld => ?_)
        case hSr19_ => (first | exact ⟨c0, c1, c2, hb0.drew⟩ | exact ⟨c0, c1, c2, hb0⟩ | (obtain ⟨c0, c1, c2, hb0⟩ := hHeld; exact ⟨cell_later hb c0, cell_later hb c1, cell_later hb c2, below_step hb0 hb⟩))
        refine tk 0 ⟨some 18, .fieldAddr 23 (.tmp 2) 0, 0, _, _, _⟩ hHeld ?_
        (try simp only [Act.put, nz1, nz2, nz3])
        refine tk 1 ⟨some 19, .load 3 (.tmp 18), 3, _, _, _⟩ hHeld ?_
        (try simp only [Act.put, nz1, nz2, nz3])
        refine tk 3 ⟨some 21, .move (.tmp 1), 3, _, _, _⟩ hHeld ?_
        (try simp only [Act.put, nz1, nz2, nz3])
        refine tk 4 ⟨some 22, .fieldAddr 23 (.tmp 2) 2, 0, _, _, _⟩ hHeld ?_
        (try simp only [Act.put, nz1, nz2, nz3])
        refine tk 5 ⟨some 23, .load 3 (.tmp 22), 3, _, _, _⟩ hHeld ?_
        (try simp only [Act.put, nz1, nz2, nz3])
        refine tk 6 ⟨some 24, .binOp .mul 3 (.tmp 21) (.tmp 23) 3, 3, _, _, _⟩ hHeld ?_
        (try simp only [Act.put, nz1, nz2, nz3])
        refine wpAnyH_ready (rs := [2]) (by kernel_rfl) (by simp) ?_
        refine AllReadyH.cons (o := ⟨some 20, .call { callee := .value (.func 76), args := #[.tmp 19], argTypes := #[3] }, 3, _, _, _⟩) rfl (fun K hK => ?_) AllReadyH.nil
        (go_simp; (refine (HW _).mono ?_); (rintro e wn ⟨rfl, hb⟩); go_wp2_with fail)
        refine hK.out _ _ ?hSr19_7_2 (fun hHeld2 => ?_)
        case hSr19_7_2 => (first | exact ⟨c0, c1, c2, hb0.drew⟩ | exact ⟨c0, c1, c2, hb0⟩ | (obtain ⟨c0, c1, c2, hb0⟩ := hHeld; exact ⟨cell_later hb c0, cell_later hb c1, cell_later hb c2, below_step hb0 hb⟩))
        clear hK K hHeld
        have hHeld := hHeld2
        clear hHeld2
        (try simp only [Act.put, nz1, nz2, nz3])
        refine tk 7 ⟨some 25, .binOp .sub 3 (.tmp 20) (.tmp 24) 3, 3, _, _, _⟩ hHeld ?_
        (try simp only [Act.put, nz1, nz2, nz3])
        refine tk 8 ⟨some 26, .call { callee := .builtin .max, args := #[.tmp 25, .const (.int .i64 0)], argTypes := #[3, 3] }, 3, _, _, _⟩ hHeld ?_ (v := ?vr19_9_8) (hy := ?yr19_9_8)
        case yr19_9_8 => (intro w hSw; (try dsimp only at hSw); go_simp; rw [HM.out])
        (try simp only [Act.put, nz1, nz2, nz3])
        refine tk 9 ⟨some 4, .assign (.tmp 26), 3, _, _, _⟩ hHeld ?_
        (try simp only [Act.put, nz1, nz2, nz3])
        refine wpAnyH_done (by kernel_rfl) ?_ _
        clear c0 c1 c2 hb0
        obtain ⟨c0, c1, c2, hb0⟩ := hHeld
        go_wp2
        go_ret
        exact ⟨rfl, hb0⟩
end Go.Proofs.Ytbekocknfpekoaa
namespace Go.Proofs.Ytbekocknfpekoaa
set_option linter.unusedVariables false
set_option linter.unusedSimpArgs false
open Go.RowKit
def onD (d : Dm) (l : Int) (k : Ke) : Bool := !decide (lenD d l = -1) && (decide (k.kind = d.kind) && (rightK k && (decide (k.len = lenD d l) || (decide (d.kind = 3) && decide (k.len < lenD d l)))))
def cutD (d : Dm) (l : Int) (k : Ke) : Ke := if lenD d l = -1 ∨ ¬ k.kind = d.kind then kz else cutK k (lenD d l)
theorem lenD_range (d : Dm) (l : Int) : -1 ≤ lenD d l ∧ lenD d l ≤ 128 := by
  unfold lenD
  have hw := wid_range d.kind
  split
  · rename_i h
    obtain ⟨_, s1, s2⟩ := (rightD_iff d).1 h.1
    have : 0 ≤ l * d.step := Int.mul_nonneg h.2.1 (by omega)
    omega
  · omega
set_option maxRecDepth 100000 in
set_option maxHeartbeats 8000000 in
theorem don_t (d : Dm) (l : Int) (k : Ke) (ok : k.ok) (w : World) : Calls Try.prog 78 #[dv d, .int .i64 l, kv k] w fun e w' => e = .returned (.bool (onD d l k)) ∧ Below w.heap.size w w' := by
  have HL := dlen_t d l
  have HR := kright_t k ok
  have hd : onD d l k = (!decide (lenD d l = -1) && (decide (k.kind = d.kind) && (rightK k && (decide (k.len = lenD d l) || (decide (d.kind = 3) && decide (k.len < lenD d l)))))) := rfl
  clear ok
  generalize onD d l k = r at *
  generalize lenD d l = n at *
  generalize rightK k = rk at *
  obtain ⟨dk, sd, st⟩ := d
  dsimp only at *
  unfold dv kv at *
  dsimp only at *
  obtain ⟨RR0, RR1, hb0⟩ := two_rows w #[.int .i64 dk, .int .i64 sd, .int .i64 st] #[.int .i64 k.kind, .int .i64 k.len, .int .u64 k.h, .int .u64 k.l, .string ⟨k.path.toArray⟩] 23 30
  have c0 := (RR0.cell 0).trans (show _ = some (Value.int .i64 dk) from rfl)
  have c1 := (RR0.cell 1).trans (show _ = some (Value.int .i64 sd) from rfl)
  have c2 := (RR0.cell 2).trans (show _ = some (Value.int .i64 st) from rfl)
  have e0 := (RR1.cell 0).trans (show _ = some (Value.int .i64 k.kind) from rfl)
  have e1 := (RR1.cell 1).trans (show _ = some (Value.int .i64 k.len) from rfl)
  have e2 := (RR1.cell 2).trans (show _ = some (Value.int .u64 k.h) from rfl)
  have e3 := (RR1.cell 3).trans (show _ = some (Value.int .u64 k.l) from rfl)
  have e4 := (RR1.cell 4).trans (show _ = some (Value.string ⟨k.path.toArray⟩) from rfl)
  clear RR0 RR1
  by_cases h1 : n = -1
  · have e : r = false := by rw [hd]; simp [h1]
    subst h1 e
    clear hd HR
    go_enter Try.func78, Try.ntmps78
    go_wp2_with fail
    refine (HL _).mono ?_
    rintro e w1 ⟨rfl, hb⟩
    replace c0 := cell_later hb c0
    replace c1 := cell_later hb c1
    replace c2 := cell_later hb c2
    replace e0 := cell_later hb e0
    replace e1 := cell_later hb e1
    replace e2 := cell_later hb e2
    replace e3 := cell_later hb e3
    replace e4 := cell_later hb e4
    replace hb0 := below_step hb0 hb
    clear hb
    have lc := World.block_lt_of_cell? _ _ c0
    dsimp only at lc
    have le := World.block_lt_of_cell? _ _ e0
    dsimp only at le
    go_wp2
    go_ret
    exact ⟨rfl, hb0⟩
  have h1' : (n == -1) = false := by simpa using h1
  by_cases h2 : k.kind = dk
  · subst h2
    cases rk with
    | false =>
      have e : r = false := by rw [hd]; simp
      subst e
      clear hd
      go_enter Try.func78, Try.ntmps78
      go_wp2_with fail
      refine (HL _).mono ?_
      rintro e w2 ⟨rfl, hb⟩
      replace c0 := cell_later hb c0
      replace c1 := cell_later hb c1
      replace c2 := cell_later hb c2
      replace e0 := cell_later hb e0
      replace e1 := cell_later hb e1
      replace e2 := cell_later hb e2
      replace e3 := cell_later hb e3
      replace e4 := cell_later hb e4
      replace hb0 := below_step hb0 hb
      clear hb
      have lc := World.block_lt_of_cell? _ _ c0
      dsimp only at lc
      have le := World.block_lt_of_cell? _ _ e0
      dsimp only at le
      go_wp2_with fail
      refine (HR _).mono ?_
      rintro e w3 ⟨rfl, hb⟩
      replace c0 := cell_later hb c0
      replace c1 := cell_later hb c1
      replace c2 := cell_later hb c2
      replace e0 := cell_later hb e0
      replace e1 := cell_later hb e1
      replace e2 := cell_later hb e2
      replace e3 := cell_later hb e3
      replace e4 := cell_later hb e4
      replace hb0 := below_step hb0 hb
      clear hb
      have lc := World.block_lt_of_cell? _ _ c0
      dsimp only at lc
      have le := World.block_lt_of_cell? _ _ e0
      dsimp only at le
      go_wp2
      go_ret
      exact ⟨rfl, hb0⟩
    | true =>
      have hd2 : r = (decide (k.len = n) || (decide (k.kind = 3) && decide (k.len < n))) := by rw [hd]; simp [h1]
      clear hd
      by_cases h3 : k.len = n
      · have h3' : (k.len == n) = true := by simpa using h3
        have e : r = true := by rw [hd2]; simp [h3]
        subst e
        clear hd2 h3
        go_enter Try.func78, Try.ntmps78
        go_wp2_with fail
        refine (HL _).mono ?_
        rintro e w4 ⟨rfl, hb⟩
        replace c0 := cell_later hb c0
        replace c1 := cell_later hb c1
        replace c2 := cell_later hb c2
        replace e0 := cell_later hb e0
        replace e1 := cell_later hb e1
        replace e2 := cell_later hb e2
        replace e3 := cell_later hb e3
        replace e4 := cell_later hb e4
        replace hb0 := below_step hb0 hb
        clear hb
        have lc := World.block_lt_of_cell? _ _ c0
        dsimp only at lc
        have le := World.block_lt_of_cell? _ _ e0
        dsimp only at le
        go_wp2_with fail
        refine (HR _).mono ?_
        rintro e w5 ⟨rfl, hb⟩
        replace c0 := cell_later hb c0
        replace c1 := cell_later hb c1
        replace c2 := cell_later hb c2
        replace e0 := cell_later hb e0
        replace e1 := cell_later hb e1
        replace e2 := cell_later hb e2
        replace e3 := cell_later hb e3
        replace e4 := cell_later hb e4
        replace hb0 := below_step hb0 hb
        clear hb
        have lc := World.block_lt_of_cell? _ _ c0
        dsimp only at lc
        have le := World.block_lt_of_cell? _ _ e0
        dsimp only at le
        go_wp2
        go_ret
        exact ⟨rfl, hb0⟩
      · have h3' : (k.len == n) = false := by simpa using h3
        by_cases h4 : k.kind = 3
        · obtain ⟨kk, kn, kh, kl, kp⟩ := k
          dsimp only at *
          subst h4
          by_cases h5 : kn < n
          · have e : r = true := by rw [hd2]; simp [h5]
            subst e
            clear hd2
            go_enter Try.func78, Try.ntmps78
            go_wp2_with fail
            refine (HL _).mono ?_
            rintro e w6 ⟨rfl, hb⟩
            replace c0 := cell_later hb c0
            replace c1 := cell_later hb c1
            replace c2 := cell_later hb c2
            replace e0 := cell_later hb e0
            replace e1 := cell_later hb e1
            replace e2 := cell_later hb e2
            replace e3 := cell_later hb e3
            replace e4 := cell_later hb e4
            replace hb0 := below_step hb0 hb
            clear hb
            have lc := World.block_lt_of_cell? _ _ c0
            dsimp only at lc
            have le := World.block_lt_of_cell? _ _ e0
            dsimp only at le
            go_wp2_with fail
            refine (HR _).mono ?_
            rintro e w7 ⟨rfl, hb⟩
            replace c0 := cell_later hb c0
            replace c1 := cell_later hb c1
            replace c2 := cell_later hb c2
            replace e0 := cell_later hb e0
            replace e1 := cell_later hb e1
            replace e2 := cell_later hb e2
            replace e3 := cell_later hb e3
            replace e4 := cell_later hb e4
            replace hb0 := below_step hb0 hb
            clear hb
            have lc := World.block_lt_of_cell? _ _ c0
            dsimp only at lc
            have le := World.block_lt_of_cell? _ _ e0
            dsimp only at le
            go_wp2
            go_ret
            exact ⟨rfl, hb0⟩
          · have h5' : decide (kn < n) = false := decide_eq_false h5
            have e : r = false := by rw [hd2]; simp [h3, h5]
            subst e
            clear hd2
            go_enter Try.func78, Try.ntmps78
            go_wp2_with fail
            refine (HL _).mono ?_
            rintro e w8 ⟨rfl, hb⟩
            replace c0 := cell_later hb c0
            replace c1 := cell_later hb c1
            replace c2 := cell_later hb c2
            replace e0 := cell_later hb e0
            replace e1 := cell_later hb e1
            replace e2 := cell_later hb e2
            replace e3 := cell_later hb e3
            replace e4 := cell_later hb e4
            replace hb0 := below_step hb0 hb
            clear hb
            have lc := World.block_lt_of_cell? _ _ c0
            dsimp only at lc
            have le := World.block_lt_of_cell? _ _ e0
            dsimp only at le
            go_wp2_with fail
            refine (HR _).mono ?_
            rintro e w9 ⟨rfl, hb⟩
            replace c0 := cell_later hb c0
            replace c1 := cell_later hb c1
            replace c2 := cell_later hb c2
            replace e0 := cell_later hb e0
            replace e1 := cell_later hb e1
            replace e2 := cell_later hb e2
            replace e3 := cell_later hb e3
            replace e4 := cell_later hb e4
            replace hb0 := below_step hb0 hb
            clear hb
            have lc := World.block_lt_of_cell? _ _ c0
            dsimp only at lc
            have le := World.block_lt_of_cell? _ _ e0
            dsimp only at le
            go_wp2
            go_ret
            exact ⟨rfl, hb0⟩
        · skip
          have h4' : (k.kind == 3) = false := by simpa using h4
          have e : r = false := by rw [hd2]; simp [h3, h4]
          subst e
          clear hd2
          go_enter Try.func78, Try.ntmps78
          go_wp2_with fail
          refine (HL _).mono ?_
          rintro e w10 ⟨rfl, hb⟩
          replace c0 := cell_later hb c0
          replace c1 := cell_later hb c1
          replace c2 := cell_later hb c2
          replace e0 := cell_later hb e0
          replace e1 := cell_later hb e1
          replace e2 := cell_later hb e2
          replace e3 := cell_later hb e3
          replace e4 := cell_later hb e4
          replace hb0 := below_step hb0 hb
          clear hb
          have lc := World.block_lt_of_cell? _ _ c0
          dsimp only at lc
          have le := World.block_lt_of_cell? _ _ e0
          dsimp only at le
          go_wp2_with fail
          refine (HR _).mono ?_
          rintro e w11 ⟨rfl, hb⟩
          replace c0 := cell_later hb c0
          replace c1 := cell_later hb c1
          replace c2 := cell_later hb c2
          replace e0 := cell_later hb e0
          replace e1 := cell_later hb e1
          replace e2 := cell_later hb e2
          replace e3 := cell_later hb e3
          replace e4 := cell_later hb e4
          replace hb0 := below_step hb0 hb
          clear hb
          have lc := World.block_lt_of_cell? _ _ c0
          dsimp only at lc
          have le := World.block_lt_of_cell? _ _ e0
          dsimp only at le
          go_wp2
          go_ret
          exact ⟨rfl, hb0⟩
  · skip
    have h2' : (k.kind == dk) = false := by simpa using h2
    have e : r = false := by rw [hd]; simp [h2]
    subst e
    clear hd HR
    go_enter Try.func78, Try.ntmps78
    go_wp2_with fail
    refine (HL _).mono ?_
    rintro e w12 ⟨rfl, hb⟩
    replace c0 := cell_later hb c0
    replace c1 := cell_later hb c1
    replace c2 := cell_later hb c2
    replace e0 := cell_later hb e0
    replace e1 := cell_later hb e1
    replace e2 := cell_later hb e2
    replace e3 := cell_later hb e3
    replace e4 := cell_later hb e4
    replace hb0 := below_step hb0 hb
    clear hb
    have lc := World.block_lt_of_cell? _ _ c0
    dsimp only at lc
    have le := World.block_lt_of_cell? _ _ e0
    dsimp only at le
    go_wp2
    go_ret
    exact ⟨rfl, hb0⟩
end Go.Proofs.Ytbekocknfpekoaa
namespace Go.Proofs.Ytbekocknfpekoaa
set_option linter.unusedVariables false
set_option linter.unusedSimpArgs false
open Go.RowKit
set_option maxRecDepth 100000 in
set_option maxHeartbeats 8000000 in
theorem dcut_t (d : Dm) (l : Int) (k : Ke) (ok : k.ok) (w : World) : Calls Try.prog 61 #[dv d, .int .i64 l, kv k] w fun e w' => e = .returned (kv (cutD d l k)) ∧ Below w.heap.size w w' := by
  have HL := dlen_t d l
  have hn := lenD_range d l
  have HC := kcut_t k ok (lenD d l) (by omega)
  have hd : cutD d l k = if lenD d l = -1 ∨ ¬ k.kind = d.kind then kz else cutK k (lenD d l) := rfl
  clear ok
  generalize cutK k (lenD d l) = t at *
  generalize cutD d l k = r at *
  generalize lenD d l = n at *
  obtain ⟨dk, sd, st⟩ := d
  dsimp only at *
  unfold dv at *
  dsimp only at *
  obtain ⟨R0, R1, R2, hb0⟩ := three_rows w #[.int .i64 dk, .int .i64 sd, .int .i64 st] #[.int .i64 k.kind, .int .i64 k.len, .int .u64 k.h, .int .u64 k.l, .string ⟨k.path.toArray⟩] #[.int .i64 0, .int .i64 0, .int .u64 0, .int .u64 0, .string ⟨#[]⟩] 23 30 30
  have c0 := (R0.cell 0).trans (show _ = some (Value.int .i64 dk) from rfl)
  have c1 := (R0.cell 1).trans (show _ = some (Value.int .i64 sd) from rfl)
  have c2 := (R0.cell 2).trans (show _ = some (Value.int .i64 st) from rfl)
  clear R0
  by_cases h1 : n = -1
  · subst h1
    rw [if_pos (.inl rfl)] at hd
    subst hd
    clear HC R1
    unfold kv kz
    dsimp only
    go_enter Try.func61, Try.ntmps61
    go_wp2_with fail
    refine (HL _).mono ?_
    rintro e w1 ⟨rfl, hb⟩
    replace R2 := R2.later hb
    replace hb0 := below_step hb0 hb
    clear hb c0 c1 c2
    have z0 := ((R2).cell 0).trans (show _ = some (Value.int .i64 0) from rfl)
    have zf0 := (R2).frozen 0
    have z1 := ((R2).cell 1).trans (show _ = some (Value.int .i64 0) from rfl)
    have zf1 := (R2).frozen 1
    have z2 := ((R2).cell 2).trans (show _ = some (Value.int .u64 0) from rfl)
    have zf2 := (R2).frozen 2
    have z3 := ((R2).cell 3).trans (show _ = some (Value.int .u64 0) from rfl)
    have zf3 := (R2).frozen 3
    have z4 := ((R2).cell 4).trans (show _ = some (Value.string ⟨#[]⟩) from rfl)
    have zf4 := (R2).frozen 4
    clear R2
    go_wp2
    refine bodyPost_ret (v := .agg #[.int .i64 0, .int .i64 0, .int .u64 0, .int .u64 0, .string ⟨#[]⟩]) (by simp [results, Try.results61, go_sem, z0, z1, z2, z3, z4]) rfl ⟨rfl, bset5 hb0 (by omega) _ _ _ _ _⟩
  have h1' : (n == -1) = false := by simpa using h1
  by_cases h2 : k.kind = dk
  · rw [if_neg (by simp [h1, h2])] at hd
    subst hd
    obtain ⟨kk, kn, kh, kl, kp⟩ := k
    dsimp only at *
    subst h2
    obtain ⟨t0, t1, t2, t3, t4⟩ := r
    unfold kv at *
    dsimp only at *
    go_enter Try.func61, Try.ntmps61
    go_wp2_with fail
    refine (HL _).mono ?_
    rintro e w1 ⟨rfl, hb⟩
    replace c0 := cell_later hb c0
    replace R1 := R1.later hb
    replace R2 := R2.later hb
    replace hb0 := below_step hb0 hb
    clear hb c1 c2 HL
    have d0 := ((R1).cell 0).trans (show _ = some (Value.int .i64 kk) from rfl)
    have df0 := (R1).frozen 0
    have d1 := ((R1).cell 1).trans (show _ = some (Value.int .i64 kn) from rfl)
    have df1 := (R1).frozen 1
    have d2 := ((R1).cell 2).trans (show _ = some (Value.int .u64 kh) from rfl)
    have df2 := (R1).frozen 2
    have d3 := ((R1).cell 3).trans (show _ = some (Value.int .u64 kl) from rfl)
    have df3 := (R1).frozen 3
    have d4 := ((R1).cell 4).trans (show _ = some (Value.string ⟨kp.toArray⟩) from rfl)
    have df4 := (R1).frozen 4
    clear R1
    go_wp2_with fail
    refine (HC _).mono ?_
    rintro e w2 ⟨rfl, hb⟩
    replace R2 := R2.later hb
    replace hb0 := below_step hb0 hb
    clear hb c0 d0 d1 d2 d3 d4 df0 df1 df2 df3 df4 HC
    have z0 := ((R2).cell 0).trans (show _ = some (Value.int .i64 0) from rfl)
    have zf0 := (R2).frozen 0
    have z1 := ((R2).cell 1).trans (show _ = some (Value.int .i64 0) from rfl)
    have zf1 := (R2).frozen 1
    have z2 := ((R2).cell 2).trans (show _ = some (Value.int .u64 0) from rfl)
    have zf2 := (R2).frozen 2
    have z3 := ((R2).cell 3).trans (show _ = some (Value.int .u64 0) from rfl)
    have zf3 := (R2).frozen 3
    have z4 := ((R2).cell 4).trans (show _ = some (Value.string ⟨#[]⟩) from rfl)
    have zf4 := (R2).frozen 4
    clear R2
    go_wp2
    refine bodyPost_ret (v := .agg #[.int .i64 t0, .int .i64 t1, .int .u64 t2, .int .u64 t3, .string ⟨t4.toArray⟩]) (by simp [results, Try.results61, go_sem, z0, z1, z2, z3, z4]) rfl ⟨rfl, bset5 hb0 (by omega) _ _ _ _ _⟩
  · rw [if_pos (.inr h2)] at hd
    subst hd
    have h2' : (k.kind == dk) = false := by simpa using h2
    clear HC
    unfold kv kz
    dsimp only
    go_enter Try.func61, Try.ntmps61
    go_wp2_with fail
    refine (HL _).mono ?_
    rintro e w1 ⟨rfl, hb⟩
    replace c0 := cell_later hb c0
    have d0 := ((R1.later hb).cell 0).trans (show _ = some (Value.int .i64 k.kind) from rfl)
    replace R2 := R2.later hb
    replace hb0 := below_step hb0 hb
    clear hb c1 c2 R1 HL
    have z0 := ((R2).cell 0).trans (show _ = some (Value.int .i64 0) from rfl)
    have zf0 := (R2).frozen 0
    have z1 := ((R2).cell 1).trans (show _ = some (Value.int .i64 0) from rfl)
    have zf1 := (R2).frozen 1
    have z2 := ((R2).cell 2).trans (show _ = some (Value.int .u64 0) from rfl)
    have zf2 := (R2).frozen 2
    have z3 := ((R2).cell 3).trans (show _ = some (Value.int .u64 0) from rfl)
    have zf3 := (R2).frozen 3
    have z4 := ((R2).cell 4).trans (show _ = some (Value.string ⟨#[]⟩) from rfl)
    have zf4 := (R2).frozen 4
    clear R2
    go_wp2
    refine bodyPost_ret (v := .agg #[.int .i64 0, .int .i64 0, .int .u64 0, .int .u64 0, .string ⟨#[]⟩]) (by simp [results, Try.results61, go_sem, z0, z1, z2, z3, z4]) rfl ⟨rfl, bset5 hb0 (by omega) _ _ _ _ _⟩
end Go.Proofs.Ytbekocknfpekoaa
namespace Go.Proofs.Ytbekocknfpekoaa
set_option linter.unusedVariables false
set_option linter.unusedSimpArgs false
open Go.RowKit
attribute [local go_sem] Oper.semAt_some
/-- how many levels there are -/
def cntD (d : Dm) : Nat := if rightD d = true then (depthD d).toNat + 1 else 0
theorem cntD_ok {d : Dm} (h : rightD d = true) : (cntD d : Int) = depthD d + 1 := by
  unfold cntD
  rw [if_pos h]
  have := (depth_range h).1
  omega
theorem cntD_bad {d : Dm} (h : rightD d = false) : cntD d = 0 := by unfold cntD; rw [h]; rfl
theorem abides_below {β : Type} {B : Nat} {J : β → World → Prop} (h : AbidesFrom B J) {s : β} {W W' : World} (hs : J s W) (hb : Below W.heap.size W W') : J s W' :=
  h s W W' none hs ⟨hb.os, hb.tape, hb.output, hb.size, fun k hk _ => hb.block k hk⟩ (fun r e => by cases e)
def levF (d : Dm) (k : Nat) : Array Value := #[.int .i64 k, .int .i64 (lenD d k)]
end Go.Proofs.Ytbekocknfpekoaa
namespace Go.Proofs.Ytbekocknfpekoaa
set_option linter.unusedVariables false
set_option linter.unusedSimpArgs false
open Go.RowKit
attribute [local go_sem] Oper.semAt_some
/-- the first level of a length -/
def levelD (d : Dm) (n : Int) : Int := match (List.range (cntD d)).find? (fun i : Nat => decide (lenD d i = n)) with
  | some i => (i : Int)
  | none => -1
end Go.Proofs.Ytbekocknfpekoaa
namespace Go.Proofs.Ytbekocknfpekoaa
set_option linter.unusedVariables false
set_option linter.unusedSimpArgs false
open Go.RowKit
theorem lenD_yes {d : Dm} {l : Int} (h : rightD d = true) (h0 : 0 ≤ l) (h1 : l ≤ depthD d) : lenD d l = max (wid d.kind - l * d.step) 0 := by
  unfold lenD; rw [if_pos ⟨h, h0, h1⟩]
theorem lenD_no {d : Dm} {l : Int} (h : ¬ (rightD d = true ∧ 0 ≤ l ∧ l ≤ depthD d)) : lenD d l = -1 := by
  unfold lenD; rw [if_neg h]
theorem lenD_there {d : Dm} {l : Int} (h : 0 ≤ lenD d l) : rightD d = true ∧ 0 ≤ l ∧ l ≤ depthD d := Classical.byContradiction fun e => by
  rw [lenD_no e] at h; omega
theorem lenD_zero {d : Dm} (h : rightD d = true) : lenD d 0 = wid d.kind := by
  obtain ⟨g1, _, _, _⟩ := depth_range h
  have hw := wid_range d.kind
  rw [lenD_yes h (by omega) (by omega)]; omega
theorem lenD_end {d : Dm} (h : rightD d = true) : lenD d (depthD d) = 0 := by
  obtain ⟨g1, _, g3, _⟩ := depth_range h
  rw [lenD_yes h (by omega) (by omega)]; omega
theorem mul_step {l m s : Int} (h : l ≤ m) (hs : 0 ≤ s) : l * s ≤ m * s := Int.mul_le_mul_of_nonneg_right h hs
theorem lenD_mono {d : Dm} {i j : Int} (hi : 0 ≤ lenD d i) (hj : 0 ≤ lenD d j) (h : i ≤ j) : lenD d j ≤ lenD d i := by
  obtain ⟨r, i0, i1⟩ := lenD_there hi
  obtain ⟨_, j0, j1⟩ := lenD_there hj
  obtain ⟨_, s1, s2⟩ := (rightD_iff d).1 r
  rw [lenD_yes r i0 i1, lenD_yes r j0 j1]
  have := mul_step h (show 0 ≤ d.step by omega)
  omega
/-- from one level to the next -/
theorem lenD_step {d : Dm} (h : rightD d = true) {l : Int} (h0 : 0 ≤ l) (h1 : l < depthD d) : lenD d (l + 1) < lenD d l ∧ (lenD d l - lenD d (l + 1) = d.step ∨ (lenD d l - lenD d (l + 1) < d.step ∧ l + 1 = depthD d)) ∧ 0 < lenD d l := by
  obtain ⟨g1, g2, g3, g4⟩ := depth_range h
  obtain ⟨_, s1, s2⟩ := (rightD_iff d).1 h
  rw [lenD_yes h h0 (by omega), lenD_yes h (by omega) (by omega)]
  have e1 := mul_step (show l ≤ depthD d - 1 by omega) (show 0 ≤ d.step by omega)
  have e2 : (l + 1) * d.step = l * d.step + d.step := by rw [Int.add_mul, Int.one_mul]
  by_cases hl : l + 1 = depthD d
  · rw [← hl] at g3 g4
    rw [show l + 1 - 1 = l by omega] at g4
    refine ⟨by omega, ?_, by omega⟩
    by_cases hz : wid d.kind - (l + 1) * d.step < 0
    · right; exact ⟨by omega, hl⟩
    · left; omega
  · have e3 := mul_step (show l + 1 ≤ depthD d - 1 by omega) (show 0 ≤ d.step by omega)
    refine ⟨by omega, .inl (by omega), by omega⟩
theorem onD_iff (d : Dm) (l : Int) (k : Ke) : onD d l k = true ↔ 0 ≤ lenD d l ∧ k.kind = d.kind ∧ rightK k = true ∧ (k.len = lenD d l ∨ (d.kind = 3 ∧ k.len < lenD d l)) := by
  have := lenD_range d l
  unfold onD
  simp only [Bool.and_eq_true, Bool.or_eq_true, Bool.not_eq_true', decide_eq_false_iff_not, decide_eq_true_eq]
  constructor
  · rintro ⟨a, b, c, e⟩; exact ⟨by omega, b, c, e⟩
  · rintro ⟨a, b, c, e⟩; exact ⟨by omega, b, c, e⟩
theorem cutD_yes {d : Dm} {l : Int} {k : Ke} (h : 0 ≤ lenD d l) (hk : k.kind = d.kind) : cutD d l k = cutK k (lenD d l) := by
  unfold cutD; rw [if_neg (by rintro (e | e); omega; exact e hk)]
theorem kind_dim {d : Dm} (h : rightD d = true) : d.kind = 1 ∨ d.kind = 2 ∨ d.kind = 3 := by
  obtain ⟨_, s1, s2⟩ := (rightD_iff d).1 h
  unfold wid at s2
  by_cases a : d.kind = 1
  · exact .inl a
  · by_cases b : d.kind = 2
    · exact .inr (.inl b)
    · by_cases c : d.kind = 3
      · exact .inr (.inr c)
      · rw [if_neg a, if_neg b, if_neg c] at s2; omega
theorem cut_on {d : Dm} {i j : Int} {k : Ke} (h : onD d i k = true) (hj : 0 ≤ lenD d j) (hij : i ≤ j) : onD d j (cutD d j k) = true := by
  obtain ⟨a, b, c, e⟩ := (onD_iff d i k).1 h
  have hm := lenD_mono a hj hij
  have hl := len_range c
  obtain ⟨c1, c2, c3⟩ := cut_right c (lenD d j)
  rw [cutD_yes hj b]
  refine (onD_iff _ _ _).2 ⟨hj, c2.trans b, c1, ?_⟩
  have l1 := letK_len c1
  have l2 := letK_len c
  rw [c3, List.length_take] at l1
  rcases e with e | ⟨e1, e2⟩
  · left; omega
  · by_cases hx : k.len < lenD d j
    · right; exact ⟨e1, by omega⟩
    · left; omega
theorem cutD_ok {k : Ke} (ok : k.ok) (d : Dm) (l : Int) : (cutD d l k).ok := by
  have := lenD_range d l
  unfold cutD
  split
  · exact kz_ok
  · exact cut_ok ok _ (by omega)
end Go.Proofs.Ytbekocknfpekoaa
namespace Go.Proofs.Ytbekocknfpekoaa
set_option linter.unusedVariables false
set_option linter.unusedSimpArgs false
open Go.RowKit
structure Sp where
  n : Int
  d0 : Dm
  d1 : Dm
  deriving DecidableEq
structure Px where
  a0 : Int
  a1 : Int
  k0 : Ke
  k1 : Ke
  deriving DecidableEq
def sv (s : Sp) : Value := .agg #[.int .i64 s.n, .int .i64 s.d0.kind, .int .i64 s.d0.side, .int .i64 s.d0.step, .int .i64 s.d1.kind, .int .i64 s.d1.side, .int .i64 s.d1.step]
def pv (p : Px) : Value := .agg #[.int .i64 p.a0, .int .i64 p.a1, .int .i64 p.k0.kind, .int .i64 p.k0.len, .int .u64 p.k0.h, .int .u64 p.k0.l, .string ⟨p.k0.path.toArray⟩, .int .i64 p.k1.kind, .int .i64 p.k1.len, .int .u64 p.k1.h, .int .u64 p.k1.l, .string ⟨p.k1.path.toArray⟩]
theorem eqIn_int (d : Nat) (a b : Int) (w : World) : (Op.equalIn (d + 1) 3 (.int .i64 a) (.int .i64 b)).run Try.prog w = .ok (decide (a = b)) w := by
  simp only [Op.equalIn, Sem.run_bind, run_underlying Try.underlying3, Result.andThen_ok]
  simp [go_sem]
  rfl
theorem eqIn_word (d : Nat) (a b : Int) (w : World) : (Op.equalIn (d + 1) 28 (.int .u64 a) (.int .u64 b)).run Try.prog w = .ok (decide (a = b)) w := by
  simp only [Op.equalIn, Sem.run_bind, run_underlying Try.underlying28, Result.andThen_ok]
  simp [go_sem]
  rfl
theorem ba_beq (a b : ByteArray) : (a == b) = decide (a = b) := by rw [Bool.eq_iff_iff, decide_eq_true_eq]; exact MapKept.bytes_beq a b
theorem eqIn_str (d : Nat) (a b : ByteArray) (w : World) : (Op.equalIn (d + 1) 9 (.string a) (.string b)).run Try.prog w = .ok (decide (a = b)) w := by
  simp only [Op.equalIn, Sem.run_bind, run_underlying Try.underlying9, Result.andThen_ok]
  rw [ba_beq]; rfl
/-- two lists of equal-made cells, one by one -/
theorem eqIn_key (d : Nat) (a0 a1 a2 a3 : Int) (a4 : ByteArray) (b0 b1 b2 b3 : Int) (b4 : ByteArray) (w : World) : (Op.equalIn (d + 2) 30 (.agg #[.int .i64 a0, .int .i64 a1, .int .u64 a2, .int .u64 a3, .string a4]) (.agg #[.int .i64 b0, .int .i64 b1, .int .u64 b2, .int .u64 b3, .string b4])).run Try.prog w = .ok (eqK a0 a1 a2 a3 a4 b0 b1 b2 b3 b4) w := by
  have e1 := eqIn_int d
  have e2 := eqIn_word d
  have e3 := eqIn_str d
  rw [show d + 2 = (d + 1) + 1 from rfl, run_equalIn_struct _ _ _ _ _ (by kernel_rfl) (by kernel_rfl), show (Try.prog.fieldsOf 30).toList = _ from by unfold Program.fieldsOf; rw [Try.underlying30]]
  unfold eqK
  simp [go_sem, Op.eqFields, e1, e2, e3]
  by_cases h0 : a0 = b0 <;> by_cases h1 : a1 = b1 <;> by_cases h2 : a2 = b2 <;> by_cases h3 : a3 = b3 <;> by_cases h4 : a4 = b4 <;> simp [go_sem, h0, h1, h2, h3, h4]
theorem eqIn_dim (d : Nat) (x y : Dm) (w : World) : (Op.equalIn (d + 2) 23 (dv x) (dv y)).run Try.prog w = .ok (decide (x = y)) w := by
  have e1 := eqIn_int d
  obtain ⟨a0, a1, a2⟩ := x
  obtain ⟨b0, b1, b2⟩ := y
  unfold dv
  rw [show d + 2 = (d + 1) + 1 from rfl, run_equalIn_struct _ _ _ _ _ (by kernel_rfl) (by kernel_rfl), show (Try.prog.fieldsOf 23).toList = _ from by unfold Program.fieldsOf; rw [Try.underlying23]]
  simp [go_sem, Op.eqFields, e1]
  by_cases h0 : a0 = b0 <;> by_cases h1 : a1 = b1 <;> by_cases h2 : a2 = b2 <;> simp [go_sem, h0, h1, h2]
theorem eqIn_at (d : Nat) (a0 a1 b0 b1 : Int) (w : World) : (Op.equalIn (d + 2) 27 (.agg #[.int .i64 a0, .int .i64 a1]) (.agg #[.int .i64 b0, .int .i64 b1])).run Try.prog w = .ok (decide (a0 = b0 ∧ a1 = b1)) w := by
  have e1 := eqIn_int d
  obtain ⟨i, hi⟩ := info_of_underlying Try.underlying3
  have hc : Try.prog.cellsOf 3 = 1 := by kernel_rfl
  rw [show d + 2 = (d + 1) + 1 from rfl, run_equalIn_array _ _ _ _ Try.underlying27 hi, hc, show List.range 2 = [0, 1] from rfl]
  simp [go_sem, Op.eqItems, e1]
  by_cases h0 : a0 = b0 <;> by_cases h1 : a1 = b1 <;> simp [go_sem, h0, h1]
def keys2 (a b : Ke) : Value := .agg #[.int .i64 a.kind, .int .i64 a.len, .int .u64 a.h, .int .u64 a.l, .string ⟨a.path.toArray⟩, .int .i64 b.kind, .int .i64 b.len, .int .u64 b.h, .int .u64 b.l, .string ⟨b.path.toArray⟩]
theorem eqIn_keys (d : Nat) (a b x y : Ke) (w : World) : (Op.equalIn (d + 3) 31 (keys2 a b) (keys2 x y)).run Try.prog w = .ok (decide (a = x ∧ b = y)) w := by
  have e1 := eqIn_key d
  have e2 := eqK_ke a x
  have e3 := eqK_ke b y
  obtain ⟨i, hi⟩ := info_of_underlying Try.underlying30
  have hc : Try.prog.cellsOf 30 = 5 := by kernel_rfl
  unfold keys2
  rw [show d + 3 = (d + 2) + 1 from rfl, run_equalIn_array _ _ _ _ Try.underlying31 hi, hc, show List.range 2 = [0, 1] from rfl]
  simp [go_sem, Op.eqItems, e1, e2, e3]
  by_cases h0 : a = x <;> by_cases h1 : b = y <;> simp [go_sem, h0, h1]
theorem px_ext {p q : Px} (h0 : p.a0 = q.a0) (h1 : p.a1 = q.a1) (h2 : p.k0 = q.k0) (h3 : p.k1 = q.k1) : p = q := by cases p; cases q; simp_all
theorem px_iff (p q : Px) : p = q ↔ (p.a0 = q.a0 ∧ p.a1 = q.a1) ∧ p.k0 = q.k0 ∧ p.k1 = q.k1 := ⟨by rintro rfl; simp, fun ⟨⟨h0, h1⟩, h2, h3⟩ => px_ext h0 h1 h2 h3⟩
theorem eqIn_px (d : Nat) (p q : Px) (w : World) : (Op.equalIn (d + 4) 33 (pv p) (pv q)).run Try.prog w = .ok (decide (p = q)) w := by
  have e1 := eqIn_at (d + 1)
  have e2 := eqIn_keys d p.k0 p.k1 q.k0 q.k1
  have e3 := px_iff p q
  unfold pv
  unfold keys2 at e2
  rw [show d + 4 = (d + 3) + 1 from rfl, run_equalIn_struct _ _ _ _ _ (by kernel_rfl) (by kernel_rfl), show (Try.prog.fieldsOf 33).toList = _ from by unfold Program.fieldsOf; rw [Try.underlying33]]
  rw [show decide (p = q) = (decide (p.a0 = q.a0 ∧ p.a1 = q.a1) && decide (p.k0 = q.k0 ∧ p.k1 = q.k1)) from by rw [Bool.eq_iff_iff]; simp only [Bool.and_eq_true, decide_eq_true_eq]; exact e3]
  simp [go_sem, Op.eqFields, e1, e2]
  by_cases h0 : p.a0 = q.a0 <;> by_cases h1 : p.a1 = q.a1 <;> by_cases h2 : p.k0 = q.k0 <;> by_cases h3 : p.k1 = q.k1 <;> simp [go_sem, h0, h1, h2, h3]
theorem eql_px (p q : Px) (w : World) : (binOp .eql 33 (pv p) (pv q)).run Try.prog w = .ok (.bool (decide (p = q))) w := by
  have e := eqIn_px 9996 p q
  unfold pv at *
  simp [go_sem, e]
theorem neq_px (p q : Px) (w : World) : (binOp .neq 33 (pv p) (pv q)).run Try.prog w = .ok (.bool (!decide (p = q))) w := by
  have e := eqIn_px 9996 p q
  unfold pv at *
  simp [go_sem, e]
theorem eql_dim (p q : Dm) (w : World) : (binOp .eql 23 (dv p) (dv q)).run Try.prog w = .ok (.bool (decide (p = q))) w := by
  have e := eqIn_dim 9998 p q
  unfold dv at *
  simp [go_sem, e]
theorem neq_dim (p q : Dm) (w : World) : (binOp .neq 23 (dv p) (dv q)).run Try.prog w = .ok (.bool (!decide (p = q))) w := by
  have e := eqIn_dim 9998 p q
  unfold dv at *
  simp [go_sem, e]
theorem four_rows (w : World) (a0 a1 a2 a3 : Array Value) (t0 t1 t2 t3 : TypeId) : Row ((((w.alloc (.cells a0 t0)).alloc (.cells a1 t1)).alloc (.cells a2 t2)).alloc (.cells a3 t3)) (w.heap.size) a0 t0 ∧ Row ((((w.alloc (.cells a0 t0)).alloc (.cells a1 t1)).alloc (.cells a2 t2)).alloc (.cells a3 t3)) (w.heap.size + 1) a1 t1 ∧ Row ((((w.alloc (.cells a0 t0)).alloc (.cells a1 t1)).alloc (.cells a2 t2)).alloc (.cells a3 t3)) (w.heap.size + 1 + 1) a2 t2 ∧ Row ((((w.alloc (.cells a0 t0)).alloc (.cells a1 t1)).alloc (.cells a2 t2)).alloc (.cells a3 t3)) (w.heap.size + 1 + 1 + 1) a3 t3 ∧ Below w.heap.size w ((((w.alloc (.cells a0 t0)).alloc (.cells a1 t1)).alloc (.cells a2 t2)).alloc (.cells a3 t3)) := by
  obtain ⟨h0, h1, h2, hb⟩ := three_rows w a0 a1 a2 t0 t1 t2
  refine ⟨h0.alloc _, h1.alloc _, h2.alloc _, ?_, hb.alloc hb.size _⟩
  have := Row.new (((w.alloc (.cells a0 t0)).alloc (.cells a1 t1)).alloc (.cells a2 t2)) a3 t3
  rwa [World.size_alloc, World.size_alloc, World.size_alloc] at this
theorem set12 {w : World} {g : Nat} {cs : Array Value} {t : TypeId} (h : Row w g cs t) (hs : cs.size = 12) (v0 v1 v2 v3 v4 v5 v6 v7 v8 v9 v10 v11 : Value) : Row ((((((((((((w.setCell ⟨g, 0, none⟩ v0).setCell ⟨g, 1, none⟩ v1).setCell ⟨g, 2, none⟩ v2).setCell ⟨g, 3, none⟩ v3).setCell ⟨g, 4, none⟩ v4).setCell ⟨g, 5, none⟩ v5).setCell ⟨g, 6, none⟩ v6).setCell ⟨g, 7, none⟩ v7).setCell ⟨g, 8, none⟩ v8).setCell ⟨g, 9, none⟩ v9).setCell ⟨g, 10, none⟩ v10).setCell ⟨g, 11, none⟩ v11) g #[v0, v1, v2, v3, v4, v5, v6, v7, v8, v9, v10, v11] t := by
  have r := Row.setCells [v0, v1, v2, v3, v4, v5, v6, v7, v8, v9, v10, v11] 0 h
  have e := setL_all cs #[v0, v1, v2, v3, v4, v5, v6, v7, v8, v9, v10, v11] (by simp [hs])
  rw [show (#[v0, v1, v2, v3, v4, v5, v6, v7, v8, v9, v10, v11] : Array Value).toList = [v0, v1, v2, v3, v4, v5, v6, v7, v8, v9, v10, v11] from rfl] at e
  rw [e] at r
  exact r
theorem bset12 {w w1 : World} {g : Nat} (hb : Below w.heap.size w w1) (hg : w.heap.size ≤ g) (v0 v1 v2 v3 v4 v5 v6 v7 v8 v9 v10 v11 : Value) : Below w.heap.size w ((((((((((((w1.setCell ⟨g, 0, none⟩ v0).setCell ⟨g, 1, none⟩ v1).setCell ⟨g, 2, none⟩ v2).setCell ⟨g, 3, none⟩ v3).setCell ⟨g, 4, none⟩ v4).setCell ⟨g, 5, none⟩ v5).setCell ⟨g, 6, none⟩ v6).setCell ⟨g, 7, none⟩ v7).setCell ⟨g, 8, none⟩ v8).setCell ⟨g, 9, none⟩ v9).setCell ⟨g, 10, none⟩ v10).setCell ⟨g, 11, none⟩ v11) :=
  below_setCells hg [v0, v1, v2, v3, v4, v5, v6, v7, v8, v9, v10, v11] 0 w1 hb
theorem pcell_far {w : World} {g o : Nat} {vs : List Value} {a : Addr} {v : Value} (h : w.cell? a = some v) (hne : a.block ≠ g) : (w.setCells g o vs).cell? a = some v := by
  rw [World.cell?_setCells_out g vs o w a (fun e => absurd e hne)]; exact h
theorem prow_far {w : World} {g k o : Nat} {vs : List Value} {cs : Array Value} {t : TypeId} (h : Row w k cs t) (hne : k ≠ g) : Row (w.setCells g o vs) k cs t := (setCells_other hne vs o w).trans h
theorem Row.setMany {w : World} {g : Nat} {cs ds : Array Value} {t : TypeId} (h : Row w g cs t) (o : Nat) (vs : List Value) (e : setL cs o vs = ds) : Row (w.setCells g o vs) g ds t := e ▸ Row.setCells vs o h
theorem pexec_load {P : Program} {o : Oper} {a : Act} {w : World} (ty : TypeId) (x : Operand) (ho : o.op = .load ty x) (g : Nat) (hx : a.eval x = .pointer (some ⟨g, 0, none⟩)) (t : TypeId) (cs : Array Value) (d : TypeDesc) (hg : Row w g cs t)
    (hu : P.underlying ty = some d) (hd : (match d with | .struct _ | .array _ _ => true | _ => false) = true) (hi : (P.info? ty).map (·.size) = some cs.size) : (execOp a.eval o).run P w = .ok (.value (.agg cs)) w := by
  unfold execOp
  simp only [ho, hx, Instr.loadAt, Instr.sureAddr, Sem.run_bind, Sem.run_pure, Result.andThen_ok, run_loadVar_row w g t ty cs (0, 0) d hg hu hd hi]
theorem Row.thereAt {w : World} {g : Nat} {cs : Array Value} {t : TypeId} (h : Row w g cs t) (o n : Nat) (hn : o + n ≤ cs.size) : w.there g o n := fun j hj => by
  rw [h.cell (o + j), h.frozen (o + j), Array.getElem?_eq_getElem (by omega)]
  exact ⟨rfl, rfl⟩
theorem infoPx : (Try.prog.info? 33).map (·.size) = some 12 := by kernel_rfl
theorem infoSp : (Try.prog.info? 26).map (·.size) = some 7 := by kernel_rfl
theorem infoKe : (Try.prog.info? 30).map (·.size) = some 5 := by kernel_rfl
theorem pcf {w w' : World} {g o : Nat} {vs : List Value} {a : Addr} {v : Value} (hw : w' = w.setCells g o vs) (h : w.cell? a = some v) (hne : a.block ≠ g := by first | omega | (simp; done) | (simp; omega) | omega) : w'.cell? a = some v := hw ▸ pcell_far h hne
theorem prf {w w' : World} {g k o : Nat} {vs : List Value} {cs : Array Value} {t : TypeId} (hw : w' = w.setCells g o vs) (h : Row w k cs t) (hne : k ≠ g := by first | omega | (simp; done) | (simp; omega) | omega) : Row w' k cs t := hw ▸ prow_far h hne
theorem psm {w w' : World} {g o : Nat} {vs : List Value} {cs ds : Array Value} {t : TypeId} (hw : w' = w.setCells g o vs) (h : Row w g cs t) (e : setL cs o vs = ds) : Row w' g ds t := hw ▸ Row.setMany h o vs e
theorem pbl {B g o : Nat} {a w w' : World} {vs : List Value} (hw : w' = w.setCells g o vs) (h : Below B a w) (hg : B ≤ g := by omega) : Below B a w' := hw ▸ below_setCells hg vs o w h
/-- a store of a whole struct -/
theorem pst {P : Program} {op : Oper} {a : Act} {w : World} {K : Act → World → Prop} {Q : Exit → Act → World → Prop} (ty : TypeId) (x y : Operand) (ho : op.op = .store ty x y)
    (b o : Nat) (cells : Array Value) (hx : a.eval x = .pointer (some ⟨b, o, none⟩)) (hy : a.eval y = .agg cells)
    (ht : w.there b o cells.size) (hi : (P.info? ty).map (·.size) = some cells.size) (h1 : cells.all (·.oneCell') = true)
    (h : ∀ w', w' = w.setCells b o cells.toList → K (a.put op.dst undef) w') : op.wp P a w K Q := wp_store_mid ty x y ho b o cells hx hy ht hi h1 (h _ rfl)
theorem psw {w w' : World} {g : Nat} {cells cs : Array Value} {t : TypeId} (hw : w' = w.setCells g 0 cells.toList) (h : Row w g cs t) (e : setL cs 0 cells.toList = cells := by simp [setL]) : Row w' g cells t := hw ▸ Row.setMany h 0 _ e
end Go.Proofs.Ytbekocknfpekoaa
namespace Go.Proofs.Ytbekocknfpekoaa
set_option linter.unusedVariables false
set_option linter.unusedSimpArgs false
open Go.RowKit
def dz : Dm := ⟨0, 0, 0⟩
def pz : Px := ⟨0, 0, kz, kz⟩
def soundS (s : Sp) : Bool := if s.n = 1 then rightD s.d0 && decide (s.d1 = dz) else decide (s.n = 2) && (rightD s.d0 && rightD s.d1)
def rightP (s : Sp) (p : Px) : Bool := soundS s && (onD s.d0 p.a0 p.k0 && (if s.n = 1 then decide (p.a1 = 0) && decide (p.k1 = kz) else onD s.d1 p.a1 p.k1))
set_option maxRecDepth 100000 in
set_option maxHeartbeats 4000000 in
theorem on0_t (s : Sp) (l : Int) (k : Ke) (ok : k.ok) (hn : 1 ≤ s.n) (w : World) : Calls Try.prog 53 #[sv s, .int .i64 0, .int .i64 l, kv k] w fun e w' => e = .returned (.bool (onD s.d0 l k)) ∧ Below w.heap.size w w' := by
  have HO := don_t s.d0 l k ok
  generalize onD s.d0 l k = r at *
  unfold sv kv dv at *
  obtain ⟨RR0, RR1, hb0⟩ := two_rows w #[.int .i64 s.n, .int .i64 s.d0.kind, .int .i64 s.d0.side, .int .i64 s.d0.step, .int .i64 s.d1.kind, .int .i64 s.d1.side, .int .i64 s.d1.step] #[.int .i64 k.kind, .int .i64 k.len, .int .u64 k.h, .int .u64 k.l, .string ⟨k.path.toArray⟩] 26 30
  have c0 := (RR0.cell 0).trans (show _ = some (Value.int .i64 s.n) from rfl)
  have c1 := (RR0.cell 1).trans (show _ = some (Value.int .i64 s.d0.kind) from rfl)
  have c2 := (RR0.cell 2).trans (show _ = some (Value.int .i64 s.d0.side) from rfl)
  have c3 := (RR0.cell 3).trans (show _ = some (Value.int .i64 s.d0.step) from rfl)
  have c4 := (RR0.cell 4).trans (show _ = some (Value.int .i64 s.d1.kind) from rfl)
  have c5 := (RR0.cell 5).trans (show _ = some (Value.int .i64 s.d1.side) from rfl)
  have c6 := (RR0.cell 6).trans (show _ = some (Value.int .i64 s.d1.step) from rfl)
  have d0 := (RR1.cell 0).trans (show _ = some (Value.int .i64 k.kind) from rfl)
  have d1 := (RR1.cell 1).trans (show _ = some (Value.int .i64 k.len) from rfl)
  have d2 := (RR1.cell 2).trans (show _ = some (Value.int .u64 k.h) from rfl)
  have d3 := (RR1.cell 3).trans (show _ = some (Value.int .u64 k.l) from rfl)
  have d4 := (RR1.cell 4).trans (show _ = some (Value.string ⟨k.path.toArray⟩) from rfl)
  clear RR0 RR1
  go_enter Try.func53, Try.ntmps53
  go_wp2_with fail
  refine wp_region_held_drew (S := (fun w' => w'.cell? ⟨w.heap.size, 0, none⟩ = some (.int .i64 s.n) ∧ w'.cell? ⟨w.heap.size, 1, none⟩ = some (.int .i64 s.d0.kind) ∧ w'.cell? ⟨w.heap.size, 2, none⟩ = some (.int .i64 s.d0.side) ∧ w'.cell? ⟨w.heap.size, 3, none⟩ = some (.int .i64 s.d0.step) ∧ w'.cell? ⟨w.heap.size, 4, none⟩ = some (.int .i64 s.d1.kind) ∧ w'.cell? ⟨w.heap.size, 5, none⟩ = some (.int .i64 s.d1.side) ∧ w'.cell? ⟨w.heap.size, 6, none⟩ = some (.int .i64 s.d1.step) ∧ w'.cell? ⟨w.heap.size + 1, 0, none⟩ = some (.int .i64 k.kind) ∧ w'.cell? ⟨w.heap.size + 1, 1, none⟩ = some (.int .i64 k.len) ∧ w'.cell? ⟨w.heap.size + 1, 2, none⟩ = some (.int .u64 k.h) ∧ w'.cell? ⟨w.heap.size + 1, 3, none⟩ = some (.int .u64 k.l) ∧ w'.cell? ⟨w.heap.size + 1, 4, none⟩ = some (.string ⟨k.path.toArray⟩) ∧ Below w.heap.size w w')) (by kernel_rfl) ?hSr25_ (fun hHeld => ?_)
  case hSr25_ => (first | exact ⟨c0, c1, c2, c3, c4, c5, c6, d0, d1, d2, d3, d4, hb0.drew⟩ | exact ⟨c0, c1, c2, c3, c4, c5, c6, d0, d1, d2, d3, d4, hb0⟩ | (obtain ⟨c0, c1, c2, c3, c4, c5, c6, d0, d1, d2, d3, d4, hb0⟩ := hHeld; exact ⟨cell_later hb c0, cell_later hb c1, cell_later hb c2, cell_later hb c3, cell_later hb c4, cell_later hb c5, cell_later hb c6, cell_later hb d0, cell_later hb d1, cell_later hb d2, cell_later hb d3, cell_later hb d4, below_step hb0 hb⟩))
  refine tk 0 ⟨some 20, .move (.tmp 1), 3, _, _, _⟩ hHeld ?_
  (try simp only [Act.put, nz1, nz2, nz3])
  refine tk 1 ⟨some 21, .fieldAddr 26 (.tmp 4) 1, 0, _, _, _⟩ hHeld ?_
  (try simp only [Act.put, nz1, nz2, nz3])
  refine tk 2 ⟨some 22, .indexAddr 24 (.tmp 21) (.tmp 20), 0, _, _, _⟩ hHeld ?_
  (try simp only [Act.put, nz1, nz2, nz3])
  refine tk 3 ⟨some 23, .load 23 (.tmp 22), 23, _, _, _⟩ hHeld ?_
  (try simp only [Act.put, nz1, nz2, nz3])
  refine tk 4 ⟨some 24, .move (.tmp 2), 3, _, _, _⟩ hHeld ?_
  (try simp only [Act.put, nz1, nz2, nz3])
  refine tk 5 ⟨some 25, .load 30 (.tmp 7), 30, _, _, _⟩ hHeld ?_
  (try simp only [Act.put, nz1, nz2, nz3])
  refine wpAnyH_ready (rs := [6]) (by kernel_rfl) (by simp) ?_
  refine AllReadyH.cons (o := ⟨some 26, .call { callee := .value (.func 78), args := #[.tmp 23, .tmp 24, .tmp 25], argTypes := #[23, 3, 30] }, 4, _, _, _⟩) rfl (fun K hK => ?_) AllReadyH.nil
  (go_simp; (refine (HO _).mono ?_); (rintro e wn ⟨rfl, hb⟩); go_wp2_with fail)
  refine hK.out _ _ ?hSr25_7_6 (fun hHeld2 => ?_)
  case hSr25_7_6 => (first | exact ⟨c0, c1, c2, c3, c4, c5, c6, d0, d1, d2, d3, d4, hb0.drew⟩ | exact ⟨c0, c1, c2, c3, c4, c5, c6, d0, d1, d2, d3, d4, hb0⟩ | (obtain ⟨c0, c1, c2, c3, c4, c5, c6, d0, d1, d2, d3, d4, hb0⟩ := hHeld; exact ⟨cell_later hb c0, cell_later hb c1, cell_later hb c2, cell_later hb c3, cell_later hb c4, cell_later hb c5, cell_later hb c6, cell_later hb d0, cell_later hb d1, cell_later hb d2, cell_later hb d3, cell_later hb d4, below_step hb0 hb⟩))
  clear hK K hHeld
  have hHeld := hHeld2
  clear hHeld2
  (try simp only [Act.put, nz1, nz2, nz3])
  refine tk 7 ⟨some 8, .assign (.tmp 26), 4, _, _, _⟩ hHeld ?_
  (try simp only [Act.put, nz1, nz2, nz3])
  refine wpAnyH_done (by kernel_rfl) ?_ _
  clear c0 c1 c2 c3 c4 c5 c6 d0 d1 d2 d3 d4 hb0
  obtain ⟨c0, c1, c2, c3, c4, c5, c6, d0, d1, d2, d3, d4, hb0⟩ := hHeld
  go_wp2
  go_ret
  exact ⟨rfl, hb0⟩
set_option maxRecDepth 100000 in
set_option maxHeartbeats 4000000 in
theorem on2_t (s : Sp) (l : Int) (k : Ke) (ok : k.ok) (hn : 2 ≤ s.n) (w : World) : Calls Try.prog 53 #[sv s, .int .i64 1, .int .i64 l, kv k] w fun e w' => e = .returned (.bool (onD s.d1 l k)) ∧ Below w.heap.size w w' := by
  have HO := don_t s.d1 l k ok
  generalize onD s.d1 l k = r at *
  unfold sv kv dv at *
  obtain ⟨RR0, RR1, hb0⟩ := two_rows w #[.int .i64 s.n, .int .i64 s.d0.kind, .int .i64 s.d0.side, .int .i64 s.d0.step, .int .i64 s.d1.kind, .int .i64 s.d1.side, .int .i64 s.d1.step] #[.int .i64 k.kind, .int .i64 k.len, .int .u64 k.h, .int .u64 k.l, .string ⟨k.path.toArray⟩] 26 30
  have c0 := (RR0.cell 0).trans (show _ = some (Value.int .i64 s.n) from rfl)
  have c1 := (RR0.cell 1).trans (show _ = some (Value.int .i64 s.d0.kind) from rfl)
  have c2 := (RR0.cell 2).trans (show _ = some (Value.int .i64 s.d0.side) from rfl)
  have c3 := (RR0.cell 3).trans (show _ = some (Value.int .i64 s.d0.step) from rfl)
  have c4 := (RR0.cell 4).trans (show _ = some (Value.int .i64 s.d1.kind) from rfl)
  have c5 := (RR0.cell 5).trans (show _ = some (Value.int .i64 s.d1.side) from rfl)
  have c6 := (RR0.cell 6).trans (show _ = some (Value.int .i64 s.d1.step) from rfl)
  have d0 := (RR1.cell 0).trans (show _ = some (Value.int .i64 k.kind) from rfl)
  have d1 := (RR1.cell 1).trans (show _ = some (Value.int .i64 k.len) from rfl)
  have d2 := (RR1.cell 2).trans (show _ = some (Value.int .u64 k.h) from rfl)
  have d3 := (RR1.cell 3).trans (show _ = some (Value.int .u64 k.l) from rfl)
  have d4 := (RR1.cell 4).trans (show _ = some (Value.string ⟨k.path.toArray⟩) from rfl)
  clear RR0 RR1
  go_enter Try.func53, Try.ntmps53
  go_wp2_with fail
  refine wp_region_held_drew (S := (fun w' => w'.cell? ⟨w.heap.size, 0, none⟩ = some (.int .i64 s.n) ∧ w'.cell? ⟨w.heap.size, 1, none⟩ = some (.int .i64 s.d0.kind) ∧ w'.cell? ⟨w.heap.size, 2, none⟩ = some (.int .i64 s.d0.side) ∧ w'.cell? ⟨w.heap.size, 3, none⟩ = some (.int .i64 s.d0.step) ∧ w'.cell? ⟨w.heap.size, 4, none⟩ = some (.int .i64 s.d1.kind) ∧ w'.cell? ⟨w.heap.size, 5, none⟩ = some (.int .i64 s.d1.side) ∧ w'.cell? ⟨w.heap.size, 6, none⟩ = some (.int .i64 s.d1.step) ∧ w'.cell? ⟨w.heap.size + 1, 0, none⟩ = some (.int .i64 k.kind) ∧ w'.cell? ⟨w.heap.size + 1, 1, none⟩ = some (.int .i64 k.len) ∧ w'.cell? ⟨w.heap.size + 1, 2, none⟩ = some (.int .u64 k.h) ∧ w'.cell? ⟨w.heap.size + 1, 3, none⟩ = some (.int .u64 k.l) ∧ w'.cell? ⟨w.heap.size + 1, 4, none⟩ = some (.string ⟨k.path.toArray⟩) ∧ Below w.heap.size w w')) (by kernel_rfl) ?hSr26_ (fun hHeld => ?_)
  case hSr26_ => (first | exact ⟨c0, c1, c2, c3, c4, c5, c6, d0, d1, d2, d3, d4, hb0.drew⟩ | exact ⟨c0, c1, c2, c3, c4, c5, c6, d0, d1, d2, d3, d4, hb0⟩ | (obtain ⟨c0, c1, c2, c3, c4, c5, c6, d0, d1, d2, d3, d4, hb0⟩ := hHeld; exact ⟨cell_later hb c0, cell_later hb c1, cell_later hb c2, cell_later hb c3, cell_later hb c4, cell_later hb c5, cell_later hb c6, cell_later hb d0, cell_later hb d1, cell_later hb d2, cell_later hb d3, cell_later hb d4, below_step hb0 hb⟩))
  refine tk 0 ⟨some 20, .move (.tmp 1), 3, _, _, _⟩ hHeld ?_
  (try simp only [Act.put, nz1, nz2, nz3])
  refine tk 1 ⟨some 21, .fieldAddr 26 (.tmp 4) 1, 0, _, _, _⟩ hHeld ?_
  (try simp only [Act.put, nz1, nz2, nz3])
  refine tk 2 ⟨some 22, .indexAddr 24 (.tmp 21) (.tmp 20), 0, _, _, _⟩ hHeld ?_
  (try simp only [Act.put, nz1, nz2, nz3])
  refine tk 3 ⟨some 23, .load 23 (.tmp 22), 23, _, _, _⟩ hHeld ?_
  (try simp only [Act.put, nz1, nz2, nz3])
  refine tk 4 ⟨some 24, .move (.tmp 2), 3, _, _, _⟩ hHeld ?_
  (try simp only [Act.put, nz1, nz2, nz3])
  refine tk 5 ⟨some 25, .load 30 (.tmp 7), 30, _, _, _⟩ hHeld ?_
  (try simp only [Act.put, nz1, nz2, nz3])
  refine wpAnyH_ready (rs := [6]) (by kernel_rfl) (by simp) ?_
  refine AllReadyH.cons (o := ⟨some 26, .call { callee := .value (.func 78), args := #[.tmp 23, .tmp 24, .tmp 25], argTypes := #[23, 3, 30] }, 4, _, _, _⟩) rfl (fun K hK => ?_) AllReadyH.nil
  (go_simp; (refine (HO _).mono ?_); (rintro e wn ⟨rfl, hb⟩); go_wp2_with fail)
  refine hK.out _ _ ?hSr26_7_6 (fun hHeld2 => ?_)
  case hSr26_7_6 => (first | exact ⟨c0, c1, c2, c3, c4, c5, c6, d0, d1, d2, d3, d4, hb0.drew⟩ | exact ⟨c0, c1, c2, c3, c4, c5, c6, d0, d1, d2, d3, d4, hb0⟩ | (obtain ⟨c0, c1, c2, c3, c4, c5, c6, d0, d1, d2, d3, d4, hb0⟩ := hHeld; exact ⟨cell_later hb c0, cell_later hb c1, cell_later hb c2, cell_later hb c3, cell_later hb c4, cell_later hb c5, cell_later hb c6, cell_later hb d0, cell_later hb d1, cell_later hb d2, cell_later hb d3, cell_later hb d4, below_step hb0 hb⟩))
  clear hK K hHeld
  have hHeld := hHeld2
  clear hHeld2
  (try simp only [Act.put, nz1, nz2, nz3])
  refine tk 7 ⟨some 8, .assign (.tmp 26), 4, _, _, _⟩ hHeld ?_
  (try simp only [Act.put, nz1, nz2, nz3])
  refine wpAnyH_done (by kernel_rfl) ?_ _
  clear c0 c1 c2 c3 c4 c5 c6 d0 d1 d2 d3 d4 hb0
  obtain ⟨c0, c1, c2, c3, c4, c5, c6, d0, d1, d2, d3, d4, hb0⟩ := hHeld
  go_wp2
  go_ret
  exact ⟨rfl, hb0⟩
theorem kz_eqK (k : Ke) : eqK k.kind k.len k.h k.l ⟨k.path.toArray⟩ 0 0 0 0 ⟨#[]⟩ = decide (k = kz) := eqK_ke k kz
set_option maxRecDepth 100000 in
set_option maxHeartbeats 4000000 in
theorem on1_t (s : Sp) (l : Int) (k : Ke) (hn : s.n = 1) (w : World) : Calls Try.prog 53 #[sv s, .int .i64 1, .int .i64 l, kv k] w fun e w' => e = .returned (.bool (decide (l = 0) && decide (k = kz))) ∧ Below w.heap.size w w' := by
  have q := eql_key
  have HE := kz_eqK k
  obtain ⟨n, e0, e1⟩ := s
  dsimp only at hn
  subst hn
  unfold sv kv
  dsimp only
  obtain ⟨RR0, RR1, hb0⟩ := two_rows w #[.int .i64 1, .int .i64 e0.kind, .int .i64 e0.side, .int .i64 e0.step, .int .i64 e1.kind, .int .i64 e1.side, .int .i64 e1.step] #[.int .i64 k.kind, .int .i64 k.len, .int .u64 k.h, .int .u64 k.l, .string ⟨k.path.toArray⟩] 26 30
  have c0 := (RR0.cell 0).trans (show _ = some (Value.int .i64 1) from rfl)
  have c1 := (RR0.cell 1).trans (show _ = some (Value.int .i64 e0.kind) from rfl)
  have c2 := (RR0.cell 2).trans (show _ = some (Value.int .i64 e0.side) from rfl)
  have c3 := (RR0.cell 3).trans (show _ = some (Value.int .i64 e0.step) from rfl)
  have c4 := (RR0.cell 4).trans (show _ = some (Value.int .i64 e1.kind) from rfl)
  have c5 := (RR0.cell 5).trans (show _ = some (Value.int .i64 e1.side) from rfl)
  have c6 := (RR0.cell 6).trans (show _ = some (Value.int .i64 e1.step) from rfl)
  have d0 := (RR1.cell 0).trans (show _ = some (Value.int .i64 k.kind) from rfl)
  have d1 := (RR1.cell 1).trans (show _ = some (Value.int .i64 k.len) from rfl)
  have d2 := (RR1.cell 2).trans (show _ = some (Value.int .u64 k.h) from rfl)
  have d3 := (RR1.cell 3).trans (show _ = some (Value.int .u64 k.l) from rfl)
  have d4 := (RR1.cell 4).trans (show _ = some (Value.string ⟨k.path.toArray⟩) from rfl)
  clear RR0 RR1
  generalize decide (k = kz) = b at *
  by_cases h : l = 0
  · subst h
    go_enter Try.func53, Try.ntmps53
    go_wp2
    go_ret
    exact ⟨by simp [HE], hb0⟩
  · have h' : (l == 0) = false := by simpa using h
    rw [decide_eq_false h]
    go_enter Try.func53, Try.ntmps53
    go_wp2
    go_ret
    exact ⟨rfl, hb0⟩
end Go.Proofs.Ytbekocknfpekoaa
namespace Go.Proofs.Ytbekocknfpekoaa
set_option linter.unusedVariables false
set_option linter.unusedSimpArgs false
open Go.RowKit
theorem dz_neq (d : Dm) (w : World) : (binOp .neq 23 (.agg #[.int .i64 d.kind, .int .i64 d.side, .int .i64 d.step]) (.agg #[.int .i64 0, .int .i64 0, .int .i64 0])).run Try.prog w = .ok (.bool (!decide (d = dz))) w := neq_dim d dz w
theorem dz_eql (d : Dm) (w : World) : (binOp .eql 23 (.agg #[.int .i64 d.kind, .int .i64 d.side, .int .i64 d.step]) (.agg #[.int .i64 0, .int .i64 0, .int .i64 0])).run Try.prog w = .ok (.bool (decide (d = dz))) w := eql_dim d dz w
theorem ixd0 (a b c d e f : Value) (w : World) : (Instr.index 24 (.agg #[a, b, c, d, e, f]) (.int .i64 0)).run Try.prog w = .ok (.agg #[a, b, c]) w := by kernel_rfl
theorem ixd1 (a b c d e f : Value) (w : World) : (Instr.index 24 (.agg #[a, b, c, d, e, f]) (.int .i64 1)).run Try.prog w = .ok (.agg #[d, e, f]) w := by kernel_rfl
set_option maxRecDepth 100000 in
set_option maxHeartbeats 4000000 in
theorem sound_low (s : Sp) (hn : s.n ≤ 0) (w : World) : Calls Try.prog 18 #[sv s] w fun e w' => e = .returned (.bool false) ∧ Below w.heap.size w w' := by
  obtain ⟨n, d0, d1⟩ := s
  dsimp only at hn
  have q0 := dz_neq d0
  have q1 := dz_neq d1
  have i0 := ixd0
  have i1 := ixd1
  generalize decide (d0 = dz) = z0 at *
  generalize decide (d1 = dz) = z1 at *
  unfold sv
  dsimp only
  obtain ⟨RR0, hb0⟩ := one_row w #[.int .i64 n, .int .i64 d0.kind, .int .i64 d0.side, .int .i64 d0.step, .int .i64 d1.kind, .int .i64 d1.side, .int .i64 d1.step] 26
  have c0 := (RR0.cell 0).trans (show _ = some (Value.int .i64 n) from rfl)
  have c1 := (RR0.cell 1).trans (show _ = some (Value.int .i64 d0.kind) from rfl)
  have c2 := (RR0.cell 2).trans (show _ = some (Value.int .i64 d0.side) from rfl)
  have c3 := (RR0.cell 3).trans (show _ = some (Value.int .i64 d0.step) from rfl)
  have c4 := (RR0.cell 4).trans (show _ = some (Value.int .i64 d1.kind) from rfl)
  have c5 := (RR0.cell 5).trans (show _ = some (Value.int .i64 d1.side) from rfl)
  have c6 := (RR0.cell 6).trans (show _ = some (Value.int .i64 d1.step) from rfl)
  clear RR0
  have n1 : (n == 1) = false := by simp; omega
  have n2 : (n == 2) = false := by simp; omega
  cases z0 with
  | false =>
    go_enter Try.func18, Try.ntmps18
    go_wp2_with fail
    refine wp_loop_rounds 3 ?_
    rw [rounds_succ]
    go_wp2
    go_ret
    exact ⟨rfl, (by repeat (first | exact Below.refl _ _ | assumption | (with_reducible refine Below.setCell ?_ ?h _; case h => first | omega | (simp; done) | (simp; omega)) | (with_reducible refine Below.alloc ?_ ?h _; case h => first | omega | (simp; done) | (simp; omega)) | (with_reducible refine Below.drew ?_) | (with_reducible refine Below.trans ?_ (hb4.mono ?h); case h => first | omega | (simp; done) | (simp; omega)) | (with_reducible refine Below.trans ?_ (hb3.mono ?h); case h => first | omega | (simp; done) | (simp; omega)) | (with_reducible refine Below.trans ?_ (hb2.mono ?h); case h => first | omega | (simp; done) | (simp; omega)) | (with_reducible refine Below.trans ?_ (hb.mono ?h); case h => first | omega | (simp; done) | (simp; omega)) | (with_reducible refine Below.trans ?_ (hb0.mono ?h); case h => first | omega | (simp; done) | (simp; omega))))⟩
  | true =>
    cases z1 with
    | false =>
      go_enter Try.func18, Try.ntmps18
      go_wp2_with fail
      refine wp_loop_rounds 3 ?_
      rw [rounds_succ]
      go_wp2
      rw [rounds_succ]
      go_wp2
      go_ret
      exact ⟨rfl, (by repeat (first | exact Below.refl _ _ | assumption | (with_reducible refine Below.setCell ?_ ?h _; case h => first | omega | (simp; done) | (simp; omega)) | (with_reducible refine Below.alloc ?_ ?h _; case h => first | omega | (simp; done) | (simp; omega)) | (with_reducible refine Below.drew ?_) | (with_reducible refine Below.trans ?_ (hb4.mono ?h); case h => first | omega | (simp; done) | (simp; omega)) | (with_reducible refine Below.trans ?_ (hb3.mono ?h); case h => first | omega | (simp; done) | (simp; omega)) | (with_reducible refine Below.trans ?_ (hb2.mono ?h); case h => first | omega | (simp; done) | (simp; omega)) | (with_reducible refine Below.trans ?_ (hb.mono ?h); case h => first | omega | (simp; done) | (simp; omega)) | (with_reducible refine Below.trans ?_ (hb0.mono ?h); case h => first | omega | (simp; done) | (simp; omega))))⟩
    | true =>
      go_enter Try.func18, Try.ntmps18
      go_wp2_with fail
      refine wp_loop_rounds 3 ?_
      rw [rounds_succ]
      go_wp2
      rw [rounds_succ]
      go_wp2
      rw [rounds_succ]
      go_wp2
      go_ret
      exact ⟨rfl, (by repeat (first | exact Below.refl _ _ | assumption | (with_reducible refine Below.setCell ?_ ?h _; case h => first | omega | (simp; done) | (simp; omega)) | (with_reducible refine Below.alloc ?_ ?h _; case h => first | omega | (simp; done) | (simp; omega)) | (with_reducible refine Below.drew ?_) | (with_reducible refine Below.trans ?_ (hb4.mono ?h); case h => first | omega | (simp; done) | (simp; omega)) | (with_reducible refine Below.trans ?_ (hb3.mono ?h); case h => first | omega | (simp; done) | (simp; omega)) | (with_reducible refine Below.trans ?_ (hb2.mono ?h); case h => first | omega | (simp; done) | (simp; omega)) | (with_reducible refine Below.trans ?_ (hb.mono ?h); case h => first | omega | (simp; done) | (simp; omega)) | (with_reducible refine Below.trans ?_ (hb0.mono ?h); case h => first | omega | (simp; done) | (simp; omega))))⟩
set_option maxRecDepth 100000 in
set_option maxHeartbeats 4000000 in
theorem sound_bad0 (s : Sp) (hn : 1 ≤ s.n) (hr : rightD s.d0 = false) (w : World) : Calls Try.prog 18 #[sv s] w fun e w' => e = .returned (.bool false) ∧ Below w.heap.size w w' := by
  obtain ⟨n, d0, d1⟩ := s
  dsimp only at hn hr
  have i0 := ixd0
  have HR := dright_t d0
  rw [hr] at HR
  unfold sv
  unfold dv at HR
  dsimp only
  obtain ⟨RR0, hb0⟩ := one_row w #[.int .i64 n, .int .i64 d0.kind, .int .i64 d0.side, .int .i64 d0.step, .int .i64 d1.kind, .int .i64 d1.side, .int .i64 d1.step] 26
  have c0 := (RR0.cell 0).trans (show _ = some (Value.int .i64 n) from rfl)
  have c1 := (RR0.cell 1).trans (show _ = some (Value.int .i64 d0.kind) from rfl)
  have c2 := (RR0.cell 2).trans (show _ = some (Value.int .i64 d0.side) from rfl)
  have c3 := (RR0.cell 3).trans (show _ = some (Value.int .i64 d0.step) from rfl)
  have c4 := (RR0.cell 4).trans (show _ = some (Value.int .i64 d1.kind) from rfl)
  have c5 := (RR0.cell 5).trans (show _ = some (Value.int .i64 d1.side) from rfl)
  have c6 := (RR0.cell 6).trans (show _ = some (Value.int .i64 d1.step) from rfl)
  clear RR0
  go_enter Try.func18, Try.ntmps18
  go_wp2_with fail
  refine wp_loop_rounds 3 ?_
  rw [rounds_succ]
  go_wp2_with fail
  refine (HR _).mono ?_
  rintro e w1 ⟨rfl, hb⟩
  replace c0 := cell_later hb (cell_later ((Below.refl _ _).alloc (Nat.le_refl _) _) c0)
  replace c1 := cell_later hb (cell_later ((Below.refl _ _).alloc (Nat.le_refl _) _) c1)
  replace c2 := cell_later hb (cell_later ((Below.refl _ _).alloc (Nat.le_refl _) _) c2)
  replace c3 := cell_later hb (cell_later ((Below.refl _ _).alloc (Nat.le_refl _) _) c3)
  replace c4 := cell_later hb (cell_later ((Below.refl _ _).alloc (Nat.le_refl _) _) c4)
  replace c5 := cell_later hb (cell_later ((Below.refl _ _).alloc (Nat.le_refl _) _) c5)
  replace c6 := cell_later hb (cell_later ((Below.refl _ _).alloc (Nat.le_refl _) _) c6)
  have fd00 := ((Row.later (Row.new _ _ _) hb).cell 0).trans (show _ = some (Value.int .i64 d0.kind) from rfl)
  have fd01 := ((Row.later (Row.new _ _ _) hb).cell 1).trans (show _ = some (Value.int .i64 d0.side) from rfl)
  have fd02 := ((Row.later (Row.new _ _ _) hb).cell 2).trans (show _ = some (Value.int .i64 d0.step) from rfl)
  simp only [World.size_alloc] at fd00
  simp only [World.size_alloc] at fd01
  simp only [World.size_alloc] at fd02
  replace hb0 := below_step (hb0.alloc (Nat.le_trans hb0.size (Nat.le_refl _)) _) hb
  clear hb
  have lc := World.block_lt_of_cell? _ _ c0
  dsimp only at lc
  have lfd0 := World.block_lt_of_cell? _ _ fd00
  dsimp only at lfd0
  go_wp2
  go_ret
  exact ⟨rfl, (by repeat (first | exact Below.refl _ _ | assumption | (with_reducible refine Below.setCell ?_ ?h _; case h => first | omega | (simp; done) | (simp; omega)) | (with_reducible refine Below.alloc ?_ ?h _; case h => first | omega | (simp; done) | (simp; omega)) | (with_reducible refine Below.drew ?_) | (with_reducible refine Below.trans ?_ (hb4.mono ?h); case h => first | omega | (simp; done) | (simp; omega)) | (with_reducible refine Below.trans ?_ (hb3.mono ?h); case h => first | omega | (simp; done) | (simp; omega)) | (with_reducible refine Below.trans ?_ (hb2.mono ?h); case h => first | omega | (simp; done) | (simp; omega)) | (with_reducible refine Below.trans ?_ (hb.mono ?h); case h => first | omega | (simp; done) | (simp; omega)) | (with_reducible refine Below.trans ?_ (hb0.mono ?h); case h => first | omega | (simp; done) | (simp; omega))))⟩
set_option maxRecDepth 100000 in
set_option maxHeartbeats 4000000 in
theorem sound_one (s : Sp) (hn : s.n = 1) (hr : rightD s.d0 = true) (w : World) : Calls Try.prog 18 #[sv s] w fun e w' => e = .returned (.bool (decide (s.d1 = dz))) ∧ Below w.heap.size w w' := by
  obtain ⟨n, d0, d1⟩ := s
  dsimp only at hn hr
  subst hn
  have i0 := ixd0
  have i1 := ixd1
  have q1 := dz_neq d1
  dsimp only
  generalize decide (d1 = dz) = z1 at *
  have HR := dright_t d0
  rw [hr] at HR
  unfold sv
  unfold dv at HR
  dsimp only
  obtain ⟨RR0, hb0⟩ := one_row w #[.int .i64 1, .int .i64 d0.kind, .int .i64 d0.side, .int .i64 d0.step, .int .i64 d1.kind, .int .i64 d1.side, .int .i64 d1.step] 26
  have c0 := (RR0.cell 0).trans (show _ = some (Value.int .i64 1) from rfl)
  have c1 := (RR0.cell 1).trans (show _ = some (Value.int .i64 d0.kind) from rfl)
  have c2 := (RR0.cell 2).trans (show _ = some (Value.int .i64 d0.side) from rfl)
  have c3 := (RR0.cell 3).trans (show _ = some (Value.int .i64 d0.step) from rfl)
  have c4 := (RR0.cell 4).trans (show _ = some (Value.int .i64 d1.kind) from rfl)
  have c5 := (RR0.cell 5).trans (show _ = some (Value.int .i64 d1.side) from rfl)
  have c6 := (RR0.cell 6).trans (show _ = some (Value.int .i64 d1.step) from rfl)
  clear RR0
  cases z1 with
  | false =>
    go_enter Try.func18, Try.ntmps18
    go_wp2_with fail
    refine wp_loop_rounds 3 ?_
    rw [rounds_succ]
    go_wp2_with fail
    refine (HR _).mono ?_
    rintro e w2 ⟨rfl, hb⟩
    replace c0 := cell_later hb (cell_later ((Below.refl _ _).alloc (Nat.le_refl _) _) c0)
    replace c1 := cell_later hb (cell_later ((Below.refl _ _).alloc (Nat.le_refl _) _) c1)
    replace c2 := cell_later hb (cell_later ((Below.refl _ _).alloc (Nat.le_refl _) _) c2)
    replace c3 := cell_later hb (cell_later ((Below.refl _ _).alloc (Nat.le_refl _) _) c3)
    replace c4 := cell_later hb (cell_later ((Below.refl _ _).alloc (Nat.le_refl _) _) c4)
    replace c5 := cell_later hb (cell_later ((Below.refl _ _).alloc (Nat.le_refl _) _) c5)
    replace c6 := cell_later hb (cell_later ((Below.refl _ _).alloc (Nat.le_refl _) _) c6)
    have fd00 := ((Row.later (Row.new _ _ _) hb).cell 0).trans (show _ = some (Value.int .i64 d0.kind) from rfl)
    have fd01 := ((Row.later (Row.new _ _ _) hb).cell 1).trans (show _ = some (Value.int .i64 d0.side) from rfl)
    have fd02 := ((Row.later (Row.new _ _ _) hb).cell 2).trans (show _ = some (Value.int .i64 d0.step) from rfl)
    simp only [World.size_alloc] at fd00
    simp only [World.size_alloc] at fd01
    simp only [World.size_alloc] at fd02
    replace hb0 := below_step (hb0.alloc (Nat.le_trans hb0.size (Nat.le_refl _)) _) hb
    clear hb
    have lc := World.block_lt_of_cell? _ _ c0
    dsimp only at lc
    have lfd0 := World.block_lt_of_cell? _ _ fd00
    dsimp only at lfd0
    go_wp2
    rw [rounds_succ]
    go_wp2
    go_ret
    exact ⟨rfl, (by repeat (first | exact Below.refl _ _ | assumption | (with_reducible refine Below.setCell ?_ ?h _; case h => first | omega | (simp; done) | (simp; omega)) | (with_reducible refine Below.alloc ?_ ?h _; case h => first | omega | (simp; done) | (simp; omega)) | (with_reducible refine Below.drew ?_) | (with_reducible refine Below.trans ?_ (hb4.mono ?h); case h => first | omega | (simp; done) | (simp; omega)) | (with_reducible refine Below.trans ?_ (hb3.mono ?h); case h => first | omega | (simp; done) | (simp; omega)) | (with_reducible refine Below.trans ?_ (hb2.mono ?h); case h => first | omega | (simp; done) | (simp; omega)) | (with_reducible refine Below.trans ?_ (hb.mono ?h); case h => first | omega | (simp; done) | (simp; omega)) | (with_reducible refine Below.trans ?_ (hb0.mono ?h); case h => first | omega | (simp; done) | (simp; omega))))⟩
  | true =>
    go_enter Try.func18, Try.ntmps18
    go_wp2_with fail
    refine wp_loop_rounds 3 ?_
    rw [rounds_succ]
    go_wp2_with fail
    refine (HR _).mono ?_
    rintro e w3 ⟨rfl, hb⟩
    replace c0 := cell_later hb (cell_later ((Below.refl _ _).alloc (Nat.le_refl _) _) c0)
    replace c1 := cell_later hb (cell_later ((Below.refl _ _).alloc (Nat.le_refl _) _) c1)
    replace c2 := cell_later hb (cell_later ((Below.refl _ _).alloc (Nat.le_refl _) _) c2)
    replace c3 := cell_later hb (cell_later ((Below.refl _ _).alloc (Nat.le_refl _) _) c3)
    replace c4 := cell_later hb (cell_later ((Below.refl _ _).alloc (Nat.le_refl _) _) c4)
    replace c5 := cell_later hb (cell_later ((Below.refl _ _).alloc (Nat.le_refl _) _) c5)
    replace c6 := cell_later hb (cell_later ((Below.refl _ _).alloc (Nat.le_refl _) _) c6)
    have fd00 := ((Row.later (Row.new _ _ _) hb).cell 0).trans (show _ = some (Value.int .i64 d0.kind) from rfl)
    have fd01 := ((Row.later (Row.new _ _ _) hb).cell 1).trans (show _ = some (Value.int .i64 d0.side) from rfl)
    have fd02 := ((Row.later (Row.new _ _ _) hb).cell 2).trans (show _ = some (Value.int .i64 d0.step) from rfl)
    simp only [World.size_alloc] at fd00
    simp only [World.size_alloc] at fd01
    simp only [World.size_alloc] at fd02
    replace hb0 := below_step (hb0.alloc (Nat.le_trans hb0.size (Nat.le_refl _)) _) hb
    clear hb
    have lc := World.block_lt_of_cell? _ _ c0
    dsimp only at lc
    have lfd0 := World.block_lt_of_cell? _ _ fd00
    dsimp only at lfd0
    go_wp2
    rw [rounds_succ]
    go_wp2
    rw [rounds_succ]
    go_wp2
    go_ret
    exact ⟨rfl, (by repeat (first | exact Below.refl _ _ | assumption | (with_reducible refine Below.setCell ?_ ?h _; case h => first | omega | (simp; done) | (simp; omega)) | (with_reducible refine Below.alloc ?_ ?h _; case h => first | omega | (simp; done) | (simp; omega)) | (with_reducible refine Below.drew ?_) | (with_reducible refine Below.trans ?_ (hb4.mono ?h); case h => first | omega | (simp; done) | (simp; omega)) | (with_reducible refine Below.trans ?_ (hb3.mono ?h); case h => first | omega | (simp; done) | (simp; omega)) | (with_reducible refine Below.trans ?_ (hb2.mono ?h); case h => first | omega | (simp; done) | (simp; omega)) | (with_reducible refine Below.trans ?_ (hb.mono ?h); case h => first | omega | (simp; done) | (simp; omega)) | (with_reducible refine Below.trans ?_ (hb0.mono ?h); case h => first | omega | (simp; done) | (simp; omega))))⟩
set_option maxRecDepth 100000 in
set_option maxHeartbeats 4000000 in
theorem sound_two (s : Sp) (hn : 2 ≤ s.n) (hr : rightD s.d0 = true) (w : World) : Calls Try.prog 18 #[sv s] w fun e w' => e = .returned (.bool (decide (s.n = 2) && rightD s.d1)) ∧ Below w.heap.size w w' := by
  obtain ⟨n, d0, d1⟩ := s
  dsimp only at hn hr
  dsimp only
  have i0 := ixd0
  have i1 := ixd1
  have HR := dright_t d0
  rw [hr] at HR
  have HS := dright_t d1
  generalize rightD d1 = r1 at *
  unfold sv
  unfold dv at HR HS
  dsimp only
  obtain ⟨RR0, hb0⟩ := one_row w #[.int .i64 n, .int .i64 d0.kind, .int .i64 d0.side, .int .i64 d0.step, .int .i64 d1.kind, .int .i64 d1.side, .int .i64 d1.step] 26
  have c0 := (RR0.cell 0).trans (show _ = some (Value.int .i64 n) from rfl)
  have c1 := (RR0.cell 1).trans (show _ = some (Value.int .i64 d0.kind) from rfl)
  have c2 := (RR0.cell 2).trans (show _ = some (Value.int .i64 d0.side) from rfl)
  have c3 := (RR0.cell 3).trans (show _ = some (Value.int .i64 d0.step) from rfl)
  have c4 := (RR0.cell 4).trans (show _ = some (Value.int .i64 d1.kind) from rfl)
  have c5 := (RR0.cell 5).trans (show _ = some (Value.int .i64 d1.side) from rfl)
  have c6 := (RR0.cell 6).trans (show _ = some (Value.int .i64 d1.step) from rfl)
  clear RR0
  have n1 : (n == 1) = false := by simp; omega
  cases r1 with
  | false =>
    rw [Bool.and_false]
    go_enter Try.func18, Try.ntmps18
    go_wp2_with fail
    refine wp_loop_rounds 3 ?_
    rw [rounds_succ]
    go_wp2_with fail
    refine (HR _).mono ?_
    rintro e w4 ⟨rfl, hb⟩
    replace c0 := cell_later hb (cell_later ((Below.refl _ _).alloc (Nat.le_refl _) _) c0)
    replace c1 := cell_later hb (cell_later ((Below.refl _ _).alloc (Nat.le_refl _) _) c1)
    replace c2 := cell_later hb (cell_later ((Below.refl _ _).alloc (Nat.le_refl _) _) c2)
    replace c3 := cell_later hb (cell_later ((Below.refl _ _).alloc (Nat.le_refl _) _) c3)
    replace c4 := cell_later hb (cell_later ((Below.refl _ _).alloc (Nat.le_refl _) _) c4)
    replace c5 := cell_later hb (cell_later ((Below.refl _ _).alloc (Nat.le_refl _) _) c5)
    replace c6 := cell_later hb (cell_later ((Below.refl _ _).alloc (Nat.le_refl _) _) c6)
    have fd00 := ((Row.later (Row.new _ _ _) hb).cell 0).trans (show _ = some (Value.int .i64 d0.kind) from rfl)
    have fd01 := ((Row.later (Row.new _ _ _) hb).cell 1).trans (show _ = some (Value.int .i64 d0.side) from rfl)
    have fd02 := ((Row.later (Row.new _ _ _) hb).cell 2).trans (show _ = some (Value.int .i64 d0.step) from rfl)
    simp only [World.size_alloc] at fd00
    simp only [World.size_alloc] at fd01
    simp only [World.size_alloc] at fd02
    replace hb0 := below_step (hb0.alloc (Nat.le_trans hb0.size (Nat.le_refl _)) _) hb
    clear hb
    have lc := World.block_lt_of_cell? _ _ c0
    dsimp only at lc
    have lfd0 := World.block_lt_of_cell? _ _ fd00
    dsimp only at lfd0
    go_wp2
    rw [rounds_succ]
    go_wp2_with fail
    refine (HS _).mono ?_
    rintro e w5 ⟨rfl, hb⟩
    replace c0 := cell_later hb (cell_later ((Below.refl _ _).alloc (Nat.le_refl _) _) c0)
    replace c1 := cell_later hb (cell_later ((Below.refl _ _).alloc (Nat.le_refl _) _) c1)
    replace c2 := cell_later hb (cell_later ((Below.refl _ _).alloc (Nat.le_refl _) _) c2)
    replace c3 := cell_later hb (cell_later ((Below.refl _ _).alloc (Nat.le_refl _) _) c3)
    replace c4 := cell_later hb (cell_later ((Below.refl _ _).alloc (Nat.le_refl _) _) c4)
    replace c5 := cell_later hb (cell_later ((Below.refl _ _).alloc (Nat.le_refl _) _) c5)
    replace c6 := cell_later hb (cell_later ((Below.refl _ _).alloc (Nat.le_refl _) _) c6)
    replace fd00 := cell_later hb (cell_later ((Below.refl _ _).alloc (Nat.le_refl _) _) fd00)
    replace fd01 := cell_later hb (cell_later ((Below.refl _ _).alloc (Nat.le_refl _) _) fd01)
    replace fd02 := cell_later hb (cell_later ((Below.refl _ _).alloc (Nat.le_refl _) _) fd02)
    have fd10 := ((Row.later (Row.new _ _ _) hb).cell 0).trans (show _ = some (Value.int .i64 d1.kind) from rfl)
    have fd11 := ((Row.later (Row.new _ _ _) hb).cell 1).trans (show _ = some (Value.int .i64 d1.side) from rfl)
    have fd12 := ((Row.later (Row.new _ _ _) hb).cell 2).trans (show _ = some (Value.int .i64 d1.step) from rfl)
    have mfd1 := hb0.size
    replace hb0 := below_step (hb0.alloc hb0.size _) hb
    clear hb
    generalize w4.heap.size = gfd1 at *
    have lc := World.block_lt_of_cell? _ _ c0
    dsimp only at lc
    have lfd0 := World.block_lt_of_cell? _ _ fd00
    dsimp only at lfd0
    have lfd1 := World.block_lt_of_cell? _ _ fd10
    dsimp only at lfd1
    go_wp2
    go_ret
    exact ⟨rfl, (by repeat (first | exact Below.refl _ _ | assumption | (with_reducible refine Below.setCell ?_ ?h _; case h => first | omega | (simp; done) | (simp; omega)) | (with_reducible refine Below.alloc ?_ ?h _; case h => first | omega | (simp; done) | (simp; omega)) | (with_reducible refine Below.drew ?_) | (with_reducible refine Below.trans ?_ (hb4.mono ?h); case h => first | omega | (simp; done) | (simp; omega)) | (with_reducible refine Below.trans ?_ (hb3.mono ?h); case h => first | omega | (simp; done) | (simp; omega)) | (with_reducible refine Below.trans ?_ (hb2.mono ?h); case h => first | omega | (simp; done) | (simp; omega)) | (with_reducible refine Below.trans ?_ (hb.mono ?h); case h => first | omega | (simp; done) | (simp; omega)) | (with_reducible refine Below.trans ?_ (hb0.mono ?h); case h => first | omega | (simp; done) | (simp; omega))))⟩
  | true =>
    rw [Bool.and_true]
    go_enter Try.func18, Try.ntmps18
    go_wp2_with fail
    refine wp_loop_rounds 3 ?_
    rw [rounds_succ]
    go_wp2_with fail
    refine (HR _).mono ?_
    rintro e w6 ⟨rfl, hb⟩
    replace c0 := cell_later hb (cell_later ((Below.refl _ _).alloc (Nat.le_refl _) _) c0)
    replace c1 := cell_later hb (cell_later ((Below.refl _ _).alloc (Nat.le_refl _) _) c1)
    replace c2 := cell_later hb (cell_later ((Below.refl _ _).alloc (Nat.le_refl _) _) c2)
    replace c3 := cell_later hb (cell_later ((Below.refl _ _).alloc (Nat.le_refl _) _) c3)
    replace c4 := cell_later hb (cell_later ((Below.refl _ _).alloc (Nat.le_refl _) _) c4)
    replace c5 := cell_later hb (cell_later ((Below.refl _ _).alloc (Nat.le_refl _) _) c5)
    replace c6 := cell_later hb (cell_later ((Below.refl _ _).alloc (Nat.le_refl _) _) c6)
    have fd00 := ((Row.later (Row.new _ _ _) hb).cell 0).trans (show _ = some (Value.int .i64 d0.kind) from rfl)
    have fd01 := ((Row.later (Row.new _ _ _) hb).cell 1).trans (show _ = some (Value.int .i64 d0.side) from rfl)
    have fd02 := ((Row.later (Row.new _ _ _) hb).cell 2).trans (show _ = some (Value.int .i64 d0.step) from rfl)
    simp only [World.size_alloc] at fd00
    simp only [World.size_alloc] at fd01
    simp only [World.size_alloc] at fd02
    replace hb0 := below_step (hb0.alloc (Nat.le_trans hb0.size (Nat.le_refl _)) _) hb
    clear hb
    have lc := World.block_lt_of_cell? _ _ c0
    dsimp only at lc
    have lfd0 := World.block_lt_of_cell? _ _ fd00
    dsimp only at lfd0
    go_wp2
    rw [rounds_succ]
    go_wp2_with fail
    refine (HS _).mono ?_
    rintro e w7 ⟨rfl, hb⟩
    replace c0 := cell_later hb (cell_later ((Below.refl _ _).alloc (Nat.le_refl _) _) c0)
    replace c1 := cell_later hb (cell_later ((Below.refl _ _).alloc (Nat.le_refl _) _) c1)
    replace c2 := cell_later hb (cell_later ((Below.refl _ _).alloc (Nat.le_refl _) _) c2)
    replace c3 := cell_later hb (cell_later ((Below.refl _ _).alloc (Nat.le_refl _) _) c3)
    replace c4 := cell_later hb (cell_later ((Below.refl _ _).alloc (Nat.le_refl _) _) c4)
    replace c5 := cell_later hb (cell_later ((Below.refl _ _).alloc (Nat.le_refl _) _) c5)
    replace c6 := cell_later hb (cell_later ((Below.refl _ _).alloc (Nat.le_refl _) _) c6)
    replace fd00 := cell_later hb (cell_later ((Below.refl _ _).alloc (Nat.le_refl _) _) fd00)
    replace fd01 := cell_later hb (cell_later ((Below.refl _ _).alloc (Nat.le_refl _) _) fd01)
    replace fd02 := cell_later hb (cell_later ((Below.refl _ _).alloc (Nat.le_refl _) _) fd02)
    have fd10 := ((Row.later (Row.new _ _ _) hb).cell 0).trans (show _ = some (Value.int .i64 d1.kind) from rfl)
    have fd11 := ((Row.later (Row.new _ _ _) hb).cell 1).trans (show _ = some (Value.int .i64 d1.side) from rfl)
    have fd12 := ((Row.later (Row.new _ _ _) hb).cell 2).trans (show _ = some (Value.int .i64 d1.step) from rfl)
    have mfd1 := hb0.size
    replace hb0 := below_step (hb0.alloc hb0.size _) hb
    clear hb
    generalize w6.heap.size = gfd1 at *
    have lc := World.block_lt_of_cell? _ _ c0
    dsimp only at lc
    have lfd0 := World.block_lt_of_cell? _ _ fd00
    dsimp only at lfd0
    have lfd1 := World.block_lt_of_cell? _ _ fd10
    dsimp only at lfd1
    go_wp2
    rw [rounds_succ]
    go_wp2
    go_ret
    exact ⟨by first | rfl | simp, (by repeat (first | exact Below.refl _ _ | assumption | (with_reducible refine Below.setCell ?_ ?h _; case h => first | omega | (simp; done) | (simp; omega)) | (with_reducible refine Below.alloc ?_ ?h _; case h => first | omega | (simp; done) | (simp; omega)) | (with_reducible refine Below.drew ?_) | (with_reducible refine Below.trans ?_ (hb4.mono ?h); case h => first | omega | (simp; done) | (simp; omega)) | (with_reducible refine Below.trans ?_ (hb3.mono ?h); case h => first | omega | (simp; done) | (simp; omega)) | (with_reducible refine Below.trans ?_ (hb2.mono ?h); case h => first | omega | (simp; done) | (simp; omega)) | (with_reducible refine Below.trans ?_ (hb.mono ?h); case h => first | omega | (simp; done) | (simp; omega)) | (with_reducible refine Below.trans ?_ (hb0.mono ?h); case h => first | omega | (simp; done) | (simp; omega))))⟩
theorem sound_t (s : Sp) (w : World) : Calls Try.prog 18 #[sv s] w fun e w' => e = .returned (.bool (soundS s)) ∧ Below w.heap.size w w' := by
  unfold soundS
  by_cases h : s.n ≤ 0
  · rw [if_neg (by omega), decide_eq_false (by omega), Bool.false_and]
    exact sound_low s h w
  cases hr : rightD s.d0 with
  | false =>
    have := sound_bad0 s (by omega) hr w
    split
    · exact this
    · simpa using this
  | true =>
    by_cases h1 : s.n = 1
    · rw [if_pos h1]; exact sound_one s h1 hr w
    · rw [if_neg h1]; exact sound_two s (by omega) hr w
end Go.Proofs.Ytbekocknfpekoaa
