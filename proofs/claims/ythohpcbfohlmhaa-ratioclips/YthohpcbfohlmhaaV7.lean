/- V7: what the theorem needs of these texts. No conditions beyond those that are written. -/
import Derived.Test.YthohpcbfohlmhaaJRefSubN
namespace Go.Proofs.Ythohpcbfohlmhaa
set_option linter.unusedVariables false
set_option linter.unusedSimpArgs false
open Go.RowKit
theorem most_mul {P T m n : Int} (hP : 0 < P) (hT : P ≤ T) (hm : m = T / P) (n0 : 0 ≤ n) : 1 ≤ m ∧ P * m ≤ T ∧ T < P * (m + 1) ∧ P * m * n ≤ T * n ∧ (T * n < P * (m + 1) * n ↔ 0 < n) := by
  subst hm
  have e := Int.emod_add_mul_ediv T P
  have r0 := Int.emod_nonneg T (b := P) (by omega)
  have r1 := Int.emod_lt_of_pos T (b := P) hP
  have h1 : 1 ≤ T / P := (Int.le_ediv_iff_mul_le hP).2 (by omega)
  have h2 : P * (T / P) ≤ T := by omega
  have h3 : T < P * (T / P + 1) := by rw [Int.mul_add, Int.mul_one]; omega
  refine ⟨h1, h2, h3, Int.mul_le_mul_of_nonneg_right h2 n0, fun h => ?_, fun h => Int.mul_lt_mul_of_pos_right h3 h⟩
  by_cases hn : n = 0
  · subst hn; simp at h
  · omega
set_option maxRecDepth 100000 in
set_option maxHeartbeats 3200000 in
theorem rm_walk (k a b n P T m : Int) (n0 : 0 ≤ n) (n1 : n < 4294967296) (hr : rightB k a b = true) (hP : a * k - b = P) (hT : b * k = T) (hm : T / P = m) (w : World) :
    Calls Try.prog 8 #[.int .i64 k, .int .i64 a, .int .i64 b, .int .u32 n] w fun e w' => e = .returned (.bool true) ∧ Below w.heap.size w w' := by
  have cr := fun w => right12_t k a b w
  have cm := fun w => most_t k a b w
  rw [mostI_yes hr, hP, hT, hm] at cm
  rw [hr] at cr
  obtain ⟨k1, k2, a1, a2, b2, hk⟩ := rightB_iff.1 hr
  have ma := mul_small k1 k2 (show 0 ≤ a by omega) (show a ≤ 1048576 by omega)
  have mb := mul_small k1 k2 (show 0 ≤ b by omega) (show b ≤ 1048576 by omega)
  have hab : a * k ≤ b * k := Int.mul_le_mul_of_nonneg_right a2 (by omega)
  rw [Int.mul_comm k a] at ma hk
  rw [Int.mul_comm k b] at mb
  have P0 : 0 < P := by omega
  have P1 : P ≤ 209715200 := by omega
  have T1 : P ≤ T := by omega
  have T2 : T ≤ 209715200 := by omega
  obtain ⟨q1, q2, q3, q4, q5⟩ := most_mul P0 T1 hm.symm n0
  have m1 : m ≤ T := by have := Int.mul_le_mul_of_nonneg_right (show 1 ≤ P by omega) (show 0 ≤ m by omega); omega
  have q6 : P * (m + 1) ≤ T + P := by rw [Int.mul_add, Int.mul_one]; omega
  have q7 : 0 ≤ P * m := Int.mul_nonneg (by omega) (by omega)
  have q8 : 0 ≤ P * (m + 1) := Int.mul_nonneg (by omega) (by omega)
  have wa : IntKind.i64.wrap (a * k) = a * k := by rw [IntKind.wrap_i64]; omega
  have wp : IntKind.i64.wrap (a * k - b) = P := by rw [IntKind.wrap_i64]; omega
  have wq : IntKind.u64.wrap P = P := by rw [IntKind.wrap_u64]; omega
  have wb : IntKind.u64.wrap b = b := by rw [IntKind.wrap_u64]; omega
  have wk : IntKind.u64.wrap k = k := by rw [IntKind.wrap_u64]; omega
  have wt : IntKind.u64.wrap (b * k) = T := by rw [IntKind.wrap_u64]; omega
  have wn : IntKind.u64.wrap n = n := by rw [IntKind.wrap_u64]; omega
  have wm : IntKind.u64.wrap m = m := by rw [IntKind.wrap_u64]; omega
  have wm1 : IntKind.i64.wrap (m + 1) = m + 1 := by rw [IntKind.wrap_i64]; omega
  have wm2 : IntKind.u64.wrap (m + 1) = m + 1 := by rw [IntKind.wrap_u64]; omega
  have we : IntKind.u64.wrap (P * m) = P * m := by rw [IntKind.wrap_u64]; omega
  have wf : IntKind.u64.wrap (P * (m + 1)) = P * (m + 1) := by rw [IntKind.wrap_u64]; omega
  have Wn : Word n := ⟨n0, by omega⟩
  have WT : Word T := ⟨by omega, by omega⟩
  have W1 : Word (P * m) := ⟨q7, by omega⟩
  have W2 : Word (P * (m + 1)) := ⟨q8, by omega⟩
  have c1 := fun w => mul_any T n WT Wn w
  have c2 := fun w => mul_any (P * m) n W1 Wn w
  have c3 := fun w => mul_any (P * (m + 1)) n W2 Wn w
  have c4 := fun w => cmp_h (P * m * n) (T * n) w
  have c5 := fun w => cmp_h (P * (m + 1) * n) (T * n) w
  have r1 := prod_range WT Wn
  have r2 := prod_range W1 Wn
  have r3 := prod_range W2 Wn
  rw [Int.emod_eq_of_lt r2.1 r2.2, Int.emod_eq_of_lt r1.1 r1.2] at c4
  rw [Int.emod_eq_of_lt r3.1 r3.2, Int.emod_eq_of_lt r1.1 r1.2] at c5
  have e4 : decide (cmpI (P * m * n) (T * n) ≤ 0) = true := by
    apply decide_eq_true; unfold cmpI; split <;> (try split) <;> omega
  have e5 : decide (0 < cmpI (P * (m + 1) * n) (T * n)) = decide (0 < n) := by
    rw [decide_eq_decide, ← q5]; unfold cmpI; split <;> (try split) <;> omega
  have d1 : decide (1 ≤ m) = true := decide_eq_true q1
  clear q1 q2 q3 q4 q5 q6 q7 q8 r1 r2 r3 W1 W2 WT Wn ma mb hab hP hT hm T1 T2 P0 P1 m1 k1 k2 a1 a2 b2 hk hr
  generalize P * m * n = X1 at *
  generalize P * (m + 1) * n = X2 at *
  generalize T * n = X3 at *
  generalize hx1 : P * m = Y1 at *
  generalize hx2 : P * (m + 1) = Y2 at *
  go_enter Try.func8, Try.ntmps8
  go_wp2_with fail
  refine (cr _).mono ?_; rintro e w1 ⟨rfl, hb⟩
  go_wp2_with fail
  refine (cm _).mono ?_; rintro e w2 ⟨rfl, hb2⟩
  replace hb := below_step hb hb2; clear hb2
  go_wp2_with fail
  refine (c1 _).mono ?_; rintro e w3 ⟨rfl, hb2⟩
  replace hb := below_step hb hb2; clear hb2
  go_wp2_with fail
  have x0 : (w3.alloc (.cells #[.int .u64 (hi X3), .int .u64 (lo X3)] 31)).cell? ⟨w3.heap.size, 0, none⟩ = some (.int .u64 (hi X3)) := by simp [go_sem]
  have x1 : (w3.alloc (.cells #[.int .u64 (hi X3), .int .u64 (lo X3)] 31)).cell? ⟨w3.heap.size, 1, none⟩ = some (.int .u64 (lo X3)) := by simp [go_sem]
  replace hb := hb.alloc hb.size (.cells #[.int .u64 (hi X3), .int .u64 (lo X3)] 31)
  generalize w3.alloc (.cells #[.int .u64 (hi X3), .int .u64 (lo X3)] 31) = w4 at *
  generalize w3.heap.size = g at *
  go_cut [12] (fun c wx => c = .bool true ∧ wx.cell? ⟨g, 0, none⟩ = some (.int .u64 (hi X3)) ∧ wx.cell? ⟨g, 1, none⟩ = some (.int .u64 (lo X3)) ∧ Below w.heap.size w wx)
  case first =>
    refine region_any (S := (fun w' => w'.cell? ⟨g, 0, none⟩ = some (.int .u64 (hi X3)) ∧ w'.cell? ⟨g, 1, none⟩ = some (.int .u64 (lo X3)) ∧ Below w.heap.size w w')) (by kernel_rfl) ?hSr1_ (fun wq hHeld => ?_)
    case hSr1_ => (first | exact ⟨x0, x1, hb.drew⟩ | exact ⟨cell_later hq hHeld.1, cell_later hq hHeld.2.1, below_step hHeld.2.2 hq⟩)
    refine wpAnyH_take (i := 0) (oi := { dst := some 45, op := Go.Op.move (Go.Operand.tmp 10), type := 22, pos := _, after := #[], guard := none }) (v := ?vr1_1_0) rfl (by kernel_rfl) (by kernel_rfl) (by kernel_rfl) (fun _ _ _ h => h) (Or.inl ⟨by rfl, ?yr1_1_0⟩) hHeld ?_
    case yr1_1_0 => ((intro w hSw; (try dsimp only at hSw); go_simp) <;> with_reducible rfl)
    (try simp only [Act.put, List.setIfInBounds_toArray, List.set_cons_zero, List.set_cons_succ])
    refine wpAnyH_take (i := 1) (oi := { dst := some 46, op := Go.Op.move (Go.Operand.tmp 9), type := 3, pos := _, after := #[], guard := none }) (v := ?vr1_2_1) rfl (by kernel_rfl) (by kernel_rfl) (by kernel_rfl) (fun _ _ _ h => h) (Or.inl ⟨by rfl, ?yr1_2_1⟩) hHeld ?_
    case yr1_2_1 => ((intro w hSw; (try dsimp only at hSw); go_simp) <;> with_reducible rfl)
    (try simp only [Act.put, List.setIfInBounds_toArray, List.set_cons_zero, List.set_cons_succ])
    refine wpAnyH_take (i := 2) (oi := { dst := some 47, op := Go.Op.convert 3 22 (Go.Operand.tmp 46), type := 22, pos := _, after := #[{ on := 1, ground := Go.Ground.data }], guard := none }) (v := ?vr1_3_2) rfl (by kernel_rfl) (by kernel_rfl) (by kernel_rfl) (fun _ _ _ h => h) (Or.inl ⟨by rfl, ?yr1_3_2⟩) hHeld ?_
    case yr1_3_2 => ((intro w hSw; (try dsimp only at hSw); go_simp) <;> with_reducible rfl)
    (try simp only [Act.put, List.setIfInBounds_toArray, List.set_cons_zero, List.set_cons_succ])
    refine wpAnyH_take (i := 3) (oi := { dst := some 48, op := Go.Op.binOp Go.BinOp.mul 22 (Go.Operand.tmp 45) (Go.Operand.tmp 47) 22, type := 22, pos := _, after := #[{ on := 0, ground := Go.Ground.data }, { on := 2, ground := Go.Ground.data }], guard := none }) (v := ?vr1_4_3) rfl (by kernel_rfl) (by kernel_rfl) (by kernel_rfl) (fun _ _ _ h => h) (Or.inl ⟨by rfl, ?yr1_4_3⟩) hHeld ?_
    case yr1_4_3 => ((intro w hSw; (try dsimp only at hSw); go_simp) <;> with_reducible rfl)
    (try simp only [Act.put, List.setIfInBounds_toArray, List.set_cons_zero, List.set_cons_succ])
    refine wpAnyH_take (i := 4) (oi := { dst := some 49, op := Go.Op.move (Go.Operand.tmp 3), type := 45, pos := _, after := #[], guard := none }) (v := ?vr1_5_4) rfl (by kernel_rfl) (by kernel_rfl) (by kernel_rfl) (fun _ _ _ h => h) (Or.inl ⟨by rfl, ?yr1_5_4⟩) hHeld ?_
    case yr1_5_4 => ((intro w hSw; (try dsimp only at hSw); go_simp) <;> with_reducible rfl)
    (try simp only [Act.put, List.setIfInBounds_toArray, List.set_cons_zero, List.set_cons_succ])
    refine wpAnyH_take (i := 5) (oi := { dst := some 50, op := Go.Op.convert 45 22 (Go.Operand.tmp 49), type := 22, pos := _, after := #[{ on := 4, ground := Go.Ground.data }], guard := none }) (v := ?vr1_6_5) rfl (by kernel_rfl) (by kernel_rfl) (by kernel_rfl) (fun _ _ _ h => h) (Or.inl ⟨by rfl, ?yr1_6_5⟩) hHeld ?_
    case yr1_6_5 => ((intro w hSw; (try dsimp only at hSw); go_simp) <;> with_reducible rfl)
    (try simp only [Act.put, List.setIfInBounds_toArray, List.set_cons_zero, List.set_cons_succ])
    refine wpAnyH_take (i := 7) (oi := { dst := some 52, op := Go.Op.load 31 (Go.Operand.tmp 11), type := 31, pos := _, after := #[], guard := none }) (v := ?vr1_7_7) rfl (by kernel_rfl) (by kernel_rfl) (by kernel_rfl) (fun _ _ _ h => h) (Or.inl ⟨by rfl, ?yr1_7_7⟩) hHeld ?_
    case yr1_7_7 => ((intro w hSw; (try dsimp only at hSw); go_simp) <;> with_reducible rfl)
    (try simp only [Act.put, List.setIfInBounds_toArray, List.set_cons_zero, List.set_cons_succ])
    refine wpAnyH_ready (rs := [6]) (by kernel_rfl) (by simp) ?_
    refine AllReadyH.cons (o := { dst := some 51, op := Go.Op.call { callee := Go.Callee.value (Go.Operand.func 28), args := #[Go.Operand.tmp 48, Go.Operand.tmp 50], argTypes := #[22, 22] }, type := 31, pos := _, after := #[{ on := 3, ground := Go.Ground.data }, { on := 5, ground := Go.Ground.data }], guard := none }) rfl (fun K hK => ?_) AllReadyH.nil
    go_simp
    (refine (c2 _).mono ?_; rintro e wn ⟨rfl, hq⟩)
    go_wp2_with fail
    refine hK.out _ _ ?hSr1_8_6 (fun hHeld2 => ?_)
    case hSr1_8_6 => (first | exact ⟨x0, x1, hb.drew⟩ | exact ⟨cell_later hq hHeld.1, cell_later hq hHeld.2.1, below_step hHeld.2.2 hq⟩)
    clear hK K hHeld
    have hHeld := hHeld2
    clear hHeld2
    rename World => wq
    (try simp only [Act.put, List.setIfInBounds_toArray, List.set_cons_zero, List.set_cons_succ])
    refine wpAnyH_ready (rs := [8]) (by kernel_rfl) (by simp) ?_
    refine AllReadyH.cons (o := { dst := some 53, op := Go.Op.call { callee := Go.Callee.value (Go.Operand.func 29), args := #[Go.Operand.tmp 51, Go.Operand.tmp 52], argTypes := #[31, 31] }, type := 3, pos := _, after := #[{ on := 6, ground := Go.Ground.data }, { on := 7, ground := Go.Ground.data }, { on := 6, ground := Go.Ground.chain }], guard := none }) rfl (fun K hK => ?_) AllReadyH.nil
    go_simp
    (refine (c4 _).mono ?_; rintro e wn ⟨rfl, hq⟩)
    go_wp2_with fail
    refine hK.out _ _ ?hSr1_9_8 (fun hHeld2 => ?_)
    case hSr1_9_8 => (first | exact ⟨x0, x1, hb.drew⟩ | exact ⟨cell_later hq hHeld.1, cell_later hq hHeld.2.1, below_step hHeld.2.2 hq⟩)
    clear hK K hHeld
    have hHeld := hHeld2
    clear hHeld2
    rename World => wq
    (try simp only [Act.put, List.setIfInBounds_toArray, List.set_cons_zero, List.set_cons_succ])
    refine wpAnyH_take (i := 9) (oi := { dst := some 54, op := Go.Op.binOp Go.BinOp.leq 3 (Go.Operand.tmp 53) (Go.Operand.const (Go.Value.int Go.IntKind.i64 0)) 3, type := 4, pos := _, after := #[{ on := 8, ground := Go.Ground.data }], guard := none }) (v := ?vr1_10_9) rfl (by kernel_rfl) (by kernel_rfl) (by kernel_rfl) (fun _ _ _ h => h) (Or.inl ⟨by rfl, ?yr1_10_9⟩) hHeld ?_
    case yr1_10_9 => ((intro w hSw; (try dsimp only at hSw); go_simp) <;> with_reducible rfl)
    (try simp only [Act.put, List.setIfInBounds_toArray, List.set_cons_zero, List.set_cons_succ])
    refine wpAnyH_take (i := 10) (oi := { dst := some 12, op := Go.Op.assign (Go.Operand.tmp 54), type := 4, pos := _, after := #[{ on := 9, ground := Go.Ground.data }, { on := 8, ground := Go.Ground.chain }, { on := 0, ground := Go.Ground.phase }, { on := 1, ground := Go.Ground.phase }, { on := 2, ground := Go.Ground.phase }, { on := 3, ground := Go.Ground.phase }, { on := 4, ground := Go.Ground.phase }, { on := 5, ground := Go.Ground.phase }, { on := 6, ground := Go.Ground.phase }, { on := 7, ground := Go.Ground.phase }, { on := 8, ground := Go.Ground.phase }, { on := 9, ground := Go.Ground.phase }], guard := none }) (v := ?vr1_11_10) rfl (by kernel_rfl) (by kernel_rfl) (by kernel_rfl) (fun _ _ _ h => h) (Or.inl ⟨by rfl, ?yr1_11_10⟩) hHeld ?_
    case yr1_11_10 => ((intro w hSw; (try dsimp only at hSw); go_simp) <;> with_reducible rfl)
    (try simp only [Act.put, List.setIfInBounds_toArray, List.set_cons_zero, List.set_cons_succ])
    refine wpAnyH_done (by kernel_rfl) ?_ _
    (go_wp2_with fail; go_meet; exact ⟨rfl, hHeld⟩)
  case rest =>
    clear x0 x1 hb e4 c2 c4
    obtain ⟨rfl, x0, x1, hb⟩ := hcut
    go_wp2_with fail
    go_cut [13] (fun c wx => c = .bool (decide (0 < n)) ∧ Below w.heap.size w wx)
    case first =>
      refine region_any (S := (fun w' => w'.cell? ⟨g, 0, none⟩ = some (.int .u64 (hi X3)) ∧ w'.cell? ⟨g, 1, none⟩ = some (.int .u64 (lo X3)) ∧ Below w.heap.size w w')) (by kernel_rfl) ?hSr2_ (fun wq hHeld => ?_)
      case hSr2_ => (first | exact ⟨x0, x1, hb.drew⟩ | exact ⟨cell_later hq hHeld.1, cell_later hq hHeld.2.1, below_step hHeld.2.2 hq⟩)
      refine wpAnyH_take (i := 0) (oi := { dst := some 55, op := Go.Op.move (Go.Operand.tmp 10), type := 22, pos := _, after := #[], guard := none }) (v := ?vr2_1_0) rfl (by kernel_rfl) (by kernel_rfl) (by kernel_rfl) (fun _ _ _ h => h) (Or.inl ⟨by rfl, ?yr2_1_0⟩) hHeld ?_
      case yr2_1_0 => ((intro w hSw; (try dsimp only at hSw); go_simp) <;> with_reducible rfl)
      (try simp only [Act.put, List.setIfInBounds_toArray, List.set_cons_zero, List.set_cons_succ])
      refine wpAnyH_take (i := 1) (oi := { dst := some 56, op := Go.Op.move (Go.Operand.tmp 9), type := 3, pos := _, after := #[], guard := none }) (v := ?vr2_2_1) rfl (by kernel_rfl) (by kernel_rfl) (by kernel_rfl) (fun _ _ _ h => h) (Or.inl ⟨by rfl, ?yr2_2_1⟩) hHeld ?_
      case yr2_2_1 => ((intro w hSw; (try dsimp only at hSw); go_simp) <;> with_reducible rfl)
      (try simp only [Act.put, List.setIfInBounds_toArray, List.set_cons_zero, List.set_cons_succ])
      refine wpAnyH_take (i := 2) (oi := { dst := some 57, op := Go.Op.binOp Go.BinOp.add 3 (Go.Operand.tmp 56) (Go.Operand.const (Go.Value.int Go.IntKind.i64 1)) 3, type := 3, pos := _, after := #[{ on := 1, ground := Go.Ground.data }], guard := none }) (v := ?vr2_3_2) rfl (by kernel_rfl) (by kernel_rfl) (by kernel_rfl) (fun _ _ _ h => h) (Or.inl ⟨by rfl, ?yr2_3_2⟩) hHeld ?_
      case yr2_3_2 => ((intro w hSw; (try dsimp only at hSw); go_simp) <;> with_reducible rfl)
      (try simp only [Act.put, List.setIfInBounds_toArray, List.set_cons_zero, List.set_cons_succ])
      refine wpAnyH_take (i := 3) (oi := { dst := some 58, op := Go.Op.convert 3 22 (Go.Operand.tmp 57), type := 22, pos := _, after := #[{ on := 2, ground := Go.Ground.data }], guard := none }) (v := ?vr2_4_3) rfl (by kernel_rfl) (by kernel_rfl) (by kernel_rfl) (fun _ _ _ h => h) (Or.inl ⟨by rfl, ?yr2_4_3⟩) hHeld ?_
      case yr2_4_3 => ((intro w hSw; (try dsimp only at hSw); go_simp) <;> with_reducible rfl)
      (try simp only [Act.put, List.setIfInBounds_toArray, List.set_cons_zero, List.set_cons_succ])
      refine wpAnyH_take (i := 4) (oi := { dst := some 59, op := Go.Op.binOp Go.BinOp.mul 22 (Go.Operand.tmp 55) (Go.Operand.tmp 58) 22, type := 22, pos := _, after := #[{ on := 0, ground := Go.Ground.data }, { on := 3, ground := Go.Ground.data }], guard := none }) (v := ?vr2_5_4) rfl (by kernel_rfl) (by kernel_rfl) (by kernel_rfl) (fun _ _ _ h => h) (Or.inl ⟨by rfl, ?yr2_5_4⟩) hHeld ?_
      case yr2_5_4 => ((intro w hSw; (try dsimp only at hSw); go_simp) <;> with_reducible rfl)
      (try simp only [Act.put, List.setIfInBounds_toArray, List.set_cons_zero, List.set_cons_succ])
      refine wpAnyH_take (i := 5) (oi := { dst := some 60, op := Go.Op.move (Go.Operand.tmp 3), type := 45, pos := _, after := #[], guard := none }) (v := ?vr2_6_5) rfl (by kernel_rfl) (by kernel_rfl) (by kernel_rfl) (fun _ _ _ h => h) (Or.inl ⟨by rfl, ?yr2_6_5⟩) hHeld ?_
      case yr2_6_5 => ((intro w hSw; (try dsimp only at hSw); go_simp) <;> with_reducible rfl)
      (try simp only [Act.put, List.setIfInBounds_toArray, List.set_cons_zero, List.set_cons_succ])
      refine wpAnyH_take (i := 6) (oi := { dst := some 61, op := Go.Op.convert 45 22 (Go.Operand.tmp 60), type := 22, pos := _, after := #[{ on := 5, ground := Go.Ground.data }], guard := none }) (v := ?vr2_7_6) rfl (by kernel_rfl) (by kernel_rfl) (by kernel_rfl) (fun _ _ _ h => h) (Or.inl ⟨by rfl, ?yr2_7_6⟩) hHeld ?_
      case yr2_7_6 => ((intro w hSw; (try dsimp only at hSw); go_simp) <;> with_reducible rfl)
      (try simp only [Act.put, List.setIfInBounds_toArray, List.set_cons_zero, List.set_cons_succ])
      refine wpAnyH_take (i := 8) (oi := { dst := some 63, op := Go.Op.load 31 (Go.Operand.tmp 11), type := 31, pos := _, after := #[], guard := none }) (v := ?vr2_8_8) rfl (by kernel_rfl) (by kernel_rfl) (by kernel_rfl) (fun _ _ _ h => h) (Or.inl ⟨by rfl, ?yr2_8_8⟩) hHeld ?_
      case yr2_8_8 => ((intro w hSw; (try dsimp only at hSw); go_simp) <;> with_reducible rfl)
      (try simp only [Act.put, List.setIfInBounds_toArray, List.set_cons_zero, List.set_cons_succ])
      refine wpAnyH_ready (rs := [7]) (by kernel_rfl) (by simp) ?_
      refine AllReadyH.cons (o := { dst := some 62, op := Go.Op.call { callee := Go.Callee.value (Go.Operand.func 28), args := #[Go.Operand.tmp 59, Go.Operand.tmp 61], argTypes := #[22, 22] }, type := 31, pos := _, after := #[{ on := 4, ground := Go.Ground.data }, { on := 6, ground := Go.Ground.data }], guard := none }) rfl (fun K hK => ?_) AllReadyH.nil
      go_simp
      (refine (c3 _).mono ?_; rintro e wn ⟨rfl, hq⟩)
      go_wp2_with fail
      refine hK.out _ _ ?hSr2_9_7 (fun hHeld2 => ?_)
      case hSr2_9_7 => (first | exact ⟨x0, x1, hb.drew⟩ | exact ⟨cell_later hq hHeld.1, cell_later hq hHeld.2.1, below_step hHeld.2.2 hq⟩)
      clear hK K hHeld
      have hHeld := hHeld2
      clear hHeld2
      rename World => wq
      (try simp only [Act.put, List.setIfInBounds_toArray, List.set_cons_zero, List.set_cons_succ])
      refine wpAnyH_ready (rs := [9]) (by kernel_rfl) (by simp) ?_
      refine AllReadyH.cons (o := { dst := some 64, op := Go.Op.call { callee := Go.Callee.value (Go.Operand.func 29), args := #[Go.Operand.tmp 62, Go.Operand.tmp 63], argTypes := #[31, 31] }, type := 3, pos := _, after := #[{ on := 7, ground := Go.Ground.data }, { on := 8, ground := Go.Ground.data }, { on := 7, ground := Go.Ground.chain }], guard := none }) rfl (fun K hK => ?_) AllReadyH.nil
      go_simp
      (refine (c5 _).mono ?_; rintro e wn ⟨rfl, hq⟩)
      go_wp2_with fail
      refine hK.out _ _ ?hSr2_10_9 (fun hHeld2 => ?_)
      case hSr2_10_9 => (first | exact ⟨x0, x1, hb.drew⟩ | exact ⟨cell_later hq hHeld.1, cell_later hq hHeld.2.1, below_step hHeld.2.2 hq⟩)
      clear hK K hHeld
      have hHeld := hHeld2
      clear hHeld2
      rename World => wq
      (try simp only [Act.put, List.setIfInBounds_toArray, List.set_cons_zero, List.set_cons_succ])
      refine wpAnyH_take (i := 10) (oi := { dst := some 65, op := Go.Op.binOp Go.BinOp.gtr 3 (Go.Operand.tmp 64) (Go.Operand.const (Go.Value.int Go.IntKind.i64 0)) 3, type := 4, pos := _, after := #[{ on := 9, ground := Go.Ground.data }], guard := none }) (v := ?vr2_11_10) rfl (by kernel_rfl) (by kernel_rfl) (by kernel_rfl) (fun _ _ _ h => h) (Or.inl ⟨by rfl, ?yr2_11_10⟩) hHeld ?_
      case yr2_11_10 => ((intro w hSw; (try dsimp only at hSw); go_simp) <;> with_reducible rfl)
      (try simp only [Act.put, List.setIfInBounds_toArray, List.set_cons_zero, List.set_cons_succ])
      refine wpAnyH_take (i := 11) (oi := { dst := some 13, op := Go.Op.assign (Go.Operand.tmp 65), type := 4, pos := _, after := #[{ on := 10, ground := Go.Ground.data }, { on := 9, ground := Go.Ground.chain }, { on := 0, ground := Go.Ground.phase }, { on := 1, ground := Go.Ground.phase }, { on := 2, ground := Go.Ground.phase }, { on := 3, ground := Go.Ground.phase }, { on := 4, ground := Go.Ground.phase }, { on := 5, ground := Go.Ground.phase }, { on := 6, ground := Go.Ground.phase }, { on := 7, ground := Go.Ground.phase }, { on := 8, ground := Go.Ground.phase }, { on := 9, ground := Go.Ground.phase }, { on := 10, ground := Go.Ground.phase }], guard := none }) (v := ?vr2_12_11) rfl (by kernel_rfl) (by kernel_rfl) (by kernel_rfl) (fun _ _ _ h => h) (Or.inl ⟨by rfl, ?yr2_12_11⟩) hHeld ?_
      case yr2_12_11 => ((intro w hSw; (try dsimp only at hSw); go_simp) <;> with_reducible rfl)
      (try simp only [Act.put, List.setIfInBounds_toArray, List.set_cons_zero, List.set_cons_succ])
      refine wpAnyH_done (by kernel_rfl) ?_ _
      (go_wp2_with fail; go_meet; exact ⟨rfl, hHeld.2.2⟩)
    case rest =>
      clear x0 x1 hb e5 c3 c5
      obtain ⟨rfl, hb⟩ := hcut
      go_wp2_with fail
      refine (alive12_t _).mono ?_; rintro e w5 ⟨rfl, hb2⟩
      replace hb := below_step hb hb2; clear hb2
      go_wp2_with fail
      exact bodyPost_ret (v := .bool true) (by simp [results, Try.results8, go_sem]) rfl ⟨rfl, hb⟩
set_option maxRecDepth 100000 in
set_option maxHeartbeats 1600000 in
theorem ratioMost_any (k a b n : Int) (n0 : 0 ≤ n) (n1 : n < 4294967296) (w : World) :
    Calls Try.prog 8 #[.int .i64 k, .int .i64 a, .int .i64 b, .int .u32 n] w fun e w' => e = .returned (.bool true) ∧ Below w.heap.size w w' := by
  cases hr : rightB k a b with
  | true => exact rm_walk k a b n _ _ _ n0 n1 hr rfl rfl rfl w
  | false =>
    have cr := fun w => right12_t k a b w
    have cm := fun w => most_t k a b w
    rw [mostI_no hr] at cm
    rw [hr] at cr
    go_enter Try.func8, Try.ntmps8
    go_wp2_with fail
    refine (cr _).mono ?_; rintro e w1 ⟨rfl, hb⟩
    go_wp2_with fail
    refine (alive12_t _).mono ?_; rintro e w2 ⟨rfl, hb2⟩
    replace hb := below_step hb hb2; clear hb2
    go_wp2_with fail
    refine (cm _).mono ?_; rintro e w3 ⟨rfl, hb2⟩
    replace hb := below_step hb hb2; clear hb2
    go_wp2_with fail
    exact bodyPost_ret (v := .bool true) (by simp [results, Try.results8, go_sem]) rfl ⟨rfl, hb⟩
theorem clip_laws (n p q m : Int) (n0 : 0 ≤ n) (p0 : 0 ≤ p) (q0 : 0 ≤ q) (m0 : 0 ≤ m) : clipI n p m ≤ n ∧ clipI n p m ≤ clipI n (p + q) m ∧ clipI n p (m + q) ≤ clipI n p m ∧ clipI n m m = n := by
  unfold clipI
  refine ⟨?_, ?_, ?_, ?_⟩ <;> (repeat' split) <;> omega
set_option maxRecDepth 100000 in
set_option maxHeartbeats 3200000 in
theorem ratioClips_any (n p q m : Int) (hn : Word n) (p0 : 0 ≤ p) (p1 : p < 4294967296) (q0 : 0 ≤ q) (q1 : q < 4294967296) (m0 : 0 ≤ m) (m1 : m < 4294967296) (w : World) :
    Calls Try.prog 9 #[.int .u64 n, .int .u32 p, .int .u32 q, .int .u32 m] w fun e w' => e = .returned (.bool true) ∧ Below w.heap.size w w' := by
  obtain ⟨l1, l2, l3, l4⟩ := clip_laws n p q m hn.1 p0 q0 m0
  have ex : ∀ z, 0 ≤ z → z < 18446744073709551616 → 0 ≤ z ∧ z < MM := fun z h h' => ⟨h, by unfold MM; omega⟩
  have h1 := ex p p0 (by omega)
  have h2 := ex m m0 (by omega)
  have h3 := ex (p + q) (by omega) (by omega)
  have h4 := ex (m + q) (by omega) (by omega)
  have c1 := fun w => clip_t n p m hn h1.1 h1.2 h2.1 h2.2 w
  have c2 := fun w => clip_t n (p + q) m hn h3.1 h3.2 h2.1 h2.2 w
  have c3 := fun w => clip_t n p (m + q) hn h1.1 h1.2 h4.1 h4.2 w
  have c4 := fun w => clip_t n m m hn h2.1 h2.2 h2.1 h2.2 w
  have o1 := fun w => of_h p ⟨p0, by omega⟩ w
  have o2 := fun w => of_h m ⟨m0, by omega⟩ w
  have o3 := fun w => of_h (p + q) ⟨by omega, by omega⟩ w
  have o4 := fun w => of_h (m + q) ⟨by omega, by omega⟩ w
  have w1 : IntKind.u64.wrap p = p := by rw [IntKind.wrap_u64]; omega
  have w2 : IntKind.u64.wrap q = q := by rw [IntKind.wrap_u64]; omega
  have w3 : IntKind.u64.wrap m = m := by rw [IntKind.wrap_u64]; omega
  have w4 : IntKind.u64.wrap (p + q) = p + q := by rw [IntKind.wrap_u64]; omega
  have w5 : IntKind.u64.wrap (m + q) = m + q := by rw [IntKind.wrap_u64]; omega
  rw [l4] at c4
  generalize clipI n p m = X1 at *
  generalize clipI n (p + q) m = X2 at *
  generalize clipI n p (m + q) = X3 at *
  have d1 : decide (X1 ≤ n) = true := decide_eq_true l1
  have d2 : decide (X1 ≤ X2) = true := decide_eq_true l2
  have d3 : decide (X3 ≤ X1) = true := decide_eq_true l3
  clear l1 l2 l3 l4 ex h1 h2 h3 h4
  go_enter Try.func9, Try.ntmps9
  go_wp2_with fail
  refine (o1 _).mono ?_; rintro e w1 ⟨rfl, hb⟩
  go_wp2_with fail
  refine (o2 _).mono ?_; rintro e w2 ⟨rfl, hb2⟩
  replace hb := below_step hb hb2; clear hb2
  go_wp2_with fail
  have R0 : Row ((w2.alloc (.cells #[.int .u64 (hi p), .int .u64 (lo p)] 31)).alloc (.cells #[.int .u64 (hi m), .int .u64 (lo m)] 31)) w2.heap.size #[.int .u64 (hi p), .int .u64 (lo p)] 31 := (Row.new w2 _ _).alloc _
  have R1 : Row ((w2.alloc (.cells #[.int .u64 (hi p), .int .u64 (lo p)] 31)).alloc (.cells #[.int .u64 (hi m), .int .u64 (lo m)] 31)) (w2.heap.size + 1) #[.int .u64 (hi m), .int .u64 (lo m)] 31 := by
    have := Row.new (w2.alloc (.cells #[.int .u64 (hi p), .int .u64 (lo p)] 31)) #[.int .u64 (hi m), .int .u64 (lo m)] 31
    rwa [World.size_alloc] at this
  replace hb := (hb.alloc hb.size (.cells #[.int .u64 (hi p), .int .u64 (lo p)] 31)).alloc (hb.alloc hb.size (.cells #[.int .u64 (hi p), .int .u64 (lo p)] 31)).size (.cells #[.int .u64 (hi m), .int .u64 (lo m)] 31)
  have a0 := (R0.cell 0).trans (show _ = some (Value.int .u64 (hi p)) from rfl)
  have a1 := (R0.cell 1).trans (show _ = some (Value.int .u64 (lo p)) from rfl)
  have b0 := (R1.cell 0).trans (show _ = some (Value.int .u64 (hi m)) from rfl)
  have b1 := (R1.cell 1).trans (show _ = some (Value.int .u64 (lo m)) from rfl)
  clear R0 R1
  generalize (w2.alloc (.cells #[.int .u64 (hi p), .int .u64 (lo p)] 31)).alloc (.cells #[.int .u64 (hi m), .int .u64 (lo m)] 31) = w6 at *
  generalize w2.heap.size = g at *
  refine (c1 _).mono ?_; rintro e w7 ⟨rfl, hb2⟩
  replace a0 := cell_later hb2 a0
  replace a1 := cell_later hb2 a1
  replace b0 := cell_later hb2 b0
  replace b1 := cell_later hb2 b1
  replace hb := below_step hb hb2
  clear hb2 o1 o2 c1
  go_wp2_with fail
  go_cut [12] (fun c wx => c = .int .u64 X2 ∧ wx.cell? ⟨g, 0, none⟩ = some (.int .u64 (hi p)) ∧ wx.cell? ⟨g, 1, none⟩ = some (.int .u64 (lo p)) ∧ wx.cell? ⟨g + 1, 0, none⟩ = some (.int .u64 (hi m)) ∧ wx.cell? ⟨g + 1, 1, none⟩ = some (.int .u64 (lo m)) ∧ Below w.heap.size w wx)
  case first =>
    refine region_any (S := (fun w' => w'.cell? ⟨g, 0, none⟩ = some (.int .u64 (hi p)) ∧ w'.cell? ⟨g, 1, none⟩ = some (.int .u64 (lo p)) ∧ w'.cell? ⟨g + 1, 0, none⟩ = some (.int .u64 (hi m)) ∧ w'.cell? ⟨g + 1, 1, none⟩ = some (.int .u64 (lo m)) ∧ Below w.heap.size w w')) (by kernel_rfl) ?hSr3_ (fun wq hHeld => ?_)
    case hSr3_ => (first | exact ⟨a0, a1, b0, b1, hb.drew⟩ | exact ⟨cell_later hq hHeld.1, cell_later hq hHeld.2.1, cell_later hq hHeld.2.2.1, cell_later hq hHeld.2.2.2.1, below_step hHeld.2.2.2.2 hq⟩)
    refine wpAnyH_take (i := 0) (oi := { dst := some 24, op := Go.Op.move (Go.Operand.tmp 0), type := 22, pos := _, after := #[], guard := none }) (v := ?vr3_1_0) rfl (by kernel_rfl) (by kernel_rfl) (by kernel_rfl) (fun _ _ _ h => h) (Or.inl ⟨by rfl, ?yr3_1_0⟩) hHeld ?_
    case yr3_1_0 => ((intro w hSw; (try dsimp only at hSw); go_simp) <;> with_reducible rfl)
    (try simp only [Act.put, List.setIfInBounds_toArray, List.set_cons_zero, List.set_cons_succ])
    refine wpAnyH_take (i := 1) (oi := { dst := some 25, op := Go.Op.move (Go.Operand.tmp 1), type := 45, pos := _, after := #[], guard := none }) (v := ?vr3_2_1) rfl (by kernel_rfl) (by kernel_rfl) (by kernel_rfl) (fun _ _ _ h => h) (Or.inl ⟨by rfl, ?yr3_2_1⟩) hHeld ?_
    case yr3_2_1 => ((intro w hSw; (try dsimp only at hSw); go_simp) <;> with_reducible rfl)
    (try simp only [Act.put, List.setIfInBounds_toArray, List.set_cons_zero, List.set_cons_succ])
    refine wpAnyH_take (i := 2) (oi := { dst := some 26, op := Go.Op.convert 45 22 (Go.Operand.tmp 25), type := 22, pos := _, after := #[{ on := 1, ground := Go.Ground.data }], guard := none }) (v := ?vr3_3_2) rfl (by kernel_rfl) (by kernel_rfl) (by kernel_rfl) (fun _ _ _ h => h) (Or.inl ⟨by rfl, ?yr3_3_2⟩) hHeld ?_
    case yr3_3_2 => ((intro w hSw; (try dsimp only at hSw); go_simp) <;> with_reducible rfl)
    (try simp only [Act.put, List.setIfInBounds_toArray, List.set_cons_zero, List.set_cons_succ])
    refine wpAnyH_take (i := 3) (oi := { dst := some 27, op := Go.Op.move (Go.Operand.tmp 2), type := 45, pos := _, after := #[], guard := none }) (v := ?vr3_4_3) rfl (by kernel_rfl) (by kernel_rfl) (by kernel_rfl) (fun _ _ _ h => h) (Or.inl ⟨by rfl, ?yr3_4_3⟩) hHeld ?_
    case yr3_4_3 => ((intro w hSw; (try dsimp only at hSw); go_simp) <;> with_reducible rfl)
    (try simp only [Act.put, List.setIfInBounds_toArray, List.set_cons_zero, List.set_cons_succ])
    refine wpAnyH_take (i := 4) (oi := { dst := some 28, op := Go.Op.convert 45 22 (Go.Operand.tmp 27), type := 22, pos := _, after := #[{ on := 3, ground := Go.Ground.data }], guard := none }) (v := ?vr3_5_4) rfl (by kernel_rfl) (by kernel_rfl) (by kernel_rfl) (fun _ _ _ h => h) (Or.inl ⟨by rfl, ?yr3_5_4⟩) hHeld ?_
    case yr3_5_4 => ((intro w hSw; (try dsimp only at hSw); go_simp) <;> with_reducible rfl)
    (try simp only [Act.put, List.setIfInBounds_toArray, List.set_cons_zero, List.set_cons_succ])
    refine wpAnyH_take (i := 5) (oi := { dst := some 29, op := Go.Op.binOp Go.BinOp.add 22 (Go.Operand.tmp 26) (Go.Operand.tmp 28) 22, type := 22, pos := _, after := #[{ on := 2, ground := Go.Ground.data }, { on := 4, ground := Go.Ground.data }], guard := none }) (v := ?vr3_6_5) rfl (by kernel_rfl) (by kernel_rfl) (by kernel_rfl) (fun _ _ _ h => h) (Or.inl ⟨by rfl, ?yr3_6_5⟩) hHeld ?_
    case yr3_6_5 => ((intro w hSw; (try dsimp only at hSw); go_simp) <;> with_reducible rfl)
    (try simp only [Act.put, List.setIfInBounds_toArray, List.set_cons_zero, List.set_cons_succ])
    refine wpAnyH_take (i := 7) (oi := { dst := some 31, op := Go.Op.load 31 (Go.Operand.tmp 10), type := 31, pos := _, after := #[], guard := none }) (v := ?vr3_7_7) rfl (by kernel_rfl) (by kernel_rfl) (by kernel_rfl) (fun _ _ _ h => h) (Or.inl ⟨by rfl, ?yr3_7_7⟩) hHeld ?_
    case yr3_7_7 => ((intro w hSw; (try dsimp only at hSw); go_simp) <;> with_reducible rfl)
    (try simp only [Act.put, List.setIfInBounds_toArray, List.set_cons_zero, List.set_cons_succ])
    refine wpAnyH_ready (rs := [6]) (by kernel_rfl) (by simp) ?_
    refine AllReadyH.cons (o := { dst := some 30, op := Go.Op.call { callee := Go.Callee.value (Go.Operand.func 30), args := #[Go.Operand.tmp 29], argTypes := #[22] }, type := 31, pos := _, after := #[{ on := 5, ground := Go.Ground.data }], guard := none }) rfl (fun K hK => ?_) AllReadyH.nil
    go_simp
    (refine (o3 _).mono ?_; rintro e wn ⟨rfl, hq⟩)
    go_wp2_with fail
    refine hK.out _ _ ?hSr3_8_6 (fun hHeld2 => ?_)
    case hSr3_8_6 => (first | exact ⟨a0, a1, b0, b1, hb.drew⟩ | exact ⟨cell_later hq hHeld.1, cell_later hq hHeld.2.1, cell_later hq hHeld.2.2.1, cell_later hq hHeld.2.2.2.1, below_step hHeld.2.2.2.2 hq⟩)
    clear hK K hHeld
    have hHeld := hHeld2
    clear hHeld2
    rename World => wq
    (try simp only [Act.put, List.setIfInBounds_toArray, List.set_cons_zero, List.set_cons_succ])
    refine wpAnyH_ready (rs := [8]) (by kernel_rfl) (by simp) ?_
    refine AllReadyH.cons (o := { dst := some 32, op := Go.Op.call { callee := Go.Callee.value (Go.Operand.func 26), args := #[Go.Operand.tmp 24, Go.Operand.tmp 30, Go.Operand.tmp 31], argTypes := #[22, 31, 31] }, type := 22, pos := _, after := #[{ on := 0, ground := Go.Ground.data }, { on := 6, ground := Go.Ground.data }, { on := 7, ground := Go.Ground.data }, { on := 6, ground := Go.Ground.chain }], guard := none }) rfl (fun K hK => ?_) AllReadyH.nil
    go_simp
    (refine (c2 _).mono ?_; rintro e wn ⟨rfl, hq⟩)
    go_wp2_with fail
    refine hK.out _ _ ?hSr3_9_8 (fun hHeld2 => ?_)
    case hSr3_9_8 => (first | exact ⟨a0, a1, b0, b1, hb.drew⟩ | exact ⟨cell_later hq hHeld.1, cell_later hq hHeld.2.1, cell_later hq hHeld.2.2.1, cell_later hq hHeld.2.2.2.1, below_step hHeld.2.2.2.2 hq⟩)
    clear hK K hHeld
    have hHeld := hHeld2
    clear hHeld2
    rename World => wq
    (try simp only [Act.put, List.setIfInBounds_toArray, List.set_cons_zero, List.set_cons_succ])
    refine wpAnyH_take (i := 9) (oi := { dst := some 12, op := Go.Op.assign (Go.Operand.tmp 32), type := 22, pos := _, after := #[{ on := 8, ground := Go.Ground.data }, { on := 8, ground := Go.Ground.chain }, { on := 0, ground := Go.Ground.phase }, { on := 1, ground := Go.Ground.phase }, { on := 2, ground := Go.Ground.phase }, { on := 3, ground := Go.Ground.phase }, { on := 4, ground := Go.Ground.phase }, { on := 5, ground := Go.Ground.phase }, { on := 6, ground := Go.Ground.phase }, { on := 7, ground := Go.Ground.phase }, { on := 8, ground := Go.Ground.phase }], guard := none }) (v := ?vr3_10_9) rfl (by kernel_rfl) (by kernel_rfl) (by kernel_rfl) (fun _ _ _ h => h) (Or.inl ⟨by rfl, ?yr3_10_9⟩) hHeld ?_
    case yr3_10_9 => ((intro w hSw; (try dsimp only at hSw); go_simp) <;> with_reducible rfl)
    (try simp only [Act.put, List.setIfInBounds_toArray, List.set_cons_zero, List.set_cons_succ])
    refine wpAnyH_done (by kernel_rfl) ?_ _
    (go_wp2_with fail; go_meet; exact ⟨rfl, hHeld⟩)
  case rest =>
    clear a0 a1 b0 b1 hb o3 c2
    obtain ⟨rfl, a0, a1, b0, b1, hb⟩ := hcut
    go_wp2_with fail
    go_cut [13] (fun c wx => c = .int .u64 X3 ∧ wx.cell? ⟨g, 0, none⟩ = some (.int .u64 (hi p)) ∧ wx.cell? ⟨g, 1, none⟩ = some (.int .u64 (lo p)) ∧ wx.cell? ⟨g + 1, 0, none⟩ = some (.int .u64 (hi m)) ∧ wx.cell? ⟨g + 1, 1, none⟩ = some (.int .u64 (lo m)) ∧ Below w.heap.size w wx)
    case first =>
      refine region_any (S := (fun w' => w'.cell? ⟨g, 0, none⟩ = some (.int .u64 (hi p)) ∧ w'.cell? ⟨g, 1, none⟩ = some (.int .u64 (lo p)) ∧ w'.cell? ⟨g + 1, 0, none⟩ = some (.int .u64 (hi m)) ∧ w'.cell? ⟨g + 1, 1, none⟩ = some (.int .u64 (lo m)) ∧ Below w.heap.size w w')) (by kernel_rfl) ?hSr4_ (fun wq hHeld => ?_)
      case hSr4_ => (first | exact ⟨a0, a1, b0, b1, hb.drew⟩ | exact ⟨cell_later hq hHeld.1, cell_later hq hHeld.2.1, cell_later hq hHeld.2.2.1, cell_later hq hHeld.2.2.2.1, below_step hHeld.2.2.2.2 hq⟩)
      refine wpAnyH_take (i := 0) (oi := { dst := some 33, op := Go.Op.move (Go.Operand.tmp 0), type := 22, pos := _, after := #[], guard := none }) (v := ?vr4_1_0) rfl (by kernel_rfl) (by kernel_rfl) (by kernel_rfl) (fun _ _ _ h => h) (Or.inl ⟨by rfl, ?yr4_1_0⟩) hHeld ?_
      case yr4_1_0 => ((intro w hSw; (try dsimp only at hSw); go_simp) <;> with_reducible rfl)
      (try simp only [Act.put, List.setIfInBounds_toArray, List.set_cons_zero, List.set_cons_succ])
      refine wpAnyH_take (i := 1) (oi := { dst := some 34, op := Go.Op.load 31 (Go.Operand.tmp 9), type := 31, pos := _, after := #[], guard := none }) (v := ?vr4_2_1) rfl (by kernel_rfl) (by kernel_rfl) (by kernel_rfl) (fun _ _ _ h => h) (Or.inl ⟨by rfl, ?yr4_2_1⟩) hHeld ?_
      case yr4_2_1 => ((intro w hSw; (try dsimp only at hSw); go_simp) <;> with_reducible rfl)
      (try simp only [Act.put, List.setIfInBounds_toArray, List.set_cons_zero, List.set_cons_succ])
      refine wpAnyH_take (i := 2) (oi := { dst := some 35, op := Go.Op.move (Go.Operand.tmp 3), type := 45, pos := _, after := #[], guard := none }) (v := ?vr4_3_2) rfl (by kernel_rfl) (by kernel_rfl) (by kernel_rfl) (fun _ _ _ h => h) (Or.inl ⟨by rfl, ?yr4_3_2⟩) hHeld ?_
      case yr4_3_2 => ((intro w hSw; (try dsimp only at hSw); go_simp) <;> with_reducible rfl)
      (try simp only [Act.put, List.setIfInBounds_toArray, List.set_cons_zero, List.set_cons_succ])
      refine wpAnyH_take (i := 3) (oi := { dst := some 36, op := Go.Op.convert 45 22 (Go.Operand.tmp 35), type := 22, pos := _, after := #[{ on := 2, ground := Go.Ground.data }], guard := none }) (v := ?vr4_4_3) rfl (by kernel_rfl) (by kernel_rfl) (by kernel_rfl) (fun _ _ _ h => h) (Or.inl ⟨by rfl, ?yr4_4_3⟩) hHeld ?_
      case yr4_4_3 => ((intro w hSw; (try dsimp only at hSw); go_simp) <;> with_reducible rfl)
      (try simp only [Act.put, List.setIfInBounds_toArray, List.set_cons_zero, List.set_cons_succ])
      refine wpAnyH_take (i := 4) (oi := { dst := some 37, op := Go.Op.move (Go.Operand.tmp 2), type := 45, pos := _, after := #[], guard := none }) (v := ?vr4_5_4) rfl (by kernel_rfl) (by kernel_rfl) (by kernel_rfl) (fun _ _ _ h => h) (Or.inl ⟨by rfl, ?yr4_5_4⟩) hHeld ?_
      case yr4_5_4 => ((intro w hSw; (try dsimp only at hSw); go_simp) <;> with_reducible rfl)
      (try simp only [Act.put, List.setIfInBounds_toArray, List.set_cons_zero, List.set_cons_succ])
      refine wpAnyH_take (i := 5) (oi := { dst := some 38, op := Go.Op.convert 45 22 (Go.Operand.tmp 37), type := 22, pos := _, after := #[{ on := 4, ground := Go.Ground.data }], guard := none }) (v := ?vr4_6_5) rfl (by kernel_rfl) (by kernel_rfl) (by kernel_rfl) (fun _ _ _ h => h) (Or.inl ⟨by rfl, ?yr4_6_5⟩) hHeld ?_
      case yr4_6_5 => ((intro w hSw; (try dsimp only at hSw); go_simp) <;> with_reducible rfl)
      (try simp only [Act.put, List.setIfInBounds_toArray, List.set_cons_zero, List.set_cons_succ])
      refine wpAnyH_take (i := 6) (oi := { dst := some 39, op := Go.Op.binOp Go.BinOp.add 22 (Go.Operand.tmp 36) (Go.Operand.tmp 38) 22, type := 22, pos := _, after := #[{ on := 3, ground := Go.Ground.data }, { on := 5, ground := Go.Ground.data }], guard := none }) (v := ?vr4_7_6) rfl (by kernel_rfl) (by kernel_rfl) (by kernel_rfl) (fun _ _ _ h => h) (Or.inl ⟨by rfl, ?yr4_7_6⟩) hHeld ?_
      case yr4_7_6 => ((intro w hSw; (try dsimp only at hSw); go_simp) <;> with_reducible rfl)
      (try simp only [Act.put, List.setIfInBounds_toArray, List.set_cons_zero, List.set_cons_succ])
      refine wpAnyH_ready (rs := [7]) (by kernel_rfl) (by simp) ?_
      refine AllReadyH.cons (o := { dst := some 40, op := Go.Op.call { callee := Go.Callee.value (Go.Operand.func 30), args := #[Go.Operand.tmp 39], argTypes := #[22] }, type := 31, pos := _, after := #[{ on := 6, ground := Go.Ground.data }], guard := none }) rfl (fun K hK => ?_) AllReadyH.nil
      go_simp
      (refine (o4 _).mono ?_; rintro e wn ⟨rfl, hq⟩)
      go_wp2_with fail
      refine hK.out _ _ ?hSr4_8_7 (fun hHeld2 => ?_)
      case hSr4_8_7 => (first | exact ⟨a0, a1, b0, b1, hb.drew⟩ | exact ⟨cell_later hq hHeld.1, cell_later hq hHeld.2.1, cell_later hq hHeld.2.2.1, cell_later hq hHeld.2.2.2.1, below_step hHeld.2.2.2.2 hq⟩)
      clear hK K hHeld
      have hHeld := hHeld2
      clear hHeld2
      rename World => wq
      (try simp only [Act.put, List.setIfInBounds_toArray, List.set_cons_zero, List.set_cons_succ])
      refine wpAnyH_ready (rs := [8]) (by kernel_rfl) (by simp) ?_
      refine AllReadyH.cons (o := { dst := some 41, op := Go.Op.call { callee := Go.Callee.value (Go.Operand.func 26), args := #[Go.Operand.tmp 33, Go.Operand.tmp 34, Go.Operand.tmp 40], argTypes := #[22, 31, 31] }, type := 22, pos := _, after := #[{ on := 0, ground := Go.Ground.data }, { on := 1, ground := Go.Ground.data }, { on := 7, ground := Go.Ground.data }, { on := 7, ground := Go.Ground.chain }], guard := none }) rfl (fun K hK => ?_) AllReadyH.nil
      go_simp
      (refine (c3 _).mono ?_; rintro e wn ⟨rfl, hq⟩)
      go_wp2_with fail
      refine hK.out _ _ ?hSr4_9_8 (fun hHeld2 => ?_)
      case hSr4_9_8 => (first | exact ⟨a0, a1, b0, b1, hb.drew⟩ | exact ⟨cell_later hq hHeld.1, cell_later hq hHeld.2.1, cell_later hq hHeld.2.2.1, cell_later hq hHeld.2.2.2.1, below_step hHeld.2.2.2.2 hq⟩)
      clear hK K hHeld
      have hHeld := hHeld2
      clear hHeld2
      rename World => wq
      (try simp only [Act.put, List.setIfInBounds_toArray, List.set_cons_zero, List.set_cons_succ])
      refine wpAnyH_take (i := 9) (oi := { dst := some 13, op := Go.Op.assign (Go.Operand.tmp 41), type := 22, pos := _, after := #[{ on := 8, ground := Go.Ground.data }, { on := 8, ground := Go.Ground.chain }, { on := 0, ground := Go.Ground.phase }, { on := 1, ground := Go.Ground.phase }, { on := 2, ground := Go.Ground.phase }, { on := 3, ground := Go.Ground.phase }, { on := 4, ground := Go.Ground.phase }, { on := 5, ground := Go.Ground.phase }, { on := 6, ground := Go.Ground.phase }, { on := 7, ground := Go.Ground.phase }, { on := 8, ground := Go.Ground.phase }], guard := none }) (v := ?vr4_10_9) rfl (by kernel_rfl) (by kernel_rfl) (by kernel_rfl) (fun _ _ _ h => h) (Or.inl ⟨by rfl, ?yr4_10_9⟩) hHeld ?_
      case yr4_10_9 => ((intro w hSw; (try dsimp only at hSw); go_simp) <;> with_reducible rfl)
      (try simp only [Act.put, List.setIfInBounds_toArray, List.set_cons_zero, List.set_cons_succ])
      refine wpAnyH_done (by kernel_rfl) ?_ _
      (go_wp2_with fail; go_meet; exact ⟨rfl, hHeld⟩)
    case rest =>
      clear a0 a1 b0 b1 hb o4 c3
      obtain ⟨rfl, a0, a1, b0, b1, hb⟩ := hcut
      go_wp2_with fail
      refine (alive12_t _).mono ?_; rintro e w8 ⟨rfl, hb2⟩
      replace b0 := cell_later hb2 b0
      replace b1 := cell_later hb2 b1
      replace hb := below_step hb hb2
      clear hb2 a0 a1
      go_wp2_with fail
      refine (c4 _).mono ?_; rintro e w9 ⟨rfl, hb2⟩
      replace hb := below_step hb hb2
      clear hb2 b0 b1
      go_wp2_with fail
      exact bodyPost_ret (v := .bool true) (by simp [results, Try.results9, go_sem]) rfl ⟨rfl, hb⟩
end Go.Proofs.Ythohpcbfohlmhaa
