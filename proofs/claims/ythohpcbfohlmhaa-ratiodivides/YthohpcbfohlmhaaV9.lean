/- V9: what the theorem needs of these texts. No conditions beyond those that are written. -/
import Derived.Test.YthohpcbfohlmhaaV8
namespace Go.Proofs.Ythohpcbfohlmhaa
set_option linter.unusedVariables false
set_option linter.unusedSimpArgs false
open Go.RowKit
set_option maxRecDepth 100000 in
set_option maxHeartbeats 3200000 in
theorem rd_zero (x y : Int) (w : World) : Calls Try.prog 4 #[.agg #[.int .u64 x, .int .u64 y], .int .u64 0] w fun e w' => e = .returned (.bool true) ∧ Below w.heap.size w w' := by
  have c1 := fun w => div0_t x y w
  have eq0 := eqlw 0 0 0 0
  go_enter Try.func4, Try.ntmps4
  go_wp2_with fail
  refine (c1 _).mono ?_; rintro e w1 ⟨rfl, hb1⟩
  have hb : Below w.heap.size w w1 := below_step (by repeat (first | exact Below.refl _ _ | assumption | (with_reducible refine Below.setCell ?_ ?h _; case h => first | omega | (simp; done) | (simp; omega)) | (with_reducible refine Below.alloc ?_ ?h _; case h => first | omega | (simp; done) | (simp; omega)) | (with_reducible refine Below.drew ?_) | (with_reducible refine Below.trans ?_ (hb4.mono ?h); case h => first | omega | (simp; done) | (simp; omega)) | (with_reducible refine Below.trans ?_ (hb3.mono ?h); case h => first | omega | (simp; done) | (simp; omega)) | (with_reducible refine Below.trans ?_ (hb2.mono ?h); case h => first | omega | (simp; done) | (simp; omega)) | (with_reducible refine Below.trans ?_ (hb.mono ?h); case h => first | omega | (simp; done) | (simp; omega)) | (with_reducible refine Below.trans ?_ (hb0.mono ?h); case h => first | omega | (simp; done) | (simp; omega)))) hb1
  clear hb1
  go_wp2_with fail
  have d0 : (w1.alloc (.cells #[.int .u64 0, .int .u64 0] 31)).cell? ⟨w1.heap.size, 0, none⟩ = some (.int .u64 0) := by simp [go_sem]
  have d1 : (w1.alloc (.cells #[.int .u64 0, .int .u64 0] 31)).cell? ⟨w1.heap.size, 1, none⟩ = some (.int .u64 0) := by simp [go_sem]
  replace hb := hb.alloc hb.size (.cells #[.int .u64 0, .int .u64 0] 31)
  generalize w1.alloc (.cells #[.int .u64 0, .int .u64 0] 31) = w2 at *
  generalize w1.heap.size = g at *
  refine (alive12_t _).mono ?_; rintro e w3 ⟨rfl, hb2⟩
  replace d0 := cell_later hb2 d0
  replace d1 := cell_later hb2 d1
  replace hb := below_step hb hb2
  clear hb2
  go_wp2_with fail
  exact bodyPost_ret (v := .bool true) (by simp [results, Try.results4, go_sem]) rfl ⟨rfl, hb⟩
theorem rd_pure {A d q R : Int} (A0 : 0 ≤ A) (A1 : A < MM) (d0 : 0 < d) (d1 : d < 18446744073709551616) (hq : A / d = q) (hR : A % d = R) :
    hi (hi q * d) = 0 ∧ Word (lo (hi q * d)) ∧ lo (hi q * d) * 18446744073709551616 + lo q * d = q * d ∧ q * d + R = A ∧ 0 ≤ q * d ∧ 0 ≤ R ∧ R < d ∧ 0 ≤ lo q * d ∧ lo q * d ≤ q * d := by
  subst hq hR
  have e := Int.emod_add_mul_ediv A d
  have r0 := Int.emod_nonneg A (b := d) (by omega)
  have r1 := Int.emod_lt_of_pos A (b := d) d0
  have q0 : 0 ≤ A / d := Int.ediv_nonneg A0 (by omega)
  have q1 : A / d ≤ A := Int.ediv_le_self _ A0
  generalize A / d = q at *
  generalize A % d = R at *
  have ew := wv_hi_lo q
  rw [Int.emod_eq_of_lt q0 (by omega)] at ew
  unfold wv at ew
  have h0 := hi_nonneg q
  have l0 := lo_nonneg q
  generalize hi q = H at *
  generalize lo q = L at *
  have e1 : q * d = H * d * 18446744073709551616 + L * d := by
    rw [← ew, Int.add_mul, Int.mul_assoc, Int.mul_comm 18446744073709551616 d, ← Int.mul_assoc]
  have e2 : d * q = q * d := Int.mul_comm _ _
  have z1 := Int.mul_nonneg h0 (show 0 ≤ d by omega)
  have z2 := Int.mul_nonneg l0 (show 0 ≤ d by omega)
  have z3 : H * d < 18446744073709551616 := by unfold MM at A1; omega
  have e3 : lo (H * d) = H * d := by unfold lo; omega
  rw [e3]
  exact ⟨by unfold hi; omega, ⟨z1, z3⟩, by omega, by omega, by omega, r0, r1, z2, by omega⟩
set_option maxRecDepth 100000 in
set_option maxHeartbeats 6400000 in
theorem rd_walk (A d q R U : Int) (A0 : 0 ≤ A) (A1 : A < MM) (d0 : 0 < d) (d1 : d < 18446744073709551616) (hq : A / d = q) (hR : A % d = R) (hU : lo (hi q * d) = U) (w : World) :
    Calls Try.prog 4 #[.agg #[.int .u64 (hi A), .int .u64 (lo A)], .int .u64 d] w fun e w' => e = .returned (.bool true) ∧ Below w.heap.size w w' := by
  have c1 := fun w => div_t A d A0 A1 d0 d1 w
  rw [hq, hR] at c1
  obtain ⟨p1, p2, p3, p4, p5, p6, p7, p8, p9⟩ := rd_pure A0 A1 d0 d1 hq hR
  rw [hU] at p2 p3
  have hd : Word d := ⟨by omega, d1⟩
  have hwR : Word R := ⟨p6, by omega⟩
  have c2 : ∀ w, Calls Try.prog 23 #[.agg #[.int .u64 U, .int .u64 0], .agg #[.int .u64 (hi (lo q * d)), .int .u64 (lo (lo q * d))]] w fun e w' => e = .returned (.tuple #[.agg #[.int .u64 (hi (q * d)), .int .u64 (lo (q * d))], .bool false]) ∧ Below w.heap.size w w' := fun w => by
    have h := refAdd_t (U * 18446744073709551616) (lo q * d) w
    obtain ⟨u0, u1⟩ := p2
    rw [show hi (U * 18446744073709551616) = U by unfold hi; omega, show lo (U * 18446744073709551616) = 0 by unfold lo; omega, p3, show addB (U * 18446744073709551616 % MM) (lo q * d % MM) = false by
      rw [Int.emod_eq_of_lt (by omega) (by unfold MM; omega), Int.emod_eq_of_lt p8 (by omega)]; exact decide_eq_false (by omega)] at h
    exact h
  have c3 : ∀ w, Calls Try.prog 23 #[.agg #[.int .u64 (hi (q * d)), .int .u64 (lo (q * d))], .agg #[.int .u64 0, .int .u64 R]] w fun e w' => e = .returned (.tuple #[.agg #[.int .u64 (hi A), .int .u64 (lo A)], .bool false]) ∧ Below w.heap.size w w' := fun w => by
    have h := refAddW (q * d) R hwR w
    rw [p4, show addB (q * d % MM) (R % MM) = false by
      rw [Int.emod_eq_of_lt p5 (by omega), Int.emod_eq_of_lt p6 (by omega)]; exact decide_eq_false (by omega)] at h
    exact h
  have dz : ¬ d = 0 := by omega
  have db : (d == 0) = false := by simpa using dz
  have hdR : decide (d ≤ R) = false := decide_eq_false (by omega)
  have eqA := eqlr (hi A) (lo A) (hi A) (lo A)
  have HP := Lib.hid p1
  have HU := Lib.hid hU
  clear hU p1 p2 p3 p4 p5 p6 p7 p8 p9 hwR hq hR A0 A1 d0 d1 dz
  have hwH := word_hi q
  have hwL := word_lo q
  generalize q * d = T at *
  go_enter Try.func4, Try.ntmps4
  have A0 : Row (w.alloc (.cells #[.int .u64 (hi A), .int .u64 (lo A)] 31)) w.heap.size #[.int .u64 (hi A), .int .u64 (lo A)] 31 := Row.new w _ _
  have hB : Below w.heap.size w (w.alloc (.cells #[.int .u64 (hi A), .int .u64 (lo A)] 31)) := (by repeat (first | exact Below.refl _ _ | assumption | (with_reducible refine Below.setCell ?_ ?h _; case h => first | omega | (simp; done) | (simp; omega)) | (with_reducible refine Below.alloc ?_ ?h _; case h => first | omega | (simp; done) | (simp; omega)) | (with_reducible refine Below.drew ?_) | (with_reducible refine Below.trans ?_ (hb4.mono ?h); case h => first | omega | (simp; done) | (simp; omega)) | (with_reducible refine Below.trans ?_ (hb3.mono ?h); case h => first | omega | (simp; done) | (simp; omega)) | (with_reducible refine Below.trans ?_ (hb2.mono ?h); case h => first | omega | (simp; done) | (simp; omega)) | (with_reducible refine Below.trans ?_ (hb.mono ?h); case h => first | omega | (simp; done) | (simp; omega)) | (with_reducible refine Below.trans ?_ (hb0.mono ?h); case h => first | omega | (simp; done) | (simp; omega))))
  go_wp2_with fail
  refine (c1 _).mono ?_; rintro e w1 ⟨rfl, hb1⟩
  replace A0 := A0.later hb1
  have hb := below_step hB hb1
  clear hb1 c1 hB
  go_wp2_with fail
  have d0 : (w1.alloc (.cells #[.int .u64 (hi q), .int .u64 (lo q)] 31)).cell? ⟨w1.heap.size, 0, none⟩ = some (.int .u64 (hi q)) := by simp [go_sem]
  have d1 : (w1.alloc (.cells #[.int .u64 (hi q), .int .u64 (lo q)] 31)).cell? ⟨w1.heap.size, 1, none⟩ = some (.int .u64 (lo q)) := by simp [go_sem]
  replace A0 := A0.alloc (.cells #[.int .u64 (hi q), .int .u64 (lo q)] 31)
  replace hb := hb.alloc hb.size (.cells #[.int .u64 (hi q), .int .u64 (lo q)] 31)
  generalize w1.alloc (.cells #[.int .u64 (hi q), .int .u64 (lo q)] 31) = w2 at *
  generalize w1.heap.size = g5 at *
  have a0 := (A0.cell 0).trans (show _ = some (Value.int .u64 (hi A)) from rfl)
  have a1 := (A0.cell 1).trans (show _ = some (Value.int .u64 (lo A)) from rfl)
  clear A0
  go_cut [7, 8] (fun x y wx => ∃ g7 g8 : Nat, x = .pointer (some ⟨g7, 0, none⟩) ∧ y = .pointer (some ⟨g8, 0, none⟩) ∧ Row wx g7 #[.int .u64 (hi (hi q * d)), .int .u64 (lo (hi q * d))] 34 ∧ Row wx g8 #[.int .u64 (hi (lo q * d)), .int .u64 (lo (lo q * d))] 34 ∧ wx.cell? ⟨g5, 0, none⟩ = some (.int .u64 (hi q)) ∧ wx.cell? ⟨g5, 1, none⟩ = some (.int .u64 (lo q)) ∧ wx.cell? ⟨w.heap.size, 0, none⟩ = some (.int .u64 (hi A)) ∧ wx.cell? ⟨w.heap.size, 1, none⟩ = some (.int .u64 (lo A)) ∧ Below w.heap.size w wx)
  case first =>
    refine region_any (S := (fun w' => w'.cell? ⟨g5, 0, none⟩ = some (.int .u64 (hi q)) ∧ w'.cell? ⟨g5, 1, none⟩ = some (.int .u64 (lo q)) ∧ w'.cell? ⟨w.heap.size, 0, none⟩ = some (.int .u64 (hi A)) ∧ w'.cell? ⟨w.heap.size, 1, none⟩ = some (.int .u64 (lo A)) ∧ Below w.heap.size w w')) (by kernel_rfl) ?hSr1_ (fun wq hHeld => ?_)
    case hSr1_ => (first | exact ⟨d0, d1, a0, a1, hb.drew⟩ | exact ⟨cell_later hq hHeld.1, cell_later hq hHeld.2.1, cell_later hq hHeld.2.2.1, cell_later hq hHeld.2.2.2.1, below_step hHeld.2.2.2.2 hq⟩)
    refine wpAnyH_take (i := 0) (oi := { dst := some 31, op := Go.Op.fieldAddr 31 (Go.Operand.tmp 5) 0, type := 0, pos := _, after := #[], guard := none }) (v := ?vr1_1_0) rfl (by kernel_rfl) (by kernel_rfl) (by kernel_rfl) (fun _ _ _ h => h) (Or.inl ⟨by rfl, ?yr1_1_0⟩) hHeld ?_
    case yr1_1_0 => ((intro w hSw; (try dsimp only at hSw); go_simp) <;> with_reducible rfl)
    (try simp only [Act.put, List.setIfInBounds_toArray, List.set_cons_zero, List.set_cons_succ])
    refine wpAnyH_take (i := 1) (oi := { dst := some 32, op := Go.Op.load 22 (Go.Operand.tmp 31), type := 22, pos := _, after := #[{ on := 0, ground := Go.Ground.data }], guard := none }) (v := ?vr1_2_1) rfl (by kernel_rfl) (by kernel_rfl) (by kernel_rfl) (fun _ _ _ h => h) (Or.inl ⟨by rfl, ?yr1_2_1⟩) hHeld ?_
    case yr1_2_1 => ((intro w hSw; (try dsimp only at hSw); go_simp) <;> with_reducible rfl)
    (try simp only [Act.put, List.setIfInBounds_toArray, List.set_cons_zero, List.set_cons_succ])
    refine wpAnyH_take (i := 2) (oi := { dst := some 33, op := Go.Op.move (Go.Operand.tmp 1), type := 22, pos := _, after := #[], guard := none }) (v := ?vr1_3_2) rfl (by kernel_rfl) (by kernel_rfl) (by kernel_rfl) (fun _ _ _ h => h) (Or.inl ⟨by rfl, ?yr1_3_2⟩) hHeld ?_
    case yr1_3_2 => ((intro w hSw; (try dsimp only at hSw); go_simp) <;> with_reducible rfl)
    (try simp only [Act.put, List.setIfInBounds_toArray, List.set_cons_zero, List.set_cons_succ])
    refine wpAnyH_take (i := 4) (oi := { dst := some 35, op := Go.Op.fieldAddr 31 (Go.Operand.tmp 5) 1, type := 0, pos := _, after := #[], guard := none }) (v := ?vr1_4_4) rfl (by kernel_rfl) (by kernel_rfl) (by kernel_rfl) (fun _ _ _ h => h) (Or.inl ⟨by rfl, ?yr1_4_4⟩) hHeld ?_
    case yr1_4_4 => ((intro w hSw; (try dsimp only at hSw); go_simp) <;> with_reducible rfl)
    (try simp only [Act.put, List.setIfInBounds_toArray, List.set_cons_zero, List.set_cons_succ])
    refine wpAnyH_take (i := 5) (oi := { dst := some 36, op := Go.Op.load 22 (Go.Operand.tmp 35), type := 22, pos := _, after := #[{ on := 4, ground := Go.Ground.data }], guard := none }) (v := ?vr1_5_5) rfl (by kernel_rfl) (by kernel_rfl) (by kernel_rfl) (fun _ _ _ h => h) (Or.inl ⟨by rfl, ?yr1_5_5⟩) hHeld ?_
    case yr1_5_5 => ((intro w hSw; (try dsimp only at hSw); go_simp) <;> with_reducible rfl)
    (try simp only [Act.put, List.setIfInBounds_toArray, List.set_cons_zero, List.set_cons_succ])
    refine wpAnyH_take (i := 6) (oi := { dst := some 37, op := Go.Op.move (Go.Operand.tmp 1), type := 22, pos := _, after := #[], guard := none }) (v := ?vr1_6_6) rfl (by kernel_rfl) (by kernel_rfl) (by kernel_rfl) (fun _ _ _ h => h) (Or.inl ⟨by rfl, ?yr1_6_6⟩) hHeld ?_
    case yr1_6_6 => ((intro w hSw; (try dsimp only at hSw); go_simp) <;> with_reducible rfl)
    (try simp only [Act.put, List.setIfInBounds_toArray, List.set_cons_zero, List.set_cons_succ])
    refine wpAnyH_ready (rs := [3, 8, 9]) (by kernel_rfl) (by simp) ?_
    refine AllReadyH.cons (o := { dst := some 34, op := Go.Op.call { callee := Go.Callee.value (Go.Operand.func 22), args := #[Go.Operand.tmp 32, Go.Operand.tmp 33], argTypes := #[22, 22] }, type := 34, pos := _, after := #[{ on := 1, ground := Go.Ground.data }, { on := 2, ground := Go.Ground.data }], guard := none }) rfl (fun K hK => ?_) ?_
    · go_simp
      ((refine (refMul_t _ _ (by assumption) (by assumption) _).mono ?_); (rintro e wn ⟨rfl, hq⟩); (try replace R7 := R7.later hq); (try replace R8 := R8.later hq))
      go_wp2_with fail
      refine hK.out _ _ ?hSr1_7_3 (fun hHeld2 => ?_)
      case hSr1_7_3 => (first | exact ⟨d0, d1, a0, a1, hb.drew⟩ | exact ⟨cell_later hq hHeld.1, cell_later hq hHeld.2.1, cell_later hq hHeld.2.2.1, cell_later hq hHeld.2.2.2.1, below_step hHeld.2.2.2.2 hq⟩)
      clear hK K hHeld
      have hHeld := hHeld2
      clear hHeld2
      rename World => wq
      (try simp only [Act.put, List.setIfInBounds_toArray, List.set_cons_zero, List.set_cons_succ])
      refine wpAnyH_ready (rs := [7, 8, 9]) (by kernel_rfl) (by simp) ?_
      refine AllReadyH.cons (o := { dst := some 38, op := Go.Op.call { callee := Go.Callee.value (Go.Operand.func 22), args := #[Go.Operand.tmp 36, Go.Operand.tmp 37], argTypes := #[22, 22] }, type := 34, pos := _, after := #[{ on := 5, ground := Go.Ground.data }, { on := 6, ground := Go.Ground.data }, { on := 3, ground := Go.Ground.chain }], guard := none }) rfl (fun K hK => ?_) ?_
      · go_simp
        ((refine (refMul_t _ _ (by assumption) (by assumption) _).mono ?_); (rintro e wn ⟨rfl, hq⟩); (try replace R7 := R7.later hq); (try replace R8 := R8.later hq))
        go_wp2_with fail
        refine hK.out _ _ ?hSr1_8_7 (fun hHeld2 => ?_)
        case hSr1_8_7 => (first | exact ⟨d0, d1, a0, a1, hb.drew⟩ | exact ⟨cell_later hq hHeld.1, cell_later hq hHeld.2.1, cell_later hq hHeld.2.2.1, cell_later hq hHeld.2.2.2.1, below_step hHeld.2.2.2.2 hq⟩)
        clear hK K hHeld
        have hHeld := hHeld2
        clear hHeld2
        rename World => wq
        (try simp only [Act.put, List.setIfInBounds_toArray, List.set_cons_zero, List.set_cons_succ])
        refine wpAnyH_ready (rs := [8, 9]) (by kernel_rfl) (by simp) ?_
        refine AllReadyH.cons (o := { dst := some 7, op := Go.Op.alloc 34, type := 0, pos := _, after := #[], guard := none }) rfl (fun K hK => ?_) ?_
        · (go_simp; (have m7 : w.heap.size ≤ wq.heap.size := hHeld.2.2.2.2.size); (have u7 := Nat.ne_of_lt (World.block_lt_of_cell? _ _ hHeld.1)); (have v7 := Nat.ne_of_lt (World.block_lt_of_cell? _ _ hHeld.2.2.1)); (try have hne := Nat.ne_of_lt R8.lt); (have R7 := Row.new wq #[.int .u64 0, .int .u64 0] 34); (have hq : Below wq.heap.size wq (wq.alloc (.cells #[.int .u64 0, .int .u64 0] 34)) := (Below.refl _ _).alloc (Nat.le_refl _) _); (have s0 := cell_later hq hHeld.1); (have s1 := cell_later hq hHeld.2.1); (have s2 := cell_later hq hHeld.2.2.1); (have s3 := cell_later hq hHeld.2.2.2.1); (have s4 := below_step hHeld.2.2.2.2 hq); (try replace R8 := R8.later hq); clear hq; generalize wq.alloc (.cells #[.int .u64 0, .int .u64 0] 34) = wn at *; generalize wq.heap.size = g7 at *)
          refine hK.out _ _ ?hSr1_9_8 (fun hHeld2 => ?_)
          case hSr1_9_8 => (exact ⟨s0, s1, s2, s3, s4⟩)
          clear hK K hHeld
          have hHeld := hHeld2
          clear hHeld2
          rename World => wq
          (try simp only [Act.put, List.setIfInBounds_toArray, List.set_cons_zero, List.set_cons_succ])
          refine wpAnyH_ready (rs := [9]) (by kernel_rfl) (by simp) ?_
          refine AllReadyH.cons (o := { dst := some 8, op := Go.Op.alloc 34, type := 0, pos := _, after := #[], guard := none }) rfl (fun K hK => ?_) AllReadyH.nil
          (go_simp; (have m8 : w.heap.size ≤ wq.heap.size := hHeld.2.2.2.2.size); (have u8 := Nat.ne_of_lt (World.block_lt_of_cell? _ _ hHeld.1)); (have v8 := Nat.ne_of_lt (World.block_lt_of_cell? _ _ hHeld.2.2.1)); (try have hne := Nat.ne_of_lt R7.lt); (have R8 := Row.new wq #[.int .u64 0, .int .u64 0] 34); (have hq : Below wq.heap.size wq (wq.alloc (.cells #[.int .u64 0, .int .u64 0] 34)) := (Below.refl _ _).alloc (Nat.le_refl _) _); (have s0 := cell_later hq hHeld.1); (have s1 := cell_later hq hHeld.2.1); (have s2 := cell_later hq hHeld.2.2.1); (have s3 := cell_later hq hHeld.2.2.2.1); (have s4 := below_step hHeld.2.2.2.2 hq); (try replace R7 := R7.later hq); clear hq; generalize wq.alloc (.cells #[.int .u64 0, .int .u64 0] 34) = wn at *; generalize wq.heap.size = g8 at *)
          refine hK.out _ _ ?hSr1_10_9 (fun hHeld2 => ?_)
          case hSr1_10_9 => (exact ⟨s0, s1, s2, s3, s4⟩)
          clear hK K hHeld
          have hHeld := hHeld2
          clear hHeld2
          rename World => wq
          (try simp only [Act.put, List.setIfInBounds_toArray, List.set_cons_zero, List.set_cons_succ])
          refine wpAnyH_ready (rs := [10]) (by kernel_rfl) (by simp) ?_
          refine AllReadyH.cons (o := { dst := none, op := Go.Op.store 34 (Go.Operand.tmp 7) (Go.Operand.tmp 34), type := 0, pos := _, after := #[{ on := 8, ground := Go.Ground.data }, { on := 3, ground := Go.Ground.data }, { on := 7, ground := Go.Ground.chain }, { on := 0, ground := Go.Ground.phase }, { on := 1, ground := Go.Ground.phase }, { on := 2, ground := Go.Ground.phase }, { on := 3, ground := Go.Ground.phase }, { on := 4, ground := Go.Ground.textOnly Go.Departure.lateStores }, { on := 5, ground := Go.Ground.textOnly Go.Departure.lateStores }, { on := 6, ground := Go.Ground.textOnly Go.Departure.lateStores }, { on := 7, ground := Go.Ground.textOnly Go.Departure.lateStoresUnsure }, { on := 8, ground := Go.Ground.phase }, { on := 9, ground := Go.Ground.phase }], guard := none }) rfl (fun K hK => ?_) AllReadyH.nil
          ((have c0 := R7.cell 0); (have c1 := R7.cell 1); (simp at c0 c1); (have f0 := R7.frozen 0); (have f1 := R7.frozen 1); go_simp; clear c0 c1 f0 f1; (have Q7 := (R7.set 0 (.int .u64 (hi (hi q * d)))).set 1 (.int .u64 (lo (hi q * d)))); (simp at Q7); clear R7; (try replace R8 := (R8.set_far ⟨g7, 0, none⟩ (.int .u64 (hi (hi q * d))) (by first | exact hne | exact hne.symm)).set_far ⟨g7, 1, none⟩ (.int .u64 (lo (hi q * d))) (by first | exact hne | exact hne.symm)); (try replace Q8 := (Q8.set_far ⟨g7, 0, none⟩ (.int .u64 (hi (hi q * d))) (by first | exact hne | exact hne.symm)).set_far ⟨g7, 1, none⟩ (.int .u64 (lo (hi q * d))) (by first | exact hne | exact hne.symm)); (have s0 : ((wq.setCell ⟨g7, 0, none⟩ (.int .u64 (hi (hi q * d)))).setCell ⟨g7, 1, none⟩ (.int .u64 (lo (hi q * d)))).cell? ⟨g5, 0, none⟩ = some (.int .u64 (hi q)) := (World.cell?_setCell_far _ _ _ _ u7.symm).trans ((World.cell?_setCell_far _ _ _ _ u7.symm).trans hHeld.1)); (have s1 : ((wq.setCell ⟨g7, 0, none⟩ (.int .u64 (hi (hi q * d)))).setCell ⟨g7, 1, none⟩ (.int .u64 (lo (hi q * d)))).cell? ⟨g5, 1, none⟩ = some (.int .u64 (lo q)) := (World.cell?_setCell_far _ _ _ _ u7.symm).trans ((World.cell?_setCell_far _ _ _ _ u7.symm).trans hHeld.2.1)); (have s2 : ((wq.setCell ⟨g7, 0, none⟩ (.int .u64 (hi (hi q * d)))).setCell ⟨g7, 1, none⟩ (.int .u64 (lo (hi q * d)))).cell? ⟨w.heap.size, 0, none⟩ = some (.int .u64 (hi A)) := (World.cell?_setCell_far _ _ _ _ v7.symm).trans ((World.cell?_setCell_far _ _ _ _ v7.symm).trans hHeld.2.2.1)); (have s3 : ((wq.setCell ⟨g7, 0, none⟩ (.int .u64 (hi (hi q * d)))).setCell ⟨g7, 1, none⟩ (.int .u64 (lo (hi q * d)))).cell? ⟨w.heap.size, 1, none⟩ = some (.int .u64 (lo A)) := (World.cell?_setCell_far _ _ _ _ v7.symm).trans ((World.cell?_setCell_far _ _ _ _ v7.symm).trans hHeld.2.2.2.1)); (have s4 := (hHeld.2.2.2.2.setCell (p := ⟨g7, 0, none⟩) m7 (.int .u64 (hi (hi q * d)))).setCell (p := ⟨g7, 1, none⟩) m7 (.int .u64 (lo (hi q * d)))); generalize ((wq.setCell ⟨g7, 0, none⟩ (.int .u64 (hi (hi q * d)))).setCell ⟨g7, 1, none⟩ (.int .u64 (lo (hi q * d)))) = wn at *)
          refine hK.out _ _ ?hSr1_11_10 (fun hHeld2 => ?_)
          case hSr1_11_10 => (exact ⟨s0, s1, s2, s3, s4⟩)
          clear hK K hHeld
          have hHeld := hHeld2
          clear hHeld2
          rename World => wq
          (try simp only [Act.put, List.setIfInBounds_toArray, List.set_cons_zero, List.set_cons_succ])
          refine wpAnyH_ready (rs := [11]) (by kernel_rfl) (by simp) ?_
          refine AllReadyH.cons (o := { dst := none, op := Go.Op.store 34 (Go.Operand.tmp 8) (Go.Operand.tmp 38), type := 0, pos := _, after := #[{ on := 9, ground := Go.Ground.data }, { on := 7, ground := Go.Ground.data }, { on := 10, ground := Go.Ground.chain }, { on := 0, ground := Go.Ground.phase }, { on := 1, ground := Go.Ground.phase }, { on := 2, ground := Go.Ground.phase }, { on := 3, ground := Go.Ground.phase }, { on := 4, ground := Go.Ground.phase }, { on := 5, ground := Go.Ground.phase }, { on := 6, ground := Go.Ground.phase }, { on := 7, ground := Go.Ground.phase }, { on := 8, ground := Go.Ground.phase }, { on := 9, ground := Go.Ground.phase }, { on := 10, ground := Go.Ground.phase }], guard := none }) rfl (fun K hK => ?_) AllReadyH.nil
          ((have c0 := R8.cell 0); (have c1 := R8.cell 1); (simp at c0 c1); (have f0 := R8.frozen 0); (have f1 := R8.frozen 1); go_simp; clear c0 c1 f0 f1; (have Q8 := (R8.set 0 (.int .u64 (hi (lo q * d)))).set 1 (.int .u64 (lo (lo q * d)))); (simp at Q8); clear R8; (try replace R7 := (R7.set_far ⟨g8, 0, none⟩ (.int .u64 (hi (lo q * d))) (by first | exact hne | exact hne.symm)).set_far ⟨g8, 1, none⟩ (.int .u64 (lo (lo q * d))) (by first | exact hne | exact hne.symm)); (try replace Q7 := (Q7.set_far ⟨g8, 0, none⟩ (.int .u64 (hi (lo q * d))) (by first | exact hne | exact hne.symm)).set_far ⟨g8, 1, none⟩ (.int .u64 (lo (lo q * d))) (by first | exact hne | exact hne.symm)); (have s0 : ((wq.setCell ⟨g8, 0, none⟩ (.int .u64 (hi (lo q * d)))).setCell ⟨g8, 1, none⟩ (.int .u64 (lo (lo q * d)))).cell? ⟨g5, 0, none⟩ = some (.int .u64 (hi q)) := (World.cell?_setCell_far _ _ _ _ u8.symm).trans ((World.cell?_setCell_far _ _ _ _ u8.symm).trans hHeld.1)); (have s1 : ((wq.setCell ⟨g8, 0, none⟩ (.int .u64 (hi (lo q * d)))).setCell ⟨g8, 1, none⟩ (.int .u64 (lo (lo q * d)))).cell? ⟨g5, 1, none⟩ = some (.int .u64 (lo q)) := (World.cell?_setCell_far _ _ _ _ u8.symm).trans ((World.cell?_setCell_far _ _ _ _ u8.symm).trans hHeld.2.1)); (have s2 : ((wq.setCell ⟨g8, 0, none⟩ (.int .u64 (hi (lo q * d)))).setCell ⟨g8, 1, none⟩ (.int .u64 (lo (lo q * d)))).cell? ⟨w.heap.size, 0, none⟩ = some (.int .u64 (hi A)) := (World.cell?_setCell_far _ _ _ _ v8.symm).trans ((World.cell?_setCell_far _ _ _ _ v8.symm).trans hHeld.2.2.1)); (have s3 : ((wq.setCell ⟨g8, 0, none⟩ (.int .u64 (hi (lo q * d)))).setCell ⟨g8, 1, none⟩ (.int .u64 (lo (lo q * d)))).cell? ⟨w.heap.size, 1, none⟩ = some (.int .u64 (lo A)) := (World.cell?_setCell_far _ _ _ _ v8.symm).trans ((World.cell?_setCell_far _ _ _ _ v8.symm).trans hHeld.2.2.2.1)); (have s4 := (hHeld.2.2.2.2.setCell (p := ⟨g8, 0, none⟩) m8 (.int .u64 (hi (lo q * d)))).setCell (p := ⟨g8, 1, none⟩) m8 (.int .u64 (lo (lo q * d)))); generalize ((wq.setCell ⟨g8, 0, none⟩ (.int .u64 (hi (lo q * d)))).setCell ⟨g8, 1, none⟩ (.int .u64 (lo (lo q * d)))) = wn at *)
          refine hK.out _ _ ?hSr1_12_11 (fun hHeld2 => ?_)
          case hSr1_12_11 => (exact ⟨s0, s1, s2, s3, s4⟩)
          clear hK K hHeld
          have hHeld := hHeld2
          clear hHeld2
          rename World => wq
          (try simp only [Act.put, List.setIfInBounds_toArray, List.set_cons_zero, List.set_cons_succ])
          refine wpAnyH_done (by kernel_rfl) ?_ _
          (go_wp2_with fail; go_meet; exact ⟨_, _, rfl, rfl, Q7, Q8, hHeld⟩)
        refine AllReadyH.cons (o := { dst := some 8, op := Go.Op.alloc 34, type := 0, pos := _, after := #[], guard := none }) rfl (fun K hK => ?_) AllReadyH.nil
        · (go_simp; (have m8 : w.heap.size ≤ wq.heap.size := hHeld.2.2.2.2.size); (have u8 := Nat.ne_of_lt (World.block_lt_of_cell? _ _ hHeld.1)); (have v8 := Nat.ne_of_lt (World.block_lt_of_cell? _ _ hHeld.2.2.1)); (try have hne := Nat.ne_of_lt R7.lt); (have R8 := Row.new wq #[.int .u64 0, .int .u64 0] 34); (have hq : Below wq.heap.size wq (wq.alloc (.cells #[.int .u64 0, .int .u64 0] 34)) := (Below.refl _ _).alloc (Nat.le_refl _) _); (have s0 := cell_later hq hHeld.1); (have s1 := cell_later hq hHeld.2.1); (have s2 := cell_later hq hHeld.2.2.1); (have s3 := cell_later hq hHeld.2.2.2.1); (have s4 := below_step hHeld.2.2.2.2 hq); (try replace R7 := R7.later hq); clear hq; generalize wq.alloc (.cells #[.int .u64 0, .int .u64 0] 34) = wn at *; generalize wq.heap.size = g8 at *)
          refine hK.out _ _ ?hSr1_13_9 (fun hHeld2 => ?_)
          case hSr1_13_9 => (exact ⟨s0, s1, s2, s3, s4⟩)
          clear hK K hHeld
          have hHeld := hHeld2
          clear hHeld2
          rename World => wq
          (try simp only [Act.put, List.setIfInBounds_toArray, List.set_cons_zero, List.set_cons_succ])
          refine wpAnyH_ready (rs := [8]) (by kernel_rfl) (by simp) ?_
          refine AllReadyH.cons (o := { dst := some 7, op := Go.Op.alloc 34, type := 0, pos := _, after := #[], guard := none }) rfl (fun K hK => ?_) AllReadyH.nil
          (go_simp; (have m7 : w.heap.size ≤ wq.heap.size := hHeld.2.2.2.2.size); (have u7 := Nat.ne_of_lt (World.block_lt_of_cell? _ _ hHeld.1)); (have v7 := Nat.ne_of_lt (World.block_lt_of_cell? _ _ hHeld.2.2.1)); (try have hne := Nat.ne_of_lt R8.lt); (have R7 := Row.new wq #[.int .u64 0, .int .u64 0] 34); (have hq : Below wq.heap.size wq (wq.alloc (.cells #[.int .u64 0, .int .u64 0] 34)) := (Below.refl _ _).alloc (Nat.le_refl _) _); (have s0 := cell_later hq hHeld.1); (have s1 := cell_later hq hHeld.2.1); (have s2 := cell_later hq hHeld.2.2.1); (have s3 := cell_later hq hHeld.2.2.2.1); (have s4 := below_step hHeld.2.2.2.2 hq); (try replace R8 := R8.later hq); clear hq; generalize wq.alloc (.cells #[.int .u64 0, .int .u64 0] 34) = wn at *; generalize wq.heap.size = g7 at *)
          refine hK.out _ _ ?hSr1_14_8 (fun hHeld2 => ?_)
          case hSr1_14_8 => (exact ⟨s0, s1, s2, s3, s4⟩)
          clear hK K hHeld
          have hHeld := hHeld2
          clear hHeld2
          rename World => wq
          (try simp only [Act.put, List.setIfInBounds_toArray, List.set_cons_zero, List.set_cons_succ])
          refine wpAnyH_ready (rs := [10]) (by kernel_rfl) (by simp) ?_
          refine AllReadyH.cons (o := { dst := none, op := Go.Op.store 34 (Go.Operand.tmp 7) (Go.Operand.tmp 34), type := 0, pos := _, after := #[{ on := 8, ground := Go.Ground.data }, { on := 3, ground := Go.Ground.data }, { on := 7, ground := Go.Ground.chain }, { on := 0, ground := Go.Ground.phase }, { on := 1, ground := Go.Ground.phase }, { on := 2, ground := Go.Ground.phase }, { on := 3, ground := Go.Ground.phase }, { on := 4, ground := Go.Ground.textOnly Go.Departure.lateStores }, { on := 5, ground := Go.Ground.textOnly Go.Departure.lateStores }, { on := 6, ground := Go.Ground.textOnly Go.Departure.lateStores }, { on := 7, ground := Go.Ground.textOnly Go.Departure.lateStoresUnsure }, { on := 8, ground := Go.Ground.phase }, { on := 9, ground := Go.Ground.phase }], guard := none }) rfl (fun K hK => ?_) AllReadyH.nil
          ((have c0 := R7.cell 0); (have c1 := R7.cell 1); (simp at c0 c1); (have f0 := R7.frozen 0); (have f1 := R7.frozen 1); go_simp; clear c0 c1 f0 f1; (have Q7 := (R7.set 0 (.int .u64 (hi (hi q * d)))).set 1 (.int .u64 (lo (hi q * d)))); (simp at Q7); clear R7; (try replace R8 := (R8.set_far ⟨g7, 0, none⟩ (.int .u64 (hi (hi q * d))) (by first | exact hne | exact hne.symm)).set_far ⟨g7, 1, none⟩ (.int .u64 (lo (hi q * d))) (by first | exact hne | exact hne.symm)); (try replace Q8 := (Q8.set_far ⟨g7, 0, none⟩ (.int .u64 (hi (hi q * d))) (by first | exact hne | exact hne.symm)).set_far ⟨g7, 1, none⟩ (.int .u64 (lo (hi q * d))) (by first | exact hne | exact hne.symm)); (have s0 : ((wq.setCell ⟨g7, 0, none⟩ (.int .u64 (hi (hi q * d)))).setCell ⟨g7, 1, none⟩ (.int .u64 (lo (hi q * d)))).cell? ⟨g5, 0, none⟩ = some (.int .u64 (hi q)) := (World.cell?_setCell_far _ _ _ _ u7.symm).trans ((World.cell?_setCell_far _ _ _ _ u7.symm).trans hHeld.1)); (have s1 : ((wq.setCell ⟨g7, 0, none⟩ (.int .u64 (hi (hi q * d)))).setCell ⟨g7, 1, none⟩ (.int .u64 (lo (hi q * d)))).cell? ⟨g5, 1, none⟩ = some (.int .u64 (lo q)) := (World.cell?_setCell_far _ _ _ _ u7.symm).trans ((World.cell?_setCell_far _ _ _ _ u7.symm).trans hHeld.2.1)); (have s2 : ((wq.setCell ⟨g7, 0, none⟩ (.int .u64 (hi (hi q * d)))).setCell ⟨g7, 1, none⟩ (.int .u64 (lo (hi q * d)))).cell? ⟨w.heap.size, 0, none⟩ = some (.int .u64 (hi A)) := (World.cell?_setCell_far _ _ _ _ v7.symm).trans ((World.cell?_setCell_far _ _ _ _ v7.symm).trans hHeld.2.2.1)); (have s3 : ((wq.setCell ⟨g7, 0, none⟩ (.int .u64 (hi (hi q * d)))).setCell ⟨g7, 1, none⟩ (.int .u64 (lo (hi q * d)))).cell? ⟨w.heap.size, 1, none⟩ = some (.int .u64 (lo A)) := (World.cell?_setCell_far _ _ _ _ v7.symm).trans ((World.cell?_setCell_far _ _ _ _ v7.symm).trans hHeld.2.2.2.1)); (have s4 := (hHeld.2.2.2.2.setCell (p := ⟨g7, 0, none⟩) m7 (.int .u64 (hi (hi q * d)))).setCell (p := ⟨g7, 1, none⟩) m7 (.int .u64 (lo (hi q * d)))); generalize ((wq.setCell ⟨g7, 0, none⟩ (.int .u64 (hi (hi q * d)))).setCell ⟨g7, 1, none⟩ (.int .u64 (lo (hi q * d)))) = wn at *)
          refine hK.out _ _ ?hSr1_15_10 (fun hHeld2 => ?_)
          case hSr1_15_10 => (exact ⟨s0, s1, s2, s3, s4⟩)
          clear hK K hHeld
          have hHeld := hHeld2
          clear hHeld2
          rename World => wq
          (try simp only [Act.put, List.setIfInBounds_toArray, List.set_cons_zero, List.set_cons_succ])
          refine wpAnyH_ready (rs := [11]) (by kernel_rfl) (by simp) ?_
          refine AllReadyH.cons (o := { dst := none, op := Go.Op.store 34 (Go.Operand.tmp 8) (Go.Operand.tmp 38), type := 0, pos := _, after := #[{ on := 9, ground := Go.Ground.data }, { on := 7, ground := Go.Ground.data }, { on := 10, ground := Go.Ground.chain }, { on := 0, ground := Go.Ground.phase }, { on := 1, ground := Go.Ground.phase }, { on := 2, ground := Go.Ground.phase }, { on := 3, ground := Go.Ground.phase }, { on := 4, ground := Go.Ground.phase }, { on := 5, ground := Go.Ground.phase }, { on := 6, ground := Go.Ground.phase }, { on := 7, ground := Go.Ground.phase }, { on := 8, ground := Go.Ground.phase }, { on := 9, ground := Go.Ground.phase }, { on := 10, ground := Go.Ground.phase }], guard := none }) rfl (fun K hK => ?_) AllReadyH.nil
          ((have c0 := R8.cell 0); (have c1 := R8.cell 1); (simp at c0 c1); (have f0 := R8.frozen 0); (have f1 := R8.frozen 1); go_simp; clear c0 c1 f0 f1; (have Q8 := (R8.set 0 (.int .u64 (hi (lo q * d)))).set 1 (.int .u64 (lo (lo q * d)))); (simp at Q8); clear R8; (try replace R7 := (R7.set_far ⟨g8, 0, none⟩ (.int .u64 (hi (lo q * d))) (by first | exact hne | exact hne.symm)).set_far ⟨g8, 1, none⟩ (.int .u64 (lo (lo q * d))) (by first | exact hne | exact hne.symm)); (try replace Q7 := (Q7.set_far ⟨g8, 0, none⟩ (.int .u64 (hi (lo q * d))) (by first | exact hne | exact hne.symm)).set_far ⟨g8, 1, none⟩ (.int .u64 (lo (lo q * d))) (by first | exact hne | exact hne.symm)); (have s0 : ((wq.setCell ⟨g8, 0, none⟩ (.int .u64 (hi (lo q * d)))).setCell ⟨g8, 1, none⟩ (.int .u64 (lo (lo q * d)))).cell? ⟨g5, 0, none⟩ = some (.int .u64 (hi q)) := (World.cell?_setCell_far _ _ _ _ u8.symm).trans ((World.cell?_setCell_far _ _ _ _ u8.symm).trans hHeld.1)); (have s1 : ((wq.setCell ⟨g8, 0, none⟩ (.int .u64 (hi (lo q * d)))).setCell ⟨g8, 1, none⟩ (.int .u64 (lo (lo q * d)))).cell? ⟨g5, 1, none⟩ = some (.int .u64 (lo q)) := (World.cell?_setCell_far _ _ _ _ u8.symm).trans ((World.cell?_setCell_far _ _ _ _ u8.symm).trans hHeld.2.1)); (have s2 : ((wq.setCell ⟨g8, 0, none⟩ (.int .u64 (hi (lo q * d)))).setCell ⟨g8, 1, none⟩ (.int .u64 (lo (lo q * d)))).cell? ⟨w.heap.size, 0, none⟩ = some (.int .u64 (hi A)) := (World.cell?_setCell_far _ _ _ _ v8.symm).trans ((World.cell?_setCell_far _ _ _ _ v8.symm).trans hHeld.2.2.1)); (have s3 : ((wq.setCell ⟨g8, 0, none⟩ (.int .u64 (hi (lo q * d)))).setCell ⟨g8, 1, none⟩ (.int .u64 (lo (lo q * d)))).cell? ⟨w.heap.size, 1, none⟩ = some (.int .u64 (lo A)) := (World.cell?_setCell_far _ _ _ _ v8.symm).trans ((World.cell?_setCell_far _ _ _ _ v8.symm).trans hHeld.2.2.2.1)); (have s4 := (hHeld.2.2.2.2.setCell (p := ⟨g8, 0, none⟩) m8 (.int .u64 (hi (lo q * d)))).setCell (p := ⟨g8, 1, none⟩) m8 (.int .u64 (lo (lo q * d)))); generalize ((wq.setCell ⟨g8, 0, none⟩ (.int .u64 (hi (lo q * d)))).setCell ⟨g8, 1, none⟩ (.int .u64 (lo (lo q * d)))) = wn at *)
          refine hK.out _ _ ?hSr1_16_11 (fun hHeld2 => ?_)
          case hSr1_16_11 => (exact ⟨s0, s1, s2, s3, s4⟩)
          clear hK K hHeld
          have hHeld := hHeld2
          clear hHeld2
          rename World => wq
          (try simp only [Act.put, List.setIfInBounds_toArray, List.set_cons_zero, List.set_cons_succ])
          refine wpAnyH_done (by kernel_rfl) ?_ _
          (go_wp2_with fail; go_meet; exact ⟨_, _, rfl, rfl, Q7, Q8, hHeld⟩)
      refine AllReadyH.cons (o := { dst := some 7, op := Go.Op.alloc 34, type := 0, pos := _, after := #[], guard := none }) rfl (fun K hK => ?_) ?_
      · (go_simp; (have m7 : w.heap.size ≤ wq.heap.size := hHeld.2.2.2.2.size); (have u7 := Nat.ne_of_lt (World.block_lt_of_cell? _ _ hHeld.1)); (have v7 := Nat.ne_of_lt (World.block_lt_of_cell? _ _ hHeld.2.2.1)); (try have hne := Nat.ne_of_lt R8.lt); (have R7 := Row.new wq #[.int .u64 0, .int .u64 0] 34); (have hq : Below wq.heap.size wq (wq.alloc (.cells #[.int .u64 0, .int .u64 0] 34)) := (Below.refl _ _).alloc (Nat.le_refl _) _); (have s0 := cell_later hq hHeld.1); (have s1 := cell_later hq hHeld.2.1); (have s2 := cell_later hq hHeld.2.2.1); (have s3 := cell_later hq hHeld.2.2.2.1); (have s4 := below_step hHeld.2.2.2.2 hq); (try replace R8 := R8.later hq); clear hq; generalize wq.alloc (.cells #[.int .u64 0, .int .u64 0] 34) = wn at *; generalize wq.heap.size = g7 at *)
        refine hK.out _ _ ?hSr1_17_8 (fun hHeld2 => ?_)
        case hSr1_17_8 => (exact ⟨s0, s1, s2, s3, s4⟩)
        clear hK K hHeld
        have hHeld := hHeld2
        clear hHeld2
        rename World => wq
        (try simp only [Act.put, List.setIfInBounds_toArray, List.set_cons_zero, List.set_cons_succ])
        refine wpAnyH_ready (rs := [7, 9]) (by kernel_rfl) (by simp) ?_
        refine AllReadyH.cons (o := { dst := some 38, op := Go.Op.call { callee := Go.Callee.value (Go.Operand.func 22), args := #[Go.Operand.tmp 36, Go.Operand.tmp 37], argTypes := #[22, 22] }, type := 34, pos := _, after := #[{ on := 5, ground := Go.Ground.data }, { on := 6, ground := Go.Ground.data }, { on := 3, ground := Go.Ground.chain }], guard := none }) rfl (fun K hK => ?_) ?_
        · go_simp
          ((refine (refMul_t _ _ (by assumption) (by assumption) _).mono ?_); (rintro e wn ⟨rfl, hq⟩); (try replace R7 := R7.later hq); (try replace R8 := R8.later hq))
          go_wp2_with fail
          refine hK.out _ _ ?hSr1_18_7 (fun hHeld2 => ?_)
          case hSr1_18_7 => (first | exact ⟨d0, d1, a0, a1, hb.drew⟩ | exact ⟨cell_later hq hHeld.1, cell_later hq hHeld.2.1, cell_later hq hHeld.2.2.1, cell_later hq hHeld.2.2.2.1, below_step hHeld.2.2.2.2 hq⟩)
          clear hK K hHeld
          have hHeld := hHeld2
          clear hHeld2
          rename World => wq
          (try simp only [Act.put, List.setIfInBounds_toArray, List.set_cons_zero, List.set_cons_succ])
          refine wpAnyH_ready (rs := [9]) (by kernel_rfl) (by simp) ?_
          refine AllReadyH.cons (o := { dst := some 8, op := Go.Op.alloc 34, type := 0, pos := _, after := #[], guard := none }) rfl (fun K hK => ?_) AllReadyH.nil
          (go_simp; (have m8 : w.heap.size ≤ wq.heap.size := hHeld.2.2.2.2.size); (have u8 := Nat.ne_of_lt (World.block_lt_of_cell? _ _ hHeld.1)); (have v8 := Nat.ne_of_lt (World.block_lt_of_cell? _ _ hHeld.2.2.1)); (try have hne := Nat.ne_of_lt R7.lt); (have R8 := Row.new wq #[.int .u64 0, .int .u64 0] 34); (have hq : Below wq.heap.size wq (wq.alloc (.cells #[.int .u64 0, .int .u64 0] 34)) := (Below.refl _ _).alloc (Nat.le_refl _) _); (have s0 := cell_later hq hHeld.1); (have s1 := cell_later hq hHeld.2.1); (have s2 := cell_later hq hHeld.2.2.1); (have s3 := cell_later hq hHeld.2.2.2.1); (have s4 := below_step hHeld.2.2.2.2 hq); (try replace R7 := R7.later hq); clear hq; generalize wq.alloc (.cells #[.int .u64 0, .int .u64 0] 34) = wn at *; generalize wq.heap.size = g8 at *)
          refine hK.out _ _ ?hSr1_19_9 (fun hHeld2 => ?_)
          case hSr1_19_9 => (exact ⟨s0, s1, s2, s3, s4⟩)
          clear hK K hHeld
          have hHeld := hHeld2
          clear hHeld2
          rename World => wq
          (try simp only [Act.put, List.setIfInBounds_toArray, List.set_cons_zero, List.set_cons_succ])
          refine wpAnyH_ready (rs := [10]) (by kernel_rfl) (by simp) ?_
          refine AllReadyH.cons (o := { dst := none, op := Go.Op.store 34 (Go.Operand.tmp 7) (Go.Operand.tmp 34), type := 0, pos := _, after := #[{ on := 8, ground := Go.Ground.data }, { on := 3, ground := Go.Ground.data }, { on := 7, ground := Go.Ground.chain }, { on := 0, ground := Go.Ground.phase }, { on := 1, ground := Go.Ground.phase }, { on := 2, ground := Go.Ground.phase }, { on := 3, ground := Go.Ground.phase }, { on := 4, ground := Go.Ground.textOnly Go.Departure.lateStores }, { on := 5, ground := Go.Ground.textOnly Go.Departure.lateStores }, { on := 6, ground := Go.Ground.textOnly Go.Departure.lateStores }, { on := 7, ground := Go.Ground.textOnly Go.Departure.lateStoresUnsure }, { on := 8, ground := Go.Ground.phase }, { on := 9, ground := Go.Ground.phase }], guard := none }) rfl (fun K hK => ?_) AllReadyH.nil
          ((have c0 := R7.cell 0); (have c1 := R7.cell 1); (simp at c0 c1); (have f0 := R7.frozen 0); (have f1 := R7.frozen 1); go_simp; clear c0 c1 f0 f1; (have Q7 := (R7.set 0 (.int .u64 (hi (hi q * d)))).set 1 (.int .u64 (lo (hi q * d)))); (simp at Q7); clear R7; (try replace R8 := (R8.set_far ⟨g7, 0, none⟩ (.int .u64 (hi (hi q * d))) (by first | exact hne | exact hne.symm)).set_far ⟨g7, 1, none⟩ (.int .u64 (lo (hi q * d))) (by first | exact hne | exact hne.symm)); (try replace Q8 := (Q8.set_far ⟨g7, 0, none⟩ (.int .u64 (hi (hi q * d))) (by first | exact hne | exact hne.symm)).set_far ⟨g7, 1, none⟩ (.int .u64 (lo (hi q * d))) (by first | exact hne | exact hne.symm)); (have s0 : ((wq.setCell ⟨g7, 0, none⟩ (.int .u64 (hi (hi q * d)))).setCell ⟨g7, 1, none⟩ (.int .u64 (lo (hi q * d)))).cell? ⟨g5, 0, none⟩ = some (.int .u64 (hi q)) := (World.cell?_setCell_far _ _ _ _ u7.symm).trans ((World.cell?_setCell_far _ _ _ _ u7.symm).trans hHeld.1)); (have s1 : ((wq.setCell ⟨g7, 0, none⟩ (.int .u64 (hi (hi q * d)))).setCell ⟨g7, 1, none⟩ (.int .u64 (lo (hi q * d)))).cell? ⟨g5, 1, none⟩ = some (.int .u64 (lo q)) := (World.cell?_setCell_far _ _ _ _ u7.symm).trans ((World.cell?_setCell_far _ _ _ _ u7.symm).trans hHeld.2.1)); (have s2 : ((wq.setCell ⟨g7, 0, none⟩ (.int .u64 (hi (hi q * d)))).setCell ⟨g7, 1, none⟩ (.int .u64 (lo (hi q * d)))).cell? ⟨w.heap.size, 0, none⟩ = some (.int .u64 (hi A)) := (World.cell?_setCell_far _ _ _ _ v7.symm).trans ((World.cell?_setCell_far _ _ _ _ v7.symm).trans hHeld.2.2.1)); (have s3 : ((wq.setCell ⟨g7, 0, none⟩ (.int .u64 (hi (hi q * d)))).setCell ⟨g7, 1, none⟩ (.int .u64 (lo (hi q * d)))).cell? ⟨w.heap.size, 1, none⟩ = some (.int .u64 (lo A)) := (World.cell?_setCell_far _ _ _ _ v7.symm).trans ((World.cell?_setCell_far _ _ _ _ v7.symm).trans hHeld.2.2.2.1)); (have s4 := (hHeld.2.2.2.2.setCell (p := ⟨g7, 0, none⟩) m7 (.int .u64 (hi (hi q * d)))).setCell (p := ⟨g7, 1, none⟩) m7 (.int .u64 (lo (hi q * d)))); generalize ((wq.setCell ⟨g7, 0, none⟩ (.int .u64 (hi (hi q * d)))).setCell ⟨g7, 1, none⟩ (.int .u64 (lo (hi q * d)))) = wn at *)
          refine hK.out _ _ ?hSr1_20_10 (fun hHeld2 => ?_)
          case hSr1_20_10 => (exact ⟨s0, s1, s2, s3, s4⟩)
          clear hK K hHeld
          have hHeld := hHeld2
          clear hHeld2
          rename World => wq
          (try simp only [Act.put, List.setIfInBounds_toArray, List.set_cons_zero, List.set_cons_succ])
          refine wpAnyH_ready (rs := [11]) (by kernel_rfl) (by simp) ?_
          refine AllReadyH.cons (o := { dst := none, op := Go.Op.store 34 (Go.Operand.tmp 8) (Go.Operand.tmp 38), type := 0, pos := _, after := #[{ on := 9, ground := Go.Ground.data }, { on := 7, ground := Go.Ground.data }, { on := 10, ground := Go.Ground.chain }, { on := 0, ground := Go.Ground.phase }, { on := 1, ground := Go.Ground.phase }, { on := 2, ground := Go.Ground.phase }, { on := 3, ground := Go.Ground.phase }, { on := 4, ground := Go.Ground.phase }, { on := 5, ground := Go.Ground.phase }, { on := 6, ground := Go.Ground.phase }, { on := 7, ground := Go.Ground.phase }, { on := 8, ground := Go.Ground.phase }, { on := 9, ground := Go.Ground.phase }, { on := 10, ground := Go.Ground.phase }], guard := none }) rfl (fun K hK => ?_) AllReadyH.nil
          ((have c0 := R8.cell 0); (have c1 := R8.cell 1); (simp at c0 c1); (have f0 := R8.frozen 0); (have f1 := R8.frozen 1); go_simp; clear c0 c1 f0 f1; (have Q8 := (R8.set 0 (.int .u64 (hi (lo q * d)))).set 1 (.int .u64 (lo (lo q * d)))); (simp at Q8); clear R8; (try replace R7 := (R7.set_far ⟨g8, 0, none⟩ (.int .u64 (hi (lo q * d))) (by first | exact hne | exact hne.symm)).set_far ⟨g8, 1, none⟩ (.int .u64 (lo (lo q * d))) (by first | exact hne | exact hne.symm)); (try replace Q7 := (Q7.set_far ⟨g8, 0, none⟩ (.int .u64 (hi (lo q * d))) (by first | exact hne | exact hne.symm)).set_far ⟨g8, 1, none⟩ (.int .u64 (lo (lo q * d))) (by first | exact hne | exact hne.symm)); (have s0 : ((wq.setCell ⟨g8, 0, none⟩ (.int .u64 (hi (lo q * d)))).setCell ⟨g8, 1, none⟩ (.int .u64 (lo (lo q * d)))).cell? ⟨g5, 0, none⟩ = some (.int .u64 (hi q)) := (World.cell?_setCell_far _ _ _ _ u8.symm).trans ((World.cell?_setCell_far _ _ _ _ u8.symm).trans hHeld.1)); (have s1 : ((wq.setCell ⟨g8, 0, none⟩ (.int .u64 (hi (lo q * d)))).setCell ⟨g8, 1, none⟩ (.int .u64 (lo (lo q * d)))).cell? ⟨g5, 1, none⟩ = some (.int .u64 (lo q)) := (World.cell?_setCell_far _ _ _ _ u8.symm).trans ((World.cell?_setCell_far _ _ _ _ u8.symm).trans hHeld.2.1)); (have s2 : ((wq.setCell ⟨g8, 0, none⟩ (.int .u64 (hi (lo q * d)))).setCell ⟨g8, 1, none⟩ (.int .u64 (lo (lo q * d)))).cell? ⟨w.heap.size, 0, none⟩ = some (.int .u64 (hi A)) := (World.cell?_setCell_far _ _ _ _ v8.symm).trans ((World.cell?_setCell_far _ _ _ _ v8.symm).trans hHeld.2.2.1)); (have s3 : ((wq.setCell ⟨g8, 0, none⟩ (.int .u64 (hi (lo q * d)))).setCell ⟨g8, 1, none⟩ (.int .u64 (lo (lo q * d)))).cell? ⟨w.heap.size, 1, none⟩ = some (.int .u64 (lo A)) := (World.cell?_setCell_far _ _ _ _ v8.symm).trans ((World.cell?_setCell_far _ _ _ _ v8.symm).trans hHeld.2.2.2.1)); (have s4 := (hHeld.2.2.2.2.setCell (p := ⟨g8, 0, none⟩) m8 (.int .u64 (hi (lo q * d)))).setCell (p := ⟨g8, 1, none⟩) m8 (.int .u64 (lo (lo q * d)))); generalize ((wq.setCell ⟨g8, 0, none⟩ (.int .u64 (hi (lo q * d)))).setCell ⟨g8, 1, none⟩ (.int .u64 (lo (lo q * d)))) = wn at *)
          refine hK.out _ _ ?hSr1_21_11 (fun hHeld2 => ?_)
          case hSr1_21_11 => (exact ⟨s0, s1, s2, s3, s4⟩)
          clear hK K hHeld
          have hHeld := hHeld2
          clear hHeld2
          rename World => wq
          (try simp only [Act.put, List.setIfInBounds_toArray, List.set_cons_zero, List.set_cons_succ])
          refine wpAnyH_done (by kernel_rfl) ?_ _
          (go_wp2_with fail; go_meet; exact ⟨_, _, rfl, rfl, Q7, Q8, hHeld⟩)
        refine AllReadyH.cons (o := { dst := some 8, op := Go.Op.alloc 34, type := 0, pos := _, after := #[], guard := none }) rfl (fun K hK => ?_) AllReadyH.nil
        · (go_simp; (have m8 : w.heap.size ≤ wq.heap.size := hHeld.2.2.2.2.size); (have u8 := Nat.ne_of_lt (World.block_lt_of_cell? _ _ hHeld.1)); (have v8 := Nat.ne_of_lt (World.block_lt_of_cell? _ _ hHeld.2.2.1)); (try have hne := Nat.ne_of_lt R7.lt); (have R8 := Row.new wq #[.int .u64 0, .int .u64 0] 34); (have hq : Below wq.heap.size wq (wq.alloc (.cells #[.int .u64 0, .int .u64 0] 34)) := (Below.refl _ _).alloc (Nat.le_refl _) _); (have s0 := cell_later hq hHeld.1); (have s1 := cell_later hq hHeld.2.1); (have s2 := cell_later hq hHeld.2.2.1); (have s3 := cell_later hq hHeld.2.2.2.1); (have s4 := below_step hHeld.2.2.2.2 hq); (try replace R7 := R7.later hq); clear hq; generalize wq.alloc (.cells #[.int .u64 0, .int .u64 0] 34) = wn at *; generalize wq.heap.size = g8 at *)
          refine hK.out _ _ ?hSr1_22_9 (fun hHeld2 => ?_)
          case hSr1_22_9 => (exact ⟨s0, s1, s2, s3, s4⟩)
          clear hK K hHeld
          have hHeld := hHeld2
          clear hHeld2
          rename World => wq
          (try simp only [Act.put, List.setIfInBounds_toArray, List.set_cons_zero, List.set_cons_succ])
          refine wpAnyH_ready (rs := [7]) (by kernel_rfl) (by simp) ?_
          refine AllReadyH.cons (o := { dst := some 38, op := Go.Op.call { callee := Go.Callee.value (Go.Operand.func 22), args := #[Go.Operand.tmp 36, Go.Operand.tmp 37], argTypes := #[22, 22] }, type := 34, pos := _, after := #[{ on := 5, ground := Go.Ground.data }, { on := 6, ground := Go.Ground.data }, { on := 3, ground := Go.Ground.chain }], guard := none }) rfl (fun K hK => ?_) AllReadyH.nil
          go_simp
          ((refine (refMul_t _ _ (by assumption) (by assumption) _).mono ?_); (rintro e wn ⟨rfl, hq⟩); (try replace R7 := R7.later hq); (try replace R8 := R8.later hq))
          go_wp2_with fail
          refine hK.out _ _ ?hSr1_23_7 (fun hHeld2 => ?_)
          case hSr1_23_7 => (first | exact ⟨d0, d1, a0, a1, hb.drew⟩ | exact ⟨cell_later hq hHeld.1, cell_later hq hHeld.2.1, cell_later hq hHeld.2.2.1, cell_later hq hHeld.2.2.2.1, below_step hHeld.2.2.2.2 hq⟩)
          clear hK K hHeld
          have hHeld := hHeld2
          clear hHeld2
          rename World => wq
          (try simp only [Act.put, List.setIfInBounds_toArray, List.set_cons_zero, List.set_cons_succ])
          refine wpAnyH_ready (rs := [10]) (by kernel_rfl) (by simp) ?_
          refine AllReadyH.cons (o := { dst := none, op := Go.Op.store 34 (Go.Operand.tmp 7) (Go.Operand.tmp 34), type := 0, pos := _, after := #[{ on := 8, ground := Go.Ground.data }, { on := 3, ground := Go.Ground.data }, { on := 7, ground := Go.Ground.chain }, { on := 0, ground := Go.Ground.phase }, { on := 1, ground := Go.Ground.phase }, { on := 2, ground := Go.Ground.phase }, { on := 3, ground := Go.Ground.phase }, { on := 4, ground := Go.Ground.textOnly Go.Departure.lateStores }, { on := 5, ground := Go.Ground.textOnly Go.Departure.lateStores }, { on := 6, ground := Go.Ground.textOnly Go.Departure.lateStores }, { on := 7, ground := Go.Ground.textOnly Go.Departure.lateStoresUnsure }, { on := 8, ground := Go.Ground.phase }, { on := 9, ground := Go.Ground.phase }], guard := none }) rfl (fun K hK => ?_) AllReadyH.nil
          ((have c0 := R7.cell 0); (have c1 := R7.cell 1); (simp at c0 c1); (have f0 := R7.frozen 0); (have f1 := R7.frozen 1); go_simp; clear c0 c1 f0 f1; (have Q7 := (R7.set 0 (.int .u64 (hi (hi q * d)))).set 1 (.int .u64 (lo (hi q * d)))); (simp at Q7); clear R7; (try replace R8 := (R8.set_far ⟨g7, 0, none⟩ (.int .u64 (hi (hi q * d))) (by first | exact hne | exact hne.symm)).set_far ⟨g7, 1, none⟩ (.int .u64 (lo (hi q * d))) (by first | exact hne | exact hne.symm)); (try replace Q8 := (Q8.set_far ⟨g7, 0, none⟩ (.int .u64 (hi (hi q * d))) (by first | exact hne | exact hne.symm)).set_far ⟨g7, 1, none⟩ (.int .u64 (lo (hi q * d))) (by first | exact hne | exact hne.symm)); (have s0 : ((wq.setCell ⟨g7, 0, none⟩ (.int .u64 (hi (hi q * d)))).setCell ⟨g7, 1, none⟩ (.int .u64 (lo (hi q * d)))).cell? ⟨g5, 0, none⟩ = some (.int .u64 (hi q)) := (World.cell?_setCell_far _ _ _ _ u7.symm).trans ((World.cell?_setCell_far _ _ _ _ u7.symm).trans hHeld.1)); (have s1 : ((wq.setCell ⟨g7, 0, none⟩ (.int .u64 (hi (hi q * d)))).setCell ⟨g7, 1, none⟩ (.int .u64 (lo (hi q * d)))).cell? ⟨g5, 1, none⟩ = some (.int .u64 (lo q)) := (World.cell?_setCell_far _ _ _ _ u7.symm).trans ((World.cell?_setCell_far _ _ _ _ u7.symm).trans hHeld.2.1)); (have s2 : ((wq.setCell ⟨g7, 0, none⟩ (.int .u64 (hi (hi q * d)))).setCell ⟨g7, 1, none⟩ (.int .u64 (lo (hi q * d)))).cell? ⟨w.heap.size, 0, none⟩ = some (.int .u64 (hi A)) := (World.cell?_setCell_far _ _ _ _ v7.symm).trans ((World.cell?_setCell_far _ _ _ _ v7.symm).trans hHeld.2.2.1)); (have s3 : ((wq.setCell ⟨g7, 0, none⟩ (.int .u64 (hi (hi q * d)))).setCell ⟨g7, 1, none⟩ (.int .u64 (lo (hi q * d)))).cell? ⟨w.heap.size, 1, none⟩ = some (.int .u64 (lo A)) := (World.cell?_setCell_far _ _ _ _ v7.symm).trans ((World.cell?_setCell_far _ _ _ _ v7.symm).trans hHeld.2.2.2.1)); (have s4 := (hHeld.2.2.2.2.setCell (p := ⟨g7, 0, none⟩) m7 (.int .u64 (hi (hi q * d)))).setCell (p := ⟨g7, 1, none⟩) m7 (.int .u64 (lo (hi q * d)))); generalize ((wq.setCell ⟨g7, 0, none⟩ (.int .u64 (hi (hi q * d)))).setCell ⟨g7, 1, none⟩ (.int .u64 (lo (hi q * d)))) = wn at *)
          refine hK.out _ _ ?hSr1_24_10 (fun hHeld2 => ?_)
          case hSr1_24_10 => (exact ⟨s0, s1, s2, s3, s4⟩)
          clear hK K hHeld
          have hHeld := hHeld2
          clear hHeld2
          rename World => wq
          (try simp only [Act.put, List.setIfInBounds_toArray, List.set_cons_zero, List.set_cons_succ])
          refine wpAnyH_ready (rs := [11]) (by kernel_rfl) (by simp) ?_
          refine AllReadyH.cons (o := { dst := none, op := Go.Op.store 34 (Go.Operand.tmp 8) (Go.Operand.tmp 38), type := 0, pos := _, after := #[{ on := 9, ground := Go.Ground.data }, { on := 7, ground := Go.Ground.data }, { on := 10, ground := Go.Ground.chain }, { on := 0, ground := Go.Ground.phase }, { on := 1, ground := Go.Ground.phase }, { on := 2, ground := Go.Ground.phase }, { on := 3, ground := Go.Ground.phase }, { on := 4, ground := Go.Ground.phase }, { on := 5, ground := Go.Ground.phase }, { on := 6, ground := Go.Ground.phase }, { on := 7, ground := Go.Ground.phase }, { on := 8, ground := Go.Ground.phase }, { on := 9, ground := Go.Ground.phase }, { on := 10, ground := Go.Ground.phase }], guard := none }) rfl (fun K hK => ?_) AllReadyH.nil
          ((have c0 := R8.cell 0); (have c1 := R8.cell 1); (simp at c0 c1); (have f0 := R8.frozen 0); (have f1 := R8.frozen 1); go_simp; clear c0 c1 f0 f1; (have Q8 := (R8.set 0 (.int .u64 (hi (lo q * d)))).set 1 (.int .u64 (lo (lo q * d)))); (simp at Q8); clear R8; (try replace R7 := (R7.set_far ⟨g8, 0, none⟩ (.int .u64 (hi (lo q * d))) (by first | exact hne | exact hne.symm)).set_far ⟨g8, 1, none⟩ (.int .u64 (lo (lo q * d))) (by first | exact hne | exact hne.symm)); (try replace Q7 := (Q7.set_far ⟨g8, 0, none⟩ (.int .u64 (hi (lo q * d))) (by first | exact hne | exact hne.symm)).set_far ⟨g8, 1, none⟩ (.int .u64 (lo (lo q * d))) (by first | exact hne | exact hne.symm)); (have s0 : ((wq.setCell ⟨g8, 0, none⟩ (.int .u64 (hi (lo q * d)))).setCell ⟨g8, 1, none⟩ (.int .u64 (lo (lo q * d)))).cell? ⟨g5, 0, none⟩ = some (.int .u64 (hi q)) := (World.cell?_setCell_far _ _ _ _ u8.symm).trans ((World.cell?_setCell_far _ _ _ _ u8.symm).trans hHeld.1)); (have s1 : ((wq.setCell ⟨g8, 0, none⟩ (.int .u64 (hi (lo q * d)))).setCell ⟨g8, 1, none⟩ (.int .u64 (lo (lo q * d)))).cell? ⟨g5, 1, none⟩ = some (.int .u64 (lo q)) := (World.cell?_setCell_far _ _ _ _ u8.symm).trans ((World.cell?_setCell_far _ _ _ _ u8.symm).trans hHeld.2.1)); (have s2 : ((wq.setCell ⟨g8, 0, none⟩ (.int .u64 (hi (lo q * d)))).setCell ⟨g8, 1, none⟩ (.int .u64 (lo (lo q * d)))).cell? ⟨w.heap.size, 0, none⟩ = some (.int .u64 (hi A)) := (World.cell?_setCell_far _ _ _ _ v8.symm).trans ((World.cell?_setCell_far _ _ _ _ v8.symm).trans hHeld.2.2.1)); (have s3 : ((wq.setCell ⟨g8, 0, none⟩ (.int .u64 (hi (lo q * d)))).setCell ⟨g8, 1, none⟩ (.int .u64 (lo (lo q * d)))).cell? ⟨w.heap.size, 1, none⟩ = some (.int .u64 (lo A)) := (World.cell?_setCell_far _ _ _ _ v8.symm).trans ((World.cell?_setCell_far _ _ _ _ v8.symm).trans hHeld.2.2.2.1)); (have s4 := (hHeld.2.2.2.2.setCell (p := ⟨g8, 0, none⟩) m8 (.int .u64 (hi (lo q * d)))).setCell (p := ⟨g8, 1, none⟩) m8 (.int .u64 (lo (lo q * d)))); generalize ((wq.setCell ⟨g8, 0, none⟩ (.int .u64 (hi (lo q * d)))).setCell ⟨g8, 1, none⟩ (.int .u64 (lo (lo q * d)))) = wn at *)
          refine hK.out _ _ ?hSr1_25_11 (fun hHeld2 => ?_)
          case hSr1_25_11 => (exact ⟨s0, s1, s2, s3, s4⟩)
          clear hK K hHeld
          have hHeld := hHeld2
          clear hHeld2
          rename World => wq
          (try simp only [Act.put, List.setIfInBounds_toArray, List.set_cons_zero, List.set_cons_succ])
          refine wpAnyH_done (by kernel_rfl) ?_ _
          (go_wp2_with fail; go_meet; exact ⟨_, _, rfl, rfl, Q7, Q8, hHeld⟩)
      refine AllReadyH.cons (o := { dst := some 8, op := Go.Op.alloc 34, type := 0, pos := _, after := #[], guard := none }) rfl (fun K hK => ?_) AllReadyH.nil
      · (go_simp; (have m8 : w.heap.size ≤ wq.heap.size := hHeld.2.2.2.2.size); (have u8 := Nat.ne_of_lt (World.block_lt_of_cell? _ _ hHeld.1)); (have v8 := Nat.ne_of_lt (World.block_lt_of_cell? _ _ hHeld.2.2.1)); (try have hne := Nat.ne_of_lt R7.lt); (have R8 := Row.new wq #[.int .u64 0, .int .u64 0] 34); (have hq : Below wq.heap.size wq (wq.alloc (.cells #[.int .u64 0, .int .u64 0] 34)) := (Below.refl _ _).alloc (Nat.le_refl _) _); (have s0 := cell_later hq hHeld.1); (have s1 := cell_later hq hHeld.2.1); (have s2 := cell_later hq hHeld.2.2.1); (have s3 := cell_later hq hHeld.2.2.2.1); (have s4 := below_step hHeld.2.2.2.2 hq); (try replace R7 := R7.later hq); clear hq; generalize wq.alloc (.cells #[.int .u64 0, .int .u64 0] 34) = wn at *; generalize wq.heap.size = g8 at *)
        refine hK.out _ _ ?hSr1_26_9 (fun hHeld2 => ?_)
        case hSr1_26_9 => (exact ⟨s0, s1, s2, s3, s4⟩)
        clear hK K hHeld
        have hHeld := hHeld2
        clear hHeld2
        rename World => wq
        (try simp only [Act.put, List.setIfInBounds_toArray, List.set_cons_zero, List.set_cons_succ])
        refine wpAnyH_ready (rs := [7, 8]) (by kernel_rfl) (by simp) ?_
        refine AllReadyH.cons (o := { dst := some 38, op := Go.Op.call { callee := Go.Callee.value (Go.Operand.func 22), args := #[Go.Operand.tmp 36, Go.Operand.tmp 37], argTypes := #[22, 22] }, type := 34, pos := _, after := #[{ on := 5, ground := Go.Ground.data }, { on := 6, ground := Go.Ground.data }, { on := 3, ground := Go.Ground.chain }], guard := none }) rfl (fun K hK => ?_) ?_
        · go_simp
          ((refine (refMul_t _ _ (by assumption) (by assumption) _).mono ?_); (rintro e wn ⟨rfl, hq⟩); (try replace R7 := R7.later hq); (try replace R8 := R8.later hq))
          go_wp2_with fail
          refine hK.out _ _ ?hSr1_27_7 (fun hHeld2 => ?_)
          case hSr1_27_7 => (first | exact ⟨d0, d1, a0, a1, hb.drew⟩ | exact ⟨cell_later hq hHeld.1, cell_later hq hHeld.2.1, cell_later hq hHeld.2.2.1, cell_later hq hHeld.2.2.2.1, below_step hHeld.2.2.2.2 hq⟩)
          clear hK K hHeld
          have hHeld := hHeld2
          clear hHeld2
          rename World => wq
          (try simp only [Act.put, List.setIfInBounds_toArray, List.set_cons_zero, List.set_cons_succ])
          refine wpAnyH_ready (rs := [8]) (by kernel_rfl) (by simp) ?_
          refine AllReadyH.cons (o := { dst := some 7, op := Go.Op.alloc 34, type := 0, pos := _, after := #[], guard := none }) rfl (fun K hK => ?_) AllReadyH.nil
          (go_simp; (have m7 : w.heap.size ≤ wq.heap.size := hHeld.2.2.2.2.size); (have u7 := Nat.ne_of_lt (World.block_lt_of_cell? _ _ hHeld.1)); (have v7 := Nat.ne_of_lt (World.block_lt_of_cell? _ _ hHeld.2.2.1)); (try have hne := Nat.ne_of_lt R8.lt); (have R7 := Row.new wq #[.int .u64 0, .int .u64 0] 34); (have hq : Below wq.heap.size wq (wq.alloc (.cells #[.int .u64 0, .int .u64 0] 34)) := (Below.refl _ _).alloc (Nat.le_refl _) _); (have s0 := cell_later hq hHeld.1); (have s1 := cell_later hq hHeld.2.1); (have s2 := cell_later hq hHeld.2.2.1); (have s3 := cell_later hq hHeld.2.2.2.1); (have s4 := below_step hHeld.2.2.2.2 hq); (try replace R8 := R8.later hq); clear hq; generalize wq.alloc (.cells #[.int .u64 0, .int .u64 0] 34) = wn at *; generalize wq.heap.size = g7 at *)
          refine hK.out _ _ ?hSr1_28_8 (fun hHeld2 => ?_)
          case hSr1_28_8 => (exact ⟨s0, s1, s2, s3, s4⟩)
          clear hK K hHeld
          have hHeld := hHeld2
          clear hHeld2
          rename World => wq
          (try simp only [Act.put, List.setIfInBounds_toArray, List.set_cons_zero, List.set_cons_succ])
          refine wpAnyH_ready (rs := [10]) (by kernel_rfl) (by simp) ?_
          refine AllReadyH.cons (o := { dst := none, op := Go.Op.store 34 (Go.Operand.tmp 7) (Go.Operand.tmp 34), type := 0, pos := _, after := #[{ on := 8, ground := Go.Ground.data }, { on := 3, ground := Go.Ground.data }, { on := 7, ground := Go.Ground.chain }, { on := 0, ground := Go.Ground.phase }, { on := 1, ground := Go.Ground.phase }, { on := 2, ground := Go.Ground.phase }, { on := 3, ground := Go.Ground.phase }, { on := 4, ground := Go.Ground.textOnly Go.Departure.lateStores }, { on := 5, ground := Go.Ground.textOnly Go.Departure.lateStores }, { on := 6, ground := Go.Ground.textOnly Go.Departure.lateStores }, { on := 7, ground := Go.Ground.textOnly Go.Departure.lateStoresUnsure }, { on := 8, ground := Go.Ground.phase }, { on := 9, ground := Go.Ground.phase }], guard := none }) rfl (fun K hK => ?_) AllReadyH.nil
          ((have c0 := R7.cell 0); (have c1 := R7.cell 1); (simp at c0 c1); (have f0 := R7.frozen 0); (have f1 := R7.frozen 1); go_simp; clear c0 c1 f0 f1; (have Q7 := (R7.set 0 (.int .u64 (hi (hi q * d)))).set 1 (.int .u64 (lo (hi q * d)))); (simp at Q7); clear R7; (try replace R8 := (R8.set_far ⟨g7, 0, none⟩ (.int .u64 (hi (hi q * d))) (by first | exact hne | exact hne.symm)).set_far ⟨g7, 1, none⟩ (.int .u64 (lo (hi q * d))) (by first | exact hne | exact hne.symm)); (try replace Q8 := (Q8.set_far ⟨g7, 0, none⟩ (.int .u64 (hi (hi q * d))) (by first | exact hne | exact hne.symm)).set_far ⟨g7, 1, none⟩ (.int .u64 (lo (hi q * d))) (by first | exact hne | exact hne.symm)); (have s0 : ((wq.setCell ⟨g7, 0, none⟩ (.int .u64 (hi (hi q * d)))).setCell ⟨g7, 1, none⟩ (.int .u64 (lo (hi q * d)))).cell? ⟨g5, 0, none⟩ = some (.int .u64 (hi q)) := (World.cell?_setCell_far _ _ _ _ u7.symm).trans ((World.cell?_setCell_far _ _ _ _ u7.symm).trans hHeld.1)); (have s1 : ((wq.setCell ⟨g7, 0, none⟩ (.int .u64 (hi (hi q * d)))).setCell ⟨g7, 1, none⟩ (.int .u64 (lo (hi q * d)))).cell? ⟨g5, 1, none⟩ = some (.int .u64 (lo q)) := (World.cell?_setCell_far _ _ _ _ u7.symm).trans ((World.cell?_setCell_far _ _ _ _ u7.symm).trans hHeld.2.1)); (have s2 : ((wq.setCell ⟨g7, 0, none⟩ (.int .u64 (hi (hi q * d)))).setCell ⟨g7, 1, none⟩ (.int .u64 (lo (hi q * d)))).cell? ⟨w.heap.size, 0, none⟩ = some (.int .u64 (hi A)) := (World.cell?_setCell_far _ _ _ _ v7.symm).trans ((World.cell?_setCell_far _ _ _ _ v7.symm).trans hHeld.2.2.1)); (have s3 : ((wq.setCell ⟨g7, 0, none⟩ (.int .u64 (hi (hi q * d)))).setCell ⟨g7, 1, none⟩ (.int .u64 (lo (hi q * d)))).cell? ⟨w.heap.size, 1, none⟩ = some (.int .u64 (lo A)) := (World.cell?_setCell_far _ _ _ _ v7.symm).trans ((World.cell?_setCell_far _ _ _ _ v7.symm).trans hHeld.2.2.2.1)); (have s4 := (hHeld.2.2.2.2.setCell (p := ⟨g7, 0, none⟩) m7 (.int .u64 (hi (hi q * d)))).setCell (p := ⟨g7, 1, none⟩) m7 (.int .u64 (lo (hi q * d)))); generalize ((wq.setCell ⟨g7, 0, none⟩ (.int .u64 (hi (hi q * d)))).setCell ⟨g7, 1, none⟩ (.int .u64 (lo (hi q * d)))) = wn at *)
          refine hK.out _ _ ?hSr1_29_10 (fun hHeld2 => ?_)
          case hSr1_29_10 => (exact ⟨s0, s1, s2, s3, s4⟩)
          clear hK K hHeld
          have hHeld := hHeld2
          clear hHeld2
          rename World => wq
          (try simp only [Act.put, List.setIfInBounds_toArray, List.set_cons_zero, List.set_cons_succ])
          refine wpAnyH_ready (rs := [11]) (by kernel_rfl) (by simp) ?_
          refine AllReadyH.cons (o := { dst := none, op := Go.Op.store 34 (Go.Operand.tmp 8) (Go.Operand.tmp 38), type := 0, pos := _, after := #[{ on := 9, ground := Go.Ground.data }, { on := 7, ground := Go.Ground.data }, { on := 10, ground := Go.Ground.chain }, { on := 0, ground := Go.Ground.phase }, { on := 1, ground := Go.Ground.phase }, { on := 2, ground := Go.Ground.phase }, { on := 3, ground := Go.Ground.phase }, { on := 4, ground := Go.Ground.phase }, { on := 5, ground := Go.Ground.phase }, { on := 6, ground := Go.Ground.phase }, { on := 7, ground := Go.Ground.phase }, { on := 8, ground := Go.Ground.phase }, { on := 9, ground := Go.Ground.phase }, { on := 10, ground := Go.Ground.phase }], guard := none }) rfl (fun K hK => ?_) AllReadyH.nil
          ((have c0 := R8.cell 0); (have c1 := R8.cell 1); (simp at c0 c1); (have f0 := R8.frozen 0); (have f1 := R8.frozen 1); go_simp; clear c0 c1 f0 f1; (have Q8 := (R8.set 0 (.int .u64 (hi (lo q * d)))).set 1 (.int .u64 (lo (lo q * d)))); (simp at Q8); clear R8; (try replace R7 := (R7.set_far ⟨g8, 0, none⟩ (.int .u64 (hi (lo q * d))) (by first | exact hne | exact hne.symm)).set_far ⟨g8, 1, none⟩ (.int .u64 (lo (lo q * d))) (by first | exact hne | exact hne.symm)); (try replace Q7 := (Q7.set_far ⟨g8, 0, none⟩ (.int .u64 (hi (lo q * d))) (by first | exact hne | exact hne.symm)).set_far ⟨g8, 1, none⟩ (.int .u64 (lo (lo q * d))) (by first | exact hne | exact hne.symm)); (have s0 : ((wq.setCell ⟨g8, 0, none⟩ (.int .u64 (hi (lo q * d)))).setCell ⟨g8, 1, none⟩ (.int .u64 (lo (lo q * d)))).cell? ⟨g5, 0, none⟩ = some (.int .u64 (hi q)) := (World.cell?_setCell_far _ _ _ _ u8.symm).trans ((World.cell?_setCell_far _ _ _ _ u8.symm).trans hHeld.1)); (have s1 : ((wq.setCell ⟨g8, 0, none⟩ (.int .u64 (hi (lo q * d)))).setCell ⟨g8, 1, none⟩ (.int .u64 (lo (lo q * d)))).cell? ⟨g5, 1, none⟩ = some (.int .u64 (lo q)) := (World.cell?_setCell_far _ _ _ _ u8.symm).trans ((World.cell?_setCell_far _ _ _ _ u8.symm).trans hHeld.2.1)); (have s2 : ((wq.setCell ⟨g8, 0, none⟩ (.int .u64 (hi (lo q * d)))).setCell ⟨g8, 1, none⟩ (.int .u64 (lo (lo q * d)))).cell? ⟨w.heap.size, 0, none⟩ = some (.int .u64 (hi A)) := (World.cell?_setCell_far _ _ _ _ v8.symm).trans ((World.cell?_setCell_far _ _ _ _ v8.symm).trans hHeld.2.2.1)); (have s3 : ((wq.setCell ⟨g8, 0, none⟩ (.int .u64 (hi (lo q * d)))).setCell ⟨g8, 1, none⟩ (.int .u64 (lo (lo q * d)))).cell? ⟨w.heap.size, 1, none⟩ = some (.int .u64 (lo A)) := (World.cell?_setCell_far _ _ _ _ v8.symm).trans ((World.cell?_setCell_far _ _ _ _ v8.symm).trans hHeld.2.2.2.1)); (have s4 := (hHeld.2.2.2.2.setCell (p := ⟨g8, 0, none⟩) m8 (.int .u64 (hi (lo q * d)))).setCell (p := ⟨g8, 1, none⟩) m8 (.int .u64 (lo (lo q * d)))); generalize ((wq.setCell ⟨g8, 0, none⟩ (.int .u64 (hi (lo q * d)))).setCell ⟨g8, 1, none⟩ (.int .u64 (lo (lo q * d)))) = wn at *)
          refine hK.out _ _ ?hSr1_30_11 (fun hHeld2 => ?_)
          case hSr1_30_11 => (exact ⟨s0, s1, s2, s3, s4⟩)
          clear hK K hHeld
          have hHeld := hHeld2
          clear hHeld2
          rename World => wq
          (try simp only [Act.put, List.setIfInBounds_toArray, List.set_cons_zero, List.set_cons_succ])
          refine wpAnyH_done (by kernel_rfl) ?_ _
          (go_wp2_with fail; go_meet; exact ⟨_, _, rfl, rfl, Q7, Q8, hHeld⟩)
        refine AllReadyH.cons (o := { dst := some 7, op := Go.Op.alloc 34, type := 0, pos := _, after := #[], guard := none }) rfl (fun K hK => ?_) AllReadyH.nil
        · (go_simp; (have m7 : w.heap.size ≤ wq.heap.size := hHeld.2.2.2.2.size); (have u7 := Nat.ne_of_lt (World.block_lt_of_cell? _ _ hHeld.1)); (have v7 := Nat.ne_of_lt (World.block_lt_of_cell? _ _ hHeld.2.2.1)); (try have hne := Nat.ne_of_lt R8.lt); (have R7 := Row.new wq #[.int .u64 0, .int .u64 0] 34); (have hq : Below wq.heap.size wq (wq.alloc (.cells #[.int .u64 0, .int .u64 0] 34)) := (Below.refl _ _).alloc (Nat.le_refl _) _); (have s0 := cell_later hq hHeld.1); (have s1 := cell_later hq hHeld.2.1); (have s2 := cell_later hq hHeld.2.2.1); (have s3 := cell_later hq hHeld.2.2.2.1); (have s4 := below_step hHeld.2.2.2.2 hq); (try replace R8 := R8.later hq); clear hq; generalize wq.alloc (.cells #[.int .u64 0, .int .u64 0] 34) = wn at *; generalize wq.heap.size = g7 at *)
          refine hK.out _ _ ?hSr1_31_8 (fun hHeld2 => ?_)
          case hSr1_31_8 => (exact ⟨s0, s1, s2, s3, s4⟩)
          clear hK K hHeld
          have hHeld := hHeld2
          clear hHeld2
          rename World => wq
          (try simp only [Act.put, List.setIfInBounds_toArray, List.set_cons_zero, List.set_cons_succ])
          refine wpAnyH_ready (rs := [7]) (by kernel_rfl) (by simp) ?_
          refine AllReadyH.cons (o := { dst := some 38, op := Go.Op.call { callee := Go.Callee.value (Go.Operand.func 22), args := #[Go.Operand.tmp 36, Go.Operand.tmp 37], argTypes := #[22, 22] }, type := 34, pos := _, after := #[{ on := 5, ground := Go.Ground.data }, { on := 6, ground := Go.Ground.data }, { on := 3, ground := Go.Ground.chain }], guard := none }) rfl (fun K hK => ?_) AllReadyH.nil
          go_simp
          ((refine (refMul_t _ _ (by assumption) (by assumption) _).mono ?_); (rintro e wn ⟨rfl, hq⟩); (try replace R7 := R7.later hq); (try replace R8 := R8.later hq))
          go_wp2_with fail
          refine hK.out _ _ ?hSr1_32_7 (fun hHeld2 => ?_)
          case hSr1_32_7 => (first | exact ⟨d0, d1, a0, a1, hb.drew⟩ | exact ⟨cell_later hq hHeld.1, cell_later hq hHeld.2.1, cell_later hq hHeld.2.2.1, cell_later hq hHeld.2.2.2.1, below_step hHeld.2.2.2.2 hq⟩)
          clear hK K hHeld
          have hHeld := hHeld2
          clear hHeld2
          rename World => wq
          (try simp only [Act.put, List.setIfInBounds_toArray, List.set_cons_zero, List.set_cons_succ])
          refine wpAnyH_ready (rs := [10]) (by kernel_rfl) (by simp) ?_
          refine AllReadyH.cons (o := { dst := none, op := Go.Op.store 34 (Go.Operand.tmp 7) (Go.Operand.tmp 34), type := 0, pos := _, after := #[{ on := 8, ground := Go.Ground.data }, { on := 3, ground := Go.Ground.data }, { on := 7, ground := Go.Ground.chain }, { on := 0, ground := Go.Ground.phase }, { on := 1, ground := Go.Ground.phase }, { on := 2, ground := Go.Ground.phase }, { on := 3, ground := Go.Ground.phase }, { on := 4, ground := Go.Ground.textOnly Go.Departure.lateStores }, { on := 5, ground := Go.Ground.textOnly Go.Departure.lateStores }, { on := 6, ground := Go.Ground.textOnly Go.Departure.lateStores }, { on := 7, ground := Go.Ground.textOnly Go.Departure.lateStoresUnsure }, { on := 8, ground := Go.Ground.phase }, { on := 9, ground := Go.Ground.phase }], guard := none }) rfl (fun K hK => ?_) AllReadyH.nil
          ((have c0 := R7.cell 0); (have c1 := R7.cell 1); (simp at c0 c1); (have f0 := R7.frozen 0); (have f1 := R7.frozen 1); go_simp; clear c0 c1 f0 f1; (have Q7 := (R7.set 0 (.int .u64 (hi (hi q * d)))).set 1 (.int .u64 (lo (hi q * d)))); (simp at Q7); clear R7; (try replace R8 := (R8.set_far ⟨g7, 0, none⟩ (.int .u64 (hi (hi q * d))) (by first | exact hne | exact hne.symm)).set_far ⟨g7, 1, none⟩ (.int .u64 (lo (hi q * d))) (by first | exact hne | exact hne.symm)); (try replace Q8 := (Q8.set_far ⟨g7, 0, none⟩ (.int .u64 (hi (hi q * d))) (by first | exact hne | exact hne.symm)).set_far ⟨g7, 1, none⟩ (.int .u64 (lo (hi q * d))) (by first | exact hne | exact hne.symm)); (have s0 : ((wq.setCell ⟨g7, 0, none⟩ (.int .u64 (hi (hi q * d)))).setCell ⟨g7, 1, none⟩ (.int .u64 (lo (hi q * d)))).cell? ⟨g5, 0, none⟩ = some (.int .u64 (hi q)) := (World.cell?_setCell_far _ _ _ _ u7.symm).trans ((World.cell?_setCell_far _ _ _ _ u7.symm).trans hHeld.1)); (have s1 : ((wq.setCell ⟨g7, 0, none⟩ (.int .u64 (hi (hi q * d)))).setCell ⟨g7, 1, none⟩ (.int .u64 (lo (hi q * d)))).cell? ⟨g5, 1, none⟩ = some (.int .u64 (lo q)) := (World.cell?_setCell_far _ _ _ _ u7.symm).trans ((World.cell?_setCell_far _ _ _ _ u7.symm).trans hHeld.2.1)); (have s2 : ((wq.setCell ⟨g7, 0, none⟩ (.int .u64 (hi (hi q * d)))).setCell ⟨g7, 1, none⟩ (.int .u64 (lo (hi q * d)))).cell? ⟨w.heap.size, 0, none⟩ = some (.int .u64 (hi A)) := (World.cell?_setCell_far _ _ _ _ v7.symm).trans ((World.cell?_setCell_far _ _ _ _ v7.symm).trans hHeld.2.2.1)); (have s3 : ((wq.setCell ⟨g7, 0, none⟩ (.int .u64 (hi (hi q * d)))).setCell ⟨g7, 1, none⟩ (.int .u64 (lo (hi q * d)))).cell? ⟨w.heap.size, 1, none⟩ = some (.int .u64 (lo A)) := (World.cell?_setCell_far _ _ _ _ v7.symm).trans ((World.cell?_setCell_far _ _ _ _ v7.symm).trans hHeld.2.2.2.1)); (have s4 := (hHeld.2.2.2.2.setCell (p := ⟨g7, 0, none⟩) m7 (.int .u64 (hi (hi q * d)))).setCell (p := ⟨g7, 1, none⟩) m7 (.int .u64 (lo (hi q * d)))); generalize ((wq.setCell ⟨g7, 0, none⟩ (.int .u64 (hi (hi q * d)))).setCell ⟨g7, 1, none⟩ (.int .u64 (lo (hi q * d)))) = wn at *)
          refine hK.out _ _ ?hSr1_33_10 (fun hHeld2 => ?_)
          case hSr1_33_10 => (exact ⟨s0, s1, s2, s3, s4⟩)
          clear hK K hHeld
          have hHeld := hHeld2
          clear hHeld2
          rename World => wq
          (try simp only [Act.put, List.setIfInBounds_toArray, List.set_cons_zero, List.set_cons_succ])
          refine wpAnyH_ready (rs := [11]) (by kernel_rfl) (by simp) ?_
          refine AllReadyH.cons (o := { dst := none, op := Go.Op.store 34 (Go.Operand.tmp 8) (Go.Operand.tmp 38), type := 0, pos := _, after := #[{ on := 9, ground := Go.Ground.data }, { on := 7, ground := Go.Ground.data }, { on := 10, ground := Go.Ground.chain }, { on := 0, ground := Go.Ground.phase }, { on := 1, ground := Go.Ground.phase }, { on := 2, ground := Go.Ground.phase }, { on := 3, ground := Go.Ground.phase }, { on := 4, ground := Go.Ground.phase }, { on := 5, ground := Go.Ground.phase }, { on := 6, ground := Go.Ground.phase }, { on := 7, ground := Go.Ground.phase }, { on := 8, ground := Go.Ground.phase }, { on := 9, ground := Go.Ground.phase }, { on := 10, ground := Go.Ground.phase }], guard := none }) rfl (fun K hK => ?_) AllReadyH.nil
          ((have c0 := R8.cell 0); (have c1 := R8.cell 1); (simp at c0 c1); (have f0 := R8.frozen 0); (have f1 := R8.frozen 1); go_simp; clear c0 c1 f0 f1; (have Q8 := (R8.set 0 (.int .u64 (hi (lo q * d)))).set 1 (.int .u64 (lo (lo q * d)))); (simp at Q8); clear R8; (try replace R7 := (R7.set_far ⟨g8, 0, none⟩ (.int .u64 (hi (lo q * d))) (by first | exact hne | exact hne.symm)).set_far ⟨g8, 1, none⟩ (.int .u64 (lo (lo q * d))) (by first | exact hne | exact hne.symm)); (try replace Q7 := (Q7.set_far ⟨g8, 0, none⟩ (.int .u64 (hi (lo q * d))) (by first | exact hne | exact hne.symm)).set_far ⟨g8, 1, none⟩ (.int .u64 (lo (lo q * d))) (by first | exact hne | exact hne.symm)); (have s0 : ((wq.setCell ⟨g8, 0, none⟩ (.int .u64 (hi (lo q * d)))).setCell ⟨g8, 1, none⟩ (.int .u64 (lo (lo q * d)))).cell? ⟨g5, 0, none⟩ = some (.int .u64 (hi q)) := (World.cell?_setCell_far _ _ _ _ u8.symm).trans ((World.cell?_setCell_far _ _ _ _ u8.symm).trans hHeld.1)); (have s1 : ((wq.setCell ⟨g8, 0, none⟩ (.int .u64 (hi (lo q * d)))).setCell ⟨g8, 1, none⟩ (.int .u64 (lo (lo q * d)))).cell? ⟨g5, 1, none⟩ = some (.int .u64 (lo q)) := (World.cell?_setCell_far _ _ _ _ u8.symm).trans ((World.cell?_setCell_far _ _ _ _ u8.symm).trans hHeld.2.1)); (have s2 : ((wq.setCell ⟨g8, 0, none⟩ (.int .u64 (hi (lo q * d)))).setCell ⟨g8, 1, none⟩ (.int .u64 (lo (lo q * d)))).cell? ⟨w.heap.size, 0, none⟩ = some (.int .u64 (hi A)) := (World.cell?_setCell_far _ _ _ _ v8.symm).trans ((World.cell?_setCell_far _ _ _ _ v8.symm).trans hHeld.2.2.1)); (have s3 : ((wq.setCell ⟨g8, 0, none⟩ (.int .u64 (hi (lo q * d)))).setCell ⟨g8, 1, none⟩ (.int .u64 (lo (lo q * d)))).cell? ⟨w.heap.size, 1, none⟩ = some (.int .u64 (lo A)) := (World.cell?_setCell_far _ _ _ _ v8.symm).trans ((World.cell?_setCell_far _ _ _ _ v8.symm).trans hHeld.2.2.2.1)); (have s4 := (hHeld.2.2.2.2.setCell (p := ⟨g8, 0, none⟩) m8 (.int .u64 (hi (lo q * d)))).setCell (p := ⟨g8, 1, none⟩) m8 (.int .u64 (lo (lo q * d)))); generalize ((wq.setCell ⟨g8, 0, none⟩ (.int .u64 (hi (lo q * d)))).setCell ⟨g8, 1, none⟩ (.int .u64 (lo (lo q * d)))) = wn at *)
          refine hK.out _ _ ?hSr1_34_11 (fun hHeld2 => ?_)
          case hSr1_34_11 => (exact ⟨s0, s1, s2, s3, s4⟩)
          clear hK K hHeld
          have hHeld := hHeld2
          clear hHeld2
          rename World => wq
          (try simp only [Act.put, List.setIfInBounds_toArray, List.set_cons_zero, List.set_cons_succ])
          refine wpAnyH_done (by kernel_rfl) ?_ _
          (go_wp2_with fail; go_meet; exact ⟨_, _, rfl, rfl, Q7, Q8, hHeld⟩)
    refine AllReadyH.cons (o := { dst := some 7, op := Go.Op.alloc 34, type := 0, pos := _, after := #[], guard := none }) rfl (fun K hK => ?_) ?_
    · (go_simp; (have m7 : w.heap.size ≤ wq.heap.size := hHeld.2.2.2.2.size); (have u7 := Nat.ne_of_lt (World.block_lt_of_cell? _ _ hHeld.1)); (have v7 := Nat.ne_of_lt (World.block_lt_of_cell? _ _ hHeld.2.2.1)); (try have hne := Nat.ne_of_lt R8.lt); (have R7 := Row.new wq #[.int .u64 0, .int .u64 0] 34); (have hq : Below wq.heap.size wq (wq.alloc (.cells #[.int .u64 0, .int .u64 0] 34)) := (Below.refl _ _).alloc (Nat.le_refl _) _); (have s0 := cell_later hq hHeld.1); (have s1 := cell_later hq hHeld.2.1); (have s2 := cell_later hq hHeld.2.2.1); (have s3 := cell_later hq hHeld.2.2.2.1); (have s4 := below_step hHeld.2.2.2.2 hq); (try replace R8 := R8.later hq); clear hq; generalize wq.alloc (.cells #[.int .u64 0, .int .u64 0] 34) = wn at *; generalize wq.heap.size = g7 at *)
      refine hK.out _ _ ?hSr1_35_8 (fun hHeld2 => ?_)
      case hSr1_35_8 => (exact ⟨s0, s1, s2, s3, s4⟩)
      clear hK K hHeld
      have hHeld := hHeld2
      clear hHeld2
      rename World => wq
      (try simp only [Act.put, List.setIfInBounds_toArray, List.set_cons_zero, List.set_cons_succ])
      refine wpAnyH_ready (rs := [3, 9]) (by kernel_rfl) (by simp) ?_
      refine AllReadyH.cons (o := { dst := some 34, op := Go.Op.call { callee := Go.Callee.value (Go.Operand.func 22), args := #[Go.Operand.tmp 32, Go.Operand.tmp 33], argTypes := #[22, 22] }, type := 34, pos := _, after := #[{ on := 1, ground := Go.Ground.data }, { on := 2, ground := Go.Ground.data }], guard := none }) rfl (fun K hK => ?_) ?_
      · go_simp
        ((refine (refMul_t _ _ (by assumption) (by assumption) _).mono ?_); (rintro e wn ⟨rfl, hq⟩); (try replace R7 := R7.later hq); (try replace R8 := R8.later hq))
        go_wp2_with fail
        refine hK.out _ _ ?hSr1_36_3 (fun hHeld2 => ?_)
        case hSr1_36_3 => (first | exact ⟨d0, d1, a0, a1, hb.drew⟩ | exact ⟨cell_later hq hHeld.1, cell_later hq hHeld.2.1, cell_later hq hHeld.2.2.1, cell_later hq hHeld.2.2.2.1, below_step hHeld.2.2.2.2 hq⟩)
        clear hK K hHeld
        have hHeld := hHeld2
        clear hHeld2
        rename World => wq
        (try simp only [Act.put, List.setIfInBounds_toArray, List.set_cons_zero, List.set_cons_succ])
        refine wpAnyH_ready (rs := [7, 9]) (by kernel_rfl) (by simp) ?_
        refine AllReadyH.cons (o := { dst := some 38, op := Go.Op.call { callee := Go.Callee.value (Go.Operand.func 22), args := #[Go.Operand.tmp 36, Go.Operand.tmp 37], argTypes := #[22, 22] }, type := 34, pos := _, after := #[{ on := 5, ground := Go.Ground.data }, { on := 6, ground := Go.Ground.data }, { on := 3, ground := Go.Ground.chain }], guard := none }) rfl (fun K hK => ?_) ?_
        · go_simp
          ((refine (refMul_t _ _ (by assumption) (by assumption) _).mono ?_); (rintro e wn ⟨rfl, hq⟩); (try replace R7 := R7.later hq); (try replace R8 := R8.later hq))
          go_wp2_with fail
          refine hK.out _ _ ?hSr1_37_7 (fun hHeld2 => ?_)
          case hSr1_37_7 => (first | exact ⟨d0, d1, a0, a1, hb.drew⟩ | exact ⟨cell_later hq hHeld.1, cell_later hq hHeld.2.1, cell_later hq hHeld.2.2.1, cell_later hq hHeld.2.2.2.1, below_step hHeld.2.2.2.2 hq⟩)
          clear hK K hHeld
          have hHeld := hHeld2
          clear hHeld2
          rename World => wq
          (try simp only [Act.put, List.setIfInBounds_toArray, List.set_cons_zero, List.set_cons_succ])
          refine wpAnyH_ready (rs := [9]) (by kernel_rfl) (by simp) ?_
          refine AllReadyH.cons (o := { dst := some 8, op := Go.Op.alloc 34, type := 0, pos := _, after := #[], guard := none }) rfl (fun K hK => ?_) AllReadyH.nil
          (go_simp; (have m8 : w.heap.size ≤ wq.heap.size := hHeld.2.2.2.2.size); (have u8 := Nat.ne_of_lt (World.block_lt_of_cell? _ _ hHeld.1)); (have v8 := Nat.ne_of_lt (World.block_lt_of_cell? _ _ hHeld.2.2.1)); (try have hne := Nat.ne_of_lt R7.lt); (have R8 := Row.new wq #[.int .u64 0, .int .u64 0] 34); (have hq : Below wq.heap.size wq (wq.alloc (.cells #[.int .u64 0, .int .u64 0] 34)) := (Below.refl _ _).alloc (Nat.le_refl _) _); (have s0 := cell_later hq hHeld.1); (have s1 := cell_later hq hHeld.2.1); (have s2 := cell_later hq hHeld.2.2.1); (have s3 := cell_later hq hHeld.2.2.2.1); (have s4 := below_step hHeld.2.2.2.2 hq); (try replace R7 := R7.later hq); clear hq; generalize wq.alloc (.cells #[.int .u64 0, .int .u64 0] 34) = wn at *; generalize wq.heap.size = g8 at *)
          refine hK.out _ _ ?hSr1_38_9 (fun hHeld2 => ?_)
          case hSr1_38_9 => (exact ⟨s0, s1, s2, s3, s4⟩)
          clear hK K hHeld
          have hHeld := hHeld2
          clear hHeld2
          rename World => wq
          (try simp only [Act.put, List.setIfInBounds_toArray, List.set_cons_zero, List.set_cons_succ])
          refine wpAnyH_ready (rs := [10]) (by kernel_rfl) (by simp) ?_
          refine AllReadyH.cons (o := { dst := none, op := Go.Op.store 34 (Go.Operand.tmp 7) (Go.Operand.tmp 34), type := 0, pos := _, after := #[{ on := 8, ground := Go.Ground.data }, { on := 3, ground := Go.Ground.data }, { on := 7, ground := Go.Ground.chain }, { on := 0, ground := Go.Ground.phase }, { on := 1, ground := Go.Ground.phase }, { on := 2, ground := Go.Ground.phase }, { on := 3, ground := Go.Ground.phase }, { on := 4, ground := Go.Ground.textOnly Go.Departure.lateStores }, { on := 5, ground := Go.Ground.textOnly Go.Departure.lateStores }, { on := 6, ground := Go.Ground.textOnly Go.Departure.lateStores }, { on := 7, ground := Go.Ground.textOnly Go.Departure.lateStoresUnsure }, { on := 8, ground := Go.Ground.phase }, { on := 9, ground := Go.Ground.phase }], guard := none }) rfl (fun K hK => ?_) AllReadyH.nil
          ((have c0 := R7.cell 0); (have c1 := R7.cell 1); (simp at c0 c1); (have f0 := R7.frozen 0); (have f1 := R7.frozen 1); go_simp; clear c0 c1 f0 f1; (have Q7 := (R7.set 0 (.int .u64 (hi (hi q * d)))).set 1 (.int .u64 (lo (hi q * d)))); (simp at Q7); clear R7; (try replace R8 := (R8.set_far ⟨g7, 0, none⟩ (.int .u64 (hi (hi q * d))) (by first | exact hne | exact hne.symm)).set_far ⟨g7, 1, none⟩ (.int .u64 (lo (hi q * d))) (by first | exact hne | exact hne.symm)); (try replace Q8 := (Q8.set_far ⟨g7, 0, none⟩ (.int .u64 (hi (hi q * d))) (by first | exact hne | exact hne.symm)).set_far ⟨g7, 1, none⟩ (.int .u64 (lo (hi q * d))) (by first | exact hne | exact hne.symm)); (have s0 : ((wq.setCell ⟨g7, 0, none⟩ (.int .u64 (hi (hi q * d)))).setCell ⟨g7, 1, none⟩ (.int .u64 (lo (hi q * d)))).cell? ⟨g5, 0, none⟩ = some (.int .u64 (hi q)) := (World.cell?_setCell_far _ _ _ _ u7.symm).trans ((World.cell?_setCell_far _ _ _ _ u7.symm).trans hHeld.1)); (have s1 : ((wq.setCell ⟨g7, 0, none⟩ (.int .u64 (hi (hi q * d)))).setCell ⟨g7, 1, none⟩ (.int .u64 (lo (hi q * d)))).cell? ⟨g5, 1, none⟩ = some (.int .u64 (lo q)) := (World.cell?_setCell_far _ _ _ _ u7.symm).trans ((World.cell?_setCell_far _ _ _ _ u7.symm).trans hHeld.2.1)); (have s2 : ((wq.setCell ⟨g7, 0, none⟩ (.int .u64 (hi (hi q * d)))).setCell ⟨g7, 1, none⟩ (.int .u64 (lo (hi q * d)))).cell? ⟨w.heap.size, 0, none⟩ = some (.int .u64 (hi A)) := (World.cell?_setCell_far _ _ _ _ v7.symm).trans ((World.cell?_setCell_far _ _ _ _ v7.symm).trans hHeld.2.2.1)); (have s3 : ((wq.setCell ⟨g7, 0, none⟩ (.int .u64 (hi (hi q * d)))).setCell ⟨g7, 1, none⟩ (.int .u64 (lo (hi q * d)))).cell? ⟨w.heap.size, 1, none⟩ = some (.int .u64 (lo A)) := (World.cell?_setCell_far _ _ _ _ v7.symm).trans ((World.cell?_setCell_far _ _ _ _ v7.symm).trans hHeld.2.2.2.1)); (have s4 := (hHeld.2.2.2.2.setCell (p := ⟨g7, 0, none⟩) m7 (.int .u64 (hi (hi q * d)))).setCell (p := ⟨g7, 1, none⟩) m7 (.int .u64 (lo (hi q * d)))); generalize ((wq.setCell ⟨g7, 0, none⟩ (.int .u64 (hi (hi q * d)))).setCell ⟨g7, 1, none⟩ (.int .u64 (lo (hi q * d)))) = wn at *)
          refine hK.out _ _ ?hSr1_39_10 (fun hHeld2 => ?_)
          case hSr1_39_10 => (exact ⟨s0, s1, s2, s3, s4⟩)
          clear hK K hHeld
          have hHeld := hHeld2
          clear hHeld2
          rename World => wq
          (try simp only [Act.put, List.setIfInBounds_toArray, List.set_cons_zero, List.set_cons_succ])
          refine wpAnyH_ready (rs := [11]) (by kernel_rfl) (by simp) ?_
          refine AllReadyH.cons (o := { dst := none, op := Go.Op.store 34 (Go.Operand.tmp 8) (Go.Operand.tmp 38), type := 0, pos := _, after := #[{ on := 9, ground := Go.Ground.data }, { on := 7, ground := Go.Ground.data }, { on := 10, ground := Go.Ground.chain }, { on := 0, ground := Go.Ground.phase }, { on := 1, ground := Go.Ground.phase }, { on := 2, ground := Go.Ground.phase }, { on := 3, ground := Go.Ground.phase }, { on := 4, ground := Go.Ground.phase }, { on := 5, ground := Go.Ground.phase }, { on := 6, ground := Go.Ground.phase }, { on := 7, ground := Go.Ground.phase }, { on := 8, ground := Go.Ground.phase }, { on := 9, ground := Go.Ground.phase }, { on := 10, ground := Go.Ground.phase }], guard := none }) rfl (fun K hK => ?_) AllReadyH.nil
          ((have c0 := R8.cell 0); (have c1 := R8.cell 1); (simp at c0 c1); (have f0 := R8.frozen 0); (have f1 := R8.frozen 1); go_simp; clear c0 c1 f0 f1; (have Q8 := (R8.set 0 (.int .u64 (hi (lo q * d)))).set 1 (.int .u64 (lo (lo q * d)))); (simp at Q8); clear R8; (try replace R7 := (R7.set_far ⟨g8, 0, none⟩ (.int .u64 (hi (lo q * d))) (by first | exact hne | exact hne.symm)).set_far ⟨g8, 1, none⟩ (.int .u64 (lo (lo q * d))) (by first | exact hne | exact hne.symm)); (try replace Q7 := (Q7.set_far ⟨g8, 0, none⟩ (.int .u64 (hi (lo q * d))) (by first | exact hne | exact hne.symm)).set_far ⟨g8, 1, none⟩ (.int .u64 (lo (lo q * d))) (by first | exact hne | exact hne.symm)); (have s0 : ((wq.setCell ⟨g8, 0, none⟩ (.int .u64 (hi (lo q * d)))).setCell ⟨g8, 1, none⟩ (.int .u64 (lo (lo q * d)))).cell? ⟨g5, 0, none⟩ = some (.int .u64 (hi q)) := (World.cell?_setCell_far _ _ _ _ u8.symm).trans ((World.cell?_setCell_far _ _ _ _ u8.symm).trans hHeld.1)); (have s1 : ((wq.setCell ⟨g8, 0, none⟩ (.int .u64 (hi (lo q * d)))).setCell ⟨g8, 1, none⟩ (.int .u64 (lo (lo q * d)))).cell? ⟨g5, 1, none⟩ = some (.int .u64 (lo q)) := (World.cell?_setCell_far _ _ _ _ u8.symm).trans ((World.cell?_setCell_far _ _ _ _ u8.symm).trans hHeld.2.1)); (have s2 : ((wq.setCell ⟨g8, 0, none⟩ (.int .u64 (hi (lo q * d)))).setCell ⟨g8, 1, none⟩ (.int .u64 (lo (lo q * d)))).cell? ⟨w.heap.size, 0, none⟩ = some (.int .u64 (hi A)) := (World.cell?_setCell_far _ _ _ _ v8.symm).trans ((World.cell?_setCell_far _ _ _ _ v8.symm).trans hHeld.2.2.1)); (have s3 : ((wq.setCell ⟨g8, 0, none⟩ (.int .u64 (hi (lo q * d)))).setCell ⟨g8, 1, none⟩ (.int .u64 (lo (lo q * d)))).cell? ⟨w.heap.size, 1, none⟩ = some (.int .u64 (lo A)) := (World.cell?_setCell_far _ _ _ _ v8.symm).trans ((World.cell?_setCell_far _ _ _ _ v8.symm).trans hHeld.2.2.2.1)); (have s4 := (hHeld.2.2.2.2.setCell (p := ⟨g8, 0, none⟩) m8 (.int .u64 (hi (lo q * d)))).setCell (p := ⟨g8, 1, none⟩) m8 (.int .u64 (lo (lo q * d)))); generalize ((wq.setCell ⟨g8, 0, none⟩ (.int .u64 (hi (lo q * d)))).setCell ⟨g8, 1, none⟩ (.int .u64 (lo (lo q * d)))) = wn at *)
          refine hK.out _ _ ?hSr1_40_11 (fun hHeld2 => ?_)
          case hSr1_40_11 => (exact ⟨s0, s1, s2, s3, s4⟩)
          clear hK K hHeld
          have hHeld := hHeld2
          clear hHeld2
          rename World => wq
          (try simp only [Act.put, List.setIfInBounds_toArray, List.set_cons_zero, List.set_cons_succ])
          refine wpAnyH_done (by kernel_rfl) ?_ _
          (go_wp2_with fail; go_meet; exact ⟨_, _, rfl, rfl, Q7, Q8, hHeld⟩)
        refine AllReadyH.cons (o := { dst := some 8, op := Go.Op.alloc 34, type := 0, pos := _, after := #[], guard := none }) rfl (fun K hK => ?_) AllReadyH.nil
        · (go_simp; (have m8 : w.heap.size ≤ wq.heap.size := hHeld.2.2.2.2.size); (have u8 := Nat.ne_of_lt (World.block_lt_of_cell? _ _ hHeld.1)); (have v8 := Nat.ne_of_lt (World.block_lt_of_cell? _ _ hHeld.2.2.1)); (try have hne := Nat.ne_of_lt R7.lt); (have R8 := Row.new wq #[.int .u64 0, .int .u64 0] 34); (have hq : Below wq.heap.size wq (wq.alloc (.cells #[.int .u64 0, .int .u64 0] 34)) := (Below.refl _ _).alloc (Nat.le_refl _) _); (have s0 := cell_later hq hHeld.1); (have s1 := cell_later hq hHeld.2.1); (have s2 := cell_later hq hHeld.2.2.1); (have s3 := cell_later hq hHeld.2.2.2.1); (have s4 := below_step hHeld.2.2.2.2 hq); (try replace R7 := R7.later hq); clear hq; generalize wq.alloc (.cells #[.int .u64 0, .int .u64 0] 34) = wn at *; generalize wq.heap.size = g8 at *)
          refine hK.out _ _ ?hSr1_41_9 (fun hHeld2 => ?_)
          case hSr1_41_9 => (exact ⟨s0, s1, s2, s3, s4⟩)
          clear hK K hHeld
          have hHeld := hHeld2
          clear hHeld2
          rename World => wq
          (try simp only [Act.put, List.setIfInBounds_toArray, List.set_cons_zero, List.set_cons_succ])
          refine wpAnyH_ready (rs := [7]) (by kernel_rfl) (by simp) ?_
          refine AllReadyH.cons (o := { dst := some 38, op := Go.Op.call { callee := Go.Callee.value (Go.Operand.func 22), args := #[Go.Operand.tmp 36, Go.Operand.tmp 37], argTypes := #[22, 22] }, type := 34, pos := _, after := #[{ on := 5, ground := Go.Ground.data }, { on := 6, ground := Go.Ground.data }, { on := 3, ground := Go.Ground.chain }], guard := none }) rfl (fun K hK => ?_) AllReadyH.nil
          go_simp
          ((refine (refMul_t _ _ (by assumption) (by assumption) _).mono ?_); (rintro e wn ⟨rfl, hq⟩); (try replace R7 := R7.later hq); (try replace R8 := R8.later hq))
          go_wp2_with fail
          refine hK.out _ _ ?hSr1_42_7 (fun hHeld2 => ?_)
          case hSr1_42_7 => (first | exact ⟨d0, d1, a0, a1, hb.drew⟩ | exact ⟨cell_later hq hHeld.1, cell_later hq hHeld.2.1, cell_later hq hHeld.2.2.1, cell_later hq hHeld.2.2.2.1, below_step hHeld.2.2.2.2 hq⟩)
          clear hK K hHeld
          have hHeld := hHeld2
          clear hHeld2
          rename World => wq
          (try simp only [Act.put, List.setIfInBounds_toArray, List.set_cons_zero, List.set_cons_succ])
          refine wpAnyH_ready (rs := [10]) (by kernel_rfl) (by simp) ?_
          refine AllReadyH.cons (o := { dst := none, op := Go.Op.store 34 (Go.Operand.tmp 7) (Go.Operand.tmp 34), type := 0, pos := _, after := #[{ on := 8, ground := Go.Ground.data }, { on := 3, ground := Go.Ground.data }, { on := 7, ground := Go.Ground.chain }, { on := 0, ground := Go.Ground.phase }, { on := 1, ground := Go.Ground.phase }, { on := 2, ground := Go.Ground.phase }, { on := 3, ground := Go.Ground.phase }, { on := 4, ground := Go.Ground.textOnly Go.Departure.lateStores }, { on := 5, ground := Go.Ground.textOnly Go.Departure.lateStores }, { on := 6, ground := Go.Ground.textOnly Go.Departure.lateStores }, { on := 7, ground := Go.Ground.textOnly Go.Departure.lateStoresUnsure }, { on := 8, ground := Go.Ground.phase }, { on := 9, ground := Go.Ground.phase }], guard := none }) rfl (fun K hK => ?_) AllReadyH.nil
          ((have c0 := R7.cell 0); (have c1 := R7.cell 1); (simp at c0 c1); (have f0 := R7.frozen 0); (have f1 := R7.frozen 1); go_simp; clear c0 c1 f0 f1; (have Q7 := (R7.set 0 (.int .u64 (hi (hi q * d)))).set 1 (.int .u64 (lo (hi q * d)))); (simp at Q7); clear R7; (try replace R8 := (R8.set_far ⟨g7, 0, none⟩ (.int .u64 (hi (hi q * d))) (by first | exact hne | exact hne.symm)).set_far ⟨g7, 1, none⟩ (.int .u64 (lo (hi q * d))) (by first | exact hne | exact hne.symm)); (try replace Q8 := (Q8.set_far ⟨g7, 0, none⟩ (.int .u64 (hi (hi q * d))) (by first | exact hne | exact hne.symm)).set_far ⟨g7, 1, none⟩ (.int .u64 (lo (hi q * d))) (by first | exact hne | exact hne.symm)); (have s0 : ((wq.setCell ⟨g7, 0, none⟩ (.int .u64 (hi (hi q * d)))).setCell ⟨g7, 1, none⟩ (.int .u64 (lo (hi q * d)))).cell? ⟨g5, 0, none⟩ = some (.int .u64 (hi q)) := (World.cell?_setCell_far _ _ _ _ u7.symm).trans ((World.cell?_setCell_far _ _ _ _ u7.symm).trans hHeld.1)); (have s1 : ((wq.setCell ⟨g7, 0, none⟩ (.int .u64 (hi (hi q * d)))).setCell ⟨g7, 1, none⟩ (.int .u64 (lo (hi q * d)))).cell? ⟨g5, 1, none⟩ = some (.int .u64 (lo q)) := (World.cell?_setCell_far _ _ _ _ u7.symm).trans ((World.cell?_setCell_far _ _ _ _ u7.symm).trans hHeld.2.1)); (have s2 : ((wq.setCell ⟨g7, 0, none⟩ (.int .u64 (hi (hi q * d)))).setCell ⟨g7, 1, none⟩ (.int .u64 (lo (hi q * d)))).cell? ⟨w.heap.size, 0, none⟩ = some (.int .u64 (hi A)) := (World.cell?_setCell_far _ _ _ _ v7.symm).trans ((World.cell?_setCell_far _ _ _ _ v7.symm).trans hHeld.2.2.1)); (have s3 : ((wq.setCell ⟨g7, 0, none⟩ (.int .u64 (hi (hi q * d)))).setCell ⟨g7, 1, none⟩ (.int .u64 (lo (hi q * d)))).cell? ⟨w.heap.size, 1, none⟩ = some (.int .u64 (lo A)) := (World.cell?_setCell_far _ _ _ _ v7.symm).trans ((World.cell?_setCell_far _ _ _ _ v7.symm).trans hHeld.2.2.2.1)); (have s4 := (hHeld.2.2.2.2.setCell (p := ⟨g7, 0, none⟩) m7 (.int .u64 (hi (hi q * d)))).setCell (p := ⟨g7, 1, none⟩) m7 (.int .u64 (lo (hi q * d)))); generalize ((wq.setCell ⟨g7, 0, none⟩ (.int .u64 (hi (hi q * d)))).setCell ⟨g7, 1, none⟩ (.int .u64 (lo (hi q * d)))) = wn at *)
          refine hK.out _ _ ?hSr1_43_10 (fun hHeld2 => ?_)
          case hSr1_43_10 => (exact ⟨s0, s1, s2, s3, s4⟩)
          clear hK K hHeld
          have hHeld := hHeld2
          clear hHeld2
          rename World => wq
          (try simp only [Act.put, List.setIfInBounds_toArray, List.set_cons_zero, List.set_cons_succ])
          refine wpAnyH_ready (rs := [11]) (by kernel_rfl) (by simp) ?_
          refine AllReadyH.cons (o := { dst := none, op := Go.Op.store 34 (Go.Operand.tmp 8) (Go.Operand.tmp 38), type := 0, pos := _, after := #[{ on := 9, ground := Go.Ground.data }, { on := 7, ground := Go.Ground.data }, { on := 10, ground := Go.Ground.chain }, { on := 0, ground := Go.Ground.phase }, { on := 1, ground := Go.Ground.phase }, { on := 2, ground := Go.Ground.phase }, { on := 3, ground := Go.Ground.phase }, { on := 4, ground := Go.Ground.phase }, { on := 5, ground := Go.Ground.phase }, { on := 6, ground := Go.Ground.phase }, { on := 7, ground := Go.Ground.phase }, { on := 8, ground := Go.Ground.phase }, { on := 9, ground := Go.Ground.phase }, { on := 10, ground := Go.Ground.phase }], guard := none }) rfl (fun K hK => ?_) AllReadyH.nil
          ((have c0 := R8.cell 0); (have c1 := R8.cell 1); (simp at c0 c1); (have f0 := R8.frozen 0); (have f1 := R8.frozen 1); go_simp; clear c0 c1 f0 f1; (have Q8 := (R8.set 0 (.int .u64 (hi (lo q * d)))).set 1 (.int .u64 (lo (lo q * d)))); (simp at Q8); clear R8; (try replace R7 := (R7.set_far ⟨g8, 0, none⟩ (.int .u64 (hi (lo q * d))) (by first | exact hne | exact hne.symm)).set_far ⟨g8, 1, none⟩ (.int .u64 (lo (lo q * d))) (by first | exact hne | exact hne.symm)); (try replace Q7 := (Q7.set_far ⟨g8, 0, none⟩ (.int .u64 (hi (lo q * d))) (by first | exact hne | exact hne.symm)).set_far ⟨g8, 1, none⟩ (.int .u64 (lo (lo q * d))) (by first | exact hne | exact hne.symm)); (have s0 : ((wq.setCell ⟨g8, 0, none⟩ (.int .u64 (hi (lo q * d)))).setCell ⟨g8, 1, none⟩ (.int .u64 (lo (lo q * d)))).cell? ⟨g5, 0, none⟩ = some (.int .u64 (hi q)) := (World.cell?_setCell_far _ _ _ _ u8.symm).trans ((World.cell?_setCell_far _ _ _ _ u8.symm).trans hHeld.1)); (have s1 : ((wq.setCell ⟨g8, 0, none⟩ (.int .u64 (hi (lo q * d)))).setCell ⟨g8, 1, none⟩ (.int .u64 (lo (lo q * d)))).cell? ⟨g5, 1, none⟩ = some (.int .u64 (lo q)) := (World.cell?_setCell_far _ _ _ _ u8.symm).trans ((World.cell?_setCell_far _ _ _ _ u8.symm).trans hHeld.2.1)); (have s2 : ((wq.setCell ⟨g8, 0, none⟩ (.int .u64 (hi (lo q * d)))).setCell ⟨g8, 1, none⟩ (.int .u64 (lo (lo q * d)))).cell? ⟨w.heap.size, 0, none⟩ = some (.int .u64 (hi A)) := (World.cell?_setCell_far _ _ _ _ v8.symm).trans ((World.cell?_setCell_far _ _ _ _ v8.symm).trans hHeld.2.2.1)); (have s3 : ((wq.setCell ⟨g8, 0, none⟩ (.int .u64 (hi (lo q * d)))).setCell ⟨g8, 1, none⟩ (.int .u64 (lo (lo q * d)))).cell? ⟨w.heap.size, 1, none⟩ = some (.int .u64 (lo A)) := (World.cell?_setCell_far _ _ _ _ v8.symm).trans ((World.cell?_setCell_far _ _ _ _ v8.symm).trans hHeld.2.2.2.1)); (have s4 := (hHeld.2.2.2.2.setCell (p := ⟨g8, 0, none⟩) m8 (.int .u64 (hi (lo q * d)))).setCell (p := ⟨g8, 1, none⟩) m8 (.int .u64 (lo (lo q * d)))); generalize ((wq.setCell ⟨g8, 0, none⟩ (.int .u64 (hi (lo q * d)))).setCell ⟨g8, 1, none⟩ (.int .u64 (lo (lo q * d)))) = wn at *)
          refine hK.out _ _ ?hSr1_44_11 (fun hHeld2 => ?_)
          case hSr1_44_11 => (exact ⟨s0, s1, s2, s3, s4⟩)
          clear hK K hHeld
          have hHeld := hHeld2
          clear hHeld2
          rename World => wq
          (try simp only [Act.put, List.setIfInBounds_toArray, List.set_cons_zero, List.set_cons_succ])
          refine wpAnyH_done (by kernel_rfl) ?_ _
          (go_wp2_with fail; go_meet; exact ⟨_, _, rfl, rfl, Q7, Q8, hHeld⟩)
      refine AllReadyH.cons (o := { dst := some 8, op := Go.Op.alloc 34, type := 0, pos := _, after := #[], guard := none }) rfl (fun K hK => ?_) AllReadyH.nil
      · (go_simp; (have m8 : w.heap.size ≤ wq.heap.size := hHeld.2.2.2.2.size); (have u8 := Nat.ne_of_lt (World.block_lt_of_cell? _ _ hHeld.1)); (have v8 := Nat.ne_of_lt (World.block_lt_of_cell? _ _ hHeld.2.2.1)); (try have hne := Nat.ne_of_lt R7.lt); (have R8 := Row.new wq #[.int .u64 0, .int .u64 0] 34); (have hq : Below wq.heap.size wq (wq.alloc (.cells #[.int .u64 0, .int .u64 0] 34)) := (Below.refl _ _).alloc (Nat.le_refl _) _); (have s0 := cell_later hq hHeld.1); (have s1 := cell_later hq hHeld.2.1); (have s2 := cell_later hq hHeld.2.2.1); (have s3 := cell_later hq hHeld.2.2.2.1); (have s4 := below_step hHeld.2.2.2.2 hq); (try replace R7 := R7.later hq); clear hq; generalize wq.alloc (.cells #[.int .u64 0, .int .u64 0] 34) = wn at *; generalize wq.heap.size = g8 at *)
        refine hK.out _ _ ?hSr1_45_9 (fun hHeld2 => ?_)
        case hSr1_45_9 => (exact ⟨s0, s1, s2, s3, s4⟩)
        clear hK K hHeld
        have hHeld := hHeld2
        clear hHeld2
        rename World => wq
        (try simp only [Act.put, List.setIfInBounds_toArray, List.set_cons_zero, List.set_cons_succ])
        refine wpAnyH_ready (rs := [3]) (by kernel_rfl) (by simp) ?_
        refine AllReadyH.cons (o := { dst := some 34, op := Go.Op.call { callee := Go.Callee.value (Go.Operand.func 22), args := #[Go.Operand.tmp 32, Go.Operand.tmp 33], argTypes := #[22, 22] }, type := 34, pos := _, after := #[{ on := 1, ground := Go.Ground.data }, { on := 2, ground := Go.Ground.data }], guard := none }) rfl (fun K hK => ?_) AllReadyH.nil
        go_simp
        ((refine (refMul_t _ _ (by assumption) (by assumption) _).mono ?_); (rintro e wn ⟨rfl, hq⟩); (try replace R7 := R7.later hq); (try replace R8 := R8.later hq))
        go_wp2_with fail
        refine hK.out _ _ ?hSr1_46_3 (fun hHeld2 => ?_)
        case hSr1_46_3 => (first | exact ⟨d0, d1, a0, a1, hb.drew⟩ | exact ⟨cell_later hq hHeld.1, cell_later hq hHeld.2.1, cell_later hq hHeld.2.2.1, cell_later hq hHeld.2.2.2.1, below_step hHeld.2.2.2.2 hq⟩)
        clear hK K hHeld
        have hHeld := hHeld2
        clear hHeld2
        rename World => wq
        (try simp only [Act.put, List.setIfInBounds_toArray, List.set_cons_zero, List.set_cons_succ])
        refine wpAnyH_ready (rs := [7]) (by kernel_rfl) (by simp) ?_
        refine AllReadyH.cons (o := { dst := some 38, op := Go.Op.call { callee := Go.Callee.value (Go.Operand.func 22), args := #[Go.Operand.tmp 36, Go.Operand.tmp 37], argTypes := #[22, 22] }, type := 34, pos := _, after := #[{ on := 5, ground := Go.Ground.data }, { on := 6, ground := Go.Ground.data }, { on := 3, ground := Go.Ground.chain }], guard := none }) rfl (fun K hK => ?_) AllReadyH.nil
        go_simp
        ((refine (refMul_t _ _ (by assumption) (by assumption) _).mono ?_); (rintro e wn ⟨rfl, hq⟩); (try replace R7 := R7.later hq); (try replace R8 := R8.later hq))
        go_wp2_with fail
        refine hK.out _ _ ?hSr1_47_7 (fun hHeld2 => ?_)
        case hSr1_47_7 => (first | exact ⟨d0, d1, a0, a1, hb.drew⟩ | exact ⟨cell_later hq hHeld.1, cell_later hq hHeld.2.1, cell_later hq hHeld.2.2.1, cell_later hq hHeld.2.2.2.1, below_step hHeld.2.2.2.2 hq⟩)
        clear hK K hHeld
        have hHeld := hHeld2
        clear hHeld2
        rename World => wq
        (try simp only [Act.put, List.setIfInBounds_toArray, List.set_cons_zero, List.set_cons_succ])
        refine wpAnyH_ready (rs := [10]) (by kernel_rfl) (by simp) ?_
        refine AllReadyH.cons (o := { dst := none, op := Go.Op.store 34 (Go.Operand.tmp 7) (Go.Operand.tmp 34), type := 0, pos := _, after := #[{ on := 8, ground := Go.Ground.data }, { on := 3, ground := Go.Ground.data }, { on := 7, ground := Go.Ground.chain }, { on := 0, ground := Go.Ground.phase }, { on := 1, ground := Go.Ground.phase }, { on := 2, ground := Go.Ground.phase }, { on := 3, ground := Go.Ground.phase }, { on := 4, ground := Go.Ground.textOnly Go.Departure.lateStores }, { on := 5, ground := Go.Ground.textOnly Go.Departure.lateStores }, { on := 6, ground := Go.Ground.textOnly Go.Departure.lateStores }, { on := 7, ground := Go.Ground.textOnly Go.Departure.lateStoresUnsure }, { on := 8, ground := Go.Ground.phase }, { on := 9, ground := Go.Ground.phase }], guard := none }) rfl (fun K hK => ?_) AllReadyH.nil
        ((have c0 := R7.cell 0); (have c1 := R7.cell 1); (simp at c0 c1); (have f0 := R7.frozen 0); (have f1 := R7.frozen 1); go_simp; clear c0 c1 f0 f1; (have Q7 := (R7.set 0 (.int .u64 (hi (hi q * d)))).set 1 (.int .u64 (lo (hi q * d)))); (simp at Q7); clear R7; (try replace R8 := (R8.set_far ⟨g7, 0, none⟩ (.int .u64 (hi (hi q * d))) (by first | exact hne | exact hne.symm)).set_far ⟨g7, 1, none⟩ (.int .u64 (lo (hi q * d))) (by first | exact hne | exact hne.symm)); (try replace Q8 := (Q8.set_far ⟨g7, 0, none⟩ (.int .u64 (hi (hi q * d))) (by first | exact hne | exact hne.symm)).set_far ⟨g7, 1, none⟩ (.int .u64 (lo (hi q * d))) (by first | exact hne | exact hne.symm)); (have s0 : ((wq.setCell ⟨g7, 0, none⟩ (.int .u64 (hi (hi q * d)))).setCell ⟨g7, 1, none⟩ (.int .u64 (lo (hi q * d)))).cell? ⟨g5, 0, none⟩ = some (.int .u64 (hi q)) := (World.cell?_setCell_far _ _ _ _ u7.symm).trans ((World.cell?_setCell_far _ _ _ _ u7.symm).trans hHeld.1)); (have s1 : ((wq.setCell ⟨g7, 0, none⟩ (.int .u64 (hi (hi q * d)))).setCell ⟨g7, 1, none⟩ (.int .u64 (lo (hi q * d)))).cell? ⟨g5, 1, none⟩ = some (.int .u64 (lo q)) := (World.cell?_setCell_far _ _ _ _ u7.symm).trans ((World.cell?_setCell_far _ _ _ _ u7.symm).trans hHeld.2.1)); (have s2 : ((wq.setCell ⟨g7, 0, none⟩ (.int .u64 (hi (hi q * d)))).setCell ⟨g7, 1, none⟩ (.int .u64 (lo (hi q * d)))).cell? ⟨w.heap.size, 0, none⟩ = some (.int .u64 (hi A)) := (World.cell?_setCell_far _ _ _ _ v7.symm).trans ((World.cell?_setCell_far _ _ _ _ v7.symm).trans hHeld.2.2.1)); (have s3 : ((wq.setCell ⟨g7, 0, none⟩ (.int .u64 (hi (hi q * d)))).setCell ⟨g7, 1, none⟩ (.int .u64 (lo (hi q * d)))).cell? ⟨w.heap.size, 1, none⟩ = some (.int .u64 (lo A)) := (World.cell?_setCell_far _ _ _ _ v7.symm).trans ((World.cell?_setCell_far _ _ _ _ v7.symm).trans hHeld.2.2.2.1)); (have s4 := (hHeld.2.2.2.2.setCell (p := ⟨g7, 0, none⟩) m7 (.int .u64 (hi (hi q * d)))).setCell (p := ⟨g7, 1, none⟩) m7 (.int .u64 (lo (hi q * d)))); generalize ((wq.setCell ⟨g7, 0, none⟩ (.int .u64 (hi (hi q * d)))).setCell ⟨g7, 1, none⟩ (.int .u64 (lo (hi q * d)))) = wn at *)
        refine hK.out _ _ ?hSr1_48_10 (fun hHeld2 => ?_)
        case hSr1_48_10 => (exact ⟨s0, s1, s2, s3, s4⟩)
        clear hK K hHeld
        have hHeld := hHeld2
        clear hHeld2
        rename World => wq
        (try simp only [Act.put, List.setIfInBounds_toArray, List.set_cons_zero, List.set_cons_succ])
        refine wpAnyH_ready (rs := [11]) (by kernel_rfl) (by simp) ?_
        refine AllReadyH.cons (o := { dst := none, op := Go.Op.store 34 (Go.Operand.tmp 8) (Go.Operand.tmp 38), type := 0, pos := _, after := #[{ on := 9, ground := Go.Ground.data }, { on := 7, ground := Go.Ground.data }, { on := 10, ground := Go.Ground.chain }, { on := 0, ground := Go.Ground.phase }, { on := 1, ground := Go.Ground.phase }, { on := 2, ground := Go.Ground.phase }, { on := 3, ground := Go.Ground.phase }, { on := 4, ground := Go.Ground.phase }, { on := 5, ground := Go.Ground.phase }, { on := 6, ground := Go.Ground.phase }, { on := 7, ground := Go.Ground.phase }, { on := 8, ground := Go.Ground.phase }, { on := 9, ground := Go.Ground.phase }, { on := 10, ground := Go.Ground.phase }], guard := none }) rfl (fun K hK => ?_) AllReadyH.nil
        ((have c0 := R8.cell 0); (have c1 := R8.cell 1); (simp at c0 c1); (have f0 := R8.frozen 0); (have f1 := R8.frozen 1); go_simp; clear c0 c1 f0 f1; (have Q8 := (R8.set 0 (.int .u64 (hi (lo q * d)))).set 1 (.int .u64 (lo (lo q * d)))); (simp at Q8); clear R8; (try replace R7 := (R7.set_far ⟨g8, 0, none⟩ (.int .u64 (hi (lo q * d))) (by first | exact hne | exact hne.symm)).set_far ⟨g8, 1, none⟩ (.int .u64 (lo (lo q * d))) (by first | exact hne | exact hne.symm)); (try replace Q7 := (Q7.set_far ⟨g8, 0, none⟩ (.int .u64 (hi (lo q * d))) (by first | exact hne | exact hne.symm)).set_far ⟨g8, 1, none⟩ (.int .u64 (lo (lo q * d))) (by first | exact hne | exact hne.symm)); (have s0 : ((wq.setCell ⟨g8, 0, none⟩ (.int .u64 (hi (lo q * d)))).setCell ⟨g8, 1, none⟩ (.int .u64 (lo (lo q * d)))).cell? ⟨g5, 0, none⟩ = some (.int .u64 (hi q)) := (World.cell?_setCell_far _ _ _ _ u8.symm).trans ((World.cell?_setCell_far _ _ _ _ u8.symm).trans hHeld.1)); (have s1 : ((wq.setCell ⟨g8, 0, none⟩ (.int .u64 (hi (lo q * d)))).setCell ⟨g8, 1, none⟩ (.int .u64 (lo (lo q * d)))).cell? ⟨g5, 1, none⟩ = some (.int .u64 (lo q)) := (World.cell?_setCell_far _ _ _ _ u8.symm).trans ((World.cell?_setCell_far _ _ _ _ u8.symm).trans hHeld.2.1)); (have s2 : ((wq.setCell ⟨g8, 0, none⟩ (.int .u64 (hi (lo q * d)))).setCell ⟨g8, 1, none⟩ (.int .u64 (lo (lo q * d)))).cell? ⟨w.heap.size, 0, none⟩ = some (.int .u64 (hi A)) := (World.cell?_setCell_far _ _ _ _ v8.symm).trans ((World.cell?_setCell_far _ _ _ _ v8.symm).trans hHeld.2.2.1)); (have s3 : ((wq.setCell ⟨g8, 0, none⟩ (.int .u64 (hi (lo q * d)))).setCell ⟨g8, 1, none⟩ (.int .u64 (lo (lo q * d)))).cell? ⟨w.heap.size, 1, none⟩ = some (.int .u64 (lo A)) := (World.cell?_setCell_far _ _ _ _ v8.symm).trans ((World.cell?_setCell_far _ _ _ _ v8.symm).trans hHeld.2.2.2.1)); (have s4 := (hHeld.2.2.2.2.setCell (p := ⟨g8, 0, none⟩) m8 (.int .u64 (hi (lo q * d)))).setCell (p := ⟨g8, 1, none⟩) m8 (.int .u64 (lo (lo q * d)))); generalize ((wq.setCell ⟨g8, 0, none⟩ (.int .u64 (hi (lo q * d)))).setCell ⟨g8, 1, none⟩ (.int .u64 (lo (lo q * d)))) = wn at *)
        refine hK.out _ _ ?hSr1_49_11 (fun hHeld2 => ?_)
        case hSr1_49_11 => (exact ⟨s0, s1, s2, s3, s4⟩)
        clear hK K hHeld
        have hHeld := hHeld2
        clear hHeld2
        rename World => wq
        (try simp only [Act.put, List.setIfInBounds_toArray, List.set_cons_zero, List.set_cons_succ])
        refine wpAnyH_done (by kernel_rfl) ?_ _
        (go_wp2_with fail; go_meet; exact ⟨_, _, rfl, rfl, Q7, Q8, hHeld⟩)
    refine AllReadyH.cons (o := { dst := some 8, op := Go.Op.alloc 34, type := 0, pos := _, after := #[], guard := none }) rfl (fun K hK => ?_) AllReadyH.nil
    · (go_simp; (have m8 : w.heap.size ≤ wq.heap.size := hHeld.2.2.2.2.size); (have u8 := Nat.ne_of_lt (World.block_lt_of_cell? _ _ hHeld.1)); (have v8 := Nat.ne_of_lt (World.block_lt_of_cell? _ _ hHeld.2.2.1)); (try have hne := Nat.ne_of_lt R7.lt); (have R8 := Row.new wq #[.int .u64 0, .int .u64 0] 34); (have hq : Below wq.heap.size wq (wq.alloc (.cells #[.int .u64 0, .int .u64 0] 34)) := (Below.refl _ _).alloc (Nat.le_refl _) _); (have s0 := cell_later hq hHeld.1); (have s1 := cell_later hq hHeld.2.1); (have s2 := cell_later hq hHeld.2.2.1); (have s3 := cell_later hq hHeld.2.2.2.1); (have s4 := below_step hHeld.2.2.2.2 hq); (try replace R7 := R7.later hq); clear hq; generalize wq.alloc (.cells #[.int .u64 0, .int .u64 0] 34) = wn at *; generalize wq.heap.size = g8 at *)
      refine hK.out _ _ ?hSr1_50_9 (fun hHeld2 => ?_)
      case hSr1_50_9 => (exact ⟨s0, s1, s2, s3, s4⟩)
      clear hK K hHeld
      have hHeld := hHeld2
      clear hHeld2
      rename World => wq
      (try simp only [Act.put, List.setIfInBounds_toArray, List.set_cons_zero, List.set_cons_succ])
      refine wpAnyH_ready (rs := [3, 8]) (by kernel_rfl) (by simp) ?_
      refine AllReadyH.cons (o := { dst := some 34, op := Go.Op.call { callee := Go.Callee.value (Go.Operand.func 22), args := #[Go.Operand.tmp 32, Go.Operand.tmp 33], argTypes := #[22, 22] }, type := 34, pos := _, after := #[{ on := 1, ground := Go.Ground.data }, { on := 2, ground := Go.Ground.data }], guard := none }) rfl (fun K hK => ?_) ?_
      · go_simp
        ((refine (refMul_t _ _ (by assumption) (by assumption) _).mono ?_); (rintro e wn ⟨rfl, hq⟩); (try replace R7 := R7.later hq); (try replace R8 := R8.later hq))
        go_wp2_with fail
        refine hK.out _ _ ?hSr1_51_3 (fun hHeld2 => ?_)
        case hSr1_51_3 => (first | exact ⟨d0, d1, a0, a1, hb.drew⟩ | exact ⟨cell_later hq hHeld.1, cell_later hq hHeld.2.1, cell_later hq hHeld.2.2.1, cell_later hq hHeld.2.2.2.1, below_step hHeld.2.2.2.2 hq⟩)
        clear hK K hHeld
        have hHeld := hHeld2
        clear hHeld2
        rename World => wq
        (try simp only [Act.put, List.setIfInBounds_toArray, List.set_cons_zero, List.set_cons_succ])
        refine wpAnyH_ready (rs := [7, 8]) (by kernel_rfl) (by simp) ?_
        refine AllReadyH.cons (o := { dst := some 38, op := Go.Op.call { callee := Go.Callee.value (Go.Operand.func 22), args := #[Go.Operand.tmp 36, Go.Operand.tmp 37], argTypes := #[22, 22] }, type := 34, pos := _, after := #[{ on := 5, ground := Go.Ground.data }, { on := 6, ground := Go.Ground.data }, { on := 3, ground := Go.Ground.chain }], guard := none }) rfl (fun K hK => ?_) ?_
        · go_simp
          ((refine (refMul_t _ _ (by assumption) (by assumption) _).mono ?_); (rintro e wn ⟨rfl, hq⟩); (try replace R7 := R7.later hq); (try replace R8 := R8.later hq))
          go_wp2_with fail
          refine hK.out _ _ ?hSr1_52_7 (fun hHeld2 => ?_)
          case hSr1_52_7 => (first | exact ⟨d0, d1, a0, a1, hb.drew⟩ | exact ⟨cell_later hq hHeld.1, cell_later hq hHeld.2.1, cell_later hq hHeld.2.2.1, cell_later hq hHeld.2.2.2.1, below_step hHeld.2.2.2.2 hq⟩)
          clear hK K hHeld
          have hHeld := hHeld2
          clear hHeld2
          rename World => wq
          (try simp only [Act.put, List.setIfInBounds_toArray, List.set_cons_zero, List.set_cons_succ])
          refine wpAnyH_ready (rs := [8]) (by kernel_rfl) (by simp) ?_
          refine AllReadyH.cons (o := { dst := some 7, op := Go.Op.alloc 34, type := 0, pos := _, after := #[], guard := none }) rfl (fun K hK => ?_) AllReadyH.nil
          (go_simp; (have m7 : w.heap.size ≤ wq.heap.size := hHeld.2.2.2.2.size); (have u7 := Nat.ne_of_lt (World.block_lt_of_cell? _ _ hHeld.1)); (have v7 := Nat.ne_of_lt (World.block_lt_of_cell? _ _ hHeld.2.2.1)); (try have hne := Nat.ne_of_lt R8.lt); (have R7 := Row.new wq #[.int .u64 0, .int .u64 0] 34); (have hq : Below wq.heap.size wq (wq.alloc (.cells #[.int .u64 0, .int .u64 0] 34)) := (Below.refl _ _).alloc (Nat.le_refl _) _); (have s0 := cell_later hq hHeld.1); (have s1 := cell_later hq hHeld.2.1); (have s2 := cell_later hq hHeld.2.2.1); (have s3 := cell_later hq hHeld.2.2.2.1); (have s4 := below_step hHeld.2.2.2.2 hq); (try replace R8 := R8.later hq); clear hq; generalize wq.alloc (.cells #[.int .u64 0, .int .u64 0] 34) = wn at *; generalize wq.heap.size = g7 at *)
          refine hK.out _ _ ?hSr1_53_8 (fun hHeld2 => ?_)
          case hSr1_53_8 => (exact ⟨s0, s1, s2, s3, s4⟩)
          clear hK K hHeld
          have hHeld := hHeld2
          clear hHeld2
          rename World => wq
          (try simp only [Act.put, List.setIfInBounds_toArray, List.set_cons_zero, List.set_cons_succ])
          refine wpAnyH_ready (rs := [10]) (by kernel_rfl) (by simp) ?_
          refine AllReadyH.cons (o := { dst := none, op := Go.Op.store 34 (Go.Operand.tmp 7) (Go.Operand.tmp 34), type := 0, pos := _, after := #[{ on := 8, ground := Go.Ground.data }, { on := 3, ground := Go.Ground.data }, { on := 7, ground := Go.Ground.chain }, { on := 0, ground := Go.Ground.phase }, { on := 1, ground := Go.Ground.phase }, { on := 2, ground := Go.Ground.phase }, { on := 3, ground := Go.Ground.phase }, { on := 4, ground := Go.Ground.textOnly Go.Departure.lateStores }, { on := 5, ground := Go.Ground.textOnly Go.Departure.lateStores }, { on := 6, ground := Go.Ground.textOnly Go.Departure.lateStores }, { on := 7, ground := Go.Ground.textOnly Go.Departure.lateStoresUnsure }, { on := 8, ground := Go.Ground.phase }, { on := 9, ground := Go.Ground.phase }], guard := none }) rfl (fun K hK => ?_) AllReadyH.nil
          ((have c0 := R7.cell 0); (have c1 := R7.cell 1); (simp at c0 c1); (have f0 := R7.frozen 0); (have f1 := R7.frozen 1); go_simp; clear c0 c1 f0 f1; (have Q7 := (R7.set 0 (.int .u64 (hi (hi q * d)))).set 1 (.int .u64 (lo (hi q * d)))); (simp at Q7); clear R7; (try replace R8 := (R8.set_far ⟨g7, 0, none⟩ (.int .u64 (hi (hi q * d))) (by first | exact hne | exact hne.symm)).set_far ⟨g7, 1, none⟩ (.int .u64 (lo (hi q * d))) (by first | exact hne | exact hne.symm)); (try replace Q8 := (Q8.set_far ⟨g7, 0, none⟩ (.int .u64 (hi (hi q * d))) (by first | exact hne | exact hne.symm)).set_far ⟨g7, 1, none⟩ (.int .u64 (lo (hi q * d))) (by first | exact hne | exact hne.symm)); (have s0 : ((wq.setCell ⟨g7, 0, none⟩ (.int .u64 (hi (hi q * d)))).setCell ⟨g7, 1, none⟩ (.int .u64 (lo (hi q * d)))).cell? ⟨g5, 0, none⟩ = some (.int .u64 (hi q)) := (World.cell?_setCell_far _ _ _ _ u7.symm).trans ((World.cell?_setCell_far _ _ _ _ u7.symm).trans hHeld.1)); (have s1 : ((wq.setCell ⟨g7, 0, none⟩ (.int .u64 (hi (hi q * d)))).setCell ⟨g7, 1, none⟩ (.int .u64 (lo (hi q * d)))).cell? ⟨g5, 1, none⟩ = some (.int .u64 (lo q)) := (World.cell?_setCell_far _ _ _ _ u7.symm).trans ((World.cell?_setCell_far _ _ _ _ u7.symm).trans hHeld.2.1)); (have s2 : ((wq.setCell ⟨g7, 0, none⟩ (.int .u64 (hi (hi q * d)))).setCell ⟨g7, 1, none⟩ (.int .u64 (lo (hi q * d)))).cell? ⟨w.heap.size, 0, none⟩ = some (.int .u64 (hi A)) := (World.cell?_setCell_far _ _ _ _ v7.symm).trans ((World.cell?_setCell_far _ _ _ _ v7.symm).trans hHeld.2.2.1)); (have s3 : ((wq.setCell ⟨g7, 0, none⟩ (.int .u64 (hi (hi q * d)))).setCell ⟨g7, 1, none⟩ (.int .u64 (lo (hi q * d)))).cell? ⟨w.heap.size, 1, none⟩ = some (.int .u64 (lo A)) := (World.cell?_setCell_far _ _ _ _ v7.symm).trans ((World.cell?_setCell_far _ _ _ _ v7.symm).trans hHeld.2.2.2.1)); (have s4 := (hHeld.2.2.2.2.setCell (p := ⟨g7, 0, none⟩) m7 (.int .u64 (hi (hi q * d)))).setCell (p := ⟨g7, 1, none⟩) m7 (.int .u64 (lo (hi q * d)))); generalize ((wq.setCell ⟨g7, 0, none⟩ (.int .u64 (hi (hi q * d)))).setCell ⟨g7, 1, none⟩ (.int .u64 (lo (hi q * d)))) = wn at *)
          refine hK.out _ _ ?hSr1_54_10 (fun hHeld2 => ?_)
          case hSr1_54_10 => (exact ⟨s0, s1, s2, s3, s4⟩)
          clear hK K hHeld
          have hHeld := hHeld2
          clear hHeld2
          rename World => wq
          (try simp only [Act.put, List.setIfInBounds_toArray, List.set_cons_zero, List.set_cons_succ])
          refine wpAnyH_ready (rs := [11]) (by kernel_rfl) (by simp) ?_
          refine AllReadyH.cons (o := { dst := none, op := Go.Op.store 34 (Go.Operand.tmp 8) (Go.Operand.tmp 38), type := 0, pos := _, after := #[{ on := 9, ground := Go.Ground.data }, { on := 7, ground := Go.Ground.data }, { on := 10, ground := Go.Ground.chain }, { on := 0, ground := Go.Ground.phase }, { on := 1, ground := Go.Ground.phase }, { on := 2, ground := Go.Ground.phase }, { on := 3, ground := Go.Ground.phase }, { on := 4, ground := Go.Ground.phase }, { on := 5, ground := Go.Ground.phase }, { on := 6, ground := Go.Ground.phase }, { on := 7, ground := Go.Ground.phase }, { on := 8, ground := Go.Ground.phase }, { on := 9, ground := Go.Ground.phase }, { on := 10, ground := Go.Ground.phase }], guard := none }) rfl (fun K hK => ?_) AllReadyH.nil
          ((have c0 := R8.cell 0); (have c1 := R8.cell 1); (simp at c0 c1); (have f0 := R8.frozen 0); (have f1 := R8.frozen 1); go_simp; clear c0 c1 f0 f1; (have Q8 := (R8.set 0 (.int .u64 (hi (lo q * d)))).set 1 (.int .u64 (lo (lo q * d)))); (simp at Q8); clear R8; (try replace R7 := (R7.set_far ⟨g8, 0, none⟩ (.int .u64 (hi (lo q * d))) (by first | exact hne | exact hne.symm)).set_far ⟨g8, 1, none⟩ (.int .u64 (lo (lo q * d))) (by first | exact hne | exact hne.symm)); (try replace Q7 := (Q7.set_far ⟨g8, 0, none⟩ (.int .u64 (hi (lo q * d))) (by first | exact hne | exact hne.symm)).set_far ⟨g8, 1, none⟩ (.int .u64 (lo (lo q * d))) (by first | exact hne | exact hne.symm)); (have s0 : ((wq.setCell ⟨g8, 0, none⟩ (.int .u64 (hi (lo q * d)))).setCell ⟨g8, 1, none⟩ (.int .u64 (lo (lo q * d)))).cell? ⟨g5, 0, none⟩ = some (.int .u64 (hi q)) := (World.cell?_setCell_far _ _ _ _ u8.symm).trans ((World.cell?_setCell_far _ _ _ _ u8.symm).trans hHeld.1)); (have s1 : ((wq.setCell ⟨g8, 0, none⟩ (.int .u64 (hi (lo q * d)))).setCell ⟨g8, 1, none⟩ (.int .u64 (lo (lo q * d)))).cell? ⟨g5, 1, none⟩ = some (.int .u64 (lo q)) := (World.cell?_setCell_far _ _ _ _ u8.symm).trans ((World.cell?_setCell_far _ _ _ _ u8.symm).trans hHeld.2.1)); (have s2 : ((wq.setCell ⟨g8, 0, none⟩ (.int .u64 (hi (lo q * d)))).setCell ⟨g8, 1, none⟩ (.int .u64 (lo (lo q * d)))).cell? ⟨w.heap.size, 0, none⟩ = some (.int .u64 (hi A)) := (World.cell?_setCell_far _ _ _ _ v8.symm).trans ((World.cell?_setCell_far _ _ _ _ v8.symm).trans hHeld.2.2.1)); (have s3 : ((wq.setCell ⟨g8, 0, none⟩ (.int .u64 (hi (lo q * d)))).setCell ⟨g8, 1, none⟩ (.int .u64 (lo (lo q * d)))).cell? ⟨w.heap.size, 1, none⟩ = some (.int .u64 (lo A)) := (World.cell?_setCell_far _ _ _ _ v8.symm).trans ((World.cell?_setCell_far _ _ _ _ v8.symm).trans hHeld.2.2.2.1)); (have s4 := (hHeld.2.2.2.2.setCell (p := ⟨g8, 0, none⟩) m8 (.int .u64 (hi (lo q * d)))).setCell (p := ⟨g8, 1, none⟩) m8 (.int .u64 (lo (lo q * d)))); generalize ((wq.setCell ⟨g8, 0, none⟩ (.int .u64 (hi (lo q * d)))).setCell ⟨g8, 1, none⟩ (.int .u64 (lo (lo q * d)))) = wn at *)
          refine hK.out _ _ ?hSr1_55_11 (fun hHeld2 => ?_)
          case hSr1_55_11 => (exact ⟨s0, s1, s2, s3, s4⟩)
          clear hK K hHeld
          have hHeld := hHeld2
          clear hHeld2
          rename World => wq
          (try simp only [Act.put, List.setIfInBounds_toArray, List.set_cons_zero, List.set_cons_succ])
          refine wpAnyH_done (by kernel_rfl) ?_ _
          (go_wp2_with fail; go_meet; exact ⟨_, _, rfl, rfl, Q7, Q8, hHeld⟩)
        refine AllReadyH.cons (o := { dst := some 7, op := Go.Op.alloc 34, type := 0, pos := _, after := #[], guard := none }) rfl (fun K hK => ?_) AllReadyH.nil
        · (go_simp; (have m7 : w.heap.size ≤ wq.heap.size := hHeld.2.2.2.2.size); (have u7 := Nat.ne_of_lt (World.block_lt_of_cell? _ _ hHeld.1)); (have v7 := Nat.ne_of_lt (World.block_lt_of_cell? _ _ hHeld.2.2.1)); (try have hne := Nat.ne_of_lt R8.lt); (have R7 := Row.new wq #[.int .u64 0, .int .u64 0] 34); (have hq : Below wq.heap.size wq (wq.alloc (.cells #[.int .u64 0, .int .u64 0] 34)) := (Below.refl _ _).alloc (Nat.le_refl _) _); (have s0 := cell_later hq hHeld.1); (have s1 := cell_later hq hHeld.2.1); (have s2 := cell_later hq hHeld.2.2.1); (have s3 := cell_later hq hHeld.2.2.2.1); (have s4 := below_step hHeld.2.2.2.2 hq); (try replace R8 := R8.later hq); clear hq; generalize wq.alloc (.cells #[.int .u64 0, .int .u64 0] 34) = wn at *; generalize wq.heap.size = g7 at *)
          refine hK.out _ _ ?hSr1_56_8 (fun hHeld2 => ?_)
          case hSr1_56_8 => (exact ⟨s0, s1, s2, s3, s4⟩)
          clear hK K hHeld
          have hHeld := hHeld2
          clear hHeld2
          rename World => wq
          (try simp only [Act.put, List.setIfInBounds_toArray, List.set_cons_zero, List.set_cons_succ])
          refine wpAnyH_ready (rs := [7]) (by kernel_rfl) (by simp) ?_
          refine AllReadyH.cons (o := { dst := some 38, op := Go.Op.call { callee := Go.Callee.value (Go.Operand.func 22), args := #[Go.Operand.tmp 36, Go.Operand.tmp 37], argTypes := #[22, 22] }, type := 34, pos := _, after := #[{ on := 5, ground := Go.Ground.data }, { on := 6, ground := Go.Ground.data }, { on := 3, ground := Go.Ground.chain }], guard := none }) rfl (fun K hK => ?_) AllReadyH.nil
          go_simp
          ((refine (refMul_t _ _ (by assumption) (by assumption) _).mono ?_); (rintro e wn ⟨rfl, hq⟩); (try replace R7 := R7.later hq); (try replace R8 := R8.later hq))
          go_wp2_with fail
          refine hK.out _ _ ?hSr1_57_7 (fun hHeld2 => ?_)
          case hSr1_57_7 => (first | exact ⟨d0, d1, a0, a1, hb.drew⟩ | exact ⟨cell_later hq hHeld.1, cell_later hq hHeld.2.1, cell_later hq hHeld.2.2.1, cell_later hq hHeld.2.2.2.1, below_step hHeld.2.2.2.2 hq⟩)
          clear hK K hHeld
          have hHeld := hHeld2
          clear hHeld2
          rename World => wq
          (try simp only [Act.put, List.setIfInBounds_toArray, List.set_cons_zero, List.set_cons_succ])
          refine wpAnyH_ready (rs := [10]) (by kernel_rfl) (by simp) ?_
          refine AllReadyH.cons (o := { dst := none, op := Go.Op.store 34 (Go.Operand.tmp 7) (Go.Operand.tmp 34), type := 0, pos := _, after := #[{ on := 8, ground := Go.Ground.data }, { on := 3, ground := Go.Ground.data }, { on := 7, ground := Go.Ground.chain }, { on := 0, ground := Go.Ground.phase }, { on := 1, ground := Go.Ground.phase }, { on := 2, ground := Go.Ground.phase }, { on := 3, ground := Go.Ground.phase }, { on := 4, ground := Go.Ground.textOnly Go.Departure.lateStores }, { on := 5, ground := Go.Ground.textOnly Go.Departure.lateStores }, { on := 6, ground := Go.Ground.textOnly Go.Departure.lateStores }, { on := 7, ground := Go.Ground.textOnly Go.Departure.lateStoresUnsure }, { on := 8, ground := Go.Ground.phase }, { on := 9, ground := Go.Ground.phase }], guard := none }) rfl (fun K hK => ?_) AllReadyH.nil
          ((have c0 := R7.cell 0); (have c1 := R7.cell 1); (simp at c0 c1); (have f0 := R7.frozen 0); (have f1 := R7.frozen 1); go_simp; clear c0 c1 f0 f1; (have Q7 := (R7.set 0 (.int .u64 (hi (hi q * d)))).set 1 (.int .u64 (lo (hi q * d)))); (simp at Q7); clear R7; (try replace R8 := (R8.set_far ⟨g7, 0, none⟩ (.int .u64 (hi (hi q * d))) (by first | exact hne | exact hne.symm)).set_far ⟨g7, 1, none⟩ (.int .u64 (lo (hi q * d))) (by first | exact hne | exact hne.symm)); (try replace Q8 := (Q8.set_far ⟨g7, 0, none⟩ (.int .u64 (hi (hi q * d))) (by first | exact hne | exact hne.symm)).set_far ⟨g7, 1, none⟩ (.int .u64 (lo (hi q * d))) (by first | exact hne | exact hne.symm)); (have s0 : ((wq.setCell ⟨g7, 0, none⟩ (.int .u64 (hi (hi q * d)))).setCell ⟨g7, 1, none⟩ (.int .u64 (lo (hi q * d)))).cell? ⟨g5, 0, none⟩ = some (.int .u64 (hi q)) := (World.cell?_setCell_far _ _ _ _ u7.symm).trans ((World.cell?_setCell_far _ _ _ _ u7.symm).trans hHeld.1)); (have s1 : ((wq.setCell ⟨g7, 0, none⟩ (.int .u64 (hi (hi q * d)))).setCell ⟨g7, 1, none⟩ (.int .u64 (lo (hi q * d)))).cell? ⟨g5, 1, none⟩ = some (.int .u64 (lo q)) := (World.cell?_setCell_far _ _ _ _ u7.symm).trans ((World.cell?_setCell_far _ _ _ _ u7.symm).trans hHeld.2.1)); (have s2 : ((wq.setCell ⟨g7, 0, none⟩ (.int .u64 (hi (hi q * d)))).setCell ⟨g7, 1, none⟩ (.int .u64 (lo (hi q * d)))).cell? ⟨w.heap.size, 0, none⟩ = some (.int .u64 (hi A)) := (World.cell?_setCell_far _ _ _ _ v7.symm).trans ((World.cell?_setCell_far _ _ _ _ v7.symm).trans hHeld.2.2.1)); (have s3 : ((wq.setCell ⟨g7, 0, none⟩ (.int .u64 (hi (hi q * d)))).setCell ⟨g7, 1, none⟩ (.int .u64 (lo (hi q * d)))).cell? ⟨w.heap.size, 1, none⟩ = some (.int .u64 (lo A)) := (World.cell?_setCell_far _ _ _ _ v7.symm).trans ((World.cell?_setCell_far _ _ _ _ v7.symm).trans hHeld.2.2.2.1)); (have s4 := (hHeld.2.2.2.2.setCell (p := ⟨g7, 0, none⟩) m7 (.int .u64 (hi (hi q * d)))).setCell (p := ⟨g7, 1, none⟩) m7 (.int .u64 (lo (hi q * d)))); generalize ((wq.setCell ⟨g7, 0, none⟩ (.int .u64 (hi (hi q * d)))).setCell ⟨g7, 1, none⟩ (.int .u64 (lo (hi q * d)))) = wn at *)
          refine hK.out _ _ ?hSr1_58_10 (fun hHeld2 => ?_)
          case hSr1_58_10 => (exact ⟨s0, s1, s2, s3, s4⟩)
          clear hK K hHeld
          have hHeld := hHeld2
          clear hHeld2
          rename World => wq
          (try simp only [Act.put, List.setIfInBounds_toArray, List.set_cons_zero, List.set_cons_succ])
          refine wpAnyH_ready (rs := [11]) (by kernel_rfl) (by simp) ?_
          refine AllReadyH.cons (o := { dst := none, op := Go.Op.store 34 (Go.Operand.tmp 8) (Go.Operand.tmp 38), type := 0, pos := _, after := #[{ on := 9, ground := Go.Ground.data }, { on := 7, ground := Go.Ground.data }, { on := 10, ground := Go.Ground.chain }, { on := 0, ground := Go.Ground.phase }, { on := 1, ground := Go.Ground.phase }, { on := 2, ground := Go.Ground.phase }, { on := 3, ground := Go.Ground.phase }, { on := 4, ground := Go.Ground.phase }, { on := 5, ground := Go.Ground.phase }, { on := 6, ground := Go.Ground.phase }, { on := 7, ground := Go.Ground.phase }, { on := 8, ground := Go.Ground.phase }, { on := 9, ground := Go.Ground.phase }, { on := 10, ground := Go.Ground.phase }], guard := none }) rfl (fun K hK => ?_) AllReadyH.nil
          ((have c0 := R8.cell 0); (have c1 := R8.cell 1); (simp at c0 c1); (have f0 := R8.frozen 0); (have f1 := R8.frozen 1); go_simp; clear c0 c1 f0 f1; (have Q8 := (R8.set 0 (.int .u64 (hi (lo q * d)))).set 1 (.int .u64 (lo (lo q * d)))); (simp at Q8); clear R8; (try replace R7 := (R7.set_far ⟨g8, 0, none⟩ (.int .u64 (hi (lo q * d))) (by first | exact hne | exact hne.symm)).set_far ⟨g8, 1, none⟩ (.int .u64 (lo (lo q * d))) (by first | exact hne | exact hne.symm)); (try replace Q7 := (Q7.set_far ⟨g8, 0, none⟩ (.int .u64 (hi (lo q * d))) (by first | exact hne | exact hne.symm)).set_far ⟨g8, 1, none⟩ (.int .u64 (lo (lo q * d))) (by first | exact hne | exact hne.symm)); (have s0 : ((wq.setCell ⟨g8, 0, none⟩ (.int .u64 (hi (lo q * d)))).setCell ⟨g8, 1, none⟩ (.int .u64 (lo (lo q * d)))).cell? ⟨g5, 0, none⟩ = some (.int .u64 (hi q)) := (World.cell?_setCell_far _ _ _ _ u8.symm).trans ((World.cell?_setCell_far _ _ _ _ u8.symm).trans hHeld.1)); (have s1 : ((wq.setCell ⟨g8, 0, none⟩ (.int .u64 (hi (lo q * d)))).setCell ⟨g8, 1, none⟩ (.int .u64 (lo (lo q * d)))).cell? ⟨g5, 1, none⟩ = some (.int .u64 (lo q)) := (World.cell?_setCell_far _ _ _ _ u8.symm).trans ((World.cell?_setCell_far _ _ _ _ u8.symm).trans hHeld.2.1)); (have s2 : ((wq.setCell ⟨g8, 0, none⟩ (.int .u64 (hi (lo q * d)))).setCell ⟨g8, 1, none⟩ (.int .u64 (lo (lo q * d)))).cell? ⟨w.heap.size, 0, none⟩ = some (.int .u64 (hi A)) := (World.cell?_setCell_far _ _ _ _ v8.symm).trans ((World.cell?_setCell_far _ _ _ _ v8.symm).trans hHeld.2.2.1)); (have s3 : ((wq.setCell ⟨g8, 0, none⟩ (.int .u64 (hi (lo q * d)))).setCell ⟨g8, 1, none⟩ (.int .u64 (lo (lo q * d)))).cell? ⟨w.heap.size, 1, none⟩ = some (.int .u64 (lo A)) := (World.cell?_setCell_far _ _ _ _ v8.symm).trans ((World.cell?_setCell_far _ _ _ _ v8.symm).trans hHeld.2.2.2.1)); (have s4 := (hHeld.2.2.2.2.setCell (p := ⟨g8, 0, none⟩) m8 (.int .u64 (hi (lo q * d)))).setCell (p := ⟨g8, 1, none⟩) m8 (.int .u64 (lo (lo q * d)))); generalize ((wq.setCell ⟨g8, 0, none⟩ (.int .u64 (hi (lo q * d)))).setCell ⟨g8, 1, none⟩ (.int .u64 (lo (lo q * d)))) = wn at *)
          refine hK.out _ _ ?hSr1_59_11 (fun hHeld2 => ?_)
          case hSr1_59_11 => (exact ⟨s0, s1, s2, s3, s4⟩)
          clear hK K hHeld
          have hHeld := hHeld2
          clear hHeld2
          rename World => wq
          (try simp only [Act.put, List.setIfInBounds_toArray, List.set_cons_zero, List.set_cons_succ])
          refine wpAnyH_done (by kernel_rfl) ?_ _
          (go_wp2_with fail; go_meet; exact ⟨_, _, rfl, rfl, Q7, Q8, hHeld⟩)
      refine AllReadyH.cons (o := { dst := some 7, op := Go.Op.alloc 34, type := 0, pos := _, after := #[], guard := none }) rfl (fun K hK => ?_) AllReadyH.nil
      · (go_simp; (have m7 : w.heap.size ≤ wq.heap.size := hHeld.2.2.2.2.size); (have u7 := Nat.ne_of_lt (World.block_lt_of_cell? _ _ hHeld.1)); (have v7 := Nat.ne_of_lt (World.block_lt_of_cell? _ _ hHeld.2.2.1)); (try have hne := Nat.ne_of_lt R8.lt); (have R7 := Row.new wq #[.int .u64 0, .int .u64 0] 34); (have hq : Below wq.heap.size wq (wq.alloc (.cells #[.int .u64 0, .int .u64 0] 34)) := (Below.refl _ _).alloc (Nat.le_refl _) _); (have s0 := cell_later hq hHeld.1); (have s1 := cell_later hq hHeld.2.1); (have s2 := cell_later hq hHeld.2.2.1); (have s3 := cell_later hq hHeld.2.2.2.1); (have s4 := below_step hHeld.2.2.2.2 hq); (try replace R8 := R8.later hq); clear hq; generalize wq.alloc (.cells #[.int .u64 0, .int .u64 0] 34) = wn at *; generalize wq.heap.size = g7 at *)
        refine hK.out _ _ ?hSr1_60_8 (fun hHeld2 => ?_)
        case hSr1_60_8 => (exact ⟨s0, s1, s2, s3, s4⟩)
        clear hK K hHeld
        have hHeld := hHeld2
        clear hHeld2
        rename World => wq
        (try simp only [Act.put, List.setIfInBounds_toArray, List.set_cons_zero, List.set_cons_succ])
        refine wpAnyH_ready (rs := [3]) (by kernel_rfl) (by simp) ?_
        refine AllReadyH.cons (o := { dst := some 34, op := Go.Op.call { callee := Go.Callee.value (Go.Operand.func 22), args := #[Go.Operand.tmp 32, Go.Operand.tmp 33], argTypes := #[22, 22] }, type := 34, pos := _, after := #[{ on := 1, ground := Go.Ground.data }, { on := 2, ground := Go.Ground.data }], guard := none }) rfl (fun K hK => ?_) AllReadyH.nil
        go_simp
        ((refine (refMul_t _ _ (by assumption) (by assumption) _).mono ?_); (rintro e wn ⟨rfl, hq⟩); (try replace R7 := R7.later hq); (try replace R8 := R8.later hq))
        go_wp2_with fail
        refine hK.out _ _ ?hSr1_61_3 (fun hHeld2 => ?_)
        case hSr1_61_3 => (first | exact ⟨d0, d1, a0, a1, hb.drew⟩ | exact ⟨cell_later hq hHeld.1, cell_later hq hHeld.2.1, cell_later hq hHeld.2.2.1, cell_later hq hHeld.2.2.2.1, below_step hHeld.2.2.2.2 hq⟩)
        clear hK K hHeld
        have hHeld := hHeld2
        clear hHeld2
        rename World => wq
        (try simp only [Act.put, List.setIfInBounds_toArray, List.set_cons_zero, List.set_cons_succ])
        refine wpAnyH_ready (rs := [7]) (by kernel_rfl) (by simp) ?_
        refine AllReadyH.cons (o := { dst := some 38, op := Go.Op.call { callee := Go.Callee.value (Go.Operand.func 22), args := #[Go.Operand.tmp 36, Go.Operand.tmp 37], argTypes := #[22, 22] }, type := 34, pos := _, after := #[{ on := 5, ground := Go.Ground.data }, { on := 6, ground := Go.Ground.data }, { on := 3, ground := Go.Ground.chain }], guard := none }) rfl (fun K hK => ?_) AllReadyH.nil
        go_simp
        ((refine (refMul_t _ _ (by assumption) (by assumption) _).mono ?_); (rintro e wn ⟨rfl, hq⟩); (try replace R7 := R7.later hq); (try replace R8 := R8.later hq))
        go_wp2_with fail
        refine hK.out _ _ ?hSr1_62_7 (fun hHeld2 => ?_)
        case hSr1_62_7 => (first | exact ⟨d0, d1, a0, a1, hb.drew⟩ | exact ⟨cell_later hq hHeld.1, cell_later hq hHeld.2.1, cell_later hq hHeld.2.2.1, cell_later hq hHeld.2.2.2.1, below_step hHeld.2.2.2.2 hq⟩)
        clear hK K hHeld
        have hHeld := hHeld2
        clear hHeld2
        rename World => wq
        (try simp only [Act.put, List.setIfInBounds_toArray, List.set_cons_zero, List.set_cons_succ])
        refine wpAnyH_ready (rs := [10]) (by kernel_rfl) (by simp) ?_
        refine AllReadyH.cons (o := { dst := none, op := Go.Op.store 34 (Go.Operand.tmp 7) (Go.Operand.tmp 34), type := 0, pos := _, after := #[{ on := 8, ground := Go.Ground.data }, { on := 3, ground := Go.Ground.data }, { on := 7, ground := Go.Ground.chain }, { on := 0, ground := Go.Ground.phase }, { on := 1, ground := Go.Ground.phase }, { on := 2, ground := Go.Ground.phase }, { on := 3, ground := Go.Ground.phase }, { on := 4, ground := Go.Ground.textOnly Go.Departure.lateStores }, { on := 5, ground := Go.Ground.textOnly Go.Departure.lateStores }, { on := 6, ground := Go.Ground.textOnly Go.Departure.lateStores }, { on := 7, ground := Go.Ground.textOnly Go.Departure.lateStoresUnsure }, { on := 8, ground := Go.Ground.phase }, { on := 9, ground := Go.Ground.phase }], guard := none }) rfl (fun K hK => ?_) AllReadyH.nil
        ((have c0 := R7.cell 0); (have c1 := R7.cell 1); (simp at c0 c1); (have f0 := R7.frozen 0); (have f1 := R7.frozen 1); go_simp; clear c0 c1 f0 f1; (have Q7 := (R7.set 0 (.int .u64 (hi (hi q * d)))).set 1 (.int .u64 (lo (hi q * d)))); (simp at Q7); clear R7; (try replace R8 := (R8.set_far ⟨g7, 0, none⟩ (.int .u64 (hi (hi q * d))) (by first | exact hne | exact hne.symm)).set_far ⟨g7, 1, none⟩ (.int .u64 (lo (hi q * d))) (by first | exact hne | exact hne.symm)); (try replace Q8 := (Q8.set_far ⟨g7, 0, none⟩ (.int .u64 (hi (hi q * d))) (by first | exact hne | exact hne.symm)).set_far ⟨g7, 1, none⟩ (.int .u64 (lo (hi q * d))) (by first | exact hne | exact hne.symm)); (have s0 : ((wq.setCell ⟨g7, 0, none⟩ (.int .u64 (hi (hi q * d)))).setCell ⟨g7, 1, none⟩ (.int .u64 (lo (hi q * d)))).cell? ⟨g5, 0, none⟩ = some (.int .u64 (hi q)) := (World.cell?_setCell_far _ _ _ _ u7.symm).trans ((World.cell?_setCell_far _ _ _ _ u7.symm).trans hHeld.1)); (have s1 : ((wq.setCell ⟨g7, 0, none⟩ (.int .u64 (hi (hi q * d)))).setCell ⟨g7, 1, none⟩ (.int .u64 (lo (hi q * d)))).cell? ⟨g5, 1, none⟩ = some (.int .u64 (lo q)) := (World.cell?_setCell_far _ _ _ _ u7.symm).trans ((World.cell?_setCell_far _ _ _ _ u7.symm).trans hHeld.2.1)); (have s2 : ((wq.setCell ⟨g7, 0, none⟩ (.int .u64 (hi (hi q * d)))).setCell ⟨g7, 1, none⟩ (.int .u64 (lo (hi q * d)))).cell? ⟨w.heap.size, 0, none⟩ = some (.int .u64 (hi A)) := (World.cell?_setCell_far _ _ _ _ v7.symm).trans ((World.cell?_setCell_far _ _ _ _ v7.symm).trans hHeld.2.2.1)); (have s3 : ((wq.setCell ⟨g7, 0, none⟩ (.int .u64 (hi (hi q * d)))).setCell ⟨g7, 1, none⟩ (.int .u64 (lo (hi q * d)))).cell? ⟨w.heap.size, 1, none⟩ = some (.int .u64 (lo A)) := (World.cell?_setCell_far _ _ _ _ v7.symm).trans ((World.cell?_setCell_far _ _ _ _ v7.symm).trans hHeld.2.2.2.1)); (have s4 := (hHeld.2.2.2.2.setCell (p := ⟨g7, 0, none⟩) m7 (.int .u64 (hi (hi q * d)))).setCell (p := ⟨g7, 1, none⟩) m7 (.int .u64 (lo (hi q * d)))); generalize ((wq.setCell ⟨g7, 0, none⟩ (.int .u64 (hi (hi q * d)))).setCell ⟨g7, 1, none⟩ (.int .u64 (lo (hi q * d)))) = wn at *)
        refine hK.out _ _ ?hSr1_63_10 (fun hHeld2 => ?_)
        case hSr1_63_10 => (exact ⟨s0, s1, s2, s3, s4⟩)
        clear hK K hHeld
        have hHeld := hHeld2
        clear hHeld2
        rename World => wq
        (try simp only [Act.put, List.setIfInBounds_toArray, List.set_cons_zero, List.set_cons_succ])
        refine wpAnyH_ready (rs := [11]) (by kernel_rfl) (by simp) ?_
        refine AllReadyH.cons (o := { dst := none, op := Go.Op.store 34 (Go.Operand.tmp 8) (Go.Operand.tmp 38), type := 0, pos := _, after := #[{ on := 9, ground := Go.Ground.data }, { on := 7, ground := Go.Ground.data }, { on := 10, ground := Go.Ground.chain }, { on := 0, ground := Go.Ground.phase }, { on := 1, ground := Go.Ground.phase }, { on := 2, ground := Go.Ground.phase }, { on := 3, ground := Go.Ground.phase }, { on := 4, ground := Go.Ground.phase }, { on := 5, ground := Go.Ground.phase }, { on := 6, ground := Go.Ground.phase }, { on := 7, ground := Go.Ground.phase }, { on := 8, ground := Go.Ground.phase }, { on := 9, ground := Go.Ground.phase }, { on := 10, ground := Go.Ground.phase }], guard := none }) rfl (fun K hK => ?_) AllReadyH.nil
        ((have c0 := R8.cell 0); (have c1 := R8.cell 1); (simp at c0 c1); (have f0 := R8.frozen 0); (have f1 := R8.frozen 1); go_simp; clear c0 c1 f0 f1; (have Q8 := (R8.set 0 (.int .u64 (hi (lo q * d)))).set 1 (.int .u64 (lo (lo q * d)))); (simp at Q8); clear R8; (try replace R7 := (R7.set_far ⟨g8, 0, none⟩ (.int .u64 (hi (lo q * d))) (by first | exact hne | exact hne.symm)).set_far ⟨g8, 1, none⟩ (.int .u64 (lo (lo q * d))) (by first | exact hne | exact hne.symm)); (try replace Q7 := (Q7.set_far ⟨g8, 0, none⟩ (.int .u64 (hi (lo q * d))) (by first | exact hne | exact hne.symm)).set_far ⟨g8, 1, none⟩ (.int .u64 (lo (lo q * d))) (by first | exact hne | exact hne.symm)); (have s0 : ((wq.setCell ⟨g8, 0, none⟩ (.int .u64 (hi (lo q * d)))).setCell ⟨g8, 1, none⟩ (.int .u64 (lo (lo q * d)))).cell? ⟨g5, 0, none⟩ = some (.int .u64 (hi q)) := (World.cell?_setCell_far _ _ _ _ u8.symm).trans ((World.cell?_setCell_far _ _ _ _ u8.symm).trans hHeld.1)); (have s1 : ((wq.setCell ⟨g8, 0, none⟩ (.int .u64 (hi (lo q * d)))).setCell ⟨g8, 1, none⟩ (.int .u64 (lo (lo q * d)))).cell? ⟨g5, 1, none⟩ = some (.int .u64 (lo q)) := (World.cell?_setCell_far _ _ _ _ u8.symm).trans ((World.cell?_setCell_far _ _ _ _ u8.symm).trans hHeld.2.1)); (have s2 : ((wq.setCell ⟨g8, 0, none⟩ (.int .u64 (hi (lo q * d)))).setCell ⟨g8, 1, none⟩ (.int .u64 (lo (lo q * d)))).cell? ⟨w.heap.size, 0, none⟩ = some (.int .u64 (hi A)) := (World.cell?_setCell_far _ _ _ _ v8.symm).trans ((World.cell?_setCell_far _ _ _ _ v8.symm).trans hHeld.2.2.1)); (have s3 : ((wq.setCell ⟨g8, 0, none⟩ (.int .u64 (hi (lo q * d)))).setCell ⟨g8, 1, none⟩ (.int .u64 (lo (lo q * d)))).cell? ⟨w.heap.size, 1, none⟩ = some (.int .u64 (lo A)) := (World.cell?_setCell_far _ _ _ _ v8.symm).trans ((World.cell?_setCell_far _ _ _ _ v8.symm).trans hHeld.2.2.2.1)); (have s4 := (hHeld.2.2.2.2.setCell (p := ⟨g8, 0, none⟩) m8 (.int .u64 (hi (lo q * d)))).setCell (p := ⟨g8, 1, none⟩) m8 (.int .u64 (lo (lo q * d)))); generalize ((wq.setCell ⟨g8, 0, none⟩ (.int .u64 (hi (lo q * d)))).setCell ⟨g8, 1, none⟩ (.int .u64 (lo (lo q * d)))) = wn at *)
        refine hK.out _ _ ?hSr1_64_11 (fun hHeld2 => ?_)
        case hSr1_64_11 => (exact ⟨s0, s1, s2, s3, s4⟩)
        clear hK K hHeld
        have hHeld := hHeld2
        clear hHeld2
        rename World => wq
        (try simp only [Act.put, List.setIfInBounds_toArray, List.set_cons_zero, List.set_cons_succ])
        refine wpAnyH_done (by kernel_rfl) ?_ _
        (go_wp2_with fail; go_meet; exact ⟨_, _, rfl, rfl, Q7, Q8, hHeld⟩)
  case rest =>
    obtain ⟨g7, g8, rfl, rfl, R7, R8, -, -, b0, b1, hb'⟩ := hcut
    clear a0 a1 d0 d1 hb
    rw [HP.out, HU.out] at R7
    clear HP HU
    have x0 := (R7.cell 0).trans (show _ = some (Value.int .u64 0) from rfl)
    have x1 := (R7.cell 1).trans (show _ = some (Value.int .u64 U) from rfl)
    have y0 := (R8.cell 0).trans (show _ = some (Value.int .u64 (hi (lo q * d))) from rfl)
    have y1 := (R8.cell 1).trans (show _ = some (Value.int .u64 (lo (lo q * d))) from rfl)
    clear R7 R8
    go_wp2_with fail
    refine (c2 _).mono ?_; rintro e w3 ⟨rfl, hb2⟩
    replace b0 := cell_later hb2 b0
    replace b1 := cell_later hb2 b1
    replace hb' := below_step hb' hb2
    clear hb2 x0 x1 y0 y1 c2
    go_wp2_with fail
    have z0 : (w3.alloc (.cells #[.int .u64 (hi T), .int .u64 (lo T)] 34)).cell? ⟨w3.heap.size, 0, none⟩ = some (.int .u64 (hi T)) := by simp [go_sem]
    have z1 : (w3.alloc (.cells #[.int .u64 (hi T), .int .u64 (lo T)] 34)).cell? ⟨w3.heap.size, 1, none⟩ = some (.int .u64 (lo T)) := by simp [go_sem]
    have hg : Below w3.heap.size w3 (w3.alloc (.cells #[.int .u64 (hi T), .int .u64 (lo T)] 34)) := (Below.refl _ _).alloc (Nat.le_refl _) _
    replace b0 := cell_later hg b0
    replace b1 := cell_later hg b1
    replace hb' := below_step hb' hg
    clear hg
    generalize w3.alloc (.cells #[.int .u64 (hi T), .int .u64 (lo T)] 34) = w4 at *
    generalize w3.heap.size = g9 at *
    refine (c3 _).mono ?_; rintro e w5 ⟨rfl, hb2⟩
    replace b0 := cell_later hb2 b0
    replace b1 := cell_later hb2 b1
    replace hb' := below_step hb' hb2
    clear hb2 z0 z1 c3
    go_wp2_with fail
    have z0 : (w5.alloc (.cells #[.int .u64 (hi A), .int .u64 (lo A)] 34)).cell? ⟨w5.heap.size, 0, none⟩ = some (.int .u64 (hi A)) := by simp [go_sem]
    have z1 : (w5.alloc (.cells #[.int .u64 (hi A), .int .u64 (lo A)] 34)).cell? ⟨w5.heap.size, 1, none⟩ = some (.int .u64 (lo A)) := by simp [go_sem]
    have hg : Below w5.heap.size w5 (w5.alloc (.cells #[.int .u64 (hi A), .int .u64 (lo A)] 34)) := (Below.refl _ _).alloc (Nat.le_refl _) _
    replace b0 := cell_later hg b0
    replace b1 := cell_later hg b1
    replace hb' := below_step hb' hg
    clear hg
    generalize w5.alloc (.cells #[.int .u64 (hi A), .int .u64 (lo A)] 34) = w6 at *
    generalize w5.heap.size = g11 at *
    refine wp_region_held_drew (S := (fun w' => w'.cell? ⟨w.heap.size, 0, none⟩ = some (.int .u64 (hi A)) ∧ w'.cell? ⟨w.heap.size, 1, none⟩ = some (.int .u64 (lo A)) ∧ w'.cell? ⟨g11, 0, none⟩ = some (.int .u64 (hi A)) ∧ w'.cell? ⟨g11, 1, none⟩ = some (.int .u64 (lo A)) ∧ Below w.heap.size w w')) (by kernel_rfl) ?hSr2_ (fun hHeld => ?_)
    case hSr2_ => (first | exact ⟨b0, b1, z0, z1, hb'.drew⟩ | exact ⟨cell_later hq hHeld.1, cell_later hq hHeld.2.1, cell_later hq hHeld.2.2.1, cell_later hq hHeld.2.2.2.1, below_step hHeld.2.2.2.2 hq⟩)
    refine wpAnyH_ready (rs := [0]) (by kernel_rfl) (by simp) ?_
    refine AllReadyH.cons (o := { dst := some 62, op := Go.Op.call { callee := Go.Callee.value (Go.Operand.func 10), args := #[], argTypes := #[] }, type := 4, pos := _, after := #[], guard := none }) rfl (fun K hK => ?_) AllReadyH.nil
    go_simp
    (refine (alive12_t _).mono ?_; rintro e wn ⟨rfl, hq⟩)
    go_wp2_with fail
    refine hK.out _ _ ?hSr2_1_0 (fun hHeld2 => ?_)
    case hSr2_1_0 => (first | exact ⟨b0, b1, z0, z1, hb'.drew⟩ | exact ⟨cell_later hq hHeld.1, cell_later hq hHeld.2.1, cell_later hq hHeld.2.2.1, cell_later hq hHeld.2.2.2.1, below_step hHeld.2.2.2.2 hq⟩)
    clear hK K hHeld
    have hHeld := hHeld2
    clear hHeld2
    (try simp only [Act.put, List.setIfInBounds_toArray, List.set_cons_zero, List.set_cons_succ])
    refine wpAnyH_take (i := 1) (oi := { dst := some 63, op := Go.Op.move (Go.Operand.tmp 62), type := 4, pos := _, after := #[{ on := 0, ground := Go.Ground.data }, { on := 0, ground := Go.Ground.chain }], guard := none }) (v := ?vr2_2_1) rfl (by kernel_rfl) (by kernel_rfl) (by kernel_rfl) (fun _ _ _ h => h) (Or.inl ⟨by rfl, ?yr2_2_1⟩) hHeld ?_
    case yr2_2_1 => ((intro w hSw; (try dsimp only at hSw); go_simp) <;> with_reducible rfl)
    (try simp only [Act.put, List.setIfInBounds_toArray, List.set_cons_zero, List.set_cons_succ])
    refine wpAnyH_take (i := 2) (oi := { dst := some 64, op := Go.Op.move (Go.Operand.tmp 10), type := 4, pos := _, after := #[{ on := 1, ground := Go.Ground.guard }], guard := some (1, true) }) (v := ?vr2_3_2) rfl (by kernel_rfl) (by kernel_rfl) (by kernel_rfl) (fun _ _ _ h => h) (Or.inl ⟨by rfl, ?yr2_3_2⟩) hHeld ?_
    case yr2_3_2 => ((intro w hSw; (try dsimp only at hSw); go_simp) <;> with_reducible rfl)
    (try simp only [Act.put, List.setIfInBounds_toArray, List.set_cons_zero, List.set_cons_succ])
    refine wpAnyH_take (i := 3) (oi := { dst := some 65, op := Go.Op.unOp Go.UnOp.not 4 (Go.Operand.tmp 64), type := 4, pos := _, after := #[{ on := 2, ground := Go.Ground.data }, { on := 1, ground := Go.Ground.guard }], guard := some (1, true) }) (v := ?vr2_4_3) rfl (by kernel_rfl) (by kernel_rfl) (by kernel_rfl) (fun _ _ _ h => h) (Or.inl ⟨by rfl, ?yr2_4_3⟩) hHeld ?_
    case yr2_4_3 => ((intro w hSw; (try dsimp only at hSw); go_simp) <;> with_reducible rfl)
    (try simp only [Act.put, List.setIfInBounds_toArray, List.set_cons_zero, List.set_cons_succ])
    refine wpAnyH_take (i := 4) (oi := { dst := some 66, op := Go.Op.pick (Go.Operand.tmp 63) (Go.Operand.tmp 65) (Go.Operand.const (Go.Value.bool false)), type := 4, pos := _, after := #[{ on := 1, ground := Go.Ground.data }, { on := 3, ground := Go.Ground.data }], guard := none }) (v := ?vr2_5_4) rfl (by kernel_rfl) (by kernel_rfl) (by kernel_rfl) (fun _ _ _ h => h) (Or.inl ⟨by rfl, ?yr2_5_4⟩) hHeld ?_
    case yr2_5_4 => ((intro w hSw; (try dsimp only at hSw); go_simp) <;> with_reducible rfl)
    (try simp only [Act.put, List.setIfInBounds_toArray, List.set_cons_zero, List.set_cons_succ])
    refine wpAnyH_take (i := 5) (oi := { dst := some 67, op := Go.Op.move (Go.Operand.tmp 66), type := 4, pos := _, after := #[{ on := 4, ground := Go.Ground.data }, { on := 1, ground := Go.Ground.chain }], guard := none }) (v := ?vr2_6_5) rfl (by kernel_rfl) (by kernel_rfl) (by kernel_rfl) (fun _ _ _ h => h) (Or.inl ⟨by rfl, ?yr2_6_5⟩) hHeld ?_
    case yr2_6_5 => ((intro w hSw; (try dsimp only at hSw); go_simp) <;> with_reducible rfl)
    (try simp only [Act.put, List.setIfInBounds_toArray, List.set_cons_zero, List.set_cons_succ])
    refine wpAnyH_take (i := 6) (oi := { dst := some 68, op := Go.Op.move (Go.Operand.tmp 12), type := 4, pos := _, after := #[{ on := 5, ground := Go.Ground.guard }], guard := some (5, true) }) (v := ?vr2_7_6) rfl (by kernel_rfl) (by kernel_rfl) (by kernel_rfl) (fun _ _ _ h => h) (Or.inl ⟨by rfl, ?yr2_7_6⟩) hHeld ?_
    case yr2_7_6 => ((intro w hSw; (try dsimp only at hSw); go_simp) <;> with_reducible rfl)
    (try simp only [Act.put, List.setIfInBounds_toArray, List.set_cons_zero, List.set_cons_succ])
    refine wpAnyH_take (i := 7) (oi := { dst := some 69, op := Go.Op.unOp Go.UnOp.not 4 (Go.Operand.tmp 68), type := 4, pos := _, after := #[{ on := 6, ground := Go.Ground.data }, { on := 5, ground := Go.Ground.guard }], guard := some (5, true) }) (v := ?vr2_8_7) rfl (by kernel_rfl) (by kernel_rfl) (by kernel_rfl) (fun _ _ _ h => h) (Or.inl ⟨by rfl, ?yr2_8_7⟩) hHeld ?_
    case yr2_8_7 => ((intro w hSw; (try dsimp only at hSw); go_simp) <;> with_reducible rfl)
    (try simp only [Act.put, List.setIfInBounds_toArray, List.set_cons_zero, List.set_cons_succ])
    refine wpAnyH_take (i := 8) (oi := { dst := some 70, op := Go.Op.pick (Go.Operand.tmp 67) (Go.Operand.tmp 69) (Go.Operand.const (Go.Value.bool false)), type := 4, pos := _, after := #[{ on := 5, ground := Go.Ground.data }, { on := 7, ground := Go.Ground.data }], guard := none }) (v := ?vr2_9_8) rfl (by kernel_rfl) (by kernel_rfl) (by kernel_rfl) (fun _ _ _ h => h) (Or.inl ⟨by rfl, ?yr2_9_8⟩) hHeld ?_
    case yr2_9_8 => ((intro w hSw; (try dsimp only at hSw); go_simp) <;> with_reducible rfl)
    (try simp only [Act.put, List.setIfInBounds_toArray, List.set_cons_zero, List.set_cons_succ])
    refine wpAnyH_take (i := 9) (oi := { dst := some 71, op := Go.Op.move (Go.Operand.tmp 70), type := 4, pos := _, after := #[{ on := 8, ground := Go.Ground.data }, { on := 5, ground := Go.Ground.chain }], guard := none }) (v := ?vr2_10_9) rfl (by kernel_rfl) (by kernel_rfl) (by kernel_rfl) (fun _ _ _ h => h) (Or.inl ⟨by rfl, ?yr2_10_9⟩) hHeld ?_
    case yr2_10_9 => ((intro w hSw; (try dsimp only at hSw); go_simp) <;> with_reducible rfl)
    (try simp only [Act.put, List.setIfInBounds_toArray, List.set_cons_zero, List.set_cons_succ])
    refine wpAnyH_take (i := 10) (oi := { dst := some 72, op := Go.Op.load 34 (Go.Operand.tmp 11), type := 34, pos := _, after := #[{ on := 9, ground := Go.Ground.guard }], guard := some (9, true) }) (v := ?vr2_11_10) rfl (by kernel_rfl) (by kernel_rfl) (by kernel_rfl) (fun _ _ _ h => h) (Or.inl ⟨by rfl, ?yr2_11_10⟩) hHeld ?_
    case yr2_11_10 => ((intro w hSw; (try dsimp only at hSw); go_simp) <;> with_reducible rfl)
    (try simp only [Act.put, List.setIfInBounds_toArray, List.set_cons_zero, List.set_cons_succ])
    refine wpAnyH_take (i := 11) (oi := { dst := some 73, op := Go.Op.load 31 (Go.Operand.tmp 2), type := 31, pos := _, after := #[{ on := 9, ground := Go.Ground.guard }], guard := some (9, true) }) (v := ?vr2_12_11) rfl (by kernel_rfl) (by kernel_rfl) (by kernel_rfl) (fun _ _ _ h => h) (Or.inl ⟨by rfl, ?yr2_12_11⟩) hHeld ?_
    case yr2_12_11 => ((intro w hSw; (try dsimp only at hSw); go_simp) <;> with_reducible rfl)
    (try simp only [Act.put, List.setIfInBounds_toArray, List.set_cons_zero, List.set_cons_succ])
    refine wpAnyH_ready (rs := [12]) (by kernel_rfl) (by simp) ?_
    refine AllReadyH.cons (o := { dst := some 74, op := Go.Op.call { callee := Go.Callee.value (Go.Operand.func 24), args := #[Go.Operand.tmp 73], argTypes := #[31] }, type := 34, pos := _, after := #[{ on := 11, ground := Go.Ground.data }, { on := 9, ground := Go.Ground.chain }, { on := 9, ground := Go.Ground.guard }], guard := some (9, true) }) rfl (fun K hK => ?_) AllReadyH.nil
    go_simp
    (refine (as_h _ _).mono ?_; rintro e wn ⟨rfl, hq⟩)
    go_wp2_with fail
    refine hK.out _ _ ?hSr2_13_12 (fun hHeld2 => ?_)
    case hSr2_13_12 => (first | exact ⟨b0, b1, z0, z1, hb'.drew⟩ | exact ⟨cell_later hq hHeld.1, cell_later hq hHeld.2.1, cell_later hq hHeld.2.2.1, cell_later hq hHeld.2.2.2.1, below_step hHeld.2.2.2.2 hq⟩)
    clear hK K hHeld
    have hHeld := hHeld2
    clear hHeld2
    (try simp only [Act.put, List.setIfInBounds_toArray, List.set_cons_zero, List.set_cons_succ])
    refine wpAnyH_take (i := 13) (oi := { dst := some 75, op := Go.Op.binOp Go.BinOp.eql 34 (Go.Operand.tmp 72) (Go.Operand.tmp 74) 34, type := 4, pos := _, after := #[{ on := 10, ground := Go.Ground.data }, { on := 12, ground := Go.Ground.data }, { on := 9, ground := Go.Ground.guard }], guard := some (9, true) }) (v := ?vr2_14_13) rfl (by kernel_rfl) (by kernel_rfl) (by kernel_rfl) (fun _ _ _ h => h) (Or.inl ⟨by rfl, ?yr2_14_13⟩) hHeld ?_
    case yr2_14_13 => ((intro w hSw; (try dsimp only at hSw); go_simp) <;> with_reducible rfl)
    (try simp only [Act.put, List.setIfInBounds_toArray, List.set_cons_zero, List.set_cons_succ])
    refine wpAnyH_take (i := 14) (oi := { dst := some 76, op := Go.Op.pick (Go.Operand.tmp 71) (Go.Operand.tmp 75) (Go.Operand.const (Go.Value.bool false)), type := 4, pos := _, after := #[{ on := 9, ground := Go.Ground.data }, { on := 13, ground := Go.Ground.data }], guard := none }) (v := ?vr2_15_14) rfl (by kernel_rfl) (by kernel_rfl) (by kernel_rfl) (fun _ _ _ h => h) (Or.inl ⟨by rfl, ?yr2_15_14⟩) hHeld ?_
    case yr2_15_14 => ((intro w hSw; (try dsimp only at hSw); go_simp) <;> with_reducible rfl)
    (try simp only [Act.put, List.setIfInBounds_toArray, List.set_cons_zero, List.set_cons_succ])
    refine wpAnyH_take (i := 15) (oi := { dst := some 4, op := Go.Op.assign (Go.Operand.tmp 76), type := 4, pos := _, after := #[{ on := 14, ground := Go.Ground.data }, { on := 12, ground := Go.Ground.chain }, { on := 0, ground := Go.Ground.phase }, { on := 1, ground := Go.Ground.phase }, { on := 2, ground := Go.Ground.phase }, { on := 3, ground := Go.Ground.phase }, { on := 4, ground := Go.Ground.phase }, { on := 5, ground := Go.Ground.phase }, { on := 6, ground := Go.Ground.phase }, { on := 7, ground := Go.Ground.phase }, { on := 8, ground := Go.Ground.phase }, { on := 9, ground := Go.Ground.phase }, { on := 10, ground := Go.Ground.phase }, { on := 11, ground := Go.Ground.phase }, { on := 12, ground := Go.Ground.phase }, { on := 13, ground := Go.Ground.phase }, { on := 14, ground := Go.Ground.phase }], guard := none }) (v := ?vr2_16_15) rfl (by kernel_rfl) (by kernel_rfl) (by kernel_rfl) (fun _ _ _ h => h) (Or.inl ⟨by rfl, ?yr2_16_15⟩) hHeld ?_
    case yr2_16_15 => ((intro w hSw; (try dsimp only at hSw); go_simp) <;> with_reducible rfl)
    (try simp only [Act.put, List.setIfInBounds_toArray, List.set_cons_zero, List.set_cons_succ])
    refine wpAnyH_done (by kernel_rfl) ?_ _
    have hbe := hHeld.2.2.2.2
    clear hHeld b0 b1 z0 z1 hb'
    go_wp2_with fail
    exact bodyPost_ret (v := .bool true) (by simp [results, Try.results4, go_sem]) rfl ⟨rfl, hbe⟩
theorem ratioDivides_any (A d : Int) (A0 : 0 ≤ A) (A1 : A < MM) (hd : Word d) (w : World) :
    Calls Try.prog 4 #[.agg #[.int .u64 (hi A), .int .u64 (lo A)], .int .u64 d] w fun e w' => e = .returned (.bool true) ∧ Below w.heap.size w w' := by
  obtain ⟨h0, h1⟩ := hd
  by_cases hz : d = 0
  · subst hz; exact rd_zero _ _ w
  · exact rd_walk A d _ _ _ A0 A1 (by omega) h1 rfl rfl rfl w
end Go.Proofs.Ythohpcbfohlmhaa
