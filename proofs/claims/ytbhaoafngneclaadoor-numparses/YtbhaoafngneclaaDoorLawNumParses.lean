/- NumParses answers true for every text and limit. No conditions. -/
import Derived.Test.YtbhaoafngneclaaDoorNR5
namespace Go.Proofs.YtbhaoafngneclaaDoor
set_option linter.unusedVariables false
set_option linter.unusedSimpArgs false
open Go.RowKit
set_option maxRecDepth 100000 in
set_option maxHeartbeats 3200000 in
theorem nq_form (l : List UInt8) (m : Int)  (h200 : ¬ 200 < l.length) (w : World)
    (hPa : ∀ w, Calls Tryd.prog 11 #[.string ⟨l.toArray⟩, .int .u64 m] w fun e w' => e = .returned (.tuple #[.int .u64 (0), .int .i64 (3)]) ∧ Below w.heap.size w w')
    (hPw : ∀ w, Calls Tryd.prog 12 #[.string ⟨l.toArray⟩] w fun e w' => e = .returned (.tuple #[.agg #[.int .u64 (0), .int .u64 (0)], .int .i64 (3)]) ∧ Below w.heap.size w w')
    (hIs : ∀ w, Calls Tryd.prog 13 #[.string ⟨l.toArray⟩] w fun e w' => e = .returned (.bool false) ∧ Below w.heap.size w w') :
    Calls Tryd.prog 4 #[.string ⟨l.toArray⟩, .int .u64 m] w fun e w' => e = .returned (.bool true) ∧ Below w.heap.size w w' := by
  have hsz := bs_size l
  have hb : Below w.heap.size w w := Below.refl _ _
  go_enter Tryd.func4, Tryd.ntmps4
  go_wp2_with fail
  refine (hPa _).mono ?_
  rintro e w1 ⟨rfl, hb2⟩
  replace hb := below_step hb hb2
  clear hb2 hPa
  go_wp2_with fail
  refine (hPw _).mono ?_
  rintro e w2 ⟨rfl, hb2⟩
  replace hb := below_step hb hb2
  clear hb2 hPw
  have Ra := Row.new w2 #[.int .u64 (0), .int .u64 (0)] 24
  replace hb : Below w.heap.size w (w2.alloc (.cells #[.int .u64 (0), .int .u64 (0)] 24)) := below_step hb ((Below.refl _ _).alloc (Nat.le_refl _) _)
  have HW := Lib.hid (And.intro Ra hb)
  clear Ra hb
  go_wp2_with fail
  obtain ⟨Ra, hb⟩ := HW.out
  clear HW
  generalize w2.alloc (.cells #[.int .u64 (0), .int .u64 (0)] 24) = w3 at *
  generalize w2.heap.size = ga at *
  refine (hIs _).mono ?_
  rintro e w4 ⟨rfl, hb2⟩
  replace Ra := Ra.later hb2
  replace hb := below_step hb hb2
  clear hb2 hIs
  have HW := Lib.hid (And.intro Ra hb)
  clear Ra hb
  go_wp2_with fail
  obtain ⟨Ra, hb⟩ := HW.out
  clear HW
  refine (alive6 _).mono ?_
  rintro e w5 ⟨rfl, hb2⟩
  replace Ra := Ra.later hb2
  replace hb := below_step hb hb2
  clear hb2 
  have a0 := (Ra.cell 0).trans (show _ = some (Value.int .u64 (0)) from rfl)
  have a1 := (Ra.cell 1).trans (show _ = some (Value.int .u64 (0)) from rfl)
  have HB := Lib.hid hb
  clear Ra hb
  go_wp2
  go_ret
  exact ⟨rfl, HB.out⟩
set_option maxRecDepth 100000 in
set_option maxHeartbeats 3200000 in
theorem nq_over (l : List UInt8) (m : Int) (M : List UInt8) (h200 : ¬ 200 < l.length) (w : World)
    (hPa : ∀ w, Calls Tryd.prog 11 #[.string ⟨l.toArray⟩, .int .u64 m] w fun e w' => e = .returned (.tuple #[.int .u64 (0), .int .i64 (11)]) ∧ Below w.heap.size w w')
    (hPw : ∀ w, Calls Tryd.prog 12 #[.string ⟨l.toArray⟩] w fun e w' => e = .returned (.tuple #[.agg #[.int .u64 (0), .int .u64 (0)], .int .i64 (11)]) ∧ Below w.heap.size w w')
    (hIs : ∀ w, Calls Tryd.prog 13 #[.string ⟨l.toArray⟩] w fun e w' => e = .returned (.bool true) ∧ Below w.heap.size w w')
    (hMo : ∀ w, Calls Tryd.prog 15 #[] w fun e w' => e = .returned (.string ⟨M.toArray⟩) ∧ Below w.heap.size w w')
    (hL1 : ∀ w, Calls Tryd.prog 14 #[.string ⟨l.toArray⟩, .string ⟨M.toArray⟩] w fun e w' => e = .returned (.bool false) ∧ Below w.heap.size w w') :
    Calls Tryd.prog 4 #[.string ⟨l.toArray⟩, .int .u64 m] w fun e w' => e = .returned (.bool true) ∧ Below w.heap.size w w' := by
  have hsz := bs_size l
  have hb : Below w.heap.size w w := Below.refl _ _
  go_enter Tryd.func4, Tryd.ntmps4
  go_wp2_with fail
  refine (hPa _).mono ?_
  rintro e w1 ⟨rfl, hb2⟩
  replace hb := below_step hb hb2
  clear hb2 hPa
  go_wp2_with fail
  refine (hPw _).mono ?_
  rintro e w2 ⟨rfl, hb2⟩
  replace hb := below_step hb hb2
  clear hb2 hPw
  have Ra := Row.new w2 #[.int .u64 (0), .int .u64 (0)] 24
  replace hb : Below w.heap.size w (w2.alloc (.cells #[.int .u64 (0), .int .u64 (0)] 24)) := below_step hb ((Below.refl _ _).alloc (Nat.le_refl _) _)
  have HW := Lib.hid (And.intro Ra hb)
  clear Ra hb
  go_wp2_with fail
  obtain ⟨Ra, hb⟩ := HW.out
  clear HW
  generalize w2.alloc (.cells #[.int .u64 (0), .int .u64 (0)] 24) = w3 at *
  generalize w2.heap.size = ga at *
  refine (hIs _).mono ?_
  rintro e w4 ⟨rfl, hb2⟩
  replace Ra := Ra.later hb2
  replace hb := below_step hb hb2
  clear hb2 hIs
  have HW := Lib.hid (And.intro Ra hb)
  clear Ra hb
  go_wp2_with fail
  obtain ⟨Ra, hb⟩ := HW.out
  clear HW
  refine (hMo _).mono ?_
  rintro e w5 ⟨rfl, hb2⟩
  replace Ra := Ra.later hb2
  replace hb := below_step hb hb2
  clear hb2 hMo
  have HW := Lib.hid (And.intro Ra hb)
  clear Ra hb
  go_wp2_with fail
  obtain ⟨Ra, hb⟩ := HW.out
  clear HW
  refine (hL1 _).mono ?_
  rintro e w6 ⟨rfl, hb2⟩
  replace Ra := Ra.later hb2
  replace hb := below_step hb hb2
  clear hb2 hL1
  have HW := Lib.hid (And.intro Ra hb)
  clear Ra hb
  go_wp2_with fail
  obtain ⟨Ra, hb⟩ := HW.out
  clear HW
  refine (alive6 _).mono ?_
  rintro e w7 ⟨rfl, hb2⟩
  replace Ra := Ra.later hb2
  replace hb := below_step hb hb2
  clear hb2 
  have a0 := (Ra.cell 0).trans (show _ = some (Value.int .u64 (0)) from rfl)
  have a1 := (Ra.cell 1).trans (show _ = some (Value.int .u64 (0)) from rfl)
  have HB := Lib.hid hb
  clear Ra hb
  go_wp2
  go_ret
  exact ⟨rfl, HB.out⟩
set_option maxRecDepth 100000 in
set_option maxHeartbeats 3200000 in
theorem nq_above (l : List UInt8) (m : Int) (H L : Int) (M T : List UInt8) (h200 : ¬ 200 < l.length) (w : World)
    (hPa : ∀ w, Calls Tryd.prog 11 #[.string ⟨l.toArray⟩, .int .u64 m] w fun e w' => e = .returned (.tuple #[.int .u64 (0), .int .i64 (11)]) ∧ Below w.heap.size w w')
    (hPw : ∀ w, Calls Tryd.prog 12 #[.string ⟨l.toArray⟩] w fun e w' => e = .returned (.tuple #[.agg #[.int .u64 (H), .int .u64 (L)], .int .i64 (0)]) ∧ Below w.heap.size w w')
    (hIs : ∀ w, Calls Tryd.prog 13 #[.string ⟨l.toArray⟩] w fun e w' => e = .returned (.bool true) ∧ Below w.heap.size w w')
    (hMo : ∀ w, Calls Tryd.prog 15 #[] w fun e w' => e = .returned (.string ⟨M.toArray⟩) ∧ Below w.heap.size w w')
    (hL1 : ∀ w, Calls Tryd.prog 14 #[.string ⟨l.toArray⟩, .string ⟨M.toArray⟩] w fun e w' => e = .returned (.bool true) ∧ Below w.heap.size w w')
    (hRP : ∀ w, Calls Tryd.prog 16 #[.string ⟨l.toArray⟩] w fun e w' => e = .returned (.agg #[.int .u64 H, .int .u64 L]) ∧ Below w.heap.size w w')
    (hPm : ∀ w, Calls Tryd.prog 8 #[.agg #[.int .u64 0, .int .u64 m]] w fun e w' => e = .returned (.string ⟨T.toArray⟩) ∧ Below w.heap.size w w')
    (hL2 : ∀ w, Calls Tryd.prog 14 #[.string ⟨l.toArray⟩, .string ⟨T.toArray⟩] w fun e w' => e = .returned (.bool false) ∧ Below w.heap.size w w') :
    Calls Tryd.prog 4 #[.string ⟨l.toArray⟩, .int .u64 m] w fun e w' => e = .returned (.bool true) ∧ Below w.heap.size w w' := by
  have hsz := bs_size l
  have hb : Below w.heap.size w w := Below.refl _ _
  go_enter Tryd.func4, Tryd.ntmps4
  go_wp2_with fail
  refine (hPa _).mono ?_
  rintro e w1 ⟨rfl, hb2⟩
  replace hb := below_step hb hb2
  clear hb2 hPa
  go_wp2_with fail
  refine (hPw _).mono ?_
  rintro e w2 ⟨rfl, hb2⟩
  replace hb := below_step hb hb2
  clear hb2 hPw
  have Ra := Row.new w2 #[.int .u64 (H), .int .u64 (L)] 24
  replace hb : Below w.heap.size w (w2.alloc (.cells #[.int .u64 (H), .int .u64 (L)] 24)) := below_step hb ((Below.refl _ _).alloc (Nat.le_refl _) _)
  have HW := Lib.hid (And.intro Ra hb)
  clear Ra hb
  go_wp2_with fail
  obtain ⟨Ra, hb⟩ := HW.out
  clear HW
  generalize w2.alloc (.cells #[.int .u64 (H), .int .u64 (L)] 24) = w3 at *
  generalize w2.heap.size = ga at *
  refine (hIs _).mono ?_
  rintro e w4 ⟨rfl, hb2⟩
  replace Ra := Ra.later hb2
  replace hb := below_step hb hb2
  clear hb2 hIs
  have HW := Lib.hid (And.intro Ra hb)
  clear Ra hb
  go_wp2_with fail
  obtain ⟨Ra, hb⟩ := HW.out
  clear HW
  refine (hMo _).mono ?_
  rintro e w5 ⟨rfl, hb2⟩
  replace Ra := Ra.later hb2
  replace hb := below_step hb hb2
  clear hb2 hMo
  have HW := Lib.hid (And.intro Ra hb)
  clear Ra hb
  go_wp2_with fail
  obtain ⟨Ra, hb⟩ := HW.out
  clear HW
  refine (hL1 _).mono ?_
  rintro e w6 ⟨rfl, hb2⟩
  replace Ra := Ra.later hb2
  replace hb := below_step hb hb2
  clear hb2 hL1
  have HW := Lib.hid (And.intro Ra hb)
  clear Ra hb
  go_wp2_with fail
  obtain ⟨Ra, hb⟩ := HW.out
  clear HW
  refine (hRP _).mono ?_
  rintro e w7 ⟨rfl, hb2⟩
  replace Ra := Ra.later hb2
  replace hb := below_step hb hb2
  clear hb2 hRP
  have Rx := Row.new w7 #[.int .u64 H, .int .u64 L] 28
  replace Ra := Ra.alloc (.cells #[.int .u64 H, .int .u64 L] 28)
  replace hb : Below w.heap.size w (w7.alloc (.cells #[.int .u64 H, .int .u64 L] 28)) := below_step hb ((Below.refl _ _).alloc (Nat.le_refl _) _)
  have HW := Lib.hid (And.intro Ra (And.intro Rx hb))
  clear Ra Rx hb
  go_wp2_with fail
  obtain ⟨Ra, Rx, hb⟩ := HW.out
  clear HW
  generalize w7.alloc (.cells #[.int .u64 H, .int .u64 L] 28) = w8 at *
  generalize w7.heap.size = gx at *
  refine (hPm _).mono ?_
  rintro e w9 ⟨rfl, hb2⟩
  replace Ra := Ra.later hb2
  replace Rx := Rx.later hb2
  replace hb := below_step hb hb2
  clear hb2 hPm
  have HW := Lib.hid (And.intro Ra (And.intro Rx hb))
  clear Ra Rx hb
  go_wp2_with fail
  obtain ⟨Ra, Rx, hb⟩ := HW.out
  clear HW
  refine (hL2 _).mono ?_
  rintro e wA ⟨rfl, hb2⟩
  replace Ra := Ra.later hb2
  replace Rx := Rx.later hb2
  replace hb := below_step hb hb2
  clear hb2 hL2
  have HW := Lib.hid (And.intro Ra (And.intro Rx hb))
  clear Ra Rx hb
  go_wp2_with fail
  obtain ⟨Ra, Rx, hb⟩ := HW.out
  clear HW
  have a0 := (Ra.cell 0).trans (show _ = some (Value.int .u64 H) from rfl)
  have a1 := (Ra.cell 1).trans (show _ = some (Value.int .u64 L) from rfl)
  have x0 := (Rx.cell 0).trans (show _ = some (Value.int .u64 H) from rfl)
  have x1 := (Rx.cell 1).trans (show _ = some (Value.int .u64 L) from rfl)
  clear Ra Rx
  refine wp_region_held_drew (S := (fun w' => w'.cell? ⟨ga, 0, none⟩ = some (.int .u64 H) ∧ w'.cell? ⟨ga, 1, none⟩ = some (.int .u64 L) ∧ w'.cell? ⟨gx, 0, none⟩ = some (.int .u64 H) ∧ w'.cell? ⟨gx, 1, none⟩ = some (.int .u64 L) ∧ Below w.heap.size w w')) (by kernel_rfl) ?hSr1_ (fun hHeld => ?_)
  case hSr1_ => (first | exact ⟨a0, a1, x0, x1, hb.drew⟩ | exact ⟨cell_later hb2 hHeld.1, cell_later hb2 hHeld.2.1, cell_later hb2 hHeld.2.2.1, cell_later hb2 hHeld.2.2.2.1, below_step hHeld.2.2.2.2 hb2⟩)
  refine wpAnyH_ready (rs := [0]) (by kernel_rfl) (by simp) ?_
  refine AllReadyH.cons (o := { dst := some 76, op := Go.Op.call { callee := Go.Callee.value (Go.Operand.func 6), args := #[], argTypes := #[] }, type := 4, pos := _, after := #[], guard := none }) rfl (fun K hK => ?_) AllReadyH.nil
  go_simp
  ((refine (alive6 _).mono ?_); (rintro e wn ⟨rfl, hb2⟩))
  go_wp2_with fail
  refine hK.out _ _ ?hSr1_1_0 (fun hHeld2 => ?_)
  case hSr1_1_0 => (first | exact ⟨a0, a1, x0, x1, hb.drew⟩ | exact ⟨cell_later hb2 hHeld.1, cell_later hb2 hHeld.2.1, cell_later hb2 hHeld.2.2.1, cell_later hb2 hHeld.2.2.2.1, below_step hHeld.2.2.2.2 hb2⟩)
  clear hK K hHeld
  have hHeld := hHeld2
  clear hHeld2
  (try simp only [Act.put, List.setIfInBounds_toArray, List.set_cons_zero, List.set_cons_succ])
  refine wpAnyH_take (i := 1) (oi := { dst := some 77, op := Go.Op.move (Go.Operand.tmp 76), type := 4, pos := _, after := #[{ on := 0, ground := Go.Ground.data }, { on := 0, ground := Go.Ground.chain }], guard := none }) (v := ?vr1_2_1) rfl (by kernel_rfl) (by kernel_rfl) (by kernel_rfl) (fun _ _ _ h => h) (Or.inl ⟨by rfl, ?yr1_2_1⟩) hHeld ?_
  case yr1_2_1 => ((intro w hSw; (try dsimp only at hSw); go_simp) <;> with_reducible rfl)
  (try simp only [Act.put, List.setIfInBounds_toArray, List.set_cons_zero, List.set_cons_succ])
  refine wpAnyH_take (i := 2) (oi := { dst := some 78, op := Go.Op.move (Go.Operand.tmp 6), type := 32, pos := _, after := #[{ on := 1, ground := Go.Ground.guard }], guard := some (1, true) }) (v := ?vr1_3_2) rfl (by kernel_rfl) (by kernel_rfl) (by kernel_rfl) (fun _ _ _ h => h) (Or.inl ⟨by rfl, ?yr1_3_2⟩) hHeld ?_
  case yr1_3_2 => ((intro w hSw; (try dsimp only at hSw); go_simp) <;> with_reducible rfl)
  (try simp only [Act.put, List.setIfInBounds_toArray, List.set_cons_zero, List.set_cons_succ])
  refine wpAnyH_take (i := 3) (oi := { dst := some 79, op := Go.Op.binOp Go.BinOp.eql 32 (Go.Operand.tmp 78) (Go.Operand.const (Go.Value.int Go.IntKind.i64 11)) 32, type := 4, pos := _, after := #[{ on := 2, ground := Go.Ground.data }, { on := 1, ground := Go.Ground.guard }], guard := some (1, true) }) (v := ?vr1_4_3) rfl (by kernel_rfl) (by kernel_rfl) (by kernel_rfl) (fun _ _ _ h => h) (Or.inl ⟨by rfl, ?yr1_4_3⟩) hHeld ?_
  case yr1_4_3 => ((intro w hSw; (try dsimp only at hSw); go_simp) <;> with_reducible rfl)
  (try simp only [Act.put, List.setIfInBounds_toArray, List.set_cons_zero, List.set_cons_succ])
  refine wpAnyH_take (i := 4) (oi := { dst := some 80, op := Go.Op.pick (Go.Operand.tmp 77) (Go.Operand.tmp 79) (Go.Operand.const (Go.Value.bool false)), type := 4, pos := _, after := #[{ on := 1, ground := Go.Ground.data }, { on := 3, ground := Go.Ground.data }], guard := none }) (v := ?vr1_5_4) rfl (by kernel_rfl) (by kernel_rfl) (by kernel_rfl) (fun _ _ _ h => h) (Or.inl ⟨by rfl, ?yr1_5_4⟩) hHeld ?_
  case yr1_5_4 => ((intro w hSw; (try dsimp only at hSw); go_simp) <;> with_reducible rfl)
  (try simp only [Act.put, List.setIfInBounds_toArray, List.set_cons_zero, List.set_cons_succ])
  refine wpAnyH_take (i := 5) (oi := { dst := some 81, op := Go.Op.move (Go.Operand.tmp 80), type := 4, pos := _, after := #[{ on := 4, ground := Go.Ground.data }, { on := 1, ground := Go.Ground.chain }], guard := none }) (v := ?vr1_6_5) rfl (by kernel_rfl) (by kernel_rfl) (by kernel_rfl) (fun _ _ _ h => h) (Or.inl ⟨by rfl, ?yr1_6_5⟩) hHeld ?_
  case yr1_6_5 => ((intro w hSw; (try dsimp only at hSw); go_simp) <;> with_reducible rfl)
  (try simp only [Act.put, List.setIfInBounds_toArray, List.set_cons_zero, List.set_cons_succ])
  refine wpAnyH_take (i := 6) (oi := { dst := some 82, op := Go.Op.move (Go.Operand.tmp 5), type := 22, pos := _, after := #[{ on := 5, ground := Go.Ground.guard }], guard := some (5, true) }) (v := ?vr1_7_6) rfl (by kernel_rfl) (by kernel_rfl) (by kernel_rfl) (fun _ _ _ h => h) (Or.inl ⟨by rfl, ?yr1_7_6⟩) hHeld ?_
  case yr1_7_6 => ((intro w hSw; (try dsimp only at hSw); go_simp) <;> with_reducible rfl)
  (try simp only [Act.put, List.setIfInBounds_toArray, List.set_cons_zero, List.set_cons_succ])
  refine wpAnyH_take (i := 7) (oi := { dst := some 83, op := Go.Op.binOp Go.BinOp.eql 22 (Go.Operand.tmp 82) (Go.Operand.const (Go.Value.int Go.IntKind.u64 0)) 22, type := 4, pos := _, after := #[{ on := 6, ground := Go.Ground.data }, { on := 5, ground := Go.Ground.guard }], guard := some (5, true) }) (v := ?vr1_8_7) rfl (by kernel_rfl) (by kernel_rfl) (by kernel_rfl) (fun _ _ _ h => h) (Or.inl ⟨by rfl, ?yr1_8_7⟩) hHeld ?_
  case yr1_8_7 => ((intro w hSw; (try dsimp only at hSw); go_simp) <;> with_reducible rfl)
  (try simp only [Act.put, List.setIfInBounds_toArray, List.set_cons_zero, List.set_cons_succ])
  refine wpAnyH_take (i := 8) (oi := { dst := some 84, op := Go.Op.pick (Go.Operand.tmp 81) (Go.Operand.tmp 83) (Go.Operand.const (Go.Value.bool false)), type := 4, pos := _, after := #[{ on := 5, ground := Go.Ground.data }, { on := 7, ground := Go.Ground.data }], guard := none }) (v := ?vr1_9_8) rfl (by kernel_rfl) (by kernel_rfl) (by kernel_rfl) (fun _ _ _ h => h) (Or.inl ⟨by rfl, ?yr1_9_8⟩) hHeld ?_
  case yr1_9_8 => ((intro w hSw; (try dsimp only at hSw); go_simp) <;> with_reducible rfl)
  (try simp only [Act.put, List.setIfInBounds_toArray, List.set_cons_zero, List.set_cons_succ])
  refine wpAnyH_take (i := 9) (oi := { dst := some 85, op := Go.Op.move (Go.Operand.tmp 84), type := 4, pos := _, after := #[{ on := 8, ground := Go.Ground.data }, { on := 5, ground := Go.Ground.chain }], guard := none }) (v := ?vr1_10_9) rfl (by kernel_rfl) (by kernel_rfl) (by kernel_rfl) (fun _ _ _ h => h) (Or.inl ⟨by rfl, ?yr1_10_9⟩) hHeld ?_
  case yr1_10_9 => ((intro w hSw; (try dsimp only at hSw); go_simp) <;> with_reducible rfl)
  (try simp only [Act.put, List.setIfInBounds_toArray, List.set_cons_zero, List.set_cons_succ])
  refine wpAnyH_take (i := 10) (oi := { dst := some 86, op := Go.Op.move (Go.Operand.tmp 8), type := 32, pos := _, after := #[{ on := 9, ground := Go.Ground.guard }], guard := some (9, true) }) (v := ?vr1_11_10) rfl (by kernel_rfl) (by kernel_rfl) (by kernel_rfl) (fun _ _ _ h => h) (Or.inl ⟨by rfl, ?yr1_11_10⟩) hHeld ?_
  case yr1_11_10 => ((intro w hSw; (try dsimp only at hSw); go_simp) <;> with_reducible rfl)
  (try simp only [Act.put, List.setIfInBounds_toArray, List.set_cons_zero, List.set_cons_succ])
  refine wpAnyH_take (i := 11) (oi := { dst := some 87, op := Go.Op.binOp Go.BinOp.eql 32 (Go.Operand.tmp 86) (Go.Operand.const (Go.Value.int Go.IntKind.i64 0)) 32, type := 4, pos := _, after := #[{ on := 10, ground := Go.Ground.data }, { on := 9, ground := Go.Ground.guard }], guard := some (9, true) }) (v := ?vr1_12_11) rfl (by kernel_rfl) (by kernel_rfl) (by kernel_rfl) (fun _ _ _ h => h) (Or.inl ⟨by rfl, ?yr1_12_11⟩) hHeld ?_
  case yr1_12_11 => ((intro w hSw; (try dsimp only at hSw); go_simp) <;> with_reducible rfl)
  (try simp only [Act.put, List.setIfInBounds_toArray, List.set_cons_zero, List.set_cons_succ])
  refine wpAnyH_take (i := 12) (oi := { dst := some 88, op := Go.Op.pick (Go.Operand.tmp 85) (Go.Operand.tmp 87) (Go.Operand.const (Go.Value.bool false)), type := 4, pos := _, after := #[{ on := 9, ground := Go.Ground.data }, { on := 11, ground := Go.Ground.data }], guard := none }) (v := ?vr1_13_12) rfl (by kernel_rfl) (by kernel_rfl) (by kernel_rfl) (fun _ _ _ h => h) (Or.inl ⟨by rfl, ?yr1_13_12⟩) hHeld ?_
  case yr1_13_12 => ((intro w hSw; (try dsimp only at hSw); go_simp) <;> with_reducible rfl)
  (try simp only [Act.put, List.setIfInBounds_toArray, List.set_cons_zero, List.set_cons_succ])
  refine wpAnyH_take (i := 13) (oi := { dst := some 89, op := Go.Op.move (Go.Operand.tmp 88), type := 4, pos := _, after := #[{ on := 12, ground := Go.Ground.data }, { on := 9, ground := Go.Ground.chain }], guard := none }) (v := ?vr1_14_13) rfl (by kernel_rfl) (by kernel_rfl) (by kernel_rfl) (fun _ _ _ h => h) (Or.inl ⟨by rfl, ?yr1_14_13⟩) hHeld ?_
  case yr1_14_13 => ((intro w hSw; (try dsimp only at hSw); go_simp) <;> with_reducible rfl)
  (try simp only [Act.put, List.setIfInBounds_toArray, List.set_cons_zero, List.set_cons_succ])
  refine wpAnyH_take (i := 14) (oi := { dst := some 90, op := Go.Op.load 24 (Go.Operand.tmp 7), type := 24, pos := _, after := #[{ on := 13, ground := Go.Ground.guard }], guard := some (13, true) }) (v := ?vr1_15_14) rfl (by kernel_rfl) (by kernel_rfl) (by kernel_rfl) (fun _ _ _ h => h) (Or.inl ⟨by rfl, ?yr1_15_14⟩) hHeld ?_
  case yr1_15_14 => ((intro w hSw; (try dsimp only at hSw); go_simp) <;> with_reducible rfl)
  (try simp only [Act.put, List.setIfInBounds_toArray, List.set_cons_zero, List.set_cons_succ])
  refine wpAnyH_take (i := 16) (oi := { dst := some 92, op := Go.Op.load 28 (Go.Operand.tmp 9), type := 28, pos := _, after := #[{ on := 13, ground := Go.Ground.guard }], guard := some (13, true) }) (v := ?vr1_16_16) rfl (by kernel_rfl) (by kernel_rfl) (by kernel_rfl) (fun _ _ _ h => h) (Or.inl ⟨by rfl, ?yr1_16_16⟩) hHeld ?_
  case yr1_16_16 => ((intro w hSw; (try dsimp only at hSw); go_simp) <;> with_reducible rfl)
  (try simp only [Act.put, List.setIfInBounds_toArray, List.set_cons_zero, List.set_cons_succ])
  refine wpAnyH_ready (rs := [15]) (by kernel_rfl) (by simp) ?_
  refine AllReadyH.cons (o := { dst := some 91, op := Go.Op.call { callee := Go.Callee.value (Go.Operand.func 9), args := #[Go.Operand.tmp 90], argTypes := #[24] }, type := 28, pos := _, after := #[{ on := 14, ground := Go.Ground.data }, { on := 13, ground := Go.Ground.chain }, { on := 13, ground := Go.Ground.guard }], guard := some (13, true) }) rfl (fun K hK => ?_) AllReadyH.nil
  go_simp
  ((refine (asW_t _ _ _).mono ?_); (rintro e wn ⟨rfl, hb2⟩))
  go_wp2_with fail
  refine hK.out _ _ ?hSr1_17_15 (fun hHeld2 => ?_)
  case hSr1_17_15 => (first | exact ⟨a0, a1, x0, x1, hb.drew⟩ | exact ⟨cell_later hb2 hHeld.1, cell_later hb2 hHeld.2.1, cell_later hb2 hHeld.2.2.1, cell_later hb2 hHeld.2.2.2.1, below_step hHeld.2.2.2.2 hb2⟩)
  clear hK K hHeld
  have hHeld := hHeld2
  clear hHeld2
  (try simp only [Act.put, List.setIfInBounds_toArray, List.set_cons_zero, List.set_cons_succ])
  refine wpAnyH_take (i := 17) (oi := { dst := some 93, op := Go.Op.binOp Go.BinOp.eql 28 (Go.Operand.tmp 91) (Go.Operand.tmp 92) 28, type := 4, pos := _, after := #[{ on := 15, ground := Go.Ground.data }, { on := 16, ground := Go.Ground.data }, { on := 13, ground := Go.Ground.guard }], guard := some (13, true) }) (v := ?vr1_18_17) rfl (by kernel_rfl) (by kernel_rfl) (by kernel_rfl) (fun _ _ _ h => h) (Or.inl ⟨by rfl, ?yr1_18_17⟩) hHeld ?_
  case yr1_18_17 => ((intro w hSw; (try dsimp only at hSw); go_simp) <;> with_reducible rfl)
  (try simp only [Act.put, List.setIfInBounds_toArray, List.set_cons_zero, List.set_cons_succ])
  refine wpAnyH_take (i := 18) (oi := { dst := some 94, op := Go.Op.pick (Go.Operand.tmp 89) (Go.Operand.tmp 93) (Go.Operand.const (Go.Value.bool false)), type := 4, pos := _, after := #[{ on := 13, ground := Go.Ground.data }, { on := 17, ground := Go.Ground.data }], guard := none }) (v := ?vr1_19_18) rfl (by kernel_rfl) (by kernel_rfl) (by kernel_rfl) (fun _ _ _ h => h) (Or.inl ⟨by rfl, ?yr1_19_18⟩) hHeld ?_
  case yr1_19_18 => ((intro w hSw; (try dsimp only at hSw); go_simp) <;> with_reducible rfl)
  (try simp only [Act.put, List.setIfInBounds_toArray, List.set_cons_zero, List.set_cons_succ])
  refine wpAnyH_take (i := 19) (oi := { dst := some 4, op := Go.Op.assign (Go.Operand.tmp 94), type := 4, pos := _, after := #[{ on := 18, ground := Go.Ground.data }, { on := 15, ground := Go.Ground.chain }, { on := 0, ground := Go.Ground.phase }, { on := 1, ground := Go.Ground.phase }, { on := 2, ground := Go.Ground.phase }, { on := 3, ground := Go.Ground.phase }, { on := 4, ground := Go.Ground.phase }, { on := 5, ground := Go.Ground.phase }, { on := 6, ground := Go.Ground.phase }, { on := 7, ground := Go.Ground.phase }, { on := 8, ground := Go.Ground.phase }, { on := 9, ground := Go.Ground.phase }, { on := 10, ground := Go.Ground.phase }, { on := 11, ground := Go.Ground.phase }, { on := 12, ground := Go.Ground.phase }, { on := 13, ground := Go.Ground.phase }, { on := 14, ground := Go.Ground.phase }, { on := 15, ground := Go.Ground.phase }, { on := 16, ground := Go.Ground.phase }, { on := 17, ground := Go.Ground.phase }, { on := 18, ground := Go.Ground.phase }], guard := none }) (v := ?vr1_20_19) rfl (by kernel_rfl) (by kernel_rfl) (by kernel_rfl) (fun _ _ _ h => h) (Or.inl ⟨by rfl, ?yr1_20_19⟩) hHeld ?_
  case yr1_20_19 => ((intro w hSw; (try dsimp only at hSw); go_simp) <;> with_reducible rfl)
  (try simp only [Act.put, List.setIfInBounds_toArray, List.set_cons_zero, List.set_cons_succ])
  refine wpAnyH_done (by kernel_rfl) ?_ _
  have HB := Lib.hid hHeld.2.2.2.2
  clear hHeld
  go_wp2
  go_ret
  exact ⟨rfl, HB.out⟩
set_option maxRecDepth 100000 in
set_option maxHeartbeats 3200000 in
theorem nq_ok (l : List UInt8) (m : Int) (H L : Int) (M T : List UInt8) (h200 : ¬ 200 < l.length) (w : World)
    (hPa : ∀ w, Calls Tryd.prog 11 #[.string ⟨l.toArray⟩, .int .u64 m] w fun e w' => e = .returned (.tuple #[.int .u64 (L), .int .i64 (0)]) ∧ Below w.heap.size w w')
    (hPw : ∀ w, Calls Tryd.prog 12 #[.string ⟨l.toArray⟩] w fun e w' => e = .returned (.tuple #[.agg #[.int .u64 (H), .int .u64 (L)], .int .i64 (0)]) ∧ Below w.heap.size w w')
    (hIs : ∀ w, Calls Tryd.prog 13 #[.string ⟨l.toArray⟩] w fun e w' => e = .returned (.bool true) ∧ Below w.heap.size w w')
    (hMo : ∀ w, Calls Tryd.prog 15 #[] w fun e w' => e = .returned (.string ⟨M.toArray⟩) ∧ Below w.heap.size w w')
    (hL1 : ∀ w, Calls Tryd.prog 14 #[.string ⟨l.toArray⟩, .string ⟨M.toArray⟩] w fun e w' => e = .returned (.bool true) ∧ Below w.heap.size w w')
    (hRP : ∀ w, Calls Tryd.prog 16 #[.string ⟨l.toArray⟩] w fun e w' => e = .returned (.agg #[.int .u64 H, .int .u64 L]) ∧ Below w.heap.size w w')
    (hPm : ∀ w, Calls Tryd.prog 8 #[.agg #[.int .u64 0, .int .u64 m]] w fun e w' => e = .returned (.string ⟨T.toArray⟩) ∧ Below w.heap.size w w')
    (hL2 : ∀ w, Calls Tryd.prog 14 #[.string ⟨l.toArray⟩, .string ⟨T.toArray⟩] w fun e w' => e = .returned (.bool true) ∧ Below w.heap.size w w') :
    Calls Tryd.prog 4 #[.string ⟨l.toArray⟩, .int .u64 m] w fun e w' => e = .returned (.bool true) ∧ Below w.heap.size w w' := by
  have hsz := bs_size l
  have hb : Below w.heap.size w w := Below.refl _ _
  go_enter Tryd.func4, Tryd.ntmps4
  go_wp2_with fail
  refine (hPa _).mono ?_
  rintro e w1 ⟨rfl, hb2⟩
  replace hb := below_step hb hb2
  clear hb2 hPa
  go_wp2_with fail
  refine (hPw _).mono ?_
  rintro e w2 ⟨rfl, hb2⟩
  replace hb := below_step hb hb2
  clear hb2 hPw
  have Ra := Row.new w2 #[.int .u64 (H), .int .u64 (L)] 24
  replace hb : Below w.heap.size w (w2.alloc (.cells #[.int .u64 (H), .int .u64 (L)] 24)) := below_step hb ((Below.refl _ _).alloc (Nat.le_refl _) _)
  have HW := Lib.hid (And.intro Ra hb)
  clear Ra hb
  go_wp2_with fail
  obtain ⟨Ra, hb⟩ := HW.out
  clear HW
  generalize w2.alloc (.cells #[.int .u64 (H), .int .u64 (L)] 24) = w3 at *
  generalize w2.heap.size = ga at *
  refine (hIs _).mono ?_
  rintro e w4 ⟨rfl, hb2⟩
  replace Ra := Ra.later hb2
  replace hb := below_step hb hb2
  clear hb2 hIs
  have HW := Lib.hid (And.intro Ra hb)
  clear Ra hb
  go_wp2_with fail
  obtain ⟨Ra, hb⟩ := HW.out
  clear HW
  refine (hMo _).mono ?_
  rintro e w5 ⟨rfl, hb2⟩
  replace Ra := Ra.later hb2
  replace hb := below_step hb hb2
  clear hb2 hMo
  have HW := Lib.hid (And.intro Ra hb)
  clear Ra hb
  go_wp2_with fail
  obtain ⟨Ra, hb⟩ := HW.out
  clear HW
  refine (hL1 _).mono ?_
  rintro e w6 ⟨rfl, hb2⟩
  replace Ra := Ra.later hb2
  replace hb := below_step hb hb2
  clear hb2 hL1
  have HW := Lib.hid (And.intro Ra hb)
  clear Ra hb
  go_wp2_with fail
  obtain ⟨Ra, hb⟩ := HW.out
  clear HW
  refine (hRP _).mono ?_
  rintro e w7 ⟨rfl, hb2⟩
  replace Ra := Ra.later hb2
  replace hb := below_step hb hb2
  clear hb2 hRP
  have Rx := Row.new w7 #[.int .u64 H, .int .u64 L] 28
  replace Ra := Ra.alloc (.cells #[.int .u64 H, .int .u64 L] 28)
  replace hb : Below w.heap.size w (w7.alloc (.cells #[.int .u64 H, .int .u64 L] 28)) := below_step hb ((Below.refl _ _).alloc (Nat.le_refl _) _)
  have HW := Lib.hid (And.intro Ra (And.intro Rx hb))
  clear Ra Rx hb
  go_wp2_with fail
  obtain ⟨Ra, Rx, hb⟩ := HW.out
  clear HW
  generalize w7.alloc (.cells #[.int .u64 H, .int .u64 L] 28) = w8 at *
  generalize w7.heap.size = gx at *
  refine (hPm _).mono ?_
  rintro e w9 ⟨rfl, hb2⟩
  replace Ra := Ra.later hb2
  replace Rx := Rx.later hb2
  replace hb := below_step hb hb2
  clear hb2 hPm
  have HW := Lib.hid (And.intro Ra (And.intro Rx hb))
  clear Ra Rx hb
  go_wp2_with fail
  obtain ⟨Ra, Rx, hb⟩ := HW.out
  clear HW
  refine (hL2 _).mono ?_
  rintro e wA ⟨rfl, hb2⟩
  replace Ra := Ra.later hb2
  replace Rx := Rx.later hb2
  replace hb := below_step hb hb2
  clear hb2 hL2
  have HW := Lib.hid (And.intro Ra (And.intro Rx hb))
  clear Ra Rx hb
  go_wp2_with fail
  obtain ⟨Ra, Rx, hb⟩ := HW.out
  clear HW
  have a0 := (Ra.cell 0).trans (show _ = some (Value.int .u64 H) from rfl)
  have a1 := (Ra.cell 1).trans (show _ = some (Value.int .u64 L) from rfl)
  have x0 := (Rx.cell 0).trans (show _ = some (Value.int .u64 H) from rfl)
  have x1 := (Rx.cell 1).trans (show _ = some (Value.int .u64 L) from rfl)
  clear Ra Rx
  refine wp_region_held_drew (S := (fun w' => w'.cell? ⟨ga, 0, none⟩ = some (.int .u64 H) ∧ w'.cell? ⟨ga, 1, none⟩ = some (.int .u64 L) ∧ w'.cell? ⟨gx, 0, none⟩ = some (.int .u64 H) ∧ w'.cell? ⟨gx, 1, none⟩ = some (.int .u64 L) ∧ Below w.heap.size w w')) (by kernel_rfl) ?hSr2_ (fun hHeld => ?_)
  case hSr2_ => (first | exact ⟨a0, a1, x0, x1, hb.drew⟩ | exact ⟨cell_later hb2 hHeld.1, cell_later hb2 hHeld.2.1, cell_later hb2 hHeld.2.2.1, cell_later hb2 hHeld.2.2.2.1, below_step hHeld.2.2.2.2 hb2⟩)
  refine wpAnyH_ready (rs := [0]) (by kernel_rfl) (by simp) ?_
  refine AllReadyH.cons (o := { dst := some 95, op := Go.Op.call { callee := Go.Callee.value (Go.Operand.func 6), args := #[], argTypes := #[] }, type := 4, pos := _, after := #[], guard := none }) rfl (fun K hK => ?_) AllReadyH.nil
  go_simp
  ((refine (alive6 _).mono ?_); (rintro e wn ⟨rfl, hb2⟩))
  go_wp2_with fail
  refine hK.out _ _ ?hSr2_1_0 (fun hHeld2 => ?_)
  case hSr2_1_0 => (first | exact ⟨a0, a1, x0, x1, hb.drew⟩ | exact ⟨cell_later hb2 hHeld.1, cell_later hb2 hHeld.2.1, cell_later hb2 hHeld.2.2.1, cell_later hb2 hHeld.2.2.2.1, below_step hHeld.2.2.2.2 hb2⟩)
  clear hK K hHeld
  have hHeld := hHeld2
  clear hHeld2
  (try simp only [Act.put, List.setIfInBounds_toArray, List.set_cons_zero, List.set_cons_succ])
  refine wpAnyH_take (i := 1) (oi := { dst := some 96, op := Go.Op.move (Go.Operand.tmp 95), type := 4, pos := _, after := #[{ on := 0, ground := Go.Ground.data }, { on := 0, ground := Go.Ground.chain }], guard := none }) (v := ?vr2_2_1) rfl (by kernel_rfl) (by kernel_rfl) (by kernel_rfl) (fun _ _ _ h => h) (Or.inl ⟨by rfl, ?yr2_2_1⟩) hHeld ?_
  case yr2_2_1 => ((intro w hSw; (try dsimp only at hSw); go_simp) <;> with_reducible rfl)
  (try simp only [Act.put, List.setIfInBounds_toArray, List.set_cons_zero, List.set_cons_succ])
  refine wpAnyH_take (i := 2) (oi := { dst := some 97, op := Go.Op.move (Go.Operand.tmp 6), type := 32, pos := _, after := #[{ on := 1, ground := Go.Ground.guard }], guard := some (1, true) }) (v := ?vr2_3_2) rfl (by kernel_rfl) (by kernel_rfl) (by kernel_rfl) (fun _ _ _ h => h) (Or.inl ⟨by rfl, ?yr2_3_2⟩) hHeld ?_
  case yr2_3_2 => ((intro w hSw; (try dsimp only at hSw); go_simp) <;> with_reducible rfl)
  (try simp only [Act.put, List.setIfInBounds_toArray, List.set_cons_zero, List.set_cons_succ])
  refine wpAnyH_take (i := 3) (oi := { dst := some 98, op := Go.Op.binOp Go.BinOp.eql 32 (Go.Operand.tmp 97) (Go.Operand.const (Go.Value.int Go.IntKind.i64 0)) 32, type := 4, pos := _, after := #[{ on := 2, ground := Go.Ground.data }, { on := 1, ground := Go.Ground.guard }], guard := some (1, true) }) (v := ?vr2_4_3) rfl (by kernel_rfl) (by kernel_rfl) (by kernel_rfl) (fun _ _ _ h => h) (Or.inl ⟨by rfl, ?yr2_4_3⟩) hHeld ?_
  case yr2_4_3 => ((intro w hSw; (try dsimp only at hSw); go_simp) <;> with_reducible rfl)
  (try simp only [Act.put, List.setIfInBounds_toArray, List.set_cons_zero, List.set_cons_succ])
  refine wpAnyH_take (i := 4) (oi := { dst := some 99, op := Go.Op.pick (Go.Operand.tmp 96) (Go.Operand.tmp 98) (Go.Operand.const (Go.Value.bool false)), type := 4, pos := _, after := #[{ on := 1, ground := Go.Ground.data }, { on := 3, ground := Go.Ground.data }], guard := none }) (v := ?vr2_5_4) rfl (by kernel_rfl) (by kernel_rfl) (by kernel_rfl) (fun _ _ _ h => h) (Or.inl ⟨by rfl, ?yr2_5_4⟩) hHeld ?_
  case yr2_5_4 => ((intro w hSw; (try dsimp only at hSw); go_simp) <;> with_reducible rfl)
  (try simp only [Act.put, List.setIfInBounds_toArray, List.set_cons_zero, List.set_cons_succ])
  refine wpAnyH_take (i := 5) (oi := { dst := some 100, op := Go.Op.move (Go.Operand.tmp 99), type := 4, pos := _, after := #[{ on := 4, ground := Go.Ground.data }, { on := 1, ground := Go.Ground.chain }], guard := none }) (v := ?vr2_6_5) rfl (by kernel_rfl) (by kernel_rfl) (by kernel_rfl) (fun _ _ _ h => h) (Or.inl ⟨by rfl, ?yr2_6_5⟩) hHeld ?_
  case yr2_6_5 => ((intro w hSw; (try dsimp only at hSw); go_simp) <;> with_reducible rfl)
  (try simp only [Act.put, List.setIfInBounds_toArray, List.set_cons_zero, List.set_cons_succ])
  refine wpAnyH_take (i := 6) (oi := { dst := some 101, op := Go.Op.move (Go.Operand.tmp 5), type := 22, pos := _, after := #[{ on := 5, ground := Go.Ground.guard }], guard := some (5, true) }) (v := ?vr2_7_6) rfl (by kernel_rfl) (by kernel_rfl) (by kernel_rfl) (fun _ _ _ h => h) (Or.inl ⟨by rfl, ?yr2_7_6⟩) hHeld ?_
  case yr2_7_6 => ((intro w hSw; (try dsimp only at hSw); go_simp) <;> with_reducible rfl)
  (try simp only [Act.put, List.setIfInBounds_toArray, List.set_cons_zero, List.set_cons_succ])
  refine wpAnyH_take (i := 7) (oi := { dst := some 102, op := Go.Op.fieldAddr 28 (Go.Operand.tmp 9) 1, type := 0, pos := _, after := #[{ on := 5, ground := Go.Ground.guard }], guard := some (5, true) }) (v := ?vr2_8_7) rfl (by kernel_rfl) (by kernel_rfl) (by kernel_rfl) (fun _ _ _ h => h) (Or.inl ⟨by rfl, ?yr2_8_7⟩) hHeld ?_
  case yr2_8_7 => ((intro w hSw; (try dsimp only at hSw); go_simp) <;> with_reducible rfl)
  (try simp only [Act.put, List.setIfInBounds_toArray, List.set_cons_zero, List.set_cons_succ])
  refine wpAnyH_take (i := 8) (oi := { dst := some 103, op := Go.Op.load 22 (Go.Operand.tmp 102), type := 22, pos := _, after := #[{ on := 7, ground := Go.Ground.data }, { on := 5, ground := Go.Ground.guard }], guard := some (5, true) }) (v := ?vr2_9_8) rfl (by kernel_rfl) (by kernel_rfl) (by kernel_rfl) (fun _ _ _ h => h) (Or.inl ⟨by rfl, ?yr2_9_8⟩) hHeld ?_
  case yr2_9_8 => ((intro w hSw; (try dsimp only at hSw); go_simp) <;> with_reducible rfl)
  (try simp only [Act.put, List.setIfInBounds_toArray, List.set_cons_zero, List.set_cons_succ])
  refine wpAnyH_take (i := 9) (oi := { dst := some 104, op := Go.Op.binOp Go.BinOp.eql 22 (Go.Operand.tmp 101) (Go.Operand.tmp 103) 22, type := 4, pos := _, after := #[{ on := 6, ground := Go.Ground.data }, { on := 8, ground := Go.Ground.data }, { on := 5, ground := Go.Ground.guard }], guard := some (5, true) }) (v := ?vr2_10_9) rfl (by kernel_rfl) (by kernel_rfl) (by kernel_rfl) (fun _ _ _ h => h) (Or.inl ⟨by rfl, ?yr2_10_9⟩) hHeld ?_
  case yr2_10_9 => ((intro w hSw; (try dsimp only at hSw); go_simp) <;> with_reducible rfl)
  (try simp only [Act.put, List.setIfInBounds_toArray, List.set_cons_zero, List.set_cons_succ])
  refine wpAnyH_take (i := 10) (oi := { dst := some 105, op := Go.Op.pick (Go.Operand.tmp 100) (Go.Operand.tmp 104) (Go.Operand.const (Go.Value.bool false)), type := 4, pos := _, after := #[{ on := 5, ground := Go.Ground.data }, { on := 9, ground := Go.Ground.data }], guard := none }) (v := ?vr2_11_10) rfl (by kernel_rfl) (by kernel_rfl) (by kernel_rfl) (fun _ _ _ h => h) (Or.inl ⟨by rfl, ?yr2_11_10⟩) hHeld ?_
  case yr2_11_10 => ((intro w hSw; (try dsimp only at hSw); go_simp) <;> with_reducible rfl)
  (try simp only [Act.put, List.setIfInBounds_toArray, List.set_cons_zero, List.set_cons_succ])
  refine wpAnyH_take (i := 11) (oi := { dst := some 106, op := Go.Op.move (Go.Operand.tmp 105), type := 4, pos := _, after := #[{ on := 10, ground := Go.Ground.data }, { on := 5, ground := Go.Ground.chain }], guard := none }) (v := ?vr2_12_11) rfl (by kernel_rfl) (by kernel_rfl) (by kernel_rfl) (fun _ _ _ h => h) (Or.inl ⟨by rfl, ?yr2_12_11⟩) hHeld ?_
  case yr2_12_11 => ((intro w hSw; (try dsimp only at hSw); go_simp) <;> with_reducible rfl)
  (try simp only [Act.put, List.setIfInBounds_toArray, List.set_cons_zero, List.set_cons_succ])
  refine wpAnyH_take (i := 12) (oi := { dst := some 107, op := Go.Op.move (Go.Operand.tmp 8), type := 32, pos := _, after := #[{ on := 11, ground := Go.Ground.guard }], guard := some (11, true) }) (v := ?vr2_13_12) rfl (by kernel_rfl) (by kernel_rfl) (by kernel_rfl) (fun _ _ _ h => h) (Or.inl ⟨by rfl, ?yr2_13_12⟩) hHeld ?_
  case yr2_13_12 => ((intro w hSw; (try dsimp only at hSw); go_simp) <;> with_reducible rfl)
  (try simp only [Act.put, List.setIfInBounds_toArray, List.set_cons_zero, List.set_cons_succ])
  refine wpAnyH_take (i := 13) (oi := { dst := some 108, op := Go.Op.binOp Go.BinOp.eql 32 (Go.Operand.tmp 107) (Go.Operand.const (Go.Value.int Go.IntKind.i64 0)) 32, type := 4, pos := _, after := #[{ on := 12, ground := Go.Ground.data }, { on := 11, ground := Go.Ground.guard }], guard := some (11, true) }) (v := ?vr2_14_13) rfl (by kernel_rfl) (by kernel_rfl) (by kernel_rfl) (fun _ _ _ h => h) (Or.inl ⟨by rfl, ?yr2_14_13⟩) hHeld ?_
  case yr2_14_13 => ((intro w hSw; (try dsimp only at hSw); go_simp) <;> with_reducible rfl)
  (try simp only [Act.put, List.setIfInBounds_toArray, List.set_cons_zero, List.set_cons_succ])
  refine wpAnyH_take (i := 14) (oi := { dst := some 109, op := Go.Op.pick (Go.Operand.tmp 106) (Go.Operand.tmp 108) (Go.Operand.const (Go.Value.bool false)), type := 4, pos := _, after := #[{ on := 11, ground := Go.Ground.data }, { on := 13, ground := Go.Ground.data }], guard := none }) (v := ?vr2_15_14) rfl (by kernel_rfl) (by kernel_rfl) (by kernel_rfl) (fun _ _ _ h => h) (Or.inl ⟨by rfl, ?yr2_15_14⟩) hHeld ?_
  case yr2_15_14 => ((intro w hSw; (try dsimp only at hSw); go_simp) <;> with_reducible rfl)
  (try simp only [Act.put, List.setIfInBounds_toArray, List.set_cons_zero, List.set_cons_succ])
  refine wpAnyH_take (i := 15) (oi := { dst := some 110, op := Go.Op.move (Go.Operand.tmp 109), type := 4, pos := _, after := #[{ on := 14, ground := Go.Ground.data }, { on := 11, ground := Go.Ground.chain }], guard := none }) (v := ?vr2_16_15) rfl (by kernel_rfl) (by kernel_rfl) (by kernel_rfl) (fun _ _ _ h => h) (Or.inl ⟨by rfl, ?yr2_16_15⟩) hHeld ?_
  case yr2_16_15 => ((intro w hSw; (try dsimp only at hSw); go_simp) <;> with_reducible rfl)
  (try simp only [Act.put, List.setIfInBounds_toArray, List.set_cons_zero, List.set_cons_succ])
  refine wpAnyH_take (i := 16) (oi := { dst := some 111, op := Go.Op.load 24 (Go.Operand.tmp 7), type := 24, pos := _, after := #[{ on := 15, ground := Go.Ground.guard }], guard := some (15, true) }) (v := ?vr2_17_16) rfl (by kernel_rfl) (by kernel_rfl) (by kernel_rfl) (fun _ _ _ h => h) (Or.inl ⟨by rfl, ?yr2_17_16⟩) hHeld ?_
  case yr2_17_16 => ((intro w hSw; (try dsimp only at hSw); go_simp) <;> with_reducible rfl)
  (try simp only [Act.put, List.setIfInBounds_toArray, List.set_cons_zero, List.set_cons_succ])
  refine wpAnyH_take (i := 18) (oi := { dst := some 113, op := Go.Op.load 28 (Go.Operand.tmp 9), type := 28, pos := _, after := #[{ on := 15, ground := Go.Ground.guard }], guard := some (15, true) }) (v := ?vr2_18_18) rfl (by kernel_rfl) (by kernel_rfl) (by kernel_rfl) (fun _ _ _ h => h) (Or.inl ⟨by rfl, ?yr2_18_18⟩) hHeld ?_
  case yr2_18_18 => ((intro w hSw; (try dsimp only at hSw); go_simp) <;> with_reducible rfl)
  (try simp only [Act.put, List.setIfInBounds_toArray, List.set_cons_zero, List.set_cons_succ])
  refine wpAnyH_ready (rs := [17]) (by kernel_rfl) (by simp) ?_
  refine AllReadyH.cons (o := { dst := some 112, op := Go.Op.call { callee := Go.Callee.value (Go.Operand.func 9), args := #[Go.Operand.tmp 111], argTypes := #[24] }, type := 28, pos := _, after := #[{ on := 16, ground := Go.Ground.data }, { on := 15, ground := Go.Ground.chain }, { on := 15, ground := Go.Ground.guard }], guard := some (15, true) }) rfl (fun K hK => ?_) AllReadyH.nil
  go_simp
  ((refine (asW_t _ _ _).mono ?_); (rintro e wn ⟨rfl, hb2⟩))
  go_wp2_with fail
  refine hK.out _ _ ?hSr2_19_17 (fun hHeld2 => ?_)
  case hSr2_19_17 => (first | exact ⟨a0, a1, x0, x1, hb.drew⟩ | exact ⟨cell_later hb2 hHeld.1, cell_later hb2 hHeld.2.1, cell_later hb2 hHeld.2.2.1, cell_later hb2 hHeld.2.2.2.1, below_step hHeld.2.2.2.2 hb2⟩)
  clear hK K hHeld
  have hHeld := hHeld2
  clear hHeld2
  (try simp only [Act.put, List.setIfInBounds_toArray, List.set_cons_zero, List.set_cons_succ])
  refine wpAnyH_take (i := 19) (oi := { dst := some 114, op := Go.Op.binOp Go.BinOp.eql 28 (Go.Operand.tmp 112) (Go.Operand.tmp 113) 28, type := 4, pos := _, after := #[{ on := 17, ground := Go.Ground.data }, { on := 18, ground := Go.Ground.data }, { on := 15, ground := Go.Ground.guard }], guard := some (15, true) }) (v := ?vr2_20_19) rfl (by kernel_rfl) (by kernel_rfl) (by kernel_rfl) (fun _ _ _ h => h) (Or.inl ⟨by rfl, ?yr2_20_19⟩) hHeld ?_
  case yr2_20_19 => ((intro w hSw; (try dsimp only at hSw); go_simp) <;> with_reducible rfl)
  (try simp only [Act.put, List.setIfInBounds_toArray, List.set_cons_zero, List.set_cons_succ])
  refine wpAnyH_take (i := 20) (oi := { dst := some 115, op := Go.Op.pick (Go.Operand.tmp 110) (Go.Operand.tmp 114) (Go.Operand.const (Go.Value.bool false)), type := 4, pos := _, after := #[{ on := 15, ground := Go.Ground.data }, { on := 19, ground := Go.Ground.data }], guard := none }) (v := ?vr2_21_20) rfl (by kernel_rfl) (by kernel_rfl) (by kernel_rfl) (fun _ _ _ h => h) (Or.inl ⟨by rfl, ?yr2_21_20⟩) hHeld ?_
  case yr2_21_20 => ((intro w hSw; (try dsimp only at hSw); go_simp) <;> with_reducible rfl)
  (try simp only [Act.put, List.setIfInBounds_toArray, List.set_cons_zero, List.set_cons_succ])
  refine wpAnyH_take (i := 21) (oi := { dst := some 4, op := Go.Op.assign (Go.Operand.tmp 115), type := 4, pos := _, after := #[{ on := 20, ground := Go.Ground.data }, { on := 17, ground := Go.Ground.chain }, { on := 0, ground := Go.Ground.phase }, { on := 1, ground := Go.Ground.phase }, { on := 2, ground := Go.Ground.phase }, { on := 3, ground := Go.Ground.phase }, { on := 4, ground := Go.Ground.phase }, { on := 5, ground := Go.Ground.phase }, { on := 6, ground := Go.Ground.phase }, { on := 7, ground := Go.Ground.phase }, { on := 8, ground := Go.Ground.phase }, { on := 9, ground := Go.Ground.phase }, { on := 10, ground := Go.Ground.phase }, { on := 11, ground := Go.Ground.phase }, { on := 12, ground := Go.Ground.phase }, { on := 13, ground := Go.Ground.phase }, { on := 14, ground := Go.Ground.phase }, { on := 15, ground := Go.Ground.phase }, { on := 16, ground := Go.Ground.phase }, { on := 17, ground := Go.Ground.phase }, { on := 18, ground := Go.Ground.phase }, { on := 19, ground := Go.Ground.phase }, { on := 20, ground := Go.Ground.phase }], guard := none }) (v := ?vr2_22_21) rfl (by kernel_rfl) (by kernel_rfl) (by kernel_rfl) (fun _ _ _ h => h) (Or.inl ⟨by rfl, ?yr2_22_21⟩) hHeld ?_
  case yr2_22_21 => ((intro w hSw; (try dsimp only at hSw); go_simp) <;> with_reducible rfl)
  (try simp only [Act.put, List.setIfInBounds_toArray, List.set_cons_zero, List.set_cons_succ])
  refine wpAnyH_done (by kernel_rfl) ?_ _
  have HB := Lib.hid hHeld.2.2.2.2
  clear hHeld
  go_wp2
  go_ret
  exact ⟨rfl, HB.out⟩
theorem numParses_any (l : List UInt8) (m : Int) (hm : Word m) (w : World) :
    Calls Tryd.prog 4 #[.string ⟨l.toArray⟩, .int .u64 m] w fun e w' => e = .returned (.bool true) ∧ Below w.heap.size w w' := by
  by_cases h200 : 200 < l.length
  · have hsz := bs_size l
    have HW := Lib.hid (Below.refl w.heap.size w)
    clear hm
    go_enter Tryd.func4, Tryd.ntmps4
    go_wp2_with fail
    refine (alive6 _).mono ?_
    rintro r w1 ⟨rfl, hb⟩
    go_wp2
    go_ret
    exact ⟨rfl, below_step HW.out hb⟩
  · have hM : (MM : Int) = 340282366920938463463374607431768211456 := rfl
    obtain ⟨hm0, hm1⟩ := hm
    obtain ⟨K, rfl⟩ : ∃ K : Nat, m = (K : Int) := ⟨m.toNat, by omega⟩
    have hPa := fun w => parse_t l (by omega) (K : Int) hm0 hm1 w
    have hPw := fun w => pwide_t l (by omega) w
    have hIs := fun w => refIs_t l (by omega) w
    cases htx : txB l with
    | false =>
      have e1 := pw_bad htx
      have e2 : pn l K = (0, 3) := by unfold pn; rw [e1]; rfl
      rw [e2] at hPa
      rw [e1] at hPw
      rw [htx] at hIs
      exact nq_form l K h200 w hPa hPw hIs
    | true =>
      rw [htx] at hIs
      have hl := dec_val htx
      have hMl : (decN 340282366920938463463374607431768211455).length ≤ 39 := dec_len_39 _ (by decide +kernel)
      have hL1 := fun w => refLess_t l (decN 340282366920938463463374607431768211455) (by omega) (by omega) w
      have hle := lessT_dec (valT l) 340282366920938463463374607431768211455
      rw [hl] at hle
      rw [hle] at hL1
      by_cases hv : (valT l : Int) < MM
      · rw [decide_eq_true (show valT l ≤ 340282366920938463463374607431768211455 by omega)] at hL1
        have e1 := pw_ok htx hv
        rw [e1] at hPw
        have hRP := fun w => refParse_t l (by omega) (fun c hc => by
          obtain ⟨k, hk, rfl⟩ := List.getElem_of_mem hc
          exact txB_dig htx k hk) w
        have hPm := fun w => refPrint_t K (by omega) w
        rw [show hi (K : Int) = 0 by unfold hi; omega, show lo (K : Int) = (K : Int) by unfold lo; omega] at hPm
        have hKl : (decN K).length ≤ 39 := dec_len_39 _ (lt39 (by omega))
        have hL2 := fun w => refLess_t l (decN K) (by omega) (by omega) w
        have hle2 := lessT_dec (valT l) K
        rw [hl] at hle2
        rw [hle2] at hL2
        by_cases hk : valT l ≤ K
        · rw [decide_eq_true hk] at hL2
          have e2 : pn l K = ((valT l : Int), 0) := by unfold pn; rw [e1]; rw [if_pos rfl, if_pos (by dsimp only; omega)]
          rw [e2] at hPa
          have elo : lo (valT l : Int) = (valT l : Int) := by unfold lo; omega
          dsimp only at hPa hPw
          rw [← elo] at hPa
          exact nq_ok l K _ _ _ _ h200 w hPa hPw hIs refMost_t hL1 hRP hPm hL2
        · rw [decide_eq_false hk] at hL2
          have e2 : pn l K = (0, 11) := by unfold pn; rw [e1]; rw [if_pos rfl, if_neg (by dsimp only; omega)]
          rw [e2] at hPa
          exact nq_above l K _ _ _ _ h200 w hPa hPw hIs refMost_t hL1 hRP hPm hL2
      · rw [decide_eq_false (show ¬ valT l ≤ 340282366920938463463374607431768211455 by omega)] at hL1
        have e1 := pw_over htx hv
        have e2 : pn l K = (0, 11) := by unfold pn; rw [e1]; rfl
        rw [e2] at hPa
        rw [e1] at hPw
        exact nq_over l K _ h200 w hPa hPw hIs refMost_t hL1
end Go.Proofs.YtbhaoafngneclaaDoor
