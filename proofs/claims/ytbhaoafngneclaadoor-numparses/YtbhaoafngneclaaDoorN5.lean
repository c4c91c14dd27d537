/- Ten times a number and a digit: extend of package num. No conditions beyond ranges. -/
import Derived.Test.YtbhaoafngneclaaDoorRA
import Derived.Test.YtbhaoafngneclaaDoorN4
namespace Go.Proofs.YtbhaoafngneclaaDoor
set_option linter.unusedVariables false
set_option linter.unusedSimpArgs false
open Go.RowKit
set_option maxRecDepth 100000 in
set_option maxHeartbeats 3200000 in
theorem ext_walk (ah al d u1 u2 v1 v2 s1 s2 t1 t2 : Int) (o b : Bool) (hd0 : 0 ≤ d) (hd1 : d ≤ 255) (w : World)
    (hR : ∀ w, Calls Tryd.prog 31 #[.agg #[.int .u64 ah, .int .u64 al], .int .i64 125] w fun e w' => e = .returned (.agg #[.int .u64 0, .int .u64 0]) ∧ Below w.heap.size w w')
    (hL3 : ∀ w, Calls Tryd.prog 33 #[.agg #[.int .u64 ah, .int .u64 al], .int .i64 3] w fun e w' => e = .returned (.agg #[.int .u64 u1, .int .u64 u2]) ∧ Below w.heap.size w w')
    (hL1 : ∀ w, Calls Tryd.prog 33 #[.agg #[.int .u64 ah, .int .u64 al], .int .i64 1] w fun e w' => e = .returned (.agg #[.int .u64 v1, .int .u64 v2]) ∧ Below w.heap.size w w')
    (hA1 : ∀ w, Calls Tryd.prog 32 #[.agg #[.int .u64 u1, .int .u64 u2], .agg #[.int .u64 v1, .int .u64 v2]] w fun e w' => e = .returned (.tuple #[.agg #[.int .u64 s1, .int .u64 s2], .bool o]) ∧ Below w.heap.size w w')
    (hA2 : ∀ w, Calls Tryd.prog 32 #[.agg #[.int .u64 s1, .int .u64 s2], .agg #[.int .u64 0, .int .u64 d]] w fun e w' => e = .returned (.tuple #[.agg #[.int .u64 t1, .int .u64 t2], .bool b]) ∧ Below w.heap.size w w') :
    Calls Tryd.prog 24 #[.agg #[.int .u64 ah, .int .u64 al], .int .u8 d] w fun e w' => e = .returned (.tuple #[.agg #[.int .u64 t1, .int .u64 t2], .bool (!o && !b)]) ∧ Below w.heap.size w w' := by
  have hwr : IntKind.u64.wrap d = d := by rw [IntKind.wrap_u64]; omega
  have hbT : Below w.heap.size w ((w.alloc (.cells #[.int .u64 ah, .int .u64 al] 24)).alloc (.cells #[.int .u64 0, .int .u64 0] 24)) := (by repeat (first | exact Below.refl _ _ | assumption | (with_reducible refine Below.setCell ?_ ?h _; case h => first | omega | (simp; done) | (simp; omega)) | (with_reducible refine Below.alloc ?_ ?h _; case h => first | omega | (simp; done) | (simp; omega)) | (with_reducible refine Below.drew ?_) | (with_reducible refine Below.trans ?_ (hb4.mono ?h); case h => first | omega | (simp; done) | (simp; omega)) | (with_reducible refine Below.trans ?_ (hb3.mono ?h); case h => first | omega | (simp; done) | (simp; omega)) | (with_reducible refine Below.trans ?_ (hb2.mono ?h); case h => first | omega | (simp; done) | (simp; omega)) | (with_reducible refine Below.trans ?_ (hb.mono ?h); case h => first | omega | (simp; done) | (simp; omega)) | (with_reducible refine Below.trans ?_ (hb0.mono ?h); case h => first | omega | (simp; done) | (simp; omega))))
  have a0 : ((w.alloc (.cells #[.int .u64 ah, .int .u64 al] 24)).alloc (.cells #[.int .u64 0, .int .u64 0] 24)).cell? ⟨w.heap.size, 0, none⟩ = some (.int .u64 ah) := by simp [go_sem]
  have a1 : ((w.alloc (.cells #[.int .u64 ah, .int .u64 al] 24)).alloc (.cells #[.int .u64 0, .int .u64 0] 24)).cell? ⟨w.heap.size, 1, none⟩ = some (.int .u64 al) := by simp [go_sem]
  have RR : Row ((w.alloc (.cells #[.int .u64 ah, .int .u64 al] 24)).alloc (.cells #[.int .u64 0, .int .u64 0] 24)) (w.heap.size + 1) #[.int .u64 0, .int .u64 0] 24 := by
    have := Row.new (w.alloc (.cells #[.int .u64 ah, .int .u64 al] 24)) #[.int .u64 0, .int .u64 0] 24
    rwa [World.size_alloc] at this
  have HW := Lib.hid (And.intro hbT (And.intro a0 (And.intro a1 RR)))
  clear hbT a0 a1 RR
  go_enter Tryd.func24, Tryd.ntmps24
  go_wp2_with fail
  obtain ⟨hbT, a0, a1, RR⟩ := HW.out
  clear HW
  generalize ((w.alloc (.cells #[.int .u64 ah, .int .u64 al] 24)).alloc (.cells #[.int .u64 0, .int .u64 0] 24)) = w0 at *
  refine (hR w0).mono ?_
  rintro e w1 ⟨rfl, hx⟩
  replace a0 := cell_later hx a0
  replace a1 := cell_later hx a1
  replace RR := RR.later hx
  replace hbT := below_step hbT hx
  clear hx hR
  have HW := Lib.hid (And.intro hbT (And.intro a0 (And.intro a1 RR)))
  clear hbT a0 a1 RR
  go_wp2_with fail
  refine (of_any 0 w1).mono ?_
  rintro e w2 ⟨rfl, hx⟩
  obtain ⟨hbT, a0, a1, RR⟩ := HW.out
  clear HW
  replace a0 := cell_later hx a0
  replace a1 := cell_later hx a1
  replace RR := RR.later hx
  replace hbT := below_step hbT hx
  clear hx
  have HF := Lib.hid (And.intro RR hbT)
  have HW := Lib.hid (And.intro a0 a1)
  clear hbT a0 a1 RR
  go_wp2_with fail
  obtain ⟨a0, a1⟩ := HW.out
  clear HW
  have HX := Lib.hid (And.intro hA2 hwr)
  clear hA2 hwr
  have hbT : Below w2.heap.size w2 w2 := Below.refl _ _
  go_cut [6, 7] (fun s6 s7 wx => ∃ gp : Nat, s6 = .pointer (some ⟨gp, 0, none⟩) ∧ s7 = .bool o ∧ wx.cell? ⟨gp, 0, none⟩ = some (.int .u64 (s1)) ∧ wx.cell? ⟨gp, 1, none⟩ = some (.int .u64 (s2)) ∧ wx.cell? ⟨w.heap.size, 0, none⟩ = some (.int .u64 ah) ∧ wx.cell? ⟨w.heap.size, 1, none⟩ = some (.int .u64 al) ∧ Below w2.heap.size w2 wx)
  case first =>
    refine region_any (S := (fun w' => w'.cell? ⟨w.heap.size, 0, none⟩ = some (.int .u64 ah) ∧ w'.cell? ⟨w.heap.size, 1, none⟩ = some (.int .u64 al) ∧ Below w2.heap.size w2 w')) (by kernel_rfl) ?hSr1_ (fun wq hHeld => ?_)
    case hSr1_ => (first | exact ⟨a0, a1, hbT.drew⟩ | exact ⟨cell_later hb hHeld.1, cell_later hb hHeld.2.1, below_step hHeld.2.2 hb⟩)
    refine wpAnyH_take (i := 0) (oi := { dst := some 16, op := Go.Op.load 24 (Go.Operand.tmp 2), type := 24, pos := _, after := #[], guard := none }) (v := ?vr1_1_0) rfl (by kernel_rfl) (by kernel_rfl) (by kernel_rfl) (fun _ _ _ h => h) (Or.inl ⟨by rfl, ?yr1_1_0⟩) hHeld ?_
    case yr1_1_0 => ((intro w hSw; (try dsimp only at hSw); go_simp) <;> with_reducible rfl)
    (try simp only [Act.put, List.setIfInBounds_toArray, List.set_cons_zero, List.set_cons_succ])
    refine wpAnyH_take (i := 2) (oi := { dst := some 18, op := Go.Op.load 24 (Go.Operand.tmp 2), type := 24, pos := _, after := #[], guard := none }) (v := ?vr1_2_2) rfl (by kernel_rfl) (by kernel_rfl) (by kernel_rfl) (fun _ _ _ h => h) (Or.inl ⟨by rfl, ?yr1_2_2⟩) hHeld ?_
    case yr1_2_2 => ((intro w hSw; (try dsimp only at hSw); go_simp) <;> with_reducible rfl)
    (try simp only [Act.put, List.setIfInBounds_toArray, List.set_cons_zero, List.set_cons_succ])
    refine wpAnyH_ready (rs := [1, 8]) (by kernel_rfl) (by simp) ?_
    refine AllReadyH.cons (o := { dst := some 17, op := Go.Op.call { callee := Go.Callee.value (Go.Operand.func 33), args := #[Go.Operand.tmp 16, Go.Operand.const (Go.Value.int Go.IntKind.i64 3)], argTypes := #[24, 3] }, type := 24, pos := _, after := #[{ on := 0, ground := Go.Ground.data }], guard := none }) rfl (fun K hK => ?_) ?_
    · go_simp
      ((first | (with_reducible refine (hL3 _).mono ?_) | (with_reducible refine (hL1 _).mono ?_)); (rintro e wn ⟨rfl, hb⟩); (try replace Rn := Rn.later hb))
      go_wp2_with fail
      refine hK.out _ _ ?hSr1_3_1 (fun hHeld2 => ?_)
      case hSr1_3_1 => (first | exact ⟨a0, a1, hbT.drew⟩ | exact ⟨cell_later hb hHeld.1, cell_later hb hHeld.2.1, below_step hHeld.2.2 hb⟩)
      clear hK K hHeld
      have hHeld := hHeld2
      clear hHeld2
      rename World => wq
      (try simp only [Act.put, List.setIfInBounds_toArray, List.set_cons_zero, List.set_cons_succ])
      refine wpAnyH_ready (rs := [3, 8]) (by kernel_rfl) (by simp) ?_
      refine AllReadyH.cons (o := { dst := some 19, op := Go.Op.call { callee := Go.Callee.value (Go.Operand.func 33), args := #[Go.Operand.tmp 18, Go.Operand.const (Go.Value.int Go.IntKind.i64 1)], argTypes := #[24, 3] }, type := 24, pos := _, after := #[{ on := 2, ground := Go.Ground.data }, { on := 1, ground := Go.Ground.chain }], guard := none }) rfl (fun K hK => ?_) ?_
      · go_simp
        ((first | (with_reducible refine (hL3 _).mono ?_) | (with_reducible refine (hL1 _).mono ?_)); (rintro e wn ⟨rfl, hb⟩); (try replace Rn := Rn.later hb))
        go_wp2_with fail
        refine hK.out _ _ ?hSr1_4_3 (fun hHeld2 => ?_)
        case hSr1_4_3 => (first | exact ⟨a0, a1, hbT.drew⟩ | exact ⟨cell_later hb hHeld.1, cell_later hb hHeld.2.1, below_step hHeld.2.2 hb⟩)
        clear hK K hHeld
        have hHeld := hHeld2
        clear hHeld2
        rename World => wq
        (try simp only [Act.put, List.setIfInBounds_toArray, List.set_cons_zero, List.set_cons_succ])
        refine wpAnyH_ready (rs := [4, 8]) (by kernel_rfl) (by simp) ?_
        refine AllReadyH.cons (o := { dst := some 20, op := Go.Op.call { callee := Go.Callee.value (Go.Operand.func 32), args := #[Go.Operand.tmp 17, Go.Operand.tmp 19], argTypes := #[24, 24] }, type := 53, pos := _, after := #[{ on := 1, ground := Go.Ground.data }, { on := 3, ground := Go.Ground.data }, { on := 3, ground := Go.Ground.chain }], guard := none }) rfl (fun K hK => ?_) ?_
        · go_simp
          ((refine (hA1 _).mono ?_); (rintro e wn ⟨rfl, hb⟩); (try replace Rn := Rn.later hb))
          go_wp2_with fail
          refine hK.out _ _ ?hSr1_5_4 (fun hHeld2 => ?_)
          case hSr1_5_4 => (first | exact ⟨a0, a1, hbT.drew⟩ | exact ⟨cell_later hb hHeld.1, cell_later hb hHeld.2.1, below_step hHeld.2.2 hb⟩)
          clear hK K hHeld
          have hHeld := hHeld2
          clear hHeld2
          rename World => wq
          (try simp only [Act.put, List.setIfInBounds_toArray, List.set_cons_zero, List.set_cons_succ])
          refine wpAnyH_take (i := 5) (oi := { dst := some 15, op := Go.Op.move (Go.Operand.tmp 20), type := 53, pos := _, after := #[{ on := 4, ground := Go.Ground.data }], guard := none }) (v := ?vr1_6_5) rfl (by kernel_rfl) (by kernel_rfl) (by kernel_rfl) (fun _ _ _ h => h) (Or.inl ⟨by rfl, ?yr1_6_5⟩) hHeld ?_
          case yr1_6_5 => ((intro w hSw; (try dsimp only at hSw); go_simp) <;> with_reducible rfl)
          (try simp only [Act.put, List.setIfInBounds_toArray, List.set_cons_zero, List.set_cons_succ])
          refine wpAnyH_take (i := 6) (oi := { dst := some 21, op := Go.Op.extract (Go.Operand.tmp 15) 0, type := 24, pos := _, after := #[{ on := 5, ground := Go.Ground.data }], guard := none }) (v := ?vr1_7_6) rfl (by kernel_rfl) (by kernel_rfl) (by kernel_rfl) (fun _ _ _ h => h) (Or.inl ⟨by rfl, ?yr1_7_6⟩) hHeld ?_
          case yr1_7_6 => ((intro w hSw; (try dsimp only at hSw); go_simp) <;> with_reducible rfl)
          (try simp only [Act.put, List.setIfInBounds_toArray, List.set_cons_zero, List.set_cons_succ])
          refine wpAnyH_take (i := 7) (oi := { dst := some 22, op := Go.Op.extract (Go.Operand.tmp 15) 1, type := 4, pos := _, after := #[{ on := 5, ground := Go.Ground.data }, { on := 9, ground := Go.Ground.gcOnly Go.Departure.lateStores }], guard := none }) (v := ?vr1_8_7) rfl (by kernel_rfl) (by kernel_rfl) (by kernel_rfl) (fun _ _ _ h => h) (Or.inl ⟨by rfl, ?yr1_8_7⟩) hHeld ?_
          case yr1_8_7 => ((intro w hSw; (try dsimp only at hSw); go_simp) <;> with_reducible rfl)
          (try simp only [Act.put, List.setIfInBounds_toArray, List.set_cons_zero, List.set_cons_succ])
          refine wpAnyH_ready (rs := [8]) (by kernel_rfl) (by simp) ?_
          refine AllReadyH.cons (o := { dst := some 6, op := Go.Op.alloc 24, type := 0, pos := _, after := #[], guard := none }) rfl (fun K hK => ?_) AllReadyH.nil
          (go_simp; (have ne0 := Nat.ne_of_lt (World.block_lt_of_cell? _ _ hHeld.1)); (have ne1 := Nat.ne_of_lt (World.block_lt_of_cell? _ _ hHeld.2.1)); (have mn := hHeld.2.2.size); (have Rn := Row.new wq #[.int .u64 0, .int .u64 0] 24); (have hb : Below wq.heap.size wq (wq.alloc (.cells #[.int .u64 0, .int .u64 0] 24)) := (Below.refl _ _).alloc (Nat.le_refl _) _); (have hSn := And.intro (cell_later hb hHeld.1) (And.intro (cell_later hb hHeld.2.1) (below_step hHeld.2.2 hb))); clear hb; generalize wq.alloc (.cells #[.int .u64 0, .int .u64 0] 24) = wn at *; generalize wq.heap.size = gp at *)
          refine hK.out _ _ ?hSr1_9_8 (fun hHeld2 => ?_)
          case hSr1_9_8 => (exact hSn)
          clear hK K hHeld
          have hHeld := hHeld2
          clear hHeld2
          rename World => wq
          (try simp only [Act.put, List.setIfInBounds_toArray, List.set_cons_zero, List.set_cons_succ])
          refine wpAnyH_ready (rs := [9]) (by kernel_rfl) (by simp) ?_
          refine AllReadyH.cons (o := { dst := none, op := Go.Op.store 24 (Go.Operand.tmp 6) (Go.Operand.tmp 21), type := 0, pos := _, after := #[{ on := 8, ground := Go.Ground.data }, { on := 6, ground := Go.Ground.data }, { on := 4, ground := Go.Ground.chain }, { on := 0, ground := Go.Ground.phase }, { on := 1, ground := Go.Ground.phase }, { on := 2, ground := Go.Ground.phase }, { on := 3, ground := Go.Ground.phase }, { on := 4, ground := Go.Ground.phase }, { on := 5, ground := Go.Ground.phase }, { on := 6, ground := Go.Ground.phase }, { on := 7, ground := Go.Ground.textOnly Go.Departure.lateStores }, { on := 8, ground := Go.Ground.phase }], guard := none }) rfl (fun K hK => ?_) AllReadyH.nil
          ((have c0 := Rn.cell 0); (have c1 := Rn.cell 1); (simp at c0 c1); (have f0 := Rn.frozen 0); (have f1 := Rn.frozen 1); go_simp; clear c0 c1 f0 f1; (have Rm := (Rn.set 0 (.int .u64 (s1))).set 1 (.int .u64 (s2))); (simp at Rm))
          refine hK.out _ _ ?hSr1_10_9 (fun hHeld2 => ?_)
          case hSr1_10_9 => (exact ⟨(World.cell?_setCell_far _ _ _ _ ne0.symm).trans ((World.cell?_setCell_far _ _ _ _ ne0.symm).trans hHeld.1), (World.cell?_setCell_far _ _ _ _ ne1.symm).trans ((World.cell?_setCell_far _ _ _ _ ne1.symm).trans hHeld.2.1), (hHeld.2.2.setCell mn _).setCell mn _⟩)
          clear hK K hHeld
          have hHeld := hHeld2
          clear hHeld2
          rename World => wq
          (try simp only [Act.put, List.setIfInBounds_toArray, List.set_cons_zero, List.set_cons_succ])
          refine wpAnyH_take (i := 10) (oi := { dst := some 7, op := Go.Op.assign (Go.Operand.tmp 22), type := 4, pos := _, after := #[{ on := 7, ground := Go.Ground.data }, { on := 9, ground := Go.Ground.chain }, { on := 0, ground := Go.Ground.phase }, { on := 1, ground := Go.Ground.phase }, { on := 2, ground := Go.Ground.phase }, { on := 3, ground := Go.Ground.phase }, { on := 4, ground := Go.Ground.phase }, { on := 5, ground := Go.Ground.phase }, { on := 6, ground := Go.Ground.phase }, { on := 7, ground := Go.Ground.phase }, { on := 8, ground := Go.Ground.phase }, { on := 9, ground := Go.Ground.phase }], guard := none }) (v := ?vr1_11_10) rfl (by kernel_rfl) (by kernel_rfl) (by kernel_rfl) (fun _ _ _ h => h) (Or.inl ⟨by rfl, ?yr1_11_10⟩) hHeld ?_
          case yr1_11_10 => ((intro w hSw; (try dsimp only at hSw); go_simp) <;> with_reducible rfl)
          (try simp only [Act.put, List.setIfInBounds_toArray, List.set_cons_zero, List.set_cons_succ])
          refine wpAnyH_done (by kernel_rfl) ?_ _
          (go_wp2_with fail; go_meet; exact ⟨gp, rfl, rfl, (by simpa using Rm.cell 0), (by simpa using Rm.cell 1), hHeld⟩)
        refine AllReadyH.cons (o := { dst := some 6, op := Go.Op.alloc 24, type := 0, pos := _, after := #[], guard := none }) rfl (fun K hK => ?_) AllReadyH.nil
        · (go_simp; (have ne0 := Nat.ne_of_lt (World.block_lt_of_cell? _ _ hHeld.1)); (have ne1 := Nat.ne_of_lt (World.block_lt_of_cell? _ _ hHeld.2.1)); (have mn := hHeld.2.2.size); (have Rn := Row.new wq #[.int .u64 0, .int .u64 0] 24); (have hb : Below wq.heap.size wq (wq.alloc (.cells #[.int .u64 0, .int .u64 0] 24)) := (Below.refl _ _).alloc (Nat.le_refl _) _); (have hSn := And.intro (cell_later hb hHeld.1) (And.intro (cell_later hb hHeld.2.1) (below_step hHeld.2.2 hb))); clear hb; generalize wq.alloc (.cells #[.int .u64 0, .int .u64 0] 24) = wn at *; generalize wq.heap.size = gp at *)
          refine hK.out _ _ ?hSr1_12_8 (fun hHeld2 => ?_)
          case hSr1_12_8 => (exact hSn)
          clear hK K hHeld
          have hHeld := hHeld2
          clear hHeld2
          rename World => wq
          (try simp only [Act.put, List.setIfInBounds_toArray, List.set_cons_zero, List.set_cons_succ])
          refine wpAnyH_ready (rs := [4]) (by kernel_rfl) (by simp) ?_
          refine AllReadyH.cons (o := { dst := some 20, op := Go.Op.call { callee := Go.Callee.value (Go.Operand.func 32), args := #[Go.Operand.tmp 17, Go.Operand.tmp 19], argTypes := #[24, 24] }, type := 53, pos := _, after := #[{ on := 1, ground := Go.Ground.data }, { on := 3, ground := Go.Ground.data }, { on := 3, ground := Go.Ground.chain }], guard := none }) rfl (fun K hK => ?_) AllReadyH.nil
          go_simp
          ((refine (hA1 _).mono ?_); (rintro e wn ⟨rfl, hb⟩); (try replace Rn := Rn.later hb))
          go_wp2_with fail
          refine hK.out _ _ ?hSr1_13_4 (fun hHeld2 => ?_)
          case hSr1_13_4 => (first | exact ⟨a0, a1, hbT.drew⟩ | exact ⟨cell_later hb hHeld.1, cell_later hb hHeld.2.1, below_step hHeld.2.2 hb⟩)
          clear hK K hHeld
          have hHeld := hHeld2
          clear hHeld2
          rename World => wq
          (try simp only [Act.put, List.setIfInBounds_toArray, List.set_cons_zero, List.set_cons_succ])
          refine wpAnyH_take (i := 5) (oi := { dst := some 15, op := Go.Op.move (Go.Operand.tmp 20), type := 53, pos := _, after := #[{ on := 4, ground := Go.Ground.data }], guard := none }) (v := ?vr1_14_5) rfl (by kernel_rfl) (by kernel_rfl) (by kernel_rfl) (fun _ _ _ h => h) (Or.inl ⟨by rfl, ?yr1_14_5⟩) hHeld ?_
          case yr1_14_5 => ((intro w hSw; (try dsimp only at hSw); go_simp) <;> with_reducible rfl)
          (try simp only [Act.put, List.setIfInBounds_toArray, List.set_cons_zero, List.set_cons_succ])
          refine wpAnyH_take (i := 6) (oi := { dst := some 21, op := Go.Op.extract (Go.Operand.tmp 15) 0, type := 24, pos := _, after := #[{ on := 5, ground := Go.Ground.data }], guard := none }) (v := ?vr1_15_6) rfl (by kernel_rfl) (by kernel_rfl) (by kernel_rfl) (fun _ _ _ h => h) (Or.inl ⟨by rfl, ?yr1_15_6⟩) hHeld ?_
          case yr1_15_6 => ((intro w hSw; (try dsimp only at hSw); go_simp) <;> with_reducible rfl)
          (try simp only [Act.put, List.setIfInBounds_toArray, List.set_cons_zero, List.set_cons_succ])
          refine wpAnyH_take (i := 7) (oi := { dst := some 22, op := Go.Op.extract (Go.Operand.tmp 15) 1, type := 4, pos := _, after := #[{ on := 5, ground := Go.Ground.data }, { on := 9, ground := Go.Ground.gcOnly Go.Departure.lateStores }], guard := none }) (v := ?vr1_16_7) rfl (by kernel_rfl) (by kernel_rfl) (by kernel_rfl) (fun _ _ _ h => h) (Or.inl ⟨by rfl, ?yr1_16_7⟩) hHeld ?_
          case yr1_16_7 => ((intro w hSw; (try dsimp only at hSw); go_simp) <;> with_reducible rfl)
          (try simp only [Act.put, List.setIfInBounds_toArray, List.set_cons_zero, List.set_cons_succ])
          refine wpAnyH_ready (rs := [9]) (by kernel_rfl) (by simp) ?_
          refine AllReadyH.cons (o := { dst := none, op := Go.Op.store 24 (Go.Operand.tmp 6) (Go.Operand.tmp 21), type := 0, pos := _, after := #[{ on := 8, ground := Go.Ground.data }, { on := 6, ground := Go.Ground.data }, { on := 4, ground := Go.Ground.chain }, { on := 0, ground := Go.Ground.phase }, { on := 1, ground := Go.Ground.phase }, { on := 2, ground := Go.Ground.phase }, { on := 3, ground := Go.Ground.phase }, { on := 4, ground := Go.Ground.phase }, { on := 5, ground := Go.Ground.phase }, { on := 6, ground := Go.Ground.phase }, { on := 7, ground := Go.Ground.textOnly Go.Departure.lateStores }, { on := 8, ground := Go.Ground.phase }], guard := none }) rfl (fun K hK => ?_) AllReadyH.nil
          ((have c0 := Rn.cell 0); (have c1 := Rn.cell 1); (simp at c0 c1); (have f0 := Rn.frozen 0); (have f1 := Rn.frozen 1); go_simp; clear c0 c1 f0 f1; (have Rm := (Rn.set 0 (.int .u64 (s1))).set 1 (.int .u64 (s2))); (simp at Rm))
          refine hK.out _ _ ?hSr1_17_9 (fun hHeld2 => ?_)
          case hSr1_17_9 => (exact ⟨(World.cell?_setCell_far _ _ _ _ ne0.symm).trans ((World.cell?_setCell_far _ _ _ _ ne0.symm).trans hHeld.1), (World.cell?_setCell_far _ _ _ _ ne1.symm).trans ((World.cell?_setCell_far _ _ _ _ ne1.symm).trans hHeld.2.1), (hHeld.2.2.setCell mn _).setCell mn _⟩)
          clear hK K hHeld
          have hHeld := hHeld2
          clear hHeld2
          rename World => wq
          (try simp only [Act.put, List.setIfInBounds_toArray, List.set_cons_zero, List.set_cons_succ])
          refine wpAnyH_take (i := 10) (oi := { dst := some 7, op := Go.Op.assign (Go.Operand.tmp 22), type := 4, pos := _, after := #[{ on := 7, ground := Go.Ground.data }, { on := 9, ground := Go.Ground.chain }, { on := 0, ground := Go.Ground.phase }, { on := 1, ground := Go.Ground.phase }, { on := 2, ground := Go.Ground.phase }, { on := 3, ground := Go.Ground.phase }, { on := 4, ground := Go.Ground.phase }, { on := 5, ground := Go.Ground.phase }, { on := 6, ground := Go.Ground.phase }, { on := 7, ground := Go.Ground.phase }, { on := 8, ground := Go.Ground.phase }, { on := 9, ground := Go.Ground.phase }], guard := none }) (v := ?vr1_18_10) rfl (by kernel_rfl) (by kernel_rfl) (by kernel_rfl) (fun _ _ _ h => h) (Or.inl ⟨by rfl, ?yr1_18_10⟩) hHeld ?_
          case yr1_18_10 => ((intro w hSw; (try dsimp only at hSw); go_simp) <;> with_reducible rfl)
          (try simp only [Act.put, List.setIfInBounds_toArray, List.set_cons_zero, List.set_cons_succ])
          refine wpAnyH_done (by kernel_rfl) ?_ _
          (go_wp2_with fail; go_meet; exact ⟨gp, rfl, rfl, (by simpa using Rm.cell 0), (by simpa using Rm.cell 1), hHeld⟩)
      refine AllReadyH.cons (o := { dst := some 6, op := Go.Op.alloc 24, type := 0, pos := _, after := #[], guard := none }) rfl (fun K hK => ?_) AllReadyH.nil
      · (go_simp; (have ne0 := Nat.ne_of_lt (World.block_lt_of_cell? _ _ hHeld.1)); (have ne1 := Nat.ne_of_lt (World.block_lt_of_cell? _ _ hHeld.2.1)); (have mn := hHeld.2.2.size); (have Rn := Row.new wq #[.int .u64 0, .int .u64 0] 24); (have hb : Below wq.heap.size wq (wq.alloc (.cells #[.int .u64 0, .int .u64 0] 24)) := (Below.refl _ _).alloc (Nat.le_refl _) _); (have hSn := And.intro (cell_later hb hHeld.1) (And.intro (cell_later hb hHeld.2.1) (below_step hHeld.2.2 hb))); clear hb; generalize wq.alloc (.cells #[.int .u64 0, .int .u64 0] 24) = wn at *; generalize wq.heap.size = gp at *)
        refine hK.out _ _ ?hSr1_19_8 (fun hHeld2 => ?_)
        case hSr1_19_8 => (exact hSn)
        clear hK K hHeld
        have hHeld := hHeld2
        clear hHeld2
        rename World => wq
        (try simp only [Act.put, List.setIfInBounds_toArray, List.set_cons_zero, List.set_cons_succ])
        refine wpAnyH_ready (rs := [3]) (by kernel_rfl) (by simp) ?_
        refine AllReadyH.cons (o := { dst := some 19, op := Go.Op.call { callee := Go.Callee.value (Go.Operand.func 33), args := #[Go.Operand.tmp 18, Go.Operand.const (Go.Value.int Go.IntKind.i64 1)], argTypes := #[24, 3] }, type := 24, pos := _, after := #[{ on := 2, ground := Go.Ground.data }, { on := 1, ground := Go.Ground.chain }], guard := none }) rfl (fun K hK => ?_) AllReadyH.nil
        go_simp
        ((first | (with_reducible refine (hL3 _).mono ?_) | (with_reducible refine (hL1 _).mono ?_)); (rintro e wn ⟨rfl, hb⟩); (try replace Rn := Rn.later hb))
        go_wp2_with fail
        refine hK.out _ _ ?hSr1_20_3 (fun hHeld2 => ?_)
        case hSr1_20_3 => (first | exact ⟨a0, a1, hbT.drew⟩ | exact ⟨cell_later hb hHeld.1, cell_later hb hHeld.2.1, below_step hHeld.2.2 hb⟩)
        clear hK K hHeld
        have hHeld := hHeld2
        clear hHeld2
        rename World => wq
        (try simp only [Act.put, List.setIfInBounds_toArray, List.set_cons_zero, List.set_cons_succ])
        refine wpAnyH_ready (rs := [4]) (by kernel_rfl) (by simp) ?_
        refine AllReadyH.cons (o := { dst := some 20, op := Go.Op.call { callee := Go.Callee.value (Go.Operand.func 32), args := #[Go.Operand.tmp 17, Go.Operand.tmp 19], argTypes := #[24, 24] }, type := 53, pos := _, after := #[{ on := 1, ground := Go.Ground.data }, { on := 3, ground := Go.Ground.data }, { on := 3, ground := Go.Ground.chain }], guard := none }) rfl (fun K hK => ?_) AllReadyH.nil
        go_simp
        ((refine (hA1 _).mono ?_); (rintro e wn ⟨rfl, hb⟩); (try replace Rn := Rn.later hb))
        go_wp2_with fail
        refine hK.out _ _ ?hSr1_21_4 (fun hHeld2 => ?_)
        case hSr1_21_4 => (first | exact ⟨a0, a1, hbT.drew⟩ | exact ⟨cell_later hb hHeld.1, cell_later hb hHeld.2.1, below_step hHeld.2.2 hb⟩)
        clear hK K hHeld
        have hHeld := hHeld2
        clear hHeld2
        rename World => wq
        (try simp only [Act.put, List.setIfInBounds_toArray, List.set_cons_zero, List.set_cons_succ])
        refine wpAnyH_take (i := 5) (oi := { dst := some 15, op := Go.Op.move (Go.Operand.tmp 20), type := 53, pos := _, after := #[{ on := 4, ground := Go.Ground.data }], guard := none }) (v := ?vr1_22_5) rfl (by kernel_rfl) (by kernel_rfl) (by kernel_rfl) (fun _ _ _ h => h) (Or.inl ⟨by rfl, ?yr1_22_5⟩) hHeld ?_
        case yr1_22_5 => ((intro w hSw; (try dsimp only at hSw); go_simp) <;> with_reducible rfl)
        (try simp only [Act.put, List.setIfInBounds_toArray, List.set_cons_zero, List.set_cons_succ])
        refine wpAnyH_take (i := 6) (oi := { dst := some 21, op := Go.Op.extract (Go.Operand.tmp 15) 0, type := 24, pos := _, after := #[{ on := 5, ground := Go.Ground.data }], guard := none }) (v := ?vr1_23_6) rfl (by kernel_rfl) (by kernel_rfl) (by kernel_rfl) (fun _ _ _ h => h) (Or.inl ⟨by rfl, ?yr1_23_6⟩) hHeld ?_
        case yr1_23_6 => ((intro w hSw; (try dsimp only at hSw); go_simp) <;> with_reducible rfl)
        (try simp only [Act.put, List.setIfInBounds_toArray, List.set_cons_zero, List.set_cons_succ])
        refine wpAnyH_take (i := 7) (oi := { dst := some 22, op := Go.Op.extract (Go.Operand.tmp 15) 1, type := 4, pos := _, after := #[{ on := 5, ground := Go.Ground.data }, { on := 9, ground := Go.Ground.gcOnly Go.Departure.lateStores }], guard := none }) (v := ?vr1_24_7) rfl (by kernel_rfl) (by kernel_rfl) (by kernel_rfl) (fun _ _ _ h => h) (Or.inl ⟨by rfl, ?yr1_24_7⟩) hHeld ?_
        case yr1_24_7 => ((intro w hSw; (try dsimp only at hSw); go_simp) <;> with_reducible rfl)
        (try simp only [Act.put, List.setIfInBounds_toArray, List.set_cons_zero, List.set_cons_succ])
        refine wpAnyH_ready (rs := [9]) (by kernel_rfl) (by simp) ?_
        refine AllReadyH.cons (o := { dst := none, op := Go.Op.store 24 (Go.Operand.tmp 6) (Go.Operand.tmp 21), type := 0, pos := _, after := #[{ on := 8, ground := Go.Ground.data }, { on := 6, ground := Go.Ground.data }, { on := 4, ground := Go.Ground.chain }, { on := 0, ground := Go.Ground.phase }, { on := 1, ground := Go.Ground.phase }, { on := 2, ground := Go.Ground.phase }, { on := 3, ground := Go.Ground.phase }, { on := 4, ground := Go.Ground.phase }, { on := 5, ground := Go.Ground.phase }, { on := 6, ground := Go.Ground.phase }, { on := 7, ground := Go.Ground.textOnly Go.Departure.lateStores }, { on := 8, ground := Go.Ground.phase }], guard := none }) rfl (fun K hK => ?_) AllReadyH.nil
        ((have c0 := Rn.cell 0); (have c1 := Rn.cell 1); (simp at c0 c1); (have f0 := Rn.frozen 0); (have f1 := Rn.frozen 1); go_simp; clear c0 c1 f0 f1; (have Rm := (Rn.set 0 (.int .u64 (s1))).set 1 (.int .u64 (s2))); (simp at Rm))
        refine hK.out _ _ ?hSr1_25_9 (fun hHeld2 => ?_)
        case hSr1_25_9 => (exact ⟨(World.cell?_setCell_far _ _ _ _ ne0.symm).trans ((World.cell?_setCell_far _ _ _ _ ne0.symm).trans hHeld.1), (World.cell?_setCell_far _ _ _ _ ne1.symm).trans ((World.cell?_setCell_far _ _ _ _ ne1.symm).trans hHeld.2.1), (hHeld.2.2.setCell mn _).setCell mn _⟩)
        clear hK K hHeld
        have hHeld := hHeld2
        clear hHeld2
        rename World => wq
        (try simp only [Act.put, List.setIfInBounds_toArray, List.set_cons_zero, List.set_cons_succ])
        refine wpAnyH_take (i := 10) (oi := { dst := some 7, op := Go.Op.assign (Go.Operand.tmp 22), type := 4, pos := _, after := #[{ on := 7, ground := Go.Ground.data }, { on := 9, ground := Go.Ground.chain }, { on := 0, ground := Go.Ground.phase }, { on := 1, ground := Go.Ground.phase }, { on := 2, ground := Go.Ground.phase }, { on := 3, ground := Go.Ground.phase }, { on := 4, ground := Go.Ground.phase }, { on := 5, ground := Go.Ground.phase }, { on := 6, ground := Go.Ground.phase }, { on := 7, ground := Go.Ground.phase }, { on := 8, ground := Go.Ground.phase }, { on := 9, ground := Go.Ground.phase }], guard := none }) (v := ?vr1_26_10) rfl (by kernel_rfl) (by kernel_rfl) (by kernel_rfl) (fun _ _ _ h => h) (Or.inl ⟨by rfl, ?yr1_26_10⟩) hHeld ?_
        case yr1_26_10 => ((intro w hSw; (try dsimp only at hSw); go_simp) <;> with_reducible rfl)
        (try simp only [Act.put, List.setIfInBounds_toArray, List.set_cons_zero, List.set_cons_succ])
        refine wpAnyH_done (by kernel_rfl) ?_ _
        (go_wp2_with fail; go_meet; exact ⟨gp, rfl, rfl, (by simpa using Rm.cell 0), (by simpa using Rm.cell 1), hHeld⟩)
    refine AllReadyH.cons (o := { dst := some 6, op := Go.Op.alloc 24, type := 0, pos := _, after := #[], guard := none }) rfl (fun K hK => ?_) AllReadyH.nil
    · (go_simp; (have ne0 := Nat.ne_of_lt (World.block_lt_of_cell? _ _ hHeld.1)); (have ne1 := Nat.ne_of_lt (World.block_lt_of_cell? _ _ hHeld.2.1)); (have mn := hHeld.2.2.size); (have Rn := Row.new wq #[.int .u64 0, .int .u64 0] 24); (have hb : Below wq.heap.size wq (wq.alloc (.cells #[.int .u64 0, .int .u64 0] 24)) := (Below.refl _ _).alloc (Nat.le_refl _) _); (have hSn := And.intro (cell_later hb hHeld.1) (And.intro (cell_later hb hHeld.2.1) (below_step hHeld.2.2 hb))); clear hb; generalize wq.alloc (.cells #[.int .u64 0, .int .u64 0] 24) = wn at *; generalize wq.heap.size = gp at *)
      refine hK.out _ _ ?hSr1_27_8 (fun hHeld2 => ?_)
      case hSr1_27_8 => (exact hSn)
      clear hK K hHeld
      have hHeld := hHeld2
      clear hHeld2
      rename World => wq
      (try simp only [Act.put, List.setIfInBounds_toArray, List.set_cons_zero, List.set_cons_succ])
      refine wpAnyH_ready (rs := [1]) (by kernel_rfl) (by simp) ?_
      refine AllReadyH.cons (o := { dst := some 17, op := Go.Op.call { callee := Go.Callee.value (Go.Operand.func 33), args := #[Go.Operand.tmp 16, Go.Operand.const (Go.Value.int Go.IntKind.i64 3)], argTypes := #[24, 3] }, type := 24, pos := _, after := #[{ on := 0, ground := Go.Ground.data }], guard := none }) rfl (fun K hK => ?_) AllReadyH.nil
      go_simp
      ((first | (with_reducible refine (hL3 _).mono ?_) | (with_reducible refine (hL1 _).mono ?_)); (rintro e wn ⟨rfl, hb⟩); (try replace Rn := Rn.later hb))
      go_wp2_with fail
      refine hK.out _ _ ?hSr1_28_1 (fun hHeld2 => ?_)
      case hSr1_28_1 => (first | exact ⟨a0, a1, hbT.drew⟩ | exact ⟨cell_later hb hHeld.1, cell_later hb hHeld.2.1, below_step hHeld.2.2 hb⟩)
      clear hK K hHeld
      have hHeld := hHeld2
      clear hHeld2
      rename World => wq
      (try simp only [Act.put, List.setIfInBounds_toArray, List.set_cons_zero, List.set_cons_succ])
      refine wpAnyH_ready (rs := [3]) (by kernel_rfl) (by simp) ?_
      refine AllReadyH.cons (o := { dst := some 19, op := Go.Op.call { callee := Go.Callee.value (Go.Operand.func 33), args := #[Go.Operand.tmp 18, Go.Operand.const (Go.Value.int Go.IntKind.i64 1)], argTypes := #[24, 3] }, type := 24, pos := _, after := #[{ on := 2, ground := Go.Ground.data }, { on := 1, ground := Go.Ground.chain }], guard := none }) rfl (fun K hK => ?_) AllReadyH.nil
      go_simp
      ((first | (with_reducible refine (hL3 _).mono ?_) | (with_reducible refine (hL1 _).mono ?_)); (rintro e wn ⟨rfl, hb⟩); (try replace Rn := Rn.later hb))
      go_wp2_with fail
      refine hK.out _ _ ?hSr1_29_3 (fun hHeld2 => ?_)
      case hSr1_29_3 => (first | exact ⟨a0, a1, hbT.drew⟩ | exact ⟨cell_later hb hHeld.1, cell_later hb hHeld.2.1, below_step hHeld.2.2 hb⟩)
      clear hK K hHeld
      have hHeld := hHeld2
      clear hHeld2
      rename World => wq
      (try simp only [Act.put, List.setIfInBounds_toArray, List.set_cons_zero, List.set_cons_succ])
      refine wpAnyH_ready (rs := [4]) (by kernel_rfl) (by simp) ?_
      refine AllReadyH.cons (o := { dst := some 20, op := Go.Op.call { callee := Go.Callee.value (Go.Operand.func 32), args := #[Go.Operand.tmp 17, Go.Operand.tmp 19], argTypes := #[24, 24] }, type := 53, pos := _, after := #[{ on := 1, ground := Go.Ground.data }, { on := 3, ground := Go.Ground.data }, { on := 3, ground := Go.Ground.chain }], guard := none }) rfl (fun K hK => ?_) AllReadyH.nil
      go_simp
      ((refine (hA1 _).mono ?_); (rintro e wn ⟨rfl, hb⟩); (try replace Rn := Rn.later hb))
      go_wp2_with fail
      refine hK.out _ _ ?hSr1_30_4 (fun hHeld2 => ?_)
      case hSr1_30_4 => (first | exact ⟨a0, a1, hbT.drew⟩ | exact ⟨cell_later hb hHeld.1, cell_later hb hHeld.2.1, below_step hHeld.2.2 hb⟩)
      clear hK K hHeld
      have hHeld := hHeld2
      clear hHeld2
      rename World => wq
      (try simp only [Act.put, List.setIfInBounds_toArray, List.set_cons_zero, List.set_cons_succ])
      refine wpAnyH_take (i := 5) (oi := { dst := some 15, op := Go.Op.move (Go.Operand.tmp 20), type := 53, pos := _, after := #[{ on := 4, ground := Go.Ground.data }], guard := none }) (v := ?vr1_31_5) rfl (by kernel_rfl) (by kernel_rfl) (by kernel_rfl) (fun _ _ _ h => h) (Or.inl ⟨by rfl, ?yr1_31_5⟩) hHeld ?_
      case yr1_31_5 => ((intro w hSw; (try dsimp only at hSw); go_simp) <;> with_reducible rfl)
      (try simp only [Act.put, List.setIfInBounds_toArray, List.set_cons_zero, List.set_cons_succ])
      refine wpAnyH_take (i := 6) (oi := { dst := some 21, op := Go.Op.extract (Go.Operand.tmp 15) 0, type := 24, pos := _, after := #[{ on := 5, ground := Go.Ground.data }], guard := none }) (v := ?vr1_32_6) rfl (by kernel_rfl) (by kernel_rfl) (by kernel_rfl) (fun _ _ _ h => h) (Or.inl ⟨by rfl, ?yr1_32_6⟩) hHeld ?_
      case yr1_32_6 => ((intro w hSw; (try dsimp only at hSw); go_simp) <;> with_reducible rfl)
      (try simp only [Act.put, List.setIfInBounds_toArray, List.set_cons_zero, List.set_cons_succ])
      refine wpAnyH_take (i := 7) (oi := { dst := some 22, op := Go.Op.extract (Go.Operand.tmp 15) 1, type := 4, pos := _, after := #[{ on := 5, ground := Go.Ground.data }, { on := 9, ground := Go.Ground.gcOnly Go.Departure.lateStores }], guard := none }) (v := ?vr1_33_7) rfl (by kernel_rfl) (by kernel_rfl) (by kernel_rfl) (fun _ _ _ h => h) (Or.inl ⟨by rfl, ?yr1_33_7⟩) hHeld ?_
      case yr1_33_7 => ((intro w hSw; (try dsimp only at hSw); go_simp) <;> with_reducible rfl)
      (try simp only [Act.put, List.setIfInBounds_toArray, List.set_cons_zero, List.set_cons_succ])
      refine wpAnyH_ready (rs := [9]) (by kernel_rfl) (by simp) ?_
      refine AllReadyH.cons (o := { dst := none, op := Go.Op.store 24 (Go.Operand.tmp 6) (Go.Operand.tmp 21), type := 0, pos := _, after := #[{ on := 8, ground := Go.Ground.data }, { on := 6, ground := Go.Ground.data }, { on := 4, ground := Go.Ground.chain }, { on := 0, ground := Go.Ground.phase }, { on := 1, ground := Go.Ground.phase }, { on := 2, ground := Go.Ground.phase }, { on := 3, ground := Go.Ground.phase }, { on := 4, ground := Go.Ground.phase }, { on := 5, ground := Go.Ground.phase }, { on := 6, ground := Go.Ground.phase }, { on := 7, ground := Go.Ground.textOnly Go.Departure.lateStores }, { on := 8, ground := Go.Ground.phase }], guard := none }) rfl (fun K hK => ?_) AllReadyH.nil
      ((have c0 := Rn.cell 0); (have c1 := Rn.cell 1); (simp at c0 c1); (have f0 := Rn.frozen 0); (have f1 := Rn.frozen 1); go_simp; clear c0 c1 f0 f1; (have Rm := (Rn.set 0 (.int .u64 (s1))).set 1 (.int .u64 (s2))); (simp at Rm))
      refine hK.out _ _ ?hSr1_34_9 (fun hHeld2 => ?_)
      case hSr1_34_9 => (exact ⟨(World.cell?_setCell_far _ _ _ _ ne0.symm).trans ((World.cell?_setCell_far _ _ _ _ ne0.symm).trans hHeld.1), (World.cell?_setCell_far _ _ _ _ ne1.symm).trans ((World.cell?_setCell_far _ _ _ _ ne1.symm).trans hHeld.2.1), (hHeld.2.2.setCell mn _).setCell mn _⟩)
      clear hK K hHeld
      have hHeld := hHeld2
      clear hHeld2
      rename World => wq
      (try simp only [Act.put, List.setIfInBounds_toArray, List.set_cons_zero, List.set_cons_succ])
      refine wpAnyH_take (i := 10) (oi := { dst := some 7, op := Go.Op.assign (Go.Operand.tmp 22), type := 4, pos := _, after := #[{ on := 7, ground := Go.Ground.data }, { on := 9, ground := Go.Ground.chain }, { on := 0, ground := Go.Ground.phase }, { on := 1, ground := Go.Ground.phase }, { on := 2, ground := Go.Ground.phase }, { on := 3, ground := Go.Ground.phase }, { on := 4, ground := Go.Ground.phase }, { on := 5, ground := Go.Ground.phase }, { on := 6, ground := Go.Ground.phase }, { on := 7, ground := Go.Ground.phase }, { on := 8, ground := Go.Ground.phase }, { on := 9, ground := Go.Ground.phase }], guard := none }) (v := ?vr1_35_10) rfl (by kernel_rfl) (by kernel_rfl) (by kernel_rfl) (fun _ _ _ h => h) (Or.inl ⟨by rfl, ?yr1_35_10⟩) hHeld ?_
      case yr1_35_10 => ((intro w hSw; (try dsimp only at hSw); go_simp) <;> with_reducible rfl)
      (try simp only [Act.put, List.setIfInBounds_toArray, List.set_cons_zero, List.set_cons_succ])
      refine wpAnyH_done (by kernel_rfl) ?_ _
      (go_wp2_with fail; go_meet; exact ⟨gp, rfl, rfl, (by simpa using Rm.cell 0), (by simpa using Rm.cell 1), hHeld⟩)
  case rest =>
    clear a0 a1 hbT hL3 hL1 hA1
    obtain ⟨gp, rfl, rfl, p0, p1, a0, a1, hbT⟩ := hcut
    obtain ⟨hA2, hwr⟩ := HX.out
    clear HX
    go_wp2_with fail
    go_cut [8, 9] (fun s8 s9 wx => ∃ gs : Nat, s8 = .pointer (some ⟨gs, 0, none⟩) ∧ s9 = .bool b ∧ wx.cell? ⟨gs, 0, none⟩ = some (.int .u64 (t1)) ∧ wx.cell? ⟨gs, 1, none⟩ = some (.int .u64 (t2)) ∧ wx.cell? ⟨w.heap.size, 0, none⟩ = some (.int .u64 ah) ∧ wx.cell? ⟨w.heap.size, 1, none⟩ = some (.int .u64 al) ∧ wx.cell? ⟨gp, 0, none⟩ = some (.int .u64 s1) ∧ wx.cell? ⟨gp, 1, none⟩ = some (.int .u64 s2) ∧ Below w2.heap.size w2 wx)
    case first =>
      refine region_any (S := (fun w' => w'.cell? ⟨w.heap.size, 0, none⟩ = some (.int .u64 ah) ∧ w'.cell? ⟨w.heap.size, 1, none⟩ = some (.int .u64 al) ∧ w'.cell? ⟨gp, 0, none⟩ = some (.int .u64 s1) ∧ w'.cell? ⟨gp, 1, none⟩ = some (.int .u64 s2) ∧ Below w2.heap.size w2 w')) (by kernel_rfl) ?hSr2_ (fun wq hHeld => ?_)
      case hSr2_ => (first | exact ⟨a0, a1, p0, p1, hbT.drew⟩ | exact ⟨cell_later hb hHeld.1, cell_later hb hHeld.2.1, cell_later hb hHeld.2.2.1, cell_later hb hHeld.2.2.2.1, below_step hHeld.2.2.2.2 hb⟩)
      refine wpAnyH_take (i := 0) (oi := { dst := some 24, op := Go.Op.load 24 (Go.Operand.tmp 6), type := 24, pos := _, after := #[], guard := none }) (v := ?vr2_1_0) rfl (by kernel_rfl) (by kernel_rfl) (by kernel_rfl) (fun _ _ _ h => h) (Or.inl ⟨by rfl, ?yr2_1_0⟩) hHeld ?_
      case yr2_1_0 => ((intro w hSw; (try dsimp only at hSw); go_simp) <;> with_reducible rfl)
      (try simp only [Act.put, List.setIfInBounds_toArray, List.set_cons_zero, List.set_cons_succ])
      refine wpAnyH_take (i := 1) (oi := { dst := some 25, op := Go.Op.move (Go.Operand.tmp 1), type := 5, pos := _, after := #[], guard := none }) (v := ?vr2_2_1) rfl (by kernel_rfl) (by kernel_rfl) (by kernel_rfl) (fun _ _ _ h => h) (Or.inl ⟨by rfl, ?yr2_2_1⟩) hHeld ?_
      case yr2_2_1 => ((intro w hSw; (try dsimp only at hSw); go_simp) <;> with_reducible rfl)
      (try simp only [Act.put, List.setIfInBounds_toArray, List.set_cons_zero, List.set_cons_succ])
      refine wpAnyH_take (i := 2) (oi := { dst := some 26, op := Go.Op.convert 5 22 (Go.Operand.tmp 25), type := 22, pos := _, after := #[{ on := 1, ground := Go.Ground.data }], guard := none }) (v := ?vr2_3_2) rfl (by kernel_rfl) (by kernel_rfl) (by kernel_rfl) (fun _ _ _ h => h) (Or.inl ⟨by rfl, ?yr2_3_2⟩) hHeld ?_
      case yr2_3_2 => ((intro w hSw; (try dsimp only at hSw); go_simp) <;> with_reducible rfl)
      (try simp only [Act.put, List.setIfInBounds_toArray, List.set_cons_zero, List.set_cons_succ])
      refine wpAnyH_ready (rs := [3, 8]) (by kernel_rfl) (by simp) ?_
      refine AllReadyH.cons (o := { dst := some 27, op := Go.Op.call { callee := Go.Callee.value (Go.Operand.func 22), args := #[Go.Operand.tmp 26], argTypes := #[22] }, type := 24, pos := _, after := #[{ on := 2, ground := Go.Ground.data }], guard := none }) rfl (fun K hK => ?_) ?_
      · go_simp
        ((refine (of_any _ _).mono ?_); (rintro e wn ⟨rfl, hb⟩); (try replace Rn := Rn.later hb))
        go_wp2_with fail
        refine hK.out _ _ ?hSr2_4_3 (fun hHeld2 => ?_)
        case hSr2_4_3 => (first | exact ⟨a0, a1, p0, p1, hbT.drew⟩ | exact ⟨cell_later hb hHeld.1, cell_later hb hHeld.2.1, cell_later hb hHeld.2.2.1, cell_later hb hHeld.2.2.2.1, below_step hHeld.2.2.2.2 hb⟩)
        clear hK K hHeld
        have hHeld := hHeld2
        clear hHeld2
        rename World => wq
        (try simp only [Act.put, List.setIfInBounds_toArray, List.set_cons_zero, List.set_cons_succ])
        refine wpAnyH_ready (rs := [4, 8]) (by kernel_rfl) (by simp) ?_
        refine AllReadyH.cons (o := { dst := some 28, op := Go.Op.call { callee := Go.Callee.value (Go.Operand.func 32), args := #[Go.Operand.tmp 24, Go.Operand.tmp 27], argTypes := #[24, 24] }, type := 53, pos := _, after := #[{ on := 0, ground := Go.Ground.data }, { on := 3, ground := Go.Ground.data }, { on := 3, ground := Go.Ground.chain }], guard := none }) rfl (fun K hK => ?_) ?_
        · go_simp
          ((refine (hA2 _).mono ?_); (rintro e wn ⟨rfl, hb⟩); (try replace Rn := Rn.later hb))
          go_wp2_with fail
          refine hK.out _ _ ?hSr2_5_4 (fun hHeld2 => ?_)
          case hSr2_5_4 => (first | exact ⟨a0, a1, p0, p1, hbT.drew⟩ | exact ⟨cell_later hb hHeld.1, cell_later hb hHeld.2.1, cell_later hb hHeld.2.2.1, cell_later hb hHeld.2.2.2.1, below_step hHeld.2.2.2.2 hb⟩)
          clear hK K hHeld
          have hHeld := hHeld2
          clear hHeld2
          rename World => wq
          (try simp only [Act.put, List.setIfInBounds_toArray, List.set_cons_zero, List.set_cons_succ])
          refine wpAnyH_take (i := 5) (oi := { dst := some 23, op := Go.Op.move (Go.Operand.tmp 28), type := 53, pos := _, after := #[{ on := 4, ground := Go.Ground.data }], guard := none }) (v := ?vr2_6_5) rfl (by kernel_rfl) (by kernel_rfl) (by kernel_rfl) (fun _ _ _ h => h) (Or.inl ⟨by rfl, ?yr2_6_5⟩) hHeld ?_
          case yr2_6_5 => ((intro w hSw; (try dsimp only at hSw); go_simp) <;> with_reducible rfl)
          (try simp only [Act.put, List.setIfInBounds_toArray, List.set_cons_zero, List.set_cons_succ])
          refine wpAnyH_take (i := 6) (oi := { dst := some 29, op := Go.Op.extract (Go.Operand.tmp 23) 0, type := 24, pos := _, after := #[{ on := 5, ground := Go.Ground.data }], guard := none }) (v := ?vr2_7_6) rfl (by kernel_rfl) (by kernel_rfl) (by kernel_rfl) (fun _ _ _ h => h) (Or.inl ⟨by rfl, ?yr2_7_6⟩) hHeld ?_
          case yr2_7_6 => ((intro w hSw; (try dsimp only at hSw); go_simp) <;> with_reducible rfl)
          (try simp only [Act.put, List.setIfInBounds_toArray, List.set_cons_zero, List.set_cons_succ])
          refine wpAnyH_take (i := 7) (oi := { dst := some 30, op := Go.Op.extract (Go.Operand.tmp 23) 1, type := 4, pos := _, after := #[{ on := 5, ground := Go.Ground.data }, { on := 9, ground := Go.Ground.gcOnly Go.Departure.lateStores }], guard := none }) (v := ?vr2_8_7) rfl (by kernel_rfl) (by kernel_rfl) (by kernel_rfl) (fun _ _ _ h => h) (Or.inl ⟨by rfl, ?yr2_8_7⟩) hHeld ?_
          case yr2_8_7 => ((intro w hSw; (try dsimp only at hSw); go_simp) <;> with_reducible rfl)
          (try simp only [Act.put, List.setIfInBounds_toArray, List.set_cons_zero, List.set_cons_succ])
          refine wpAnyH_ready (rs := [8]) (by kernel_rfl) (by simp) ?_
          refine AllReadyH.cons (o := { dst := some 8, op := Go.Op.alloc 24, type := 0, pos := _, after := #[], guard := none }) rfl (fun K hK => ?_) AllReadyH.nil
          (go_simp; (have ne0 := Nat.ne_of_lt (World.block_lt_of_cell? _ _ hHeld.1)); (have ne1 := Nat.ne_of_lt (World.block_lt_of_cell? _ _ hHeld.2.1)); (have ne2 := Nat.ne_of_lt (World.block_lt_of_cell? _ _ hHeld.2.2.1)); (have ne3 := Nat.ne_of_lt (World.block_lt_of_cell? _ _ hHeld.2.2.2.1)); (have mn := hHeld.2.2.2.2.size); (have Rn := Row.new wq #[.int .u64 0, .int .u64 0] 24); (have hb : Below wq.heap.size wq (wq.alloc (.cells #[.int .u64 0, .int .u64 0] 24)) := (Below.refl _ _).alloc (Nat.le_refl _) _); (have hSn := And.intro (cell_later hb hHeld.1) (And.intro (cell_later hb hHeld.2.1) (And.intro (cell_later hb hHeld.2.2.1) (And.intro (cell_later hb hHeld.2.2.2.1) (below_step hHeld.2.2.2.2 hb))))); clear hb; generalize wq.alloc (.cells #[.int .u64 0, .int .u64 0] 24) = wn at *; generalize wq.heap.size = gs at *)
          refine hK.out _ _ ?hSr2_9_8 (fun hHeld2 => ?_)
          case hSr2_9_8 => (exact hSn)
          clear hK K hHeld
          have hHeld := hHeld2
          clear hHeld2
          rename World => wq
          (try simp only [Act.put, List.setIfInBounds_toArray, List.set_cons_zero, List.set_cons_succ])
          refine wpAnyH_ready (rs := [9]) (by kernel_rfl) (by simp) ?_
          refine AllReadyH.cons (o := { dst := none, op := Go.Op.store 24 (Go.Operand.tmp 8) (Go.Operand.tmp 29), type := 0, pos := _, after := #[{ on := 8, ground := Go.Ground.data }, { on := 6, ground := Go.Ground.data }, { on := 4, ground := Go.Ground.chain }, { on := 0, ground := Go.Ground.phase }, { on := 1, ground := Go.Ground.phase }, { on := 2, ground := Go.Ground.phase }, { on := 3, ground := Go.Ground.phase }, { on := 4, ground := Go.Ground.phase }, { on := 5, ground := Go.Ground.phase }, { on := 6, ground := Go.Ground.phase }, { on := 7, ground := Go.Ground.textOnly Go.Departure.lateStores }, { on := 8, ground := Go.Ground.phase }], guard := none }) rfl (fun K hK => ?_) AllReadyH.nil
          ((have c0 := Rn.cell 0); (have c1 := Rn.cell 1); (simp at c0 c1); (have f0 := Rn.frozen 0); (have f1 := Rn.frozen 1); go_simp; clear c0 c1 f0 f1; (have Rm := (Rn.set 0 (.int .u64 (t1))).set 1 (.int .u64 (t2))); (simp at Rm))
          refine hK.out _ _ ?hSr2_10_9 (fun hHeld2 => ?_)
          case hSr2_10_9 => (exact ⟨(World.cell?_setCell_far _ _ _ _ ne0.symm).trans ((World.cell?_setCell_far _ _ _ _ ne0.symm).trans hHeld.1), (World.cell?_setCell_far _ _ _ _ ne1.symm).trans ((World.cell?_setCell_far _ _ _ _ ne1.symm).trans hHeld.2.1), (World.cell?_setCell_far _ _ _ _ ne2.symm).trans ((World.cell?_setCell_far _ _ _ _ ne2.symm).trans hHeld.2.2.1), (World.cell?_setCell_far _ _ _ _ ne3.symm).trans ((World.cell?_setCell_far _ _ _ _ ne3.symm).trans hHeld.2.2.2.1), (hHeld.2.2.2.2.setCell mn _).setCell mn _⟩)
          clear hK K hHeld
          have hHeld := hHeld2
          clear hHeld2
          rename World => wq
          (try simp only [Act.put, List.setIfInBounds_toArray, List.set_cons_zero, List.set_cons_succ])
          refine wpAnyH_take (i := 10) (oi := { dst := some 9, op := Go.Op.assign (Go.Operand.tmp 30), type := 4, pos := _, after := #[{ on := 7, ground := Go.Ground.data }, { on := 9, ground := Go.Ground.chain }, { on := 0, ground := Go.Ground.phase }, { on := 1, ground := Go.Ground.phase }, { on := 2, ground := Go.Ground.phase }, { on := 3, ground := Go.Ground.phase }, { on := 4, ground := Go.Ground.phase }, { on := 5, ground := Go.Ground.phase }, { on := 6, ground := Go.Ground.phase }, { on := 7, ground := Go.Ground.phase }, { on := 8, ground := Go.Ground.phase }, { on := 9, ground := Go.Ground.phase }], guard := none }) (v := ?vr2_11_10) rfl (by kernel_rfl) (by kernel_rfl) (by kernel_rfl) (fun _ _ _ h => h) (Or.inl ⟨by rfl, ?yr2_11_10⟩) hHeld ?_
          case yr2_11_10 => ((intro w hSw; (try dsimp only at hSw); go_simp) <;> with_reducible rfl)
          (try simp only [Act.put, List.setIfInBounds_toArray, List.set_cons_zero, List.set_cons_succ])
          refine wpAnyH_done (by kernel_rfl) ?_ _
          (go_wp2_with fail; go_meet; exact ⟨gs, rfl, rfl, (by simpa using Rm.cell 0), (by simpa using Rm.cell 1), hHeld⟩)
        refine AllReadyH.cons (o := { dst := some 8, op := Go.Op.alloc 24, type := 0, pos := _, after := #[], guard := none }) rfl (fun K hK => ?_) AllReadyH.nil
        · (go_simp; (have ne0 := Nat.ne_of_lt (World.block_lt_of_cell? _ _ hHeld.1)); (have ne1 := Nat.ne_of_lt (World.block_lt_of_cell? _ _ hHeld.2.1)); (have ne2 := Nat.ne_of_lt (World.block_lt_of_cell? _ _ hHeld.2.2.1)); (have ne3 := Nat.ne_of_lt (World.block_lt_of_cell? _ _ hHeld.2.2.2.1)); (have mn := hHeld.2.2.2.2.size); (have Rn := Row.new wq #[.int .u64 0, .int .u64 0] 24); (have hb : Below wq.heap.size wq (wq.alloc (.cells #[.int .u64 0, .int .u64 0] 24)) := (Below.refl _ _).alloc (Nat.le_refl _) _); (have hSn := And.intro (cell_later hb hHeld.1) (And.intro (cell_later hb hHeld.2.1) (And.intro (cell_later hb hHeld.2.2.1) (And.intro (cell_later hb hHeld.2.2.2.1) (below_step hHeld.2.2.2.2 hb))))); clear hb; generalize wq.alloc (.cells #[.int .u64 0, .int .u64 0] 24) = wn at *; generalize wq.heap.size = gs at *)
          refine hK.out _ _ ?hSr2_12_8 (fun hHeld2 => ?_)
          case hSr2_12_8 => (exact hSn)
          clear hK K hHeld
          have hHeld := hHeld2
          clear hHeld2
          rename World => wq
          (try simp only [Act.put, List.setIfInBounds_toArray, List.set_cons_zero, List.set_cons_succ])
          refine wpAnyH_ready (rs := [4]) (by kernel_rfl) (by simp) ?_
          refine AllReadyH.cons (o := { dst := some 28, op := Go.Op.call { callee := Go.Callee.value (Go.Operand.func 32), args := #[Go.Operand.tmp 24, Go.Operand.tmp 27], argTypes := #[24, 24] }, type := 53, pos := _, after := #[{ on := 0, ground := Go.Ground.data }, { on := 3, ground := Go.Ground.data }, { on := 3, ground := Go.Ground.chain }], guard := none }) rfl (fun K hK => ?_) AllReadyH.nil
          go_simp
          ((refine (hA2 _).mono ?_); (rintro e wn ⟨rfl, hb⟩); (try replace Rn := Rn.later hb))
          go_wp2_with fail
          refine hK.out _ _ ?hSr2_13_4 (fun hHeld2 => ?_)
          case hSr2_13_4 => (first | exact ⟨a0, a1, p0, p1, hbT.drew⟩ | exact ⟨cell_later hb hHeld.1, cell_later hb hHeld.2.1, cell_later hb hHeld.2.2.1, cell_later hb hHeld.2.2.2.1, below_step hHeld.2.2.2.2 hb⟩)
          clear hK K hHeld
          have hHeld := hHeld2
          clear hHeld2
          rename World => wq
          (try simp only [Act.put, List.setIfInBounds_toArray, List.set_cons_zero, List.set_cons_succ])
          refine wpAnyH_take (i := 5) (oi := { dst := some 23, op := Go.Op.move (Go.Operand.tmp 28), type := 53, pos := _, after := #[{ on := 4, ground := Go.Ground.data }], guard := none }) (v := ?vr2_14_5) rfl (by kernel_rfl) (by kernel_rfl) (by kernel_rfl) (fun _ _ _ h => h) (Or.inl ⟨by rfl, ?yr2_14_5⟩) hHeld ?_
          case yr2_14_5 => ((intro w hSw; (try dsimp only at hSw); go_simp) <;> with_reducible rfl)
          (try simp only [Act.put, List.setIfInBounds_toArray, List.set_cons_zero, List.set_cons_succ])
          refine wpAnyH_take (i := 6) (oi := { dst := some 29, op := Go.Op.extract (Go.Operand.tmp 23) 0, type := 24, pos := _, after := #[{ on := 5, ground := Go.Ground.data }], guard := none }) (v := ?vr2_15_6) rfl (by kernel_rfl) (by kernel_rfl) (by kernel_rfl) (fun _ _ _ h => h) (Or.inl ⟨by rfl, ?yr2_15_6⟩) hHeld ?_
          case yr2_15_6 => ((intro w hSw; (try dsimp only at hSw); go_simp) <;> with_reducible rfl)
          (try simp only [Act.put, List.setIfInBounds_toArray, List.set_cons_zero, List.set_cons_succ])
          refine wpAnyH_take (i := 7) (oi := { dst := some 30, op := Go.Op.extract (Go.Operand.tmp 23) 1, type := 4, pos := _, after := #[{ on := 5, ground := Go.Ground.data }, { on := 9, ground := Go.Ground.gcOnly Go.Departure.lateStores }], guard := none }) (v := ?vr2_16_7) rfl (by kernel_rfl) (by kernel_rfl) (by kernel_rfl) (fun _ _ _ h => h) (Or.inl ⟨by rfl, ?yr2_16_7⟩) hHeld ?_
          case yr2_16_7 => ((intro w hSw; (try dsimp only at hSw); go_simp) <;> with_reducible rfl)
          (try simp only [Act.put, List.setIfInBounds_toArray, List.set_cons_zero, List.set_cons_succ])
          refine wpAnyH_ready (rs := [9]) (by kernel_rfl) (by simp) ?_
          refine AllReadyH.cons (o := { dst := none, op := Go.Op.store 24 (Go.Operand.tmp 8) (Go.Operand.tmp 29), type := 0, pos := _, after := #[{ on := 8, ground := Go.Ground.data }, { on := 6, ground := Go.Ground.data }, { on := 4, ground := Go.Ground.chain }, { on := 0, ground := Go.Ground.phase }, { on := 1, ground := Go.Ground.phase }, { on := 2, ground := Go.Ground.phase }, { on := 3, ground := Go.Ground.phase }, { on := 4, ground := Go.Ground.phase }, { on := 5, ground := Go.Ground.phase }, { on := 6, ground := Go.Ground.phase }, { on := 7, ground := Go.Ground.textOnly Go.Departure.lateStores }, { on := 8, ground := Go.Ground.phase }], guard := none }) rfl (fun K hK => ?_) AllReadyH.nil
          ((have c0 := Rn.cell 0); (have c1 := Rn.cell 1); (simp at c0 c1); (have f0 := Rn.frozen 0); (have f1 := Rn.frozen 1); go_simp; clear c0 c1 f0 f1; (have Rm := (Rn.set 0 (.int .u64 (t1))).set 1 (.int .u64 (t2))); (simp at Rm))
          refine hK.out _ _ ?hSr2_17_9 (fun hHeld2 => ?_)
          case hSr2_17_9 => (exact ⟨(World.cell?_setCell_far _ _ _ _ ne0.symm).trans ((World.cell?_setCell_far _ _ _ _ ne0.symm).trans hHeld.1), (World.cell?_setCell_far _ _ _ _ ne1.symm).trans ((World.cell?_setCell_far _ _ _ _ ne1.symm).trans hHeld.2.1), (World.cell?_setCell_far _ _ _ _ ne2.symm).trans ((World.cell?_setCell_far _ _ _ _ ne2.symm).trans hHeld.2.2.1), (World.cell?_setCell_far _ _ _ _ ne3.symm).trans ((World.cell?_setCell_far _ _ _ _ ne3.symm).trans hHeld.2.2.2.1), (hHeld.2.2.2.2.setCell mn _).setCell mn _⟩)
          clear hK K hHeld
          have hHeld := hHeld2
          clear hHeld2
          rename World => wq
          (try simp only [Act.put, List.setIfInBounds_toArray, List.set_cons_zero, List.set_cons_succ])
          refine wpAnyH_take (i := 10) (oi := { dst := some 9, op := Go.Op.assign (Go.Operand.tmp 30), type := 4, pos := _, after := #[{ on := 7, ground := Go.Ground.data }, { on := 9, ground := Go.Ground.chain }, { on := 0, ground := Go.Ground.phase }, { on := 1, ground := Go.Ground.phase }, { on := 2, ground := Go.Ground.phase }, { on := 3, ground := Go.Ground.phase }, { on := 4, ground := Go.Ground.phase }, { on := 5, ground := Go.Ground.phase }, { on := 6, ground := Go.Ground.phase }, { on := 7, ground := Go.Ground.phase }, { on := 8, ground := Go.Ground.phase }, { on := 9, ground := Go.Ground.phase }], guard := none }) (v := ?vr2_18_10) rfl (by kernel_rfl) (by kernel_rfl) (by kernel_rfl) (fun _ _ _ h => h) (Or.inl ⟨by rfl, ?yr2_18_10⟩) hHeld ?_
          case yr2_18_10 => ((intro w hSw; (try dsimp only at hSw); go_simp) <;> with_reducible rfl)
          (try simp only [Act.put, List.setIfInBounds_toArray, List.set_cons_zero, List.set_cons_succ])
          refine wpAnyH_done (by kernel_rfl) ?_ _
          (go_wp2_with fail; go_meet; exact ⟨gs, rfl, rfl, (by simpa using Rm.cell 0), (by simpa using Rm.cell 1), hHeld⟩)
      refine AllReadyH.cons (o := { dst := some 8, op := Go.Op.alloc 24, type := 0, pos := _, after := #[], guard := none }) rfl (fun K hK => ?_) AllReadyH.nil
      · (go_simp; (have ne0 := Nat.ne_of_lt (World.block_lt_of_cell? _ _ hHeld.1)); (have ne1 := Nat.ne_of_lt (World.block_lt_of_cell? _ _ hHeld.2.1)); (have ne2 := Nat.ne_of_lt (World.block_lt_of_cell? _ _ hHeld.2.2.1)); (have ne3 := Nat.ne_of_lt (World.block_lt_of_cell? _ _ hHeld.2.2.2.1)); (have mn := hHeld.2.2.2.2.size); (have Rn := Row.new wq #[.int .u64 0, .int .u64 0] 24); (have hb : Below wq.heap.size wq (wq.alloc (.cells #[.int .u64 0, .int .u64 0] 24)) := (Below.refl _ _).alloc (Nat.le_refl _) _); (have hSn := And.intro (cell_later hb hHeld.1) (And.intro (cell_later hb hHeld.2.1) (And.intro (cell_later hb hHeld.2.2.1) (And.intro (cell_later hb hHeld.2.2.2.1) (below_step hHeld.2.2.2.2 hb))))); clear hb; generalize wq.alloc (.cells #[.int .u64 0, .int .u64 0] 24) = wn at *; generalize wq.heap.size = gs at *)
        refine hK.out _ _ ?hSr2_19_8 (fun hHeld2 => ?_)
        case hSr2_19_8 => (exact hSn)
        clear hK K hHeld
        have hHeld := hHeld2
        clear hHeld2
        rename World => wq
        (try simp only [Act.put, List.setIfInBounds_toArray, List.set_cons_zero, List.set_cons_succ])
        refine wpAnyH_ready (rs := [3]) (by kernel_rfl) (by simp) ?_
        refine AllReadyH.cons (o := { dst := some 27, op := Go.Op.call { callee := Go.Callee.value (Go.Operand.func 22), args := #[Go.Operand.tmp 26], argTypes := #[22] }, type := 24, pos := _, after := #[{ on := 2, ground := Go.Ground.data }], guard := none }) rfl (fun K hK => ?_) AllReadyH.nil
        go_simp
        ((refine (of_any _ _).mono ?_); (rintro e wn ⟨rfl, hb⟩); (try replace Rn := Rn.later hb))
        go_wp2_with fail
        refine hK.out _ _ ?hSr2_20_3 (fun hHeld2 => ?_)
        case hSr2_20_3 => (first | exact ⟨a0, a1, p0, p1, hbT.drew⟩ | exact ⟨cell_later hb hHeld.1, cell_later hb hHeld.2.1, cell_later hb hHeld.2.2.1, cell_later hb hHeld.2.2.2.1, below_step hHeld.2.2.2.2 hb⟩)
        clear hK K hHeld
        have hHeld := hHeld2
        clear hHeld2
        rename World => wq
        (try simp only [Act.put, List.setIfInBounds_toArray, List.set_cons_zero, List.set_cons_succ])
        refine wpAnyH_ready (rs := [4]) (by kernel_rfl) (by simp) ?_
        refine AllReadyH.cons (o := { dst := some 28, op := Go.Op.call { callee := Go.Callee.value (Go.Operand.func 32), args := #[Go.Operand.tmp 24, Go.Operand.tmp 27], argTypes := #[24, 24] }, type := 53, pos := _, after := #[{ on := 0, ground := Go.Ground.data }, { on := 3, ground := Go.Ground.data }, { on := 3, ground := Go.Ground.chain }], guard := none }) rfl (fun K hK => ?_) AllReadyH.nil
        go_simp
        ((refine (hA2 _).mono ?_); (rintro e wn ⟨rfl, hb⟩); (try replace Rn := Rn.later hb))
        go_wp2_with fail
        refine hK.out _ _ ?hSr2_21_4 (fun hHeld2 => ?_)
        case hSr2_21_4 => (first | exact ⟨a0, a1, p0, p1, hbT.drew⟩ | exact ⟨cell_later hb hHeld.1, cell_later hb hHeld.2.1, cell_later hb hHeld.2.2.1, cell_later hb hHeld.2.2.2.1, below_step hHeld.2.2.2.2 hb⟩)
        clear hK K hHeld
        have hHeld := hHeld2
        clear hHeld2
        rename World => wq
        (try simp only [Act.put, List.setIfInBounds_toArray, List.set_cons_zero, List.set_cons_succ])
        refine wpAnyH_take (i := 5) (oi := { dst := some 23, op := Go.Op.move (Go.Operand.tmp 28), type := 53, pos := _, after := #[{ on := 4, ground := Go.Ground.data }], guard := none }) (v := ?vr2_22_5) rfl (by kernel_rfl) (by kernel_rfl) (by kernel_rfl) (fun _ _ _ h => h) (Or.inl ⟨by rfl, ?yr2_22_5⟩) hHeld ?_
        case yr2_22_5 => ((intro w hSw; (try dsimp only at hSw); go_simp) <;> with_reducible rfl)
        (try simp only [Act.put, List.setIfInBounds_toArray, List.set_cons_zero, List.set_cons_succ])
        refine wpAnyH_take (i := 6) (oi := { dst := some 29, op := Go.Op.extract (Go.Operand.tmp 23) 0, type := 24, pos := _, after := #[{ on := 5, ground := Go.Ground.data }], guard := none }) (v := ?vr2_23_6) rfl (by kernel_rfl) (by kernel_rfl) (by kernel_rfl) (fun _ _ _ h => h) (Or.inl ⟨by rfl, ?yr2_23_6⟩) hHeld ?_
        case yr2_23_6 => ((intro w hSw; (try dsimp only at hSw); go_simp) <;> with_reducible rfl)
        (try simp only [Act.put, List.setIfInBounds_toArray, List.set_cons_zero, List.set_cons_succ])
        refine wpAnyH_take (i := 7) (oi := { dst := some 30, op := Go.Op.extract (Go.Operand.tmp 23) 1, type := 4, pos := _, after := #[{ on := 5, ground := Go.Ground.data }, { on := 9, ground := Go.Ground.gcOnly Go.Departure.lateStores }], guard := none }) (v := ?vr2_24_7) rfl (by kernel_rfl) (by kernel_rfl) (by kernel_rfl) (fun _ _ _ h => h) (Or.inl ⟨by rfl, ?yr2_24_7⟩) hHeld ?_
        case yr2_24_7 => ((intro w hSw; (try dsimp only at hSw); go_simp) <;> with_reducible rfl)
        (try simp only [Act.put, List.setIfInBounds_toArray, List.set_cons_zero, List.set_cons_succ])
        refine wpAnyH_ready (rs := [9]) (by kernel_rfl) (by simp) ?_
        refine AllReadyH.cons (o := { dst := none, op := Go.Op.store 24 (Go.Operand.tmp 8) (Go.Operand.tmp 29), type := 0, pos := _, after := #[{ on := 8, ground := Go.Ground.data }, { on := 6, ground := Go.Ground.data }, { on := 4, ground := Go.Ground.chain }, { on := 0, ground := Go.Ground.phase }, { on := 1, ground := Go.Ground.phase }, { on := 2, ground := Go.Ground.phase }, { on := 3, ground := Go.Ground.phase }, { on := 4, ground := Go.Ground.phase }, { on := 5, ground := Go.Ground.phase }, { on := 6, ground := Go.Ground.phase }, { on := 7, ground := Go.Ground.textOnly Go.Departure.lateStores }, { on := 8, ground := Go.Ground.phase }], guard := none }) rfl (fun K hK => ?_) AllReadyH.nil
        ((have c0 := Rn.cell 0); (have c1 := Rn.cell 1); (simp at c0 c1); (have f0 := Rn.frozen 0); (have f1 := Rn.frozen 1); go_simp; clear c0 c1 f0 f1; (have Rm := (Rn.set 0 (.int .u64 (t1))).set 1 (.int .u64 (t2))); (simp at Rm))
        refine hK.out _ _ ?hSr2_25_9 (fun hHeld2 => ?_)
        case hSr2_25_9 => (exact ⟨(World.cell?_setCell_far _ _ _ _ ne0.symm).trans ((World.cell?_setCell_far _ _ _ _ ne0.symm).trans hHeld.1), (World.cell?_setCell_far _ _ _ _ ne1.symm).trans ((World.cell?_setCell_far _ _ _ _ ne1.symm).trans hHeld.2.1), (World.cell?_setCell_far _ _ _ _ ne2.symm).trans ((World.cell?_setCell_far _ _ _ _ ne2.symm).trans hHeld.2.2.1), (World.cell?_setCell_far _ _ _ _ ne3.symm).trans ((World.cell?_setCell_far _ _ _ _ ne3.symm).trans hHeld.2.2.2.1), (hHeld.2.2.2.2.setCell mn _).setCell mn _⟩)
        clear hK K hHeld
        have hHeld := hHeld2
        clear hHeld2
        rename World => wq
        (try simp only [Act.put, List.setIfInBounds_toArray, List.set_cons_zero, List.set_cons_succ])
        refine wpAnyH_take (i := 10) (oi := { dst := some 9, op := Go.Op.assign (Go.Operand.tmp 30), type := 4, pos := _, after := #[{ on := 7, ground := Go.Ground.data }, { on := 9, ground := Go.Ground.chain }, { on := 0, ground := Go.Ground.phase }, { on := 1, ground := Go.Ground.phase }, { on := 2, ground := Go.Ground.phase }, { on := 3, ground := Go.Ground.phase }, { on := 4, ground := Go.Ground.phase }, { on := 5, ground := Go.Ground.phase }, { on := 6, ground := Go.Ground.phase }, { on := 7, ground := Go.Ground.phase }, { on := 8, ground := Go.Ground.phase }, { on := 9, ground := Go.Ground.phase }], guard := none }) (v := ?vr2_26_10) rfl (by kernel_rfl) (by kernel_rfl) (by kernel_rfl) (fun _ _ _ h => h) (Or.inl ⟨by rfl, ?yr2_26_10⟩) hHeld ?_
        case yr2_26_10 => ((intro w hSw; (try dsimp only at hSw); go_simp) <;> with_reducible rfl)
        (try simp only [Act.put, List.setIfInBounds_toArray, List.set_cons_zero, List.set_cons_succ])
        refine wpAnyH_done (by kernel_rfl) ?_ _
        (go_wp2_with fail; go_meet; exact ⟨gs, rfl, rfl, (by simpa using Rm.cell 0), (by simpa using Rm.cell 1), hHeld⟩)
    case rest =>
      clear a0 a1 hbT p0 p1 hA2
      obtain ⟨gs, rfl, rfl, q0, q1, a0, a1, p0, p1, hbT⟩ := hcut
      obtain ⟨RR, hb0⟩ := HF.out
      clear HF a0 a1 p0 p1
      replace RR := RR.later hbT
      replace hbT := below_step hb0 hbT
      clear hb0
      have r0 := (RR.cell 0).trans (show _ = some (Value.int .u64 0) from rfl)
      have r1 := (RR.cell 1).trans (show _ = some (Value.int .u64 0) from rfl)
      have f0 := RR.frozen 0
      have f1 := RR.frozen 1
      have Rf := (RR.set 0 (.int .u64 t1)).set 1 (.int .u64 t2)
      have e0 := (Rf.cell 0).trans (show _ = some (Value.int .u64 t1) from rfl)
      have e1 := (Rf.cell 1).trans (show _ = some (Value.int .u64 t2) from rfl)
      have HE := Lib.hid (And.intro e0 (And.intro e1 hbT))
      clear RR Rf e0 e1 hbT
      cases o with
      | true =>
        go_wp2
        obtain ⟨e0, e1, hbT⟩ := HE.out
        exact bodyPost_ret (v := .tuple #[.agg #[.int .u64 t1, .int .u64 t2], .bool false]) (by simp only [results, Tryd.results24]; simp [go_sem, e0, e1]) rfl ⟨rfl, (hbT.setCell (by dsimp only; omega) _).setCell (by dsimp only; omega) _⟩
      | false =>
        go_wp2
        obtain ⟨e0, e1, hbT⟩ := HE.out
        exact bodyPost_ret (v := .tuple #[.agg #[.int .u64 t1, .int .u64 t2], .bool (!b)]) (by simp only [results, Tryd.results24]; simp [go_sem, e0, e1]) rfl ⟨by simp, (hbT.setCell (by dsimp only; omega) _).setCell (by dsimp only; omega) _⟩
/-- the walk where the number is too large already -/
theorem ext_high (ah al q : Int) (d : Int) (hq : ¬ q = 0) (w : World)
    (hR : ∀ w, Calls Tryd.prog 31 #[.agg #[.int .u64 ah, .int .u64 al], .int .i64 125] w fun e w' => e = .returned (.agg #[.int .u64 0, .int .u64 q]) ∧ Below w.heap.size w w') :
    Calls Tryd.prog 24 #[.agg #[.int .u64 ah, .int .u64 al], .int .u8 d] w fun e w' => e = .returned (.tuple #[.agg #[.int .u64 0, .int .u64 0], .bool false]) ∧ Below w.heap.size w w' := by
  have hq' : decide (q = 0) = false := by simp [hq]
  have hq2 : (q == 0) = false := by simp [hq]
  have hbT : Below w.heap.size w ((w.alloc (.cells #[.int .u64 ah, .int .u64 al] 24)).alloc (.cells #[.int .u64 0, .int .u64 0] 24)) := (by repeat (first | exact Below.refl _ _ | assumption | (with_reducible refine Below.setCell ?_ ?h _; case h => first | omega | (simp; done) | (simp; omega)) | (with_reducible refine Below.alloc ?_ ?h _; case h => first | omega | (simp; done) | (simp; omega)) | (with_reducible refine Below.drew ?_) | (with_reducible refine Below.trans ?_ (hb4.mono ?h); case h => first | omega | (simp; done) | (simp; omega)) | (with_reducible refine Below.trans ?_ (hb3.mono ?h); case h => first | omega | (simp; done) | (simp; omega)) | (with_reducible refine Below.trans ?_ (hb2.mono ?h); case h => first | omega | (simp; done) | (simp; omega)) | (with_reducible refine Below.trans ?_ (hb.mono ?h); case h => first | omega | (simp; done) | (simp; omega)) | (with_reducible refine Below.trans ?_ (hb0.mono ?h); case h => first | omega | (simp; done) | (simp; omega))))
  have RR : Row ((w.alloc (.cells #[.int .u64 ah, .int .u64 al] 24)).alloc (.cells #[.int .u64 0, .int .u64 0] 24)) (w.heap.size + 1) #[.int .u64 0, .int .u64 0] 24 := by
    have := Row.new (w.alloc (.cells #[.int .u64 ah, .int .u64 al] 24)) #[.int .u64 0, .int .u64 0] 24
    rwa [World.size_alloc] at this
  have HW := Lib.hid (And.intro hbT RR)
  clear hbT RR
  go_enter Tryd.func24, Tryd.ntmps24
  go_wp2_with fail
  obtain ⟨hbT, RR⟩ := HW.out
  clear HW
  generalize ((w.alloc (.cells #[.int .u64 ah, .int .u64 al] 24)).alloc (.cells #[.int .u64 0, .int .u64 0] 24)) = w0 at *
  refine (hR w0).mono ?_
  rintro e w1 ⟨rfl, hx⟩
  replace RR := RR.later hx
  replace hbT := below_step hbT hx
  clear hx hR
  have HW := Lib.hid (And.intro hbT RR)
  clear hbT RR
  go_wp2_with fail
  refine (of_any 0 w1).mono ?_
  rintro e w2 ⟨rfl, hx⟩
  obtain ⟨hbT, RR⟩ := HW.out
  clear HW
  replace RR := RR.later hx
  replace hbT := below_step hbT hx
  clear hx
  have r0 := (RR.cell 0).trans (show _ = some (Value.int .u64 0) from rfl)
  have r1 := (RR.cell 1).trans (show _ = some (Value.int .u64 0) from rfl)
  have f0 := RR.frozen 0
  have f1 := RR.frozen 1
  have Rf := (RR.set 0 (.int .u64 0)).set 1 (.int .u64 0)
  have e0 := (Rf.cell 0).trans (show _ = some (Value.int .u64 0) from rfl)
  have e1 := (Rf.cell 1).trans (show _ = some (Value.int .u64 0) from rfl)
  have HE := Lib.hid (And.intro e0 (And.intro e1 hbT))
  clear RR Rf e0 e1 hbT
  go_wp2
  obtain ⟨e0, e1, hbT⟩ := HE.out
  exact bodyPost_ret (v := .tuple #[.agg #[.int .u64 0, .int .u64 0], .bool false]) (by simp only [results, Tryd.results24]; simp [go_sem, e0, e1]) rfl ⟨rfl, (hbT.setCell (by dsimp only; omega) _).setCell (by dsimp only; omega) _⟩
/-- what extend answers -/
def xtV (A d : Int) : Int := if A < 42535295865117307932921825928971026432 then 10 * A + d else 0
theorem extend_t (A d : Int) (h0 : 0 ≤ A) (h1 : A < MM) (hd0 : 0 ≤ d) (hd1 : d ≤ 255) (w : World) :
    Calls Tryd.prog 24 #[.agg #[.int .u64 (hi A), .int .u64 (lo A)], .int .u8 d] w fun e w' => e = .returned (.tuple #[.agg #[.int .u64 (hi (xtV A d)), .int .u64 (lo (xtV A d))], .bool (decide (10 * A + d < MM))]) ∧ Below w.heap.size w w' := by
  have hM : (MM : Int) = 340282366920938463463374607431768211456 := rfl
  have hR := fun w => right_h A 125 w
  rw [Int.emod_eq_of_lt h0 h1, show (2 : Int) ^ (125 : Int).toNat = 42535295865117307932921825928971026432 from rfl] at hR
  unfold xtV
  by_cases hA : A < 42535295865117307932921825928971026432
  · rw [if_pos hA]
    rw [show A / 42535295865117307932921825928971026432 = 0 from Int.ediv_eq_zero_of_lt h0 hA, show hi 0 = 0 from rfl, show lo 0 = 0 from rfl] at hR
    have hL3 := fun w => left_h A 3 w
    have hL1 := fun w => left_h A 1 w
    rw [show A * (2 : Int) ^ (3 : Int).toNat = 8 * A by rw [show (2 : Int) ^ (3 : Int).toNat = 8 from rfl]; omega] at hL3
    rw [show A * (2 : Int) ^ (1 : Int).toNat = 2 * A by rw [show (2 : Int) ^ (1 : Int).toNat = 2 from rfl]; omega] at hL1
    have hA1 := fun w => add_h (8 * A) (2 * A) w
    have hA2 := fun w => add_h (8 * A + 2 * A) d w
    rw [show hi d = 0 by unfold hi; omega, show lo d = d by unfold lo; omega] at hA2
    have h := ext_walk (hi A) (lo A) d _ _ _ _ _ _ _ _ _ _ hd0 hd1 w hR hL3 hL1 hA1 hA2
    rw [show 8 * A + 2 * A + d = 10 * A + d by omega] at h
    have e : (!addB (8 * A % MM) (2 * A % MM) && !addB ((8 * A + 2 * A) % MM) (d % MM)) = decide (10 * A + d < MM) := by
      unfold addB
      rw [Int.emod_eq_of_lt (a := 8 * A) (by omega) (by omega), Int.emod_eq_of_lt (a := 2 * A) (by omega) (by omega), Int.emod_eq_of_lt (a := d) (by omega) (by omega)]
      by_cases hc : 8 * A + 2 * A < MM
      · rw [Int.emod_eq_of_lt (by omega) hc]
        rw [Bool.eq_iff_iff]
        simp
        omega
      · rw [Bool.eq_iff_iff]
        simp
        omega
    rwa [e] at h
  · rw [if_neg hA]
    have q1 : 1 ≤ A / 42535295865117307932921825928971026432 ∧ A / 42535295865117307932921825928971026432 < 8 := by omega
    rw [show hi (A / 42535295865117307932921825928971026432) = 0 by unfold hi; omega, show lo (A / 42535295865117307932921825928971026432) = A / 42535295865117307932921825928971026432 by unfold lo; omega] at hR
    have h := ext_high (hi A) (lo A) _ d (by omega) w hR
    rw [show decide (10 * A + d < MM) = false by simp; omega]
    exact h
end Go.Proofs.YtbhaoafngneclaaDoor
