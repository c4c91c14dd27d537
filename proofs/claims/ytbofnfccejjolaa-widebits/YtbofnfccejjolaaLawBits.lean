/- The call of WideBits answers true, whatever the numbers are. No conditions beyond the count's range. -/
import Derived.Test.YtbofnfccejjolaaRefSame
namespace Go.Proofs.Ytbofnfccejjolaa
set_option linter.unusedVariables false
set_option linter.unusedSimpArgs false
open Go.RowKit
set_option maxRecDepth 100000 in
set_option maxHeartbeats 6400000 in
theorem wideBits_any (A B n : Int) (n0 : -9223372036854775808 ≤ n) (n1 : n ≤ 9223372036854775807) (w : World) :
    Calls Try.prog 5 #[.agg #[.int .u64 (hi A), .int .u64 (lo A)], .agg #[.int .u64 (hi B), .int .u64 (lo B)], .int .i64 n] w fun e w' =>
      e = .returned (.bool true) ∧ Below w.heap.size w w' := by
  go_enter Try.func5, Try.ntmps5
  go_wp2
  have hbT : Below w.heap.size w ((w.alloc (.cells #[.int .u64 (hi A), .int .u64 (lo A)] 24)).alloc (.cells #[.int .u64 (hi B), .int .u64 (lo B)] 24)) := (by repeat (first | exact Below.refl _ _ | assumption | (with_reducible refine Below.setCell ?_ ?h _; case h => first | omega | (simp; done) | (simp; omega)) | (with_reducible refine Below.alloc ?_ ?h _; case h => first | omega | (simp; done) | (simp; omega)) | (with_reducible refine Below.drew ?_) | (with_reducible refine Below.trans ?_ (hb4.mono ?h); case h => first | omega | (simp; done) | (simp; omega)) | (with_reducible refine Below.trans ?_ (hb3.mono ?h); case h => first | omega | (simp; done) | (simp; omega)) | (with_reducible refine Below.trans ?_ (hb2.mono ?h); case h => first | omega | (simp; done) | (simp; omega)) | (with_reducible refine Below.trans ?_ (hb.mono ?h); case h => first | omega | (simp; done) | (simp; omega)) | (with_reducible refine Below.trans ?_ (hb0.mono ?h); case h => first | omega | (simp; done) | (simp; omega))))
  have a0 : ((w.alloc (.cells #[.int .u64 (hi A), .int .u64 (lo A)] 24)).alloc (.cells #[.int .u64 (hi B), .int .u64 (lo B)] 24)).cell? ⟨w.heap.size, 0, none⟩ = some (.int .u64 (hi A)) := by simp [go_sem]
  have a1 : ((w.alloc (.cells #[.int .u64 (hi A), .int .u64 (lo A)] 24)).alloc (.cells #[.int .u64 (hi B), .int .u64 (lo B)] 24)).cell? ⟨w.heap.size, 1, none⟩ = some (.int .u64 (lo A)) := by simp [go_sem]
  have b0 : ((w.alloc (.cells #[.int .u64 (hi A), .int .u64 (lo A)] 24)).alloc (.cells #[.int .u64 (hi B), .int .u64 (lo B)] 24)).cell? ⟨w.heap.size + 1, 0, none⟩ = some (.int .u64 (hi B)) := by simp [go_sem]
  have b1 : ((w.alloc (.cells #[.int .u64 (hi A), .int .u64 (lo A)] 24)).alloc (.cells #[.int .u64 (hi B), .int .u64 (lo B)] 24)).cell? ⟨w.heap.size + 1, 1, none⟩ = some (.int .u64 (lo B)) := by simp [go_sem]
  generalize ((w.alloc (.cells #[.int .u64 (hi A), .int .u64 (lo A)] 24)).alloc (.cells #[.int .u64 (hi B), .int .u64 (lo B)] 24)) = W0 at *
  go_cut [7, 8] (fun s7 s8 wx => ∃ gx gy : Nat, s7 = .pointer (some ⟨gx, 0, none⟩) ∧ s8 = .pointer (some ⟨gy, 0, none⟩) ∧ wx.cell? ⟨w.heap.size, 0, none⟩ = some (.int .u64 (hi A)) ∧ wx.cell? ⟨w.heap.size, 1, none⟩ = some (.int .u64 (lo A)) ∧ wx.cell? ⟨w.heap.size + 1, 0, none⟩ = some (.int .u64 (hi B)) ∧ wx.cell? ⟨w.heap.size + 1, 1, none⟩ = some (.int .u64 (lo B)) ∧ wx.cell? ⟨gx, 0, none⟩ = some (.int .u64 (hi A)) ∧ wx.cell? ⟨gx, 1, none⟩ = some (.int .u64 (lo A)) ∧ wx.cell? ⟨gy, 0, none⟩ = some (.int .u64 (hi B)) ∧ wx.cell? ⟨gy, 1, none⟩ = some (.int .u64 (lo B)) ∧ Below w.heap.size w wx)
  case first =>
    refine region_any (S := (fun w' => w'.cell? ⟨w.heap.size, 0, none⟩ = some (.int .u64 (hi A)) ∧ w'.cell? ⟨w.heap.size, 1, none⟩ = some (.int .u64 (lo A)) ∧ w'.cell? ⟨w.heap.size + 1, 0, none⟩ = some (.int .u64 (hi B)) ∧ w'.cell? ⟨w.heap.size + 1, 1, none⟩ = some (.int .u64 (lo B)) ∧ Below w.heap.size w w')) (by kernel_rfl) ?hSr17_ (fun wq hHeld => ?_)
    case hSr17_ => (first | exact ⟨a0, a1, b0, b1, hbT.drew⟩ | exact ⟨cell_later hb hHeld.1, cell_later hb hHeld.2.1, cell_later hb hHeld.2.2.1, cell_later hb hHeld.2.2.2.1, below_step hHeld.2.2.2.2 hb⟩)
    refine wpAnyH_take (i := 0) (oi := { dst := some 9, op := Go.Op.load 24 (Go.Operand.tmp 3), type := 24, pos := _, after := #[], guard := none }) (v := ?vr17_1_0) rfl (by kernel_rfl) (by kernel_rfl) (by kernel_rfl) (fun _ _ _ h => h) (Or.inl ⟨by rfl, ?yr17_1_0⟩) hHeld ?_
    case yr17_1_0 => ((intro w hSw; (try dsimp only at hSw); go_simp) <;> with_reducible rfl)
    (try simp only [Act.put, List.setIfInBounds_toArray, List.set_cons_zero, List.set_cons_succ])
    refine wpAnyH_take (i := 2) (oi := { dst := some 11, op := Go.Op.load 24 (Go.Operand.tmp 4), type := 24, pos := _, after := #[], guard := none }) (v := ?vr17_2_2) rfl (by kernel_rfl) (by kernel_rfl) (by kernel_rfl) (fun _ _ _ h => h) (Or.inl ⟨by rfl, ?yr17_2_2⟩) hHeld ?_
    case yr17_2_2 => ((intro w hSw; (try dsimp only at hSw); go_simp) <;> with_reducible rfl)
    (try simp only [Act.put, List.setIfInBounds_toArray, List.set_cons_zero, List.set_cons_succ])
    refine wpAnyH_ready (rs := [1, 4, 5]) (by kernel_rfl) (by simp) ?_
    refine AllReadyH.cons (o := { dst := some 10, op := Go.Op.call { callee := Go.Callee.value (Go.Operand.func 14), args := #[Go.Operand.tmp 9], argTypes := #[24] }, type := 27, pos := _, after := #[{ on := 0, ground := Go.Ground.data }], guard := none }) rfl (fun K hK => ?_) ?_
    · go_simp
      ((refine (as_h _ _).mono ?_); (rintro e wn ⟨rfl, hb⟩); (try replace Rx := Rx.later hb); (try replace Ry := Ry.later hb))
      go_wp2_with fail
      refine hK.out _ _ ?hSr17_3_1 (fun hHeld2 => ?_)
      case hSr17_3_1 => (first | exact ⟨a0, a1, b0, b1, hbT.drew⟩ | exact ⟨cell_later hb hHeld.1, cell_later hb hHeld.2.1, cell_later hb hHeld.2.2.1, cell_later hb hHeld.2.2.2.1, below_step hHeld.2.2.2.2 hb⟩)
      clear hK K hHeld
      have hHeld := hHeld2
      clear hHeld2
      rename World => wq
      (try simp only [Act.put, List.setIfInBounds_toArray, List.set_cons_zero, List.set_cons_succ])
      refine wpAnyH_ready (rs := [3, 4, 5]) (by kernel_rfl) (by simp) ?_
      refine AllReadyH.cons (o := { dst := some 12, op := Go.Op.call { callee := Go.Callee.value (Go.Operand.func 14), args := #[Go.Operand.tmp 11], argTypes := #[24] }, type := 27, pos := _, after := #[{ on := 2, ground := Go.Ground.data }, { on := 1, ground := Go.Ground.chain }], guard := none }) rfl (fun K hK => ?_) ?_
      · go_simp
        ((refine (as_h _ _).mono ?_); (rintro e wn ⟨rfl, hb⟩); (try replace Rx := Rx.later hb); (try replace Ry := Ry.later hb))
        go_wp2_with fail
        refine hK.out _ _ ?hSr17_4_3 (fun hHeld2 => ?_)
        case hSr17_4_3 => (first | exact ⟨a0, a1, b0, b1, hbT.drew⟩ | exact ⟨cell_later hb hHeld.1, cell_later hb hHeld.2.1, cell_later hb hHeld.2.2.1, cell_later hb hHeld.2.2.2.1, below_step hHeld.2.2.2.2 hb⟩)
        clear hK K hHeld
        have hHeld := hHeld2
        clear hHeld2
        rename World => wq
        (try simp only [Act.put, List.setIfInBounds_toArray, List.set_cons_zero, List.set_cons_succ])
        refine wpAnyH_ready (rs := [4, 5]) (by kernel_rfl) (by simp) ?_
        refine AllReadyH.cons (o := { dst := some 7, op := Go.Op.alloc 27, type := 0, pos := _, after := #[], guard := none }) rfl (fun K hK => ?_) ?_
        · (go_simp; (have lx : w.heap.size + 1 < wq.heap.size := World.block_lt_of_cell? _ _ hHeld.2.2.1); (have mx : w.heap.size ≤ wq.heap.size := hHeld.2.2.2.2.size); (try have hne := Nat.ne_of_lt Ry.lt); (have Rx := Row.new wq #[.int .u64 0, .int .u64 0] 27); (have hb : Below wq.heap.size wq (wq.alloc (.cells #[.int .u64 0, .int .u64 0] 27)) := (Below.refl _ _).alloc (Nat.le_refl _) _); (have s0 := cell_later hb hHeld.1); (have s1 := cell_later hb hHeld.2.1); (have s2 := cell_later hb hHeld.2.2.1); (have s3 := cell_later hb hHeld.2.2.2.1); (have s4 := below_step hHeld.2.2.2.2 hb); (try replace Ry := Ry.later hb); clear hb; generalize wq.alloc (.cells #[.int .u64 0, .int .u64 0] 27) = wn at *; generalize wq.heap.size = gx at *)
          refine hK.out _ _ ?hSr17_5_4 (fun hHeld2 => ?_)
          case hSr17_5_4 => (exact ⟨s0, s1, s2, s3, s4⟩)
          clear hK K hHeld
          have hHeld := hHeld2
          clear hHeld2
          rename World => wq
          (try simp only [Act.put, List.setIfInBounds_toArray, List.set_cons_zero, List.set_cons_succ])
          refine wpAnyH_ready (rs := [5]) (by kernel_rfl) (by simp) ?_
          refine AllReadyH.cons (o := { dst := some 8, op := Go.Op.alloc 27, type := 0, pos := _, after := #[], guard := none }) rfl (fun K hK => ?_) AllReadyH.nil
          (go_simp; (have ly : w.heap.size + 1 < wq.heap.size := World.block_lt_of_cell? _ _ hHeld.2.2.1); (have my : w.heap.size ≤ wq.heap.size := hHeld.2.2.2.2.size); (try have hne := Nat.ne_of_lt Rx.lt); (have Ry := Row.new wq #[.int .u64 0, .int .u64 0] 27); (have hb : Below wq.heap.size wq (wq.alloc (.cells #[.int .u64 0, .int .u64 0] 27)) := (Below.refl _ _).alloc (Nat.le_refl _) _); (have s0 := cell_later hb hHeld.1); (have s1 := cell_later hb hHeld.2.1); (have s2 := cell_later hb hHeld.2.2.1); (have s3 := cell_later hb hHeld.2.2.2.1); (have s4 := below_step hHeld.2.2.2.2 hb); (try replace Rx := Rx.later hb); clear hb; generalize wq.alloc (.cells #[.int .u64 0, .int .u64 0] 27) = wn at *; generalize wq.heap.size = gy at *)
          refine hK.out _ _ ?hSr17_6_5 (fun hHeld2 => ?_)
          case hSr17_6_5 => (exact ⟨s0, s1, s2, s3, s4⟩)
          clear hK K hHeld
          have hHeld := hHeld2
          clear hHeld2
          rename World => wq
          (try simp only [Act.put, List.setIfInBounds_toArray, List.set_cons_zero, List.set_cons_succ])
          refine wpAnyH_ready (rs := [6]) (by kernel_rfl) (by simp) ?_
          refine AllReadyH.cons (o := { dst := none, op := Go.Op.store 27 (Go.Operand.tmp 7) (Go.Operand.tmp 10), type := 0, pos := _, after := #[{ on := 4, ground := Go.Ground.data }, { on := 1, ground := Go.Ground.data }, { on := 3, ground := Go.Ground.chain }, { on := 0, ground := Go.Ground.phase }, { on := 1, ground := Go.Ground.phase }, { on := 2, ground := Go.Ground.textOnly Go.Departure.lateStores }, { on := 3, ground := Go.Ground.textOnly Go.Departure.lateStoresUnsure }, { on := 4, ground := Go.Ground.phase }, { on := 5, ground := Go.Ground.phase }], guard := none }) rfl (fun K hK => ?_) AllReadyH.nil
          ((have c0 := Rx.cell 0); (have c1 := Rx.cell 1); (simp at c0 c1); (have f0 := Rx.frozen 0); (have f1 := Rx.frozen 1); go_simp; clear c0 c1 f0 f1; (have Rxn := (Rx.set 0 (.int .u64 (hi A))).set 1 (.int .u64 (lo A))); (simp at Rxn); clear Rx; (first | (replace Ry := (Ry.set_far ⟨gx, 0, none⟩ (.int .u64 (hi A)) hne).set_far ⟨gx, 1, none⟩ (.int .u64 (lo A)) hne) | (replace Ry := (Ry.set_far ⟨gx, 0, none⟩ (.int .u64 (hi A)) hne.symm).set_far ⟨gx, 1, none⟩ (.int .u64 (lo A)) hne.symm)); (have Rx := Rxn); clear Rxn; (have s0 := (World.cell?_setCell_far _ ⟨gx, 1, none⟩ _ (.int .u64 (lo A)) (by simp; omega)).trans ((World.cell?_setCell_far _ ⟨gx, 0, none⟩ _ (.int .u64 (hi A)) (by simp; omega)).trans hHeld.1)); (have s1 := (World.cell?_setCell_far _ ⟨gx, 1, none⟩ _ (.int .u64 (lo A)) (by simp; omega)).trans ((World.cell?_setCell_far _ ⟨gx, 0, none⟩ _ (.int .u64 (hi A)) (by simp; omega)).trans hHeld.2.1)); (have s2 := (World.cell?_setCell_far _ ⟨gx, 1, none⟩ _ (.int .u64 (lo A)) (by simp; omega)).trans ((World.cell?_setCell_far _ ⟨gx, 0, none⟩ _ (.int .u64 (hi A)) (by simp; omega)).trans hHeld.2.2.1)); (have s3 := (World.cell?_setCell_far _ ⟨gx, 1, none⟩ _ (.int .u64 (lo A)) (by simp; omega)).trans ((World.cell?_setCell_far _ ⟨gx, 0, none⟩ _ (.int .u64 (hi A)) (by simp; omega)).trans hHeld.2.2.2.1)); (have s4 := (hHeld.2.2.2.2.setCell (p := ⟨gx, 0, none⟩) mx (.int .u64 (hi A))).setCell (p := ⟨gx, 1, none⟩) mx (.int .u64 (lo A))); generalize (wq.setCell ⟨gx, 0, none⟩ (.int .u64 (hi A))).setCell ⟨gx, 1, none⟩ (.int .u64 (lo A)) = wn at *)
          refine hK.out _ _ ?hSr17_7_6 (fun hHeld2 => ?_)
          case hSr17_7_6 => (exact ⟨s0, s1, s2, s3, s4⟩)
          clear hK K hHeld
          have hHeld := hHeld2
          clear hHeld2
          rename World => wq
          (try simp only [Act.put, List.setIfInBounds_toArray, List.set_cons_zero, List.set_cons_succ])
          refine wpAnyH_ready (rs := [7]) (by kernel_rfl) (by simp) ?_
          refine AllReadyH.cons (o := { dst := none, op := Go.Op.store 27 (Go.Operand.tmp 8) (Go.Operand.tmp 12), type := 0, pos := _, after := #[{ on := 5, ground := Go.Ground.data }, { on := 3, ground := Go.Ground.data }, { on := 6, ground := Go.Ground.chain }, { on := 0, ground := Go.Ground.phase }, { on := 1, ground := Go.Ground.phase }, { on := 2, ground := Go.Ground.phase }, { on := 3, ground := Go.Ground.phase }, { on := 4, ground := Go.Ground.phase }, { on := 5, ground := Go.Ground.phase }, { on := 6, ground := Go.Ground.phase }], guard := none }) rfl (fun K hK => ?_) AllReadyH.nil
          ((have c0 := Ry.cell 0); (have c1 := Ry.cell 1); (simp at c0 c1); (have f0 := Ry.frozen 0); (have f1 := Ry.frozen 1); go_simp; clear c0 c1 f0 f1; (have Ryn := (Ry.set 0 (.int .u64 (hi B))).set 1 (.int .u64 (lo B))); (simp at Ryn); clear Ry; (first | (replace Rx := (Rx.set_far ⟨gy, 0, none⟩ (.int .u64 (hi B)) hne).set_far ⟨gy, 1, none⟩ (.int .u64 (lo B)) hne) | (replace Rx := (Rx.set_far ⟨gy, 0, none⟩ (.int .u64 (hi B)) hne.symm).set_far ⟨gy, 1, none⟩ (.int .u64 (lo B)) hne.symm)); (have Ry := Ryn); clear Ryn; (have s0 := (World.cell?_setCell_far _ ⟨gy, 1, none⟩ _ (.int .u64 (lo B)) (by simp; omega)).trans ((World.cell?_setCell_far _ ⟨gy, 0, none⟩ _ (.int .u64 (hi B)) (by simp; omega)).trans hHeld.1)); (have s1 := (World.cell?_setCell_far _ ⟨gy, 1, none⟩ _ (.int .u64 (lo B)) (by simp; omega)).trans ((World.cell?_setCell_far _ ⟨gy, 0, none⟩ _ (.int .u64 (hi B)) (by simp; omega)).trans hHeld.2.1)); (have s2 := (World.cell?_setCell_far _ ⟨gy, 1, none⟩ _ (.int .u64 (lo B)) (by simp; omega)).trans ((World.cell?_setCell_far _ ⟨gy, 0, none⟩ _ (.int .u64 (hi B)) (by simp; omega)).trans hHeld.2.2.1)); (have s3 := (World.cell?_setCell_far _ ⟨gy, 1, none⟩ _ (.int .u64 (lo B)) (by simp; omega)).trans ((World.cell?_setCell_far _ ⟨gy, 0, none⟩ _ (.int .u64 (hi B)) (by simp; omega)).trans hHeld.2.2.2.1)); (have s4 := (hHeld.2.2.2.2.setCell (p := ⟨gy, 0, none⟩) my (.int .u64 (hi B))).setCell (p := ⟨gy, 1, none⟩) my (.int .u64 (lo B))); generalize (wq.setCell ⟨gy, 0, none⟩ (.int .u64 (hi B))).setCell ⟨gy, 1, none⟩ (.int .u64 (lo B)) = wn at *)
          refine hK.out _ _ ?hSr17_8_7 (fun hHeld2 => ?_)
          case hSr17_8_7 => (exact ⟨s0, s1, s2, s3, s4⟩)
          clear hK K hHeld
          have hHeld := hHeld2
          clear hHeld2
          rename World => wq
          (try simp only [Act.put, List.setIfInBounds_toArray, List.set_cons_zero, List.set_cons_succ])
          refine wpAnyH_done (by kernel_rfl) ?_ _
          (go_wp2_with fail; go_meet; exact ⟨gx, gy, rfl, rfl, hHeld.1, hHeld.2.1, hHeld.2.2.1, hHeld.2.2.2.1, (by simpa using Rx.cell 0), (by simpa using Rx.cell 1), (by simpa using Ry.cell 0), (by simpa using Ry.cell 1), hHeld.2.2.2.2⟩)
        refine AllReadyH.cons (o := { dst := some 8, op := Go.Op.alloc 27, type := 0, pos := _, after := #[], guard := none }) rfl (fun K hK => ?_) AllReadyH.nil
        · (go_simp; (have ly : w.heap.size + 1 < wq.heap.size := World.block_lt_of_cell? _ _ hHeld.2.2.1); (have my : w.heap.size ≤ wq.heap.size := hHeld.2.2.2.2.size); (try have hne := Nat.ne_of_lt Rx.lt); (have Ry := Row.new wq #[.int .u64 0, .int .u64 0] 27); (have hb : Below wq.heap.size wq (wq.alloc (.cells #[.int .u64 0, .int .u64 0] 27)) := (Below.refl _ _).alloc (Nat.le_refl _) _); (have s0 := cell_later hb hHeld.1); (have s1 := cell_later hb hHeld.2.1); (have s2 := cell_later hb hHeld.2.2.1); (have s3 := cell_later hb hHeld.2.2.2.1); (have s4 := below_step hHeld.2.2.2.2 hb); (try replace Rx := Rx.later hb); clear hb; generalize wq.alloc (.cells #[.int .u64 0, .int .u64 0] 27) = wn at *; generalize wq.heap.size = gy at *)
          refine hK.out _ _ ?hSr17_9_5 (fun hHeld2 => ?_)
          case hSr17_9_5 => (exact ⟨s0, s1, s2, s3, s4⟩)
          clear hK K hHeld
          have hHeld := hHeld2
          clear hHeld2
          rename World => wq
          (try simp only [Act.put, List.setIfInBounds_toArray, List.set_cons_zero, List.set_cons_succ])
          refine wpAnyH_ready (rs := [4]) (by kernel_rfl) (by simp) ?_
          refine AllReadyH.cons (o := { dst := some 7, op := Go.Op.alloc 27, type := 0, pos := _, after := #[], guard := none }) rfl (fun K hK => ?_) AllReadyH.nil
          (go_simp; (have lx : w.heap.size + 1 < wq.heap.size := World.block_lt_of_cell? _ _ hHeld.2.2.1); (have mx : w.heap.size ≤ wq.heap.size := hHeld.2.2.2.2.size); (try have hne := Nat.ne_of_lt Ry.lt); (have Rx := Row.new wq #[.int .u64 0, .int .u64 0] 27); (have hb : Below wq.heap.size wq (wq.alloc (.cells #[.int .u64 0, .int .u64 0] 27)) := (Below.refl _ _).alloc (Nat.le_refl _) _); (have s0 := cell_later hb hHeld.1); (have s1 := cell_later hb hHeld.2.1); (have s2 := cell_later hb hHeld.2.2.1); (have s3 := cell_later hb hHeld.2.2.2.1); (have s4 := below_step hHeld.2.2.2.2 hb); (try replace Ry := Ry.later hb); clear hb; generalize wq.alloc (.cells #[.int .u64 0, .int .u64 0] 27) = wn at *; generalize wq.heap.size = gx at *)
          refine hK.out _ _ ?hSr17_10_4 (fun hHeld2 => ?_)
          case hSr17_10_4 => (exact ⟨s0, s1, s2, s3, s4⟩)
          clear hK K hHeld
          have hHeld := hHeld2
          clear hHeld2
          rename World => wq
          (try simp only [Act.put, List.setIfInBounds_toArray, List.set_cons_zero, List.set_cons_succ])
          refine wpAnyH_ready (rs := [6]) (by kernel_rfl) (by simp) ?_
          refine AllReadyH.cons (o := { dst := none, op := Go.Op.store 27 (Go.Operand.tmp 7) (Go.Operand.tmp 10), type := 0, pos := _, after := #[{ on := 4, ground := Go.Ground.data }, { on := 1, ground := Go.Ground.data }, { on := 3, ground := Go.Ground.chain }, { on := 0, ground := Go.Ground.phase }, { on := 1, ground := Go.Ground.phase }, { on := 2, ground := Go.Ground.textOnly Go.Departure.lateStores }, { on := 3, ground := Go.Ground.textOnly Go.Departure.lateStoresUnsure }, { on := 4, ground := Go.Ground.phase }, { on := 5, ground := Go.Ground.phase }], guard := none }) rfl (fun K hK => ?_) AllReadyH.nil
          ((have c0 := Rx.cell 0); (have c1 := Rx.cell 1); (simp at c0 c1); (have f0 := Rx.frozen 0); (have f1 := Rx.frozen 1); go_simp; clear c0 c1 f0 f1; (have Rxn := (Rx.set 0 (.int .u64 (hi A))).set 1 (.int .u64 (lo A))); (simp at Rxn); clear Rx; (first | (replace Ry := (Ry.set_far ⟨gx, 0, none⟩ (.int .u64 (hi A)) hne).set_far ⟨gx, 1, none⟩ (.int .u64 (lo A)) hne) | (replace Ry := (Ry.set_far ⟨gx, 0, none⟩ (.int .u64 (hi A)) hne.symm).set_far ⟨gx, 1, none⟩ (.int .u64 (lo A)) hne.symm)); (have Rx := Rxn); clear Rxn; (have s0 := (World.cell?_setCell_far _ ⟨gx, 1, none⟩ _ (.int .u64 (lo A)) (by simp; omega)).trans ((World.cell?_setCell_far _ ⟨gx, 0, none⟩ _ (.int .u64 (hi A)) (by simp; omega)).trans hHeld.1)); (have s1 := (World.cell?_setCell_far _ ⟨gx, 1, none⟩ _ (.int .u64 (lo A)) (by simp; omega)).trans ((World.cell?_setCell_far _ ⟨gx, 0, none⟩ _ (.int .u64 (hi A)) (by simp; omega)).trans hHeld.2.1)); (have s2 := (World.cell?_setCell_far _ ⟨gx, 1, none⟩ _ (.int .u64 (lo A)) (by simp; omega)).trans ((World.cell?_setCell_far _ ⟨gx, 0, none⟩ _ (.int .u64 (hi A)) (by simp; omega)).trans hHeld.2.2.1)); (have s3 := (World.cell?_setCell_far _ ⟨gx, 1, none⟩ _ (.int .u64 (lo A)) (by simp; omega)).trans ((World.cell?_setCell_far _ ⟨gx, 0, none⟩ _ (.int .u64 (hi A)) (by simp; omega)).trans hHeld.2.2.2.1)); (have s4 := (hHeld.2.2.2.2.setCell (p := ⟨gx, 0, none⟩) mx (.int .u64 (hi A))).setCell (p := ⟨gx, 1, none⟩) mx (.int .u64 (lo A))); generalize (wq.setCell ⟨gx, 0, none⟩ (.int .u64 (hi A))).setCell ⟨gx, 1, none⟩ (.int .u64 (lo A)) = wn at *)
          refine hK.out _ _ ?hSr17_11_6 (fun hHeld2 => ?_)
          case hSr17_11_6 => (exact ⟨s0, s1, s2, s3, s4⟩)
          clear hK K hHeld
          have hHeld := hHeld2
          clear hHeld2
          rename World => wq
          (try simp only [Act.put, List.setIfInBounds_toArray, List.set_cons_zero, List.set_cons_succ])
          refine wpAnyH_ready (rs := [7]) (by kernel_rfl) (by simp) ?_
          refine AllReadyH.cons (o := { dst := none, op := Go.Op.store 27 (Go.Operand.tmp 8) (Go.Operand.tmp 12), type := 0, pos := _, after := #[{ on := 5, ground := Go.Ground.data }, { on := 3, ground := Go.Ground.data }, { on := 6, ground := Go.Ground.chain }, { on := 0, ground := Go.Ground.phase }, { on := 1, ground := Go.Ground.phase }, { on := 2, ground := Go.Ground.phase }, { on := 3, ground := Go.Ground.phase }, { on := 4, ground := Go.Ground.phase }, { on := 5, ground := Go.Ground.phase }, { on := 6, ground := Go.Ground.phase }], guard := none }) rfl (fun K hK => ?_) AllReadyH.nil
          ((have c0 := Ry.cell 0); (have c1 := Ry.cell 1); (simp at c0 c1); (have f0 := Ry.frozen 0); (have f1 := Ry.frozen 1); go_simp; clear c0 c1 f0 f1; (have Ryn := (Ry.set 0 (.int .u64 (hi B))).set 1 (.int .u64 (lo B))); (simp at Ryn); clear Ry; (first | (replace Rx := (Rx.set_far ⟨gy, 0, none⟩ (.int .u64 (hi B)) hne).set_far ⟨gy, 1, none⟩ (.int .u64 (lo B)) hne) | (replace Rx := (Rx.set_far ⟨gy, 0, none⟩ (.int .u64 (hi B)) hne.symm).set_far ⟨gy, 1, none⟩ (.int .u64 (lo B)) hne.symm)); (have Ry := Ryn); clear Ryn; (have s0 := (World.cell?_setCell_far _ ⟨gy, 1, none⟩ _ (.int .u64 (lo B)) (by simp; omega)).trans ((World.cell?_setCell_far _ ⟨gy, 0, none⟩ _ (.int .u64 (hi B)) (by simp; omega)).trans hHeld.1)); (have s1 := (World.cell?_setCell_far _ ⟨gy, 1, none⟩ _ (.int .u64 (lo B)) (by simp; omega)).trans ((World.cell?_setCell_far _ ⟨gy, 0, none⟩ _ (.int .u64 (hi B)) (by simp; omega)).trans hHeld.2.1)); (have s2 := (World.cell?_setCell_far _ ⟨gy, 1, none⟩ _ (.int .u64 (lo B)) (by simp; omega)).trans ((World.cell?_setCell_far _ ⟨gy, 0, none⟩ _ (.int .u64 (hi B)) (by simp; omega)).trans hHeld.2.2.1)); (have s3 := (World.cell?_setCell_far _ ⟨gy, 1, none⟩ _ (.int .u64 (lo B)) (by simp; omega)).trans ((World.cell?_setCell_far _ ⟨gy, 0, none⟩ _ (.int .u64 (hi B)) (by simp; omega)).trans hHeld.2.2.2.1)); (have s4 := (hHeld.2.2.2.2.setCell (p := ⟨gy, 0, none⟩) my (.int .u64 (hi B))).setCell (p := ⟨gy, 1, none⟩) my (.int .u64 (lo B))); generalize (wq.setCell ⟨gy, 0, none⟩ (.int .u64 (hi B))).setCell ⟨gy, 1, none⟩ (.int .u64 (lo B)) = wn at *)
          refine hK.out _ _ ?hSr17_12_7 (fun hHeld2 => ?_)
          case hSr17_12_7 => (exact ⟨s0, s1, s2, s3, s4⟩)
          clear hK K hHeld
          have hHeld := hHeld2
          clear hHeld2
          rename World => wq
          (try simp only [Act.put, List.setIfInBounds_toArray, List.set_cons_zero, List.set_cons_succ])
          refine wpAnyH_done (by kernel_rfl) ?_ _
          (go_wp2_with fail; go_meet; exact ⟨gx, gy, rfl, rfl, hHeld.1, hHeld.2.1, hHeld.2.2.1, hHeld.2.2.2.1, (by simpa using Rx.cell 0), (by simpa using Rx.cell 1), (by simpa using Ry.cell 0), (by simpa using Ry.cell 1), hHeld.2.2.2.2⟩)
      refine AllReadyH.cons (o := { dst := some 7, op := Go.Op.alloc 27, type := 0, pos := _, after := #[], guard := none }) rfl (fun K hK => ?_) ?_
      · (go_simp; (have lx : w.heap.size + 1 < wq.heap.size := World.block_lt_of_cell? _ _ hHeld.2.2.1); (have mx : w.heap.size ≤ wq.heap.size := hHeld.2.2.2.2.size); (try have hne := Nat.ne_of_lt Ry.lt); (have Rx := Row.new wq #[.int .u64 0, .int .u64 0] 27); (have hb : Below wq.heap.size wq (wq.alloc (.cells #[.int .u64 0, .int .u64 0] 27)) := (Below.refl _ _).alloc (Nat.le_refl _) _); (have s0 := cell_later hb hHeld.1); (have s1 := cell_later hb hHeld.2.1); (have s2 := cell_later hb hHeld.2.2.1); (have s3 := cell_later hb hHeld.2.2.2.1); (have s4 := below_step hHeld.2.2.2.2 hb); (try replace Ry := Ry.later hb); clear hb; generalize wq.alloc (.cells #[.int .u64 0, .int .u64 0] 27) = wn at *; generalize wq.heap.size = gx at *)
        refine hK.out _ _ ?hSr17_13_4 (fun hHeld2 => ?_)
        case hSr17_13_4 => (exact ⟨s0, s1, s2, s3, s4⟩)
        clear hK K hHeld
        have hHeld := hHeld2
        clear hHeld2
        rename World => wq
        (try simp only [Act.put, List.setIfInBounds_toArray, List.set_cons_zero, List.set_cons_succ])
        refine wpAnyH_ready (rs := [3, 5]) (by kernel_rfl) (by simp) ?_
        refine AllReadyH.cons (o := { dst := some 12, op := Go.Op.call { callee := Go.Callee.value (Go.Operand.func 14), args := #[Go.Operand.tmp 11], argTypes := #[24] }, type := 27, pos := _, after := #[{ on := 2, ground := Go.Ground.data }, { on := 1, ground := Go.Ground.chain }], guard := none }) rfl (fun K hK => ?_) ?_
        · go_simp
          ((refine (as_h _ _).mono ?_); (rintro e wn ⟨rfl, hb⟩); (try replace Rx := Rx.later hb); (try replace Ry := Ry.later hb))
          go_wp2_with fail
          refine hK.out _ _ ?hSr17_14_3 (fun hHeld2 => ?_)
          case hSr17_14_3 => (first | exact ⟨a0, a1, b0, b1, hbT.drew⟩ | exact ⟨cell_later hb hHeld.1, cell_later hb hHeld.2.1, cell_later hb hHeld.2.2.1, cell_later hb hHeld.2.2.2.1, below_step hHeld.2.2.2.2 hb⟩)
          clear hK K hHeld
          have hHeld := hHeld2
          clear hHeld2
          rename World => wq
          (try simp only [Act.put, List.setIfInBounds_toArray, List.set_cons_zero, List.set_cons_succ])
          refine wpAnyH_ready (rs := [5]) (by kernel_rfl) (by simp) ?_
          refine AllReadyH.cons (o := { dst := some 8, op := Go.Op.alloc 27, type := 0, pos := _, after := #[], guard := none }) rfl (fun K hK => ?_) AllReadyH.nil
          (go_simp; (have ly : w.heap.size + 1 < wq.heap.size := World.block_lt_of_cell? _ _ hHeld.2.2.1); (have my : w.heap.size ≤ wq.heap.size := hHeld.2.2.2.2.size); (try have hne := Nat.ne_of_lt Rx.lt); (have Ry := Row.new wq #[.int .u64 0, .int .u64 0] 27); (have hb : Below wq.heap.size wq (wq.alloc (.cells #[.int .u64 0, .int .u64 0] 27)) := (Below.refl _ _).alloc (Nat.le_refl _) _); (have s0 := cell_later hb hHeld.1); (have s1 := cell_later hb hHeld.2.1); (have s2 := cell_later hb hHeld.2.2.1); (have s3 := cell_later hb hHeld.2.2.2.1); (have s4 := below_step hHeld.2.2.2.2 hb); (try replace Rx := Rx.later hb); clear hb; generalize wq.alloc (.cells #[.int .u64 0, .int .u64 0] 27) = wn at *; generalize wq.heap.size = gy at *)
          refine hK.out _ _ ?hSr17_15_5 (fun hHeld2 => ?_)
          case hSr17_15_5 => (exact ⟨s0, s1, s2, s3, s4⟩)
          clear hK K hHeld
          have hHeld := hHeld2
          clear hHeld2
          rename World => wq
          (try simp only [Act.put, List.setIfInBounds_toArray, List.set_cons_zero, List.set_cons_succ])
          refine wpAnyH_ready (rs := [6]) (by kernel_rfl) (by simp) ?_
          refine AllReadyH.cons (o := { dst := none, op := Go.Op.store 27 (Go.Operand.tmp 7) (Go.Operand.tmp 10), type := 0, pos := _, after := #[{ on := 4, ground := Go.Ground.data }, { on := 1, ground := Go.Ground.data }, { on := 3, ground := Go.Ground.chain }, { on := 0, ground := Go.Ground.phase }, { on := 1, ground := Go.Ground.phase }, { on := 2, ground := Go.Ground.textOnly Go.Departure.lateStores }, { on := 3, ground := Go.Ground.textOnly Go.Departure.lateStoresUnsure }, { on := 4, ground := Go.Ground.phase }, { on := 5, ground := Go.Ground.phase }], guard := none }) rfl (fun K hK => ?_) AllReadyH.nil
          ((have c0 := Rx.cell 0); (have c1 := Rx.cell 1); (simp at c0 c1); (have f0 := Rx.frozen 0); (have f1 := Rx.frozen 1); go_simp; clear c0 c1 f0 f1; (have Rxn := (Rx.set 0 (.int .u64 (hi A))).set 1 (.int .u64 (lo A))); (simp at Rxn); clear Rx; (first | (replace Ry := (Ry.set_far ⟨gx, 0, none⟩ (.int .u64 (hi A)) hne).set_far ⟨gx, 1, none⟩ (.int .u64 (lo A)) hne) | (replace Ry := (Ry.set_far ⟨gx, 0, none⟩ (.int .u64 (hi A)) hne.symm).set_far ⟨gx, 1, none⟩ (.int .u64 (lo A)) hne.symm)); (have Rx := Rxn); clear Rxn; (have s0 := (World.cell?_setCell_far _ ⟨gx, 1, none⟩ _ (.int .u64 (lo A)) (by simp; omega)).trans ((World.cell?_setCell_far _ ⟨gx, 0, none⟩ _ (.int .u64 (hi A)) (by simp; omega)).trans hHeld.1)); (have s1 := (World.cell?_setCell_far _ ⟨gx, 1, none⟩ _ (.int .u64 (lo A)) (by simp; omega)).trans ((World.cell?_setCell_far _ ⟨gx, 0, none⟩ _ (.int .u64 (hi A)) (by simp; omega)).trans hHeld.2.1)); (have s2 := (World.cell?_setCell_far _ ⟨gx, 1, none⟩ _ (.int .u64 (lo A)) (by simp; omega)).trans ((World.cell?_setCell_far _ ⟨gx, 0, none⟩ _ (.int .u64 (hi A)) (by simp; omega)).trans hHeld.2.2.1)); (have s3 := (World.cell?_setCell_far _ ⟨gx, 1, none⟩ _ (.int .u64 (lo A)) (by simp; omega)).trans ((World.cell?_setCell_far _ ⟨gx, 0, none⟩ _ (.int .u64 (hi A)) (by simp; omega)).trans hHeld.2.2.2.1)); (have s4 := (hHeld.2.2.2.2.setCell (p := ⟨gx, 0, none⟩) mx (.int .u64 (hi A))).setCell (p := ⟨gx, 1, none⟩) mx (.int .u64 (lo A))); generalize (wq.setCell ⟨gx, 0, none⟩ (.int .u64 (hi A))).setCell ⟨gx, 1, none⟩ (.int .u64 (lo A)) = wn at *)
          refine hK.out _ _ ?hSr17_16_6 (fun hHeld2 => ?_)
          case hSr17_16_6 => (exact ⟨s0, s1, s2, s3, s4⟩)
          clear hK K hHeld
          have hHeld := hHeld2
          clear hHeld2
          rename World => wq
          (try simp only [Act.put, List.setIfInBounds_toArray, List.set_cons_zero, List.set_cons_succ])
          refine wpAnyH_ready (rs := [7]) (by kernel_rfl) (by simp) ?_
          refine AllReadyH.cons (o := { dst := none, op := Go.Op.store 27 (Go.Operand.tmp 8) (Go.Operand.tmp 12), type := 0, pos := _, after := #[{ on := 5, ground := Go.Ground.data }, { on := 3, ground := Go.Ground.data }, { on := 6, ground := Go.Ground.chain }, { on := 0, ground := Go.Ground.phase }, { on := 1, ground := Go.Ground.phase }, { on := 2, ground := Go.Ground.phase }, { on := 3, ground := Go.Ground.phase }, { on := 4, ground := Go.Ground.phase }, { on := 5, ground := Go.Ground.phase }, { on := 6, ground := Go.Ground.phase }], guard := none }) rfl (fun K hK => ?_) AllReadyH.nil
          ((have c0 := Ry.cell 0); (have c1 := Ry.cell 1); (simp at c0 c1); (have f0 := Ry.frozen 0); (have f1 := Ry.frozen 1); go_simp; clear c0 c1 f0 f1; (have Ryn := (Ry.set 0 (.int .u64 (hi B))).set 1 (.int .u64 (lo B))); (simp at Ryn); clear Ry; (first | (replace Rx := (Rx.set_far ⟨gy, 0, none⟩ (.int .u64 (hi B)) hne).set_far ⟨gy, 1, none⟩ (.int .u64 (lo B)) hne) | (replace Rx := (Rx.set_far ⟨gy, 0, none⟩ (.int .u64 (hi B)) hne.symm).set_far ⟨gy, 1, none⟩ (.int .u64 (lo B)) hne.symm)); (have Ry := Ryn); clear Ryn; (have s0 := (World.cell?_setCell_far _ ⟨gy, 1, none⟩ _ (.int .u64 (lo B)) (by simp; omega)).trans ((World.cell?_setCell_far _ ⟨gy, 0, none⟩ _ (.int .u64 (hi B)) (by simp; omega)).trans hHeld.1)); (have s1 := (World.cell?_setCell_far _ ⟨gy, 1, none⟩ _ (.int .u64 (lo B)) (by simp; omega)).trans ((World.cell?_setCell_far _ ⟨gy, 0, none⟩ _ (.int .u64 (hi B)) (by simp; omega)).trans hHeld.2.1)); (have s2 := (World.cell?_setCell_far _ ⟨gy, 1, none⟩ _ (.int .u64 (lo B)) (by simp; omega)).trans ((World.cell?_setCell_far _ ⟨gy, 0, none⟩ _ (.int .u64 (hi B)) (by simp; omega)).trans hHeld.2.2.1)); (have s3 := (World.cell?_setCell_far _ ⟨gy, 1, none⟩ _ (.int .u64 (lo B)) (by simp; omega)).trans ((World.cell?_setCell_far _ ⟨gy, 0, none⟩ _ (.int .u64 (hi B)) (by simp; omega)).trans hHeld.2.2.2.1)); (have s4 := (hHeld.2.2.2.2.setCell (p := ⟨gy, 0, none⟩) my (.int .u64 (hi B))).setCell (p := ⟨gy, 1, none⟩) my (.int .u64 (lo B))); generalize (wq.setCell ⟨gy, 0, none⟩ (.int .u64 (hi B))).setCell ⟨gy, 1, none⟩ (.int .u64 (lo B)) = wn at *)
          refine hK.out _ _ ?hSr17_17_7 (fun hHeld2 => ?_)
          case hSr17_17_7 => (exact ⟨s0, s1, s2, s3, s4⟩)
          clear hK K hHeld
          have hHeld := hHeld2
          clear hHeld2
          rename World => wq
          (try simp only [Act.put, List.setIfInBounds_toArray, List.set_cons_zero, List.set_cons_succ])
          refine wpAnyH_done (by kernel_rfl) ?_ _
          (go_wp2_with fail; go_meet; exact ⟨gx, gy, rfl, rfl, hHeld.1, hHeld.2.1, hHeld.2.2.1, hHeld.2.2.2.1, (by simpa using Rx.cell 0), (by simpa using Rx.cell 1), (by simpa using Ry.cell 0), (by simpa using Ry.cell 1), hHeld.2.2.2.2⟩)
        refine AllReadyH.cons (o := { dst := some 8, op := Go.Op.alloc 27, type := 0, pos := _, after := #[], guard := none }) rfl (fun K hK => ?_) AllReadyH.nil
        · (go_simp; (have ly : w.heap.size + 1 < wq.heap.size := World.block_lt_of_cell? _ _ hHeld.2.2.1); (have my : w.heap.size ≤ wq.heap.size := hHeld.2.2.2.2.size); (try have hne := Nat.ne_of_lt Rx.lt); (have Ry := Row.new wq #[.int .u64 0, .int .u64 0] 27); (have hb : Below wq.heap.size wq (wq.alloc (.cells #[.int .u64 0, .int .u64 0] 27)) := (Below.refl _ _).alloc (Nat.le_refl _) _); (have s0 := cell_later hb hHeld.1); (have s1 := cell_later hb hHeld.2.1); (have s2 := cell_later hb hHeld.2.2.1); (have s3 := cell_later hb hHeld.2.2.2.1); (have s4 := below_step hHeld.2.2.2.2 hb); (try replace Rx := Rx.later hb); clear hb; generalize wq.alloc (.cells #[.int .u64 0, .int .u64 0] 27) = wn at *; generalize wq.heap.size = gy at *)
          refine hK.out _ _ ?hSr17_18_5 (fun hHeld2 => ?_)
          case hSr17_18_5 => (exact ⟨s0, s1, s2, s3, s4⟩)
          clear hK K hHeld
          have hHeld := hHeld2
          clear hHeld2
          rename World => wq
          (try simp only [Act.put, List.setIfInBounds_toArray, List.set_cons_zero, List.set_cons_succ])
          refine wpAnyH_ready (rs := [3]) (by kernel_rfl) (by simp) ?_
          refine AllReadyH.cons (o := { dst := some 12, op := Go.Op.call { callee := Go.Callee.value (Go.Operand.func 14), args := #[Go.Operand.tmp 11], argTypes := #[24] }, type := 27, pos := _, after := #[{ on := 2, ground := Go.Ground.data }, { on := 1, ground := Go.Ground.chain }], guard := none }) rfl (fun K hK => ?_) AllReadyH.nil
          go_simp
          ((refine (as_h _ _).mono ?_); (rintro e wn ⟨rfl, hb⟩); (try replace Rx := Rx.later hb); (try replace Ry := Ry.later hb))
          go_wp2_with fail
          refine hK.out _ _ ?hSr17_19_3 (fun hHeld2 => ?_)
          case hSr17_19_3 => (first | exact ⟨a0, a1, b0, b1, hbT.drew⟩ | exact ⟨cell_later hb hHeld.1, cell_later hb hHeld.2.1, cell_later hb hHeld.2.2.1, cell_later hb hHeld.2.2.2.1, below_step hHeld.2.2.2.2 hb⟩)
          clear hK K hHeld
          have hHeld := hHeld2
          clear hHeld2
          rename World => wq
          (try simp only [Act.put, List.setIfInBounds_toArray, List.set_cons_zero, List.set_cons_succ])
          refine wpAnyH_ready (rs := [6]) (by kernel_rfl) (by simp) ?_
          refine AllReadyH.cons (o := { dst := none, op := Go.Op.store 27 (Go.Operand.tmp 7) (Go.Operand.tmp 10), type := 0, pos := _, after := #[{ on := 4, ground := Go.Ground.data }, { on := 1, ground := Go.Ground.data }, { on := 3, ground := Go.Ground.chain }, { on := 0, ground := Go.Ground.phase }, { on := 1, ground := Go.Ground.phase }, { on := 2, ground := Go.Ground.textOnly Go.Departure.lateStores }, { on := 3, ground := Go.Ground.textOnly Go.Departure.lateStoresUnsure }, { on := 4, ground := Go.Ground.phase }, { on := 5, ground := Go.Ground.phase }], guard := none }) rfl (fun K hK => ?_) AllReadyH.nil
          ((have c0 := Rx.cell 0); (have c1 := Rx.cell 1); (simp at c0 c1); (have f0 := Rx.frozen 0); (have f1 := Rx.frozen 1); go_simp; clear c0 c1 f0 f1; (have Rxn := (Rx.set 0 (.int .u64 (hi A))).set 1 (.int .u64 (lo A))); (simp at Rxn); clear Rx; (first | (replace Ry := (Ry.set_far ⟨gx, 0, none⟩ (.int .u64 (hi A)) hne).set_far ⟨gx, 1, none⟩ (.int .u64 (lo A)) hne) | (replace Ry := (Ry.set_far ⟨gx, 0, none⟩ (.int .u64 (hi A)) hne.symm).set_far ⟨gx, 1, none⟩ (.int .u64 (lo A)) hne.symm)); (have Rx := Rxn); clear Rxn; (have s0 := (World.cell?_setCell_far _ ⟨gx, 1, none⟩ _ (.int .u64 (lo A)) (by simp; omega)).trans ((World.cell?_setCell_far _ ⟨gx, 0, none⟩ _ (.int .u64 (hi A)) (by simp; omega)).trans hHeld.1)); (have s1 := (World.cell?_setCell_far _ ⟨gx, 1, none⟩ _ (.int .u64 (lo A)) (by simp; omega)).trans ((World.cell?_setCell_far _ ⟨gx, 0, none⟩ _ (.int .u64 (hi A)) (by simp; omega)).trans hHeld.2.1)); (have s2 := (World.cell?_setCell_far _ ⟨gx, 1, none⟩ _ (.int .u64 (lo A)) (by simp; omega)).trans ((World.cell?_setCell_far _ ⟨gx, 0, none⟩ _ (.int .u64 (hi A)) (by simp; omega)).trans hHeld.2.2.1)); (have s3 := (World.cell?_setCell_far _ ⟨gx, 1, none⟩ _ (.int .u64 (lo A)) (by simp; omega)).trans ((World.cell?_setCell_far _ ⟨gx, 0, none⟩ _ (.int .u64 (hi A)) (by simp; omega)).trans hHeld.2.2.2.1)); (have s4 := (hHeld.2.2.2.2.setCell (p := ⟨gx, 0, none⟩) mx (.int .u64 (hi A))).setCell (p := ⟨gx, 1, none⟩) mx (.int .u64 (lo A))); generalize (wq.setCell ⟨gx, 0, none⟩ (.int .u64 (hi A))).setCell ⟨gx, 1, none⟩ (.int .u64 (lo A)) = wn at *)
          refine hK.out _ _ ?hSr17_20_6 (fun hHeld2 => ?_)
          case hSr17_20_6 => (exact ⟨s0, s1, s2, s3, s4⟩)
          clear hK K hHeld
          have hHeld := hHeld2
          clear hHeld2
          rename World => wq
          (try simp only [Act.put, List.setIfInBounds_toArray, List.set_cons_zero, List.set_cons_succ])
          refine wpAnyH_ready (rs := [7]) (by kernel_rfl) (by simp) ?_
          refine AllReadyH.cons (o := { dst := none, op := Go.Op.store 27 (Go.Operand.tmp 8) (Go.Operand.tmp 12), type := 0, pos := _, after := #[{ on := 5, ground := Go.Ground.data }, { on := 3, ground := Go.Ground.data }, { on := 6, ground := Go.Ground.chain }, { on := 0, ground := Go.Ground.phase }, { on := 1, ground := Go.Ground.phase }, { on := 2, ground := Go.Ground.phase }, { on := 3, ground := Go.Ground.phase }, { on := 4, ground := Go.Ground.phase }, { on := 5, ground := Go.Ground.phase }, { on := 6, ground := Go.Ground.phase }], guard := none }) rfl (fun K hK => ?_) AllReadyH.nil
          ((have c0 := Ry.cell 0); (have c1 := Ry.cell 1); (simp at c0 c1); (have f0 := Ry.frozen 0); (have f1 := Ry.frozen 1); go_simp; clear c0 c1 f0 f1; (have Ryn := (Ry.set 0 (.int .u64 (hi B))).set 1 (.int .u64 (lo B))); (simp at Ryn); clear Ry; (first | (replace Rx := (Rx.set_far ⟨gy, 0, none⟩ (.int .u64 (hi B)) hne).set_far ⟨gy, 1, none⟩ (.int .u64 (lo B)) hne) | (replace Rx := (Rx.set_far ⟨gy, 0, none⟩ (.int .u64 (hi B)) hne.symm).set_far ⟨gy, 1, none⟩ (.int .u64 (lo B)) hne.symm)); (have Ry := Ryn); clear Ryn; (have s0 := (World.cell?_setCell_far _ ⟨gy, 1, none⟩ _ (.int .u64 (lo B)) (by simp; omega)).trans ((World.cell?_setCell_far _ ⟨gy, 0, none⟩ _ (.int .u64 (hi B)) (by simp; omega)).trans hHeld.1)); (have s1 := (World.cell?_setCell_far _ ⟨gy, 1, none⟩ _ (.int .u64 (lo B)) (by simp; omega)).trans ((World.cell?_setCell_far _ ⟨gy, 0, none⟩ _ (.int .u64 (hi B)) (by simp; omega)).trans hHeld.2.1)); (have s2 := (World.cell?_setCell_far _ ⟨gy, 1, none⟩ _ (.int .u64 (lo B)) (by simp; omega)).trans ((World.cell?_setCell_far _ ⟨gy, 0, none⟩ _ (.int .u64 (hi B)) (by simp; omega)).trans hHeld.2.2.1)); (have s3 := (World.cell?_setCell_far _ ⟨gy, 1, none⟩ _ (.int .u64 (lo B)) (by simp; omega)).trans ((World.cell?_setCell_far _ ⟨gy, 0, none⟩ _ (.int .u64 (hi B)) (by simp; omega)).trans hHeld.2.2.2.1)); (have s4 := (hHeld.2.2.2.2.setCell (p := ⟨gy, 0, none⟩) my (.int .u64 (hi B))).setCell (p := ⟨gy, 1, none⟩) my (.int .u64 (lo B))); generalize (wq.setCell ⟨gy, 0, none⟩ (.int .u64 (hi B))).setCell ⟨gy, 1, none⟩ (.int .u64 (lo B)) = wn at *)
          refine hK.out _ _ ?hSr17_21_7 (fun hHeld2 => ?_)
          case hSr17_21_7 => (exact ⟨s0, s1, s2, s3, s4⟩)
          clear hK K hHeld
          have hHeld := hHeld2
          clear hHeld2
          rename World => wq
          (try simp only [Act.put, List.setIfInBounds_toArray, List.set_cons_zero, List.set_cons_succ])
          refine wpAnyH_done (by kernel_rfl) ?_ _
          (go_wp2_with fail; go_meet; exact ⟨gx, gy, rfl, rfl, hHeld.1, hHeld.2.1, hHeld.2.2.1, hHeld.2.2.2.1, (by simpa using Rx.cell 0), (by simpa using Rx.cell 1), (by simpa using Ry.cell 0), (by simpa using Ry.cell 1), hHeld.2.2.2.2⟩)
      refine AllReadyH.cons (o := { dst := some 8, op := Go.Op.alloc 27, type := 0, pos := _, after := #[], guard := none }) rfl (fun K hK => ?_) AllReadyH.nil
      · (go_simp; (have ly : w.heap.size + 1 < wq.heap.size := World.block_lt_of_cell? _ _ hHeld.2.2.1); (have my : w.heap.size ≤ wq.heap.size := hHeld.2.2.2.2.size); (try have hne := Nat.ne_of_lt Rx.lt); (have Ry := Row.new wq #[.int .u64 0, .int .u64 0] 27); (have hb : Below wq.heap.size wq (wq.alloc (.cells #[.int .u64 0, .int .u64 0] 27)) := (Below.refl _ _).alloc (Nat.le_refl _) _); (have s0 := cell_later hb hHeld.1); (have s1 := cell_later hb hHeld.2.1); (have s2 := cell_later hb hHeld.2.2.1); (have s3 := cell_later hb hHeld.2.2.2.1); (have s4 := below_step hHeld.2.2.2.2 hb); (try replace Rx := Rx.later hb); clear hb; generalize wq.alloc (.cells #[.int .u64 0, .int .u64 0] 27) = wn at *; generalize wq.heap.size = gy at *)
        refine hK.out _ _ ?hSr17_22_5 (fun hHeld2 => ?_)
        case hSr17_22_5 => (exact ⟨s0, s1, s2, s3, s4⟩)
        clear hK K hHeld
        have hHeld := hHeld2
        clear hHeld2
        rename World => wq
        (try simp only [Act.put, List.setIfInBounds_toArray, List.set_cons_zero, List.set_cons_succ])
        refine wpAnyH_ready (rs := [3, 4]) (by kernel_rfl) (by simp) ?_
        refine AllReadyH.cons (o := { dst := some 12, op := Go.Op.call { callee := Go.Callee.value (Go.Operand.func 14), args := #[Go.Operand.tmp 11], argTypes := #[24] }, type := 27, pos := _, after := #[{ on := 2, ground := Go.Ground.data }, { on := 1, ground := Go.Ground.chain }], guard := none }) rfl (fun K hK => ?_) ?_
        · go_simp
          ((refine (as_h _ _).mono ?_); (rintro e wn ⟨rfl, hb⟩); (try replace Rx := Rx.later hb); (try replace Ry := Ry.later hb))
          go_wp2_with fail
          refine hK.out _ _ ?hSr17_23_3 (fun hHeld2 => ?_)
          case hSr17_23_3 => (first | exact ⟨a0, a1, b0, b1, hbT.drew⟩ | exact ⟨cell_later hb hHeld.1, cell_later hb hHeld.2.1, cell_later hb hHeld.2.2.1, cell_later hb hHeld.2.2.2.1, below_step hHeld.2.2.2.2 hb⟩)
          clear hK K hHeld
          have hHeld := hHeld2
          clear hHeld2
          rename World => wq
          (try simp only [Act.put, List.setIfInBounds_toArray, List.set_cons_zero, List.set_cons_succ])
          refine wpAnyH_ready (rs := [4]) (by kernel_rfl) (by simp) ?_
          refine AllReadyH.cons (o := { dst := some 7, op := Go.Op.alloc 27, type := 0, pos := _, after := #[], guard := none }) rfl (fun K hK => ?_) AllReadyH.nil
          (go_simp; (have lx : w.heap.size + 1 < wq.heap.size := World.block_lt_of_cell? _ _ hHeld.2.2.1); (have mx : w.heap.size ≤ wq.heap.size := hHeld.2.2.2.2.size); (try have hne := Nat.ne_of_lt Ry.lt); (have Rx := Row.new wq #[.int .u64 0, .int .u64 0] 27); (have hb : Below wq.heap.size wq (wq.alloc (.cells #[.int .u64 0, .int .u64 0] 27)) := (Below.refl _ _).alloc (Nat.le_refl _) _); (have s0 := cell_later hb hHeld.1); (have s1 := cell_later hb hHeld.2.1); (have s2 := cell_later hb hHeld.2.2.1); (have s3 := cell_later hb hHeld.2.2.2.1); (have s4 := below_step hHeld.2.2.2.2 hb); (try replace Ry := Ry.later hb); clear hb; generalize wq.alloc (.cells #[.int .u64 0, .int .u64 0] 27) = wn at *; generalize wq.heap.size = gx at *)
          refine hK.out _ _ ?hSr17_24_4 (fun hHeld2 => ?_)
          case hSr17_24_4 => (exact ⟨s0, s1, s2, s3, s4⟩)
          clear hK K hHeld
          have hHeld := hHeld2
          clear hHeld2
          rename World => wq
          (try simp only [Act.put, List.setIfInBounds_toArray, List.set_cons_zero, List.set_cons_succ])
          refine wpAnyH_ready (rs := [6]) (by kernel_rfl) (by simp) ?_
          refine AllReadyH.cons (o := { dst := none, op := Go.Op.store 27 (Go.Operand.tmp 7) (Go.Operand.tmp 10), type := 0, pos := _, after := #[{ on := 4, ground := Go.Ground.data }, { on := 1, ground := Go.Ground.data }, { on := 3, ground := Go.Ground.chain }, { on := 0, ground := Go.Ground.phase }, { on := 1, ground := Go.Ground.phase }, { on := 2, ground := Go.Ground.textOnly Go.Departure.lateStores }, { on := 3, ground := Go.Ground.textOnly Go.Departure.lateStoresUnsure }, { on := 4, ground := Go.Ground.phase }, { on := 5, ground := Go.Ground.phase }], guard := none }) rfl (fun K hK => ?_) AllReadyH.nil
          ((have c0 := Rx.cell 0); (have c1 := Rx.cell 1); (simp at c0 c1); (have f0 := Rx.frozen 0); (have f1 := Rx.frozen 1); go_simp; clear c0 c1 f0 f1; (have Rxn := (Rx.set 0 (.int .u64 (hi A))).set 1 (.int .u64 (lo A))); (simp at Rxn); clear Rx; (first | (replace Ry := (Ry.set_far ⟨gx, 0, none⟩ (.int .u64 (hi A)) hne).set_far ⟨gx, 1, none⟩ (.int .u64 (lo A)) hne) | (replace Ry := (Ry.set_far ⟨gx, 0, none⟩ (.int .u64 (hi A)) hne.symm).set_far ⟨gx, 1, none⟩ (.int .u64 (lo A)) hne.symm)); (have Rx := Rxn); clear Rxn; (have s0 := (World.cell?_setCell_far _ ⟨gx, 1, none⟩ _ (.int .u64 (lo A)) (by simp; omega)).trans ((World.cell?_setCell_far _ ⟨gx, 0, none⟩ _ (.int .u64 (hi A)) (by simp; omega)).trans hHeld.1)); (have s1 := (World.cell?_setCell_far _ ⟨gx, 1, none⟩ _ (.int .u64 (lo A)) (by simp; omega)).trans ((World.cell?_setCell_far _ ⟨gx, 0, none⟩ _ (.int .u64 (hi A)) (by simp; omega)).trans hHeld.2.1)); (have s2 := (World.cell?_setCell_far _ ⟨gx, 1, none⟩ _ (.int .u64 (lo A)) (by simp; omega)).trans ((World.cell?_setCell_far _ ⟨gx, 0, none⟩ _ (.int .u64 (hi A)) (by simp; omega)).trans hHeld.2.2.1)); (have s3 := (World.cell?_setCell_far _ ⟨gx, 1, none⟩ _ (.int .u64 (lo A)) (by simp; omega)).trans ((World.cell?_setCell_far _ ⟨gx, 0, none⟩ _ (.int .u64 (hi A)) (by simp; omega)).trans hHeld.2.2.2.1)); (have s4 := (hHeld.2.2.2.2.setCell (p := ⟨gx, 0, none⟩) mx (.int .u64 (hi A))).setCell (p := ⟨gx, 1, none⟩) mx (.int .u64 (lo A))); generalize (wq.setCell ⟨gx, 0, none⟩ (.int .u64 (hi A))).setCell ⟨gx, 1, none⟩ (.int .u64 (lo A)) = wn at *)
          refine hK.out _ _ ?hSr17_25_6 (fun hHeld2 => ?_)
          case hSr17_25_6 => (exact ⟨s0, s1, s2, s3, s4⟩)
          clear hK K hHeld
          have hHeld := hHeld2
          clear hHeld2
          rename World => wq
          (try simp only [Act.put, List.setIfInBounds_toArray, List.set_cons_zero, List.set_cons_succ])
          refine wpAnyH_ready (rs := [7]) (by kernel_rfl) (by simp) ?_
          refine AllReadyH.cons (o := { dst := none, op := Go.Op.store 27 (Go.Operand.tmp 8) (Go.Operand.tmp 12), type := 0, pos := _, after := #[{ on := 5, ground := Go.Ground.data }, { on := 3, ground := Go.Ground.data }, { on := 6, ground := Go.Ground.chain }, { on := 0, ground := Go.Ground.phase }, { on := 1, ground := Go.Ground.phase }, { on := 2, ground := Go.Ground.phase }, { on := 3, ground := Go.Ground.phase }, { on := 4, ground := Go.Ground.phase }, { on := 5, ground := Go.Ground.phase }, { on := 6, ground := Go.Ground.phase }], guard := none }) rfl (fun K hK => ?_) AllReadyH.nil
          ((have c0 := Ry.cell 0); (have c1 := Ry.cell 1); (simp at c0 c1); (have f0 := Ry.frozen 0); (have f1 := Ry.frozen 1); go_simp; clear c0 c1 f0 f1; (have Ryn := (Ry.set 0 (.int .u64 (hi B))).set 1 (.int .u64 (lo B))); (simp at Ryn); clear Ry; (first | (replace Rx := (Rx.set_far ⟨gy, 0, none⟩ (.int .u64 (hi B)) hne).set_far ⟨gy, 1, none⟩ (.int .u64 (lo B)) hne) | (replace Rx := (Rx.set_far ⟨gy, 0, none⟩ (.int .u64 (hi B)) hne.symm).set_far ⟨gy, 1, none⟩ (.int .u64 (lo B)) hne.symm)); (have Ry := Ryn); clear Ryn; (have s0 := (World.cell?_setCell_far _ ⟨gy, 1, none⟩ _ (.int .u64 (lo B)) (by simp; omega)).trans ((World.cell?_setCell_far _ ⟨gy, 0, none⟩ _ (.int .u64 (hi B)) (by simp; omega)).trans hHeld.1)); (have s1 := (World.cell?_setCell_far _ ⟨gy, 1, none⟩ _ (.int .u64 (lo B)) (by simp; omega)).trans ((World.cell?_setCell_far _ ⟨gy, 0, none⟩ _ (.int .u64 (hi B)) (by simp; omega)).trans hHeld.2.1)); (have s2 := (World.cell?_setCell_far _ ⟨gy, 1, none⟩ _ (.int .u64 (lo B)) (by simp; omega)).trans ((World.cell?_setCell_far _ ⟨gy, 0, none⟩ _ (.int .u64 (hi B)) (by simp; omega)).trans hHeld.2.2.1)); (have s3 := (World.cell?_setCell_far _ ⟨gy, 1, none⟩ _ (.int .u64 (lo B)) (by simp; omega)).trans ((World.cell?_setCell_far _ ⟨gy, 0, none⟩ _ (.int .u64 (hi B)) (by simp; omega)).trans hHeld.2.2.2.1)); (have s4 := (hHeld.2.2.2.2.setCell (p := ⟨gy, 0, none⟩) my (.int .u64 (hi B))).setCell (p := ⟨gy, 1, none⟩) my (.int .u64 (lo B))); generalize (wq.setCell ⟨gy, 0, none⟩ (.int .u64 (hi B))).setCell ⟨gy, 1, none⟩ (.int .u64 (lo B)) = wn at *)
          refine hK.out _ _ ?hSr17_26_7 (fun hHeld2 => ?_)
          case hSr17_26_7 => (exact ⟨s0, s1, s2, s3, s4⟩)
          clear hK K hHeld
          have hHeld := hHeld2
          clear hHeld2
          rename World => wq
          (try simp only [Act.put, List.setIfInBounds_toArray, List.set_cons_zero, List.set_cons_succ])
          refine wpAnyH_done (by kernel_rfl) ?_ _
          (go_wp2_with fail; go_meet; exact ⟨gx, gy, rfl, rfl, hHeld.1, hHeld.2.1, hHeld.2.2.1, hHeld.2.2.2.1, (by simpa using Rx.cell 0), (by simpa using Rx.cell 1), (by simpa using Ry.cell 0), (by simpa using Ry.cell 1), hHeld.2.2.2.2⟩)
        refine AllReadyH.cons (o := { dst := some 7, op := Go.Op.alloc 27, type := 0, pos := _, after := #[], guard := none }) rfl (fun K hK => ?_) AllReadyH.nil
        · (go_simp; (have lx : w.heap.size + 1 < wq.heap.size := World.block_lt_of_cell? _ _ hHeld.2.2.1); (have mx : w.heap.size ≤ wq.heap.size := hHeld.2.2.2.2.size); (try have hne := Nat.ne_of_lt Ry.lt); (have Rx := Row.new wq #[.int .u64 0, .int .u64 0] 27); (have hb : Below wq.heap.size wq (wq.alloc (.cells #[.int .u64 0, .int .u64 0] 27)) := (Below.refl _ _).alloc (Nat.le_refl _) _); (have s0 := cell_later hb hHeld.1); (have s1 := cell_later hb hHeld.2.1); (have s2 := cell_later hb hHeld.2.2.1); (have s3 := cell_later hb hHeld.2.2.2.1); (have s4 := below_step hHeld.2.2.2.2 hb); (try replace Ry := Ry.later hb); clear hb; generalize wq.alloc (.cells #[.int .u64 0, .int .u64 0] 27) = wn at *; generalize wq.heap.size = gx at *)
          refine hK.out _ _ ?hSr17_27_4 (fun hHeld2 => ?_)
          case hSr17_27_4 => (exact ⟨s0, s1, s2, s3, s4⟩)
          clear hK K hHeld
          have hHeld := hHeld2
          clear hHeld2
          rename World => wq
          (try simp only [Act.put, List.setIfInBounds_toArray, List.set_cons_zero, List.set_cons_succ])
          refine wpAnyH_ready (rs := [3]) (by kernel_rfl) (by simp) ?_
          refine AllReadyH.cons (o := { dst := some 12, op := Go.Op.call { callee := Go.Callee.value (Go.Operand.func 14), args := #[Go.Operand.tmp 11], argTypes := #[24] }, type := 27, pos := _, after := #[{ on := 2, ground := Go.Ground.data }, { on := 1, ground := Go.Ground.chain }], guard := none }) rfl (fun K hK => ?_) AllReadyH.nil
          go_simp
          ((refine (as_h _ _).mono ?_); (rintro e wn ⟨rfl, hb⟩); (try replace Rx := Rx.later hb); (try replace Ry := Ry.later hb))
          go_wp2_with fail
          refine hK.out _ _ ?hSr17_28_3 (fun hHeld2 => ?_)
          case hSr17_28_3 => (first | exact ⟨a0, a1, b0, b1, hbT.drew⟩ | exact ⟨cell_later hb hHeld.1, cell_later hb hHeld.2.1, cell_later hb hHeld.2.2.1, cell_later hb hHeld.2.2.2.1, below_step hHeld.2.2.2.2 hb⟩)
          clear hK K hHeld
          have hHeld := hHeld2
          clear hHeld2
          rename World => wq
          (try simp only [Act.put, List.setIfInBounds_toArray, List.set_cons_zero, List.set_cons_succ])
          refine wpAnyH_ready (rs := [6]) (by kernel_rfl) (by simp) ?_
          refine AllReadyH.cons (o := { dst := none, op := Go.Op.store 27 (Go.Operand.tmp 7) (Go.Operand.tmp 10), type := 0, pos := _, after := #[{ on := 4, ground := Go.Ground.data }, { on := 1, ground := Go.Ground.data }, { on := 3, ground := Go.Ground.chain }, { on := 0, ground := Go.Ground.phase }, { on := 1, ground := Go.Ground.phase }, { on := 2, ground := Go.Ground.textOnly Go.Departure.lateStores }, { on := 3, ground := Go.Ground.textOnly Go.Departure.lateStoresUnsure }, { on := 4, ground := Go.Ground.phase }, { on := 5, ground := Go.Ground.phase }], guard := none }) rfl (fun K hK => ?_) AllReadyH.nil
          ((have c0 := Rx.cell 0); (have c1 := Rx.cell 1); (simp at c0 c1); (have f0 := Rx.frozen 0); (have f1 := Rx.frozen 1); go_simp; clear c0 c1 f0 f1; (have Rxn := (Rx.set 0 (.int .u64 (hi A))).set 1 (.int .u64 (lo A))); (simp at Rxn); clear Rx; (first | (replace Ry := (Ry.set_far ⟨gx, 0, none⟩ (.int .u64 (hi A)) hne).set_far ⟨gx, 1, none⟩ (.int .u64 (lo A)) hne) | (replace Ry := (Ry.set_far ⟨gx, 0, none⟩ (.int .u64 (hi A)) hne.symm).set_far ⟨gx, 1, none⟩ (.int .u64 (lo A)) hne.symm)); (have Rx := Rxn); clear Rxn; (have s0 := (World.cell?_setCell_far _ ⟨gx, 1, none⟩ _ (.int .u64 (lo A)) (by simp; omega)).trans ((World.cell?_setCell_far _ ⟨gx, 0, none⟩ _ (.int .u64 (hi A)) (by simp; omega)).trans hHeld.1)); (have s1 := (World.cell?_setCell_far _ ⟨gx, 1, none⟩ _ (.int .u64 (lo A)) (by simp; omega)).trans ((World.cell?_setCell_far _ ⟨gx, 0, none⟩ _ (.int .u64 (hi A)) (by simp; omega)).trans hHeld.2.1)); (have s2 := (World.cell?_setCell_far _ ⟨gx, 1, none⟩ _ (.int .u64 (lo A)) (by simp; omega)).trans ((World.cell?_setCell_far _ ⟨gx, 0, none⟩ _ (.int .u64 (hi A)) (by simp; omega)).trans hHeld.2.2.1)); (have s3 := (World.cell?_setCell_far _ ⟨gx, 1, none⟩ _ (.int .u64 (lo A)) (by simp; omega)).trans ((World.cell?_setCell_far _ ⟨gx, 0, none⟩ _ (.int .u64 (hi A)) (by simp; omega)).trans hHeld.2.2.2.1)); (have s4 := (hHeld.2.2.2.2.setCell (p := ⟨gx, 0, none⟩) mx (.int .u64 (hi A))).setCell (p := ⟨gx, 1, none⟩) mx (.int .u64 (lo A))); generalize (wq.setCell ⟨gx, 0, none⟩ (.int .u64 (hi A))).setCell ⟨gx, 1, none⟩ (.int .u64 (lo A)) = wn at *)
          refine hK.out _ _ ?hSr17_29_6 (fun hHeld2 => ?_)
          case hSr17_29_6 => (exact ⟨s0, s1, s2, s3, s4⟩)
          clear hK K hHeld
          have hHeld := hHeld2
          clear hHeld2
          rename World => wq
          (try simp only [Act.put, List.setIfInBounds_toArray, List.set_cons_zero, List.set_cons_succ])
          refine wpAnyH_ready (rs := [7]) (by kernel_rfl) (by simp) ?_
          refine AllReadyH.cons (o := { dst := none, op := Go.Op.store 27 (Go.Operand.tmp 8) (Go.Operand.tmp 12), type := 0, pos := _, after := #[{ on := 5, ground := Go.Ground.data }, { on := 3, ground := Go.Ground.data }, { on := 6, ground := Go.Ground.chain }, { on := 0, ground := Go.Ground.phase }, { on := 1, ground := Go.Ground.phase }, { on := 2, ground := Go.Ground.phase }, { on := 3, ground := Go.Ground.phase }, { on := 4, ground := Go.Ground.phase }, { on := 5, ground := Go.Ground.phase }, { on := 6, ground := Go.Ground.phase }], guard := none }) rfl (fun K hK => ?_) AllReadyH.nil
          ((have c0 := Ry.cell 0); (have c1 := Ry.cell 1); (simp at c0 c1); (have f0 := Ry.frozen 0); (have f1 := Ry.frozen 1); go_simp; clear c0 c1 f0 f1; (have Ryn := (Ry.set 0 (.int .u64 (hi B))).set 1 (.int .u64 (lo B))); (simp at Ryn); clear Ry; (first | (replace Rx := (Rx.set_far ⟨gy, 0, none⟩ (.int .u64 (hi B)) hne).set_far ⟨gy, 1, none⟩ (.int .u64 (lo B)) hne) | (replace Rx := (Rx.set_far ⟨gy, 0, none⟩ (.int .u64 (hi B)) hne.symm).set_far ⟨gy, 1, none⟩ (.int .u64 (lo B)) hne.symm)); (have Ry := Ryn); clear Ryn; (have s0 := (World.cell?_setCell_far _ ⟨gy, 1, none⟩ _ (.int .u64 (lo B)) (by simp; omega)).trans ((World.cell?_setCell_far _ ⟨gy, 0, none⟩ _ (.int .u64 (hi B)) (by simp; omega)).trans hHeld.1)); (have s1 := (World.cell?_setCell_far _ ⟨gy, 1, none⟩ _ (.int .u64 (lo B)) (by simp; omega)).trans ((World.cell?_setCell_far _ ⟨gy, 0, none⟩ _ (.int .u64 (hi B)) (by simp; omega)).trans hHeld.2.1)); (have s2 := (World.cell?_setCell_far _ ⟨gy, 1, none⟩ _ (.int .u64 (lo B)) (by simp; omega)).trans ((World.cell?_setCell_far _ ⟨gy, 0, none⟩ _ (.int .u64 (hi B)) (by simp; omega)).trans hHeld.2.2.1)); (have s3 := (World.cell?_setCell_far _ ⟨gy, 1, none⟩ _ (.int .u64 (lo B)) (by simp; omega)).trans ((World.cell?_setCell_far _ ⟨gy, 0, none⟩ _ (.int .u64 (hi B)) (by simp; omega)).trans hHeld.2.2.2.1)); (have s4 := (hHeld.2.2.2.2.setCell (p := ⟨gy, 0, none⟩) my (.int .u64 (hi B))).setCell (p := ⟨gy, 1, none⟩) my (.int .u64 (lo B))); generalize (wq.setCell ⟨gy, 0, none⟩ (.int .u64 (hi B))).setCell ⟨gy, 1, none⟩ (.int .u64 (lo B)) = wn at *)
          refine hK.out _ _ ?hSr17_30_7 (fun hHeld2 => ?_)
          case hSr17_30_7 => (exact ⟨s0, s1, s2, s3, s4⟩)
          clear hK K hHeld
          have hHeld := hHeld2
          clear hHeld2
          rename World => wq
          (try simp only [Act.put, List.setIfInBounds_toArray, List.set_cons_zero, List.set_cons_succ])
          refine wpAnyH_done (by kernel_rfl) ?_ _
          (go_wp2_with fail; go_meet; exact ⟨gx, gy, rfl, rfl, hHeld.1, hHeld.2.1, hHeld.2.2.1, hHeld.2.2.2.1, (by simpa using Rx.cell 0), (by simpa using Rx.cell 1), (by simpa using Ry.cell 0), (by simpa using Ry.cell 1), hHeld.2.2.2.2⟩)
    refine AllReadyH.cons (o := { dst := some 7, op := Go.Op.alloc 27, type := 0, pos := _, after := #[], guard := none }) rfl (fun K hK => ?_) ?_
    · (go_simp; (have lx : w.heap.size + 1 < wq.heap.size := World.block_lt_of_cell? _ _ hHeld.2.2.1); (have mx : w.heap.size ≤ wq.heap.size := hHeld.2.2.2.2.size); (try have hne := Nat.ne_of_lt Ry.lt); (have Rx := Row.new wq #[.int .u64 0, .int .u64 0] 27); (have hb : Below wq.heap.size wq (wq.alloc (.cells #[.int .u64 0, .int .u64 0] 27)) := (Below.refl _ _).alloc (Nat.le_refl _) _); (have s0 := cell_later hb hHeld.1); (have s1 := cell_later hb hHeld.2.1); (have s2 := cell_later hb hHeld.2.2.1); (have s3 := cell_later hb hHeld.2.2.2.1); (have s4 := below_step hHeld.2.2.2.2 hb); (try replace Ry := Ry.later hb); clear hb; generalize wq.alloc (.cells #[.int .u64 0, .int .u64 0] 27) = wn at *; generalize wq.heap.size = gx at *)
      refine hK.out _ _ ?hSr17_31_4 (fun hHeld2 => ?_)
      case hSr17_31_4 => (exact ⟨s0, s1, s2, s3, s4⟩)
      clear hK K hHeld
      have hHeld := hHeld2
      clear hHeld2
      rename World => wq
      (try simp only [Act.put, List.setIfInBounds_toArray, List.set_cons_zero, List.set_cons_succ])
      refine wpAnyH_ready (rs := [1, 5]) (by kernel_rfl) (by simp) ?_
      refine AllReadyH.cons (o := { dst := some 10, op := Go.Op.call { callee := Go.Callee.value (Go.Operand.func 14), args := #[Go.Operand.tmp 9], argTypes := #[24] }, type := 27, pos := _, after := #[{ on := 0, ground := Go.Ground.data }], guard := none }) rfl (fun K hK => ?_) ?_
      · go_simp
        ((refine (as_h _ _).mono ?_); (rintro e wn ⟨rfl, hb⟩); (try replace Rx := Rx.later hb); (try replace Ry := Ry.later hb))
        go_wp2_with fail
        refine hK.out _ _ ?hSr17_32_1 (fun hHeld2 => ?_)
        case hSr17_32_1 => (first | exact ⟨a0, a1, b0, b1, hbT.drew⟩ | exact ⟨cell_later hb hHeld.1, cell_later hb hHeld.2.1, cell_later hb hHeld.2.2.1, cell_later hb hHeld.2.2.2.1, below_step hHeld.2.2.2.2 hb⟩)
        clear hK K hHeld
        have hHeld := hHeld2
        clear hHeld2
        rename World => wq
        (try simp only [Act.put, List.setIfInBounds_toArray, List.set_cons_zero, List.set_cons_succ])
        refine wpAnyH_ready (rs := [3, 5]) (by kernel_rfl) (by simp) ?_
        refine AllReadyH.cons (o := { dst := some 12, op := Go.Op.call { callee := Go.Callee.value (Go.Operand.func 14), args := #[Go.Operand.tmp 11], argTypes := #[24] }, type := 27, pos := _, after := #[{ on := 2, ground := Go.Ground.data }, { on := 1, ground := Go.Ground.chain }], guard := none }) rfl (fun K hK => ?_) ?_
        · go_simp
          ((refine (as_h _ _).mono ?_); (rintro e wn ⟨rfl, hb⟩); (try replace Rx := Rx.later hb); (try replace Ry := Ry.later hb))
          go_wp2_with fail
          refine hK.out _ _ ?hSr17_33_3 (fun hHeld2 => ?_)
          case hSr17_33_3 => (first | exact ⟨a0, a1, b0, b1, hbT.drew⟩ | exact ⟨cell_later hb hHeld.1, cell_later hb hHeld.2.1, cell_later hb hHeld.2.2.1, cell_later hb hHeld.2.2.2.1, below_step hHeld.2.2.2.2 hb⟩)
          clear hK K hHeld
          have hHeld := hHeld2
          clear hHeld2
          rename World => wq
          (try simp only [Act.put, List.setIfInBounds_toArray, List.set_cons_zero, List.set_cons_succ])
          refine wpAnyH_ready (rs := [5]) (by kernel_rfl) (by simp) ?_
          refine AllReadyH.cons (o := { dst := some 8, op := Go.Op.alloc 27, type := 0, pos := _, after := #[], guard := none }) rfl (fun K hK => ?_) AllReadyH.nil
          (go_simp; (have ly : w.heap.size + 1 < wq.heap.size := World.block_lt_of_cell? _ _ hHeld.2.2.1); (have my : w.heap.size ≤ wq.heap.size := hHeld.2.2.2.2.size); (try have hne := Nat.ne_of_lt Rx.lt); (have Ry := Row.new wq #[.int .u64 0, .int .u64 0] 27); (have hb : Below wq.heap.size wq (wq.alloc (.cells #[.int .u64 0, .int .u64 0] 27)) := (Below.refl _ _).alloc (Nat.le_refl _) _); (have s0 := cell_later hb hHeld.1); (have s1 := cell_later hb hHeld.2.1); (have s2 := cell_later hb hHeld.2.2.1); (have s3 := cell_later hb hHeld.2.2.2.1); (have s4 := below_step hHeld.2.2.2.2 hb); (try replace Rx := Rx.later hb); clear hb; generalize wq.alloc (.cells #[.int .u64 0, .int .u64 0] 27) = wn at *; generalize wq.heap.size = gy at *)
          refine hK.out _ _ ?hSr17_34_5 (fun hHeld2 => ?_)
          case hSr17_34_5 => (exact ⟨s0, s1, s2, s3, s4⟩)
          clear hK K hHeld
          have hHeld := hHeld2
          clear hHeld2
          rename World => wq
          (try simp only [Act.put, List.setIfInBounds_toArray, List.set_cons_zero, List.set_cons_succ])
          refine wpAnyH_ready (rs := [6]) (by kernel_rfl) (by simp) ?_
          refine AllReadyH.cons (o := { dst := none, op := Go.Op.store 27 (Go.Operand.tmp 7) (Go.Operand.tmp 10), type := 0, pos := _, after := #[{ on := 4, ground := Go.Ground.data }, { on := 1, ground := Go.Ground.data }, { on := 3, ground := Go.Ground.chain }, { on := 0, ground := Go.Ground.phase }, { on := 1, ground := Go.Ground.phase }, { on := 2, ground := Go.Ground.textOnly Go.Departure.lateStores }, { on := 3, ground := Go.Ground.textOnly Go.Departure.lateStoresUnsure }, { on := 4, ground := Go.Ground.phase }, { on := 5, ground := Go.Ground.phase }], guard := none }) rfl (fun K hK => ?_) AllReadyH.nil
          ((have c0 := Rx.cell 0); (have c1 := Rx.cell 1); (simp at c0 c1); (have f0 := Rx.frozen 0); (have f1 := Rx.frozen 1); go_simp; clear c0 c1 f0 f1; (have Rxn := (Rx.set 0 (.int .u64 (hi A))).set 1 (.int .u64 (lo A))); (simp at Rxn); clear Rx; (first | (replace Ry := (Ry.set_far ⟨gx, 0, none⟩ (.int .u64 (hi A)) hne).set_far ⟨gx, 1, none⟩ (.int .u64 (lo A)) hne) | (replace Ry := (Ry.set_far ⟨gx, 0, none⟩ (.int .u64 (hi A)) hne.symm).set_far ⟨gx, 1, none⟩ (.int .u64 (lo A)) hne.symm)); (have Rx := Rxn); clear Rxn; (have s0 := (World.cell?_setCell_far _ ⟨gx, 1, none⟩ _ (.int .u64 (lo A)) (by simp; omega)).trans ((World.cell?_setCell_far _ ⟨gx, 0, none⟩ _ (.int .u64 (hi A)) (by simp; omega)).trans hHeld.1)); (have s1 := (World.cell?_setCell_far _ ⟨gx, 1, none⟩ _ (.int .u64 (lo A)) (by simp; omega)).trans ((World.cell?_setCell_far _ ⟨gx, 0, none⟩ _ (.int .u64 (hi A)) (by simp; omega)).trans hHeld.2.1)); (have s2 := (World.cell?_setCell_far _ ⟨gx, 1, none⟩ _ (.int .u64 (lo A)) (by simp; omega)).trans ((World.cell?_setCell_far _ ⟨gx, 0, none⟩ _ (.int .u64 (hi A)) (by simp; omega)).trans hHeld.2.2.1)); (have s3 := (World.cell?_setCell_far _ ⟨gx, 1, none⟩ _ (.int .u64 (lo A)) (by simp; omega)).trans ((World.cell?_setCell_far _ ⟨gx, 0, none⟩ _ (.int .u64 (hi A)) (by simp; omega)).trans hHeld.2.2.2.1)); (have s4 := (hHeld.2.2.2.2.setCell (p := ⟨gx, 0, none⟩) mx (.int .u64 (hi A))).setCell (p := ⟨gx, 1, none⟩) mx (.int .u64 (lo A))); generalize (wq.setCell ⟨gx, 0, none⟩ (.int .u64 (hi A))).setCell ⟨gx, 1, none⟩ (.int .u64 (lo A)) = wn at *)
          refine hK.out _ _ ?hSr17_35_6 (fun hHeld2 => ?_)
          case hSr17_35_6 => (exact ⟨s0, s1, s2, s3, s4⟩)
          clear hK K hHeld
          have hHeld := hHeld2
          clear hHeld2
          rename World => wq
          (try simp only [Act.put, List.setIfInBounds_toArray, List.set_cons_zero, List.set_cons_succ])
          refine wpAnyH_ready (rs := [7]) (by kernel_rfl) (by simp) ?_
          refine AllReadyH.cons (o := { dst := none, op := Go.Op.store 27 (Go.Operand.tmp 8) (Go.Operand.tmp 12), type := 0, pos := _, after := #[{ on := 5, ground := Go.Ground.data }, { on := 3, ground := Go.Ground.data }, { on := 6, ground := Go.Ground.chain }, { on := 0, ground := Go.Ground.phase }, { on := 1, ground := Go.Ground.phase }, { on := 2, ground := Go.Ground.phase }, { on := 3, ground := Go.Ground.phase }, { on := 4, ground := Go.Ground.phase }, { on := 5, ground := Go.Ground.phase }, { on := 6, ground := Go.Ground.phase }], guard := none }) rfl (fun K hK => ?_) AllReadyH.nil
          ((have c0 := Ry.cell 0); (have c1 := Ry.cell 1); (simp at c0 c1); (have f0 := Ry.frozen 0); (have f1 := Ry.frozen 1); go_simp; clear c0 c1 f0 f1; (have Ryn := (Ry.set 0 (.int .u64 (hi B))).set 1 (.int .u64 (lo B))); (simp at Ryn); clear Ry; (first | (replace Rx := (Rx.set_far ⟨gy, 0, none⟩ (.int .u64 (hi B)) hne).set_far ⟨gy, 1, none⟩ (.int .u64 (lo B)) hne) | (replace Rx := (Rx.set_far ⟨gy, 0, none⟩ (.int .u64 (hi B)) hne.symm).set_far ⟨gy, 1, none⟩ (.int .u64 (lo B)) hne.symm)); (have Ry := Ryn); clear Ryn; (have s0 := (World.cell?_setCell_far _ ⟨gy, 1, none⟩ _ (.int .u64 (lo B)) (by simp; omega)).trans ((World.cell?_setCell_far _ ⟨gy, 0, none⟩ _ (.int .u64 (hi B)) (by simp; omega)).trans hHeld.1)); (have s1 := (World.cell?_setCell_far _ ⟨gy, 1, none⟩ _ (.int .u64 (lo B)) (by simp; omega)).trans ((World.cell?_setCell_far _ ⟨gy, 0, none⟩ _ (.int .u64 (hi B)) (by simp; omega)).trans hHeld.2.1)); (have s2 := (World.cell?_setCell_far _ ⟨gy, 1, none⟩ _ (.int .u64 (lo B)) (by simp; omega)).trans ((World.cell?_setCell_far _ ⟨gy, 0, none⟩ _ (.int .u64 (hi B)) (by simp; omega)).trans hHeld.2.2.1)); (have s3 := (World.cell?_setCell_far _ ⟨gy, 1, none⟩ _ (.int .u64 (lo B)) (by simp; omega)).trans ((World.cell?_setCell_far _ ⟨gy, 0, none⟩ _ (.int .u64 (hi B)) (by simp; omega)).trans hHeld.2.2.2.1)); (have s4 := (hHeld.2.2.2.2.setCell (p := ⟨gy, 0, none⟩) my (.int .u64 (hi B))).setCell (p := ⟨gy, 1, none⟩) my (.int .u64 (lo B))); generalize (wq.setCell ⟨gy, 0, none⟩ (.int .u64 (hi B))).setCell ⟨gy, 1, none⟩ (.int .u64 (lo B)) = wn at *)
          refine hK.out _ _ ?hSr17_36_7 (fun hHeld2 => ?_)
          case hSr17_36_7 => (exact ⟨s0, s1, s2, s3, s4⟩)
          clear hK K hHeld
          have hHeld := hHeld2
          clear hHeld2
          rename World => wq
          (try simp only [Act.put, List.setIfInBounds_toArray, List.set_cons_zero, List.set_cons_succ])
          refine wpAnyH_done (by kernel_rfl) ?_ _
          (go_wp2_with fail; go_meet; exact ⟨gx, gy, rfl, rfl, hHeld.1, hHeld.2.1, hHeld.2.2.1, hHeld.2.2.2.1, (by simpa using Rx.cell 0), (by simpa using Rx.cell 1), (by simpa using Ry.cell 0), (by simpa using Ry.cell 1), hHeld.2.2.2.2⟩)
        refine AllReadyH.cons (o := { dst := some 8, op := Go.Op.alloc 27, type := 0, pos := _, after := #[], guard := none }) rfl (fun K hK => ?_) AllReadyH.nil
        · (go_simp; (have ly : w.heap.size + 1 < wq.heap.size := World.block_lt_of_cell? _ _ hHeld.2.2.1); (have my : w.heap.size ≤ wq.heap.size := hHeld.2.2.2.2.size); (try have hne := Nat.ne_of_lt Rx.lt); (have Ry := Row.new wq #[.int .u64 0, .int .u64 0] 27); (have hb : Below wq.heap.size wq (wq.alloc (.cells #[.int .u64 0, .int .u64 0] 27)) := (Below.refl _ _).alloc (Nat.le_refl _) _); (have s0 := cell_later hb hHeld.1); (have s1 := cell_later hb hHeld.2.1); (have s2 := cell_later hb hHeld.2.2.1); (have s3 := cell_later hb hHeld.2.2.2.1); (have s4 := below_step hHeld.2.2.2.2 hb); (try replace Rx := Rx.later hb); clear hb; generalize wq.alloc (.cells #[.int .u64 0, .int .u64 0] 27) = wn at *; generalize wq.heap.size = gy at *)
          refine hK.out _ _ ?hSr17_37_5 (fun hHeld2 => ?_)
          case hSr17_37_5 => (exact ⟨s0, s1, s2, s3, s4⟩)
          clear hK K hHeld
          have hHeld := hHeld2
          clear hHeld2
          rename World => wq
          (try simp only [Act.put, List.setIfInBounds_toArray, List.set_cons_zero, List.set_cons_succ])
          refine wpAnyH_ready (rs := [3]) (by kernel_rfl) (by simp) ?_
          refine AllReadyH.cons (o := { dst := some 12, op := Go.Op.call { callee := Go.Callee.value (Go.Operand.func 14), args := #[Go.Operand.tmp 11], argTypes := #[24] }, type := 27, pos := _, after := #[{ on := 2, ground := Go.Ground.data }, { on := 1, ground := Go.Ground.chain }], guard := none }) rfl (fun K hK => ?_) AllReadyH.nil
          go_simp
          ((refine (as_h _ _).mono ?_); (rintro e wn ⟨rfl, hb⟩); (try replace Rx := Rx.later hb); (try replace Ry := Ry.later hb))
          go_wp2_with fail
          refine hK.out _ _ ?hSr17_38_3 (fun hHeld2 => ?_)
          case hSr17_38_3 => (first | exact ⟨a0, a1, b0, b1, hbT.drew⟩ | exact ⟨cell_later hb hHeld.1, cell_later hb hHeld.2.1, cell_later hb hHeld.2.2.1, cell_later hb hHeld.2.2.2.1, below_step hHeld.2.2.2.2 hb⟩)
          clear hK K hHeld
          have hHeld := hHeld2
          clear hHeld2
          rename World => wq
          (try simp only [Act.put, List.setIfInBounds_toArray, List.set_cons_zero, List.set_cons_succ])
          refine wpAnyH_ready (rs := [6]) (by kernel_rfl) (by simp) ?_
          refine AllReadyH.cons (o := { dst := none, op := Go.Op.store 27 (Go.Operand.tmp 7) (Go.Operand.tmp 10), type := 0, pos := _, after := #[{ on := 4, ground := Go.Ground.data }, { on := 1, ground := Go.Ground.data }, { on := 3, ground := Go.Ground.chain }, { on := 0, ground := Go.Ground.phase }, { on := 1, ground := Go.Ground.phase }, { on := 2, ground := Go.Ground.textOnly Go.Departure.lateStores }, { on := 3, ground := Go.Ground.textOnly Go.Departure.lateStoresUnsure }, { on := 4, ground := Go.Ground.phase }, { on := 5, ground := Go.Ground.phase }], guard := none }) rfl (fun K hK => ?_) AllReadyH.nil
          ((have c0 := Rx.cell 0); (have c1 := Rx.cell 1); (simp at c0 c1); (have f0 := Rx.frozen 0); (have f1 := Rx.frozen 1); go_simp; clear c0 c1 f0 f1; (have Rxn := (Rx.set 0 (.int .u64 (hi A))).set 1 (.int .u64 (lo A))); (simp at Rxn); clear Rx; (first | (replace Ry := (Ry.set_far ⟨gx, 0, none⟩ (.int .u64 (hi A)) hne).set_far ⟨gx, 1, none⟩ (.int .u64 (lo A)) hne) | (replace Ry := (Ry.set_far ⟨gx, 0, none⟩ (.int .u64 (hi A)) hne.symm).set_far ⟨gx, 1, none⟩ (.int .u64 (lo A)) hne.symm)); (have Rx := Rxn); clear Rxn; (have s0 := (World.cell?_setCell_far _ ⟨gx, 1, none⟩ _ (.int .u64 (lo A)) (by simp; omega)).trans ((World.cell?_setCell_far _ ⟨gx, 0, none⟩ _ (.int .u64 (hi A)) (by simp; omega)).trans hHeld.1)); (have s1 := (World.cell?_setCell_far _ ⟨gx, 1, none⟩ _ (.int .u64 (lo A)) (by simp; omega)).trans ((World.cell?_setCell_far _ ⟨gx, 0, none⟩ _ (.int .u64 (hi A)) (by simp; omega)).trans hHeld.2.1)); (have s2 := (World.cell?_setCell_far _ ⟨gx, 1, none⟩ _ (.int .u64 (lo A)) (by simp; omega)).trans ((World.cell?_setCell_far _ ⟨gx, 0, none⟩ _ (.int .u64 (hi A)) (by simp; omega)).trans hHeld.2.2.1)); (have s3 := (World.cell?_setCell_far _ ⟨gx, 1, none⟩ _ (.int .u64 (lo A)) (by simp; omega)).trans ((World.cell?_setCell_far _ ⟨gx, 0, none⟩ _ (.int .u64 (hi A)) (by simp; omega)).trans hHeld.2.2.2.1)); (have s4 := (hHeld.2.2.2.2.setCell (p := ⟨gx, 0, none⟩) mx (.int .u64 (hi A))).setCell (p := ⟨gx, 1, none⟩) mx (.int .u64 (lo A))); generalize (wq.setCell ⟨gx, 0, none⟩ (.int .u64 (hi A))).setCell ⟨gx, 1, none⟩ (.int .u64 (lo A)) = wn at *)
          refine hK.out _ _ ?hSr17_39_6 (fun hHeld2 => ?_)
          case hSr17_39_6 => (exact ⟨s0, s1, s2, s3, s4⟩)
          clear hK K hHeld
          have hHeld := hHeld2
          clear hHeld2
          rename World => wq
          (try simp only [Act.put, List.setIfInBounds_toArray, List.set_cons_zero, List.set_cons_succ])
          refine wpAnyH_ready (rs := [7]) (by kernel_rfl) (by simp) ?_
          refine AllReadyH.cons (o := { dst := none, op := Go.Op.store 27 (Go.Operand.tmp 8) (Go.Operand.tmp 12), type := 0, pos := _, after := #[{ on := 5, ground := Go.Ground.data }, { on := 3, ground := Go.Ground.data }, { on := 6, ground := Go.Ground.chain }, { on := 0, ground := Go.Ground.phase }, { on := 1, ground := Go.Ground.phase }, { on := 2, ground := Go.Ground.phase }, { on := 3, ground := Go.Ground.phase }, { on := 4, ground := Go.Ground.phase }, { on := 5, ground := Go.Ground.phase }, { on := 6, ground := Go.Ground.phase }], guard := none }) rfl (fun K hK => ?_) AllReadyH.nil
          ((have c0 := Ry.cell 0); (have c1 := Ry.cell 1); (simp at c0 c1); (have f0 := Ry.frozen 0); (have f1 := Ry.frozen 1); go_simp; clear c0 c1 f0 f1; (have Ryn := (Ry.set 0 (.int .u64 (hi B))).set 1 (.int .u64 (lo B))); (simp at Ryn); clear Ry; (first | (replace Rx := (Rx.set_far ⟨gy, 0, none⟩ (.int .u64 (hi B)) hne).set_far ⟨gy, 1, none⟩ (.int .u64 (lo B)) hne) | (replace Rx := (Rx.set_far ⟨gy, 0, none⟩ (.int .u64 (hi B)) hne.symm).set_far ⟨gy, 1, none⟩ (.int .u64 (lo B)) hne.symm)); (have Ry := Ryn); clear Ryn; (have s0 := (World.cell?_setCell_far _ ⟨gy, 1, none⟩ _ (.int .u64 (lo B)) (by simp; omega)).trans ((World.cell?_setCell_far _ ⟨gy, 0, none⟩ _ (.int .u64 (hi B)) (by simp; omega)).trans hHeld.1)); (have s1 := (World.cell?_setCell_far _ ⟨gy, 1, none⟩ _ (.int .u64 (lo B)) (by simp; omega)).trans ((World.cell?_setCell_far _ ⟨gy, 0, none⟩ _ (.int .u64 (hi B)) (by simp; omega)).trans hHeld.2.1)); (have s2 := (World.cell?_setCell_far _ ⟨gy, 1, none⟩ _ (.int .u64 (lo B)) (by simp; omega)).trans ((World.cell?_setCell_far _ ⟨gy, 0, none⟩ _ (.int .u64 (hi B)) (by simp; omega)).trans hHeld.2.2.1)); (have s3 := (World.cell?_setCell_far _ ⟨gy, 1, none⟩ _ (.int .u64 (lo B)) (by simp; omega)).trans ((World.cell?_setCell_far _ ⟨gy, 0, none⟩ _ (.int .u64 (hi B)) (by simp; omega)).trans hHeld.2.2.2.1)); (have s4 := (hHeld.2.2.2.2.setCell (p := ⟨gy, 0, none⟩) my (.int .u64 (hi B))).setCell (p := ⟨gy, 1, none⟩) my (.int .u64 (lo B))); generalize (wq.setCell ⟨gy, 0, none⟩ (.int .u64 (hi B))).setCell ⟨gy, 1, none⟩ (.int .u64 (lo B)) = wn at *)
          refine hK.out _ _ ?hSr17_40_7 (fun hHeld2 => ?_)
          case hSr17_40_7 => (exact ⟨s0, s1, s2, s3, s4⟩)
          clear hK K hHeld
          have hHeld := hHeld2
          clear hHeld2
          rename World => wq
          (try simp only [Act.put, List.setIfInBounds_toArray, List.set_cons_zero, List.set_cons_succ])
          refine wpAnyH_done (by kernel_rfl) ?_ _
          (go_wp2_with fail; go_meet; exact ⟨gx, gy, rfl, rfl, hHeld.1, hHeld.2.1, hHeld.2.2.1, hHeld.2.2.2.1, (by simpa using Rx.cell 0), (by simpa using Rx.cell 1), (by simpa using Ry.cell 0), (by simpa using Ry.cell 1), hHeld.2.2.2.2⟩)
      refine AllReadyH.cons (o := { dst := some 8, op := Go.Op.alloc 27, type := 0, pos := _, after := #[], guard := none }) rfl (fun K hK => ?_) AllReadyH.nil
      · (go_simp; (have ly : w.heap.size + 1 < wq.heap.size := World.block_lt_of_cell? _ _ hHeld.2.2.1); (have my : w.heap.size ≤ wq.heap.size := hHeld.2.2.2.2.size); (try have hne := Nat.ne_of_lt Rx.lt); (have Ry := Row.new wq #[.int .u64 0, .int .u64 0] 27); (have hb : Below wq.heap.size wq (wq.alloc (.cells #[.int .u64 0, .int .u64 0] 27)) := (Below.refl _ _).alloc (Nat.le_refl _) _); (have s0 := cell_later hb hHeld.1); (have s1 := cell_later hb hHeld.2.1); (have s2 := cell_later hb hHeld.2.2.1); (have s3 := cell_later hb hHeld.2.2.2.1); (have s4 := below_step hHeld.2.2.2.2 hb); (try replace Rx := Rx.later hb); clear hb; generalize wq.alloc (.cells #[.int .u64 0, .int .u64 0] 27) = wn at *; generalize wq.heap.size = gy at *)
        refine hK.out _ _ ?hSr17_41_5 (fun hHeld2 => ?_)
        case hSr17_41_5 => (exact ⟨s0, s1, s2, s3, s4⟩)
        clear hK K hHeld
        have hHeld := hHeld2
        clear hHeld2
        rename World => wq
        (try simp only [Act.put, List.setIfInBounds_toArray, List.set_cons_zero, List.set_cons_succ])
        refine wpAnyH_ready (rs := [1]) (by kernel_rfl) (by simp) ?_
        refine AllReadyH.cons (o := { dst := some 10, op := Go.Op.call { callee := Go.Callee.value (Go.Operand.func 14), args := #[Go.Operand.tmp 9], argTypes := #[24] }, type := 27, pos := _, after := #[{ on := 0, ground := Go.Ground.data }], guard := none }) rfl (fun K hK => ?_) AllReadyH.nil
        go_simp
        ((refine (as_h _ _).mono ?_); (rintro e wn ⟨rfl, hb⟩); (try replace Rx := Rx.later hb); (try replace Ry := Ry.later hb))
        go_wp2_with fail
        refine hK.out _ _ ?hSr17_42_1 (fun hHeld2 => ?_)
        case hSr17_42_1 => (first | exact ⟨a0, a1, b0, b1, hbT.drew⟩ | exact ⟨cell_later hb hHeld.1, cell_later hb hHeld.2.1, cell_later hb hHeld.2.2.1, cell_later hb hHeld.2.2.2.1, below_step hHeld.2.2.2.2 hb⟩)
        clear hK K hHeld
        have hHeld := hHeld2
        clear hHeld2
        rename World => wq
        (try simp only [Act.put, List.setIfInBounds_toArray, List.set_cons_zero, List.set_cons_succ])
        refine wpAnyH_ready (rs := [3]) (by kernel_rfl) (by simp) ?_
        refine AllReadyH.cons (o := { dst := some 12, op := Go.Op.call { callee := Go.Callee.value (Go.Operand.func 14), args := #[Go.Operand.tmp 11], argTypes := #[24] }, type := 27, pos := _, after := #[{ on := 2, ground := Go.Ground.data }, { on := 1, ground := Go.Ground.chain }], guard := none }) rfl (fun K hK => ?_) AllReadyH.nil
        go_simp
        ((refine (as_h _ _).mono ?_); (rintro e wn ⟨rfl, hb⟩); (try replace Rx := Rx.later hb); (try replace Ry := Ry.later hb))
        go_wp2_with fail
        refine hK.out _ _ ?hSr17_43_3 (fun hHeld2 => ?_)
        case hSr17_43_3 => (first | exact ⟨a0, a1, b0, b1, hbT.drew⟩ | exact ⟨cell_later hb hHeld.1, cell_later hb hHeld.2.1, cell_later hb hHeld.2.2.1, cell_later hb hHeld.2.2.2.1, below_step hHeld.2.2.2.2 hb⟩)
        clear hK K hHeld
        have hHeld := hHeld2
        clear hHeld2
        rename World => wq
        (try simp only [Act.put, List.setIfInBounds_toArray, List.set_cons_zero, List.set_cons_succ])
        refine wpAnyH_ready (rs := [6]) (by kernel_rfl) (by simp) ?_
        refine AllReadyH.cons (o := { dst := none, op := Go.Op.store 27 (Go.Operand.tmp 7) (Go.Operand.tmp 10), type := 0, pos := _, after := #[{ on := 4, ground := Go.Ground.data }, { on := 1, ground := Go.Ground.data }, { on := 3, ground := Go.Ground.chain }, { on := 0, ground := Go.Ground.phase }, { on := 1, ground := Go.Ground.phase }, { on := 2, ground := Go.Ground.textOnly Go.Departure.lateStores }, { on := 3, ground := Go.Ground.textOnly Go.Departure.lateStoresUnsure }, { on := 4, ground := Go.Ground.phase }, { on := 5, ground := Go.Ground.phase }], guard := none }) rfl (fun K hK => ?_) AllReadyH.nil
        ((have c0 := Rx.cell 0); (have c1 := Rx.cell 1); (simp at c0 c1); (have f0 := Rx.frozen 0); (have f1 := Rx.frozen 1); go_simp; clear c0 c1 f0 f1; (have Rxn := (Rx.set 0 (.int .u64 (hi A))).set 1 (.int .u64 (lo A))); (simp at Rxn); clear Rx; (first | (replace Ry := (Ry.set_far ⟨gx, 0, none⟩ (.int .u64 (hi A)) hne).set_far ⟨gx, 1, none⟩ (.int .u64 (lo A)) hne) | (replace Ry := (Ry.set_far ⟨gx, 0, none⟩ (.int .u64 (hi A)) hne.symm).set_far ⟨gx, 1, none⟩ (.int .u64 (lo A)) hne.symm)); (have Rx := Rxn); clear Rxn; (have s0 := (World.cell?_setCell_far _ ⟨gx, 1, none⟩ _ (.int .u64 (lo A)) (by simp; omega)).trans ((World.cell?_setCell_far _ ⟨gx, 0, none⟩ _ (.int .u64 (hi A)) (by simp; omega)).trans hHeld.1)); (have s1 := (World.cell?_setCell_far _ ⟨gx, 1, none⟩ _ (.int .u64 (lo A)) (by simp; omega)).trans ((World.cell?_setCell_far _ ⟨gx, 0, none⟩ _ (.int .u64 (hi A)) (by simp; omega)).trans hHeld.2.1)); (have s2 := (World.cell?_setCell_far _ ⟨gx, 1, none⟩ _ (.int .u64 (lo A)) (by simp; omega)).trans ((World.cell?_setCell_far _ ⟨gx, 0, none⟩ _ (.int .u64 (hi A)) (by simp; omega)).trans hHeld.2.2.1)); (have s3 := (World.cell?_setCell_far _ ⟨gx, 1, none⟩ _ (.int .u64 (lo A)) (by simp; omega)).trans ((World.cell?_setCell_far _ ⟨gx, 0, none⟩ _ (.int .u64 (hi A)) (by simp; omega)).trans hHeld.2.2.2.1)); (have s4 := (hHeld.2.2.2.2.setCell (p := ⟨gx, 0, none⟩) mx (.int .u64 (hi A))).setCell (p := ⟨gx, 1, none⟩) mx (.int .u64 (lo A))); generalize (wq.setCell ⟨gx, 0, none⟩ (.int .u64 (hi A))).setCell ⟨gx, 1, none⟩ (.int .u64 (lo A)) = wn at *)
        refine hK.out _ _ ?hSr17_44_6 (fun hHeld2 => ?_)
        case hSr17_44_6 => (exact ⟨s0, s1, s2, s3, s4⟩)
        clear hK K hHeld
        have hHeld := hHeld2
        clear hHeld2
        rename World => wq
        (try simp only [Act.put, List.setIfInBounds_toArray, List.set_cons_zero, List.set_cons_succ])
        refine wpAnyH_ready (rs := [7]) (by kernel_rfl) (by simp) ?_
        refine AllReadyH.cons (o := { dst := none, op := Go.Op.store 27 (Go.Operand.tmp 8) (Go.Operand.tmp 12), type := 0, pos := _, after := #[{ on := 5, ground := Go.Ground.data }, { on := 3, ground := Go.Ground.data }, { on := 6, ground := Go.Ground.chain }, { on := 0, ground := Go.Ground.phase }, { on := 1, ground := Go.Ground.phase }, { on := 2, ground := Go.Ground.phase }, { on := 3, ground := Go.Ground.phase }, { on := 4, ground := Go.Ground.phase }, { on := 5, ground := Go.Ground.phase }, { on := 6, ground := Go.Ground.phase }], guard := none }) rfl (fun K hK => ?_) AllReadyH.nil
        ((have c0 := Ry.cell 0); (have c1 := Ry.cell 1); (simp at c0 c1); (have f0 := Ry.frozen 0); (have f1 := Ry.frozen 1); go_simp; clear c0 c1 f0 f1; (have Ryn := (Ry.set 0 (.int .u64 (hi B))).set 1 (.int .u64 (lo B))); (simp at Ryn); clear Ry; (first | (replace Rx := (Rx.set_far ⟨gy, 0, none⟩ (.int .u64 (hi B)) hne).set_far ⟨gy, 1, none⟩ (.int .u64 (lo B)) hne) | (replace Rx := (Rx.set_far ⟨gy, 0, none⟩ (.int .u64 (hi B)) hne.symm).set_far ⟨gy, 1, none⟩ (.int .u64 (lo B)) hne.symm)); (have Ry := Ryn); clear Ryn; (have s0 := (World.cell?_setCell_far _ ⟨gy, 1, none⟩ _ (.int .u64 (lo B)) (by simp; omega)).trans ((World.cell?_setCell_far _ ⟨gy, 0, none⟩ _ (.int .u64 (hi B)) (by simp; omega)).trans hHeld.1)); (have s1 := (World.cell?_setCell_far _ ⟨gy, 1, none⟩ _ (.int .u64 (lo B)) (by simp; omega)).trans ((World.cell?_setCell_far _ ⟨gy, 0, none⟩ _ (.int .u64 (hi B)) (by simp; omega)).trans hHeld.2.1)); (have s2 := (World.cell?_setCell_far _ ⟨gy, 1, none⟩ _ (.int .u64 (lo B)) (by simp; omega)).trans ((World.cell?_setCell_far _ ⟨gy, 0, none⟩ _ (.int .u64 (hi B)) (by simp; omega)).trans hHeld.2.2.1)); (have s3 := (World.cell?_setCell_far _ ⟨gy, 1, none⟩ _ (.int .u64 (lo B)) (by simp; omega)).trans ((World.cell?_setCell_far _ ⟨gy, 0, none⟩ _ (.int .u64 (hi B)) (by simp; omega)).trans hHeld.2.2.2.1)); (have s4 := (hHeld.2.2.2.2.setCell (p := ⟨gy, 0, none⟩) my (.int .u64 (hi B))).setCell (p := ⟨gy, 1, none⟩) my (.int .u64 (lo B))); generalize (wq.setCell ⟨gy, 0, none⟩ (.int .u64 (hi B))).setCell ⟨gy, 1, none⟩ (.int .u64 (lo B)) = wn at *)
        refine hK.out _ _ ?hSr17_45_7 (fun hHeld2 => ?_)
        case hSr17_45_7 => (exact ⟨s0, s1, s2, s3, s4⟩)
        clear hK K hHeld
        have hHeld := hHeld2
        clear hHeld2
        rename World => wq
        (try simp only [Act.put, List.setIfInBounds_toArray, List.set_cons_zero, List.set_cons_succ])
        refine wpAnyH_done (by kernel_rfl) ?_ _
        (go_wp2_with fail; go_meet; exact ⟨gx, gy, rfl, rfl, hHeld.1, hHeld.2.1, hHeld.2.2.1, hHeld.2.2.2.1, (by simpa using Rx.cell 0), (by simpa using Rx.cell 1), (by simpa using Ry.cell 0), (by simpa using Ry.cell 1), hHeld.2.2.2.2⟩)
    refine AllReadyH.cons (o := { dst := some 8, op := Go.Op.alloc 27, type := 0, pos := _, after := #[], guard := none }) rfl (fun K hK => ?_) AllReadyH.nil
    · (go_simp; (have ly : w.heap.size + 1 < wq.heap.size := World.block_lt_of_cell? _ _ hHeld.2.2.1); (have my : w.heap.size ≤ wq.heap.size := hHeld.2.2.2.2.size); (try have hne := Nat.ne_of_lt Rx.lt); (have Ry := Row.new wq #[.int .u64 0, .int .u64 0] 27); (have hb : Below wq.heap.size wq (wq.alloc (.cells #[.int .u64 0, .int .u64 0] 27)) := (Below.refl _ _).alloc (Nat.le_refl _) _); (have s0 := cell_later hb hHeld.1); (have s1 := cell_later hb hHeld.2.1); (have s2 := cell_later hb hHeld.2.2.1); (have s3 := cell_later hb hHeld.2.2.2.1); (have s4 := below_step hHeld.2.2.2.2 hb); (try replace Rx := Rx.later hb); clear hb; generalize wq.alloc (.cells #[.int .u64 0, .int .u64 0] 27) = wn at *; generalize wq.heap.size = gy at *)
      refine hK.out _ _ ?hSr17_46_5 (fun hHeld2 => ?_)
      case hSr17_46_5 => (exact ⟨s0, s1, s2, s3, s4⟩)
      clear hK K hHeld
      have hHeld := hHeld2
      clear hHeld2
      rename World => wq
      (try simp only [Act.put, List.setIfInBounds_toArray, List.set_cons_zero, List.set_cons_succ])
      refine wpAnyH_ready (rs := [1, 4]) (by kernel_rfl) (by simp) ?_
      refine AllReadyH.cons (o := { dst := some 10, op := Go.Op.call { callee := Go.Callee.value (Go.Operand.func 14), args := #[Go.Operand.tmp 9], argTypes := #[24] }, type := 27, pos := _, after := #[{ on := 0, ground := Go.Ground.data }], guard := none }) rfl (fun K hK => ?_) ?_
      · go_simp
        ((refine (as_h _ _).mono ?_); (rintro e wn ⟨rfl, hb⟩); (try replace Rx := Rx.later hb); (try replace Ry := Ry.later hb))
        go_wp2_with fail
        refine hK.out _ _ ?hSr17_47_1 (fun hHeld2 => ?_)
        case hSr17_47_1 => (first | exact ⟨a0, a1, b0, b1, hbT.drew⟩ | exact ⟨cell_later hb hHeld.1, cell_later hb hHeld.2.1, cell_later hb hHeld.2.2.1, cell_later hb hHeld.2.2.2.1, below_step hHeld.2.2.2.2 hb⟩)
        clear hK K hHeld
        have hHeld := hHeld2
        clear hHeld2
        rename World => wq
        (try simp only [Act.put, List.setIfInBounds_toArray, List.set_cons_zero, List.set_cons_succ])
        refine wpAnyH_ready (rs := [3, 4]) (by kernel_rfl) (by simp) ?_
        refine AllReadyH.cons (o := { dst := some 12, op := Go.Op.call { callee := Go.Callee.value (Go.Operand.func 14), args := #[Go.Operand.tmp 11], argTypes := #[24] }, type := 27, pos := _, after := #[{ on := 2, ground := Go.Ground.data }, { on := 1, ground := Go.Ground.chain }], guard := none }) rfl (fun K hK => ?_) ?_
        · go_simp
          ((refine (as_h _ _).mono ?_); (rintro e wn ⟨rfl, hb⟩); (try replace Rx := Rx.later hb); (try replace Ry := Ry.later hb))
          go_wp2_with fail
          refine hK.out _ _ ?hSr17_48_3 (fun hHeld2 => ?_)
          case hSr17_48_3 => (first | exact ⟨a0, a1, b0, b1, hbT.drew⟩ | exact ⟨cell_later hb hHeld.1, cell_later hb hHeld.2.1, cell_later hb hHeld.2.2.1, cell_later hb hHeld.2.2.2.1, below_step hHeld.2.2.2.2 hb⟩)
          clear hK K hHeld
          have hHeld := hHeld2
          clear hHeld2
          rename World => wq
          (try simp only [Act.put, List.setIfInBounds_toArray, List.set_cons_zero, List.set_cons_succ])
          refine wpAnyH_ready (rs := [4]) (by kernel_rfl) (by simp) ?_
          refine AllReadyH.cons (o := { dst := some 7, op := Go.Op.alloc 27, type := 0, pos := _, after := #[], guard := none }) rfl (fun K hK => ?_) AllReadyH.nil
          (go_simp; (have lx : w.heap.size + 1 < wq.heap.size := World.block_lt_of_cell? _ _ hHeld.2.2.1); (have mx : w.heap.size ≤ wq.heap.size := hHeld.2.2.2.2.size); (try have hne := Nat.ne_of_lt Ry.lt); (have Rx := Row.new wq #[.int .u64 0, .int .u64 0] 27); (have hb : Below wq.heap.size wq (wq.alloc (.cells #[.int .u64 0, .int .u64 0] 27)) := (Below.refl _ _).alloc (Nat.le_refl _) _); (have s0 := cell_later hb hHeld.1); (have s1 := cell_later hb hHeld.2.1); (have s2 := cell_later hb hHeld.2.2.1); (have s3 := cell_later hb hHeld.2.2.2.1); (have s4 := below_step hHeld.2.2.2.2 hb); (try replace Ry := Ry.later hb); clear hb; generalize wq.alloc (.cells #[.int .u64 0, .int .u64 0] 27) = wn at *; generalize wq.heap.size = gx at *)
          refine hK.out _ _ ?hSr17_49_4 (fun hHeld2 => ?_)
          case hSr17_49_4 => (exact ⟨s0, s1, s2, s3, s4⟩)
          clear hK K hHeld
          have hHeld := hHeld2
          clear hHeld2
          rename World => wq
          (try simp only [Act.put, List.setIfInBounds_toArray, List.set_cons_zero, List.set_cons_succ])
          refine wpAnyH_ready (rs := [6]) (by kernel_rfl) (by simp) ?_
          refine AllReadyH.cons (o := { dst := none, op := Go.Op.store 27 (Go.Operand.tmp 7) (Go.Operand.tmp 10), type := 0, pos := _, after := #[{ on := 4, ground := Go.Ground.data }, { on := 1, ground := Go.Ground.data }, { on := 3, ground := Go.Ground.chain }, { on := 0, ground := Go.Ground.phase }, { on := 1, ground := Go.Ground.phase }, { on := 2, ground := Go.Ground.textOnly Go.Departure.lateStores }, { on := 3, ground := Go.Ground.textOnly Go.Departure.lateStoresUnsure }, { on := 4, ground := Go.Ground.phase }, { on := 5, ground := Go.Ground.phase }], guard := none }) rfl (fun K hK => ?_) AllReadyH.nil
          ((have c0 := Rx.cell 0); (have c1 := Rx.cell 1); (simp at c0 c1); (have f0 := Rx.frozen 0); (have f1 := Rx.frozen 1); go_simp; clear c0 c1 f0 f1; (have Rxn := (Rx.set 0 (.int .u64 (hi A))).set 1 (.int .u64 (lo A))); (simp at Rxn); clear Rx; (first | (replace Ry := (Ry.set_far ⟨gx, 0, none⟩ (.int .u64 (hi A)) hne).set_far ⟨gx, 1, none⟩ (.int .u64 (lo A)) hne) | (replace Ry := (Ry.set_far ⟨gx, 0, none⟩ (.int .u64 (hi A)) hne.symm).set_far ⟨gx, 1, none⟩ (.int .u64 (lo A)) hne.symm)); (have Rx := Rxn); clear Rxn; (have s0 := (World.cell?_setCell_far _ ⟨gx, 1, none⟩ _ (.int .u64 (lo A)) (by simp; omega)).trans ((World.cell?_setCell_far _ ⟨gx, 0, none⟩ _ (.int .u64 (hi A)) (by simp; omega)).trans hHeld.1)); (have s1 := (World.cell?_setCell_far _ ⟨gx, 1, none⟩ _ (.int .u64 (lo A)) (by simp; omega)).trans ((World.cell?_setCell_far _ ⟨gx, 0, none⟩ _ (.int .u64 (hi A)) (by simp; omega)).trans hHeld.2.1)); (have s2 := (World.cell?_setCell_far _ ⟨gx, 1, none⟩ _ (.int .u64 (lo A)) (by simp; omega)).trans ((World.cell?_setCell_far _ ⟨gx, 0, none⟩ _ (.int .u64 (hi A)) (by simp; omega)).trans hHeld.2.2.1)); (have s3 := (World.cell?_setCell_far _ ⟨gx, 1, none⟩ _ (.int .u64 (lo A)) (by simp; omega)).trans ((World.cell?_setCell_far _ ⟨gx, 0, none⟩ _ (.int .u64 (hi A)) (by simp; omega)).trans hHeld.2.2.2.1)); (have s4 := (hHeld.2.2.2.2.setCell (p := ⟨gx, 0, none⟩) mx (.int .u64 (hi A))).setCell (p := ⟨gx, 1, none⟩) mx (.int .u64 (lo A))); generalize (wq.setCell ⟨gx, 0, none⟩ (.int .u64 (hi A))).setCell ⟨gx, 1, none⟩ (.int .u64 (lo A)) = wn at *)
          refine hK.out _ _ ?hSr17_50_6 (fun hHeld2 => ?_)
          case hSr17_50_6 => (exact ⟨s0, s1, s2, s3, s4⟩)
          clear hK K hHeld
          have hHeld := hHeld2
          clear hHeld2
          rename World => wq
          (try simp only [Act.put, List.setIfInBounds_toArray, List.set_cons_zero, List.set_cons_succ])
          refine wpAnyH_ready (rs := [7]) (by kernel_rfl) (by simp) ?_
          refine AllReadyH.cons (o := { dst := none, op := Go.Op.store 27 (Go.Operand.tmp 8) (Go.Operand.tmp 12), type := 0, pos := _, after := #[{ on := 5, ground := Go.Ground.data }, { on := 3, ground := Go.Ground.data }, { on := 6, ground := Go.Ground.chain }, { on := 0, ground := Go.Ground.phase }, { on := 1, ground := Go.Ground.phase }, { on := 2, ground := Go.Ground.phase }, { on := 3, ground := Go.Ground.phase }, { on := 4, ground := Go.Ground.phase }, { on := 5, ground := Go.Ground.phase }, { on := 6, ground := Go.Ground.phase }], guard := none }) rfl (fun K hK => ?_) AllReadyH.nil
          ((have c0 := Ry.cell 0); (have c1 := Ry.cell 1); (simp at c0 c1); (have f0 := Ry.frozen 0); (have f1 := Ry.frozen 1); go_simp; clear c0 c1 f0 f1; (have Ryn := (Ry.set 0 (.int .u64 (hi B))).set 1 (.int .u64 (lo B))); (simp at Ryn); clear Ry; (first | (replace Rx := (Rx.set_far ⟨gy, 0, none⟩ (.int .u64 (hi B)) hne).set_far ⟨gy, 1, none⟩ (.int .u64 (lo B)) hne) | (replace Rx := (Rx.set_far ⟨gy, 0, none⟩ (.int .u64 (hi B)) hne.symm).set_far ⟨gy, 1, none⟩ (.int .u64 (lo B)) hne.symm)); (have Ry := Ryn); clear Ryn; (have s0 := (World.cell?_setCell_far _ ⟨gy, 1, none⟩ _ (.int .u64 (lo B)) (by simp; omega)).trans ((World.cell?_setCell_far _ ⟨gy, 0, none⟩ _ (.int .u64 (hi B)) (by simp; omega)).trans hHeld.1)); (have s1 := (World.cell?_setCell_far _ ⟨gy, 1, none⟩ _ (.int .u64 (lo B)) (by simp; omega)).trans ((World.cell?_setCell_far _ ⟨gy, 0, none⟩ _ (.int .u64 (hi B)) (by simp; omega)).trans hHeld.2.1)); (have s2 := (World.cell?_setCell_far _ ⟨gy, 1, none⟩ _ (.int .u64 (lo B)) (by simp; omega)).trans ((World.cell?_setCell_far _ ⟨gy, 0, none⟩ _ (.int .u64 (hi B)) (by simp; omega)).trans hHeld.2.2.1)); (have s3 := (World.cell?_setCell_far _ ⟨gy, 1, none⟩ _ (.int .u64 (lo B)) (by simp; omega)).trans ((World.cell?_setCell_far _ ⟨gy, 0, none⟩ _ (.int .u64 (hi B)) (by simp; omega)).trans hHeld.2.2.2.1)); (have s4 := (hHeld.2.2.2.2.setCell (p := ⟨gy, 0, none⟩) my (.int .u64 (hi B))).setCell (p := ⟨gy, 1, none⟩) my (.int .u64 (lo B))); generalize (wq.setCell ⟨gy, 0, none⟩ (.int .u64 (hi B))).setCell ⟨gy, 1, none⟩ (.int .u64 (lo B)) = wn at *)
          refine hK.out _ _ ?hSr17_51_7 (fun hHeld2 => ?_)
          case hSr17_51_7 => (exact ⟨s0, s1, s2, s3, s4⟩)
          clear hK K hHeld
          have hHeld := hHeld2
          clear hHeld2
          rename World => wq
          (try simp only [Act.put, List.setIfInBounds_toArray, List.set_cons_zero, List.set_cons_succ])
          refine wpAnyH_done (by kernel_rfl) ?_ _
          (go_wp2_with fail; go_meet; exact ⟨gx, gy, rfl, rfl, hHeld.1, hHeld.2.1, hHeld.2.2.1, hHeld.2.2.2.1, (by simpa using Rx.cell 0), (by simpa using Rx.cell 1), (by simpa using Ry.cell 0), (by simpa using Ry.cell 1), hHeld.2.2.2.2⟩)
        refine AllReadyH.cons (o := { dst := some 7, op := Go.Op.alloc 27, type := 0, pos := _, after := #[], guard := none }) rfl (fun K hK => ?_) AllReadyH.nil
        · (go_simp; (have lx : w.heap.size + 1 < wq.heap.size := World.block_lt_of_cell? _ _ hHeld.2.2.1); (have mx : w.heap.size ≤ wq.heap.size := hHeld.2.2.2.2.size); (try have hne := Nat.ne_of_lt Ry.lt); (have Rx := Row.new wq #[.int .u64 0, .int .u64 0] 27); (have hb : Below wq.heap.size wq (wq.alloc (.cells #[.int .u64 0, .int .u64 0] 27)) := (Below.refl _ _).alloc (Nat.le_refl _) _); (have s0 := cell_later hb hHeld.1); (have s1 := cell_later hb hHeld.2.1); (have s2 := cell_later hb hHeld.2.2.1); (have s3 := cell_later hb hHeld.2.2.2.1); (have s4 := below_step hHeld.2.2.2.2 hb); (try replace Ry := Ry.later hb); clear hb; generalize wq.alloc (.cells #[.int .u64 0, .int .u64 0] 27) = wn at *; generalize wq.heap.size = gx at *)
          refine hK.out _ _ ?hSr17_52_4 (fun hHeld2 => ?_)
          case hSr17_52_4 => (exact ⟨s0, s1, s2, s3, s4⟩)
          clear hK K hHeld
          have hHeld := hHeld2
          clear hHeld2
          rename World => wq
          (try simp only [Act.put, List.setIfInBounds_toArray, List.set_cons_zero, List.set_cons_succ])
          refine wpAnyH_ready (rs := [3]) (by kernel_rfl) (by simp) ?_
          refine AllReadyH.cons (o := { dst := some 12, op := Go.Op.call { callee := Go.Callee.value (Go.Operand.func 14), args := #[Go.Operand.tmp 11], argTypes := #[24] }, type := 27, pos := _, after := #[{ on := 2, ground := Go.Ground.data }, { on := 1, ground := Go.Ground.chain }], guard := none }) rfl (fun K hK => ?_) AllReadyH.nil
          go_simp
          ((refine (as_h _ _).mono ?_); (rintro e wn ⟨rfl, hb⟩); (try replace Rx := Rx.later hb); (try replace Ry := Ry.later hb))
          go_wp2_with fail
          refine hK.out _ _ ?hSr17_53_3 (fun hHeld2 => ?_)
          case hSr17_53_3 => (first | exact ⟨a0, a1, b0, b1, hbT.drew⟩ | exact ⟨cell_later hb hHeld.1, cell_later hb hHeld.2.1, cell_later hb hHeld.2.2.1, cell_later hb hHeld.2.2.2.1, below_step hHeld.2.2.2.2 hb⟩)
          clear hK K hHeld
          have hHeld := hHeld2
          clear hHeld2
          rename World => wq
          (try simp only [Act.put, List.setIfInBounds_toArray, List.set_cons_zero, List.set_cons_succ])
          refine wpAnyH_ready (rs := [6]) (by kernel_rfl) (by simp) ?_
          refine AllReadyH.cons (o := { dst := none, op := Go.Op.store 27 (Go.Operand.tmp 7) (Go.Operand.tmp 10), type := 0, pos := _, after := #[{ on := 4, ground := Go.Ground.data }, { on := 1, ground := Go.Ground.data }, { on := 3, ground := Go.Ground.chain }, { on := 0, ground := Go.Ground.phase }, { on := 1, ground := Go.Ground.phase }, { on := 2, ground := Go.Ground.textOnly Go.Departure.lateStores }, { on := 3, ground := Go.Ground.textOnly Go.Departure.lateStoresUnsure }, { on := 4, ground := Go.Ground.phase }, { on := 5, ground := Go.Ground.phase }], guard := none }) rfl (fun K hK => ?_) AllReadyH.nil
          ((have c0 := Rx.cell 0); (have c1 := Rx.cell 1); (simp at c0 c1); (have f0 := Rx.frozen 0); (have f1 := Rx.frozen 1); go_simp; clear c0 c1 f0 f1; (have Rxn := (Rx.set 0 (.int .u64 (hi A))).set 1 (.int .u64 (lo A))); (simp at Rxn); clear Rx; (first | (replace Ry := (Ry.set_far ⟨gx, 0, none⟩ (.int .u64 (hi A)) hne).set_far ⟨gx, 1, none⟩ (.int .u64 (lo A)) hne) | (replace Ry := (Ry.set_far ⟨gx, 0, none⟩ (.int .u64 (hi A)) hne.symm).set_far ⟨gx, 1, none⟩ (.int .u64 (lo A)) hne.symm)); (have Rx := Rxn); clear Rxn; (have s0 := (World.cell?_setCell_far _ ⟨gx, 1, none⟩ _ (.int .u64 (lo A)) (by simp; omega)).trans ((World.cell?_setCell_far _ ⟨gx, 0, none⟩ _ (.int .u64 (hi A)) (by simp; omega)).trans hHeld.1)); (have s1 := (World.cell?_setCell_far _ ⟨gx, 1, none⟩ _ (.int .u64 (lo A)) (by simp; omega)).trans ((World.cell?_setCell_far _ ⟨gx, 0, none⟩ _ (.int .u64 (hi A)) (by simp; omega)).trans hHeld.2.1)); (have s2 := (World.cell?_setCell_far _ ⟨gx, 1, none⟩ _ (.int .u64 (lo A)) (by simp; omega)).trans ((World.cell?_setCell_far _ ⟨gx, 0, none⟩ _ (.int .u64 (hi A)) (by simp; omega)).trans hHeld.2.2.1)); (have s3 := (World.cell?_setCell_far _ ⟨gx, 1, none⟩ _ (.int .u64 (lo A)) (by simp; omega)).trans ((World.cell?_setCell_far _ ⟨gx, 0, none⟩ _ (.int .u64 (hi A)) (by simp; omega)).trans hHeld.2.2.2.1)); (have s4 := (hHeld.2.2.2.2.setCell (p := ⟨gx, 0, none⟩) mx (.int .u64 (hi A))).setCell (p := ⟨gx, 1, none⟩) mx (.int .u64 (lo A))); generalize (wq.setCell ⟨gx, 0, none⟩ (.int .u64 (hi A))).setCell ⟨gx, 1, none⟩ (.int .u64 (lo A)) = wn at *)
          refine hK.out _ _ ?hSr17_54_6 (fun hHeld2 => ?_)
          case hSr17_54_6 => (exact ⟨s0, s1, s2, s3, s4⟩)
          clear hK K hHeld
          have hHeld := hHeld2
          clear hHeld2
          rename World => wq
          (try simp only [Act.put, List.setIfInBounds_toArray, List.set_cons_zero, List.set_cons_succ])
          refine wpAnyH_ready (rs := [7]) (by kernel_rfl) (by simp) ?_
          refine AllReadyH.cons (o := { dst := none, op := Go.Op.store 27 (Go.Operand.tmp 8) (Go.Operand.tmp 12), type := 0, pos := _, after := #[{ on := 5, ground := Go.Ground.data }, { on := 3, ground := Go.Ground.data }, { on := 6, ground := Go.Ground.chain }, { on := 0, ground := Go.Ground.phase }, { on := 1, ground := Go.Ground.phase }, { on := 2, ground := Go.Ground.phase }, { on := 3, ground := Go.Ground.phase }, { on := 4, ground := Go.Ground.phase }, { on := 5, ground := Go.Ground.phase }, { on := 6, ground := Go.Ground.phase }], guard := none }) rfl (fun K hK => ?_) AllReadyH.nil
          ((have c0 := Ry.cell 0); (have c1 := Ry.cell 1); (simp at c0 c1); (have f0 := Ry.frozen 0); (have f1 := Ry.frozen 1); go_simp; clear c0 c1 f0 f1; (have Ryn := (Ry.set 0 (.int .u64 (hi B))).set 1 (.int .u64 (lo B))); (simp at Ryn); clear Ry; (first | (replace Rx := (Rx.set_far ⟨gy, 0, none⟩ (.int .u64 (hi B)) hne).set_far ⟨gy, 1, none⟩ (.int .u64 (lo B)) hne) | (replace Rx := (Rx.set_far ⟨gy, 0, none⟩ (.int .u64 (hi B)) hne.symm).set_far ⟨gy, 1, none⟩ (.int .u64 (lo B)) hne.symm)); (have Ry := Ryn); clear Ryn; (have s0 := (World.cell?_setCell_far _ ⟨gy, 1, none⟩ _ (.int .u64 (lo B)) (by simp; omega)).trans ((World.cell?_setCell_far _ ⟨gy, 0, none⟩ _ (.int .u64 (hi B)) (by simp; omega)).trans hHeld.1)); (have s1 := (World.cell?_setCell_far _ ⟨gy, 1, none⟩ _ (.int .u64 (lo B)) (by simp; omega)).trans ((World.cell?_setCell_far _ ⟨gy, 0, none⟩ _ (.int .u64 (hi B)) (by simp; omega)).trans hHeld.2.1)); (have s2 := (World.cell?_setCell_far _ ⟨gy, 1, none⟩ _ (.int .u64 (lo B)) (by simp; omega)).trans ((World.cell?_setCell_far _ ⟨gy, 0, none⟩ _ (.int .u64 (hi B)) (by simp; omega)).trans hHeld.2.2.1)); (have s3 := (World.cell?_setCell_far _ ⟨gy, 1, none⟩ _ (.int .u64 (lo B)) (by simp; omega)).trans ((World.cell?_setCell_far _ ⟨gy, 0, none⟩ _ (.int .u64 (hi B)) (by simp; omega)).trans hHeld.2.2.2.1)); (have s4 := (hHeld.2.2.2.2.setCell (p := ⟨gy, 0, none⟩) my (.int .u64 (hi B))).setCell (p := ⟨gy, 1, none⟩) my (.int .u64 (lo B))); generalize (wq.setCell ⟨gy, 0, none⟩ (.int .u64 (hi B))).setCell ⟨gy, 1, none⟩ (.int .u64 (lo B)) = wn at *)
          refine hK.out _ _ ?hSr17_55_7 (fun hHeld2 => ?_)
          case hSr17_55_7 => (exact ⟨s0, s1, s2, s3, s4⟩)
          clear hK K hHeld
          have hHeld := hHeld2
          clear hHeld2
          rename World => wq
          (try simp only [Act.put, List.setIfInBounds_toArray, List.set_cons_zero, List.set_cons_succ])
          refine wpAnyH_done (by kernel_rfl) ?_ _
          (go_wp2_with fail; go_meet; exact ⟨gx, gy, rfl, rfl, hHeld.1, hHeld.2.1, hHeld.2.2.1, hHeld.2.2.2.1, (by simpa using Rx.cell 0), (by simpa using Rx.cell 1), (by simpa using Ry.cell 0), (by simpa using Ry.cell 1), hHeld.2.2.2.2⟩)
      refine AllReadyH.cons (o := { dst := some 7, op := Go.Op.alloc 27, type := 0, pos := _, after := #[], guard := none }) rfl (fun K hK => ?_) AllReadyH.nil
      · (go_simp; (have lx : w.heap.size + 1 < wq.heap.size := World.block_lt_of_cell? _ _ hHeld.2.2.1); (have mx : w.heap.size ≤ wq.heap.size := hHeld.2.2.2.2.size); (try have hne := Nat.ne_of_lt Ry.lt); (have Rx := Row.new wq #[.int .u64 0, .int .u64 0] 27); (have hb : Below wq.heap.size wq (wq.alloc (.cells #[.int .u64 0, .int .u64 0] 27)) := (Below.refl _ _).alloc (Nat.le_refl _) _); (have s0 := cell_later hb hHeld.1); (have s1 := cell_later hb hHeld.2.1); (have s2 := cell_later hb hHeld.2.2.1); (have s3 := cell_later hb hHeld.2.2.2.1); (have s4 := below_step hHeld.2.2.2.2 hb); (try replace Ry := Ry.later hb); clear hb; generalize wq.alloc (.cells #[.int .u64 0, .int .u64 0] 27) = wn at *; generalize wq.heap.size = gx at *)
        refine hK.out _ _ ?hSr17_56_4 (fun hHeld2 => ?_)
        case hSr17_56_4 => (exact ⟨s0, s1, s2, s3, s4⟩)
        clear hK K hHeld
        have hHeld := hHeld2
        clear hHeld2
        rename World => wq
        (try simp only [Act.put, List.setIfInBounds_toArray, List.set_cons_zero, List.set_cons_succ])
        refine wpAnyH_ready (rs := [1]) (by kernel_rfl) (by simp) ?_
        refine AllReadyH.cons (o := { dst := some 10, op := Go.Op.call { callee := Go.Callee.value (Go.Operand.func 14), args := #[Go.Operand.tmp 9], argTypes := #[24] }, type := 27, pos := _, after := #[{ on := 0, ground := Go.Ground.data }], guard := none }) rfl (fun K hK => ?_) AllReadyH.nil
        go_simp
        ((refine (as_h _ _).mono ?_); (rintro e wn ⟨rfl, hb⟩); (try replace Rx := Rx.later hb); (try replace Ry := Ry.later hb))
        go_wp2_with fail
        refine hK.out _ _ ?hSr17_57_1 (fun hHeld2 => ?_)
        case hSr17_57_1 => (first | exact ⟨a0, a1, b0, b1, hbT.drew⟩ | exact ⟨cell_later hb hHeld.1, cell_later hb hHeld.2.1, cell_later hb hHeld.2.2.1, cell_later hb hHeld.2.2.2.1, below_step hHeld.2.2.2.2 hb⟩)
        clear hK K hHeld
        have hHeld := hHeld2
        clear hHeld2
        rename World => wq
        (try simp only [Act.put, List.setIfInBounds_toArray, List.set_cons_zero, List.set_cons_succ])
        refine wpAnyH_ready (rs := [3]) (by kernel_rfl) (by simp) ?_
        refine AllReadyH.cons (o := { dst := some 12, op := Go.Op.call { callee := Go.Callee.value (Go.Operand.func 14), args := #[Go.Operand.tmp 11], argTypes := #[24] }, type := 27, pos := _, after := #[{ on := 2, ground := Go.Ground.data }, { on := 1, ground := Go.Ground.chain }], guard := none }) rfl (fun K hK => ?_) AllReadyH.nil
        go_simp
        ((refine (as_h _ _).mono ?_); (rintro e wn ⟨rfl, hb⟩); (try replace Rx := Rx.later hb); (try replace Ry := Ry.later hb))
        go_wp2_with fail
        refine hK.out _ _ ?hSr17_58_3 (fun hHeld2 => ?_)
        case hSr17_58_3 => (first | exact ⟨a0, a1, b0, b1, hbT.drew⟩ | exact ⟨cell_later hb hHeld.1, cell_later hb hHeld.2.1, cell_later hb hHeld.2.2.1, cell_later hb hHeld.2.2.2.1, below_step hHeld.2.2.2.2 hb⟩)
        clear hK K hHeld
        have hHeld := hHeld2
        clear hHeld2
        rename World => wq
        (try simp only [Act.put, List.setIfInBounds_toArray, List.set_cons_zero, List.set_cons_succ])
        refine wpAnyH_ready (rs := [6]) (by kernel_rfl) (by simp) ?_
        refine AllReadyH.cons (o := { dst := none, op := Go.Op.store 27 (Go.Operand.tmp 7) (Go.Operand.tmp 10), type := 0, pos := _, after := #[{ on := 4, ground := Go.Ground.data }, { on := 1, ground := Go.Ground.data }, { on := 3, ground := Go.Ground.chain }, { on := 0, ground := Go.Ground.phase }, { on := 1, ground := Go.Ground.phase }, { on := 2, ground := Go.Ground.textOnly Go.Departure.lateStores }, { on := 3, ground := Go.Ground.textOnly Go.Departure.lateStoresUnsure }, { on := 4, ground := Go.Ground.phase }, { on := 5, ground := Go.Ground.phase }], guard := none }) rfl (fun K hK => ?_) AllReadyH.nil
        ((have c0 := Rx.cell 0); (have c1 := Rx.cell 1); (simp at c0 c1); (have f0 := Rx.frozen 0); (have f1 := Rx.frozen 1); go_simp; clear c0 c1 f0 f1; (have Rxn := (Rx.set 0 (.int .u64 (hi A))).set 1 (.int .u64 (lo A))); (simp at Rxn); clear Rx; (first | (replace Ry := (Ry.set_far ⟨gx, 0, none⟩ (.int .u64 (hi A)) hne).set_far ⟨gx, 1, none⟩ (.int .u64 (lo A)) hne) | (replace Ry := (Ry.set_far ⟨gx, 0, none⟩ (.int .u64 (hi A)) hne.symm).set_far ⟨gx, 1, none⟩ (.int .u64 (lo A)) hne.symm)); (have Rx := Rxn); clear Rxn; (have s0 := (World.cell?_setCell_far _ ⟨gx, 1, none⟩ _ (.int .u64 (lo A)) (by simp; omega)).trans ((World.cell?_setCell_far _ ⟨gx, 0, none⟩ _ (.int .u64 (hi A)) (by simp; omega)).trans hHeld.1)); (have s1 := (World.cell?_setCell_far _ ⟨gx, 1, none⟩ _ (.int .u64 (lo A)) (by simp; omega)).trans ((World.cell?_setCell_far _ ⟨gx, 0, none⟩ _ (.int .u64 (hi A)) (by simp; omega)).trans hHeld.2.1)); (have s2 := (World.cell?_setCell_far _ ⟨gx, 1, none⟩ _ (.int .u64 (lo A)) (by simp; omega)).trans ((World.cell?_setCell_far _ ⟨gx, 0, none⟩ _ (.int .u64 (hi A)) (by simp; omega)).trans hHeld.2.2.1)); (have s3 := (World.cell?_setCell_far _ ⟨gx, 1, none⟩ _ (.int .u64 (lo A)) (by simp; omega)).trans ((World.cell?_setCell_far _ ⟨gx, 0, none⟩ _ (.int .u64 (hi A)) (by simp; omega)).trans hHeld.2.2.2.1)); (have s4 := (hHeld.2.2.2.2.setCell (p := ⟨gx, 0, none⟩) mx (.int .u64 (hi A))).setCell (p := ⟨gx, 1, none⟩) mx (.int .u64 (lo A))); generalize (wq.setCell ⟨gx, 0, none⟩ (.int .u64 (hi A))).setCell ⟨gx, 1, none⟩ (.int .u64 (lo A)) = wn at *)
        refine hK.out _ _ ?hSr17_59_6 (fun hHeld2 => ?_)
        case hSr17_59_6 => (exact ⟨s0, s1, s2, s3, s4⟩)
        clear hK K hHeld
        have hHeld := hHeld2
        clear hHeld2
        rename World => wq
        (try simp only [Act.put, List.setIfInBounds_toArray, List.set_cons_zero, List.set_cons_succ])
        refine wpAnyH_ready (rs := [7]) (by kernel_rfl) (by simp) ?_
        refine AllReadyH.cons (o := { dst := none, op := Go.Op.store 27 (Go.Operand.tmp 8) (Go.Operand.tmp 12), type := 0, pos := _, after := #[{ on := 5, ground := Go.Ground.data }, { on := 3, ground := Go.Ground.data }, { on := 6, ground := Go.Ground.chain }, { on := 0, ground := Go.Ground.phase }, { on := 1, ground := Go.Ground.phase }, { on := 2, ground := Go.Ground.phase }, { on := 3, ground := Go.Ground.phase }, { on := 4, ground := Go.Ground.phase }, { on := 5, ground := Go.Ground.phase }, { on := 6, ground := Go.Ground.phase }], guard := none }) rfl (fun K hK => ?_) AllReadyH.nil
        ((have c0 := Ry.cell 0); (have c1 := Ry.cell 1); (simp at c0 c1); (have f0 := Ry.frozen 0); (have f1 := Ry.frozen 1); go_simp; clear c0 c1 f0 f1; (have Ryn := (Ry.set 0 (.int .u64 (hi B))).set 1 (.int .u64 (lo B))); (simp at Ryn); clear Ry; (first | (replace Rx := (Rx.set_far ⟨gy, 0, none⟩ (.int .u64 (hi B)) hne).set_far ⟨gy, 1, none⟩ (.int .u64 (lo B)) hne) | (replace Rx := (Rx.set_far ⟨gy, 0, none⟩ (.int .u64 (hi B)) hne.symm).set_far ⟨gy, 1, none⟩ (.int .u64 (lo B)) hne.symm)); (have Ry := Ryn); clear Ryn; (have s0 := (World.cell?_setCell_far _ ⟨gy, 1, none⟩ _ (.int .u64 (lo B)) (by simp; omega)).trans ((World.cell?_setCell_far _ ⟨gy, 0, none⟩ _ (.int .u64 (hi B)) (by simp; omega)).trans hHeld.1)); (have s1 := (World.cell?_setCell_far _ ⟨gy, 1, none⟩ _ (.int .u64 (lo B)) (by simp; omega)).trans ((World.cell?_setCell_far _ ⟨gy, 0, none⟩ _ (.int .u64 (hi B)) (by simp; omega)).trans hHeld.2.1)); (have s2 := (World.cell?_setCell_far _ ⟨gy, 1, none⟩ _ (.int .u64 (lo B)) (by simp; omega)).trans ((World.cell?_setCell_far _ ⟨gy, 0, none⟩ _ (.int .u64 (hi B)) (by simp; omega)).trans hHeld.2.2.1)); (have s3 := (World.cell?_setCell_far _ ⟨gy, 1, none⟩ _ (.int .u64 (lo B)) (by simp; omega)).trans ((World.cell?_setCell_far _ ⟨gy, 0, none⟩ _ (.int .u64 (hi B)) (by simp; omega)).trans hHeld.2.2.2.1)); (have s4 := (hHeld.2.2.2.2.setCell (p := ⟨gy, 0, none⟩) my (.int .u64 (hi B))).setCell (p := ⟨gy, 1, none⟩) my (.int .u64 (lo B))); generalize (wq.setCell ⟨gy, 0, none⟩ (.int .u64 (hi B))).setCell ⟨gy, 1, none⟩ (.int .u64 (lo B)) = wn at *)
        refine hK.out _ _ ?hSr17_60_7 (fun hHeld2 => ?_)
        case hSr17_60_7 => (exact ⟨s0, s1, s2, s3, s4⟩)
        clear hK K hHeld
        have hHeld := hHeld2
        clear hHeld2
        rename World => wq
        (try simp only [Act.put, List.setIfInBounds_toArray, List.set_cons_zero, List.set_cons_succ])
        refine wpAnyH_done (by kernel_rfl) ?_ _
        (go_wp2_with fail; go_meet; exact ⟨gx, gy, rfl, rfl, hHeld.1, hHeld.2.1, hHeld.2.2.1, hHeld.2.2.2.1, (by simpa using Rx.cell 0), (by simpa using Rx.cell 1), (by simpa using Ry.cell 0), (by simpa using Ry.cell 1), hHeld.2.2.2.2⟩)
  case rest =>
    clear a0 a1 b0 b1 hbT
    obtain ⟨gx, gy, rfl, rfl, a0, a1, b0, b1, x0, x1, y0, y1, hbT⟩ := hcut
    have q1 : bothI false (A % MM) (B % MM) = andI (A % MM) (B % MM) := rfl
    have q2 : bothI true (A % MM) (B % MM) = orI (A % MM) (B % MM) := rfl
    have q3 : maskI n % MM = maskI n := Int.emod_eq_of_lt (mask_range n).1 (mask_range n).2
    have q4 : bothI false (A % MM) (maskI n) = andI (A % MM) (maskI n) := rfl
    go_wp2
    go_cut [50] (fun s50 wx => s50 = .bool false ∧ wx.cell? ⟨w.heap.size, 0, none⟩ = some (.int .u64 (hi A)) ∧ wx.cell? ⟨w.heap.size, 1, none⟩ = some (.int .u64 (lo A)) ∧ wx.cell? ⟨w.heap.size + 1, 0, none⟩ = some (.int .u64 (hi B)) ∧ wx.cell? ⟨w.heap.size + 1, 1, none⟩ = some (.int .u64 (lo B)) ∧ wx.cell? ⟨gx, 0, none⟩ = some (.int .u64 (hi A)) ∧ wx.cell? ⟨gx, 1, none⟩ = some (.int .u64 (lo A)) ∧ wx.cell? ⟨gy, 0, none⟩ = some (.int .u64 (hi B)) ∧ wx.cell? ⟨gy, 1, none⟩ = some (.int .u64 (lo B)) ∧ Below w.heap.size w wx)
    case first =>
      refine wp_region_held_drew (S := (fun w' => w'.cell? ⟨w.heap.size, 0, none⟩ = some (.int .u64 (hi A)) ∧ w'.cell? ⟨w.heap.size, 1, none⟩ = some (.int .u64 (lo A)) ∧ w'.cell? ⟨w.heap.size + 1, 0, none⟩ = some (.int .u64 (hi B)) ∧ w'.cell? ⟨w.heap.size + 1, 1, none⟩ = some (.int .u64 (lo B)) ∧ w'.cell? ⟨gx, 0, none⟩ = some (.int .u64 (hi A)) ∧ w'.cell? ⟨gx, 1, none⟩ = some (.int .u64 (lo A)) ∧ w'.cell? ⟨gy, 0, none⟩ = some (.int .u64 (hi B)) ∧ w'.cell? ⟨gy, 1, none⟩ = some (.int .u64 (lo B)) ∧ Below w.heap.size w w')) (by kernel_rfl) ?hSr18_ (fun hHeld => ?_)
      case hSr18_ => (first | exact ⟨a0, a1, b0, b1, x0, x1, y0, y1, hbT.drew⟩ | exact ⟨cell_later hb hHeld.1, cell_later hb hHeld.2.1, cell_later hb hHeld.2.2.1, cell_later hb hHeld.2.2.2.1, cell_later hb hHeld.2.2.2.2.1, cell_later hb hHeld.2.2.2.2.2.1, cell_later hb hHeld.2.2.2.2.2.2.1, cell_later hb hHeld.2.2.2.2.2.2.2.1, below_step hHeld.2.2.2.2.2.2.2.2 hb⟩)
      refine wpAnyH_take (i := 0) (oi := { dst := some 13, op := Go.Op.load 24 (Go.Operand.tmp 3), type := 24, pos := _, after := #[], guard := none }) (v := ?vr18_1_0) rfl (by kernel_rfl) (by kernel_rfl) (by kernel_rfl) (fun _ _ _ h => h) (Or.inl ⟨by rfl, ?yr18_1_0⟩) hHeld ?_
      case yr18_1_0 => ((intro w hSw; (try dsimp only at hSw); go_simp) <;> with_reducible rfl)
      (try simp only [Act.put, List.setIfInBounds_toArray, List.set_cons_zero, List.set_cons_succ])
      refine wpAnyH_take (i := 1) (oi := { dst := some 14, op := Go.Op.move (Go.Operand.tmp 2), type := 3, pos := _, after := #[], guard := none }) (v := ?vr18_2_1) rfl (by kernel_rfl) (by kernel_rfl) (by kernel_rfl) (fun _ _ _ h => h) (Or.inl ⟨by rfl, ?yr18_2_1⟩) hHeld ?_
      case yr18_2_1 => ((intro w hSw; (try dsimp only at hSw); go_simp) <;> with_reducible rfl)
      (try simp only [Act.put, List.setIfInBounds_toArray, List.set_cons_zero, List.set_cons_succ])
      refine wpAnyH_take (i := 4) (oi := { dst := some 17, op := Go.Op.load 27 (Go.Operand.tmp 7), type := 27, pos := _, after := #[], guard := none }) (v := ?vr18_3_4) rfl (by kernel_rfl) (by kernel_rfl) (by kernel_rfl) (fun _ _ _ h => h) (Or.inl ⟨by rfl, ?yr18_3_4⟩) hHeld ?_
      case yr18_3_4 => ((intro w hSw; (try dsimp only at hSw); go_simp) <;> with_reducible rfl)
      (try simp only [Act.put, List.setIfInBounds_toArray, List.set_cons_zero, List.set_cons_succ])
      refine wpAnyH_take (i := 5) (oi := { dst := some 18, op := Go.Op.move (Go.Operand.tmp 2), type := 3, pos := _, after := #[], guard := none }) (v := ?vr18_4_5) rfl (by kernel_rfl) (by kernel_rfl) (by kernel_rfl) (fun _ _ _ h => h) (Or.inl ⟨by rfl, ?yr18_4_5⟩) hHeld ?_
      case yr18_4_5 => ((intro w hSw; (try dsimp only at hSw); go_simp) <;> with_reducible rfl)
      (try simp only [Act.put, List.setIfInBounds_toArray, List.set_cons_zero, List.set_cons_succ])
      refine wpAnyH_ready (rs := [2]) (by kernel_rfl) (by simp) ?_
      refine AllReadyH.cons (o := { dst := some 15, op := Go.Op.call { callee := Go.Callee.value (Go.Operand.func 23), args := #[Go.Operand.tmp 13, Go.Operand.tmp 14], argTypes := #[24, 3] }, type := 24, pos := _, after := #[{ on := 0, ground := Go.Ground.data }, { on := 1, ground := Go.Ground.data }], guard := none }) rfl (fun K hK => ?_) AllReadyH.nil
      go_simp
      (refine (left_h _ _ _).mono ?_; rintro e w' ⟨rfl, hb⟩)
      go_wp2_with fail
      refine hK.out _ _ ?hSr18_5_2 (fun hHeld2 => ?_)
      case hSr18_5_2 => (first | exact ⟨a0, a1, b0, b1, x0, x1, y0, y1, hbT.drew⟩ | exact ⟨cell_later hb hHeld.1, cell_later hb hHeld.2.1, cell_later hb hHeld.2.2.1, cell_later hb hHeld.2.2.2.1, cell_later hb hHeld.2.2.2.2.1, cell_later hb hHeld.2.2.2.2.2.1, cell_later hb hHeld.2.2.2.2.2.2.1, cell_later hb hHeld.2.2.2.2.2.2.2.1, below_step hHeld.2.2.2.2.2.2.2.2 hb⟩)
      clear hK K hHeld
      have hHeld := hHeld2
      clear hHeld2
      (try simp only [Act.put, List.setIfInBounds_toArray, List.set_cons_zero, List.set_cons_succ])
      refine wpAnyH_ready (rs := [3]) (by kernel_rfl) (by simp) ?_
      refine AllReadyH.cons (o := { dst := some 16, op := Go.Op.call { callee := Go.Callee.value (Go.Operand.func 14), args := #[Go.Operand.tmp 15], argTypes := #[24] }, type := 27, pos := _, after := #[{ on := 2, ground := Go.Ground.data }, { on := 2, ground := Go.Ground.chain }], guard := none }) rfl (fun K hK => ?_) AllReadyH.nil
      go_simp
      (refine (as_h _ _).mono ?_; rintro e w' ⟨rfl, hb⟩)
      go_wp2_with fail
      refine hK.out _ _ ?hSr18_6_3 (fun hHeld2 => ?_)
      case hSr18_6_3 => (first | exact ⟨a0, a1, b0, b1, x0, x1, y0, y1, hbT.drew⟩ | exact ⟨cell_later hb hHeld.1, cell_later hb hHeld.2.1, cell_later hb hHeld.2.2.1, cell_later hb hHeld.2.2.2.1, cell_later hb hHeld.2.2.2.2.1, cell_later hb hHeld.2.2.2.2.2.1, cell_later hb hHeld.2.2.2.2.2.2.1, cell_later hb hHeld.2.2.2.2.2.2.2.1, below_step hHeld.2.2.2.2.2.2.2.2 hb⟩)
      clear hK K hHeld
      have hHeld := hHeld2
      clear hHeld2
      (try simp only [Act.put, List.setIfInBounds_toArray, List.set_cons_zero, List.set_cons_succ])
      refine wpAnyH_ready (rs := [6]) (by kernel_rfl) (by simp) ?_
      refine AllReadyH.cons (o := { dst := some 19, op := Go.Op.call { callee := Go.Callee.value (Go.Operand.func 24), args := #[Go.Operand.tmp 17, Go.Operand.tmp 18], argTypes := #[27, 3] }, type := 27, pos := _, after := #[{ on := 4, ground := Go.Ground.data }, { on := 5, ground := Go.Ground.data }, { on := 3, ground := Go.Ground.chain }], guard := none }) rfl (fun K hK => ?_) AllReadyH.nil
      go_simp
      (refine (refLeft_t _ _ n0 n1 _).mono ?_; rintro e w' ⟨rfl, hb⟩)
      go_wp2_with fail
      refine hK.out _ _ ?hSr18_7_6 (fun hHeld2 => ?_)
      case hSr18_7_6 => (first | exact ⟨a0, a1, b0, b1, x0, x1, y0, y1, hbT.drew⟩ | exact ⟨cell_later hb hHeld.1, cell_later hb hHeld.2.1, cell_later hb hHeld.2.2.1, cell_later hb hHeld.2.2.2.1, cell_later hb hHeld.2.2.2.2.1, cell_later hb hHeld.2.2.2.2.2.1, cell_later hb hHeld.2.2.2.2.2.2.1, cell_later hb hHeld.2.2.2.2.2.2.2.1, below_step hHeld.2.2.2.2.2.2.2.2 hb⟩)
      clear hK K hHeld
      have hHeld := hHeld2
      clear hHeld2
      (try simp only [Act.put, List.setIfInBounds_toArray, List.set_cons_zero, List.set_cons_succ])
      refine wpAnyH_take (i := 7) (oi := { dst := some 20, op := Go.Op.binOp Go.BinOp.neq 27 (Go.Operand.tmp 16) (Go.Operand.tmp 19) 27, type := 4, pos := _, after := #[{ on := 3, ground := Go.Ground.data }, { on := 6, ground := Go.Ground.data }], guard := none }) (v := ?vr18_8_7) rfl (by kernel_rfl) (by kernel_rfl) (by kernel_rfl) (fun _ _ _ h => h) (Or.inl ⟨by rfl, ?yr18_8_7⟩) hHeld ?_
      case yr18_8_7 => ((intro w hSw; (try dsimp only at hSw); go_simp) <;> with_reducible rfl)
      (try simp only [Act.put, List.setIfInBounds_toArray, List.set_cons_zero, List.set_cons_succ])
      refine wpAnyH_take (i := 8) (oi := { dst := some 21, op := Go.Op.move (Go.Operand.tmp 20), type := 4, pos := _, after := #[{ on := 7, ground := Go.Ground.data }, { on := 6, ground := Go.Ground.chain }], guard := none }) (v := ?vr18_9_8) rfl (by kernel_rfl) (by kernel_rfl) (by kernel_rfl) (fun _ _ _ h => h) (Or.inl ⟨by rfl, ?yr18_9_8⟩) hHeld ?_
      case yr18_9_8 => ((intro w hSw; (try dsimp only at hSw); go_simp) <;> with_reducible rfl)
      (try simp only [Act.put, List.setIfInBounds_toArray, List.set_cons_zero, List.set_cons_succ])
      refine wpAnyH_take (i := 9) (oi := { dst := some 22, op := Go.Op.load 24 (Go.Operand.tmp 3), type := 24, pos := _, after := #[{ on := 8, ground := Go.Ground.guard }], guard := some (8, false) }) (v := ?vr18_10_9) rfl (by kernel_rfl) (by kernel_rfl) (by kernel_rfl) (fun _ _ _ h => h) (Or.inl ⟨by rfl, ?yr18_10_9⟩) hHeld ?_
      case yr18_10_9 => ((intro w hSw; (try dsimp only at hSw); go_simp) <;> with_reducible rfl)
      (try simp only [Act.put, List.setIfInBounds_toArray, List.set_cons_zero, List.set_cons_succ])
      refine wpAnyH_take (i := 10) (oi := { dst := some 23, op := Go.Op.move (Go.Operand.tmp 2), type := 3, pos := _, after := #[{ on := 8, ground := Go.Ground.guard }], guard := some (8, false) }) (v := ?vr18_11_10) rfl (by kernel_rfl) (by kernel_rfl) (by kernel_rfl) (fun _ _ _ h => h) (Or.inl ⟨by rfl, ?yr18_11_10⟩) hHeld ?_
      case yr18_11_10 => ((intro w hSw; (try dsimp only at hSw); go_simp) <;> with_reducible rfl)
      (try simp only [Act.put, List.setIfInBounds_toArray, List.set_cons_zero, List.set_cons_succ])
      refine wpAnyH_take (i := 13) (oi := { dst := some 26, op := Go.Op.load 27 (Go.Operand.tmp 7), type := 27, pos := _, after := #[{ on := 8, ground := Go.Ground.guard }], guard := some (8, false) }) (v := ?vr18_12_13) rfl (by kernel_rfl) (by kernel_rfl) (by kernel_rfl) (fun _ _ _ h => h) (Or.inl ⟨by rfl, ?yr18_12_13⟩) hHeld ?_
      case yr18_12_13 => ((intro w hSw; (try dsimp only at hSw); go_simp) <;> with_reducible rfl)
      (try simp only [Act.put, List.setIfInBounds_toArray, List.set_cons_zero, List.set_cons_succ])
      refine wpAnyH_take (i := 14) (oi := { dst := some 27, op := Go.Op.move (Go.Operand.tmp 2), type := 3, pos := _, after := #[{ on := 8, ground := Go.Ground.guard }], guard := some (8, false) }) (v := ?vr18_13_14) rfl (by kernel_rfl) (by kernel_rfl) (by kernel_rfl) (fun _ _ _ h => h) (Or.inl ⟨by rfl, ?yr18_13_14⟩) hHeld ?_
      case yr18_13_14 => ((intro w hSw; (try dsimp only at hSw); go_simp) <;> with_reducible rfl)
      (try simp only [Act.put, List.setIfInBounds_toArray, List.set_cons_zero, List.set_cons_succ])
      refine wpAnyH_ready (rs := [11]) (by kernel_rfl) (by simp) ?_
      refine AllReadyH.cons (o := { dst := some 24, op := Go.Op.call { callee := Go.Callee.value (Go.Operand.func 25), args := #[Go.Operand.tmp 22, Go.Operand.tmp 23], argTypes := #[24, 3] }, type := 24, pos := _, after := #[{ on := 9, ground := Go.Ground.data }, { on := 10, ground := Go.Ground.data }, { on := 8, ground := Go.Ground.chain }, { on := 8, ground := Go.Ground.guard }], guard := some (8, false) }) rfl (fun K hK => ?_) AllReadyH.nil
      go_simp
      (refine (right_h _ _ _).mono ?_; rintro e w' ⟨rfl, hb⟩)
      go_wp2_with fail
      refine hK.out _ _ ?hSr18_14_11 (fun hHeld2 => ?_)
      case hSr18_14_11 => (first | exact ⟨a0, a1, b0, b1, x0, x1, y0, y1, hbT.drew⟩ | exact ⟨cell_later hb hHeld.1, cell_later hb hHeld.2.1, cell_later hb hHeld.2.2.1, cell_later hb hHeld.2.2.2.1, cell_later hb hHeld.2.2.2.2.1, cell_later hb hHeld.2.2.2.2.2.1, cell_later hb hHeld.2.2.2.2.2.2.1, cell_later hb hHeld.2.2.2.2.2.2.2.1, below_step hHeld.2.2.2.2.2.2.2.2 hb⟩)
      clear hK K hHeld
      have hHeld := hHeld2
      clear hHeld2
      (try simp only [Act.put, List.setIfInBounds_toArray, List.set_cons_zero, List.set_cons_succ])
      refine wpAnyH_ready (rs := [12]) (by kernel_rfl) (by simp) ?_
      refine AllReadyH.cons (o := { dst := some 25, op := Go.Op.call { callee := Go.Callee.value (Go.Operand.func 14), args := #[Go.Operand.tmp 24], argTypes := #[24] }, type := 27, pos := _, after := #[{ on := 11, ground := Go.Ground.data }, { on := 11, ground := Go.Ground.chain }, { on := 8, ground := Go.Ground.guard }], guard := some (8, false) }) rfl (fun K hK => ?_) AllReadyH.nil
      go_simp
      (refine (as_h _ _).mono ?_; rintro e w' ⟨rfl, hb⟩)
      go_wp2_with fail
      refine hK.out _ _ ?hSr18_15_12 (fun hHeld2 => ?_)
      case hSr18_15_12 => (first | exact ⟨a0, a1, b0, b1, x0, x1, y0, y1, hbT.drew⟩ | exact ⟨cell_later hb hHeld.1, cell_later hb hHeld.2.1, cell_later hb hHeld.2.2.1, cell_later hb hHeld.2.2.2.1, cell_later hb hHeld.2.2.2.2.1, cell_later hb hHeld.2.2.2.2.2.1, cell_later hb hHeld.2.2.2.2.2.2.1, cell_later hb hHeld.2.2.2.2.2.2.2.1, below_step hHeld.2.2.2.2.2.2.2.2 hb⟩)
      clear hK K hHeld
      have hHeld := hHeld2
      clear hHeld2
      (try simp only [Act.put, List.setIfInBounds_toArray, List.set_cons_zero, List.set_cons_succ])
      refine wpAnyH_ready (rs := [15]) (by kernel_rfl) (by simp) ?_
      refine AllReadyH.cons (o := { dst := some 28, op := Go.Op.call { callee := Go.Callee.value (Go.Operand.func 26), args := #[Go.Operand.tmp 26, Go.Operand.tmp 27], argTypes := #[27, 3] }, type := 27, pos := _, after := #[{ on := 13, ground := Go.Ground.data }, { on := 14, ground := Go.Ground.data }, { on := 12, ground := Go.Ground.chain }, { on := 8, ground := Go.Ground.guard }], guard := some (8, false) }) rfl (fun K hK => ?_) AllReadyH.nil
      go_simp
      (refine (refRight_t _ _ n0 n1 _).mono ?_; rintro e w' ⟨rfl, hb⟩)
      go_wp2_with fail
      refine hK.out _ _ ?hSr18_16_15 (fun hHeld2 => ?_)
      case hSr18_16_15 => (first | exact ⟨a0, a1, b0, b1, x0, x1, y0, y1, hbT.drew⟩ | exact ⟨cell_later hb hHeld.1, cell_later hb hHeld.2.1, cell_later hb hHeld.2.2.1, cell_later hb hHeld.2.2.2.1, cell_later hb hHeld.2.2.2.2.1, cell_later hb hHeld.2.2.2.2.2.1, cell_later hb hHeld.2.2.2.2.2.2.1, cell_later hb hHeld.2.2.2.2.2.2.2.1, below_step hHeld.2.2.2.2.2.2.2.2 hb⟩)
      clear hK K hHeld
      have hHeld := hHeld2
      clear hHeld2
      (try simp only [Act.put, List.setIfInBounds_toArray, List.set_cons_zero, List.set_cons_succ])
      refine wpAnyH_take (i := 16) (oi := { dst := some 29, op := Go.Op.binOp Go.BinOp.neq 27 (Go.Operand.tmp 25) (Go.Operand.tmp 28) 27, type := 4, pos := _, after := #[{ on := 12, ground := Go.Ground.data }, { on := 15, ground := Go.Ground.data }, { on := 8, ground := Go.Ground.guard }], guard := some (8, false) }) (v := ?vr18_17_16) rfl (by kernel_rfl) (by kernel_rfl) (by kernel_rfl) (fun _ _ _ h => h) (Or.inl ⟨by rfl, ?yr18_17_16⟩) hHeld ?_
      case yr18_17_16 => ((intro w hSw; (try dsimp only at hSw); go_simp) <;> with_reducible rfl)
      (try simp only [Act.put, List.setIfInBounds_toArray, List.set_cons_zero, List.set_cons_succ])
      refine wpAnyH_take (i := 17) (oi := { dst := some 30, op := Go.Op.pick (Go.Operand.tmp 21) (Go.Operand.const (Go.Value.bool true)) (Go.Operand.tmp 29), type := 4, pos := _, after := #[{ on := 8, ground := Go.Ground.data }, { on := 16, ground := Go.Ground.data }], guard := none }) (v := ?vr18_18_17) rfl (by kernel_rfl) (by kernel_rfl) (by kernel_rfl) (fun _ _ _ h => h) (Or.inl ⟨by rfl, ?yr18_18_17⟩) hHeld ?_
      case yr18_18_17 => ((intro w hSw; (try dsimp only at hSw); go_simp) <;> with_reducible rfl)
      (try simp only [Act.put, List.setIfInBounds_toArray, List.set_cons_zero, List.set_cons_succ])
      refine wpAnyH_take (i := 18) (oi := { dst := some 31, op := Go.Op.move (Go.Operand.tmp 30), type := 4, pos := _, after := #[{ on := 17, ground := Go.Ground.data }, { on := 15, ground := Go.Ground.chain }], guard := none }) (v := ?vr18_19_18) rfl (by kernel_rfl) (by kernel_rfl) (by kernel_rfl) (fun _ _ _ h => h) (Or.inl ⟨by rfl, ?yr18_19_18⟩) hHeld ?_
      case yr18_19_18 => ((intro w hSw; (try dsimp only at hSw); go_simp) <;> with_reducible rfl)
      (try simp only [Act.put, List.setIfInBounds_toArray, List.set_cons_zero, List.set_cons_succ])
      refine wpAnyH_take (i := 19) (oi := { dst := some 32, op := Go.Op.load 24 (Go.Operand.tmp 3), type := 24, pos := _, after := #[{ on := 18, ground := Go.Ground.guard }], guard := some (18, false) }) (v := ?vr18_20_19) rfl (by kernel_rfl) (by kernel_rfl) (by kernel_rfl) (fun _ _ _ h => h) (Or.inl ⟨by rfl, ?yr18_20_19⟩) hHeld ?_
      case yr18_20_19 => ((intro w hSw; (try dsimp only at hSw); go_simp) <;> with_reducible rfl)
      (try simp only [Act.put, List.setIfInBounds_toArray, List.set_cons_zero, List.set_cons_succ])
      refine wpAnyH_take (i := 20) (oi := { dst := some 33, op := Go.Op.load 24 (Go.Operand.tmp 4), type := 24, pos := _, after := #[{ on := 18, ground := Go.Ground.guard }], guard := some (18, false) }) (v := ?vr18_21_20) rfl (by kernel_rfl) (by kernel_rfl) (by kernel_rfl) (fun _ _ _ h => h) (Or.inl ⟨by rfl, ?yr18_21_20⟩) hHeld ?_
      case yr18_21_20 => ((intro w hSw; (try dsimp only at hSw); go_simp) <;> with_reducible rfl)
      (try simp only [Act.put, List.setIfInBounds_toArray, List.set_cons_zero, List.set_cons_succ])
      refine wpAnyH_take (i := 23) (oi := { dst := some 36, op := Go.Op.load 27 (Go.Operand.tmp 7), type := 27, pos := _, after := #[{ on := 18, ground := Go.Ground.guard }], guard := some (18, false) }) (v := ?vr18_22_23) rfl (by kernel_rfl) (by kernel_rfl) (by kernel_rfl) (fun _ _ _ h => h) (Or.inl ⟨by rfl, ?yr18_22_23⟩) hHeld ?_
      case yr18_22_23 => ((intro w hSw; (try dsimp only at hSw); go_simp) <;> with_reducible rfl)
      (try simp only [Act.put, List.setIfInBounds_toArray, List.set_cons_zero, List.set_cons_succ])
      refine wpAnyH_take (i := 24) (oi := { dst := some 37, op := Go.Op.load 27 (Go.Operand.tmp 8), type := 27, pos := _, after := #[{ on := 18, ground := Go.Ground.guard }], guard := some (18, false) }) (v := ?vr18_23_24) rfl (by kernel_rfl) (by kernel_rfl) (by kernel_rfl) (fun _ _ _ h => h) (Or.inl ⟨by rfl, ?yr18_23_24⟩) hHeld ?_
      case yr18_23_24 => ((intro w hSw; (try dsimp only at hSw); go_simp) <;> with_reducible rfl)
      (try simp only [Act.put, List.setIfInBounds_toArray, List.set_cons_zero, List.set_cons_succ])
      refine wpAnyH_ready (rs := [21]) (by kernel_rfl) (by simp) ?_
      refine AllReadyH.cons (o := { dst := some 34, op := Go.Op.call { callee := Go.Callee.value (Go.Operand.func 27), args := #[Go.Operand.tmp 32, Go.Operand.tmp 33], argTypes := #[24, 24] }, type := 24, pos := _, after := #[{ on := 19, ground := Go.Ground.data }, { on := 20, ground := Go.Ground.data }, { on := 18, ground := Go.Ground.chain }, { on := 18, ground := Go.Ground.guard }], guard := some (18, false) }) rfl (fun K hK => ?_) AllReadyH.nil
      go_simp
      (refine (and_h _ _ _).mono ?_; rintro e w' ⟨rfl, hb⟩)
      go_wp2_with fail
      refine hK.out _ _ ?hSr18_24_21 (fun hHeld2 => ?_)
      case hSr18_24_21 => (first | exact ⟨a0, a1, b0, b1, x0, x1, y0, y1, hbT.drew⟩ | exact ⟨cell_later hb hHeld.1, cell_later hb hHeld.2.1, cell_later hb hHeld.2.2.1, cell_later hb hHeld.2.2.2.1, cell_later hb hHeld.2.2.2.2.1, cell_later hb hHeld.2.2.2.2.2.1, cell_later hb hHeld.2.2.2.2.2.2.1, cell_later hb hHeld.2.2.2.2.2.2.2.1, below_step hHeld.2.2.2.2.2.2.2.2 hb⟩)
      clear hK K hHeld
      have hHeld := hHeld2
      clear hHeld2
      (try simp only [Act.put, List.setIfInBounds_toArray, List.set_cons_zero, List.set_cons_succ])
      refine wpAnyH_ready (rs := [22]) (by kernel_rfl) (by simp) ?_
      refine AllReadyH.cons (o := { dst := some 35, op := Go.Op.call { callee := Go.Callee.value (Go.Operand.func 14), args := #[Go.Operand.tmp 34], argTypes := #[24] }, type := 27, pos := _, after := #[{ on := 21, ground := Go.Ground.data }, { on := 21, ground := Go.Ground.chain }, { on := 18, ground := Go.Ground.guard }], guard := some (18, false) }) rfl (fun K hK => ?_) AllReadyH.nil
      go_simp
      (refine (as_h _ _).mono ?_; rintro e w' ⟨rfl, hb⟩)
      go_wp2_with fail
      refine hK.out _ _ ?hSr18_25_22 (fun hHeld2 => ?_)
      case hSr18_25_22 => (first | exact ⟨a0, a1, b0, b1, x0, x1, y0, y1, hbT.drew⟩ | exact ⟨cell_later hb hHeld.1, cell_later hb hHeld.2.1, cell_later hb hHeld.2.2.1, cell_later hb hHeld.2.2.2.1, cell_later hb hHeld.2.2.2.2.1, cell_later hb hHeld.2.2.2.2.2.1, cell_later hb hHeld.2.2.2.2.2.2.1, cell_later hb hHeld.2.2.2.2.2.2.2.1, below_step hHeld.2.2.2.2.2.2.2.2 hb⟩)
      clear hK K hHeld
      have hHeld := hHeld2
      clear hHeld2
      (try simp only [Act.put, List.setIfInBounds_toArray, List.set_cons_zero, List.set_cons_succ])
      refine wpAnyH_ready (rs := [25]) (by kernel_rfl) (by simp) ?_
      refine AllReadyH.cons (o := { dst := some 38, op := Go.Op.call { callee := Go.Callee.value (Go.Operand.func 28), args := #[Go.Operand.tmp 36, Go.Operand.tmp 37, Go.Operand.const (Go.Value.bool false)], argTypes := #[27, 27, 4] }, type := 27, pos := _, after := #[{ on := 23, ground := Go.Ground.data }, { on := 24, ground := Go.Ground.data }, { on := 22, ground := Go.Ground.chain }, { on := 18, ground := Go.Ground.guard }], guard := some (18, false) }) rfl (fun K hK => ?_) AllReadyH.nil
      go_simp
      (refine (refBoth_t _ _ _ _).mono ?_; rintro e w' ⟨rfl, hb⟩)
      go_wp2_with fail
      refine hK.out _ _ ?hSr18_26_25 (fun hHeld2 => ?_)
      case hSr18_26_25 => (first | exact ⟨a0, a1, b0, b1, x0, x1, y0, y1, hbT.drew⟩ | exact ⟨cell_later hb hHeld.1, cell_later hb hHeld.2.1, cell_later hb hHeld.2.2.1, cell_later hb hHeld.2.2.2.1, cell_later hb hHeld.2.2.2.2.1, cell_later hb hHeld.2.2.2.2.2.1, cell_later hb hHeld.2.2.2.2.2.2.1, cell_later hb hHeld.2.2.2.2.2.2.2.1, below_step hHeld.2.2.2.2.2.2.2.2 hb⟩)
      clear hK K hHeld
      have hHeld := hHeld2
      clear hHeld2
      (try simp only [Act.put, List.setIfInBounds_toArray, List.set_cons_zero, List.set_cons_succ])
      refine wpAnyH_take (i := 26) (oi := { dst := some 39, op := Go.Op.binOp Go.BinOp.neq 27 (Go.Operand.tmp 35) (Go.Operand.tmp 38) 27, type := 4, pos := _, after := #[{ on := 22, ground := Go.Ground.data }, { on := 25, ground := Go.Ground.data }, { on := 18, ground := Go.Ground.guard }], guard := some (18, false) }) (v := ?vr18_27_26) rfl (by kernel_rfl) (by kernel_rfl) (by kernel_rfl) (fun _ _ _ h => h) (Or.inl ⟨by rfl, ?yr18_27_26⟩) hHeld ?_
      case yr18_27_26 => ((intro w hSw; (try dsimp only at hSw); go_simp) <;> with_reducible rfl)
      (try simp only [Act.put, List.setIfInBounds_toArray, List.set_cons_zero, List.set_cons_succ])
      refine wpAnyH_take (i := 27) (oi := { dst := some 40, op := Go.Op.pick (Go.Operand.tmp 31) (Go.Operand.const (Go.Value.bool true)) (Go.Operand.tmp 39), type := 4, pos := _, after := #[{ on := 18, ground := Go.Ground.data }, { on := 26, ground := Go.Ground.data }], guard := none }) (v := ?vr18_28_27) rfl (by kernel_rfl) (by kernel_rfl) (by kernel_rfl) (fun _ _ _ h => h) (Or.inl ⟨by rfl, ?yr18_28_27⟩) hHeld ?_
      case yr18_28_27 => ((intro w hSw; (try dsimp only at hSw); go_simp) <;> with_reducible rfl)
      (try simp only [Act.put, List.setIfInBounds_toArray, List.set_cons_zero, List.set_cons_succ])
      refine wpAnyH_take (i := 28) (oi := { dst := some 41, op := Go.Op.move (Go.Operand.tmp 40), type := 4, pos := _, after := #[{ on := 27, ground := Go.Ground.data }, { on := 25, ground := Go.Ground.chain }], guard := none }) (v := ?vr18_29_28) rfl (by kernel_rfl) (by kernel_rfl) (by kernel_rfl) (fun _ _ _ h => h) (Or.inl ⟨by rfl, ?yr18_29_28⟩) hHeld ?_
      case yr18_29_28 => ((intro w hSw; (try dsimp only at hSw); go_simp) <;> with_reducible rfl)
      (try simp only [Act.put, List.setIfInBounds_toArray, List.set_cons_zero, List.set_cons_succ])
      refine wpAnyH_take (i := 29) (oi := { dst := some 42, op := Go.Op.load 24 (Go.Operand.tmp 3), type := 24, pos := _, after := #[{ on := 28, ground := Go.Ground.guard }], guard := some (28, false) }) (v := ?vr18_30_29) rfl (by kernel_rfl) (by kernel_rfl) (by kernel_rfl) (fun _ _ _ h => h) (Or.inl ⟨by rfl, ?yr18_30_29⟩) hHeld ?_
      case yr18_30_29 => ((intro w hSw; (try dsimp only at hSw); go_simp) <;> with_reducible rfl)
      (try simp only [Act.put, List.setIfInBounds_toArray, List.set_cons_zero, List.set_cons_succ])
      refine wpAnyH_take (i := 30) (oi := { dst := some 43, op := Go.Op.load 24 (Go.Operand.tmp 4), type := 24, pos := _, after := #[{ on := 28, ground := Go.Ground.guard }], guard := some (28, false) }) (v := ?vr18_31_30) rfl (by kernel_rfl) (by kernel_rfl) (by kernel_rfl) (fun _ _ _ h => h) (Or.inl ⟨by rfl, ?yr18_31_30⟩) hHeld ?_
      case yr18_31_30 => ((intro w hSw; (try dsimp only at hSw); go_simp) <;> with_reducible rfl)
      (try simp only [Act.put, List.setIfInBounds_toArray, List.set_cons_zero, List.set_cons_succ])
      refine wpAnyH_take (i := 33) (oi := { dst := some 46, op := Go.Op.load 27 (Go.Operand.tmp 7), type := 27, pos := _, after := #[{ on := 28, ground := Go.Ground.guard }], guard := some (28, false) }) (v := ?vr18_32_33) rfl (by kernel_rfl) (by kernel_rfl) (by kernel_rfl) (fun _ _ _ h => h) (Or.inl ⟨by rfl, ?yr18_32_33⟩) hHeld ?_
      case yr18_32_33 => ((intro w hSw; (try dsimp only at hSw); go_simp) <;> with_reducible rfl)
      (try simp only [Act.put, List.setIfInBounds_toArray, List.set_cons_zero, List.set_cons_succ])
      refine wpAnyH_take (i := 34) (oi := { dst := some 47, op := Go.Op.load 27 (Go.Operand.tmp 8), type := 27, pos := _, after := #[{ on := 28, ground := Go.Ground.guard }], guard := some (28, false) }) (v := ?vr18_33_34) rfl (by kernel_rfl) (by kernel_rfl) (by kernel_rfl) (fun _ _ _ h => h) (Or.inl ⟨by rfl, ?yr18_33_34⟩) hHeld ?_
      case yr18_33_34 => ((intro w hSw; (try dsimp only at hSw); go_simp) <;> with_reducible rfl)
      (try simp only [Act.put, List.setIfInBounds_toArray, List.set_cons_zero, List.set_cons_succ])
      refine wpAnyH_ready (rs := [31]) (by kernel_rfl) (by simp) ?_
      refine AllReadyH.cons (o := { dst := some 44, op := Go.Op.call { callee := Go.Callee.value (Go.Operand.func 29), args := #[Go.Operand.tmp 42, Go.Operand.tmp 43], argTypes := #[24, 24] }, type := 24, pos := _, after := #[{ on := 29, ground := Go.Ground.data }, { on := 30, ground := Go.Ground.data }, { on := 28, ground := Go.Ground.chain }, { on := 28, ground := Go.Ground.guard }], guard := some (28, false) }) rfl (fun K hK => ?_) AllReadyH.nil
      go_simp
      (refine (or_h _ _ _).mono ?_; rintro e w' ⟨rfl, hb⟩)
      go_wp2_with fail
      refine hK.out _ _ ?hSr18_34_31 (fun hHeld2 => ?_)
      case hSr18_34_31 => (first | exact ⟨a0, a1, b0, b1, x0, x1, y0, y1, hbT.drew⟩ | exact ⟨cell_later hb hHeld.1, cell_later hb hHeld.2.1, cell_later hb hHeld.2.2.1, cell_later hb hHeld.2.2.2.1, cell_later hb hHeld.2.2.2.2.1, cell_later hb hHeld.2.2.2.2.2.1, cell_later hb hHeld.2.2.2.2.2.2.1, cell_later hb hHeld.2.2.2.2.2.2.2.1, below_step hHeld.2.2.2.2.2.2.2.2 hb⟩)
      clear hK K hHeld
      have hHeld := hHeld2
      clear hHeld2
      (try simp only [Act.put, List.setIfInBounds_toArray, List.set_cons_zero, List.set_cons_succ])
      refine wpAnyH_ready (rs := [32]) (by kernel_rfl) (by simp) ?_
      refine AllReadyH.cons (o := { dst := some 45, op := Go.Op.call { callee := Go.Callee.value (Go.Operand.func 14), args := #[Go.Operand.tmp 44], argTypes := #[24] }, type := 27, pos := _, after := #[{ on := 31, ground := Go.Ground.data }, { on := 31, ground := Go.Ground.chain }, { on := 28, ground := Go.Ground.guard }], guard := some (28, false) }) rfl (fun K hK => ?_) AllReadyH.nil
      go_simp
      (refine (as_h _ _).mono ?_; rintro e w' ⟨rfl, hb⟩)
      go_wp2_with fail
      refine hK.out _ _ ?hSr18_35_32 (fun hHeld2 => ?_)
      case hSr18_35_32 => (first | exact ⟨a0, a1, b0, b1, x0, x1, y0, y1, hbT.drew⟩ | exact ⟨cell_later hb hHeld.1, cell_later hb hHeld.2.1, cell_later hb hHeld.2.2.1, cell_later hb hHeld.2.2.2.1, cell_later hb hHeld.2.2.2.2.1, cell_later hb hHeld.2.2.2.2.2.1, cell_later hb hHeld.2.2.2.2.2.2.1, cell_later hb hHeld.2.2.2.2.2.2.2.1, below_step hHeld.2.2.2.2.2.2.2.2 hb⟩)
      clear hK K hHeld
      have hHeld := hHeld2
      clear hHeld2
      (try simp only [Act.put, List.setIfInBounds_toArray, List.set_cons_zero, List.set_cons_succ])
      refine wpAnyH_ready (rs := [35]) (by kernel_rfl) (by simp) ?_
      refine AllReadyH.cons (o := { dst := some 48, op := Go.Op.call { callee := Go.Callee.value (Go.Operand.func 28), args := #[Go.Operand.tmp 46, Go.Operand.tmp 47, Go.Operand.const (Go.Value.bool true)], argTypes := #[27, 27, 4] }, type := 27, pos := _, after := #[{ on := 33, ground := Go.Ground.data }, { on := 34, ground := Go.Ground.data }, { on := 32, ground := Go.Ground.chain }, { on := 28, ground := Go.Ground.guard }], guard := some (28, false) }) rfl (fun K hK => ?_) AllReadyH.nil
      go_simp
      (refine (refBoth_t _ _ _ _).mono ?_; rintro e w' ⟨rfl, hb⟩)
      go_wp2_with fail
      refine hK.out _ _ ?hSr18_36_35 (fun hHeld2 => ?_)
      case hSr18_36_35 => (first | exact ⟨a0, a1, b0, b1, x0, x1, y0, y1, hbT.drew⟩ | exact ⟨cell_later hb hHeld.1, cell_later hb hHeld.2.1, cell_later hb hHeld.2.2.1, cell_later hb hHeld.2.2.2.1, cell_later hb hHeld.2.2.2.2.1, cell_later hb hHeld.2.2.2.2.2.1, cell_later hb hHeld.2.2.2.2.2.2.1, cell_later hb hHeld.2.2.2.2.2.2.2.1, below_step hHeld.2.2.2.2.2.2.2.2 hb⟩)
      clear hK K hHeld
      have hHeld := hHeld2
      clear hHeld2
      (try simp only [Act.put, List.setIfInBounds_toArray, List.set_cons_zero, List.set_cons_succ])
      refine wpAnyH_take (i := 36) (oi := { dst := some 49, op := Go.Op.binOp Go.BinOp.neq 27 (Go.Operand.tmp 45) (Go.Operand.tmp 48) 27, type := 4, pos := _, after := #[{ on := 32, ground := Go.Ground.data }, { on := 35, ground := Go.Ground.data }, { on := 28, ground := Go.Ground.guard }], guard := some (28, false) }) (v := ?vr18_37_36) rfl (by kernel_rfl) (by kernel_rfl) (by kernel_rfl) (fun _ _ _ h => h) (Or.inl ⟨by rfl, ?yr18_37_36⟩) hHeld ?_
      case yr18_37_36 => ((intro w hSw; (try dsimp only at hSw); go_simp) <;> with_reducible rfl)
      (try simp only [Act.put, List.setIfInBounds_toArray, List.set_cons_zero, List.set_cons_succ])
      refine wpAnyH_take (i := 37) (oi := { dst := some 50, op := Go.Op.pick (Go.Operand.tmp 41) (Go.Operand.const (Go.Value.bool true)) (Go.Operand.tmp 49), type := 4, pos := _, after := #[{ on := 28, ground := Go.Ground.data }, { on := 36, ground := Go.Ground.data }], guard := none }) (v := ?vr18_38_37) rfl (by kernel_rfl) (by kernel_rfl) (by kernel_rfl) (fun _ _ _ h => h) (Or.inl ⟨by rfl, ?yr18_38_37⟩) hHeld ?_
      case yr18_38_37 => ((intro w hSw; (try dsimp only at hSw); go_simp) <;> with_reducible rfl)
      (try simp only [Act.put, List.setIfInBounds_toArray, List.set_cons_zero, List.set_cons_succ])
      refine wpAnyH_done (by kernel_rfl) ?_ _
      go_wp2_with fail
      go_meet
      exact ⟨rfl, hHeld⟩
    case rest =>
      clear a0 a1 b0 b1 x0 x1 y0 y1 hbT
      obtain ⟨rfl, a0, a1, b0, b1, x0, x1, y0, y1, hbT⟩ := hcut
      go_wp2
      refine wp_region_held_drew (S := (fun w' => w'.cell? ⟨w.heap.size, 0, none⟩ = some (.int .u64 (hi A)) ∧ w'.cell? ⟨w.heap.size, 1, none⟩ = some (.int .u64 (lo A)) ∧ w'.cell? ⟨w.heap.size + 1, 0, none⟩ = some (.int .u64 (hi B)) ∧ w'.cell? ⟨w.heap.size + 1, 1, none⟩ = some (.int .u64 (lo B)) ∧ w'.cell? ⟨gx, 0, none⟩ = some (.int .u64 (hi A)) ∧ w'.cell? ⟨gx, 1, none⟩ = some (.int .u64 (lo A)) ∧ w'.cell? ⟨gy, 0, none⟩ = some (.int .u64 (hi B)) ∧ w'.cell? ⟨gy, 1, none⟩ = some (.int .u64 (lo B)) ∧ Below w.heap.size w w')) (by kernel_rfl) ?hSr19_ (fun hHeld => ?_)
      case hSr19_ => (first | exact ⟨a0, a1, b0, b1, x0, x1, y0, y1, hbT.drew⟩ | exact ⟨cell_later hb hHeld.1, cell_later hb hHeld.2.1, cell_later hb hHeld.2.2.1, cell_later hb hHeld.2.2.2.1, cell_later hb hHeld.2.2.2.2.1, cell_later hb hHeld.2.2.2.2.2.1, cell_later hb hHeld.2.2.2.2.2.2.1, cell_later hb hHeld.2.2.2.2.2.2.2.1, below_step hHeld.2.2.2.2.2.2.2.2 hb⟩)
      refine wpAnyH_ready (rs := [0]) (by kernel_rfl) (by simp) ?_
      refine AllReadyH.cons (o := { dst := some 51, op := Go.Op.call { callee := Go.Callee.value (Go.Operand.func 17), args := #[], argTypes := #[] }, type := 4, pos := _, after := #[], guard := none }) rfl (fun K hK => ?_) AllReadyH.nil
      go_simp
      (refine (alive_any _).mono ?_; rintro e w' ⟨rfl, hb⟩)
      go_wp2_with fail
      refine hK.out _ _ ?hSr19_1_0 (fun hHeld2 => ?_)
      case hSr19_1_0 => (first | exact ⟨a0, a1, b0, b1, x0, x1, y0, y1, hbT.drew⟩ | exact ⟨cell_later hb hHeld.1, cell_later hb hHeld.2.1, cell_later hb hHeld.2.2.1, cell_later hb hHeld.2.2.2.1, cell_later hb hHeld.2.2.2.2.1, cell_later hb hHeld.2.2.2.2.2.1, cell_later hb hHeld.2.2.2.2.2.2.1, cell_later hb hHeld.2.2.2.2.2.2.2.1, below_step hHeld.2.2.2.2.2.2.2.2 hb⟩)
      clear hK K hHeld
      have hHeld := hHeld2
      clear hHeld2
      (try simp only [Act.put, List.setIfInBounds_toArray, List.set_cons_zero, List.set_cons_succ])
      refine wpAnyH_take (i := 1) (oi := { dst := some 52, op := Go.Op.move (Go.Operand.tmp 51), type := 4, pos := _, after := #[{ on := 0, ground := Go.Ground.data }, { on := 0, ground := Go.Ground.chain }], guard := none }) (v := ?vr19_2_1) rfl (by kernel_rfl) (by kernel_rfl) (by kernel_rfl) (fun _ _ _ h => h) (Or.inl ⟨by rfl, ?yr19_2_1⟩) hHeld ?_
      case yr19_2_1 => ((intro w hSw; (try dsimp only at hSw); go_simp) <;> with_reducible rfl)
      (try simp only [Act.put, List.setIfInBounds_toArray, List.set_cons_zero, List.set_cons_succ])
      refine wpAnyH_take (i := 2) (oi := { dst := some 53, op := Go.Op.move (Go.Operand.tmp 2), type := 3, pos := _, after := #[{ on := 1, ground := Go.Ground.guard }], guard := some (1, true) }) (v := ?vr19_3_2) rfl (by kernel_rfl) (by kernel_rfl) (by kernel_rfl) (fun _ _ _ h => h) (Or.inl ⟨by rfl, ?yr19_3_2⟩) hHeld ?_
      case yr19_3_2 => ((intro w hSw; (try dsimp only at hSw); go_simp) <;> with_reducible rfl)
      (try simp only [Act.put, List.setIfInBounds_toArray, List.set_cons_zero, List.set_cons_succ])
      refine wpAnyH_take (i := 5) (oi := { dst := some 56, op := Go.Op.move (Go.Operand.tmp 2), type := 3, pos := _, after := #[{ on := 1, ground := Go.Ground.guard }], guard := some (1, true) }) (v := ?vr19_4_5) rfl (by kernel_rfl) (by kernel_rfl) (by kernel_rfl) (fun _ _ _ h => h) (Or.inl ⟨by rfl, ?yr19_4_5⟩) hHeld ?_
      case yr19_4_5 => ((intro w hSw; (try dsimp only at hSw); go_simp) <;> with_reducible rfl)
      (try simp only [Act.put, List.setIfInBounds_toArray, List.set_cons_zero, List.set_cons_succ])
      refine wpAnyH_ready (rs := [3]) (by kernel_rfl) (by simp) ?_
      refine AllReadyH.cons (o := { dst := some 54, op := Go.Op.call { callee := Go.Callee.value (Go.Operand.func 30), args := #[Go.Operand.tmp 53], argTypes := #[3] }, type := 24, pos := _, after := #[{ on := 2, ground := Go.Ground.data }, { on := 1, ground := Go.Ground.chain }, { on := 1, ground := Go.Ground.guard }], guard := some (1, true) }) rfl (fun K hK => ?_) AllReadyH.nil
      go_simp
      (refine (mask_any _ n1 _).mono ?_; rintro e w' ⟨rfl, hb⟩)
      go_wp2_with fail
      refine hK.out _ _ ?hSr19_5_3 (fun hHeld2 => ?_)
      case hSr19_5_3 => (first | exact ⟨a0, a1, b0, b1, x0, x1, y0, y1, hbT.drew⟩ | exact ⟨cell_later hb hHeld.1, cell_later hb hHeld.2.1, cell_later hb hHeld.2.2.1, cell_later hb hHeld.2.2.2.1, cell_later hb hHeld.2.2.2.2.1, cell_later hb hHeld.2.2.2.2.2.1, cell_later hb hHeld.2.2.2.2.2.2.1, cell_later hb hHeld.2.2.2.2.2.2.2.1, below_step hHeld.2.2.2.2.2.2.2.2 hb⟩)
      clear hK K hHeld
      have hHeld := hHeld2
      clear hHeld2
      (try simp only [Act.put, List.setIfInBounds_toArray, List.set_cons_zero, List.set_cons_succ])
      refine wpAnyH_ready (rs := [4]) (by kernel_rfl) (by simp) ?_
      refine AllReadyH.cons (o := { dst := some 55, op := Go.Op.call { callee := Go.Callee.value (Go.Operand.func 14), args := #[Go.Operand.tmp 54], argTypes := #[24] }, type := 27, pos := _, after := #[{ on := 3, ground := Go.Ground.data }, { on := 3, ground := Go.Ground.chain }, { on := 1, ground := Go.Ground.guard }], guard := some (1, true) }) rfl (fun K hK => ?_) AllReadyH.nil
      go_simp
      (refine (as_h _ _).mono ?_; rintro e w' ⟨rfl, hb⟩)
      go_wp2_with fail
      refine hK.out _ _ ?hSr19_6_4 (fun hHeld2 => ?_)
      case hSr19_6_4 => (first | exact ⟨a0, a1, b0, b1, x0, x1, y0, y1, hbT.drew⟩ | exact ⟨cell_later hb hHeld.1, cell_later hb hHeld.2.1, cell_later hb hHeld.2.2.1, cell_later hb hHeld.2.2.2.1, cell_later hb hHeld.2.2.2.2.1, cell_later hb hHeld.2.2.2.2.2.1, cell_later hb hHeld.2.2.2.2.2.2.1, cell_later hb hHeld.2.2.2.2.2.2.2.1, below_step hHeld.2.2.2.2.2.2.2.2 hb⟩)
      clear hK K hHeld
      have hHeld := hHeld2
      clear hHeld2
      (try simp only [Act.put, List.setIfInBounds_toArray, List.set_cons_zero, List.set_cons_succ])
      refine wpAnyH_ready (rs := [6]) (by kernel_rfl) (by simp) ?_
      refine AllReadyH.cons (o := { dst := some 57, op := Go.Op.call { callee := Go.Callee.value (Go.Operand.func 31), args := #[Go.Operand.tmp 56], argTypes := #[3] }, type := 27, pos := _, after := #[{ on := 5, ground := Go.Ground.data }, { on := 4, ground := Go.Ground.chain }, { on := 1, ground := Go.Ground.guard }], guard := some (1, true) }) rfl (fun K hK => ?_) AllReadyH.nil
      go_simp
      (refine (refMask_t _ n0 n1 _).mono ?_; rintro e w' ⟨rfl, hb⟩)
      go_wp2_with fail
      refine hK.out _ _ ?hSr19_7_6 (fun hHeld2 => ?_)
      case hSr19_7_6 => (first | exact ⟨a0, a1, b0, b1, x0, x1, y0, y1, hbT.drew⟩ | exact ⟨cell_later hb hHeld.1, cell_later hb hHeld.2.1, cell_later hb hHeld.2.2.1, cell_later hb hHeld.2.2.2.1, cell_later hb hHeld.2.2.2.2.1, cell_later hb hHeld.2.2.2.2.2.1, cell_later hb hHeld.2.2.2.2.2.2.1, cell_later hb hHeld.2.2.2.2.2.2.2.1, below_step hHeld.2.2.2.2.2.2.2.2 hb⟩)
      clear hK K hHeld
      have hHeld := hHeld2
      clear hHeld2
      (try simp only [Act.put, List.setIfInBounds_toArray, List.set_cons_zero, List.set_cons_succ])
      refine wpAnyH_take (i := 7) (oi := { dst := some 58, op := Go.Op.binOp Go.BinOp.eql 27 (Go.Operand.tmp 55) (Go.Operand.tmp 57) 27, type := 4, pos := _, after := #[{ on := 4, ground := Go.Ground.data }, { on := 6, ground := Go.Ground.data }, { on := 1, ground := Go.Ground.guard }], guard := some (1, true) }) (v := ?vr19_8_7) rfl (by kernel_rfl) (by kernel_rfl) (by kernel_rfl) (fun _ _ _ h => h) (Or.inl ⟨by rfl, ?yr19_8_7⟩) hHeld ?_
      case yr19_8_7 => ((intro w hSw; (try dsimp only at hSw); go_simp) <;> with_reducible rfl)
      (try simp only [Act.put, List.setIfInBounds_toArray, List.set_cons_zero, List.set_cons_succ])
      refine wpAnyH_take (i := 8) (oi := { dst := some 59, op := Go.Op.pick (Go.Operand.tmp 52) (Go.Operand.tmp 58) (Go.Operand.const (Go.Value.bool false)), type := 4, pos := _, after := #[{ on := 1, ground := Go.Ground.data }, { on := 7, ground := Go.Ground.data }], guard := none }) (v := ?vr19_9_8) rfl (by kernel_rfl) (by kernel_rfl) (by kernel_rfl) (fun _ _ _ h => h) (Or.inl ⟨by rfl, ?yr19_9_8⟩) hHeld ?_
      case yr19_9_8 => ((intro w hSw; (try dsimp only at hSw); go_simp) <;> with_reducible rfl)
      (try simp only [Act.put, List.setIfInBounds_toArray, List.set_cons_zero, List.set_cons_succ])
      refine wpAnyH_take (i := 9) (oi := { dst := some 60, op := Go.Op.move (Go.Operand.tmp 59), type := 4, pos := _, after := #[{ on := 8, ground := Go.Ground.data }, { on := 6, ground := Go.Ground.chain }], guard := none }) (v := ?vr19_10_9) rfl (by kernel_rfl) (by kernel_rfl) (by kernel_rfl) (fun _ _ _ h => h) (Or.inl ⟨by rfl, ?yr19_10_9⟩) hHeld ?_
      case yr19_10_9 => ((intro w hSw; (try dsimp only at hSw); go_simp) <;> with_reducible rfl)
      (try simp only [Act.put, List.setIfInBounds_toArray, List.set_cons_zero, List.set_cons_succ])
      refine wpAnyH_take (i := 10) (oi := { dst := some 61, op := Go.Op.load 24 (Go.Operand.tmp 3), type := 24, pos := _, after := #[{ on := 9, ground := Go.Ground.guard }], guard := some (9, true) }) (v := ?vr19_11_10) rfl (by kernel_rfl) (by kernel_rfl) (by kernel_rfl) (fun _ _ _ h => h) (Or.inl ⟨by rfl, ?yr19_11_10⟩) hHeld ?_
      case yr19_11_10 => ((intro w hSw; (try dsimp only at hSw); go_simp) <;> with_reducible rfl)
      (try simp only [Act.put, List.setIfInBounds_toArray, List.set_cons_zero, List.set_cons_succ])
      refine wpAnyH_take (i := 11) (oi := { dst := some 62, op := Go.Op.move (Go.Operand.tmp 2), type := 3, pos := _, after := #[{ on := 9, ground := Go.Ground.guard }], guard := some (9, true) }) (v := ?vr19_12_11) rfl (by kernel_rfl) (by kernel_rfl) (by kernel_rfl) (fun _ _ _ h => h) (Or.inl ⟨by rfl, ?yr19_12_11⟩) hHeld ?_
      case yr19_12_11 => ((intro w hSw; (try dsimp only at hSw); go_simp) <;> with_reducible rfl)
      (try simp only [Act.put, List.setIfInBounds_toArray, List.set_cons_zero, List.set_cons_succ])
      refine wpAnyH_take (i := 14) (oi := { dst := some 65, op := Go.Op.load 27 (Go.Operand.tmp 7), type := 27, pos := _, after := #[{ on := 9, ground := Go.Ground.guard }], guard := some (9, true) }) (v := ?vr19_13_14) rfl (by kernel_rfl) (by kernel_rfl) (by kernel_rfl) (fun _ _ _ h => h) (Or.inl ⟨by rfl, ?yr19_13_14⟩) hHeld ?_
      case yr19_13_14 => ((intro w hSw; (try dsimp only at hSw); go_simp) <;> with_reducible rfl)
      (try simp only [Act.put, List.setIfInBounds_toArray, List.set_cons_zero, List.set_cons_succ])
      refine wpAnyH_take (i := 15) (oi := { dst := some 66, op := Go.Op.move (Go.Operand.tmp 2), type := 3, pos := _, after := #[{ on := 9, ground := Go.Ground.guard }], guard := some (9, true) }) (v := ?vr19_14_15) rfl (by kernel_rfl) (by kernel_rfl) (by kernel_rfl) (fun _ _ _ h => h) (Or.inl ⟨by rfl, ?yr19_14_15⟩) hHeld ?_
      case yr19_14_15 => ((intro w hSw; (try dsimp only at hSw); go_simp) <;> with_reducible rfl)
      (try simp only [Act.put, List.setIfInBounds_toArray, List.set_cons_zero, List.set_cons_succ])
      refine wpAnyH_ready (rs := [12]) (by kernel_rfl) (by simp) ?_
      refine AllReadyH.cons (o := { dst := some 63, op := Go.Op.call { callee := Go.Callee.value (Go.Operand.func 32), args := #[Go.Operand.tmp 61, Go.Operand.tmp 62], argTypes := #[24, 3] }, type := 24, pos := _, after := #[{ on := 10, ground := Go.Ground.data }, { on := 11, ground := Go.Ground.data }, { on := 9, ground := Go.Ground.chain }, { on := 9, ground := Go.Ground.guard }], guard := some (9, true) }) rfl (fun K hK => ?_) AllReadyH.nil
      go_simp
      (refine (top_h _ _ n1 _).mono ?_; rintro e w' ⟨rfl, hb⟩)
      go_wp2_with fail
      refine hK.out _ _ ?hSr19_15_12 (fun hHeld2 => ?_)
      case hSr19_15_12 => (first | exact ⟨a0, a1, b0, b1, x0, x1, y0, y1, hbT.drew⟩ | exact ⟨cell_later hb hHeld.1, cell_later hb hHeld.2.1, cell_later hb hHeld.2.2.1, cell_later hb hHeld.2.2.2.1, cell_later hb hHeld.2.2.2.2.1, cell_later hb hHeld.2.2.2.2.2.1, cell_later hb hHeld.2.2.2.2.2.2.1, cell_later hb hHeld.2.2.2.2.2.2.2.1, below_step hHeld.2.2.2.2.2.2.2.2 hb⟩)
      clear hK K hHeld
      have hHeld := hHeld2
      clear hHeld2
      (try simp only [Act.put, List.setIfInBounds_toArray, List.set_cons_zero, List.set_cons_succ])
      refine wpAnyH_ready (rs := [13]) (by kernel_rfl) (by simp) ?_
      refine AllReadyH.cons (o := { dst := some 64, op := Go.Op.call { callee := Go.Callee.value (Go.Operand.func 14), args := #[Go.Operand.tmp 63], argTypes := #[24] }, type := 27, pos := _, after := #[{ on := 12, ground := Go.Ground.data }, { on := 12, ground := Go.Ground.chain }, { on := 9, ground := Go.Ground.guard }], guard := some (9, true) }) rfl (fun K hK => ?_) AllReadyH.nil
      go_simp
      (refine (as_h _ _).mono ?_; rintro e w' ⟨rfl, hb⟩)
      go_wp2_with fail
      refine hK.out _ _ ?hSr19_16_13 (fun hHeld2 => ?_)
      case hSr19_16_13 => (first | exact ⟨a0, a1, b0, b1, x0, x1, y0, y1, hbT.drew⟩ | exact ⟨cell_later hb hHeld.1, cell_later hb hHeld.2.1, cell_later hb hHeld.2.2.1, cell_later hb hHeld.2.2.2.1, cell_later hb hHeld.2.2.2.2.1, cell_later hb hHeld.2.2.2.2.2.1, cell_later hb hHeld.2.2.2.2.2.2.1, cell_later hb hHeld.2.2.2.2.2.2.2.1, below_step hHeld.2.2.2.2.2.2.2.2 hb⟩)
      clear hK K hHeld
      have hHeld := hHeld2
      clear hHeld2
      (try simp only [Act.put, List.setIfInBounds_toArray, List.set_cons_zero, List.set_cons_succ])
      refine wpAnyH_ready (rs := [16]) (by kernel_rfl) (by simp) ?_
      refine AllReadyH.cons (o := { dst := some 67, op := Go.Op.call { callee := Go.Callee.value (Go.Operand.func 31), args := #[Go.Operand.tmp 66], argTypes := #[3] }, type := 27, pos := _, after := #[{ on := 15, ground := Go.Ground.data }, { on := 13, ground := Go.Ground.chain }, { on := 9, ground := Go.Ground.guard }], guard := some (9, true) }) rfl (fun K hK => ?_) AllReadyH.nil
      go_simp
      (refine (refMask_t _ n0 n1 _).mono ?_; rintro e w' ⟨rfl, hb⟩)
      go_wp2_with fail
      refine hK.out _ _ ?hSr19_17_16 (fun hHeld2 => ?_)
      case hSr19_17_16 => (first | exact ⟨a0, a1, b0, b1, x0, x1, y0, y1, hbT.drew⟩ | exact ⟨cell_later hb hHeld.1, cell_later hb hHeld.2.1, cell_later hb hHeld.2.2.1, cell_later hb hHeld.2.2.2.1, cell_later hb hHeld.2.2.2.2.1, cell_later hb hHeld.2.2.2.2.2.1, cell_later hb hHeld.2.2.2.2.2.2.1, cell_later hb hHeld.2.2.2.2.2.2.2.1, below_step hHeld.2.2.2.2.2.2.2.2 hb⟩)
      clear hK K hHeld
      have hHeld := hHeld2
      clear hHeld2
      (try simp only [Act.put, List.setIfInBounds_toArray, List.set_cons_zero, List.set_cons_succ])
      refine wpAnyH_ready (rs := [17]) (by kernel_rfl) (by simp) ?_
      refine AllReadyH.cons (o := { dst := some 68, op := Go.Op.call { callee := Go.Callee.value (Go.Operand.func 28), args := #[Go.Operand.tmp 65, Go.Operand.tmp 67, Go.Operand.const (Go.Value.bool false)], argTypes := #[27, 27, 4] }, type := 27, pos := _, after := #[{ on := 14, ground := Go.Ground.data }, { on := 16, ground := Go.Ground.data }, { on := 16, ground := Go.Ground.chain }, { on := 9, ground := Go.Ground.guard }], guard := some (9, true) }) rfl (fun K hK => ?_) AllReadyH.nil
      go_simp
      (refine (refBoth_t _ _ _ _).mono ?_; rintro e w' ⟨rfl, hb⟩)
      go_wp2_with fail
      refine hK.out _ _ ?hSr19_18_17 (fun hHeld2 => ?_)
      case hSr19_18_17 => (first | exact ⟨a0, a1, b0, b1, x0, x1, y0, y1, hbT.drew⟩ | exact ⟨cell_later hb hHeld.1, cell_later hb hHeld.2.1, cell_later hb hHeld.2.2.1, cell_later hb hHeld.2.2.2.1, cell_later hb hHeld.2.2.2.2.1, cell_later hb hHeld.2.2.2.2.2.1, cell_later hb hHeld.2.2.2.2.2.2.1, cell_later hb hHeld.2.2.2.2.2.2.2.1, below_step hHeld.2.2.2.2.2.2.2.2 hb⟩)
      clear hK K hHeld
      have hHeld := hHeld2
      clear hHeld2
      (try simp only [Act.put, List.setIfInBounds_toArray, List.set_cons_zero, List.set_cons_succ])
      refine wpAnyH_take (i := 18) (oi := { dst := some 69, op := Go.Op.binOp Go.BinOp.eql 27 (Go.Operand.tmp 64) (Go.Operand.tmp 68) 27, type := 4, pos := _, after := #[{ on := 13, ground := Go.Ground.data }, { on := 17, ground := Go.Ground.data }, { on := 9, ground := Go.Ground.guard }], guard := some (9, true) }) (v := ?vr19_19_18) rfl (by kernel_rfl) (by kernel_rfl) (by kernel_rfl) (fun _ _ _ h => h) (Or.inl ⟨by rfl, ?yr19_19_18⟩) hHeld ?_
      case yr19_19_18 => ((intro w hSw; (try dsimp only at hSw); go_simp) <;> with_reducible rfl)
      (try simp only [Act.put, List.setIfInBounds_toArray, List.set_cons_zero, List.set_cons_succ])
      refine wpAnyH_take (i := 19) (oi := { dst := some 70, op := Go.Op.pick (Go.Operand.tmp 60) (Go.Operand.tmp 69) (Go.Operand.const (Go.Value.bool false)), type := 4, pos := _, after := #[{ on := 9, ground := Go.Ground.data }, { on := 18, ground := Go.Ground.data }], guard := none }) (v := ?vr19_20_19) rfl (by kernel_rfl) (by kernel_rfl) (by kernel_rfl) (fun _ _ _ h => h) (Or.inl ⟨by rfl, ?yr19_20_19⟩) hHeld ?_
      case yr19_20_19 => ((intro w hSw; (try dsimp only at hSw); go_simp) <;> with_reducible rfl)
      (try simp only [Act.put, List.setIfInBounds_toArray, List.set_cons_zero, List.set_cons_succ])
      refine wpAnyH_take (i := 20) (oi := { dst := some 71, op := Go.Op.move (Go.Operand.tmp 70), type := 4, pos := _, after := #[{ on := 19, ground := Go.Ground.data }, { on := 17, ground := Go.Ground.chain }], guard := none }) (v := ?vr19_21_20) rfl (by kernel_rfl) (by kernel_rfl) (by kernel_rfl) (fun _ _ _ h => h) (Or.inl ⟨by rfl, ?yr19_21_20⟩) hHeld ?_
      case yr19_21_20 => ((intro w hSw; (try dsimp only at hSw); go_simp) <;> with_reducible rfl)
      (try simp only [Act.put, List.setIfInBounds_toArray, List.set_cons_zero, List.set_cons_succ])
      refine wpAnyH_take (i := 21) (oi := { dst := some 72, op := Go.Op.load 24 (Go.Operand.tmp 3), type := 24, pos := _, after := #[{ on := 20, ground := Go.Ground.guard }], guard := some (20, true) }) (v := ?vr19_22_21) rfl (by kernel_rfl) (by kernel_rfl) (by kernel_rfl) (fun _ _ _ h => h) (Or.inl ⟨by rfl, ?yr19_22_21⟩) hHeld ?_
      case yr19_22_21 => ((intro w hSw; (try dsimp only at hSw); go_simp) <;> with_reducible rfl)
      (try simp only [Act.put, List.setIfInBounds_toArray, List.set_cons_zero, List.set_cons_succ])
      refine wpAnyH_take (i := 22) (oi := { dst := some 73, op := Go.Op.move (Go.Operand.tmp 2), type := 3, pos := _, after := #[{ on := 20, ground := Go.Ground.guard }], guard := some (20, true) }) (v := ?vr19_23_22) rfl (by kernel_rfl) (by kernel_rfl) (by kernel_rfl) (fun _ _ _ h => h) (Or.inl ⟨by rfl, ?yr19_23_22⟩) hHeld ?_
      case yr19_23_22 => ((intro w hSw; (try dsimp only at hSw); go_simp) <;> with_reducible rfl)
      (try simp only [Act.put, List.setIfInBounds_toArray, List.set_cons_zero, List.set_cons_succ])
      refine wpAnyH_take (i := 24) (oi := { dst := some 75, op := Go.Op.load 27 (Go.Operand.tmp 7), type := 27, pos := _, after := #[{ on := 20, ground := Go.Ground.guard }], guard := some (20, true) }) (v := ?vr19_24_24) rfl (by kernel_rfl) (by kernel_rfl) (by kernel_rfl) (fun _ _ _ h => h) (Or.inl ⟨by rfl, ?yr19_24_24⟩) hHeld ?_
      case yr19_24_24 => ((intro w hSw; (try dsimp only at hSw); go_simp) <;> with_reducible rfl)
      (try simp only [Act.put, List.setIfInBounds_toArray, List.set_cons_zero, List.set_cons_succ])
      refine wpAnyH_take (i := 25) (oi := { dst := some 76, op := Go.Op.move (Go.Operand.tmp 2), type := 3, pos := _, after := #[{ on := 20, ground := Go.Ground.guard }], guard := some (20, true) }) (v := ?vr19_25_25) rfl (by kernel_rfl) (by kernel_rfl) (by kernel_rfl) (fun _ _ _ h => h) (Or.inl ⟨by rfl, ?yr19_25_25⟩) hHeld ?_
      case yr19_25_25 => ((intro w hSw; (try dsimp only at hSw); go_simp) <;> with_reducible rfl)
      (try simp only [Act.put, List.setIfInBounds_toArray, List.set_cons_zero, List.set_cons_succ])
      refine wpAnyH_ready (rs := [23]) (by kernel_rfl) (by simp) ?_
      refine AllReadyH.cons (o := { dst := some 74, op := Go.Op.call { callee := Go.Callee.value (Go.Operand.func 33), args := #[Go.Operand.tmp 72, Go.Operand.tmp 73], argTypes := #[24, 3] }, type := 4, pos := _, after := #[{ on := 21, ground := Go.Ground.data }, { on := 22, ground := Go.Ground.data }, { on := 20, ground := Go.Ground.chain }, { on := 20, ground := Go.Ground.guard }], guard := some (20, true) }) rfl (fun K hK => ?_) AllReadyH.nil
      go_simp
      (refine (bit_h _ _ _).mono ?_; rintro e w' ⟨rfl, hb⟩)
      go_wp2_with fail
      refine hK.out _ _ ?hSr19_26_23 (fun hHeld2 => ?_)
      case hSr19_26_23 => (first | exact ⟨a0, a1, b0, b1, x0, x1, y0, y1, hbT.drew⟩ | exact ⟨cell_later hb hHeld.1, cell_later hb hHeld.2.1, cell_later hb hHeld.2.2.1, cell_later hb hHeld.2.2.2.1, cell_later hb hHeld.2.2.2.2.1, cell_later hb hHeld.2.2.2.2.2.1, cell_later hb hHeld.2.2.2.2.2.2.1, cell_later hb hHeld.2.2.2.2.2.2.2.1, below_step hHeld.2.2.2.2.2.2.2.2 hb⟩)
      clear hK K hHeld
      have hHeld := hHeld2
      clear hHeld2
      (try simp only [Act.put, List.setIfInBounds_toArray, List.set_cons_zero, List.set_cons_succ])
      refine wpAnyH_ready (rs := [26]) (by kernel_rfl) (by simp) ?_
      refine AllReadyH.cons (o := { dst := some 77, op := Go.Op.call { callee := Go.Callee.value (Go.Operand.func 34), args := #[Go.Operand.tmp 75, Go.Operand.tmp 76], argTypes := #[27, 3] }, type := 4, pos := _, after := #[{ on := 24, ground := Go.Ground.data }, { on := 25, ground := Go.Ground.data }, { on := 23, ground := Go.Ground.chain }, { on := 20, ground := Go.Ground.guard }], guard := some (20, true) }) rfl (fun K hK => ?_) AllReadyH.nil
      go_simp
      (refine (refBit_t _ _ _).mono ?_; rintro e w' ⟨rfl, hb⟩)
      go_wp2_with fail
      refine hK.out _ _ ?hSr19_27_26 (fun hHeld2 => ?_)
      case hSr19_27_26 => (first | exact ⟨a0, a1, b0, b1, x0, x1, y0, y1, hbT.drew⟩ | exact ⟨cell_later hb hHeld.1, cell_later hb hHeld.2.1, cell_later hb hHeld.2.2.1, cell_later hb hHeld.2.2.2.1, cell_later hb hHeld.2.2.2.2.1, cell_later hb hHeld.2.2.2.2.2.1, cell_later hb hHeld.2.2.2.2.2.2.1, cell_later hb hHeld.2.2.2.2.2.2.2.1, below_step hHeld.2.2.2.2.2.2.2.2 hb⟩)
      clear hK K hHeld
      have hHeld := hHeld2
      clear hHeld2
      (try simp only [Act.put, List.setIfInBounds_toArray, List.set_cons_zero, List.set_cons_succ])
      refine wpAnyH_take (i := 27) (oi := { dst := some 78, op := Go.Op.binOp Go.BinOp.eql 4 (Go.Operand.tmp 74) (Go.Operand.tmp 77) 4, type := 4, pos := _, after := #[{ on := 23, ground := Go.Ground.data }, { on := 26, ground := Go.Ground.data }, { on := 20, ground := Go.Ground.guard }], guard := some (20, true) }) (v := ?vr19_28_27) rfl (by kernel_rfl) (by kernel_rfl) (by kernel_rfl) (fun _ _ _ h => h) (Or.inl ⟨by rfl, ?yr19_28_27⟩) hHeld ?_
      case yr19_28_27 => ((intro w hSw; (try dsimp only at hSw); go_simp) <;> with_reducible rfl)
      (try simp only [Act.put, List.setIfInBounds_toArray, List.set_cons_zero, List.set_cons_succ])
      refine wpAnyH_take (i := 28) (oi := { dst := some 79, op := Go.Op.pick (Go.Operand.tmp 71) (Go.Operand.tmp 78) (Go.Operand.const (Go.Value.bool false)), type := 4, pos := _, after := #[{ on := 20, ground := Go.Ground.data }, { on := 27, ground := Go.Ground.data }], guard := none }) (v := ?vr19_29_28) rfl (by kernel_rfl) (by kernel_rfl) (by kernel_rfl) (fun _ _ _ h => h) (Or.inl ⟨by rfl, ?yr19_29_28⟩) hHeld ?_
      case yr19_29_28 => ((intro w hSw; (try dsimp only at hSw); go_simp) <;> with_reducible rfl)
      (try simp only [Act.put, List.setIfInBounds_toArray, List.set_cons_zero, List.set_cons_succ])
      refine wpAnyH_take (i := 29) (oi := { dst := some 80, op := Go.Op.move (Go.Operand.tmp 79), type := 4, pos := _, after := #[{ on := 28, ground := Go.Ground.data }, { on := 26, ground := Go.Ground.chain }], guard := none }) (v := ?vr19_30_29) rfl (by kernel_rfl) (by kernel_rfl) (by kernel_rfl) (fun _ _ _ h => h) (Or.inl ⟨by rfl, ?yr19_30_29⟩) hHeld ?_
      case yr19_30_29 => ((intro w hSw; (try dsimp only at hSw); go_simp) <;> with_reducible rfl)
      (try simp only [Act.put, List.setIfInBounds_toArray, List.set_cons_zero, List.set_cons_succ])
      refine wpAnyH_take (i := 30) (oi := { dst := some 81, op := Go.Op.load 24 (Go.Operand.tmp 3), type := 24, pos := _, after := #[{ on := 29, ground := Go.Ground.guard }], guard := some (29, true) }) (v := ?vr19_31_30) rfl (by kernel_rfl) (by kernel_rfl) (by kernel_rfl) (fun _ _ _ h => h) (Or.inl ⟨by rfl, ?yr19_31_30⟩) hHeld ?_
      case yr19_31_30 => ((intro w hSw; (try dsimp only at hSw); go_simp) <;> with_reducible rfl)
      (try simp only [Act.put, List.setIfInBounds_toArray, List.set_cons_zero, List.set_cons_succ])
      refine wpAnyH_take (i := 31) (oi := { dst := some 82, op := Go.Op.load 24 (Go.Operand.tmp 4), type := 24, pos := _, after := #[{ on := 29, ground := Go.Ground.guard }], guard := some (29, true) }) (v := ?vr19_32_31) rfl (by kernel_rfl) (by kernel_rfl) (by kernel_rfl) (fun _ _ _ h => h) (Or.inl ⟨by rfl, ?yr19_32_31⟩) hHeld ?_
      case yr19_32_31 => ((intro w hSw; (try dsimp only at hSw); go_simp) <;> with_reducible rfl)
      (try simp only [Act.put, List.setIfInBounds_toArray, List.set_cons_zero, List.set_cons_succ])
      refine wpAnyH_take (i := 33) (oi := { dst := some 84, op := Go.Op.load 27 (Go.Operand.tmp 7), type := 27, pos := _, after := #[{ on := 29, ground := Go.Ground.guard }], guard := some (29, true) }) (v := ?vr19_33_33) rfl (by kernel_rfl) (by kernel_rfl) (by kernel_rfl) (fun _ _ _ h => h) (Or.inl ⟨by rfl, ?yr19_33_33⟩) hHeld ?_
      case yr19_33_33 => ((intro w hSw; (try dsimp only at hSw); go_simp) <;> with_reducible rfl)
      (try simp only [Act.put, List.setIfInBounds_toArray, List.set_cons_zero, List.set_cons_succ])
      refine wpAnyH_take (i := 34) (oi := { dst := some 85, op := Go.Op.load 27 (Go.Operand.tmp 8), type := 27, pos := _, after := #[{ on := 29, ground := Go.Ground.guard }], guard := some (29, true) }) (v := ?vr19_34_34) rfl (by kernel_rfl) (by kernel_rfl) (by kernel_rfl) (fun _ _ _ h => h) (Or.inl ⟨by rfl, ?yr19_34_34⟩) hHeld ?_
      case yr19_34_34 => ((intro w hSw; (try dsimp only at hSw); go_simp) <;> with_reducible rfl)
      (try simp only [Act.put, List.setIfInBounds_toArray, List.set_cons_zero, List.set_cons_succ])
      refine wpAnyH_ready (rs := [32]) (by kernel_rfl) (by simp) ?_
      refine AllReadyH.cons (o := { dst := some 83, op := Go.Op.call { callee := Go.Callee.value (Go.Operand.func 35), args := #[Go.Operand.tmp 81, Go.Operand.tmp 82], argTypes := #[24, 24] }, type := 3, pos := _, after := #[{ on := 30, ground := Go.Ground.data }, { on := 31, ground := Go.Ground.data }, { on := 29, ground := Go.Ground.chain }, { on := 29, ground := Go.Ground.guard }], guard := some (29, true) }) rfl (fun K hK => ?_) AllReadyH.nil
      go_simp
      (refine (same_h _ _ _).mono ?_; rintro e w' ⟨rfl, hb⟩)
      go_wp2_with fail
      refine hK.out _ _ ?hSr19_35_32 (fun hHeld2 => ?_)
      case hSr19_35_32 => (first | exact ⟨a0, a1, b0, b1, x0, x1, y0, y1, hbT.drew⟩ | exact ⟨cell_later hb hHeld.1, cell_later hb hHeld.2.1, cell_later hb hHeld.2.2.1, cell_later hb hHeld.2.2.2.1, cell_later hb hHeld.2.2.2.2.1, cell_later hb hHeld.2.2.2.2.2.1, cell_later hb hHeld.2.2.2.2.2.2.1, cell_later hb hHeld.2.2.2.2.2.2.2.1, below_step hHeld.2.2.2.2.2.2.2.2 hb⟩)
      clear hK K hHeld
      have hHeld := hHeld2
      clear hHeld2
      (try simp only [Act.put, List.setIfInBounds_toArray, List.set_cons_zero, List.set_cons_succ])
      refine wpAnyH_ready (rs := [35]) (by kernel_rfl) (by simp) ?_
      refine AllReadyH.cons (o := { dst := some 86, op := Go.Op.call { callee := Go.Callee.value (Go.Operand.func 36), args := #[Go.Operand.tmp 84, Go.Operand.tmp 85], argTypes := #[27, 27] }, type := 3, pos := _, after := #[{ on := 33, ground := Go.Ground.data }, { on := 34, ground := Go.Ground.data }, { on := 32, ground := Go.Ground.chain }, { on := 29, ground := Go.Ground.guard }], guard := some (29, true) }) rfl (fun K hK => ?_) AllReadyH.nil
      go_simp
      (refine (refSame_t _ _ _).mono ?_; rintro e w' ⟨rfl, hb⟩)
      go_wp2_with fail
      refine hK.out _ _ ?hSr19_36_35 (fun hHeld2 => ?_)
      case hSr19_36_35 => (first | exact ⟨a0, a1, b0, b1, x0, x1, y0, y1, hbT.drew⟩ | exact ⟨cell_later hb hHeld.1, cell_later hb hHeld.2.1, cell_later hb hHeld.2.2.1, cell_later hb hHeld.2.2.2.1, cell_later hb hHeld.2.2.2.2.1, cell_later hb hHeld.2.2.2.2.2.1, cell_later hb hHeld.2.2.2.2.2.2.1, cell_later hb hHeld.2.2.2.2.2.2.2.1, below_step hHeld.2.2.2.2.2.2.2.2 hb⟩)
      clear hK K hHeld
      have hHeld := hHeld2
      clear hHeld2
      (try simp only [Act.put, List.setIfInBounds_toArray, List.set_cons_zero, List.set_cons_succ])
      refine wpAnyH_take (i := 36) (oi := { dst := some 87, op := Go.Op.binOp Go.BinOp.eql 3 (Go.Operand.tmp 83) (Go.Operand.tmp 86) 3, type := 4, pos := _, after := #[{ on := 32, ground := Go.Ground.data }, { on := 35, ground := Go.Ground.data }, { on := 29, ground := Go.Ground.guard }], guard := some (29, true) }) (v := ?vr19_37_36) rfl (by kernel_rfl) (by kernel_rfl) (by kernel_rfl) (fun _ _ _ h => h) (Or.inl ⟨by rfl, ?yr19_37_36⟩) hHeld ?_
      case yr19_37_36 => ((intro w hSw; (try dsimp only at hSw); go_simp) <;> with_reducible rfl)
      (try simp only [Act.put, List.setIfInBounds_toArray, List.set_cons_zero, List.set_cons_succ])
      refine wpAnyH_take (i := 37) (oi := { dst := some 88, op := Go.Op.pick (Go.Operand.tmp 80) (Go.Operand.tmp 87) (Go.Operand.const (Go.Value.bool false)), type := 4, pos := _, after := #[{ on := 29, ground := Go.Ground.data }, { on := 36, ground := Go.Ground.data }], guard := none }) (v := ?vr19_38_37) rfl (by kernel_rfl) (by kernel_rfl) (by kernel_rfl) (fun _ _ _ h => h) (Or.inl ⟨by rfl, ?yr19_38_37⟩) hHeld ?_
      case yr19_38_37 => ((intro w hSw; (try dsimp only at hSw); go_simp) <;> with_reducible rfl)
      (try simp only [Act.put, List.setIfInBounds_toArray, List.set_cons_zero, List.set_cons_succ])
      refine wpAnyH_take (i := 38) (oi := { dst := some 6, op := Go.Op.assign (Go.Operand.tmp 88), type := 4, pos := _, after := #[{ on := 37, ground := Go.Ground.data }, { on := 35, ground := Go.Ground.chain }, { on := 0, ground := Go.Ground.phase }, { on := 1, ground := Go.Ground.phase }, { on := 2, ground := Go.Ground.phase }, { on := 3, ground := Go.Ground.phase }, { on := 4, ground := Go.Ground.phase }, { on := 5, ground := Go.Ground.phase }, { on := 6, ground := Go.Ground.phase }, { on := 7, ground := Go.Ground.phase }, { on := 8, ground := Go.Ground.phase }, { on := 9, ground := Go.Ground.phase }, { on := 10, ground := Go.Ground.phase }, { on := 11, ground := Go.Ground.phase }, { on := 12, ground := Go.Ground.phase }, { on := 13, ground := Go.Ground.phase }, { on := 14, ground := Go.Ground.phase }, { on := 15, ground := Go.Ground.phase }, { on := 16, ground := Go.Ground.phase }, { on := 17, ground := Go.Ground.phase }, { on := 18, ground := Go.Ground.phase }, { on := 19, ground := Go.Ground.phase }, { on := 20, ground := Go.Ground.phase }, { on := 21, ground := Go.Ground.phase }, { on := 22, ground := Go.Ground.phase }, { on := 23, ground := Go.Ground.phase }, { on := 24, ground := Go.Ground.phase }, { on := 25, ground := Go.Ground.phase }, { on := 26, ground := Go.Ground.phase }, { on := 27, ground := Go.Ground.phase }, { on := 28, ground := Go.Ground.phase }, { on := 29, ground := Go.Ground.phase }, { on := 30, ground := Go.Ground.phase }, { on := 31, ground := Go.Ground.phase }, { on := 32, ground := Go.Ground.phase }, { on := 33, ground := Go.Ground.phase }, { on := 34, ground := Go.Ground.phase }, { on := 35, ground := Go.Ground.phase }, { on := 36, ground := Go.Ground.phase }, { on := 37, ground := Go.Ground.phase }], guard := none }) (v := ?vr19_39_38) rfl (by kernel_rfl) (by kernel_rfl) (by kernel_rfl) (fun _ _ _ h => h) (Or.inl ⟨by rfl, ?yr19_39_38⟩) hHeld ?_
      case yr19_39_38 => ((intro w hSw; (try dsimp only at hSw); go_simp) <;> with_reducible rfl)
      (try simp only [Act.put, List.setIfInBounds_toArray, List.set_cons_zero, List.set_cons_succ])
      refine wpAnyH_done (by kernel_rfl) ?_ _
      go_wp2
      go_ret
      exact ⟨rfl, hHeld.2.2.2.2.2.2.2.2⟩
end Go.Proofs.Ytbofnfccejjolaa
