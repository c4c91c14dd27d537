/- The call of WideSums answers true, whatever the two numbers are. No conditions. -/
import Derived.Test.YtbofnfccejjolaaRefSub
namespace Go.Proofs.Ytbofnfccejjolaa
set_option linter.unusedVariables false
set_option linter.unusedSimpArgs false
open Go.RowKit
set_option maxHeartbeats 400000 in
theorem as_h (A : Int) (w : World) : Calls Try.prog 14 #[.agg #[.int .u64 (hi A), .int .u64 (lo A)]] w fun e w' => e = .returned (.agg #[.int .u64 (hi A), .int .u64 (lo A)]) ∧ Below w.heap.size w w' := by
  go_enter Try.func14, Try.ntmps14
  go_wp2
  exact bodyPost_ret (v := .agg #[.int .u64 (hi A), .int .u64 (lo A)]) (by simp [results, Try.results14, go_sem]) rfl ⟨rfl, (by repeat (first | exact Below.refl _ _ | assumption | (with_reducible refine Below.setCell ?_ ?h _; case h => first | omega | (simp; done) | (simp; omega)) | (with_reducible refine Below.alloc ?_ ?h _; case h => first | omega | (simp; done) | (simp; omega)) | (with_reducible refine Below.drew ?_) | (with_reducible refine Below.trans ?_ (hb4.mono ?h); case h => first | omega | (simp; done) | (simp; omega)) | (with_reducible refine Below.trans ?_ (hb3.mono ?h); case h => first | omega | (simp; done) | (simp; omega)) | (with_reducible refine Below.trans ?_ (hb2.mono ?h); case h => first | omega | (simp; done) | (simp; omega)) | (with_reducible refine Below.trans ?_ (hb.mono ?h); case h => first | omega | (simp; done) | (simp; omega)) | (with_reducible refine Below.trans ?_ (hb0.mono ?h); case h => first | omega | (simp; done) | (simp; omega))))⟩
set_option maxRecDepth 100000 in
set_option maxHeartbeats 6400000 in
theorem wideSums_any (A B : Int) (w : World) :
    Calls Try.prog 3 #[.agg #[.int .u64 (hi A), .int .u64 (lo A)], .agg #[.int .u64 (hi B), .int .u64 (lo B)]] w fun e w' =>
      e = .returned (.bool true) ∧ Below w.heap.size w w' := by
  go_enter Try.func3, Try.ntmps3
  go_wp2_with fail
  refine (add_h A B _).mono ?_
  rintro e w1 ⟨rfl, hx1⟩
  have hb1 : Below w.heap.size w w1 := below_step (by repeat (first | exact Below.refl _ _ | assumption | (with_reducible refine Below.setCell ?_ ?h _; case h => first | omega | (simp; done) | (simp; omega)) | (with_reducible refine Below.alloc ?_ ?h _; case h => first | omega | (simp; done) | (simp; omega)) | (with_reducible refine Below.drew ?_) | (with_reducible refine Below.trans ?_ (hb4.mono ?h); case h => first | omega | (simp; done) | (simp; omega)) | (with_reducible refine Below.trans ?_ (hb3.mono ?h); case h => first | omega | (simp; done) | (simp; omega)) | (with_reducible refine Below.trans ?_ (hb2.mono ?h); case h => first | omega | (simp; done) | (simp; omega)) | (with_reducible refine Below.trans ?_ (hb.mono ?h); case h => first | omega | (simp; done) | (simp; omega)) | (with_reducible refine Below.trans ?_ (hb0.mono ?h); case h => first | omega | (simp; done) | (simp; omega)))) hx1
  have a0 := cell_later (a := ⟨w.heap.size, 0, none⟩) hx1 (v := .int .u64 (hi A)) (by simp [go_sem])
  have la0 := World.block_lt_of_cell? _ _ a0; dsimp only at la0
  have a1 := cell_later (a := ⟨w.heap.size, 1, none⟩) hx1 (v := .int .u64 (lo A)) (by simp [go_sem])
  have b0 := cell_later (a := ⟨w.heap.size + 1, 0, none⟩) hx1 (v := .int .u64 (hi B)) (by simp [go_sem])
  have lb0 := World.block_lt_of_cell? _ _ b0; dsimp only at lb0
  have b1 := cell_later (a := ⟨w.heap.size + 1, 1, none⟩) hx1 (v := .int .u64 (lo B)) (by simp [go_sem])
  have hbT := hb1
  clear hb1 hx1
  go_wp2
  clear la0 lb0
  have hbg : Below w1.heap.size w1 (w1.alloc (.cells #[.int .u64 (hi (A + B)), .int .u64 (lo (A + B))] 24)) := (Below.refl _ _).alloc (Nat.le_refl _) _
  replace a0 := cell_later hbg a0
  replace a1 := cell_later hbg a1
  replace b0 := cell_later hbg b0
  replace b1 := cell_later hbg b1
  have s0 : (w1.alloc (.cells #[.int .u64 (hi (A + B)), .int .u64 (lo (A + B))] 24)).cell? ⟨w1.heap.size, 0, none⟩ = some (.int .u64 (hi (A + B))) := by simp [go_sem]
  have s1 : (w1.alloc (.cells #[.int .u64 (hi (A + B)), .int .u64 (lo (A + B))] 24)).cell? ⟨w1.heap.size, 1, none⟩ = some (.int .u64 (lo (A + B))) := by simp [go_sem]
  replace hbT := below_step hbT hbg
  clear hbg
  generalize (w1.alloc (.cells #[.int .u64 (hi (A + B)), .int .u64 (lo (A + B))] 24)) = w2 at *
  generalize w1.heap.size = gs at *
  go_cut [7, 8] (fun s7 s8 wx => ∃ gx : Nat, s7 = .pointer (some ⟨gx, 0, none⟩) ∧ s8 = .bool (addB (A % MM) (B % MM)) ∧ wx.cell? ⟨gx, 0, none⟩ = some (.int .u64 (hi (A + B))) ∧ wx.cell? ⟨gx, 1, none⟩ = some (.int .u64 (lo (A + B))) ∧ wx.cell? ⟨w.heap.size, 0, none⟩ = some (.int .u64 (hi A)) ∧ wx.cell? ⟨w.heap.size, 1, none⟩ = some (.int .u64 (lo A)) ∧ wx.cell? ⟨w.heap.size + 1, 0, none⟩ = some (.int .u64 (hi B)) ∧ wx.cell? ⟨w.heap.size + 1, 1, none⟩ = some (.int .u64 (lo B)) ∧ wx.cell? ⟨gs, 0, none⟩ = some (.int .u64 (hi (A + B))) ∧ wx.cell? ⟨gs, 1, none⟩ = some (.int .u64 (lo (A + B))) ∧ Below w.heap.size w wx)
  case first =>
    refine region_any (S := (fun w' => w'.cell? ⟨w.heap.size, 0, none⟩ = some (.int .u64 (hi A)) ∧ w'.cell? ⟨w.heap.size, 1, none⟩ = some (.int .u64 (lo A)) ∧ w'.cell? ⟨w.heap.size + 1, 0, none⟩ = some (.int .u64 (hi B)) ∧ w'.cell? ⟨w.heap.size + 1, 1, none⟩ = some (.int .u64 (lo B)) ∧ w'.cell? ⟨gs, 0, none⟩ = some (.int .u64 (hi (A + B))) ∧ w'.cell? ⟨gs, 1, none⟩ = some (.int .u64 (lo (A + B))) ∧ Below w.heap.size w w')) (by kernel_rfl) ?hSr9_ (fun wq hHeld => ?_)
    case hSr9_ => (first | exact ⟨a0, a1, b0, b1, s0, s1, hbT.drew⟩ | exact ⟨cell_later hb hHeld.1, cell_later hb hHeld.2.1, cell_later hb hHeld.2.2.1, cell_later hb hHeld.2.2.2.1, cell_later hb hHeld.2.2.2.2.1, cell_later hb hHeld.2.2.2.2.2.1, below_step hHeld.2.2.2.2.2.2 hb⟩)
    refine wpAnyH_take (i := 0) (oi := { dst := some 20, op := Go.Op.load 24 (Go.Operand.tmp 2), type := 24, pos := _, after := #[], guard := none }) (v := ?vr9_1_0) rfl (by kernel_rfl) (by kernel_rfl) (by kernel_rfl) (fun _ _ _ h => h) (Or.inl ⟨by rfl, ?yr9_1_0⟩) hHeld ?_
    case yr9_1_0 => ((intro w hSw; (try dsimp only at hSw); go_simp) <;> with_reducible rfl)
    (try simp only [Act.put, List.setIfInBounds_toArray, List.set_cons_zero, List.set_cons_succ])
    refine wpAnyH_take (i := 2) (oi := { dst := some 22, op := Go.Op.load 24 (Go.Operand.tmp 3), type := 24, pos := _, after := #[], guard := none }) (v := ?vr9_2_2) rfl (by kernel_rfl) (by kernel_rfl) (by kernel_rfl) (fun _ _ _ h => h) (Or.inl ⟨by rfl, ?yr9_2_2⟩) hHeld ?_
    case yr9_2_2 => ((intro w hSw; (try dsimp only at hSw); go_simp) <;> with_reducible rfl)
    (try simp only [Act.put, List.setIfInBounds_toArray, List.set_cons_zero, List.set_cons_succ])
    refine wpAnyH_ready (rs := [1, 8]) (by kernel_rfl) (by simp) ?_
    refine AllReadyH.cons (o := { dst := some 21, op := Go.Op.call { callee := Go.Callee.value (Go.Operand.func 14), args := #[Go.Operand.tmp 20], argTypes := #[24] }, type := 27, pos := _, after := #[{ on := 0, ground := Go.Ground.data }], guard := none }) rfl (fun K hK => ?_) ?_
    · go_simp
      ((refine (as_h _ _).mono ?_); (rintro e wn ⟨rfl, hb⟩); (try replace Rn := Rn.later hb))
      go_wp2_with fail
      refine hK.out _ _ ?hSr9_3_1 (fun hHeld2 => ?_)
      case hSr9_3_1 => (first | exact ⟨a0, a1, b0, b1, s0, s1, hbT.drew⟩ | exact ⟨cell_later hb hHeld.1, cell_later hb hHeld.2.1, cell_later hb hHeld.2.2.1, cell_later hb hHeld.2.2.2.1, cell_later hb hHeld.2.2.2.2.1, cell_later hb hHeld.2.2.2.2.2.1, below_step hHeld.2.2.2.2.2.2 hb⟩)
      clear hK K hHeld
      have hHeld := hHeld2
      clear hHeld2
      rename World => wq
      (try simp only [Act.put, List.setIfInBounds_toArray, List.set_cons_zero, List.set_cons_succ])
      refine wpAnyH_ready (rs := [3, 8]) (by kernel_rfl) (by simp) ?_
      refine AllReadyH.cons (o := { dst := some 23, op := Go.Op.call { callee := Go.Callee.value (Go.Operand.func 14), args := #[Go.Operand.tmp 22], argTypes := #[24] }, type := 27, pos := _, after := #[{ on := 2, ground := Go.Ground.data }, { on := 1, ground := Go.Ground.chain }], guard := none }) rfl (fun K hK => ?_) ?_
      · go_simp
        ((refine (as_h _ _).mono ?_); (rintro e wn ⟨rfl, hb⟩); (try replace Rn := Rn.later hb))
        go_wp2_with fail
        refine hK.out _ _ ?hSr9_4_3 (fun hHeld2 => ?_)
        case hSr9_4_3 => (first | exact ⟨a0, a1, b0, b1, s0, s1, hbT.drew⟩ | exact ⟨cell_later hb hHeld.1, cell_later hb hHeld.2.1, cell_later hb hHeld.2.2.1, cell_later hb hHeld.2.2.2.1, cell_later hb hHeld.2.2.2.2.1, cell_later hb hHeld.2.2.2.2.2.1, below_step hHeld.2.2.2.2.2.2 hb⟩)
        clear hK K hHeld
        have hHeld := hHeld2
        clear hHeld2
        rename World => wq
        (try simp only [Act.put, List.setIfInBounds_toArray, List.set_cons_zero, List.set_cons_succ])
        refine wpAnyH_ready (rs := [4, 8]) (by kernel_rfl) (by simp) ?_
        refine AllReadyH.cons (o := { dst := some 24, op := Go.Op.call { callee := Go.Callee.value (Go.Operand.func 13), args := #[Go.Operand.tmp 21, Go.Operand.tmp 23], argTypes := #[27, 27] }, type := 28, pos := _, after := #[{ on := 1, ground := Go.Ground.data }, { on := 3, ground := Go.Ground.data }, { on := 3, ground := Go.Ground.chain }], guard := none }) rfl (fun K hK => ?_) ?_
        · go_simp
          ((refine (refAdd_t _ _ _).mono ?_); (rintro e wn ⟨rfl, hb⟩); (try replace Rn := Rn.later hb))
          go_wp2_with fail
          refine hK.out _ _ ?hSr9_5_4 (fun hHeld2 => ?_)
          case hSr9_5_4 => (first | exact ⟨a0, a1, b0, b1, s0, s1, hbT.drew⟩ | exact ⟨cell_later hb hHeld.1, cell_later hb hHeld.2.1, cell_later hb hHeld.2.2.1, cell_later hb hHeld.2.2.2.1, cell_later hb hHeld.2.2.2.2.1, cell_later hb hHeld.2.2.2.2.2.1, below_step hHeld.2.2.2.2.2.2 hb⟩)
          clear hK K hHeld
          have hHeld := hHeld2
          clear hHeld2
          rename World => wq
          (try simp only [Act.put, List.setIfInBounds_toArray, List.set_cons_zero, List.set_cons_succ])
          refine wpAnyH_take (i := 5) (oi := { dst := some 19, op := Go.Op.move (Go.Operand.tmp 24), type := 28, pos := _, after := #[{ on := 4, ground := Go.Ground.data }], guard := none }) (v := ?vr9_6_5) rfl (by kernel_rfl) (by kernel_rfl) (by kernel_rfl) (fun _ _ _ h => h) (Or.inl ⟨by rfl, ?yr9_6_5⟩) hHeld ?_
          case yr9_6_5 => ((intro w hSw; (try dsimp only at hSw); go_simp) <;> with_reducible rfl)
          (try simp only [Act.put, List.setIfInBounds_toArray, List.set_cons_zero, List.set_cons_succ])
          refine wpAnyH_take (i := 6) (oi := { dst := some 25, op := Go.Op.extract (Go.Operand.tmp 19) 0, type := 27, pos := _, after := #[{ on := 5, ground := Go.Ground.data }], guard := none }) (v := ?vr9_7_6) rfl (by kernel_rfl) (by kernel_rfl) (by kernel_rfl) (fun _ _ _ h => h) (Or.inl ⟨by rfl, ?yr9_7_6⟩) hHeld ?_
          case yr9_7_6 => ((intro w hSw; (try dsimp only at hSw); go_simp) <;> with_reducible rfl)
          (try simp only [Act.put, List.setIfInBounds_toArray, List.set_cons_zero, List.set_cons_succ])
          refine wpAnyH_take (i := 7) (oi := { dst := some 26, op := Go.Op.extract (Go.Operand.tmp 19) 1, type := 4, pos := _, after := #[{ on := 5, ground := Go.Ground.data }, { on := 9, ground := Go.Ground.gcOnly Go.Departure.lateStores }], guard := none }) (v := ?vr9_8_7) rfl (by kernel_rfl) (by kernel_rfl) (by kernel_rfl) (fun _ _ _ h => h) (Or.inl ⟨by rfl, ?yr9_8_7⟩) hHeld ?_
          case yr9_8_7 => ((intro w hSw; (try dsimp only at hSw); go_simp) <;> with_reducible rfl)
          (try simp only [Act.put, List.setIfInBounds_toArray, List.set_cons_zero, List.set_cons_succ])
          refine wpAnyH_ready (rs := [8]) (by kernel_rfl) (by simp) ?_
          refine AllReadyH.cons (o := { dst := some 7, op := Go.Op.alloc 27, type := 0, pos := _, after := #[], guard := none }) rfl (fun K hK => ?_) AllReadyH.nil
          (go_simp; (have ne0 := Nat.ne_of_lt (World.block_lt_of_cell? _ _ hHeld.1)); (have ne1 := Nat.ne_of_lt (World.block_lt_of_cell? _ _ hHeld.2.1)); (have ne2 := Nat.ne_of_lt (World.block_lt_of_cell? _ _ hHeld.2.2.1)); (have ne3 := Nat.ne_of_lt (World.block_lt_of_cell? _ _ hHeld.2.2.2.1)); (have ne4 := Nat.ne_of_lt (World.block_lt_of_cell? _ _ hHeld.2.2.2.2.1)); (have ne5 := Nat.ne_of_lt (World.block_lt_of_cell? _ _ hHeld.2.2.2.2.2.1)); (have mn := hHeld.2.2.2.2.2.2.size); (have Rn := Row.new wq #[.int .u64 0, .int .u64 0] 27); (have hb : Below wq.heap.size wq (wq.alloc (.cells #[.int .u64 0, .int .u64 0] 27)) := (Below.refl _ _).alloc (Nat.le_refl _) _); (have hSn := And.intro (cell_later hb hHeld.1) (And.intro (cell_later hb hHeld.2.1) (And.intro (cell_later hb hHeld.2.2.1) (And.intro (cell_later hb hHeld.2.2.2.1) (And.intro (cell_later hb hHeld.2.2.2.2.1) (And.intro (cell_later hb hHeld.2.2.2.2.2.1) (below_step hHeld.2.2.2.2.2.2 hb))))))); clear hb; generalize wq.alloc (.cells #[.int .u64 0, .int .u64 0] 27) = wn at *; generalize wq.heap.size = gx at *)
          refine hK.out _ _ ?hSr9_9_8 (fun hHeld2 => ?_)
          case hSr9_9_8 => (exact hSn)
          clear hK K hHeld
          have hHeld := hHeld2
          clear hHeld2
          rename World => wq
          (try simp only [Act.put, List.setIfInBounds_toArray, List.set_cons_zero, List.set_cons_succ])
          refine wpAnyH_ready (rs := [9]) (by kernel_rfl) (by simp) ?_
          refine AllReadyH.cons (o := { dst := none, op := Go.Op.store 27 (Go.Operand.tmp 7) (Go.Operand.tmp 25), type := 0, pos := _, after := #[{ on := 8, ground := Go.Ground.data }, { on := 6, ground := Go.Ground.data }, { on := 4, ground := Go.Ground.chain }, { on := 0, ground := Go.Ground.phase }, { on := 1, ground := Go.Ground.phase }, { on := 2, ground := Go.Ground.phase }, { on := 3, ground := Go.Ground.phase }, { on := 4, ground := Go.Ground.phase }, { on := 5, ground := Go.Ground.phase }, { on := 6, ground := Go.Ground.phase }, { on := 7, ground := Go.Ground.textOnly Go.Departure.lateStores }, { on := 8, ground := Go.Ground.phase }], guard := none }) rfl (fun K hK => ?_) AllReadyH.nil
          ((have c0 := Rn.cell 0); (have c1 := Rn.cell 1); (simp at c0 c1); (have f0 := Rn.frozen 0); (have f1 := Rn.frozen 1); go_simp; clear c0 c1 f0 f1; (have Rm := (Rn.set 0 (.int .u64 (hi (A + B)))).set 1 (.int .u64 (lo (A + B)))); (simp at Rm))
          refine hK.out _ _ ?hSr9_10_9 (fun hHeld2 => ?_)
          case hSr9_10_9 => (exact ⟨(World.cell?_setCell_far _ _ _ _ ne0.symm).trans ((World.cell?_setCell_far _ _ _ _ ne0.symm).trans hHeld.1), (World.cell?_setCell_far _ _ _ _ ne1.symm).trans ((World.cell?_setCell_far _ _ _ _ ne1.symm).trans hHeld.2.1), (World.cell?_setCell_far _ _ _ _ ne2.symm).trans ((World.cell?_setCell_far _ _ _ _ ne2.symm).trans hHeld.2.2.1), (World.cell?_setCell_far _ _ _ _ ne3.symm).trans ((World.cell?_setCell_far _ _ _ _ ne3.symm).trans hHeld.2.2.2.1), (World.cell?_setCell_far _ _ _ _ ne4.symm).trans ((World.cell?_setCell_far _ _ _ _ ne4.symm).trans hHeld.2.2.2.2.1), (World.cell?_setCell_far _ _ _ _ ne5.symm).trans ((World.cell?_setCell_far _ _ _ _ ne5.symm).trans hHeld.2.2.2.2.2.1), (hHeld.2.2.2.2.2.2.setCell mn _).setCell mn _⟩)
          clear hK K hHeld
          have hHeld := hHeld2
          clear hHeld2
          rename World => wq
          (try simp only [Act.put, List.setIfInBounds_toArray, List.set_cons_zero, List.set_cons_succ])
          refine wpAnyH_take (i := 10) (oi := { dst := some 8, op := Go.Op.assign (Go.Operand.tmp 26), type := 4, pos := _, after := #[{ on := 7, ground := Go.Ground.data }, { on := 9, ground := Go.Ground.chain }, { on := 0, ground := Go.Ground.phase }, { on := 1, ground := Go.Ground.phase }, { on := 2, ground := Go.Ground.phase }, { on := 3, ground := Go.Ground.phase }, { on := 4, ground := Go.Ground.phase }, { on := 5, ground := Go.Ground.phase }, { on := 6, ground := Go.Ground.phase }, { on := 7, ground := Go.Ground.phase }, { on := 8, ground := Go.Ground.phase }, { on := 9, ground := Go.Ground.phase }], guard := none }) (v := ?vr9_11_10) rfl (by kernel_rfl) (by kernel_rfl) (by kernel_rfl) (fun _ _ _ h => h) (Or.inl ⟨by rfl, ?yr9_11_10⟩) hHeld ?_
          case yr9_11_10 => ((intro w hSw; (try dsimp only at hSw); go_simp) <;> with_reducible rfl)
          (try simp only [Act.put, List.setIfInBounds_toArray, List.set_cons_zero, List.set_cons_succ])
          refine wpAnyH_done (by kernel_rfl) ?_ _
          (go_wp2_with fail; go_meet; exact ⟨gx, rfl, rfl, (by simpa using Rm.cell 0), (by simpa using Rm.cell 1), hHeld⟩)
        refine AllReadyH.cons (o := { dst := some 7, op := Go.Op.alloc 27, type := 0, pos := _, after := #[], guard := none }) rfl (fun K hK => ?_) AllReadyH.nil
        · (go_simp; (have ne0 := Nat.ne_of_lt (World.block_lt_of_cell? _ _ hHeld.1)); (have ne1 := Nat.ne_of_lt (World.block_lt_of_cell? _ _ hHeld.2.1)); (have ne2 := Nat.ne_of_lt (World.block_lt_of_cell? _ _ hHeld.2.2.1)); (have ne3 := Nat.ne_of_lt (World.block_lt_of_cell? _ _ hHeld.2.2.2.1)); (have ne4 := Nat.ne_of_lt (World.block_lt_of_cell? _ _ hHeld.2.2.2.2.1)); (have ne5 := Nat.ne_of_lt (World.block_lt_of_cell? _ _ hHeld.2.2.2.2.2.1)); (have mn := hHeld.2.2.2.2.2.2.size); (have Rn := Row.new wq #[.int .u64 0, .int .u64 0] 27); (have hb : Below wq.heap.size wq (wq.alloc (.cells #[.int .u64 0, .int .u64 0] 27)) := (Below.refl _ _).alloc (Nat.le_refl _) _); (have hSn := And.intro (cell_later hb hHeld.1) (And.intro (cell_later hb hHeld.2.1) (And.intro (cell_later hb hHeld.2.2.1) (And.intro (cell_later hb hHeld.2.2.2.1) (And.intro (cell_later hb hHeld.2.2.2.2.1) (And.intro (cell_later hb hHeld.2.2.2.2.2.1) (below_step hHeld.2.2.2.2.2.2 hb))))))); clear hb; generalize wq.alloc (.cells #[.int .u64 0, .int .u64 0] 27) = wn at *; generalize wq.heap.size = gx at *)
          refine hK.out _ _ ?hSr9_12_8 (fun hHeld2 => ?_)
          case hSr9_12_8 => (exact hSn)
          clear hK K hHeld
          have hHeld := hHeld2
          clear hHeld2
          rename World => wq
          (try simp only [Act.put, List.setIfInBounds_toArray, List.set_cons_zero, List.set_cons_succ])
          refine wpAnyH_ready (rs := [4]) (by kernel_rfl) (by simp) ?_
          refine AllReadyH.cons (o := { dst := some 24, op := Go.Op.call { callee := Go.Callee.value (Go.Operand.func 13), args := #[Go.Operand.tmp 21, Go.Operand.tmp 23], argTypes := #[27, 27] }, type := 28, pos := _, after := #[{ on := 1, ground := Go.Ground.data }, { on := 3, ground := Go.Ground.data }, { on := 3, ground := Go.Ground.chain }], guard := none }) rfl (fun K hK => ?_) AllReadyH.nil
          go_simp
          ((refine (refAdd_t _ _ _).mono ?_); (rintro e wn ⟨rfl, hb⟩); (try replace Rn := Rn.later hb))
          go_wp2_with fail
          refine hK.out _ _ ?hSr9_13_4 (fun hHeld2 => ?_)
          case hSr9_13_4 => (first | exact ⟨a0, a1, b0, b1, s0, s1, hbT.drew⟩ | exact ⟨cell_later hb hHeld.1, cell_later hb hHeld.2.1, cell_later hb hHeld.2.2.1, cell_later hb hHeld.2.2.2.1, cell_later hb hHeld.2.2.2.2.1, cell_later hb hHeld.2.2.2.2.2.1, below_step hHeld.2.2.2.2.2.2 hb⟩)
          clear hK K hHeld
          have hHeld := hHeld2
          clear hHeld2
          rename World => wq
          (try simp only [Act.put, List.setIfInBounds_toArray, List.set_cons_zero, List.set_cons_succ])
          refine wpAnyH_take (i := 5) (oi := { dst := some 19, op := Go.Op.move (Go.Operand.tmp 24), type := 28, pos := _, after := #[{ on := 4, ground := Go.Ground.data }], guard := none }) (v := ?vr9_14_5) rfl (by kernel_rfl) (by kernel_rfl) (by kernel_rfl) (fun _ _ _ h => h) (Or.inl ⟨by rfl, ?yr9_14_5⟩) hHeld ?_
          case yr9_14_5 => ((intro w hSw; (try dsimp only at hSw); go_simp) <;> with_reducible rfl)
          (try simp only [Act.put, List.setIfInBounds_toArray, List.set_cons_zero, List.set_cons_succ])
          refine wpAnyH_take (i := 6) (oi := { dst := some 25, op := Go.Op.extract (Go.Operand.tmp 19) 0, type := 27, pos := _, after := #[{ on := 5, ground := Go.Ground.data }], guard := none }) (v := ?vr9_15_6) rfl (by kernel_rfl) (by kernel_rfl) (by kernel_rfl) (fun _ _ _ h => h) (Or.inl ⟨by rfl, ?yr9_15_6⟩) hHeld ?_
          case yr9_15_6 => ((intro w hSw; (try dsimp only at hSw); go_simp) <;> with_reducible rfl)
          (try simp only [Act.put, List.setIfInBounds_toArray, List.set_cons_zero, List.set_cons_succ])
          refine wpAnyH_take (i := 7) (oi := { dst := some 26, op := Go.Op.extract (Go.Operand.tmp 19) 1, type := 4, pos := _, after := #[{ on := 5, ground := Go.Ground.data }, { on := 9, ground := Go.Ground.gcOnly Go.Departure.lateStores }], guard := none }) (v := ?vr9_16_7) rfl (by kernel_rfl) (by kernel_rfl) (by kernel_rfl) (fun _ _ _ h => h) (Or.inl ⟨by rfl, ?yr9_16_7⟩) hHeld ?_
          case yr9_16_7 => ((intro w hSw; (try dsimp only at hSw); go_simp) <;> with_reducible rfl)
          (try simp only [Act.put, List.setIfInBounds_toArray, List.set_cons_zero, List.set_cons_succ])
          refine wpAnyH_ready (rs := [9]) (by kernel_rfl) (by simp) ?_
          refine AllReadyH.cons (o := { dst := none, op := Go.Op.store 27 (Go.Operand.tmp 7) (Go.Operand.tmp 25), type := 0, pos := _, after := #[{ on := 8, ground := Go.Ground.data }, { on := 6, ground := Go.Ground.data }, { on := 4, ground := Go.Ground.chain }, { on := 0, ground := Go.Ground.phase }, { on := 1, ground := Go.Ground.phase }, { on := 2, ground := Go.Ground.phase }, { on := 3, ground := Go.Ground.phase }, { on := 4, ground := Go.Ground.phase }, { on := 5, ground := Go.Ground.phase }, { on := 6, ground := Go.Ground.phase }, { on := 7, ground := Go.Ground.textOnly Go.Departure.lateStores }, { on := 8, ground := Go.Ground.phase }], guard := none }) rfl (fun K hK => ?_) AllReadyH.nil
          ((have c0 := Rn.cell 0); (have c1 := Rn.cell 1); (simp at c0 c1); (have f0 := Rn.frozen 0); (have f1 := Rn.frozen 1); go_simp; clear c0 c1 f0 f1; (have Rm := (Rn.set 0 (.int .u64 (hi (A + B)))).set 1 (.int .u64 (lo (A + B)))); (simp at Rm))
          refine hK.out _ _ ?hSr9_17_9 (fun hHeld2 => ?_)
          case hSr9_17_9 => (exact ⟨(World.cell?_setCell_far _ _ _ _ ne0.symm).trans ((World.cell?_setCell_far _ _ _ _ ne0.symm).trans hHeld.1), (World.cell?_setCell_far _ _ _ _ ne1.symm).trans ((World.cell?_setCell_far _ _ _ _ ne1.symm).trans hHeld.2.1), (World.cell?_setCell_far _ _ _ _ ne2.symm).trans ((World.cell?_setCell_far _ _ _ _ ne2.symm).trans hHeld.2.2.1), (World.cell?_setCell_far _ _ _ _ ne3.symm).trans ((World.cell?_setCell_far _ _ _ _ ne3.symm).trans hHeld.2.2.2.1), (World.cell?_setCell_far _ _ _ _ ne4.symm).trans ((World.cell?_setCell_far _ _ _ _ ne4.symm).trans hHeld.2.2.2.2.1), (World.cell?_setCell_far _ _ _ _ ne5.symm).trans ((World.cell?_setCell_far _ _ _ _ ne5.symm).trans hHeld.2.2.2.2.2.1), (hHeld.2.2.2.2.2.2.setCell mn _).setCell mn _⟩)
          clear hK K hHeld
          have hHeld := hHeld2
          clear hHeld2
          rename World => wq
          (try simp only [Act.put, List.setIfInBounds_toArray, List.set_cons_zero, List.set_cons_succ])
          refine wpAnyH_take (i := 10) (oi := { dst := some 8, op := Go.Op.assign (Go.Operand.tmp 26), type := 4, pos := _, after := #[{ on := 7, ground := Go.Ground.data }, { on := 9, ground := Go.Ground.chain }, { on := 0, ground := Go.Ground.phase }, { on := 1, ground := Go.Ground.phase }, { on := 2, ground := Go.Ground.phase }, { on := 3, ground := Go.Ground.phase }, { on := 4, ground := Go.Ground.phase }, { on := 5, ground := Go.Ground.phase }, { on := 6, ground := Go.Ground.phase }, { on := 7, ground := Go.Ground.phase }, { on := 8, ground := Go.Ground.phase }, { on := 9, ground := Go.Ground.phase }], guard := none }) (v := ?vr9_18_10) rfl (by kernel_rfl) (by kernel_rfl) (by kernel_rfl) (fun _ _ _ h => h) (Or.inl ⟨by rfl, ?yr9_18_10⟩) hHeld ?_
          case yr9_18_10 => ((intro w hSw; (try dsimp only at hSw); go_simp) <;> with_reducible rfl)
          (try simp only [Act.put, List.setIfInBounds_toArray, List.set_cons_zero, List.set_cons_succ])
          refine wpAnyH_done (by kernel_rfl) ?_ _
          (go_wp2_with fail; go_meet; exact ⟨gx, rfl, rfl, (by simpa using Rm.cell 0), (by simpa using Rm.cell 1), hHeld⟩)
      refine AllReadyH.cons (o := { dst := some 7, op := Go.Op.alloc 27, type := 0, pos := _, after := #[], guard := none }) rfl (fun K hK => ?_) AllReadyH.nil
      · (go_simp; (have ne0 := Nat.ne_of_lt (World.block_lt_of_cell? _ _ hHeld.1)); (have ne1 := Nat.ne_of_lt (World.block_lt_of_cell? _ _ hHeld.2.1)); (have ne2 := Nat.ne_of_lt (World.block_lt_of_cell? _ _ hHeld.2.2.1)); (have ne3 := Nat.ne_of_lt (World.block_lt_of_cell? _ _ hHeld.2.2.2.1)); (have ne4 := Nat.ne_of_lt (World.block_lt_of_cell? _ _ hHeld.2.2.2.2.1)); (have ne5 := Nat.ne_of_lt (World.block_lt_of_cell? _ _ hHeld.2.2.2.2.2.1)); (have mn := hHeld.2.2.2.2.2.2.size); (have Rn := Row.new wq #[.int .u64 0, .int .u64 0] 27); (have hb : Below wq.heap.size wq (wq.alloc (.cells #[.int .u64 0, .int .u64 0] 27)) := (Below.refl _ _).alloc (Nat.le_refl _) _); (have hSn := And.intro (cell_later hb hHeld.1) (And.intro (cell_later hb hHeld.2.1) (And.intro (cell_later hb hHeld.2.2.1) (And.intro (cell_later hb hHeld.2.2.2.1) (And.intro (cell_later hb hHeld.2.2.2.2.1) (And.intro (cell_later hb hHeld.2.2.2.2.2.1) (below_step hHeld.2.2.2.2.2.2 hb))))))); clear hb; generalize wq.alloc (.cells #[.int .u64 0, .int .u64 0] 27) = wn at *; generalize wq.heap.size = gx at *)
        refine hK.out _ _ ?hSr9_19_8 (fun hHeld2 => ?_)
        case hSr9_19_8 => (exact hSn)
        clear hK K hHeld
        have hHeld := hHeld2
        clear hHeld2
        rename World => wq
        (try simp only [Act.put, List.setIfInBounds_toArray, List.set_cons_zero, List.set_cons_succ])
        refine wpAnyH_ready (rs := [3]) (by kernel_rfl) (by simp) ?_
        refine AllReadyH.cons (o := { dst := some 23, op := Go.Op.call { callee := Go.Callee.value (Go.Operand.func 14), args := #[Go.Operand.tmp 22], argTypes := #[24] }, type := 27, pos := _, after := #[{ on := 2, ground := Go.Ground.data }, { on := 1, ground := Go.Ground.chain }], guard := none }) rfl (fun K hK => ?_) AllReadyH.nil
        go_simp
        ((refine (as_h _ _).mono ?_); (rintro e wn ⟨rfl, hb⟩); (try replace Rn := Rn.later hb))
        go_wp2_with fail
        refine hK.out _ _ ?hSr9_20_3 (fun hHeld2 => ?_)
        case hSr9_20_3 => (first | exact ⟨a0, a1, b0, b1, s0, s1, hbT.drew⟩ | exact ⟨cell_later hb hHeld.1, cell_later hb hHeld.2.1, cell_later hb hHeld.2.2.1, cell_later hb hHeld.2.2.2.1, cell_later hb hHeld.2.2.2.2.1, cell_later hb hHeld.2.2.2.2.2.1, below_step hHeld.2.2.2.2.2.2 hb⟩)
        clear hK K hHeld
        have hHeld := hHeld2
        clear hHeld2
        rename World => wq
        (try simp only [Act.put, List.setIfInBounds_toArray, List.set_cons_zero, List.set_cons_succ])
        refine wpAnyH_ready (rs := [4]) (by kernel_rfl) (by simp) ?_
        refine AllReadyH.cons (o := { dst := some 24, op := Go.Op.call { callee := Go.Callee.value (Go.Operand.func 13), args := #[Go.Operand.tmp 21, Go.Operand.tmp 23], argTypes := #[27, 27] }, type := 28, pos := _, after := #[{ on := 1, ground := Go.Ground.data }, { on := 3, ground := Go.Ground.data }, { on := 3, ground := Go.Ground.chain }], guard := none }) rfl (fun K hK => ?_) AllReadyH.nil
        go_simp
        ((refine (refAdd_t _ _ _).mono ?_); (rintro e wn ⟨rfl, hb⟩); (try replace Rn := Rn.later hb))
        go_wp2_with fail
        refine hK.out _ _ ?hSr9_21_4 (fun hHeld2 => ?_)
        case hSr9_21_4 => (first | exact ⟨a0, a1, b0, b1, s0, s1, hbT.drew⟩ | exact ⟨cell_later hb hHeld.1, cell_later hb hHeld.2.1, cell_later hb hHeld.2.2.1, cell_later hb hHeld.2.2.2.1, cell_later hb hHeld.2.2.2.2.1, cell_later hb hHeld.2.2.2.2.2.1, below_step hHeld.2.2.2.2.2.2 hb⟩)
        clear hK K hHeld
        have hHeld := hHeld2
        clear hHeld2
        rename World => wq
        (try simp only [Act.put, List.setIfInBounds_toArray, List.set_cons_zero, List.set_cons_succ])
        refine wpAnyH_take (i := 5) (oi := { dst := some 19, op := Go.Op.move (Go.Operand.tmp 24), type := 28, pos := _, after := #[{ on := 4, ground := Go.Ground.data }], guard := none }) (v := ?vr9_22_5) rfl (by kernel_rfl) (by kernel_rfl) (by kernel_rfl) (fun _ _ _ h => h) (Or.inl ⟨by rfl, ?yr9_22_5⟩) hHeld ?_
        case yr9_22_5 => ((intro w hSw; (try dsimp only at hSw); go_simp) <;> with_reducible rfl)
        (try simp only [Act.put, List.setIfInBounds_toArray, List.set_cons_zero, List.set_cons_succ])
        refine wpAnyH_take (i := 6) (oi := { dst := some 25, op := Go.Op.extract (Go.Operand.tmp 19) 0, type := 27, pos := _, after := #[{ on := 5, ground := Go.Ground.data }], guard := none }) (v := ?vr9_23_6) rfl (by kernel_rfl) (by kernel_rfl) (by kernel_rfl) (fun _ _ _ h => h) (Or.inl ⟨by rfl, ?yr9_23_6⟩) hHeld ?_
        case yr9_23_6 => ((intro w hSw; (try dsimp only at hSw); go_simp) <;> with_reducible rfl)
        (try simp only [Act.put, List.setIfInBounds_toArray, List.set_cons_zero, List.set_cons_succ])
        refine wpAnyH_take (i := 7) (oi := { dst := some 26, op := Go.Op.extract (Go.Operand.tmp 19) 1, type := 4, pos := _, after := #[{ on := 5, ground := Go.Ground.data }, { on := 9, ground := Go.Ground.gcOnly Go.Departure.lateStores }], guard := none }) (v := ?vr9_24_7) rfl (by kernel_rfl) (by kernel_rfl) (by kernel_rfl) (fun _ _ _ h => h) (Or.inl ⟨by rfl, ?yr9_24_7⟩) hHeld ?_
        case yr9_24_7 => ((intro w hSw; (try dsimp only at hSw); go_simp) <;> with_reducible rfl)
        (try simp only [Act.put, List.setIfInBounds_toArray, List.set_cons_zero, List.set_cons_succ])
        refine wpAnyH_ready (rs := [9]) (by kernel_rfl) (by simp) ?_
        refine AllReadyH.cons (o := { dst := none, op := Go.Op.store 27 (Go.Operand.tmp 7) (Go.Operand.tmp 25), type := 0, pos := _, after := #[{ on := 8, ground := Go.Ground.data }, { on := 6, ground := Go.Ground.data }, { on := 4, ground := Go.Ground.chain }, { on := 0, ground := Go.Ground.phase }, { on := 1, ground := Go.Ground.phase }, { on := 2, ground := Go.Ground.phase }, { on := 3, ground := Go.Ground.phase }, { on := 4, ground := Go.Ground.phase }, { on := 5, ground := Go.Ground.phase }, { on := 6, ground := Go.Ground.phase }, { on := 7, ground := Go.Ground.textOnly Go.Departure.lateStores }, { on := 8, ground := Go.Ground.phase }], guard := none }) rfl (fun K hK => ?_) AllReadyH.nil
        ((have c0 := Rn.cell 0); (have c1 := Rn.cell 1); (simp at c0 c1); (have f0 := Rn.frozen 0); (have f1 := Rn.frozen 1); go_simp; clear c0 c1 f0 f1; (have Rm := (Rn.set 0 (.int .u64 (hi (A + B)))).set 1 (.int .u64 (lo (A + B)))); (simp at Rm))
        refine hK.out _ _ ?hSr9_25_9 (fun hHeld2 => ?_)
        case hSr9_25_9 => (exact ⟨(World.cell?_setCell_far _ _ _ _ ne0.symm).trans ((World.cell?_setCell_far _ _ _ _ ne0.symm).trans hHeld.1), (World.cell?_setCell_far _ _ _ _ ne1.symm).trans ((World.cell?_setCell_far _ _ _ _ ne1.symm).trans hHeld.2.1), (World.cell?_setCell_far _ _ _ _ ne2.symm).trans ((World.cell?_setCell_far _ _ _ _ ne2.symm).trans hHeld.2.2.1), (World.cell?_setCell_far _ _ _ _ ne3.symm).trans ((World.cell?_setCell_far _ _ _ _ ne3.symm).trans hHeld.2.2.2.1), (World.cell?_setCell_far _ _ _ _ ne4.symm).trans ((World.cell?_setCell_far _ _ _ _ ne4.symm).trans hHeld.2.2.2.2.1), (World.cell?_setCell_far _ _ _ _ ne5.symm).trans ((World.cell?_setCell_far _ _ _ _ ne5.symm).trans hHeld.2.2.2.2.2.1), (hHeld.2.2.2.2.2.2.setCell mn _).setCell mn _⟩)
        clear hK K hHeld
        have hHeld := hHeld2
        clear hHeld2
        rename World => wq
        (try simp only [Act.put, List.setIfInBounds_toArray, List.set_cons_zero, List.set_cons_succ])
        refine wpAnyH_take (i := 10) (oi := { dst := some 8, op := Go.Op.assign (Go.Operand.tmp 26), type := 4, pos := _, after := #[{ on := 7, ground := Go.Ground.data }, { on := 9, ground := Go.Ground.chain }, { on := 0, ground := Go.Ground.phase }, { on := 1, ground := Go.Ground.phase }, { on := 2, ground := Go.Ground.phase }, { on := 3, ground := Go.Ground.phase }, { on := 4, ground := Go.Ground.phase }, { on := 5, ground := Go.Ground.phase }, { on := 6, ground := Go.Ground.phase }, { on := 7, ground := Go.Ground.phase }, { on := 8, ground := Go.Ground.phase }, { on := 9, ground := Go.Ground.phase }], guard := none }) (v := ?vr9_26_10) rfl (by kernel_rfl) (by kernel_rfl) (by kernel_rfl) (fun _ _ _ h => h) (Or.inl ⟨by rfl, ?yr9_26_10⟩) hHeld ?_
        case yr9_26_10 => ((intro w hSw; (try dsimp only at hSw); go_simp) <;> with_reducible rfl)
        (try simp only [Act.put, List.setIfInBounds_toArray, List.set_cons_zero, List.set_cons_succ])
        refine wpAnyH_done (by kernel_rfl) ?_ _
        (go_wp2_with fail; go_meet; exact ⟨gx, rfl, rfl, (by simpa using Rm.cell 0), (by simpa using Rm.cell 1), hHeld⟩)
    refine AllReadyH.cons (o := { dst := some 7, op := Go.Op.alloc 27, type := 0, pos := _, after := #[], guard := none }) rfl (fun K hK => ?_) AllReadyH.nil
    · (go_simp; (have ne0 := Nat.ne_of_lt (World.block_lt_of_cell? _ _ hHeld.1)); (have ne1 := Nat.ne_of_lt (World.block_lt_of_cell? _ _ hHeld.2.1)); (have ne2 := Nat.ne_of_lt (World.block_lt_of_cell? _ _ hHeld.2.2.1)); (have ne3 := Nat.ne_of_lt (World.block_lt_of_cell? _ _ hHeld.2.2.2.1)); (have ne4 := Nat.ne_of_lt (World.block_lt_of_cell? _ _ hHeld.2.2.2.2.1)); (have ne5 := Nat.ne_of_lt (World.block_lt_of_cell? _ _ hHeld.2.2.2.2.2.1)); (have mn := hHeld.2.2.2.2.2.2.size); (have Rn := Row.new wq #[.int .u64 0, .int .u64 0] 27); (have hb : Below wq.heap.size wq (wq.alloc (.cells #[.int .u64 0, .int .u64 0] 27)) := (Below.refl _ _).alloc (Nat.le_refl _) _); (have hSn := And.intro (cell_later hb hHeld.1) (And.intro (cell_later hb hHeld.2.1) (And.intro (cell_later hb hHeld.2.2.1) (And.intro (cell_later hb hHeld.2.2.2.1) (And.intro (cell_later hb hHeld.2.2.2.2.1) (And.intro (cell_later hb hHeld.2.2.2.2.2.1) (below_step hHeld.2.2.2.2.2.2 hb))))))); clear hb; generalize wq.alloc (.cells #[.int .u64 0, .int .u64 0] 27) = wn at *; generalize wq.heap.size = gx at *)
      refine hK.out _ _ ?hSr9_27_8 (fun hHeld2 => ?_)
      case hSr9_27_8 => (exact hSn)
      clear hK K hHeld
      have hHeld := hHeld2
      clear hHeld2
      rename World => wq
      (try simp only [Act.put, List.setIfInBounds_toArray, List.set_cons_zero, List.set_cons_succ])
      refine wpAnyH_ready (rs := [1]) (by kernel_rfl) (by simp) ?_
      refine AllReadyH.cons (o := { dst := some 21, op := Go.Op.call { callee := Go.Callee.value (Go.Operand.func 14), args := #[Go.Operand.tmp 20], argTypes := #[24] }, type := 27, pos := _, after := #[{ on := 0, ground := Go.Ground.data }], guard := none }) rfl (fun K hK => ?_) AllReadyH.nil
      go_simp
      ((refine (as_h _ _).mono ?_); (rintro e wn ⟨rfl, hb⟩); (try replace Rn := Rn.later hb))
      go_wp2_with fail
      refine hK.out _ _ ?hSr9_28_1 (fun hHeld2 => ?_)
      case hSr9_28_1 => (first | exact ⟨a0, a1, b0, b1, s0, s1, hbT.drew⟩ | exact ⟨cell_later hb hHeld.1, cell_later hb hHeld.2.1, cell_later hb hHeld.2.2.1, cell_later hb hHeld.2.2.2.1, cell_later hb hHeld.2.2.2.2.1, cell_later hb hHeld.2.2.2.2.2.1, below_step hHeld.2.2.2.2.2.2 hb⟩)
      clear hK K hHeld
      have hHeld := hHeld2
      clear hHeld2
      rename World => wq
      (try simp only [Act.put, List.setIfInBounds_toArray, List.set_cons_zero, List.set_cons_succ])
      refine wpAnyH_ready (rs := [3]) (by kernel_rfl) (by simp) ?_
      refine AllReadyH.cons (o := { dst := some 23, op := Go.Op.call { callee := Go.Callee.value (Go.Operand.func 14), args := #[Go.Operand.tmp 22], argTypes := #[24] }, type := 27, pos := _, after := #[{ on := 2, ground := Go.Ground.data }, { on := 1, ground := Go.Ground.chain }], guard := none }) rfl (fun K hK => ?_) AllReadyH.nil
      go_simp
      ((refine (as_h _ _).mono ?_); (rintro e wn ⟨rfl, hb⟩); (try replace Rn := Rn.later hb))
      go_wp2_with fail
      refine hK.out _ _ ?hSr9_29_3 (fun hHeld2 => ?_)
      case hSr9_29_3 => (first | exact ⟨a0, a1, b0, b1, s0, s1, hbT.drew⟩ | exact ⟨cell_later hb hHeld.1, cell_later hb hHeld.2.1, cell_later hb hHeld.2.2.1, cell_later hb hHeld.2.2.2.1, cell_later hb hHeld.2.2.2.2.1, cell_later hb hHeld.2.2.2.2.2.1, below_step hHeld.2.2.2.2.2.2 hb⟩)
      clear hK K hHeld
      have hHeld := hHeld2
      clear hHeld2
      rename World => wq
      (try simp only [Act.put, List.setIfInBounds_toArray, List.set_cons_zero, List.set_cons_succ])
      refine wpAnyH_ready (rs := [4]) (by kernel_rfl) (by simp) ?_
      refine AllReadyH.cons (o := { dst := some 24, op := Go.Op.call { callee := Go.Callee.value (Go.Operand.func 13), args := #[Go.Operand.tmp 21, Go.Operand.tmp 23], argTypes := #[27, 27] }, type := 28, pos := _, after := #[{ on := 1, ground := Go.Ground.data }, { on := 3, ground := Go.Ground.data }, { on := 3, ground := Go.Ground.chain }], guard := none }) rfl (fun K hK => ?_) AllReadyH.nil
      go_simp
      ((refine (refAdd_t _ _ _).mono ?_); (rintro e wn ⟨rfl, hb⟩); (try replace Rn := Rn.later hb))
      go_wp2_with fail
      refine hK.out _ _ ?hSr9_30_4 (fun hHeld2 => ?_)
      case hSr9_30_4 => (first | exact ⟨a0, a1, b0, b1, s0, s1, hbT.drew⟩ | exact ⟨cell_later hb hHeld.1, cell_later hb hHeld.2.1, cell_later hb hHeld.2.2.1, cell_later hb hHeld.2.2.2.1, cell_later hb hHeld.2.2.2.2.1, cell_later hb hHeld.2.2.2.2.2.1, below_step hHeld.2.2.2.2.2.2 hb⟩)
      clear hK K hHeld
      have hHeld := hHeld2
      clear hHeld2
      rename World => wq
      (try simp only [Act.put, List.setIfInBounds_toArray, List.set_cons_zero, List.set_cons_succ])
      refine wpAnyH_take (i := 5) (oi := { dst := some 19, op := Go.Op.move (Go.Operand.tmp 24), type := 28, pos := _, after := #[{ on := 4, ground := Go.Ground.data }], guard := none }) (v := ?vr9_31_5) rfl (by kernel_rfl) (by kernel_rfl) (by kernel_rfl) (fun _ _ _ h => h) (Or.inl ⟨by rfl, ?yr9_31_5⟩) hHeld ?_
      case yr9_31_5 => ((intro w hSw; (try dsimp only at hSw); go_simp) <;> with_reducible rfl)
      (try simp only [Act.put, List.setIfInBounds_toArray, List.set_cons_zero, List.set_cons_succ])
      refine wpAnyH_take (i := 6) (oi := { dst := some 25, op := Go.Op.extract (Go.Operand.tmp 19) 0, type := 27, pos := _, after := #[{ on := 5, ground := Go.Ground.data }], guard := none }) (v := ?vr9_32_6) rfl (by kernel_rfl) (by kernel_rfl) (by kernel_rfl) (fun _ _ _ h => h) (Or.inl ⟨by rfl, ?yr9_32_6⟩) hHeld ?_
      case yr9_32_6 => ((intro w hSw; (try dsimp only at hSw); go_simp) <;> with_reducible rfl)
      (try simp only [Act.put, List.setIfInBounds_toArray, List.set_cons_zero, List.set_cons_succ])
      refine wpAnyH_take (i := 7) (oi := { dst := some 26, op := Go.Op.extract (Go.Operand.tmp 19) 1, type := 4, pos := _, after := #[{ on := 5, ground := Go.Ground.data }, { on := 9, ground := Go.Ground.gcOnly Go.Departure.lateStores }], guard := none }) (v := ?vr9_33_7) rfl (by kernel_rfl) (by kernel_rfl) (by kernel_rfl) (fun _ _ _ h => h) (Or.inl ⟨by rfl, ?yr9_33_7⟩) hHeld ?_
      case yr9_33_7 => ((intro w hSw; (try dsimp only at hSw); go_simp) <;> with_reducible rfl)
      (try simp only [Act.put, List.setIfInBounds_toArray, List.set_cons_zero, List.set_cons_succ])
      refine wpAnyH_ready (rs := [9]) (by kernel_rfl) (by simp) ?_
      refine AllReadyH.cons (o := { dst := none, op := Go.Op.store 27 (Go.Operand.tmp 7) (Go.Operand.tmp 25), type := 0, pos := _, after := #[{ on := 8, ground := Go.Ground.data }, { on := 6, ground := Go.Ground.data }, { on := 4, ground := Go.Ground.chain }, { on := 0, ground := Go.Ground.phase }, { on := 1, ground := Go.Ground.phase }, { on := 2, ground := Go.Ground.phase }, { on := 3, ground := Go.Ground.phase }, { on := 4, ground := Go.Ground.phase }, { on := 5, ground := Go.Ground.phase }, { on := 6, ground := Go.Ground.phase }, { on := 7, ground := Go.Ground.textOnly Go.Departure.lateStores }, { on := 8, ground := Go.Ground.phase }], guard := none }) rfl (fun K hK => ?_) AllReadyH.nil
      ((have c0 := Rn.cell 0); (have c1 := Rn.cell 1); (simp at c0 c1); (have f0 := Rn.frozen 0); (have f1 := Rn.frozen 1); go_simp; clear c0 c1 f0 f1; (have Rm := (Rn.set 0 (.int .u64 (hi (A + B)))).set 1 (.int .u64 (lo (A + B)))); (simp at Rm))
      refine hK.out _ _ ?hSr9_34_9 (fun hHeld2 => ?_)
      case hSr9_34_9 => (exact ⟨(World.cell?_setCell_far _ _ _ _ ne0.symm).trans ((World.cell?_setCell_far _ _ _ _ ne0.symm).trans hHeld.1), (World.cell?_setCell_far _ _ _ _ ne1.symm).trans ((World.cell?_setCell_far _ _ _ _ ne1.symm).trans hHeld.2.1), (World.cell?_setCell_far _ _ _ _ ne2.symm).trans ((World.cell?_setCell_far _ _ _ _ ne2.symm).trans hHeld.2.2.1), (World.cell?_setCell_far _ _ _ _ ne3.symm).trans ((World.cell?_setCell_far _ _ _ _ ne3.symm).trans hHeld.2.2.2.1), (World.cell?_setCell_far _ _ _ _ ne4.symm).trans ((World.cell?_setCell_far _ _ _ _ ne4.symm).trans hHeld.2.2.2.2.1), (World.cell?_setCell_far _ _ _ _ ne5.symm).trans ((World.cell?_setCell_far _ _ _ _ ne5.symm).trans hHeld.2.2.2.2.2.1), (hHeld.2.2.2.2.2.2.setCell mn _).setCell mn _⟩)
      clear hK K hHeld
      have hHeld := hHeld2
      clear hHeld2
      rename World => wq
      (try simp only [Act.put, List.setIfInBounds_toArray, List.set_cons_zero, List.set_cons_succ])
      refine wpAnyH_take (i := 10) (oi := { dst := some 8, op := Go.Op.assign (Go.Operand.tmp 26), type := 4, pos := _, after := #[{ on := 7, ground := Go.Ground.data }, { on := 9, ground := Go.Ground.chain }, { on := 0, ground := Go.Ground.phase }, { on := 1, ground := Go.Ground.phase }, { on := 2, ground := Go.Ground.phase }, { on := 3, ground := Go.Ground.phase }, { on := 4, ground := Go.Ground.phase }, { on := 5, ground := Go.Ground.phase }, { on := 6, ground := Go.Ground.phase }, { on := 7, ground := Go.Ground.phase }, { on := 8, ground := Go.Ground.phase }, { on := 9, ground := Go.Ground.phase }], guard := none }) (v := ?vr9_35_10) rfl (by kernel_rfl) (by kernel_rfl) (by kernel_rfl) (fun _ _ _ h => h) (Or.inl ⟨by rfl, ?yr9_35_10⟩) hHeld ?_
      case yr9_35_10 => ((intro w hSw; (try dsimp only at hSw); go_simp) <;> with_reducible rfl)
      (try simp only [Act.put, List.setIfInBounds_toArray, List.set_cons_zero, List.set_cons_succ])
      refine wpAnyH_done (by kernel_rfl) ?_ _
      (go_wp2_with fail; go_meet; exact ⟨gx, rfl, rfl, (by simpa using Rm.cell 0), (by simpa using Rm.cell 1), hHeld⟩)
  case rest =>
    clear a0 a1 b0 b1 s0 s1 hbT
    obtain ⟨gx, rfl, rfl, x0, x1, a0, a1, b0, b1, s0, s1, hbT⟩ := hcut
    go_wp2_with fail
    refine (sub_h A B _).mono ?_; rintro e w3 ⟨rfl, hx3⟩
    replace a0 := cell_later hx3 a0
    replace a1 := cell_later hx3 a1
    replace b0 := cell_later hx3 b0
    replace b1 := cell_later hx3 b1
    replace s0 := cell_later hx3 s0
    replace s1 := cell_later hx3 s1
    replace x0 := cell_later hx3 x0
    replace x1 := cell_later hx3 x1
    replace hbT := below_step hbT hx3
    clear hx3
    go_wp2
    have hbg : Below w3.heap.size w3 (w3.alloc (.cells #[.int .u64 (hi (A - B)), .int .u64 (lo (A - B))] 24)) := (Below.refl _ _).alloc (Nat.le_refl _) _
    replace a0 := cell_later hbg a0
    replace a1 := cell_later hbg a1
    replace b0 := cell_later hbg b0
    replace b1 := cell_later hbg b1
    replace s0 := cell_later hbg s0
    replace s1 := cell_later hbg s1
    replace x0 := cell_later hbg x0
    replace x1 := cell_later hbg x1
    have d0 : (w3.alloc (.cells #[.int .u64 (hi (A - B)), .int .u64 (lo (A - B))] 24)).cell? ⟨w3.heap.size, 0, none⟩ = some (.int .u64 (hi (A - B))) := by simp [go_sem]
    have d1 : (w3.alloc (.cells #[.int .u64 (hi (A - B)), .int .u64 (lo (A - B))] 24)).cell? ⟨w3.heap.size, 1, none⟩ = some (.int .u64 (lo (A - B))) := by simp [go_sem]
    replace hbT := below_step hbT hbg
    clear hbg
    generalize (w3.alloc (.cells #[.int .u64 (hi (A - B)), .int .u64 (lo (A - B))] 24)) = w4 at *
    generalize w3.heap.size = gd at *
    go_cut [11, 12] (fun s11 s12 wx => ∃ gy : Nat, s11 = .pointer (some ⟨gy, 0, none⟩) ∧ s12 = .bool (subB (A % MM) (B % MM)) ∧ wx.cell? ⟨gy, 0, none⟩ = some (.int .u64 (hi (A - B))) ∧ wx.cell? ⟨gy, 1, none⟩ = some (.int .u64 (lo (A - B))) ∧ wx.cell? ⟨w.heap.size, 0, none⟩ = some (.int .u64 (hi A)) ∧ wx.cell? ⟨w.heap.size, 1, none⟩ = some (.int .u64 (lo A)) ∧ wx.cell? ⟨w.heap.size + 1, 0, none⟩ = some (.int .u64 (hi B)) ∧ wx.cell? ⟨w.heap.size + 1, 1, none⟩ = some (.int .u64 (lo B)) ∧ wx.cell? ⟨gs, 0, none⟩ = some (.int .u64 (hi (A + B))) ∧ wx.cell? ⟨gs, 1, none⟩ = some (.int .u64 (lo (A + B))) ∧ wx.cell? ⟨gx, 0, none⟩ = some (.int .u64 (hi (A + B))) ∧ wx.cell? ⟨gx, 1, none⟩ = some (.int .u64 (lo (A + B))) ∧ wx.cell? ⟨gd, 0, none⟩ = some (.int .u64 (hi (A - B))) ∧ wx.cell? ⟨gd, 1, none⟩ = some (.int .u64 (lo (A - B))) ∧ Below w.heap.size w wx)
    case first =>
      refine region_any (S := (fun w' => w'.cell? ⟨w.heap.size, 0, none⟩ = some (.int .u64 (hi A)) ∧ w'.cell? ⟨w.heap.size, 1, none⟩ = some (.int .u64 (lo A)) ∧ w'.cell? ⟨w.heap.size + 1, 0, none⟩ = some (.int .u64 (hi B)) ∧ w'.cell? ⟨w.heap.size + 1, 1, none⟩ = some (.int .u64 (lo B)) ∧ w'.cell? ⟨gs, 0, none⟩ = some (.int .u64 (hi (A + B))) ∧ w'.cell? ⟨gs, 1, none⟩ = some (.int .u64 (lo (A + B))) ∧ w'.cell? ⟨gx, 0, none⟩ = some (.int .u64 (hi (A + B))) ∧ w'.cell? ⟨gx, 1, none⟩ = some (.int .u64 (lo (A + B))) ∧ w'.cell? ⟨gd, 0, none⟩ = some (.int .u64 (hi (A - B))) ∧ w'.cell? ⟨gd, 1, none⟩ = some (.int .u64 (lo (A - B))) ∧ Below w.heap.size w w')) (by kernel_rfl) ?hSr10_ (fun wq hHeld => ?_)
      case hSr10_ => (first | exact ⟨a0, a1, b0, b1, s0, s1, x0, x1, d0, d1, hbT.drew⟩ | exact ⟨cell_later hb hHeld.1, cell_later hb hHeld.2.1, cell_later hb hHeld.2.2.1, cell_later hb hHeld.2.2.2.1, cell_later hb hHeld.2.2.2.2.1, cell_later hb hHeld.2.2.2.2.2.1, cell_later hb hHeld.2.2.2.2.2.2.1, cell_later hb hHeld.2.2.2.2.2.2.2.1, cell_later hb hHeld.2.2.2.2.2.2.2.2.1, cell_later hb hHeld.2.2.2.2.2.2.2.2.2.1, below_step hHeld.2.2.2.2.2.2.2.2.2.2 hb⟩)
      refine wpAnyH_take (i := 0) (oi := { dst := some 34, op := Go.Op.load 24 (Go.Operand.tmp 2), type := 24, pos := _, after := #[], guard := none }) (v := ?vr10_1_0) rfl (by kernel_rfl) (by kernel_rfl) (by kernel_rfl) (fun _ _ _ h => h) (Or.inl ⟨by rfl, ?yr10_1_0⟩) hHeld ?_
      case yr10_1_0 => ((intro w hSw; (try dsimp only at hSw); go_simp) <;> with_reducible rfl)
      (try simp only [Act.put, List.setIfInBounds_toArray, List.set_cons_zero, List.set_cons_succ])
      refine wpAnyH_take (i := 2) (oi := { dst := some 36, op := Go.Op.load 24 (Go.Operand.tmp 3), type := 24, pos := _, after := #[], guard := none }) (v := ?vr10_2_2) rfl (by kernel_rfl) (by kernel_rfl) (by kernel_rfl) (fun _ _ _ h => h) (Or.inl ⟨by rfl, ?yr10_2_2⟩) hHeld ?_
      case yr10_2_2 => ((intro w hSw; (try dsimp only at hSw); go_simp) <;> with_reducible rfl)
      (try simp only [Act.put, List.setIfInBounds_toArray, List.set_cons_zero, List.set_cons_succ])
      refine wpAnyH_ready (rs := [1, 8]) (by kernel_rfl) (by simp) ?_
      refine AllReadyH.cons (o := { dst := some 35, op := Go.Op.call { callee := Go.Callee.value (Go.Operand.func 14), args := #[Go.Operand.tmp 34], argTypes := #[24] }, type := 27, pos := _, after := #[{ on := 0, ground := Go.Ground.data }], guard := none }) rfl (fun K hK => ?_) ?_
      · go_simp
        ((refine (as_h _ _).mono ?_); (rintro e wn ⟨rfl, hb⟩); (try replace Rn := Rn.later hb))
        go_wp2_with fail
        refine hK.out _ _ ?hSr10_3_1 (fun hHeld2 => ?_)
        case hSr10_3_1 => (first | exact ⟨a0, a1, b0, b1, s0, s1, x0, x1, d0, d1, hbT.drew⟩ | exact ⟨cell_later hb hHeld.1, cell_later hb hHeld.2.1, cell_later hb hHeld.2.2.1, cell_later hb hHeld.2.2.2.1, cell_later hb hHeld.2.2.2.2.1, cell_later hb hHeld.2.2.2.2.2.1, cell_later hb hHeld.2.2.2.2.2.2.1, cell_later hb hHeld.2.2.2.2.2.2.2.1, cell_later hb hHeld.2.2.2.2.2.2.2.2.1, cell_later hb hHeld.2.2.2.2.2.2.2.2.2.1, below_step hHeld.2.2.2.2.2.2.2.2.2.2 hb⟩)
        clear hK K hHeld
        have hHeld := hHeld2
        clear hHeld2
        rename World => wq
        (try simp only [Act.put, List.setIfInBounds_toArray, List.set_cons_zero, List.set_cons_succ])
        refine wpAnyH_ready (rs := [3, 8]) (by kernel_rfl) (by simp) ?_
        refine AllReadyH.cons (o := { dst := some 37, op := Go.Op.call { callee := Go.Callee.value (Go.Operand.func 14), args := #[Go.Operand.tmp 36], argTypes := #[24] }, type := 27, pos := _, after := #[{ on := 2, ground := Go.Ground.data }, { on := 1, ground := Go.Ground.chain }], guard := none }) rfl (fun K hK => ?_) ?_
        · go_simp
          ((refine (as_h _ _).mono ?_); (rintro e wn ⟨rfl, hb⟩); (try replace Rn := Rn.later hb))
          go_wp2_with fail
          refine hK.out _ _ ?hSr10_4_3 (fun hHeld2 => ?_)
          case hSr10_4_3 => (first | exact ⟨a0, a1, b0, b1, s0, s1, x0, x1, d0, d1, hbT.drew⟩ | exact ⟨cell_later hb hHeld.1, cell_later hb hHeld.2.1, cell_later hb hHeld.2.2.1, cell_later hb hHeld.2.2.2.1, cell_later hb hHeld.2.2.2.2.1, cell_later hb hHeld.2.2.2.2.2.1, cell_later hb hHeld.2.2.2.2.2.2.1, cell_later hb hHeld.2.2.2.2.2.2.2.1, cell_later hb hHeld.2.2.2.2.2.2.2.2.1, cell_later hb hHeld.2.2.2.2.2.2.2.2.2.1, below_step hHeld.2.2.2.2.2.2.2.2.2.2 hb⟩)
          clear hK K hHeld
          have hHeld := hHeld2
          clear hHeld2
          rename World => wq
          (try simp only [Act.put, List.setIfInBounds_toArray, List.set_cons_zero, List.set_cons_succ])
          refine wpAnyH_ready (rs := [4, 8]) (by kernel_rfl) (by simp) ?_
          refine AllReadyH.cons (o := { dst := some 38, op := Go.Op.call { callee := Go.Callee.value (Go.Operand.func 16), args := #[Go.Operand.tmp 35, Go.Operand.tmp 37], argTypes := #[27, 27] }, type := 28, pos := _, after := #[{ on := 1, ground := Go.Ground.data }, { on := 3, ground := Go.Ground.data }, { on := 3, ground := Go.Ground.chain }], guard := none }) rfl (fun K hK => ?_) ?_
          · go_simp
            ((refine (refSub_t _ _ _).mono ?_); (rintro e wn ⟨rfl, hb⟩); (try replace Rn := Rn.later hb))
            go_wp2_with fail
            refine hK.out _ _ ?hSr10_5_4 (fun hHeld2 => ?_)
            case hSr10_5_4 => (first | exact ⟨a0, a1, b0, b1, s0, s1, x0, x1, d0, d1, hbT.drew⟩ | exact ⟨cell_later hb hHeld.1, cell_later hb hHeld.2.1, cell_later hb hHeld.2.2.1, cell_later hb hHeld.2.2.2.1, cell_later hb hHeld.2.2.2.2.1, cell_later hb hHeld.2.2.2.2.2.1, cell_later hb hHeld.2.2.2.2.2.2.1, cell_later hb hHeld.2.2.2.2.2.2.2.1, cell_later hb hHeld.2.2.2.2.2.2.2.2.1, cell_later hb hHeld.2.2.2.2.2.2.2.2.2.1, below_step hHeld.2.2.2.2.2.2.2.2.2.2 hb⟩)
            clear hK K hHeld
            have hHeld := hHeld2
            clear hHeld2
            rename World => wq
            (try simp only [Act.put, List.setIfInBounds_toArray, List.set_cons_zero, List.set_cons_succ])
            refine wpAnyH_take (i := 5) (oi := { dst := some 33, op := Go.Op.move (Go.Operand.tmp 38), type := 28, pos := _, after := #[{ on := 4, ground := Go.Ground.data }], guard := none }) (v := ?vr10_6_5) rfl (by kernel_rfl) (by kernel_rfl) (by kernel_rfl) (fun _ _ _ h => h) (Or.inl ⟨by rfl, ?yr10_6_5⟩) hHeld ?_
            case yr10_6_5 => ((intro w hSw; (try dsimp only at hSw); go_simp) <;> with_reducible rfl)
            (try simp only [Act.put, List.setIfInBounds_toArray, List.set_cons_zero, List.set_cons_succ])
            refine wpAnyH_take (i := 6) (oi := { dst := some 39, op := Go.Op.extract (Go.Operand.tmp 33) 0, type := 27, pos := _, after := #[{ on := 5, ground := Go.Ground.data }], guard := none }) (v := ?vr10_7_6) rfl (by kernel_rfl) (by kernel_rfl) (by kernel_rfl) (fun _ _ _ h => h) (Or.inl ⟨by rfl, ?yr10_7_6⟩) hHeld ?_
            case yr10_7_6 => ((intro w hSw; (try dsimp only at hSw); go_simp) <;> with_reducible rfl)
            (try simp only [Act.put, List.setIfInBounds_toArray, List.set_cons_zero, List.set_cons_succ])
            refine wpAnyH_take (i := 7) (oi := { dst := some 40, op := Go.Op.extract (Go.Operand.tmp 33) 1, type := 4, pos := _, after := #[{ on := 5, ground := Go.Ground.data }, { on := 9, ground := Go.Ground.gcOnly Go.Departure.lateStores }], guard := none }) (v := ?vr10_8_7) rfl (by kernel_rfl) (by kernel_rfl) (by kernel_rfl) (fun _ _ _ h => h) (Or.inl ⟨by rfl, ?yr10_8_7⟩) hHeld ?_
            case yr10_8_7 => ((intro w hSw; (try dsimp only at hSw); go_simp) <;> with_reducible rfl)
            (try simp only [Act.put, List.setIfInBounds_toArray, List.set_cons_zero, List.set_cons_succ])
            refine wpAnyH_ready (rs := [8]) (by kernel_rfl) (by simp) ?_
            refine AllReadyH.cons (o := { dst := some 11, op := Go.Op.alloc 27, type := 0, pos := _, after := #[], guard := none }) rfl (fun K hK => ?_) AllReadyH.nil
            (go_simp; (have ne0 := Nat.ne_of_lt (World.block_lt_of_cell? _ _ hHeld.1)); (have ne1 := Nat.ne_of_lt (World.block_lt_of_cell? _ _ hHeld.2.1)); (have ne2 := Nat.ne_of_lt (World.block_lt_of_cell? _ _ hHeld.2.2.1)); (have ne3 := Nat.ne_of_lt (World.block_lt_of_cell? _ _ hHeld.2.2.2.1)); (have ne4 := Nat.ne_of_lt (World.block_lt_of_cell? _ _ hHeld.2.2.2.2.1)); (have ne5 := Nat.ne_of_lt (World.block_lt_of_cell? _ _ hHeld.2.2.2.2.2.1)); (have ne6 := Nat.ne_of_lt (World.block_lt_of_cell? _ _ hHeld.2.2.2.2.2.2.1)); (have ne7 := Nat.ne_of_lt (World.block_lt_of_cell? _ _ hHeld.2.2.2.2.2.2.2.1)); (have ne8 := Nat.ne_of_lt (World.block_lt_of_cell? _ _ hHeld.2.2.2.2.2.2.2.2.1)); (have ne9 := Nat.ne_of_lt (World.block_lt_of_cell? _ _ hHeld.2.2.2.2.2.2.2.2.2.1)); (have mn := hHeld.2.2.2.2.2.2.2.2.2.2.size); (have Rn := Row.new wq #[.int .u64 0, .int .u64 0] 27); (have hb : Below wq.heap.size wq (wq.alloc (.cells #[.int .u64 0, .int .u64 0] 27)) := (Below.refl _ _).alloc (Nat.le_refl _) _); (have hSn := And.intro (cell_later hb hHeld.1) (And.intro (cell_later hb hHeld.2.1) (And.intro (cell_later hb hHeld.2.2.1) (And.intro (cell_later hb hHeld.2.2.2.1) (And.intro (cell_later hb hHeld.2.2.2.2.1) (And.intro (cell_later hb hHeld.2.2.2.2.2.1) (And.intro (cell_later hb hHeld.2.2.2.2.2.2.1) (And.intro (cell_later hb hHeld.2.2.2.2.2.2.2.1) (And.intro (cell_later hb hHeld.2.2.2.2.2.2.2.2.1) (And.intro (cell_later hb hHeld.2.2.2.2.2.2.2.2.2.1) (below_step hHeld.2.2.2.2.2.2.2.2.2.2 hb))))))))))); clear hb; generalize wq.alloc (.cells #[.int .u64 0, .int .u64 0] 27) = wn at *; generalize wq.heap.size = gy at *)
            refine hK.out _ _ ?hSr10_9_8 (fun hHeld2 => ?_)
            case hSr10_9_8 => (exact hSn)
            clear hK K hHeld
            have hHeld := hHeld2
            clear hHeld2
            rename World => wq
            (try simp only [Act.put, List.setIfInBounds_toArray, List.set_cons_zero, List.set_cons_succ])
            refine wpAnyH_ready (rs := [9]) (by kernel_rfl) (by simp) ?_
            refine AllReadyH.cons (o := { dst := none, op := Go.Op.store 27 (Go.Operand.tmp 11) (Go.Operand.tmp 39), type := 0, pos := _, after := #[{ on := 8, ground := Go.Ground.data }, { on := 6, ground := Go.Ground.data }, { on := 4, ground := Go.Ground.chain }, { on := 0, ground := Go.Ground.phase }, { on := 1, ground := Go.Ground.phase }, { on := 2, ground := Go.Ground.phase }, { on := 3, ground := Go.Ground.phase }, { on := 4, ground := Go.Ground.phase }, { on := 5, ground := Go.Ground.phase }, { on := 6, ground := Go.Ground.phase }, { on := 7, ground := Go.Ground.textOnly Go.Departure.lateStores }, { on := 8, ground := Go.Ground.phase }], guard := none }) rfl (fun K hK => ?_) AllReadyH.nil
            ((have c0 := Rn.cell 0); (have c1 := Rn.cell 1); (simp at c0 c1); (have f0 := Rn.frozen 0); (have f1 := Rn.frozen 1); go_simp; clear c0 c1 f0 f1; (have Rm := (Rn.set 0 (.int .u64 (hi (A - B)))).set 1 (.int .u64 (lo (A - B)))); (simp at Rm))
            refine hK.out _ _ ?hSr10_10_9 (fun hHeld2 => ?_)
            case hSr10_10_9 => (exact ⟨(World.cell?_setCell_far _ _ _ _ ne0.symm).trans ((World.cell?_setCell_far _ _ _ _ ne0.symm).trans hHeld.1), (World.cell?_setCell_far _ _ _ _ ne1.symm).trans ((World.cell?_setCell_far _ _ _ _ ne1.symm).trans hHeld.2.1), (World.cell?_setCell_far _ _ _ _ ne2.symm).trans ((World.cell?_setCell_far _ _ _ _ ne2.symm).trans hHeld.2.2.1), (World.cell?_setCell_far _ _ _ _ ne3.symm).trans ((World.cell?_setCell_far _ _ _ _ ne3.symm).trans hHeld.2.2.2.1), (World.cell?_setCell_far _ _ _ _ ne4.symm).trans ((World.cell?_setCell_far _ _ _ _ ne4.symm).trans hHeld.2.2.2.2.1), (World.cell?_setCell_far _ _ _ _ ne5.symm).trans ((World.cell?_setCell_far _ _ _ _ ne5.symm).trans hHeld.2.2.2.2.2.1), (World.cell?_setCell_far _ _ _ _ ne6.symm).trans ((World.cell?_setCell_far _ _ _ _ ne6.symm).trans hHeld.2.2.2.2.2.2.1), (World.cell?_setCell_far _ _ _ _ ne7.symm).trans ((World.cell?_setCell_far _ _ _ _ ne7.symm).trans hHeld.2.2.2.2.2.2.2.1), (World.cell?_setCell_far _ _ _ _ ne8.symm).trans ((World.cell?_setCell_far _ _ _ _ ne8.symm).trans hHeld.2.2.2.2.2.2.2.2.1), (World.cell?_setCell_far _ _ _ _ ne9.symm).trans ((World.cell?_setCell_far _ _ _ _ ne9.symm).trans hHeld.2.2.2.2.2.2.2.2.2.1), (hHeld.2.2.2.2.2.2.2.2.2.2.setCell mn _).setCell mn _⟩)
            clear hK K hHeld
            have hHeld := hHeld2
            clear hHeld2
            rename World => wq
            (try simp only [Act.put, List.setIfInBounds_toArray, List.set_cons_zero, List.set_cons_succ])
            refine wpAnyH_take (i := 10) (oi := { dst := some 12, op := Go.Op.assign (Go.Operand.tmp 40), type := 4, pos := _, after := #[{ on := 7, ground := Go.Ground.data }, { on := 9, ground := Go.Ground.chain }, { on := 0, ground := Go.Ground.phase }, { on := 1, ground := Go.Ground.phase }, { on := 2, ground := Go.Ground.phase }, { on := 3, ground := Go.Ground.phase }, { on := 4, ground := Go.Ground.phase }, { on := 5, ground := Go.Ground.phase }, { on := 6, ground := Go.Ground.phase }, { on := 7, ground := Go.Ground.phase }, { on := 8, ground := Go.Ground.phase }, { on := 9, ground := Go.Ground.phase }], guard := none }) (v := ?vr10_11_10) rfl (by kernel_rfl) (by kernel_rfl) (by kernel_rfl) (fun _ _ _ h => h) (Or.inl ⟨by rfl, ?yr10_11_10⟩) hHeld ?_
            case yr10_11_10 => ((intro w hSw; (try dsimp only at hSw); go_simp) <;> with_reducible rfl)
            (try simp only [Act.put, List.setIfInBounds_toArray, List.set_cons_zero, List.set_cons_succ])
            refine wpAnyH_done (by kernel_rfl) ?_ _
            (go_wp2_with fail; go_meet; exact ⟨gy, rfl, rfl, (by simpa using Rm.cell 0), (by simpa using Rm.cell 1), hHeld⟩)
          refine AllReadyH.cons (o := { dst := some 11, op := Go.Op.alloc 27, type := 0, pos := _, after := #[], guard := none }) rfl (fun K hK => ?_) AllReadyH.nil
          · (go_simp; (have ne0 := Nat.ne_of_lt (World.block_lt_of_cell? _ _ hHeld.1)); (have ne1 := Nat.ne_of_lt (World.block_lt_of_cell? _ _ hHeld.2.1)); (have ne2 := Nat.ne_of_lt (World.block_lt_of_cell? _ _ hHeld.2.2.1)); (have ne3 := Nat.ne_of_lt (World.block_lt_of_cell? _ _ hHeld.2.2.2.1)); (have ne4 := Nat.ne_of_lt (World.block_lt_of_cell? _ _ hHeld.2.2.2.2.1)); (have ne5 := Nat.ne_of_lt (World.block_lt_of_cell? _ _ hHeld.2.2.2.2.2.1)); (have ne6 := Nat.ne_of_lt (World.block_lt_of_cell? _ _ hHeld.2.2.2.2.2.2.1)); (have ne7 := Nat.ne_of_lt (World.block_lt_of_cell? _ _ hHeld.2.2.2.2.2.2.2.1)); (have ne8 := Nat.ne_of_lt (World.block_lt_of_cell? _ _ hHeld.2.2.2.2.2.2.2.2.1)); (have ne9 := Nat.ne_of_lt (World.block_lt_of_cell? _ _ hHeld.2.2.2.2.2.2.2.2.2.1)); (have mn := hHeld.2.2.2.2.2.2.2.2.2.2.size); (have Rn := Row.new wq #[.int .u64 0, .int .u64 0] 27); (have hb : Below wq.heap.size wq (wq.alloc (.cells #[.int .u64 0, .int .u64 0] 27)) := (Below.refl _ _).alloc (Nat.le_refl _) _); (have hSn := And.intro (cell_later hb hHeld.1) (And.intro (cell_later hb hHeld.2.1) (And.intro (cell_later hb hHeld.2.2.1) (And.intro (cell_later hb hHeld.2.2.2.1) (And.intro (cell_later hb hHeld.2.2.2.2.1) (And.intro (cell_later hb hHeld.2.2.2.2.2.1) (And.intro (cell_later hb hHeld.2.2.2.2.2.2.1) (And.intro (cell_later hb hHeld.2.2.2.2.2.2.2.1) (And.intro (cell_later hb hHeld.2.2.2.2.2.2.2.2.1) (And.intro (cell_later hb hHeld.2.2.2.2.2.2.2.2.2.1) (below_step hHeld.2.2.2.2.2.2.2.2.2.2 hb))))))))))); clear hb; generalize wq.alloc (.cells #[.int .u64 0, .int .u64 0] 27) = wn at *; generalize wq.heap.size = gy at *)
            refine hK.out _ _ ?hSr10_12_8 (fun hHeld2 => ?_)
            case hSr10_12_8 => (exact hSn)
            clear hK K hHeld
            have hHeld := hHeld2
            clear hHeld2
            rename World => wq
            (try simp only [Act.put, List.setIfInBounds_toArray, List.set_cons_zero, List.set_cons_succ])
            refine wpAnyH_ready (rs := [4]) (by kernel_rfl) (by simp) ?_
            refine AllReadyH.cons (o := { dst := some 38, op := Go.Op.call { callee := Go.Callee.value (Go.Operand.func 16), args := #[Go.Operand.tmp 35, Go.Operand.tmp 37], argTypes := #[27, 27] }, type := 28, pos := _, after := #[{ on := 1, ground := Go.Ground.data }, { on := 3, ground := Go.Ground.data }, { on := 3, ground := Go.Ground.chain }], guard := none }) rfl (fun K hK => ?_) AllReadyH.nil
            go_simp
            ((refine (refSub_t _ _ _).mono ?_); (rintro e wn ⟨rfl, hb⟩); (try replace Rn := Rn.later hb))
            go_wp2_with fail
            refine hK.out _ _ ?hSr10_13_4 (fun hHeld2 => ?_)
            case hSr10_13_4 => (first | exact ⟨a0, a1, b0, b1, s0, s1, x0, x1, d0, d1, hbT.drew⟩ | exact ⟨cell_later hb hHeld.1, cell_later hb hHeld.2.1, cell_later hb hHeld.2.2.1, cell_later hb hHeld.2.2.2.1, cell_later hb hHeld.2.2.2.2.1, cell_later hb hHeld.2.2.2.2.2.1, cell_later hb hHeld.2.2.2.2.2.2.1, cell_later hb hHeld.2.2.2.2.2.2.2.1, cell_later hb hHeld.2.2.2.2.2.2.2.2.1, cell_later hb hHeld.2.2.2.2.2.2.2.2.2.1, below_step hHeld.2.2.2.2.2.2.2.2.2.2 hb⟩)
            clear hK K hHeld
            have hHeld := hHeld2
            clear hHeld2
            rename World => wq
            (try simp only [Act.put, List.setIfInBounds_toArray, List.set_cons_zero, List.set_cons_succ])
            refine wpAnyH_take (i := 5) (oi := { dst := some 33, op := Go.Op.move (Go.Operand.tmp 38), type := 28, pos := _, after := #[{ on := 4, ground := Go.Ground.data }], guard := none }) (v := ?vr10_14_5) rfl (by kernel_rfl) (by kernel_rfl) (by kernel_rfl) (fun _ _ _ h => h) (Or.inl ⟨by rfl, ?yr10_14_5⟩) hHeld ?_
            case yr10_14_5 => ((intro w hSw; (try dsimp only at hSw); go_simp) <;> with_reducible rfl)
            (try simp only [Act.put, List.setIfInBounds_toArray, List.set_cons_zero, List.set_cons_succ])
            refine wpAnyH_take (i := 6) (oi := { dst := some 39, op := Go.Op.extract (Go.Operand.tmp 33) 0, type := 27, pos := _, after := #[{ on := 5, ground := Go.Ground.data }], guard := none }) (v := ?vr10_15_6) rfl (by kernel_rfl) (by kernel_rfl) (by kernel_rfl) (fun _ _ _ h => h) (Or.inl ⟨by rfl, ?yr10_15_6⟩) hHeld ?_
            case yr10_15_6 => ((intro w hSw; (try dsimp only at hSw); go_simp) <;> with_reducible rfl)
            (try simp only [Act.put, List.setIfInBounds_toArray, List.set_cons_zero, List.set_cons_succ])
            refine wpAnyH_take (i := 7) (oi := { dst := some 40, op := Go.Op.extract (Go.Operand.tmp 33) 1, type := 4, pos := _, after := #[{ on := 5, ground := Go.Ground.data }, { on := 9, ground := Go.Ground.gcOnly Go.Departure.lateStores }], guard := none }) (v := ?vr10_16_7) rfl (by kernel_rfl) (by kernel_rfl) (by kernel_rfl) (fun _ _ _ h => h) (Or.inl ⟨by rfl, ?yr10_16_7⟩) hHeld ?_
            case yr10_16_7 => ((intro w hSw; (try dsimp only at hSw); go_simp) <;> with_reducible rfl)
            (try simp only [Act.put, List.setIfInBounds_toArray, List.set_cons_zero, List.set_cons_succ])
            refine wpAnyH_ready (rs := [9]) (by kernel_rfl) (by simp) ?_
            refine AllReadyH.cons (o := { dst := none, op := Go.Op.store 27 (Go.Operand.tmp 11) (Go.Operand.tmp 39), type := 0, pos := _, after := #[{ on := 8, ground := Go.Ground.data }, { on := 6, ground := Go.Ground.data }, { on := 4, ground := Go.Ground.chain }, { on := 0, ground := Go.Ground.phase }, { on := 1, ground := Go.Ground.phase }, { on := 2, ground := Go.Ground.phase }, { on := 3, ground := Go.Ground.phase }, { on := 4, ground := Go.Ground.phase }, { on := 5, ground := Go.Ground.phase }, { on := 6, ground := Go.Ground.phase }, { on := 7, ground := Go.Ground.textOnly Go.Departure.lateStores }, { on := 8, ground := Go.Ground.phase }], guard := none }) rfl (fun K hK => ?_) AllReadyH.nil
            ((have c0 := Rn.cell 0); (have c1 := Rn.cell 1); (simp at c0 c1); (have f0 := Rn.frozen 0); (have f1 := Rn.frozen 1); go_simp; clear c0 c1 f0 f1; (have Rm := (Rn.set 0 (.int .u64 (hi (A - B)))).set 1 (.int .u64 (lo (A - B)))); (simp at Rm))
            refine hK.out _ _ ?hSr10_17_9 (fun hHeld2 => ?_)
            case hSr10_17_9 => (exact ⟨(World.cell?_setCell_far _ _ _ _ ne0.symm).trans ((World.cell?_setCell_far _ _ _ _ ne0.symm).trans hHeld.1), (World.cell?_setCell_far _ _ _ _ ne1.symm).trans ((World.cell?_setCell_far _ _ _ _ ne1.symm).trans hHeld.2.1), (World.cell?_setCell_far _ _ _ _ ne2.symm).trans ((World.cell?_setCell_far _ _ _ _ ne2.symm).trans hHeld.2.2.1), (World.cell?_setCell_far _ _ _ _ ne3.symm).trans ((World.cell?_setCell_far _ _ _ _ ne3.symm).trans hHeld.2.2.2.1), (World.cell?_setCell_far _ _ _ _ ne4.symm).trans ((World.cell?_setCell_far _ _ _ _ ne4.symm).trans hHeld.2.2.2.2.1), (World.cell?_setCell_far _ _ _ _ ne5.symm).trans ((World.cell?_setCell_far _ _ _ _ ne5.symm).trans hHeld.2.2.2.2.2.1), (World.cell?_setCell_far _ _ _ _ ne6.symm).trans ((World.cell?_setCell_far _ _ _ _ ne6.symm).trans hHeld.2.2.2.2.2.2.1), (World.cell?_setCell_far _ _ _ _ ne7.symm).trans ((World.cell?_setCell_far _ _ _ _ ne7.symm).trans hHeld.2.2.2.2.2.2.2.1), (World.cell?_setCell_far _ _ _ _ ne8.symm).trans ((World.cell?_setCell_far _ _ _ _ ne8.symm).trans hHeld.2.2.2.2.2.2.2.2.1), (World.cell?_setCell_far _ _ _ _ ne9.symm).trans ((World.cell?_setCell_far _ _ _ _ ne9.symm).trans hHeld.2.2.2.2.2.2.2.2.2.1), (hHeld.2.2.2.2.2.2.2.2.2.2.setCell mn _).setCell mn _⟩)
            clear hK K hHeld
            have hHeld := hHeld2
            clear hHeld2
            rename World => wq
            (try simp only [Act.put, List.setIfInBounds_toArray, List.set_cons_zero, List.set_cons_succ])
            refine wpAnyH_take (i := 10) (oi := { dst := some 12, op := Go.Op.assign (Go.Operand.tmp 40), type := 4, pos := _, after := #[{ on := 7, ground := Go.Ground.data }, { on := 9, ground := Go.Ground.chain }, { on := 0, ground := Go.Ground.phase }, { on := 1, ground := Go.Ground.phase }, { on := 2, ground := Go.Ground.phase }, { on := 3, ground := Go.Ground.phase }, { on := 4, ground := Go.Ground.phase }, { on := 5, ground := Go.Ground.phase }, { on := 6, ground := Go.Ground.phase }, { on := 7, ground := Go.Ground.phase }, { on := 8, ground := Go.Ground.phase }, { on := 9, ground := Go.Ground.phase }], guard := none }) (v := ?vr10_18_10) rfl (by kernel_rfl) (by kernel_rfl) (by kernel_rfl) (fun _ _ _ h => h) (Or.inl ⟨by rfl, ?yr10_18_10⟩) hHeld ?_
            case yr10_18_10 => ((intro w hSw; (try dsimp only at hSw); go_simp) <;> with_reducible rfl)
            (try simp only [Act.put, List.setIfInBounds_toArray, List.set_cons_zero, List.set_cons_succ])
            refine wpAnyH_done (by kernel_rfl) ?_ _
            (go_wp2_with fail; go_meet; exact ⟨gy, rfl, rfl, (by simpa using Rm.cell 0), (by simpa using Rm.cell 1), hHeld⟩)
        refine AllReadyH.cons (o := { dst := some 11, op := Go.Op.alloc 27, type := 0, pos := _, after := #[], guard := none }) rfl (fun K hK => ?_) AllReadyH.nil
        · (go_simp; (have ne0 := Nat.ne_of_lt (World.block_lt_of_cell? _ _ hHeld.1)); (have ne1 := Nat.ne_of_lt (World.block_lt_of_cell? _ _ hHeld.2.1)); (have ne2 := Nat.ne_of_lt (World.block_lt_of_cell? _ _ hHeld.2.2.1)); (have ne3 := Nat.ne_of_lt (World.block_lt_of_cell? _ _ hHeld.2.2.2.1)); (have ne4 := Nat.ne_of_lt (World.block_lt_of_cell? _ _ hHeld.2.2.2.2.1)); (have ne5 := Nat.ne_of_lt (World.block_lt_of_cell? _ _ hHeld.2.2.2.2.2.1)); (have ne6 := Nat.ne_of_lt (World.block_lt_of_cell? _ _ hHeld.2.2.2.2.2.2.1)); (have ne7 := Nat.ne_of_lt (World.block_lt_of_cell? _ _ hHeld.2.2.2.2.2.2.2.1)); (have ne8 := Nat.ne_of_lt (World.block_lt_of_cell? _ _ hHeld.2.2.2.2.2.2.2.2.1)); (have ne9 := Nat.ne_of_lt (World.block_lt_of_cell? _ _ hHeld.2.2.2.2.2.2.2.2.2.1)); (have mn := hHeld.2.2.2.2.2.2.2.2.2.2.size); (have Rn := Row.new wq #[.int .u64 0, .int .u64 0] 27); (have hb : Below wq.heap.size wq (wq.alloc (.cells #[.int .u64 0, .int .u64 0] 27)) := (Below.refl _ _).alloc (Nat.le_refl _) _); (have hSn := And.intro (cell_later hb hHeld.1) (And.intro (cell_later hb hHeld.2.1) (And.intro (cell_later hb hHeld.2.2.1) (And.intro (cell_later hb hHeld.2.2.2.1) (And.intro (cell_later hb hHeld.2.2.2.2.1) (And.intro (cell_later hb hHeld.2.2.2.2.2.1) (And.intro (cell_later hb hHeld.2.2.2.2.2.2.1) (And.intro (cell_later hb hHeld.2.2.2.2.2.2.2.1) (And.intro (cell_later hb hHeld.2.2.2.2.2.2.2.2.1) (And.intro (cell_later hb hHeld.2.2.2.2.2.2.2.2.2.1) (below_step hHeld.2.2.2.2.2.2.2.2.2.2 hb))))))))))); clear hb; generalize wq.alloc (.cells #[.int .u64 0, .int .u64 0] 27) = wn at *; generalize wq.heap.size = gy at *)
          refine hK.out _ _ ?hSr10_19_8 (fun hHeld2 => ?_)
          case hSr10_19_8 => (exact hSn)
          clear hK K hHeld
          have hHeld := hHeld2
          clear hHeld2
          rename World => wq
          (try simp only [Act.put, List.setIfInBounds_toArray, List.set_cons_zero, List.set_cons_succ])
          refine wpAnyH_ready (rs := [3]) (by kernel_rfl) (by simp) ?_
          refine AllReadyH.cons (o := { dst := some 37, op := Go.Op.call { callee := Go.Callee.value (Go.Operand.func 14), args := #[Go.Operand.tmp 36], argTypes := #[24] }, type := 27, pos := _, after := #[{ on := 2, ground := Go.Ground.data }, { on := 1, ground := Go.Ground.chain }], guard := none }) rfl (fun K hK => ?_) AllReadyH.nil
          go_simp
          ((refine (as_h _ _).mono ?_); (rintro e wn ⟨rfl, hb⟩); (try replace Rn := Rn.later hb))
          go_wp2_with fail
          refine hK.out _ _ ?hSr10_20_3 (fun hHeld2 => ?_)
          case hSr10_20_3 => (first | exact ⟨a0, a1, b0, b1, s0, s1, x0, x1, d0, d1, hbT.drew⟩ | exact ⟨cell_later hb hHeld.1, cell_later hb hHeld.2.1, cell_later hb hHeld.2.2.1, cell_later hb hHeld.2.2.2.1, cell_later hb hHeld.2.2.2.2.1, cell_later hb hHeld.2.2.2.2.2.1, cell_later hb hHeld.2.2.2.2.2.2.1, cell_later hb hHeld.2.2.2.2.2.2.2.1, cell_later hb hHeld.2.2.2.2.2.2.2.2.1, cell_later hb hHeld.2.2.2.2.2.2.2.2.2.1, below_step hHeld.2.2.2.2.2.2.2.2.2.2 hb⟩)
          clear hK K hHeld
          have hHeld := hHeld2
          clear hHeld2
          rename World => wq
          (try simp only [Act.put, List.setIfInBounds_toArray, List.set_cons_zero, List.set_cons_succ])
          refine wpAnyH_ready (rs := [4]) (by kernel_rfl) (by simp) ?_
          refine AllReadyH.cons (o := { dst := some 38, op := Go.Op.call { callee := Go.Callee.value (Go.Operand.func 16), args := #[Go.Operand.tmp 35, Go.Operand.tmp 37], argTypes := #[27, 27] }, type := 28, pos := _, after := #[{ on := 1, ground := Go.Ground.data }, { on := 3, ground := Go.Ground.data }, { on := 3, ground := Go.Ground.chain }], guard := none }) rfl (fun K hK => ?_) AllReadyH.nil
          go_simp
          ((refine (refSub_t _ _ _).mono ?_); (rintro e wn ⟨rfl, hb⟩); (try replace Rn := Rn.later hb))
          go_wp2_with fail
          refine hK.out _ _ ?hSr10_21_4 (fun hHeld2 => ?_)
          case hSr10_21_4 => (first | exact ⟨a0, a1, b0, b1, s0, s1, x0, x1, d0, d1, hbT.drew⟩ | exact ⟨cell_later hb hHeld.1, cell_later hb hHeld.2.1, cell_later hb hHeld.2.2.1, cell_later hb hHeld.2.2.2.1, cell_later hb hHeld.2.2.2.2.1, cell_later hb hHeld.2.2.2.2.2.1, cell_later hb hHeld.2.2.2.2.2.2.1, cell_later hb hHeld.2.2.2.2.2.2.2.1, cell_later hb hHeld.2.2.2.2.2.2.2.2.1, cell_later hb hHeld.2.2.2.2.2.2.2.2.2.1, below_step hHeld.2.2.2.2.2.2.2.2.2.2 hb⟩)
          clear hK K hHeld
          have hHeld := hHeld2
          clear hHeld2
          rename World => wq
          (try simp only [Act.put, List.setIfInBounds_toArray, List.set_cons_zero, List.set_cons_succ])
          refine wpAnyH_take (i := 5) (oi := { dst := some 33, op := Go.Op.move (Go.Operand.tmp 38), type := 28, pos := _, after := #[{ on := 4, ground := Go.Ground.data }], guard := none }) (v := ?vr10_22_5) rfl (by kernel_rfl) (by kernel_rfl) (by kernel_rfl) (fun _ _ _ h => h) (Or.inl ⟨by rfl, ?yr10_22_5⟩) hHeld ?_
          case yr10_22_5 => ((intro w hSw; (try dsimp only at hSw); go_simp) <;> with_reducible rfl)
          (try simp only [Act.put, List.setIfInBounds_toArray, List.set_cons_zero, List.set_cons_succ])
          refine wpAnyH_take (i := 6) (oi := { dst := some 39, op := Go.Op.extract (Go.Operand.tmp 33) 0, type := 27, pos := _, after := #[{ on := 5, ground := Go.Ground.data }], guard := none }) (v := ?vr10_23_6) rfl (by kernel_rfl) (by kernel_rfl) (by kernel_rfl) (fun _ _ _ h => h) (Or.inl ⟨by rfl, ?yr10_23_6⟩) hHeld ?_
          case yr10_23_6 => ((intro w hSw; (try dsimp only at hSw); go_simp) <;> with_reducible rfl)
          (try simp only [Act.put, List.setIfInBounds_toArray, List.set_cons_zero, List.set_cons_succ])
          refine wpAnyH_take (i := 7) (oi := { dst := some 40, op := Go.Op.extract (Go.Operand.tmp 33) 1, type := 4, pos := _, after := #[{ on := 5, ground := Go.Ground.data }, { on := 9, ground := Go.Ground.gcOnly Go.Departure.lateStores }], guard := none }) (v := ?vr10_24_7) rfl (by kernel_rfl) (by kernel_rfl) (by kernel_rfl) (fun _ _ _ h => h) (Or.inl ⟨by rfl, ?yr10_24_7⟩) hHeld ?_
          case yr10_24_7 => ((intro w hSw; (try dsimp only at hSw); go_simp) <;> with_reducible rfl)
          (try simp only [Act.put, List.setIfInBounds_toArray, List.set_cons_zero, List.set_cons_succ])
          refine wpAnyH_ready (rs := [9]) (by kernel_rfl) (by simp) ?_
          refine AllReadyH.cons (o := { dst := none, op := Go.Op.store 27 (Go.Operand.tmp 11) (Go.Operand.tmp 39), type := 0, pos := _, after := #[{ on := 8, ground := Go.Ground.data }, { on := 6, ground := Go.Ground.data }, { on := 4, ground := Go.Ground.chain }, { on := 0, ground := Go.Ground.phase }, { on := 1, ground := Go.Ground.phase }, { on := 2, ground := Go.Ground.phase }, { on := 3, ground := Go.Ground.phase }, { on := 4, ground := Go.Ground.phase }, { on := 5, ground := Go.Ground.phase }, { on := 6, ground := Go.Ground.phase }, { on := 7, ground := Go.Ground.textOnly Go.Departure.lateStores }, { on := 8, ground := Go.Ground.phase }], guard := none }) rfl (fun K hK => ?_) AllReadyH.nil
          ((have c0 := Rn.cell 0); (have c1 := Rn.cell 1); (simp at c0 c1); (have f0 := Rn.frozen 0); (have f1 := Rn.frozen 1); go_simp; clear c0 c1 f0 f1; (have Rm := (Rn.set 0 (.int .u64 (hi (A - B)))).set 1 (.int .u64 (lo (A - B)))); (simp at Rm))
          refine hK.out _ _ ?hSr10_25_9 (fun hHeld2 => ?_)
          case hSr10_25_9 => (exact ⟨(World.cell?_setCell_far _ _ _ _ ne0.symm).trans ((World.cell?_setCell_far _ _ _ _ ne0.symm).trans hHeld.1), (World.cell?_setCell_far _ _ _ _ ne1.symm).trans ((World.cell?_setCell_far _ _ _ _ ne1.symm).trans hHeld.2.1), (World.cell?_setCell_far _ _ _ _ ne2.symm).trans ((World.cell?_setCell_far _ _ _ _ ne2.symm).trans hHeld.2.2.1), (World.cell?_setCell_far _ _ _ _ ne3.symm).trans ((World.cell?_setCell_far _ _ _ _ ne3.symm).trans hHeld.2.2.2.1), (World.cell?_setCell_far _ _ _ _ ne4.symm).trans ((World.cell?_setCell_far _ _ _ _ ne4.symm).trans hHeld.2.2.2.2.1), (World.cell?_setCell_far _ _ _ _ ne5.symm).trans ((World.cell?_setCell_far _ _ _ _ ne5.symm).trans hHeld.2.2.2.2.2.1), (World.cell?_setCell_far _ _ _ _ ne6.symm).trans ((World.cell?_setCell_far _ _ _ _ ne6.symm).trans hHeld.2.2.2.2.2.2.1), (World.cell?_setCell_far _ _ _ _ ne7.symm).trans ((World.cell?_setCell_far _ _ _ _ ne7.symm).trans hHeld.2.2.2.2.2.2.2.1), (World.cell?_setCell_far _ _ _ _ ne8.symm).trans ((World.cell?_setCell_far _ _ _ _ ne8.symm).trans hHeld.2.2.2.2.2.2.2.2.1), (World.cell?_setCell_far _ _ _ _ ne9.symm).trans ((World.cell?_setCell_far _ _ _ _ ne9.symm).trans hHeld.2.2.2.2.2.2.2.2.2.1), (hHeld.2.2.2.2.2.2.2.2.2.2.setCell mn _).setCell mn _⟩)
          clear hK K hHeld
          have hHeld := hHeld2
          clear hHeld2
          rename World => wq
          (try simp only [Act.put, List.setIfInBounds_toArray, List.set_cons_zero, List.set_cons_succ])
          refine wpAnyH_take (i := 10) (oi := { dst := some 12, op := Go.Op.assign (Go.Operand.tmp 40), type := 4, pos := _, after := #[{ on := 7, ground := Go.Ground.data }, { on := 9, ground := Go.Ground.chain }, { on := 0, ground := Go.Ground.phase }, { on := 1, ground := Go.Ground.phase }, { on := 2, ground := Go.Ground.phase }, { on := 3, ground := Go.Ground.phase }, { on := 4, ground := Go.Ground.phase }, { on := 5, ground := Go.Ground.phase }, { on := 6, ground := Go.Ground.phase }, { on := 7, ground := Go.Ground.phase }, { on := 8, ground := Go.Ground.phase }, { on := 9, ground := Go.Ground.phase }], guard := none }) (v := ?vr10_26_10) rfl (by kernel_rfl) (by kernel_rfl) (by kernel_rfl) (fun _ _ _ h => h) (Or.inl ⟨by rfl, ?yr10_26_10⟩) hHeld ?_
          case yr10_26_10 => ((intro w hSw; (try dsimp only at hSw); go_simp) <;> with_reducible rfl)
          (try simp only [Act.put, List.setIfInBounds_toArray, List.set_cons_zero, List.set_cons_succ])
          refine wpAnyH_done (by kernel_rfl) ?_ _
          (go_wp2_with fail; go_meet; exact ⟨gy, rfl, rfl, (by simpa using Rm.cell 0), (by simpa using Rm.cell 1), hHeld⟩)
      refine AllReadyH.cons (o := { dst := some 11, op := Go.Op.alloc 27, type := 0, pos := _, after := #[], guard := none }) rfl (fun K hK => ?_) AllReadyH.nil
      · (go_simp; (have ne0 := Nat.ne_of_lt (World.block_lt_of_cell? _ _ hHeld.1)); (have ne1 := Nat.ne_of_lt (World.block_lt_of_cell? _ _ hHeld.2.1)); (have ne2 := Nat.ne_of_lt (World.block_lt_of_cell? _ _ hHeld.2.2.1)); (have ne3 := Nat.ne_of_lt (World.block_lt_of_cell? _ _ hHeld.2.2.2.1)); (have ne4 := Nat.ne_of_lt (World.block_lt_of_cell? _ _ hHeld.2.2.2.2.1)); (have ne5 := Nat.ne_of_lt (World.block_lt_of_cell? _ _ hHeld.2.2.2.2.2.1)); (have ne6 := Nat.ne_of_lt (World.block_lt_of_cell? _ _ hHeld.2.2.2.2.2.2.1)); (have ne7 := Nat.ne_of_lt (World.block_lt_of_cell? _ _ hHeld.2.2.2.2.2.2.2.1)); (have ne8 := Nat.ne_of_lt (World.block_lt_of_cell? _ _ hHeld.2.2.2.2.2.2.2.2.1)); (have ne9 := Nat.ne_of_lt (World.block_lt_of_cell? _ _ hHeld.2.2.2.2.2.2.2.2.2.1)); (have mn := hHeld.2.2.2.2.2.2.2.2.2.2.size); (have Rn := Row.new wq #[.int .u64 0, .int .u64 0] 27); (have hb : Below wq.heap.size wq (wq.alloc (.cells #[.int .u64 0, .int .u64 0] 27)) := (Below.refl _ _).alloc (Nat.le_refl _) _); (have hSn := And.intro (cell_later hb hHeld.1) (And.intro (cell_later hb hHeld.2.1) (And.intro (cell_later hb hHeld.2.2.1) (And.intro (cell_later hb hHeld.2.2.2.1) (And.intro (cell_later hb hHeld.2.2.2.2.1) (And.intro (cell_later hb hHeld.2.2.2.2.2.1) (And.intro (cell_later hb hHeld.2.2.2.2.2.2.1) (And.intro (cell_later hb hHeld.2.2.2.2.2.2.2.1) (And.intro (cell_later hb hHeld.2.2.2.2.2.2.2.2.1) (And.intro (cell_later hb hHeld.2.2.2.2.2.2.2.2.2.1) (below_step hHeld.2.2.2.2.2.2.2.2.2.2 hb))))))))))); clear hb; generalize wq.alloc (.cells #[.int .u64 0, .int .u64 0] 27) = wn at *; generalize wq.heap.size = gy at *)
        refine hK.out _ _ ?hSr10_27_8 (fun hHeld2 => ?_)
        case hSr10_27_8 => (exact hSn)
        clear hK K hHeld
        have hHeld := hHeld2
        clear hHeld2
        rename World => wq
        (try simp only [Act.put, List.setIfInBounds_toArray, List.set_cons_zero, List.set_cons_succ])
        refine wpAnyH_ready (rs := [1]) (by kernel_rfl) (by simp) ?_
        refine AllReadyH.cons (o := { dst := some 35, op := Go.Op.call { callee := Go.Callee.value (Go.Operand.func 14), args := #[Go.Operand.tmp 34], argTypes := #[24] }, type := 27, pos := _, after := #[{ on := 0, ground := Go.Ground.data }], guard := none }) rfl (fun K hK => ?_) AllReadyH.nil
        go_simp
        ((refine (as_h _ _).mono ?_); (rintro e wn ⟨rfl, hb⟩); (try replace Rn := Rn.later hb))
        go_wp2_with fail
        refine hK.out _ _ ?hSr10_28_1 (fun hHeld2 => ?_)
        case hSr10_28_1 => (first | exact ⟨a0, a1, b0, b1, s0, s1, x0, x1, d0, d1, hbT.drew⟩ | exact ⟨cell_later hb hHeld.1, cell_later hb hHeld.2.1, cell_later hb hHeld.2.2.1, cell_later hb hHeld.2.2.2.1, cell_later hb hHeld.2.2.2.2.1, cell_later hb hHeld.2.2.2.2.2.1, cell_later hb hHeld.2.2.2.2.2.2.1, cell_later hb hHeld.2.2.2.2.2.2.2.1, cell_later hb hHeld.2.2.2.2.2.2.2.2.1, cell_later hb hHeld.2.2.2.2.2.2.2.2.2.1, below_step hHeld.2.2.2.2.2.2.2.2.2.2 hb⟩)
        clear hK K hHeld
        have hHeld := hHeld2
        clear hHeld2
        rename World => wq
        (try simp only [Act.put, List.setIfInBounds_toArray, List.set_cons_zero, List.set_cons_succ])
        refine wpAnyH_ready (rs := [3]) (by kernel_rfl) (by simp) ?_
        refine AllReadyH.cons (o := { dst := some 37, op := Go.Op.call { callee := Go.Callee.value (Go.Operand.func 14), args := #[Go.Operand.tmp 36], argTypes := #[24] }, type := 27, pos := _, after := #[{ on := 2, ground := Go.Ground.data }, { on := 1, ground := Go.Ground.chain }], guard := none }) rfl (fun K hK => ?_) AllReadyH.nil
        go_simp
        ((refine (as_h _ _).mono ?_); (rintro e wn ⟨rfl, hb⟩); (try replace Rn := Rn.later hb))
        go_wp2_with fail
        refine hK.out _ _ ?hSr10_29_3 (fun hHeld2 => ?_)
        case hSr10_29_3 => (first | exact ⟨a0, a1, b0, b1, s0, s1, x0, x1, d0, d1, hbT.drew⟩ | exact ⟨cell_later hb hHeld.1, cell_later hb hHeld.2.1, cell_later hb hHeld.2.2.1, cell_later hb hHeld.2.2.2.1, cell_later hb hHeld.2.2.2.2.1, cell_later hb hHeld.2.2.2.2.2.1, cell_later hb hHeld.2.2.2.2.2.2.1, cell_later hb hHeld.2.2.2.2.2.2.2.1, cell_later hb hHeld.2.2.2.2.2.2.2.2.1, cell_later hb hHeld.2.2.2.2.2.2.2.2.2.1, below_step hHeld.2.2.2.2.2.2.2.2.2.2 hb⟩)
        clear hK K hHeld
        have hHeld := hHeld2
        clear hHeld2
        rename World => wq
        (try simp only [Act.put, List.setIfInBounds_toArray, List.set_cons_zero, List.set_cons_succ])
        refine wpAnyH_ready (rs := [4]) (by kernel_rfl) (by simp) ?_
        refine AllReadyH.cons (o := { dst := some 38, op := Go.Op.call { callee := Go.Callee.value (Go.Operand.func 16), args := #[Go.Operand.tmp 35, Go.Operand.tmp 37], argTypes := #[27, 27] }, type := 28, pos := _, after := #[{ on := 1, ground := Go.Ground.data }, { on := 3, ground := Go.Ground.data }, { on := 3, ground := Go.Ground.chain }], guard := none }) rfl (fun K hK => ?_) AllReadyH.nil
        go_simp
        ((refine (refSub_t _ _ _).mono ?_); (rintro e wn ⟨rfl, hb⟩); (try replace Rn := Rn.later hb))
        go_wp2_with fail
        refine hK.out _ _ ?hSr10_30_4 (fun hHeld2 => ?_)
        case hSr10_30_4 => (first | exact ⟨a0, a1, b0, b1, s0, s1, x0, x1, d0, d1, hbT.drew⟩ | exact ⟨cell_later hb hHeld.1, cell_later hb hHeld.2.1, cell_later hb hHeld.2.2.1, cell_later hb hHeld.2.2.2.1, cell_later hb hHeld.2.2.2.2.1, cell_later hb hHeld.2.2.2.2.2.1, cell_later hb hHeld.2.2.2.2.2.2.1, cell_later hb hHeld.2.2.2.2.2.2.2.1, cell_later hb hHeld.2.2.2.2.2.2.2.2.1, cell_later hb hHeld.2.2.2.2.2.2.2.2.2.1, below_step hHeld.2.2.2.2.2.2.2.2.2.2 hb⟩)
        clear hK K hHeld
        have hHeld := hHeld2
        clear hHeld2
        rename World => wq
        (try simp only [Act.put, List.setIfInBounds_toArray, List.set_cons_zero, List.set_cons_succ])
        refine wpAnyH_take (i := 5) (oi := { dst := some 33, op := Go.Op.move (Go.Operand.tmp 38), type := 28, pos := _, after := #[{ on := 4, ground := Go.Ground.data }], guard := none }) (v := ?vr10_31_5) rfl (by kernel_rfl) (by kernel_rfl) (by kernel_rfl) (fun _ _ _ h => h) (Or.inl ⟨by rfl, ?yr10_31_5⟩) hHeld ?_
        case yr10_31_5 => ((intro w hSw; (try dsimp only at hSw); go_simp) <;> with_reducible rfl)
        (try simp only [Act.put, List.setIfInBounds_toArray, List.set_cons_zero, List.set_cons_succ])
        refine wpAnyH_take (i := 6) (oi := { dst := some 39, op := Go.Op.extract (Go.Operand.tmp 33) 0, type := 27, pos := _, after := #[{ on := 5, ground := Go.Ground.data }], guard := none }) (v := ?vr10_32_6) rfl (by kernel_rfl) (by kernel_rfl) (by kernel_rfl) (fun _ _ _ h => h) (Or.inl ⟨by rfl, ?yr10_32_6⟩) hHeld ?_
        case yr10_32_6 => ((intro w hSw; (try dsimp only at hSw); go_simp) <;> with_reducible rfl)
        (try simp only [Act.put, List.setIfInBounds_toArray, List.set_cons_zero, List.set_cons_succ])
        refine wpAnyH_take (i := 7) (oi := { dst := some 40, op := Go.Op.extract (Go.Operand.tmp 33) 1, type := 4, pos := _, after := #[{ on := 5, ground := Go.Ground.data }, { on := 9, ground := Go.Ground.gcOnly Go.Departure.lateStores }], guard := none }) (v := ?vr10_33_7) rfl (by kernel_rfl) (by kernel_rfl) (by kernel_rfl) (fun _ _ _ h => h) (Or.inl ⟨by rfl, ?yr10_33_7⟩) hHeld ?_
        case yr10_33_7 => ((intro w hSw; (try dsimp only at hSw); go_simp) <;> with_reducible rfl)
        (try simp only [Act.put, List.setIfInBounds_toArray, List.set_cons_zero, List.set_cons_succ])
        refine wpAnyH_ready (rs := [9]) (by kernel_rfl) (by simp) ?_
        refine AllReadyH.cons (o := { dst := none, op := Go.Op.store 27 (Go.Operand.tmp 11) (Go.Operand.tmp 39), type := 0, pos := _, after := #[{ on := 8, ground := Go.Ground.data }, { on := 6, ground := Go.Ground.data }, { on := 4, ground := Go.Ground.chain }, { on := 0, ground := Go.Ground.phase }, { on := 1, ground := Go.Ground.phase }, { on := 2, ground := Go.Ground.phase }, { on := 3, ground := Go.Ground.phase }, { on := 4, ground := Go.Ground.phase }, { on := 5, ground := Go.Ground.phase }, { on := 6, ground := Go.Ground.phase }, { on := 7, ground := Go.Ground.textOnly Go.Departure.lateStores }, { on := 8, ground := Go.Ground.phase }], guard := none }) rfl (fun K hK => ?_) AllReadyH.nil
        ((have c0 := Rn.cell 0); (have c1 := Rn.cell 1); (simp at c0 c1); (have f0 := Rn.frozen 0); (have f1 := Rn.frozen 1); go_simp; clear c0 c1 f0 f1; (have Rm := (Rn.set 0 (.int .u64 (hi (A - B)))).set 1 (.int .u64 (lo (A - B)))); (simp at Rm))
        refine hK.out _ _ ?hSr10_34_9 (fun hHeld2 => ?_)
        case hSr10_34_9 => (exact ⟨(World.cell?_setCell_far _ _ _ _ ne0.symm).trans ((World.cell?_setCell_far _ _ _ _ ne0.symm).trans hHeld.1), (World.cell?_setCell_far _ _ _ _ ne1.symm).trans ((World.cell?_setCell_far _ _ _ _ ne1.symm).trans hHeld.2.1), (World.cell?_setCell_far _ _ _ _ ne2.symm).trans ((World.cell?_setCell_far _ _ _ _ ne2.symm).trans hHeld.2.2.1), (World.cell?_setCell_far _ _ _ _ ne3.symm).trans ((World.cell?_setCell_far _ _ _ _ ne3.symm).trans hHeld.2.2.2.1), (World.cell?_setCell_far _ _ _ _ ne4.symm).trans ((World.cell?_setCell_far _ _ _ _ ne4.symm).trans hHeld.2.2.2.2.1), (World.cell?_setCell_far _ _ _ _ ne5.symm).trans ((World.cell?_setCell_far _ _ _ _ ne5.symm).trans hHeld.2.2.2.2.2.1), (World.cell?_setCell_far _ _ _ _ ne6.symm).trans ((World.cell?_setCell_far _ _ _ _ ne6.symm).trans hHeld.2.2.2.2.2.2.1), (World.cell?_setCell_far _ _ _ _ ne7.symm).trans ((World.cell?_setCell_far _ _ _ _ ne7.symm).trans hHeld.2.2.2.2.2.2.2.1), (World.cell?_setCell_far _ _ _ _ ne8.symm).trans ((World.cell?_setCell_far _ _ _ _ ne8.symm).trans hHeld.2.2.2.2.2.2.2.2.1), (World.cell?_setCell_far _ _ _ _ ne9.symm).trans ((World.cell?_setCell_far _ _ _ _ ne9.symm).trans hHeld.2.2.2.2.2.2.2.2.2.1), (hHeld.2.2.2.2.2.2.2.2.2.2.setCell mn _).setCell mn _⟩)
        clear hK K hHeld
        have hHeld := hHeld2
        clear hHeld2
        rename World => wq
        (try simp only [Act.put, List.setIfInBounds_toArray, List.set_cons_zero, List.set_cons_succ])
        refine wpAnyH_take (i := 10) (oi := { dst := some 12, op := Go.Op.assign (Go.Operand.tmp 40), type := 4, pos := _, after := #[{ on := 7, ground := Go.Ground.data }, { on := 9, ground := Go.Ground.chain }, { on := 0, ground := Go.Ground.phase }, { on := 1, ground := Go.Ground.phase }, { on := 2, ground := Go.Ground.phase }, { on := 3, ground := Go.Ground.phase }, { on := 4, ground := Go.Ground.phase }, { on := 5, ground := Go.Ground.phase }, { on := 6, ground := Go.Ground.phase }, { on := 7, ground := Go.Ground.phase }, { on := 8, ground := Go.Ground.phase }, { on := 9, ground := Go.Ground.phase }], guard := none }) (v := ?vr10_35_10) rfl (by kernel_rfl) (by kernel_rfl) (by kernel_rfl) (fun _ _ _ h => h) (Or.inl ⟨by rfl, ?yr10_35_10⟩) hHeld ?_
        case yr10_35_10 => ((intro w hSw; (try dsimp only at hSw); go_simp) <;> with_reducible rfl)
        (try simp only [Act.put, List.setIfInBounds_toArray, List.set_cons_zero, List.set_cons_succ])
        refine wpAnyH_done (by kernel_rfl) ?_ _
        (go_wp2_with fail; go_meet; exact ⟨gy, rfl, rfl, (by simpa using Rm.cell 0), (by simpa using Rm.cell 1), hHeld⟩)
    case rest =>
      clear a0 a1 b0 b1 s0 s1 x0 x1 d0 d1 hbT
      obtain ⟨gy, rfl, rfl, y0, y1, a0, a1, b0, b1, s0, s1, x0, x1, d0, d1, hbT⟩ := hcut
      go_wp2
      refine wp_region_held_drew (S := (fun w' => w'.cell? ⟨w.heap.size, 0, none⟩ = some (.int .u64 (hi A)) ∧ w'.cell? ⟨w.heap.size, 1, none⟩ = some (.int .u64 (lo A)) ∧ w'.cell? ⟨w.heap.size + 1, 0, none⟩ = some (.int .u64 (hi B)) ∧ w'.cell? ⟨w.heap.size + 1, 1, none⟩ = some (.int .u64 (lo B)) ∧ w'.cell? ⟨gs, 0, none⟩ = some (.int .u64 (hi (A + B))) ∧ w'.cell? ⟨gs, 1, none⟩ = some (.int .u64 (lo (A + B))) ∧ w'.cell? ⟨gx, 0, none⟩ = some (.int .u64 (hi (A + B))) ∧ w'.cell? ⟨gx, 1, none⟩ = some (.int .u64 (lo (A + B))) ∧ w'.cell? ⟨gd, 0, none⟩ = some (.int .u64 (hi (A - B))) ∧ w'.cell? ⟨gd, 1, none⟩ = some (.int .u64 (lo (A - B))) ∧ w'.cell? ⟨gy, 0, none⟩ = some (.int .u64 (hi (A - B))) ∧ w'.cell? ⟨gy, 1, none⟩ = some (.int .u64 (lo (A - B))) ∧ Below w.heap.size w w')) (by kernel_rfl) ?hSr11_ (fun hHeld => ?_)
      case hSr11_ => (first | exact ⟨a0, a1, b0, b1, s0, s1, x0, x1, d0, d1, y0, y1, hbT.drew⟩ | exact ⟨cell_later hb hHeld.1, cell_later hb hHeld.2.1, cell_later hb hHeld.2.2.1, cell_later hb hHeld.2.2.2.1, cell_later hb hHeld.2.2.2.2.1, cell_later hb hHeld.2.2.2.2.2.1, cell_later hb hHeld.2.2.2.2.2.2.1, cell_later hb hHeld.2.2.2.2.2.2.2.1, cell_later hb hHeld.2.2.2.2.2.2.2.2.1, cell_later hb hHeld.2.2.2.2.2.2.2.2.2.1, cell_later hb hHeld.2.2.2.2.2.2.2.2.2.2.1, cell_later hb hHeld.2.2.2.2.2.2.2.2.2.2.2.1, below_step hHeld.2.2.2.2.2.2.2.2.2.2.2.2 hb⟩)
      refine wpAnyH_ready (rs := [0]) (by kernel_rfl) (by simp) ?_
      refine AllReadyH.cons (o := { dst := some 41, op := Go.Op.call { callee := Go.Callee.value (Go.Operand.func 17), args := #[], argTypes := #[] }, type := 4, pos := _, after := #[], guard := none }) rfl (fun K hK => ?_) AllReadyH.nil
      go_simp
      (refine (alive_any _).mono ?_; rintro e w' ⟨rfl, hb⟩)
      go_wp2_with fail
      refine hK.out _ _ ?hSr11_1_0 (fun hHeld2 => ?_)
      case hSr11_1_0 => (first | exact ⟨a0, a1, b0, b1, s0, s1, x0, x1, d0, d1, y0, y1, hbT.drew⟩ | exact ⟨cell_later hb hHeld.1, cell_later hb hHeld.2.1, cell_later hb hHeld.2.2.1, cell_later hb hHeld.2.2.2.1, cell_later hb hHeld.2.2.2.2.1, cell_later hb hHeld.2.2.2.2.2.1, cell_later hb hHeld.2.2.2.2.2.2.1, cell_later hb hHeld.2.2.2.2.2.2.2.1, cell_later hb hHeld.2.2.2.2.2.2.2.2.1, cell_later hb hHeld.2.2.2.2.2.2.2.2.2.1, cell_later hb hHeld.2.2.2.2.2.2.2.2.2.2.1, cell_later hb hHeld.2.2.2.2.2.2.2.2.2.2.2.1, below_step hHeld.2.2.2.2.2.2.2.2.2.2.2.2 hb⟩)
      clear hK K hHeld
      have hHeld := hHeld2
      clear hHeld2
      (try simp only [Act.put, List.setIfInBounds_toArray, List.set_cons_zero, List.set_cons_succ])
      refine wpAnyH_take (i := 1) (oi := { dst := some 42, op := Go.Op.move (Go.Operand.tmp 41), type := 4, pos := _, after := #[{ on := 0, ground := Go.Ground.data }, { on := 0, ground := Go.Ground.chain }], guard := none }) (v := ?vr11_2_1) rfl (by kernel_rfl) (by kernel_rfl) (by kernel_rfl) (fun _ _ _ h => h) (Or.inl ⟨by rfl, ?yr11_2_1⟩) hHeld ?_
      case yr11_2_1 => ((intro w hSw; (try dsimp only at hSw); go_simp) <;> with_reducible rfl)
      (try simp only [Act.put, List.setIfInBounds_toArray, List.set_cons_zero, List.set_cons_succ])
      refine wpAnyH_take (i := 2) (oi := { dst := some 43, op := Go.Op.load 24 (Go.Operand.tmp 5), type := 24, pos := _, after := #[{ on := 1, ground := Go.Ground.guard }], guard := some (1, true) }) (v := ?vr11_3_2) rfl (by kernel_rfl) (by kernel_rfl) (by kernel_rfl) (fun _ _ _ h => h) (Or.inl ⟨by rfl, ?yr11_3_2⟩) hHeld ?_
      case yr11_3_2 => ((intro w hSw; (try dsimp only at hSw); go_simp) <;> with_reducible rfl)
      (try simp only [Act.put, List.setIfInBounds_toArray, List.set_cons_zero, List.set_cons_succ])
      refine wpAnyH_take (i := 4) (oi := { dst := some 45, op := Go.Op.load 27 (Go.Operand.tmp 7), type := 27, pos := _, after := #[{ on := 1, ground := Go.Ground.guard }], guard := some (1, true) }) (v := ?vr11_4_4) rfl (by kernel_rfl) (by kernel_rfl) (by kernel_rfl) (fun _ _ _ h => h) (Or.inl ⟨by rfl, ?yr11_4_4⟩) hHeld ?_
      case yr11_4_4 => ((intro w hSw; (try dsimp only at hSw); go_simp) <;> with_reducible rfl)
      (try simp only [Act.put, List.setIfInBounds_toArray, List.set_cons_zero, List.set_cons_succ])
      refine wpAnyH_ready (rs := [3]) (by kernel_rfl) (by simp) ?_
      refine AllReadyH.cons (o := { dst := some 44, op := Go.Op.call { callee := Go.Callee.value (Go.Operand.func 14), args := #[Go.Operand.tmp 43], argTypes := #[24] }, type := 27, pos := _, after := #[{ on := 2, ground := Go.Ground.data }, { on := 1, ground := Go.Ground.chain }, { on := 1, ground := Go.Ground.guard }], guard := some (1, true) }) rfl (fun K hK => ?_) AllReadyH.nil
      go_simp
      (refine (as_h _ _).mono ?_; rintro e w' ⟨rfl, hb⟩)
      go_wp2_with fail
      refine hK.out _ _ ?hSr11_5_3 (fun hHeld2 => ?_)
      case hSr11_5_3 => (first | exact ⟨a0, a1, b0, b1, s0, s1, x0, x1, d0, d1, y0, y1, hbT.drew⟩ | exact ⟨cell_later hb hHeld.1, cell_later hb hHeld.2.1, cell_later hb hHeld.2.2.1, cell_later hb hHeld.2.2.2.1, cell_later hb hHeld.2.2.2.2.1, cell_later hb hHeld.2.2.2.2.2.1, cell_later hb hHeld.2.2.2.2.2.2.1, cell_later hb hHeld.2.2.2.2.2.2.2.1, cell_later hb hHeld.2.2.2.2.2.2.2.2.1, cell_later hb hHeld.2.2.2.2.2.2.2.2.2.1, cell_later hb hHeld.2.2.2.2.2.2.2.2.2.2.1, cell_later hb hHeld.2.2.2.2.2.2.2.2.2.2.2.1, below_step hHeld.2.2.2.2.2.2.2.2.2.2.2.2 hb⟩)
      clear hK K hHeld
      have hHeld := hHeld2
      clear hHeld2
      (try simp only [Act.put, List.setIfInBounds_toArray, List.set_cons_zero, List.set_cons_succ])
      refine wpAnyH_take (i := 5) (oi := { dst := some 46, op := Go.Op.binOp Go.BinOp.eql 27 (Go.Operand.tmp 44) (Go.Operand.tmp 45) 27, type := 4, pos := _, after := #[{ on := 3, ground := Go.Ground.data }, { on := 4, ground := Go.Ground.data }, { on := 1, ground := Go.Ground.guard }], guard := some (1, true) }) (v := ?vr11_6_5) rfl (by kernel_rfl) (by kernel_rfl) (by kernel_rfl) (fun _ _ _ h => h) (Or.inl ⟨by rfl, ?yr11_6_5⟩) hHeld ?_
      case yr11_6_5 => ((intro w hSw; (try dsimp only at hSw); go_simp) <;> with_reducible rfl)
      (try simp only [Act.put, List.setIfInBounds_toArray, List.set_cons_zero, List.set_cons_succ])
      refine wpAnyH_take (i := 6) (oi := { dst := some 47, op := Go.Op.pick (Go.Operand.tmp 42) (Go.Operand.tmp 46) (Go.Operand.const (Go.Value.bool false)), type := 4, pos := _, after := #[{ on := 1, ground := Go.Ground.data }, { on := 5, ground := Go.Ground.data }], guard := none }) (v := ?vr11_7_6) rfl (by kernel_rfl) (by kernel_rfl) (by kernel_rfl) (fun _ _ _ h => h) (Or.inl ⟨by rfl, ?yr11_7_6⟩) hHeld ?_
      case yr11_7_6 => ((intro w hSw; (try dsimp only at hSw); go_simp) <;> with_reducible rfl)
      (try simp only [Act.put, List.setIfInBounds_toArray, List.set_cons_zero, List.set_cons_succ])
      refine wpAnyH_take (i := 7) (oi := { dst := some 48, op := Go.Op.move (Go.Operand.tmp 47), type := 4, pos := _, after := #[{ on := 6, ground := Go.Ground.data }, { on := 3, ground := Go.Ground.chain }], guard := none }) (v := ?vr11_8_7) rfl (by kernel_rfl) (by kernel_rfl) (by kernel_rfl) (fun _ _ _ h => h) (Or.inl ⟨by rfl, ?yr11_8_7⟩) hHeld ?_
      case yr11_8_7 => ((intro w hSw; (try dsimp only at hSw); go_simp) <;> with_reducible rfl)
      (try simp only [Act.put, List.setIfInBounds_toArray, List.set_cons_zero, List.set_cons_succ])
      refine wpAnyH_take (i := 8) (oi := { dst := some 49, op := Go.Op.move (Go.Operand.tmp 6), type := 4, pos := _, after := #[{ on := 7, ground := Go.Ground.guard }], guard := some (7, true) }) (v := ?vr11_9_8) rfl (by kernel_rfl) (by kernel_rfl) (by kernel_rfl) (fun _ _ _ h => h) (Or.inl ⟨by rfl, ?yr11_9_8⟩) hHeld ?_
      case yr11_9_8 => ((intro w hSw; (try dsimp only at hSw); go_simp) <;> with_reducible rfl)
      (try simp only [Act.put, List.setIfInBounds_toArray, List.set_cons_zero, List.set_cons_succ])
      refine wpAnyH_take (i := 9) (oi := { dst := some 50, op := Go.Op.move (Go.Operand.tmp 8), type := 4, pos := _, after := #[{ on := 7, ground := Go.Ground.guard }], guard := some (7, true) }) (v := ?vr11_10_9) rfl (by kernel_rfl) (by kernel_rfl) (by kernel_rfl) (fun _ _ _ h => h) (Or.inl ⟨by rfl, ?yr11_10_9⟩) hHeld ?_
      case yr11_10_9 => ((intro w hSw; (try dsimp only at hSw); go_simp) <;> with_reducible rfl)
      (try simp only [Act.put, List.setIfInBounds_toArray, List.set_cons_zero, List.set_cons_succ])
      refine wpAnyH_take (i := 10) (oi := { dst := some 51, op := Go.Op.binOp Go.BinOp.eql 4 (Go.Operand.tmp 49) (Go.Operand.tmp 50) 4, type := 4, pos := _, after := #[{ on := 8, ground := Go.Ground.data }, { on := 9, ground := Go.Ground.data }, { on := 7, ground := Go.Ground.guard }], guard := some (7, true) }) (v := ?vr11_11_10) rfl (by kernel_rfl) (by kernel_rfl) (by kernel_rfl) (fun _ _ _ h => h) (Or.inl ⟨by rfl, ?yr11_11_10⟩) hHeld ?_
      case yr11_11_10 => ((intro w hSw; (try dsimp only at hSw); go_simp) <;> with_reducible rfl)
      (try simp only [Act.put, List.setIfInBounds_toArray, List.set_cons_zero, List.set_cons_succ])
      refine wpAnyH_take (i := 11) (oi := { dst := some 52, op := Go.Op.pick (Go.Operand.tmp 48) (Go.Operand.tmp 51) (Go.Operand.const (Go.Value.bool false)), type := 4, pos := _, after := #[{ on := 7, ground := Go.Ground.data }, { on := 10, ground := Go.Ground.data }], guard := none }) (v := ?vr11_12_11) rfl (by kernel_rfl) (by kernel_rfl) (by kernel_rfl) (fun _ _ _ h => h) (Or.inl ⟨by rfl, ?yr11_12_11⟩) hHeld ?_
      case yr11_12_11 => ((intro w hSw; (try dsimp only at hSw); go_simp) <;> with_reducible rfl)
      (try simp only [Act.put, List.setIfInBounds_toArray, List.set_cons_zero, List.set_cons_succ])
      refine wpAnyH_take (i := 12) (oi := { dst := some 53, op := Go.Op.move (Go.Operand.tmp 52), type := 4, pos := _, after := #[{ on := 11, ground := Go.Ground.data }, { on := 7, ground := Go.Ground.chain }], guard := none }) (v := ?vr11_13_12) rfl (by kernel_rfl) (by kernel_rfl) (by kernel_rfl) (fun _ _ _ h => h) (Or.inl ⟨by rfl, ?yr11_13_12⟩) hHeld ?_
      case yr11_13_12 => ((intro w hSw; (try dsimp only at hSw); go_simp) <;> with_reducible rfl)
      (try simp only [Act.put, List.setIfInBounds_toArray, List.set_cons_zero, List.set_cons_succ])
      refine wpAnyH_take (i := 13) (oi := { dst := some 54, op := Go.Op.load 24 (Go.Operand.tmp 9), type := 24, pos := _, after := #[{ on := 12, ground := Go.Ground.guard }], guard := some (12, true) }) (v := ?vr11_14_13) rfl (by kernel_rfl) (by kernel_rfl) (by kernel_rfl) (fun _ _ _ h => h) (Or.inl ⟨by rfl, ?yr11_14_13⟩) hHeld ?_
      case yr11_14_13 => ((intro w hSw; (try dsimp only at hSw); go_simp) <;> with_reducible rfl)
      (try simp only [Act.put, List.setIfInBounds_toArray, List.set_cons_zero, List.set_cons_succ])
      refine wpAnyH_take (i := 15) (oi := { dst := some 56, op := Go.Op.load 27 (Go.Operand.tmp 11), type := 27, pos := _, after := #[{ on := 12, ground := Go.Ground.guard }], guard := some (12, true) }) (v := ?vr11_15_15) rfl (by kernel_rfl) (by kernel_rfl) (by kernel_rfl) (fun _ _ _ h => h) (Or.inl ⟨by rfl, ?yr11_15_15⟩) hHeld ?_
      case yr11_15_15 => ((intro w hSw; (try dsimp only at hSw); go_simp) <;> with_reducible rfl)
      (try simp only [Act.put, List.setIfInBounds_toArray, List.set_cons_zero, List.set_cons_succ])
      refine wpAnyH_ready (rs := [14]) (by kernel_rfl) (by simp) ?_
      refine AllReadyH.cons (o := { dst := some 55, op := Go.Op.call { callee := Go.Callee.value (Go.Operand.func 14), args := #[Go.Operand.tmp 54], argTypes := #[24] }, type := 27, pos := _, after := #[{ on := 13, ground := Go.Ground.data }, { on := 12, ground := Go.Ground.chain }, { on := 12, ground := Go.Ground.guard }], guard := some (12, true) }) rfl (fun K hK => ?_) AllReadyH.nil
      go_simp
      (refine (as_h _ _).mono ?_; rintro e w' ⟨rfl, hb⟩)
      go_wp2_with fail
      refine hK.out _ _ ?hSr11_16_14 (fun hHeld2 => ?_)
      case hSr11_16_14 => (first | exact ⟨a0, a1, b0, b1, s0, s1, x0, x1, d0, d1, y0, y1, hbT.drew⟩ | exact ⟨cell_later hb hHeld.1, cell_later hb hHeld.2.1, cell_later hb hHeld.2.2.1, cell_later hb hHeld.2.2.2.1, cell_later hb hHeld.2.2.2.2.1, cell_later hb hHeld.2.2.2.2.2.1, cell_later hb hHeld.2.2.2.2.2.2.1, cell_later hb hHeld.2.2.2.2.2.2.2.1, cell_later hb hHeld.2.2.2.2.2.2.2.2.1, cell_later hb hHeld.2.2.2.2.2.2.2.2.2.1, cell_later hb hHeld.2.2.2.2.2.2.2.2.2.2.1, cell_later hb hHeld.2.2.2.2.2.2.2.2.2.2.2.1, below_step hHeld.2.2.2.2.2.2.2.2.2.2.2.2 hb⟩)
      clear hK K hHeld
      have hHeld := hHeld2
      clear hHeld2
      (try simp only [Act.put, List.setIfInBounds_toArray, List.set_cons_zero, List.set_cons_succ])
      refine wpAnyH_take (i := 16) (oi := { dst := some 57, op := Go.Op.binOp Go.BinOp.eql 27 (Go.Operand.tmp 55) (Go.Operand.tmp 56) 27, type := 4, pos := _, after := #[{ on := 14, ground := Go.Ground.data }, { on := 15, ground := Go.Ground.data }, { on := 12, ground := Go.Ground.guard }], guard := some (12, true) }) (v := ?vr11_17_16) rfl (by kernel_rfl) (by kernel_rfl) (by kernel_rfl) (fun _ _ _ h => h) (Or.inl ⟨by rfl, ?yr11_17_16⟩) hHeld ?_
      case yr11_17_16 => ((intro w hSw; (try dsimp only at hSw); go_simp) <;> with_reducible rfl)
      (try simp only [Act.put, List.setIfInBounds_toArray, List.set_cons_zero, List.set_cons_succ])
      refine wpAnyH_take (i := 17) (oi := { dst := some 58, op := Go.Op.pick (Go.Operand.tmp 53) (Go.Operand.tmp 57) (Go.Operand.const (Go.Value.bool false)), type := 4, pos := _, after := #[{ on := 12, ground := Go.Ground.data }, { on := 16, ground := Go.Ground.data }], guard := none }) (v := ?vr11_18_17) rfl (by kernel_rfl) (by kernel_rfl) (by kernel_rfl) (fun _ _ _ h => h) (Or.inl ⟨by rfl, ?yr11_18_17⟩) hHeld ?_
      case yr11_18_17 => ((intro w hSw; (try dsimp only at hSw); go_simp) <;> with_reducible rfl)
      (try simp only [Act.put, List.setIfInBounds_toArray, List.set_cons_zero, List.set_cons_succ])
      refine wpAnyH_take (i := 18) (oi := { dst := some 59, op := Go.Op.move (Go.Operand.tmp 58), type := 4, pos := _, after := #[{ on := 17, ground := Go.Ground.data }, { on := 14, ground := Go.Ground.chain }], guard := none }) (v := ?vr11_19_18) rfl (by kernel_rfl) (by kernel_rfl) (by kernel_rfl) (fun _ _ _ h => h) (Or.inl ⟨by rfl, ?yr11_19_18⟩) hHeld ?_
      case yr11_19_18 => ((intro w hSw; (try dsimp only at hSw); go_simp) <;> with_reducible rfl)
      (try simp only [Act.put, List.setIfInBounds_toArray, List.set_cons_zero, List.set_cons_succ])
      refine wpAnyH_take (i := 19) (oi := { dst := some 60, op := Go.Op.move (Go.Operand.tmp 10), type := 4, pos := _, after := #[{ on := 18, ground := Go.Ground.guard }], guard := some (18, true) }) (v := ?vr11_20_19) rfl (by kernel_rfl) (by kernel_rfl) (by kernel_rfl) (fun _ _ _ h => h) (Or.inl ⟨by rfl, ?yr11_20_19⟩) hHeld ?_
      case yr11_20_19 => ((intro w hSw; (try dsimp only at hSw); go_simp) <;> with_reducible rfl)
      (try simp only [Act.put, List.setIfInBounds_toArray, List.set_cons_zero, List.set_cons_succ])
      refine wpAnyH_take (i := 20) (oi := { dst := some 61, op := Go.Op.move (Go.Operand.tmp 12), type := 4, pos := _, after := #[{ on := 18, ground := Go.Ground.guard }], guard := some (18, true) }) (v := ?vr11_21_20) rfl (by kernel_rfl) (by kernel_rfl) (by kernel_rfl) (fun _ _ _ h => h) (Or.inl ⟨by rfl, ?yr11_21_20⟩) hHeld ?_
      case yr11_21_20 => ((intro w hSw; (try dsimp only at hSw); go_simp) <;> with_reducible rfl)
      (try simp only [Act.put, List.setIfInBounds_toArray, List.set_cons_zero, List.set_cons_succ])
      refine wpAnyH_take (i := 21) (oi := { dst := some 62, op := Go.Op.binOp Go.BinOp.eql 4 (Go.Operand.tmp 60) (Go.Operand.tmp 61) 4, type := 4, pos := _, after := #[{ on := 19, ground := Go.Ground.data }, { on := 20, ground := Go.Ground.data }, { on := 18, ground := Go.Ground.guard }], guard := some (18, true) }) (v := ?vr11_22_21) rfl (by kernel_rfl) (by kernel_rfl) (by kernel_rfl) (fun _ _ _ h => h) (Or.inl ⟨by rfl, ?yr11_22_21⟩) hHeld ?_
      case yr11_22_21 => ((intro w hSw; (try dsimp only at hSw); go_simp) <;> with_reducible rfl)
      (try simp only [Act.put, List.setIfInBounds_toArray, List.set_cons_zero, List.set_cons_succ])
      refine wpAnyH_take (i := 22) (oi := { dst := some 63, op := Go.Op.pick (Go.Operand.tmp 59) (Go.Operand.tmp 62) (Go.Operand.const (Go.Value.bool false)), type := 4, pos := _, after := #[{ on := 18, ground := Go.Ground.data }, { on := 21, ground := Go.Ground.data }], guard := none }) (v := ?vr11_23_22) rfl (by kernel_rfl) (by kernel_rfl) (by kernel_rfl) (fun _ _ _ h => h) (Or.inl ⟨by rfl, ?yr11_23_22⟩) hHeld ?_
      case yr11_23_22 => ((intro w hSw; (try dsimp only at hSw); go_simp) <;> with_reducible rfl)
      (try simp only [Act.put, List.setIfInBounds_toArray, List.set_cons_zero, List.set_cons_succ])
      refine wpAnyH_take (i := 23) (oi := { dst := some 64, op := Go.Op.move (Go.Operand.tmp 63), type := 4, pos := _, after := #[{ on := 22, ground := Go.Ground.data }, { on := 18, ground := Go.Ground.chain }], guard := none }) (v := ?vr11_24_23) rfl (by kernel_rfl) (by kernel_rfl) (by kernel_rfl) (fun _ _ _ h => h) (Or.inl ⟨by rfl, ?yr11_24_23⟩) hHeld ?_
      case yr11_24_23 => ((intro w hSw; (try dsimp only at hSw); go_simp) <;> with_reducible rfl)
      (try simp only [Act.put, List.setIfInBounds_toArray, List.set_cons_zero, List.set_cons_succ])
      refine wpAnyH_take (i := 24) (oi := { dst := some 65, op := Go.Op.load 24 (Go.Operand.tmp 2), type := 24, pos := _, after := #[{ on := 23, ground := Go.Ground.guard }], guard := some (23, true) }) (v := ?vr11_25_24) rfl (by kernel_rfl) (by kernel_rfl) (by kernel_rfl) (fun _ _ _ h => h) (Or.inl ⟨by rfl, ?yr11_25_24⟩) hHeld ?_
      case yr11_25_24 => ((intro w hSw; (try dsimp only at hSw); go_simp) <;> with_reducible rfl)
      (try simp only [Act.put, List.setIfInBounds_toArray, List.set_cons_zero, List.set_cons_succ])
      refine wpAnyH_take (i := 25) (oi := { dst := some 66, op := Go.Op.load 24 (Go.Operand.tmp 3), type := 24, pos := _, after := #[{ on := 23, ground := Go.Ground.guard }], guard := some (23, true) }) (v := ?vr11_26_25) rfl (by kernel_rfl) (by kernel_rfl) (by kernel_rfl) (fun _ _ _ h => h) (Or.inl ⟨by rfl, ?yr11_26_25⟩) hHeld ?_
      case yr11_26_25 => ((intro w hSw; (try dsimp only at hSw); go_simp) <;> with_reducible rfl)
      (try simp only [Act.put, List.setIfInBounds_toArray, List.set_cons_zero, List.set_cons_succ])
      refine wpAnyH_take (i := 27) (oi := { dst := some 68, op := Go.Op.load 24 (Go.Operand.tmp 2), type := 24, pos := _, after := #[{ on := 23, ground := Go.Ground.guard }], guard := some (23, true) }) (v := ?vr11_27_27) rfl (by kernel_rfl) (by kernel_rfl) (by kernel_rfl) (fun _ _ _ h => h) (Or.inl ⟨by rfl, ?yr11_27_27⟩) hHeld ?_
      case yr11_27_27 => ((intro w hSw; (try dsimp only at hSw); go_simp) <;> with_reducible rfl)
      (try simp only [Act.put, List.setIfInBounds_toArray, List.set_cons_zero, List.set_cons_succ])
      refine wpAnyH_take (i := 29) (oi := { dst := some 70, op := Go.Op.load 24 (Go.Operand.tmp 3), type := 24, pos := _, after := #[{ on := 23, ground := Go.Ground.guard }], guard := some (23, true) }) (v := ?vr11_28_29) rfl (by kernel_rfl) (by kernel_rfl) (by kernel_rfl) (fun _ _ _ h => h) (Or.inl ⟨by rfl, ?yr11_28_29⟩) hHeld ?_
      case yr11_28_29 => ((intro w hSw; (try dsimp only at hSw); go_simp) <;> with_reducible rfl)
      (try simp only [Act.put, List.setIfInBounds_toArray, List.set_cons_zero, List.set_cons_succ])
      refine wpAnyH_ready (rs := [26]) (by kernel_rfl) (by simp) ?_
      refine AllReadyH.cons (o := { dst := some 67, op := Go.Op.call { callee := Go.Callee.value (Go.Operand.func 18), args := #[Go.Operand.tmp 65, Go.Operand.tmp 66], argTypes := #[24, 24] }, type := 3, pos := _, after := #[{ on := 24, ground := Go.Ground.data }, { on := 25, ground := Go.Ground.data }, { on := 23, ground := Go.Ground.chain }, { on := 23, ground := Go.Ground.guard }], guard := some (23, true) }) rfl (fun K hK => ?_) AllReadyH.nil
      go_simp
      (refine (cmp_h _ _ _).mono ?_; rintro e w' ⟨rfl, hb⟩)
      go_wp2_with fail
      refine hK.out _ _ ?hSr11_29_26 (fun hHeld2 => ?_)
      case hSr11_29_26 => (first | exact ⟨a0, a1, b0, b1, s0, s1, x0, x1, d0, d1, y0, y1, hbT.drew⟩ | exact ⟨cell_later hb hHeld.1, cell_later hb hHeld.2.1, cell_later hb hHeld.2.2.1, cell_later hb hHeld.2.2.2.1, cell_later hb hHeld.2.2.2.2.1, cell_later hb hHeld.2.2.2.2.2.1, cell_later hb hHeld.2.2.2.2.2.2.1, cell_later hb hHeld.2.2.2.2.2.2.2.1, cell_later hb hHeld.2.2.2.2.2.2.2.2.1, cell_later hb hHeld.2.2.2.2.2.2.2.2.2.1, cell_later hb hHeld.2.2.2.2.2.2.2.2.2.2.1, cell_later hb hHeld.2.2.2.2.2.2.2.2.2.2.2.1, below_step hHeld.2.2.2.2.2.2.2.2.2.2.2.2 hb⟩)
      clear hK K hHeld
      have hHeld := hHeld2
      clear hHeld2
      (try simp only [Act.put, List.setIfInBounds_toArray, List.set_cons_zero, List.set_cons_succ])
      refine wpAnyH_ready (rs := [28]) (by kernel_rfl) (by simp) ?_
      refine AllReadyH.cons (o := { dst := some 69, op := Go.Op.call { callee := Go.Callee.value (Go.Operand.func 14), args := #[Go.Operand.tmp 68], argTypes := #[24] }, type := 27, pos := _, after := #[{ on := 27, ground := Go.Ground.data }, { on := 26, ground := Go.Ground.chain }, { on := 23, ground := Go.Ground.guard }], guard := some (23, true) }) rfl (fun K hK => ?_) AllReadyH.nil
      go_simp
      (refine (as_h _ _).mono ?_; rintro e w' ⟨rfl, hb⟩)
      go_wp2_with fail
      refine hK.out _ _ ?hSr11_30_28 (fun hHeld2 => ?_)
      case hSr11_30_28 => (first | exact ⟨a0, a1, b0, b1, s0, s1, x0, x1, d0, d1, y0, y1, hbT.drew⟩ | exact ⟨cell_later hb hHeld.1, cell_later hb hHeld.2.1, cell_later hb hHeld.2.2.1, cell_later hb hHeld.2.2.2.1, cell_later hb hHeld.2.2.2.2.1, cell_later hb hHeld.2.2.2.2.2.1, cell_later hb hHeld.2.2.2.2.2.2.1, cell_later hb hHeld.2.2.2.2.2.2.2.1, cell_later hb hHeld.2.2.2.2.2.2.2.2.1, cell_later hb hHeld.2.2.2.2.2.2.2.2.2.1, cell_later hb hHeld.2.2.2.2.2.2.2.2.2.2.1, cell_later hb hHeld.2.2.2.2.2.2.2.2.2.2.2.1, below_step hHeld.2.2.2.2.2.2.2.2.2.2.2.2 hb⟩)
      clear hK K hHeld
      have hHeld := hHeld2
      clear hHeld2
      (try simp only [Act.put, List.setIfInBounds_toArray, List.set_cons_zero, List.set_cons_succ])
      refine wpAnyH_ready (rs := [30]) (by kernel_rfl) (by simp) ?_
      refine AllReadyH.cons (o := { dst := some 71, op := Go.Op.call { callee := Go.Callee.value (Go.Operand.func 14), args := #[Go.Operand.tmp 70], argTypes := #[24] }, type := 27, pos := _, after := #[{ on := 29, ground := Go.Ground.data }, { on := 28, ground := Go.Ground.chain }, { on := 23, ground := Go.Ground.guard }], guard := some (23, true) }) rfl (fun K hK => ?_) AllReadyH.nil
      go_simp
      (refine (as_h _ _).mono ?_; rintro e w' ⟨rfl, hb⟩)
      go_wp2_with fail
      refine hK.out _ _ ?hSr11_31_30 (fun hHeld2 => ?_)
      case hSr11_31_30 => (first | exact ⟨a0, a1, b0, b1, s0, s1, x0, x1, d0, d1, y0, y1, hbT.drew⟩ | exact ⟨cell_later hb hHeld.1, cell_later hb hHeld.2.1, cell_later hb hHeld.2.2.1, cell_later hb hHeld.2.2.2.1, cell_later hb hHeld.2.2.2.2.1, cell_later hb hHeld.2.2.2.2.2.1, cell_later hb hHeld.2.2.2.2.2.2.1, cell_later hb hHeld.2.2.2.2.2.2.2.1, cell_later hb hHeld.2.2.2.2.2.2.2.2.1, cell_later hb hHeld.2.2.2.2.2.2.2.2.2.1, cell_later hb hHeld.2.2.2.2.2.2.2.2.2.2.1, cell_later hb hHeld.2.2.2.2.2.2.2.2.2.2.2.1, below_step hHeld.2.2.2.2.2.2.2.2.2.2.2.2 hb⟩)
      clear hK K hHeld
      have hHeld := hHeld2
      clear hHeld2
      (try simp only [Act.put, List.setIfInBounds_toArray, List.set_cons_zero, List.set_cons_succ])
      refine wpAnyH_ready (rs := [31]) (by kernel_rfl) (by simp) ?_
      refine AllReadyH.cons (o := { dst := some 72, op := Go.Op.call { callee := Go.Callee.value (Go.Operand.func 19), args := #[Go.Operand.tmp 69, Go.Operand.tmp 71], argTypes := #[27, 27] }, type := 3, pos := _, after := #[{ on := 28, ground := Go.Ground.data }, { on := 30, ground := Go.Ground.data }, { on := 30, ground := Go.Ground.chain }, { on := 23, ground := Go.Ground.guard }], guard := some (23, true) }) rfl (fun K hK => ?_) AllReadyH.nil
      go_simp
      (refine (refCmp_t _ _ _).mono ?_; rintro e w' ⟨rfl, hb⟩)
      go_wp2_with fail
      refine hK.out _ _ ?hSr11_32_31 (fun hHeld2 => ?_)
      case hSr11_32_31 => (first | exact ⟨a0, a1, b0, b1, s0, s1, x0, x1, d0, d1, y0, y1, hbT.drew⟩ | exact ⟨cell_later hb hHeld.1, cell_later hb hHeld.2.1, cell_later hb hHeld.2.2.1, cell_later hb hHeld.2.2.2.1, cell_later hb hHeld.2.2.2.2.1, cell_later hb hHeld.2.2.2.2.2.1, cell_later hb hHeld.2.2.2.2.2.2.1, cell_later hb hHeld.2.2.2.2.2.2.2.1, cell_later hb hHeld.2.2.2.2.2.2.2.2.1, cell_later hb hHeld.2.2.2.2.2.2.2.2.2.1, cell_later hb hHeld.2.2.2.2.2.2.2.2.2.2.1, cell_later hb hHeld.2.2.2.2.2.2.2.2.2.2.2.1, below_step hHeld.2.2.2.2.2.2.2.2.2.2.2.2 hb⟩)
      clear hK K hHeld
      have hHeld := hHeld2
      clear hHeld2
      (try simp only [Act.put, List.setIfInBounds_toArray, List.set_cons_zero, List.set_cons_succ])
      refine wpAnyH_take (i := 32) (oi := { dst := some 73, op := Go.Op.binOp Go.BinOp.eql 3 (Go.Operand.tmp 67) (Go.Operand.tmp 72) 3, type := 4, pos := _, after := #[{ on := 26, ground := Go.Ground.data }, { on := 31, ground := Go.Ground.data }, { on := 23, ground := Go.Ground.guard }], guard := some (23, true) }) (v := ?vr11_33_32) rfl (by kernel_rfl) (by kernel_rfl) (by kernel_rfl) (fun _ _ _ h => h) (Or.inl ⟨by rfl, ?yr11_33_32⟩) hHeld ?_
      case yr11_33_32 => ((intro w hSw; (try dsimp only at hSw); go_simp) <;> with_reducible rfl)
      (try simp only [Act.put, List.setIfInBounds_toArray, List.set_cons_zero, List.set_cons_succ])
      refine wpAnyH_take (i := 33) (oi := { dst := some 74, op := Go.Op.pick (Go.Operand.tmp 64) (Go.Operand.tmp 73) (Go.Operand.const (Go.Value.bool false)), type := 4, pos := _, after := #[{ on := 23, ground := Go.Ground.data }, { on := 32, ground := Go.Ground.data }], guard := none }) (v := ?vr11_34_33) rfl (by kernel_rfl) (by kernel_rfl) (by kernel_rfl) (fun _ _ _ h => h) (Or.inl ⟨by rfl, ?yr11_34_33⟩) hHeld ?_
      case yr11_34_33 => ((intro w hSw; (try dsimp only at hSw); go_simp) <;> with_reducible rfl)
      (try simp only [Act.put, List.setIfInBounds_toArray, List.set_cons_zero, List.set_cons_succ])
      refine wpAnyH_take (i := 34) (oi := { dst := some 75, op := Go.Op.move (Go.Operand.tmp 74), type := 4, pos := _, after := #[{ on := 33, ground := Go.Ground.data }, { on := 31, ground := Go.Ground.chain }], guard := none }) (v := ?vr11_35_34) rfl (by kernel_rfl) (by kernel_rfl) (by kernel_rfl) (fun _ _ _ h => h) (Or.inl ⟨by rfl, ?yr11_35_34⟩) hHeld ?_
      case yr11_35_34 => ((intro w hSw; (try dsimp only at hSw); go_simp) <;> with_reducible rfl)
      (try simp only [Act.put, List.setIfInBounds_toArray, List.set_cons_zero, List.set_cons_succ])
      refine wpAnyH_take (i := 35) (oi := { dst := some 76, op := Go.Op.fieldAddr 24 (Go.Operand.tmp 2) 1, type := 0, pos := _, after := #[{ on := 34, ground := Go.Ground.guard }], guard := some (34, true) }) (v := ?vr11_36_35) rfl (by kernel_rfl) (by kernel_rfl) (by kernel_rfl) (fun _ _ _ h => h) (Or.inl ⟨by rfl, ?yr11_36_35⟩) hHeld ?_
      case yr11_36_35 => ((intro w hSw; (try dsimp only at hSw); go_simp) <;> with_reducible rfl)
      (try simp only [Act.put, List.setIfInBounds_toArray, List.set_cons_zero, List.set_cons_succ])
      refine wpAnyH_take (i := 36) (oi := { dst := some 77, op := Go.Op.load 22 (Go.Operand.tmp 76), type := 22, pos := _, after := #[{ on := 35, ground := Go.Ground.data }, { on := 34, ground := Go.Ground.guard }], guard := some (34, true) }) (v := ?vr11_37_36) rfl (by kernel_rfl) (by kernel_rfl) (by kernel_rfl) (fun _ _ _ h => h) (Or.inl ⟨by rfl, ?yr11_37_36⟩) hHeld ?_
      case yr11_37_36 => ((intro w hSw; (try dsimp only at hSw); go_simp) <;> with_reducible rfl)
      (try simp only [Act.put, List.setIfInBounds_toArray, List.set_cons_zero, List.set_cons_succ])
      refine wpAnyH_take (i := 38) (oi := { dst := some 79, op := Go.Op.fieldAddr 24 (Go.Operand.tmp 2) 1, type := 0, pos := _, after := #[{ on := 34, ground := Go.Ground.guard }], guard := some (34, true) }) (v := ?vr11_38_38) rfl (by kernel_rfl) (by kernel_rfl) (by kernel_rfl) (fun _ _ _ h => h) (Or.inl ⟨by rfl, ?yr11_38_38⟩) hHeld ?_
      case yr11_38_38 => ((intro w hSw; (try dsimp only at hSw); go_simp) <;> with_reducible rfl)
      (try simp only [Act.put, List.setIfInBounds_toArray, List.set_cons_zero, List.set_cons_succ])
      refine wpAnyH_take (i := 39) (oi := { dst := some 80, op := Go.Op.load 22 (Go.Operand.tmp 79), type := 22, pos := _, after := #[{ on := 38, ground := Go.Ground.data }, { on := 34, ground := Go.Ground.guard }], guard := some (34, true) }) (v := ?vr11_39_39) rfl (by kernel_rfl) (by kernel_rfl) (by kernel_rfl) (fun _ _ _ h => h) (Or.inl ⟨by rfl, ?yr11_39_39⟩) hHeld ?_
      case yr11_39_39 => ((intro w hSw; (try dsimp only at hSw); go_simp) <;> with_reducible rfl)
      (try simp only [Act.put, List.setIfInBounds_toArray, List.set_cons_zero, List.set_cons_succ])
      refine wpAnyH_take (i := 40) (oi := { dst := some 81, op := Go.Op.build 24 #[(1, Go.Operand.tmp 80)], type := 24, pos := _, after := #[{ on := 39, ground := Go.Ground.data }, { on := 34, ground := Go.Ground.guard }], guard := some (34, true) }) (v := ?vr11_40_40) rfl (by kernel_rfl) (by kernel_rfl) (by kernel_rfl) (fun _ _ _ h => h) (Or.inl ⟨by rfl, ?yr11_40_40⟩) hHeld ?_
      case yr11_40_40 => ((intro w hSw; (try dsimp only at hSw); go_simp) <;> with_reducible rfl)
      (try simp only [Act.put, List.setIfInBounds_toArray, List.set_cons_zero, List.set_cons_succ])
      refine wpAnyH_ready (rs := [37]) (by kernel_rfl) (by simp) ?_
      refine AllReadyH.cons (o := { dst := some 78, op := Go.Op.call { callee := Go.Callee.value (Go.Operand.func 20), args := #[Go.Operand.tmp 77], argTypes := #[22] }, type := 24, pos := _, after := #[{ on := 36, ground := Go.Ground.data }, { on := 34, ground := Go.Ground.chain }, { on := 34, ground := Go.Ground.guard }], guard := some (34, true) }) rfl (fun K hK => ?_) AllReadyH.nil
      go_simp
      (refine (of_any _ _).mono ?_; rintro e w' ⟨rfl, hb⟩)
      go_wp2_with fail
      refine hK.out _ _ ?hSr11_41_37 (fun hHeld2 => ?_)
      case hSr11_41_37 => (first | exact ⟨a0, a1, b0, b1, s0, s1, x0, x1, d0, d1, y0, y1, hbT.drew⟩ | exact ⟨cell_later hb hHeld.1, cell_later hb hHeld.2.1, cell_later hb hHeld.2.2.1, cell_later hb hHeld.2.2.2.1, cell_later hb hHeld.2.2.2.2.1, cell_later hb hHeld.2.2.2.2.2.1, cell_later hb hHeld.2.2.2.2.2.2.1, cell_later hb hHeld.2.2.2.2.2.2.2.1, cell_later hb hHeld.2.2.2.2.2.2.2.2.1, cell_later hb hHeld.2.2.2.2.2.2.2.2.2.1, cell_later hb hHeld.2.2.2.2.2.2.2.2.2.2.1, cell_later hb hHeld.2.2.2.2.2.2.2.2.2.2.2.1, below_step hHeld.2.2.2.2.2.2.2.2.2.2.2.2 hb⟩)
      clear hK K hHeld
      have hHeld := hHeld2
      clear hHeld2
      (try simp only [Act.put, List.setIfInBounds_toArray, List.set_cons_zero, List.set_cons_succ])
      refine wpAnyH_take (i := 41) (oi := { dst := some 82, op := Go.Op.binOp Go.BinOp.eql 24 (Go.Operand.tmp 78) (Go.Operand.tmp 81) 24, type := 4, pos := _, after := #[{ on := 37, ground := Go.Ground.data }, { on := 40, ground := Go.Ground.data }, { on := 34, ground := Go.Ground.guard }], guard := some (34, true) }) (v := ?vr11_42_41) rfl (by kernel_rfl) (by kernel_rfl) (by kernel_rfl) (fun _ _ _ h => h) (Or.inl ⟨by rfl, ?yr11_42_41⟩) hHeld ?_
      case yr11_42_41 => ((intro w hSw; (try dsimp only at hSw); go_simp) <;> with_reducible rfl)
      (try simp only [Act.put, List.setIfInBounds_toArray, List.set_cons_zero, List.set_cons_succ])
      refine wpAnyH_take (i := 42) (oi := { dst := some 83, op := Go.Op.pick (Go.Operand.tmp 75) (Go.Operand.tmp 82) (Go.Operand.const (Go.Value.bool false)), type := 4, pos := _, after := #[{ on := 34, ground := Go.Ground.data }, { on := 41, ground := Go.Ground.data }], guard := none }) (v := ?vr11_43_42) rfl (by kernel_rfl) (by kernel_rfl) (by kernel_rfl) (fun _ _ _ h => h) (Or.inl ⟨by rfl, ?yr11_43_42⟩) hHeld ?_
      case yr11_43_42 => ((intro w hSw; (try dsimp only at hSw); go_simp) <;> with_reducible rfl)
      (try simp only [Act.put, List.setIfInBounds_toArray, List.set_cons_zero, List.set_cons_succ])
      refine wpAnyH_take (i := 43) (oi := { dst := some 4, op := Go.Op.assign (Go.Operand.tmp 83), type := 4, pos := _, after := #[{ on := 42, ground := Go.Ground.data }, { on := 37, ground := Go.Ground.chain }, { on := 0, ground := Go.Ground.phase }, { on := 1, ground := Go.Ground.phase }, { on := 2, ground := Go.Ground.phase }, { on := 3, ground := Go.Ground.phase }, { on := 4, ground := Go.Ground.phase }, { on := 5, ground := Go.Ground.phase }, { on := 6, ground := Go.Ground.phase }, { on := 7, ground := Go.Ground.phase }, { on := 8, ground := Go.Ground.phase }, { on := 9, ground := Go.Ground.phase }, { on := 10, ground := Go.Ground.phase }, { on := 11, ground := Go.Ground.phase }, { on := 12, ground := Go.Ground.phase }, { on := 13, ground := Go.Ground.phase }, { on := 14, ground := Go.Ground.phase }, { on := 15, ground := Go.Ground.phase }, { on := 16, ground := Go.Ground.phase }, { on := 17, ground := Go.Ground.phase }, { on := 18, ground := Go.Ground.phase }, { on := 19, ground := Go.Ground.phase }, { on := 20, ground := Go.Ground.phase }, { on := 21, ground := Go.Ground.phase }, { on := 22, ground := Go.Ground.phase }, { on := 23, ground := Go.Ground.phase }, { on := 24, ground := Go.Ground.phase }, { on := 25, ground := Go.Ground.phase }, { on := 26, ground := Go.Ground.phase }, { on := 27, ground := Go.Ground.phase }, { on := 28, ground := Go.Ground.phase }, { on := 29, ground := Go.Ground.phase }, { on := 30, ground := Go.Ground.phase }, { on := 31, ground := Go.Ground.phase }, { on := 32, ground := Go.Ground.phase }, { on := 33, ground := Go.Ground.phase }, { on := 34, ground := Go.Ground.phase }, { on := 35, ground := Go.Ground.phase }, { on := 36, ground := Go.Ground.phase }, { on := 37, ground := Go.Ground.phase }, { on := 38, ground := Go.Ground.phase }, { on := 39, ground := Go.Ground.phase }, { on := 40, ground := Go.Ground.phase }, { on := 41, ground := Go.Ground.phase }, { on := 42, ground := Go.Ground.phase }], guard := none }) (v := ?vr11_44_43) rfl (by kernel_rfl) (by kernel_rfl) (by kernel_rfl) (fun _ _ _ h => h) (Or.inl ⟨by rfl, ?yr11_44_43⟩) hHeld ?_
      case yr11_44_43 => ((intro w hSw; (try dsimp only at hSw); go_simp) <;> with_reducible rfl)
      (try simp only [Act.put, List.setIfInBounds_toArray, List.set_cons_zero, List.set_cons_succ])
      refine wpAnyH_done (by kernel_rfl) ?_ _
      go_wp2
      go_ret
      exact ⟨rfl, hHeld.2.2.2.2.2.2.2.2.2.2.2.2⟩
end Go.Proofs.Ytbofnfccejjolaa
