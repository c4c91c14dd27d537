/- The reference's Wide and Text. No conditions beyond lengths and ranges. -/
import Derived.Test.YtgioompelogopaaWText
namespace Go.Proofs.Ytgioompelogopaa
set_option linter.unusedVariables false
set_option linter.unusedSimpArgs false
open Go.RowKit
set_option maxRecDepth 100000 in
set_option maxHeartbeats 1600000 in
theorem refWide_t (ah al : Int) (hh : Word ah) (hw : Word al) (w : World) :
    Calls Try.prog 60 #[.agg #[.int .u64 ah, .int .u64 al]] w (RetOwn w (numB ah 8 ++ numB al 8)) := by
  go_enter Try.func60, Try.ntmps60
  go_wp2_with fail
  have R := (Row.new w #[.int .u64 ah, .int .u64 al] 27).drew
  have c0 := (R.cell 0).trans (show _ = some (Value.int .u64 ah) from rfl)
  have c1 := (R.cell 1).trans (show _ = some (Value.int .u64 al) from rfl)
  have hb0 : Below w.heap.size w (w.alloc (.cells #[.int .u64 ah, .int .u64 al] 27)).drew := ((Below.refl _ _).alloc (Nat.le_refl _) _).drew
  have hlt := R.lt
  clear R
  have tok0 : True := trivial
  refine wp_region_held_drew (S := (fun w' => w'.cell? ⟨w.heap.size, 0, none⟩ = some (.int .u64 ah) ∧ w'.cell? ⟨w.heap.size, 1, none⟩ = some (.int .u64 al) ∧ Below w.heap.size w w')) (by kernel_rfl) ?hSr1_ (fun hHeld => ?_)
  case hSr1_ => (first | exact ⟨c0, c1, hb0⟩ | exact ⟨cell_later hb hHeld.1, cell_later hb hHeld.2.1, below_step hHeld.2.2 hb⟩)
  refine wpAnyH_take (i := 0) (oi := { dst := some 3, op := Go.Op.fieldAddr 27 (Go.Operand.tmp 1) 0, type := 0, pos := _, after := #[], guard := none }) (v := ?vr1_1_0) rfl (by kernel_rfl) (by kernel_rfl) (by kernel_rfl) (fun _ _ _ h => h) (Or.inl ⟨by rfl, ?yr1_1_0⟩) hHeld ?_
  case yr1_1_0 => ((intro w hSw; (try dsimp only at hSw); go_simp) <;> with_reducible rfl)
  (try simp only [Act.put, List.setIfInBounds_toArray, List.set_cons_zero, List.set_cons_succ])
  refine wpAnyH_take (i := 1) (oi := { dst := some 4, op := Go.Op.load 22 (Go.Operand.tmp 3), type := 22, pos := _, after := #[{ on := 0, ground := Go.Ground.data }], guard := none }) (v := ?vr1_2_1) rfl (by kernel_rfl) (by kernel_rfl) (by kernel_rfl) (fun _ _ _ h => h) (Or.inl ⟨by rfl, ?yr1_2_1⟩) hHeld ?_
  case yr1_2_1 => ((intro w hSw; (try dsimp only at hSw); go_simp) <;> with_reducible rfl)
  (try simp only [Act.put, List.setIfInBounds_toArray, List.set_cons_zero, List.set_cons_succ])
  refine wpAnyH_take (i := 3) (oi := { dst := some 6, op := Go.Op.fieldAddr 27 (Go.Operand.tmp 1) 1, type := 0, pos := _, after := #[], guard := none }) (v := ?vr1_3_3) rfl (by kernel_rfl) (by kernel_rfl) (by kernel_rfl) (fun _ _ _ h => h) (Or.inl ⟨by rfl, ?yr1_3_3⟩) hHeld ?_
  case yr1_3_3 => ((intro w hSw; (try dsimp only at hSw); go_simp) <;> with_reducible rfl)
  (try simp only [Act.put, List.setIfInBounds_toArray, List.set_cons_zero, List.set_cons_succ])
  refine wpAnyH_take (i := 4) (oi := { dst := some 7, op := Go.Op.load 22 (Go.Operand.tmp 6), type := 22, pos := _, after := #[{ on := 3, ground := Go.Ground.data }], guard := none }) (v := ?vr1_4_4) rfl (by kernel_rfl) (by kernel_rfl) (by kernel_rfl) (fun _ _ _ h => h) (Or.inl ⟨by rfl, ?yr1_4_4⟩) hHeld ?_
  case yr1_4_4 => ((intro w hSw; (try dsimp only at hSw); go_simp) <;> with_reducible rfl)
  (try simp only [Act.put, List.setIfInBounds_toArray, List.set_cons_zero, List.set_cons_succ])
  refine wpAnyH_ready (rs := [2]) (by kernel_rfl) (by simp) ?_
  refine AllReadyH.cons (o := { dst := some 5, op := Go.Op.call { callee := Go.Callee.value (Go.Operand.func 59), args := #[Go.Operand.tmp 4, Go.Operand.const (Go.Value.int Go.IntKind.i64 8)], argTypes := #[22, 3] }, type := 56, pos := _, after := #[{ on := 1, ground := Go.Ground.data }], guard := none }) rfl (fun K hK => ?_) AllReadyH.nil
  go_simp
  ((first | (clear tok0; refine (refNum_t ah 8 hh _).mono ?_; (rintro e w1 ⟨v1, rfl, ho1, hb⟩); (rw [lim8] at ho1)) | (refine (refNum_t al 8 hw _).mono ?_; (rintro e w2 ⟨v2, rfl, ho2, hb⟩); (rw [lim8] at ho2); (replace ho1 := ho1.later hb))))
  go_wp2_with fail
  refine hK.out _ _ ?hSr1_5_2 (fun hHeld2 => ?_)
  case hSr1_5_2 => (first | exact ⟨c0, c1, hb0⟩ | exact ⟨cell_later hb hHeld.1, cell_later hb hHeld.2.1, below_step hHeld.2.2 hb⟩)
  clear hK K hHeld
  have hHeld := hHeld2
  clear hHeld2
  (try simp only [Act.put, List.setIfInBounds_toArray, List.set_cons_zero, List.set_cons_succ])
  refine wpAnyH_ready (rs := [5]) (by kernel_rfl) (by simp) ?_
  refine AllReadyH.cons (o := { dst := some 8, op := Go.Op.call { callee := Go.Callee.value (Go.Operand.func 59), args := #[Go.Operand.tmp 7, Go.Operand.const (Go.Value.int Go.IntKind.i64 8)], argTypes := #[22, 3] }, type := 56, pos := _, after := #[{ on := 4, ground := Go.Ground.data }, { on := 2, ground := Go.Ground.chain }], guard := none }) rfl (fun K hK => ?_) AllReadyH.nil
  go_simp
  ((first | (clear tok0; refine (refNum_t ah 8 hh _).mono ?_; (rintro e w1 ⟨v1, rfl, ho1, hb⟩); (rw [lim8] at ho1)) | (refine (refNum_t al 8 hw _).mono ?_; (rintro e w2 ⟨v2, rfl, ho2, hb⟩); (rw [lim8] at ho2); (replace ho1 := ho1.later hb))))
  go_wp2_with fail
  refine hK.out _ _ ?hSr1_6_5 (fun hHeld2 => ?_)
  case hSr1_6_5 => (first | exact ⟨c0, c1, hb0⟩ | exact ⟨cell_later hb hHeld.1, cell_later hb hHeld.2.1, below_step hHeld.2.2 hb⟩)
  clear hK K hHeld
  have hHeld := hHeld2
  clear hHeld2
  (try simp only [Act.put, List.setIfInBounds_toArray, List.set_cons_zero, List.set_cons_succ])
  refine wpAnyH_ready (rs := [6]) (by kernel_rfl) (by simp) ?_
  refine AllReadyH.cons (o := { dst := some 9, op := Go.Op.call { callee := Go.Callee.builtin Go.Builtin.append, args := #[Go.Operand.tmp 5, Go.Operand.tmp 8], argTypes := #[56, 56] }, type := 56, pos := _, after := #[{ on := 2, ground := Go.Ground.data }, { on := 5, ground := Go.Ground.data }, { on := 5, ground := Go.Ground.chain }], guard := none }) rfl (fun K hK => ?_) AllReadyH.nil
  ((obtain ⟨v', w3, hrun, hown, hgrow, hat⟩ := append_run 56 ho1 ho2.bs (by rw [numB_length, numB_length]; omega) (by have h1 := World.block_lt_of_cell? _ _ hHeld.1; simp at h1 ⊢; omega)); (rw [if_pos (by rfl)]); (with_reducible refine wp_append_run (.tmp 5) (.tmp 8) 56 ?_ ?_ ?_ hrun ?_); rfl; rfl; rfl; (simp only [Act.put, List.setIfInBounds_toArray, List.set_cons_zero, List.set_cons_succ]); (have hfar : some w.heap.size = v1.ownBlock → False := fun h => by have h1 := (ho1.block _ h.symm).1; omega); (have hb3 := hHeld.2.2.grown hgrow hHeld.2.2.size (fun k hk => by have h1 := (ho1.block _ hk).1; omega)))
  refine hK.out _ _ ?hSr1_7_6 (fun hHeld2 => ?_)
  case hSr1_7_6 => (exact ⟨hgrow.cell (a := ⟨w.heap.size, 0, none⟩) hHeld.1 hfar, hgrow.cell (a := ⟨w.heap.size, 1, none⟩) hHeld.2.1 hfar, hb3⟩)
  clear hK K hHeld
  have hHeld := hHeld2
  clear hHeld2
  (try simp only [Act.put, List.setIfInBounds_toArray, List.set_cons_zero, List.set_cons_succ])
  refine wpAnyH_take (i := 7) (oi := { dst := some 2, op := Go.Op.assign (Go.Operand.tmp 9), type := 56, pos := _, after := #[{ on := 6, ground := Go.Ground.data }, { on := 6, ground := Go.Ground.chain }, { on := 0, ground := Go.Ground.phase }, { on := 1, ground := Go.Ground.phase }, { on := 2, ground := Go.Ground.phase }, { on := 3, ground := Go.Ground.phase }, { on := 4, ground := Go.Ground.phase }, { on := 5, ground := Go.Ground.phase }, { on := 6, ground := Go.Ground.phase }], guard := none }) (v := ?vr1_8_7) rfl (by kernel_rfl) (by kernel_rfl) (by kernel_rfl) (fun _ _ _ h => h) (Or.inl ⟨by rfl, ?yr1_8_7⟩) hHeld ?_
  case yr1_8_7 => ((intro w hSw; (try dsimp only at hSw); go_simp) <;> with_reducible rfl)
  (try simp only [Act.put, List.setIfInBounds_toArray, List.set_cons_zero, List.set_cons_succ])
  refine wpAnyH_done (by kernel_rfl) ?_ _
  go_wp2
  go_ret
  exact ⟨_, rfl, hown.mono hb0.size, hHeld.2.2⟩
theorem wp_conv_run {P : Program} {w w' : World} {o : Oper} {a : Act} {K : Act → World → Prop} {Q : Exit → Act → World → Prop} (x : Operand) (s t : TypeId) {v v' : Value}
    (ho : o.op = .convert s t x) (hx : a.eval x = v) (hr : (convert s t v).run P w = .ok v' w') (h : K (a.put o.dst v') w') : o.wp P a w K Q := by
  unfold Oper.wp execOp
  simp only [ho, Sem.run_bind, Sem.run_pure, Result.andThen_ok, hx, hr]
  exact h
set_option maxRecDepth 100000 in
set_option maxHeartbeats 1600000 in
theorem refText_t (s : ByteArray) (w : World) : Calls Try.prog 61 #[.string s] w (RetOwn w (textB s)) := by
  go_enter Try.func61, Try.ntmps61
  by_cases hs : s.size ≤ 65535
  · have hs1 : (s.size : Int) ≤ 65535 := by omega
    have ec : cut65 s = s := by unfold cut65; rw [if_pos hs]
    have hsz : s.size ≤ maxLen := by unfold maxLen; omega
    have hwr : IntKind.u64.wrap (s.size : Int) = s.size := by simp [IntKind.wrap, IntKind.bits, IntKind.signed]; omega
    unfold textB
    rw [ec]
    go_wp2_with fail
    have hbd : Below w.heap.size w w.drew := (Below.refl _ _).drew
    refine wp_region_held_drew (S := (fun w' => Below w.heap.size w w')) (by kernel_rfl) ?hSr2_ (fun hHeld => ?_)
    case hSr2_ => (first | exact hbd | exact below_step hHeld hb)
    refine wpAnyH_take (i := 0) (oi := { dst := some 8, op := Go.Op.move (Go.Operand.tmp 3), type := 3, pos := _, after := #[], guard := none }) (v := ?vr2_1_0) rfl (by kernel_rfl) (by kernel_rfl) (by kernel_rfl) (fun _ _ _ h => h) (Or.inl ⟨by rfl, ?yr2_1_0⟩) hHeld ?_
    case yr2_1_0 => ((intro w hSw; (try dsimp only at hSw); go_simp) <;> with_reducible rfl)
    (try simp only [Act.put, List.setIfInBounds_toArray, List.set_cons_zero, List.set_cons_succ])
    refine wpAnyH_take (i := 1) (oi := { dst := some 9, op := Go.Op.convert 3 22 (Go.Operand.tmp 8), type := 22, pos := _, after := #[{ on := 0, ground := Go.Ground.data }], guard := none }) (v := ?vr2_2_1) rfl (by kernel_rfl) (by kernel_rfl) (by kernel_rfl) (fun _ _ _ h => h) (Or.inl ⟨by rfl, ?yr2_2_1⟩) hHeld ?_
    case yr2_2_1 => ((intro w hSw; (try dsimp only at hSw); go_simp) <;> with_reducible rfl)
    (try simp only [Act.put, List.setIfInBounds_toArray, List.set_cons_zero, List.set_cons_succ])
    refine wpAnyH_take (i := 3) (oi := { dst := some 11, op := Go.Op.move (Go.Operand.tmp 0), type := 9, pos := _, after := #[], guard := none }) (v := ?vr2_3_3) rfl (by kernel_rfl) (by kernel_rfl) (by kernel_rfl) (fun _ _ _ h => h) (Or.inl ⟨by rfl, ?yr2_3_3⟩) hHeld ?_
    case yr2_3_3 => ((intro w hSw; (try dsimp only at hSw); go_simp) <;> with_reducible rfl)
    (try simp only [Act.put, List.setIfInBounds_toArray, List.set_cons_zero, List.set_cons_succ])
    refine wpAnyH_take (i := 4) (oi := { dst := some 12, op := Go.Op.move (Go.Operand.tmp 3), type := 3, pos := _, after := #[], guard := none }) (v := ?vr2_4_4) rfl (by kernel_rfl) (by kernel_rfl) (by kernel_rfl) (fun _ _ _ h => h) (Or.inl ⟨by rfl, ?yr2_4_4⟩) hHeld ?_
    case yr2_4_4 => ((intro w hSw; (try dsimp only at hSw); go_simp) <;> with_reducible rfl)
    (try simp only [Act.put, List.setIfInBounds_toArray, List.set_cons_zero, List.set_cons_succ])
    refine wpAnyH_take (i := 5) (oi := { dst := some 13, op := Go.Op.slice 9 (Go.Operand.tmp 11) none (some (Go.Operand.tmp 12)) none, type := 9, pos := _, after := #[{ on := 3, ground := Go.Ground.data }, { on := 4, ground := Go.Ground.data }], guard := none }) (v := ?vr2_5_5) rfl (by kernel_rfl) (by kernel_rfl) (by kernel_rfl) (fun _ _ _ h => h) (Or.inl ⟨by rfl, ?yr2_5_5⟩) hHeld ?_
    case yr2_5_5 => ((intro w hSw; (try dsimp only at hSw); go_simp) <;> with_reducible rfl)
    (try simp only [Act.put, List.setIfInBounds_toArray, List.set_cons_zero, List.set_cons_succ])
    refine wpAnyH_ready (rs := [2, 6]) (by kernel_rfl) (by simp) ?_
    refine AllReadyH.cons (o := { dst := some 10, op := Go.Op.call { callee := Go.Callee.value (Go.Operand.func 59), args := #[Go.Operand.tmp 9, Go.Operand.const (Go.Value.int Go.IntKind.i64 2)], argTypes := #[22, 3] }, type := 56, pos := _, after := #[{ on := 1, ground := Go.Ground.data }], guard := none }) rfl (fun K hK => ?_) ?_
    · go_simp
      ((refine (refNum_t s.size 2 ⟨by omega, by omega⟩ _).mono ?_); (rintro e w1 ⟨v1, rfl, ho1, hb⟩); (rw [lim2] at ho1); (replace ho1 := ho1.mono hHeld.size); (try replace hbs := hbs.later hb))
      go_wp2_with fail
      refine hK.out _ _ ?hSr2_6_2 (fun hHeld2 => ?_)
      case hSr2_6_2 => (first | exact hbd | exact below_step hHeld hb)
      clear hK K hHeld
      have hHeld := hHeld2
      clear hHeld2
      (try simp only [Act.put, List.setIfInBounds_toArray, List.set_cons_zero, List.set_cons_succ])
      refine wpAnyH_ready (rs := [6]) (by kernel_rfl) (by simp) ?_
      refine AllReadyH.cons (o := { dst := some 14, op := Go.Op.convert 9 56 (Go.Operand.tmp 13), type := 56, pos := _, after := #[{ on := 5, ground := Go.Ground.data }], guard := none }) rfl (fun K hK => ?_) AllReadyH.nil
      ((first | (have hcv := conv_run w1 s hsz) | (have hcv := conv_run w.drew s hsz)); (obtain ⟨v2, wn, hrun, hbs, hb, hob⟩ := hcv); (rw [if_pos (by rfl)]); (with_reducible refine wp_conv_run (.tmp 13) 9 56 ?_ ?_ hrun ?_); rfl; rfl; clear hrun; (simp only [Act.put, List.setIfInBounds_toArray, List.set_cons_zero, List.set_cons_succ]); (try replace ho1 := ho1.later hb))
      refine hK.out _ _ ?hSr2_7_6 (fun hHeld2 => ?_)
      case hSr2_7_6 => (first | exact hbd | exact below_step hHeld hb)
      clear hK K hHeld
      have hHeld := hHeld2
      clear hHeld2
      (try simp only [Act.put, List.setIfInBounds_toArray, List.set_cons_zero, List.set_cons_succ])
      refine wpAnyH_ready (rs := [7]) (by kernel_rfl) (by simp) ?_
      refine AllReadyH.cons (o := { dst := some 15, op := Go.Op.call { callee := Go.Callee.builtin Go.Builtin.append, args := #[Go.Operand.tmp 10, Go.Operand.tmp 14], argTypes := #[56, 56] }, type := 56, pos := _, after := #[{ on := 2, ground := Go.Ground.data }, { on := 6, ground := Go.Ground.data }, { on := 2, ground := Go.Ground.chain }], guard := none }) rfl (fun K hK => ?_) AllReadyH.nil
      ((obtain ⟨v', w3, hrun, hown, hgrow, hat⟩ := append_run 56 ho1 hbs (by rw [numB_length, strB_length]; omega) hHeld.size); (rw [if_pos (by rfl)]); (with_reducible refine wp_append_run (.tmp 10) (.tmp 14) 56 ?_ ?_ ?_ hrun ?_); rfl; rfl; rfl; (simp only [Act.put, List.setIfInBounds_toArray, List.set_cons_zero, List.set_cons_succ]); (have hb3 := hHeld.grown hgrow hHeld.size (fun k hk => (ho1.block _ hk).1)))
      refine hK.out _ _ ?hSr2_8_7 (fun hHeld2 => ?_)
      case hSr2_8_7 => (exact hb3)
      clear hK K hHeld
      have hHeld := hHeld2
      clear hHeld2
      (try simp only [Act.put, List.setIfInBounds_toArray, List.set_cons_zero, List.set_cons_succ])
      refine wpAnyH_take (i := 8) (oi := { dst := some 2, op := Go.Op.assign (Go.Operand.tmp 15), type := 56, pos := _, after := #[{ on := 7, ground := Go.Ground.data }, { on := 7, ground := Go.Ground.chain }, { on := 0, ground := Go.Ground.phase }, { on := 1, ground := Go.Ground.phase }, { on := 2, ground := Go.Ground.phase }, { on := 3, ground := Go.Ground.phase }, { on := 4, ground := Go.Ground.phase }, { on := 5, ground := Go.Ground.phase }, { on := 6, ground := Go.Ground.phase }, { on := 7, ground := Go.Ground.phase }], guard := none }) (v := ?vr2_9_8) rfl (by kernel_rfl) (by kernel_rfl) (by kernel_rfl) (fun _ _ _ h => h) (Or.inl ⟨by rfl, ?yr2_9_8⟩) hHeld ?_
      case yr2_9_8 => ((intro w hSw; (try dsimp only at hSw); go_simp) <;> with_reducible rfl)
      (try simp only [Act.put, List.setIfInBounds_toArray, List.set_cons_zero, List.set_cons_succ])
      refine wpAnyH_done (by kernel_rfl) ?_ _
      (go_wp2; go_ret; exact ⟨_, rfl, hown, hHeld⟩)
    refine AllReadyH.cons (o := { dst := some 14, op := Go.Op.convert 9 56 (Go.Operand.tmp 13), type := 56, pos := _, after := #[{ on := 5, ground := Go.Ground.data }], guard := none }) rfl (fun K hK => ?_) AllReadyH.nil
    · ((first | (have hcv := conv_run w1 s hsz) | (have hcv := conv_run w.drew s hsz)); (obtain ⟨v2, wn, hrun, hbs, hb, hob⟩ := hcv); (rw [if_pos (by rfl)]); (with_reducible refine wp_conv_run (.tmp 13) 9 56 ?_ ?_ hrun ?_); rfl; rfl; clear hrun; (simp only [Act.put, List.setIfInBounds_toArray, List.set_cons_zero, List.set_cons_succ]); (try replace ho1 := ho1.later hb))
      refine hK.out _ _ ?hSr2_10_6 (fun hHeld2 => ?_)
      case hSr2_10_6 => (first | exact hbd | exact below_step hHeld hb)
      clear hK K hHeld
      have hHeld := hHeld2
      clear hHeld2
      (try simp only [Act.put, List.setIfInBounds_toArray, List.set_cons_zero, List.set_cons_succ])
      refine wpAnyH_ready (rs := [2]) (by kernel_rfl) (by simp) ?_
      refine AllReadyH.cons (o := { dst := some 10, op := Go.Op.call { callee := Go.Callee.value (Go.Operand.func 59), args := #[Go.Operand.tmp 9, Go.Operand.const (Go.Value.int Go.IntKind.i64 2)], argTypes := #[22, 3] }, type := 56, pos := _, after := #[{ on := 1, ground := Go.Ground.data }], guard := none }) rfl (fun K hK => ?_) AllReadyH.nil
      go_simp
      ((refine (refNum_t s.size 2 ⟨by omega, by omega⟩ _).mono ?_); (rintro e w1 ⟨v1, rfl, ho1, hb⟩); (rw [lim2] at ho1); (replace ho1 := ho1.mono hHeld.size); (try replace hbs := hbs.later hb))
      go_wp2_with fail
      refine hK.out _ _ ?hSr2_11_2 (fun hHeld2 => ?_)
      case hSr2_11_2 => (first | exact hbd | exact below_step hHeld hb)
      clear hK K hHeld
      have hHeld := hHeld2
      clear hHeld2
      (try simp only [Act.put, List.setIfInBounds_toArray, List.set_cons_zero, List.set_cons_succ])
      refine wpAnyH_ready (rs := [7]) (by kernel_rfl) (by simp) ?_
      refine AllReadyH.cons (o := { dst := some 15, op := Go.Op.call { callee := Go.Callee.builtin Go.Builtin.append, args := #[Go.Operand.tmp 10, Go.Operand.tmp 14], argTypes := #[56, 56] }, type := 56, pos := _, after := #[{ on := 2, ground := Go.Ground.data }, { on := 6, ground := Go.Ground.data }, { on := 2, ground := Go.Ground.chain }], guard := none }) rfl (fun K hK => ?_) AllReadyH.nil
      ((obtain ⟨v', w3, hrun, hown, hgrow, hat⟩ := append_run 56 ho1 hbs (by rw [numB_length, strB_length]; omega) hHeld.size); (rw [if_pos (by rfl)]); (with_reducible refine wp_append_run (.tmp 10) (.tmp 14) 56 ?_ ?_ ?_ hrun ?_); rfl; rfl; rfl; (simp only [Act.put, List.setIfInBounds_toArray, List.set_cons_zero, List.set_cons_succ]); (have hb3 := hHeld.grown hgrow hHeld.size (fun k hk => (ho1.block _ hk).1)))
      refine hK.out _ _ ?hSr2_12_7 (fun hHeld2 => ?_)
      case hSr2_12_7 => (exact hb3)
      clear hK K hHeld
      have hHeld := hHeld2
      clear hHeld2
      (try simp only [Act.put, List.setIfInBounds_toArray, List.set_cons_zero, List.set_cons_succ])
      refine wpAnyH_take (i := 8) (oi := { dst := some 2, op := Go.Op.assign (Go.Operand.tmp 15), type := 56, pos := _, after := #[{ on := 7, ground := Go.Ground.data }, { on := 7, ground := Go.Ground.chain }, { on := 0, ground := Go.Ground.phase }, { on := 1, ground := Go.Ground.phase }, { on := 2, ground := Go.Ground.phase }, { on := 3, ground := Go.Ground.phase }, { on := 4, ground := Go.Ground.phase }, { on := 5, ground := Go.Ground.phase }, { on := 6, ground := Go.Ground.phase }, { on := 7, ground := Go.Ground.phase }], guard := none }) (v := ?vr2_13_8) rfl (by kernel_rfl) (by kernel_rfl) (by kernel_rfl) (fun _ _ _ h => h) (Or.inl ⟨by rfl, ?yr2_13_8⟩) hHeld ?_
      case yr2_13_8 => ((intro w hSw; (try dsimp only at hSw); go_simp) <;> with_reducible rfl)
      (try simp only [Act.put, List.setIfInBounds_toArray, List.set_cons_zero, List.set_cons_succ])
      refine wpAnyH_done (by kernel_rfl) ?_ _
      (go_wp2; go_ret; exact ⟨_, rfl, hown, hHeld⟩)
  · have hs1 : (65535 : Int) < (s.size : Int) := by omega
    have ec : cut65 s = s.extract 0 65535 := by unfold cut65; rw [if_neg hs]
    have es : (s.extract 0 65535).size = 65535 := by simp; omega
    have hwr : IntKind.u64.wrap 65535 = 65535 := by decide
    have h65 : (65535 : Int) ≤ (s.size : Int) := by omega
    have hsz : (s.extract 0 65535).size ≤ maxLen := by unfold maxLen; omega
    unfold textB
    rw [ec, es]
    go_wp2_with fail
    have hbd : Below w.heap.size w w.drew := (Below.refl _ _).drew
    refine wp_region_held_drew (S := (fun w' => Below w.heap.size w w')) (by kernel_rfl) ?hSr3_ (fun hHeld => ?_)
    case hSr3_ => (first | exact hbd | exact below_step hHeld hb)
    refine wpAnyH_take (i := 0) (oi := { dst := some 8, op := Go.Op.move (Go.Operand.tmp 3), type := 3, pos := _, after := #[], guard := none }) (v := ?vr3_1_0) rfl (by kernel_rfl) (by kernel_rfl) (by kernel_rfl) (fun _ _ _ h => h) (Or.inl ⟨by rfl, ?yr3_1_0⟩) hHeld ?_
    case yr3_1_0 => ((intro w hSw; (try dsimp only at hSw); go_simp) <;> with_reducible rfl)
    (try simp only [Act.put, List.setIfInBounds_toArray, List.set_cons_zero, List.set_cons_succ])
    refine wpAnyH_take (i := 1) (oi := { dst := some 9, op := Go.Op.convert 3 22 (Go.Operand.tmp 8), type := 22, pos := _, after := #[{ on := 0, ground := Go.Ground.data }], guard := none }) (v := ?vr3_2_1) rfl (by kernel_rfl) (by kernel_rfl) (by kernel_rfl) (fun _ _ _ h => h) (Or.inl ⟨by rfl, ?yr3_2_1⟩) hHeld ?_
    case yr3_2_1 => ((intro w hSw; (try dsimp only at hSw); go_simp) <;> with_reducible rfl)
    (try simp only [Act.put, List.setIfInBounds_toArray, List.set_cons_zero, List.set_cons_succ])
    refine wpAnyH_take (i := 3) (oi := { dst := some 11, op := Go.Op.move (Go.Operand.tmp 0), type := 9, pos := _, after := #[], guard := none }) (v := ?vr3_3_3) rfl (by kernel_rfl) (by kernel_rfl) (by kernel_rfl) (fun _ _ _ h => h) (Or.inl ⟨by rfl, ?yr3_3_3⟩) hHeld ?_
    case yr3_3_3 => ((intro w hSw; (try dsimp only at hSw); go_simp) <;> with_reducible rfl)
    (try simp only [Act.put, List.setIfInBounds_toArray, List.set_cons_zero, List.set_cons_succ])
    refine wpAnyH_take (i := 4) (oi := { dst := some 12, op := Go.Op.move (Go.Operand.tmp 3), type := 3, pos := _, after := #[], guard := none }) (v := ?vr3_4_4) rfl (by kernel_rfl) (by kernel_rfl) (by kernel_rfl) (fun _ _ _ h => h) (Or.inl ⟨by rfl, ?yr3_4_4⟩) hHeld ?_
    case yr3_4_4 => ((intro w hSw; (try dsimp only at hSw); go_simp) <;> with_reducible rfl)
    (try simp only [Act.put, List.setIfInBounds_toArray, List.set_cons_zero, List.set_cons_succ])
    refine wpAnyH_take (i := 5) (oi := { dst := some 13, op := Go.Op.slice 9 (Go.Operand.tmp 11) none (some (Go.Operand.tmp 12)) none, type := 9, pos := _, after := #[{ on := 3, ground := Go.Ground.data }, { on := 4, ground := Go.Ground.data }], guard := none }) (v := ?vr3_5_5) rfl (by kernel_rfl) (by kernel_rfl) (by kernel_rfl) (fun _ _ _ h => h) (Or.inl ⟨by rfl, ?yr3_5_5⟩) hHeld ?_
    case yr3_5_5 => ((intro w hSw; (try dsimp only at hSw); go_simp) <;> with_reducible rfl)
    (try simp only [Act.put, List.setIfInBounds_toArray, List.set_cons_zero, List.set_cons_succ])
    refine wpAnyH_ready (rs := [2, 6]) (by kernel_rfl) (by simp) ?_
    refine AllReadyH.cons (o := { dst := some 10, op := Go.Op.call { callee := Go.Callee.value (Go.Operand.func 59), args := #[Go.Operand.tmp 9, Go.Operand.const (Go.Value.int Go.IntKind.i64 2)], argTypes := #[22, 3] }, type := 56, pos := _, after := #[{ on := 1, ground := Go.Ground.data }], guard := none }) rfl (fun K hK => ?_) ?_
    · go_simp
      ((refine (refNum_t 65535 2 ⟨by omega, by omega⟩ _).mono ?_); (rintro e w1 ⟨v1, rfl, ho1, hb⟩); (rw [lim2] at ho1); (replace ho1 := ho1.mono hHeld.size); (try replace hbs := hbs.later hb))
      go_wp2_with fail
      refine hK.out _ _ ?hSr3_6_2 (fun hHeld2 => ?_)
      case hSr3_6_2 => (first | exact hbd | exact below_step hHeld hb)
      clear hK K hHeld
      have hHeld := hHeld2
      clear hHeld2
      (try simp only [Act.put, List.setIfInBounds_toArray, List.set_cons_zero, List.set_cons_succ])
      refine wpAnyH_ready (rs := [6]) (by kernel_rfl) (by simp) ?_
      refine AllReadyH.cons (o := { dst := some 14, op := Go.Op.convert 9 56 (Go.Operand.tmp 13), type := 56, pos := _, after := #[{ on := 5, ground := Go.Ground.data }], guard := none }) rfl (fun K hK => ?_) AllReadyH.nil
      ((first | (have hcv := conv_run w1 (s.extract 0 65535) hsz) | (have hcv := conv_run w.drew (s.extract 0 65535) hsz)); (obtain ⟨v2, wn, hrun, hbs, hb, hob⟩ := hcv); (rw [if_pos (by rfl)]); (with_reducible refine wp_conv_run (.tmp 13) 9 56 ?_ ?_ hrun ?_); rfl; rfl; clear hrun; (simp only [Act.put, List.setIfInBounds_toArray, List.set_cons_zero, List.set_cons_succ]); (try replace ho1 := ho1.later hb))
      refine hK.out _ _ ?hSr3_7_6 (fun hHeld2 => ?_)
      case hSr3_7_6 => (first | exact hbd | exact below_step hHeld hb)
      clear hK K hHeld
      have hHeld := hHeld2
      clear hHeld2
      (try simp only [Act.put, List.setIfInBounds_toArray, List.set_cons_zero, List.set_cons_succ])
      refine wpAnyH_ready (rs := [7]) (by kernel_rfl) (by simp) ?_
      refine AllReadyH.cons (o := { dst := some 15, op := Go.Op.call { callee := Go.Callee.builtin Go.Builtin.append, args := #[Go.Operand.tmp 10, Go.Operand.tmp 14], argTypes := #[56, 56] }, type := 56, pos := _, after := #[{ on := 2, ground := Go.Ground.data }, { on := 6, ground := Go.Ground.data }, { on := 2, ground := Go.Ground.chain }], guard := none }) rfl (fun K hK => ?_) AllReadyH.nil
      ((obtain ⟨v', w3, hrun, hown, hgrow, hat⟩ := append_run 56 ho1 hbs (by rw [numB_length, strB_length]; omega) hHeld.size); (rw [if_pos (by rfl)]); (with_reducible refine wp_append_run (.tmp 10) (.tmp 14) 56 ?_ ?_ ?_ hrun ?_); rfl; rfl; rfl; (simp only [Act.put, List.setIfInBounds_toArray, List.set_cons_zero, List.set_cons_succ]); (have hb3 := hHeld.grown hgrow hHeld.size (fun k hk => (ho1.block _ hk).1)))
      refine hK.out _ _ ?hSr3_8_7 (fun hHeld2 => ?_)
      case hSr3_8_7 => (exact hb3)
      clear hK K hHeld
      have hHeld := hHeld2
      clear hHeld2
      (try simp only [Act.put, List.setIfInBounds_toArray, List.set_cons_zero, List.set_cons_succ])
      refine wpAnyH_take (i := 8) (oi := { dst := some 2, op := Go.Op.assign (Go.Operand.tmp 15), type := 56, pos := _, after := #[{ on := 7, ground := Go.Ground.data }, { on := 7, ground := Go.Ground.chain }, { on := 0, ground := Go.Ground.phase }, { on := 1, ground := Go.Ground.phase }, { on := 2, ground := Go.Ground.phase }, { on := 3, ground := Go.Ground.phase }, { on := 4, ground := Go.Ground.phase }, { on := 5, ground := Go.Ground.phase }, { on := 6, ground := Go.Ground.phase }, { on := 7, ground := Go.Ground.phase }], guard := none }) (v := ?vr3_9_8) rfl (by kernel_rfl) (by kernel_rfl) (by kernel_rfl) (fun _ _ _ h => h) (Or.inl ⟨by rfl, ?yr3_9_8⟩) hHeld ?_
      case yr3_9_8 => ((intro w hSw; (try dsimp only at hSw); go_simp) <;> with_reducible rfl)
      (try simp only [Act.put, List.setIfInBounds_toArray, List.set_cons_zero, List.set_cons_succ])
      refine wpAnyH_done (by kernel_rfl) ?_ _
      (go_wp2; go_ret; exact ⟨_, rfl, hown, hHeld⟩)
    refine AllReadyH.cons (o := { dst := some 14, op := Go.Op.convert 9 56 (Go.Operand.tmp 13), type := 56, pos := _, after := #[{ on := 5, ground := Go.Ground.data }], guard := none }) rfl (fun K hK => ?_) AllReadyH.nil
    · ((first | (have hcv := conv_run w1 (s.extract 0 65535) hsz) | (have hcv := conv_run w.drew (s.extract 0 65535) hsz)); (obtain ⟨v2, wn, hrun, hbs, hb, hob⟩ := hcv); (rw [if_pos (by rfl)]); (with_reducible refine wp_conv_run (.tmp 13) 9 56 ?_ ?_ hrun ?_); rfl; rfl; clear hrun; (simp only [Act.put, List.setIfInBounds_toArray, List.set_cons_zero, List.set_cons_succ]); (try replace ho1 := ho1.later hb))
      refine hK.out _ _ ?hSr3_10_6 (fun hHeld2 => ?_)
      case hSr3_10_6 => (first | exact hbd | exact below_step hHeld hb)
      clear hK K hHeld
      have hHeld := hHeld2
      clear hHeld2
      (try simp only [Act.put, List.setIfInBounds_toArray, List.set_cons_zero, List.set_cons_succ])
      refine wpAnyH_ready (rs := [2]) (by kernel_rfl) (by simp) ?_
      refine AllReadyH.cons (o := { dst := some 10, op := Go.Op.call { callee := Go.Callee.value (Go.Operand.func 59), args := #[Go.Operand.tmp 9, Go.Operand.const (Go.Value.int Go.IntKind.i64 2)], argTypes := #[22, 3] }, type := 56, pos := _, after := #[{ on := 1, ground := Go.Ground.data }], guard := none }) rfl (fun K hK => ?_) AllReadyH.nil
      go_simp
      ((refine (refNum_t 65535 2 ⟨by omega, by omega⟩ _).mono ?_); (rintro e w1 ⟨v1, rfl, ho1, hb⟩); (rw [lim2] at ho1); (replace ho1 := ho1.mono hHeld.size); (try replace hbs := hbs.later hb))
      go_wp2_with fail
      refine hK.out _ _ ?hSr3_11_2 (fun hHeld2 => ?_)
      case hSr3_11_2 => (first | exact hbd | exact below_step hHeld hb)
      clear hK K hHeld
      have hHeld := hHeld2
      clear hHeld2
      (try simp only [Act.put, List.setIfInBounds_toArray, List.set_cons_zero, List.set_cons_succ])
      refine wpAnyH_ready (rs := [7]) (by kernel_rfl) (by simp) ?_
      refine AllReadyH.cons (o := { dst := some 15, op := Go.Op.call { callee := Go.Callee.builtin Go.Builtin.append, args := #[Go.Operand.tmp 10, Go.Operand.tmp 14], argTypes := #[56, 56] }, type := 56, pos := _, after := #[{ on := 2, ground := Go.Ground.data }, { on := 6, ground := Go.Ground.data }, { on := 2, ground := Go.Ground.chain }], guard := none }) rfl (fun K hK => ?_) AllReadyH.nil
      ((obtain ⟨v', w3, hrun, hown, hgrow, hat⟩ := append_run 56 ho1 hbs (by rw [numB_length, strB_length]; omega) hHeld.size); (rw [if_pos (by rfl)]); (with_reducible refine wp_append_run (.tmp 10) (.tmp 14) 56 ?_ ?_ ?_ hrun ?_); rfl; rfl; rfl; (simp only [Act.put, List.setIfInBounds_toArray, List.set_cons_zero, List.set_cons_succ]); (have hb3 := hHeld.grown hgrow hHeld.size (fun k hk => (ho1.block _ hk).1)))
      refine hK.out _ _ ?hSr3_12_7 (fun hHeld2 => ?_)
      case hSr3_12_7 => (exact hb3)
      clear hK K hHeld
      have hHeld := hHeld2
      clear hHeld2
      (try simp only [Act.put, List.setIfInBounds_toArray, List.set_cons_zero, List.set_cons_succ])
      refine wpAnyH_take (i := 8) (oi := { dst := some 2, op := Go.Op.assign (Go.Operand.tmp 15), type := 56, pos := _, after := #[{ on := 7, ground := Go.Ground.data }, { on := 7, ground := Go.Ground.chain }, { on := 0, ground := Go.Ground.phase }, { on := 1, ground := Go.Ground.phase }, { on := 2, ground := Go.Ground.phase }, { on := 3, ground := Go.Ground.phase }, { on := 4, ground := Go.Ground.phase }, { on := 5, ground := Go.Ground.phase }, { on := 6, ground := Go.Ground.phase }, { on := 7, ground := Go.Ground.phase }], guard := none }) (v := ?vr3_13_8) rfl (by kernel_rfl) (by kernel_rfl) (by kernel_rfl) (fun _ _ _ h => h) (Or.inl ⟨by rfl, ?yr3_13_8⟩) hHeld ?_
      case yr3_13_8 => ((intro w hSw; (try dsimp only at hSw); go_simp) <;> with_reducible rfl)
      (try simp only [Act.put, List.setIfInBounds_toArray, List.set_cons_zero, List.set_cons_succ])
      refine wpAnyH_done (by kernel_rfl) ?_ _
      (go_wp2; go_ret; exact ⟨_, rfl, hown, hHeld⟩)
end Go.Proofs.Ytgioompelogopaa
