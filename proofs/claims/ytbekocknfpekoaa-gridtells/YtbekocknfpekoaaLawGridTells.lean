/- LawGridTells: what the theorem needs of these texts. No conditions beyond those that are written. -/
import Derived.Test.YtbekocknfpekoaaGA
import Derived.Test.YtbekocknfpekoaaJD9
namespace Go.Proofs.Ytbekocknfpekoaa
set_option linter.unusedVariables false
set_option linter.unusedSimpArgs false
open Go.RowKit
set_option maxRecDepth 100000 in
set_option maxHeartbeats 64000000 in
theorem gtells_w (s : Sp) (ht i j m q : Int) (N M : Nat) (L LH : List (Int × Int))
    (HC : ∀ w, Calls Try.prog 35 #[sv s] w fun e w' => e = .returned (.int .i64 (N : Int)) ∧ Below w.heap.size w w')
    (HRN : ∀ w, Calls Try.prog 36 #[sv s] w fun e w' => ∃ p c, e = .returned (.slice p N c) ∧ TS w' (.slice p N c) L ∧ Below w.heap.size w w')
    (HN : ∀ w, Calls Try.prog 38 #[sv s] w fun e w' => ∃ p c, e = .returned (.slice p N c) ∧ TS w' (.slice p N c) L ∧ Below w.heap.size w w')
    (HS : ∀ va vb w, TS w va L → TS w vb L → Calls Try.prog 37 #[va, vb] w fun e w' => e = .returned (.bool true) ∧ Below w.heap.size w w')
    (HT : ∀ w, Calls Try.prog 39 #[sv s] w fun e w' => e = .returned (.int .i64 m) ∧ Below w.heap.size w w')
    (HRT : ∀ w, Calls Try.prog 40 #[sv s] w fun e w' => e = .returned (.int .i64 m) ∧ Below w.heap.size w w')
    (HO : ∀ w, Calls Try.prog 41 #[sv s, .int .i64 ht] w fun e w' => ∃ p c, e = .returned (.slice p M c) ∧ TS w' (.slice p M c) LH ∧ Below w.heap.size w w')
    (HRO : ∀ w, Calls Try.prog 42 #[sv s, .int .i64 ht] w fun e w' => ∃ p c, e = .returned (.slice p M c) ∧ TS w' (.slice p M c) LH ∧ Below w.heap.size w w')
    (HS2 : ∀ va vb w, TS w va LH → TS w vb LH → Calls Try.prog 37 #[va, vb] w fun e w' => e = .returned (.bool true) ∧ Below w.heap.size w w')
    (HP : ∀ w, Calls Try.prog 43 #[sv s, rv i j] w fun e w' => e = .returned (.int .i64 q) ∧ Below w.heap.size w w')
    (HRP : ∀ w, Calls Try.prog 44 #[sv s, rv i j] w fun e w' => e = .returned (.int .i64 q) ∧ Below w.heap.size w w') (w : World) :
    Calls Try.prog 10 #[sv s, .int .i64 ht, .int .i64 i, .int .i64 j] w fun e w' => e = .returned (.bool true) ∧ Below w.heap.size w w' := by
  have HA := alive10_t
  have HSx := Lib.hid (And.intro HS HS2)
  clear HS HS2
  unfold sv at *
  (try unfold rv at *)
  obtain ⟨Rs, hb0⟩ := one_row w #[.int .i64 s.n, .int .i64 s.d0.kind, .int .i64 s.d0.side, .int .i64 s.d0.step, .int .i64 s.d1.kind, .int .i64 s.d1.side, .int .i64 s.d1.step] 26
  (try clear s0 s1 s2 s3 s4 s5 s6); obtain ⟨s0, s1, s2, s3, s4, s5, s6⟩ := row7 Rs
  go_enter Try.func10, Try.ntmps10
  go_wp2_with fail
  replace Rs := Rs.alloc (.cells #[Value.int .i64 i, Value.int .i64 j] 27)
  have Ry := Row.new (World.alloc w (.cells #[.int .i64 s.n, .int .i64 s.d0.kind, .int .i64 s.d0.side, .int .i64 s.d0.step, .int .i64 s.d1.kind, .int .i64 s.d1.side, .int .i64 s.d1.step] 26)) #[Value.int .i64 i, Value.int .i64 j] 27
  simp only [World.size_alloc] at Ry
  have my := hb0.size
  replace hb0 := hb0.alloc hb0.size (.cells #[Value.int .i64 i, Value.int .i64 j] 27)
  (try clear s0 s1 s2 s3 s4 s5 s6); obtain ⟨s0, s1, s2, s3, s4, s5, s6⟩ := row7 Rs
  (try clear y0 y1); obtain ⟨y0, y1⟩ := row2 Ry
  generalize (World.alloc (World.alloc w (.cells #[.int .i64 s.n, .int .i64 s.d0.kind, .int .i64 s.d0.side, .int .i64 s.d0.step, .int .i64 s.d1.kind, .int .i64 s.d1.side, .int .i64 s.d1.step] 26)) (.cells #[Value.int .i64 i, Value.int .i64 j] 27)) = w1 at *
  refine wp_region_held_drew (S := (fun w' => w'.cell? ⟨w.heap.size + 1, 0, none⟩ = some (Value.int .i64 i) ∧ w'.cell? ⟨w.heap.size + 1, 1, none⟩ = some (Value.int .i64 j) ∧ Row w' w.heap.size #[.int .i64 s.n, .int .i64 s.d0.kind, .int .i64 s.d0.side, .int .i64 s.d0.step, .int .i64 s.d1.kind, .int .i64 s.d1.side, .int .i64 s.d1.step] 26)) (by kernel_rfl) ?hSr1_ (fun hHeld => ?_)
  case hSr1_ => (exact ⟨y0, y1, Rs.drew⟩)
  (clear s0 s1 s2 s3 s4 s5 s6 y0 y1; (replace Rs := Rs.drew); (replace Ry := Ry.drew); (replace hb0 := hb0.drew); (generalize World.drew w1 = wq at *))
  refine wpAnyH_ready (rs := [0]) (by as_aux_lemma => kernel_rfl) (by simp) ?_
  refine AllReadyH.cons (o := ⟨some 13, .call { callee := .value (.func 34), args := #[], argTypes := #[] }, 4, _, _, _⟩) rfl (fun K hK => ?_) AllReadyH.nil
  (go_simp; (refine (HA _).mono ?_); (rintro e wz ⟨rfl, hb⟩); (try replace Ta := Ta.later hb); (try replace Tb := Tb.later hb); (try replace Tc := Tc.later hb); (try replace Td := Td.later hb); (try replace Te := Te.later hb); (replace Rs := Rs.later hb); (replace Ry := Ry.later hb); (replace hb0 := below_step hb0 hb); go_wp2_with fail)
  refine hK.out _ _ ?hSr1_1_0 (fun hHeld2 => ?_)
  case hSr1_1_0 => (obtain ⟨y0, y1, Qs⟩ := hHeld; exact ⟨cell_later hb y0, cell_later hb y1, Qs.later hb⟩)
  clear hK K hHeld
  have hHeld := hHeld2
  clear hHeld2
  rename World => wq
  (try simp only [Act.put, nz1, nz2, nz3])
  refine tkL 1 ⟨some 14, .move (.tmp 13), 4, _, _, _⟩ hHeld ?_
  (try simp only [Act.put, nz1, nz2, nz3])
  refine tkL 2 ⟨some 15, .load 26 (.tmp 4), 26, _, _, _⟩ hHeld ?_ (v := ?vr1_3_2) (hy := ?yr1_3_2)
  case yr1_3_2 => (intro wy hSw; obtain ⟨y0, y1, Qs⟩ := hSw; (with_reducible refine pexec_load 26 (.tmp 4) ?_ w.heap.size ?_ 26 #[.int .i64 s.n, .int .i64 s.d0.kind, .int .i64 s.d0.side, .int .i64 s.d0.step, .int .i64 s.d1.kind, .int .i64 s.d1.side, .int .i64 s.d1.step] _ Qs Try.underlying26 ?_ ?_) <;> first | rfl | exact infoSp)
  (try simp only [Act.put, nz1, nz2, nz3])
  refine tkL 4 ⟨some 17, .load 26 (.tmp 4), 26, _, _, _⟩ hHeld ?_ (v := ?vr1_4_4) (hy := ?yr1_4_4)
  case yr1_4_4 => (intro wy hSw; obtain ⟨y0, y1, Qs⟩ := hSw; (with_reducible refine pexec_load 26 (.tmp 4) ?_ w.heap.size ?_ 26 #[.int .i64 s.n, .int .i64 s.d0.kind, .int .i64 s.d0.side, .int .i64 s.d0.step, .int .i64 s.d1.kind, .int .i64 s.d1.side, .int .i64 s.d1.step] _ Qs Try.underlying26 ?_ ?_) <;> first | rfl | exact infoSp)
  (try simp only [Act.put, nz1, nz2, nz3])
  refine wpAnyH_ready (rs := [3]) (by as_aux_lemma => kernel_rfl) (by simp) ?_
  refine AllReadyH.cons (o := ⟨some 16, .call { callee := .value (.func 35), args := #[.tmp 15], argTypes := #[26] }, 3, _, _, _⟩) rfl (fun K hK => ?_) AllReadyH.nil
  (go_simp; (refine (HC _).mono ?_); (rintro e wz ⟨rfl, hb⟩); (try replace Ta := Ta.later hb); (try replace Tb := Tb.later hb); (try replace Tc := Tc.later hb); (try replace Td := Td.later hb); (try replace Te := Te.later hb); (replace Rs := Rs.later hb); (replace Ry := Ry.later hb); (replace hb0 := below_step hb0 hb); go_wp2_with fail)
  refine hK.out _ _ ?hSr1_5_3 (fun hHeld2 => ?_)
  case hSr1_5_3 => (obtain ⟨y0, y1, Qs⟩ := hHeld; exact ⟨cell_later hb y0, cell_later hb y1, Qs.later hb⟩)
  clear hK K hHeld
  have hHeld := hHeld2
  clear hHeld2
  rename World => wq
  (try simp only [Act.put, nz1, nz2, nz3])
  refine wpAnyH_ready (rs := [5]) (by as_aux_lemma => kernel_rfl) (by simp) ?_
  refine AllReadyH.cons (o := ⟨some 18, .call { callee := .value (.func 36), args := #[.tmp 17], argTypes := #[26] }, 49, _, _, _⟩) rfl (fun K hK => ?_) AllReadyH.nil
  (go_simp; (refine (HRN _).mono ?_); (rintro e wz ⟨pa, ca, rfl, Ta, hb⟩); (try replace Tb := Tb.later hb); (try replace Tc := Tc.later hb); (try replace Td := Td.later hb); (try replace Te := Te.later hb); (replace Rs := Rs.later hb); (replace Ry := Ry.later hb); (replace hb0 := below_step hb0 hb); go_wp2_with fail)
  refine hK.out _ _ ?hSr1_6_5 (fun hHeld2 => ?_)
  case hSr1_6_5 => (obtain ⟨y0, y1, Qs⟩ := hHeld; exact ⟨cell_later hb y0, cell_later hb y1, Qs.later hb⟩)
  clear hK K hHeld
  have hHeld := hHeld2
  clear hHeld2
  rename World => wq
  (try simp only [Act.put, nz1, nz2, nz3])
  refine tkL 6 ⟨some 19, .call { callee := .builtin .len, args := #[.tmp 18], argTypes := #[49] }, 3, _, _, _⟩ hHeld ?_
  (try simp only [Act.put, nz1, nz2, nz3])
  refine tkL 7 ⟨some 20, .binOp .eql 3 (.tmp 16) (.tmp 19) 3, 4, _, _, _⟩ hHeld ?_
  (try simp only [Act.put, nz1, nz2, nz3])
  refine tkL 8 ⟨some 21, .pick (.tmp 14) (.tmp 20) (.const (.bool false)), 4, _, _, _⟩ hHeld ?_
  (try simp only [Act.put, nz1, nz2, nz3])
  refine tkL 9 ⟨some 22, .move (.tmp 21), 4, _, _, _⟩ hHeld ?_
  (try simp only [Act.put, nz1, nz2, nz3])
  refine tkL 10 ⟨some 23, .load 26 (.tmp 4), 26, _, _, _⟩ hHeld ?_ (v := ?vr1_11_10) (hy := ?yr1_11_10)
  case yr1_11_10 => (intro wy hSw; obtain ⟨y0, y1, Qs⟩ := hSw; (with_reducible refine pexec_load 26 (.tmp 4) ?_ w.heap.size ?_ 26 #[.int .i64 s.n, .int .i64 s.d0.kind, .int .i64 s.d0.side, .int .i64 s.d0.step, .int .i64 s.d1.kind, .int .i64 s.d1.side, .int .i64 s.d1.step] _ Qs Try.underlying26 ?_ ?_) <;> first | rfl | exact infoSp)
  (try simp only [Act.put, nz1, nz2, nz3])
  refine tkL 12 ⟨some 25, .load 26 (.tmp 4), 26, _, _, _⟩ hHeld ?_ (v := ?vr1_12_12) (hy := ?yr1_12_12)
  case yr1_12_12 => (intro wy hSw; obtain ⟨y0, y1, Qs⟩ := hSw; (with_reducible refine pexec_load 26 (.tmp 4) ?_ w.heap.size ?_ 26 #[.int .i64 s.n, .int .i64 s.d0.kind, .int .i64 s.d0.side, .int .i64 s.d0.step, .int .i64 s.d1.kind, .int .i64 s.d1.side, .int .i64 s.d1.step] _ Qs Try.underlying26 ?_ ?_) <;> first | rfl | exact infoSp)
  (try simp only [Act.put, nz1, nz2, nz3])
  refine wpAnyH_ready (rs := [11]) (by as_aux_lemma => kernel_rfl) (by simp) ?_
  refine AllReadyH.cons (o := ⟨some 24, .call { callee := .value (.func 38), args := #[.tmp 23], argTypes := #[26] }, 49, _, _, _⟩) rfl (fun K hK => ?_) AllReadyH.nil
  (go_simp; (refine (HN _).mono ?_); (rintro e wz ⟨pb, cb, rfl, Tb, hb⟩); (try replace Ta := Ta.later hb); (try replace Tc := Tc.later hb); (try replace Td := Td.later hb); (try replace Te := Te.later hb); (replace Rs := Rs.later hb); (replace Ry := Ry.later hb); (replace hb0 := below_step hb0 hb); go_wp2_with fail)
  refine hK.out _ _ ?hSr1_13_11 (fun hHeld2 => ?_)
  case hSr1_13_11 => (obtain ⟨y0, y1, Qs⟩ := hHeld; exact ⟨cell_later hb y0, cell_later hb y1, Qs.later hb⟩)
  clear hK K hHeld
  have hHeld := hHeld2
  clear hHeld2
  rename World => wq
  (try simp only [Act.put, nz1, nz2, nz3])
  refine wpAnyH_ready (rs := [13]) (by as_aux_lemma => kernel_rfl) (by simp) ?_
  refine AllReadyH.cons (o := ⟨some 26, .call { callee := .value (.func 36), args := #[.tmp 25], argTypes := #[26] }, 49, _, _, _⟩) rfl (fun K hK => ?_) AllReadyH.nil
  (go_simp; (refine (HRN _).mono ?_); (rintro e wz ⟨pc, cc, rfl, Tc, hb⟩); (try replace Ta := Ta.later hb); (try replace Tb := Tb.later hb); (try replace Td := Td.later hb); (try replace Te := Te.later hb); (replace Rs := Rs.later hb); (replace Ry := Ry.later hb); (replace hb0 := below_step hb0 hb); go_wp2_with fail)
  refine hK.out _ _ ?hSr1_14_13 (fun hHeld2 => ?_)
  case hSr1_14_13 => (obtain ⟨y0, y1, Qs⟩ := hHeld; exact ⟨cell_later hb y0, cell_later hb y1, Qs.later hb⟩)
  clear hK K hHeld
  have hHeld := hHeld2
  clear hHeld2
  rename World => wq
  (try simp only [Act.put, nz1, nz2, nz3])
  refine wpAnyH_ready (rs := [14]) (by as_aux_lemma => kernel_rfl) (by simp) ?_
  refine AllReadyH.cons (o := ⟨some 27, .call { callee := .value (.func 37), args := #[.tmp 24, .tmp 26], argTypes := #[49, 49] }, 4, _, _, _⟩) rfl (fun K hK => ?_) AllReadyH.nil
  (go_simp; (refine (HSx.out.1 _ _ _ Tb Tc).mono ?_); (rintro e wz ⟨rfl, hb⟩); (try replace Ta := Ta.later hb); (try replace Tb := Tb.later hb); (try replace Tc := Tc.later hb); (try replace Td := Td.later hb); (try replace Te := Te.later hb); (replace Rs := Rs.later hb); (replace Ry := Ry.later hb); (replace hb0 := below_step hb0 hb); go_wp2_with fail)
  refine hK.out _ _ ?hSr1_15_14 (fun hHeld2 => ?_)
  case hSr1_15_14 => (obtain ⟨y0, y1, Qs⟩ := hHeld; exact ⟨cell_later hb y0, cell_later hb y1, Qs.later hb⟩)
  clear hK K hHeld
  have hHeld := hHeld2
  clear hHeld2
  rename World => wq
  (try simp only [Act.put, nz1, nz2, nz3])
  refine tkL 15 ⟨some 28, .pick (.tmp 22) (.tmp 27) (.const (.bool false)), 4, _, _, _⟩ hHeld ?_
  (try simp only [Act.put, nz1, nz2, nz3])
  refine tkL 16 ⟨some 29, .move (.tmp 28), 4, _, _, _⟩ hHeld ?_
  (try simp only [Act.put, nz1, nz2, nz3])
  refine tkL 17 ⟨some 30, .load 26 (.tmp 4), 26, _, _, _⟩ hHeld ?_ (v := ?vr1_18_17) (hy := ?yr1_18_17)
  case yr1_18_17 => (intro wy hSw; obtain ⟨y0, y1, Qs⟩ := hSw; (with_reducible refine pexec_load 26 (.tmp 4) ?_ w.heap.size ?_ 26 #[.int .i64 s.n, .int .i64 s.d0.kind, .int .i64 s.d0.side, .int .i64 s.d0.step, .int .i64 s.d1.kind, .int .i64 s.d1.side, .int .i64 s.d1.step] _ Qs Try.underlying26 ?_ ?_) <;> first | rfl | exact infoSp)
  (try simp only [Act.put, nz1, nz2, nz3])
  refine tkL 19 ⟨some 32, .load 26 (.tmp 4), 26, _, _, _⟩ hHeld ?_ (v := ?vr1_19_19) (hy := ?yr1_19_19)
  case yr1_19_19 => (intro wy hSw; obtain ⟨y0, y1, Qs⟩ := hSw; (with_reducible refine pexec_load 26 (.tmp 4) ?_ w.heap.size ?_ 26 #[.int .i64 s.n, .int .i64 s.d0.kind, .int .i64 s.d0.side, .int .i64 s.d0.step, .int .i64 s.d1.kind, .int .i64 s.d1.side, .int .i64 s.d1.step] _ Qs Try.underlying26 ?_ ?_) <;> first | rfl | exact infoSp)
  (try simp only [Act.put, nz1, nz2, nz3])
  refine wpAnyH_ready (rs := [18]) (by as_aux_lemma => kernel_rfl) (by simp) ?_
  refine AllReadyH.cons (o := ⟨some 31, .call { callee := .value (.func 39), args := #[.tmp 30], argTypes := #[26] }, 3, _, _, _⟩) rfl (fun K hK => ?_) AllReadyH.nil
  (go_simp; (refine (HT _).mono ?_); (rintro e wz ⟨rfl, hb⟩); (try replace Ta := Ta.later hb); (try replace Tb := Tb.later hb); (try replace Tc := Tc.later hb); (try replace Td := Td.later hb); (try replace Te := Te.later hb); (replace Rs := Rs.later hb); (replace Ry := Ry.later hb); (replace hb0 := below_step hb0 hb); go_wp2_with fail)
  refine hK.out _ _ ?hSr1_20_18 (fun hHeld2 => ?_)
  case hSr1_20_18 => (obtain ⟨y0, y1, Qs⟩ := hHeld; exact ⟨cell_later hb y0, cell_later hb y1, Qs.later hb⟩)
  clear hK K hHeld
  have hHeld := hHeld2
  clear hHeld2
  rename World => wq
  (try simp only [Act.put, nz1, nz2, nz3])
  refine wpAnyH_ready (rs := [20]) (by as_aux_lemma => kernel_rfl) (by simp) ?_
  refine AllReadyH.cons (o := ⟨some 33, .call { callee := .value (.func 40), args := #[.tmp 32], argTypes := #[26] }, 3, _, _, _⟩) rfl (fun K hK => ?_) AllReadyH.nil
  (go_simp; (refine (HRT _).mono ?_); (rintro e wz ⟨rfl, hb⟩); (try replace Ta := Ta.later hb); (try replace Tb := Tb.later hb); (try replace Tc := Tc.later hb); (try replace Td := Td.later hb); (try replace Te := Te.later hb); (replace Rs := Rs.later hb); (replace Ry := Ry.later hb); (replace hb0 := below_step hb0 hb); go_wp2_with fail)
  refine hK.out _ _ ?hSr1_21_20 (fun hHeld2 => ?_)
  case hSr1_21_20 => (obtain ⟨y0, y1, Qs⟩ := hHeld; exact ⟨cell_later hb y0, cell_later hb y1, Qs.later hb⟩)
  clear hK K hHeld
  have hHeld := hHeld2
  clear hHeld2
  rename World => wq
  (try simp only [Act.put, nz1, nz2, nz3])
  refine tkL 21 ⟨some 34, .binOp .eql 3 (.tmp 31) (.tmp 33) 3, 4, _, _, _⟩ hHeld ?_
  (try simp only [Act.put, nz1, nz2, nz3])
  refine tkL 22 ⟨some 35, .pick (.tmp 29) (.tmp 34) (.const (.bool false)), 4, _, _, _⟩ hHeld ?_
  (try simp only [Act.put, nz1, nz2, nz3])
  refine tkL 23 ⟨some 36, .move (.tmp 35), 4, _, _, _⟩ hHeld ?_
  (try simp only [Act.put, nz1, nz2, nz3])
  refine tkL 24 ⟨some 37, .load 26 (.tmp 4), 26, _, _, _⟩ hHeld ?_ (v := ?vr1_25_24) (hy := ?yr1_25_24)
  case yr1_25_24 => (intro wy hSw; obtain ⟨y0, y1, Qs⟩ := hSw; (with_reducible refine pexec_load 26 (.tmp 4) ?_ w.heap.size ?_ 26 #[.int .i64 s.n, .int .i64 s.d0.kind, .int .i64 s.d0.side, .int .i64 s.d0.step, .int .i64 s.d1.kind, .int .i64 s.d1.side, .int .i64 s.d1.step] _ Qs Try.underlying26 ?_ ?_) <;> first | rfl | exact infoSp)
  (try simp only [Act.put, nz1, nz2, nz3])
  refine tkL 25 ⟨some 38, .move (.tmp 1), 3, _, _, _⟩ hHeld ?_
  (try simp only [Act.put, nz1, nz2, nz3])
  refine tkL 27 ⟨some 40, .load 26 (.tmp 4), 26, _, _, _⟩ hHeld ?_ (v := ?vr1_27_27) (hy := ?yr1_27_27)
  case yr1_27_27 => (intro wy hSw; obtain ⟨y0, y1, Qs⟩ := hSw; (with_reducible refine pexec_load 26 (.tmp 4) ?_ w.heap.size ?_ 26 #[.int .i64 s.n, .int .i64 s.d0.kind, .int .i64 s.d0.side, .int .i64 s.d0.step, .int .i64 s.d1.kind, .int .i64 s.d1.side, .int .i64 s.d1.step] _ Qs Try.underlying26 ?_ ?_) <;> first | rfl | exact infoSp)
  (try simp only [Act.put, nz1, nz2, nz3])
  refine tkL 28 ⟨some 41, .move (.tmp 1), 3, _, _, _⟩ hHeld ?_
  (try simp only [Act.put, nz1, nz2, nz3])
  refine wpAnyH_ready (rs := [26]) (by as_aux_lemma => kernel_rfl) (by simp) ?_
  refine AllReadyH.cons (o := ⟨some 39, .call { callee := .value (.func 41), args := #[.tmp 37, .tmp 38], argTypes := #[26, 3] }, 49, _, _, _⟩) rfl (fun K hK => ?_) AllReadyH.nil
  (go_simp; (refine (HO _).mono ?_); (rintro e wz ⟨pd, cd, rfl, Td, hb⟩); (try replace Ta := Ta.later hb); (try replace Tb := Tb.later hb); (try replace Tc := Tc.later hb); (try replace Te := Te.later hb); (replace Rs := Rs.later hb); (replace Ry := Ry.later hb); (replace hb0 := below_step hb0 hb); go_wp2_with fail)
  refine hK.out _ _ ?hSr1_29_26 (fun hHeld2 => ?_)
  case hSr1_29_26 => (obtain ⟨y0, y1, Qs⟩ := hHeld; exact ⟨cell_later hb y0, cell_later hb y1, Qs.later hb⟩)
  clear hK K hHeld
  have hHeld := hHeld2
  clear hHeld2
  rename World => wq
  (try simp only [Act.put, nz1, nz2, nz3])
  refine wpAnyH_ready (rs := [29]) (by as_aux_lemma => kernel_rfl) (by simp) ?_
  refine AllReadyH.cons (o := ⟨some 42, .call { callee := .value (.func 42), args := #[.tmp 40, .tmp 41], argTypes := #[26, 3] }, 49, _, _, _⟩) rfl (fun K hK => ?_) AllReadyH.nil
  (go_simp; (refine (HRO _).mono ?_); (rintro e wz ⟨pe, ce, rfl, Te, hb⟩); (try replace Ta := Ta.later hb); (try replace Tb := Tb.later hb); (try replace Tc := Tc.later hb); (try replace Td := Td.later hb); (replace Rs := Rs.later hb); (replace Ry := Ry.later hb); (replace hb0 := below_step hb0 hb); go_wp2_with fail)
  refine hK.out _ _ ?hSr1_30_29 (fun hHeld2 => ?_)
  case hSr1_30_29 => (obtain ⟨y0, y1, Qs⟩ := hHeld; exact ⟨cell_later hb y0, cell_later hb y1, Qs.later hb⟩)
  clear hK K hHeld
  have hHeld := hHeld2
  clear hHeld2
  rename World => wq
  (try simp only [Act.put, nz1, nz2, nz3])
  refine wpAnyH_ready (rs := [30]) (by as_aux_lemma => kernel_rfl) (by simp) ?_
  refine AllReadyH.cons (o := ⟨some 43, .call { callee := .value (.func 37), args := #[.tmp 39, .tmp 42], argTypes := #[49, 49] }, 4, _, _, _⟩) rfl (fun K hK => ?_) AllReadyH.nil
  (go_simp; (refine (HSx.out.2 _ _ _ Td Te).mono ?_); (rintro e wz ⟨rfl, hb⟩); (try replace Ta := Ta.later hb); (try replace Tb := Tb.later hb); (try replace Tc := Tc.later hb); (try replace Td := Td.later hb); (try replace Te := Te.later hb); (replace Rs := Rs.later hb); (replace Ry := Ry.later hb); (replace hb0 := below_step hb0 hb); go_wp2_with fail)
  refine hK.out _ _ ?hSr1_31_30 (fun hHeld2 => ?_)
  case hSr1_31_30 => (obtain ⟨y0, y1, Qs⟩ := hHeld; exact ⟨cell_later hb y0, cell_later hb y1, Qs.later hb⟩)
  clear hK K hHeld
  have hHeld := hHeld2
  clear hHeld2
  rename World => wq
  (try simp only [Act.put, nz1, nz2, nz3])
  refine tkL 31 ⟨some 44, .pick (.tmp 36) (.tmp 43) (.const (.bool false)), 4, _, _, _⟩ hHeld ?_
  (try simp only [Act.put, nz1, nz2, nz3])
  refine tkL 32 ⟨some 45, .move (.tmp 44), 4, _, _, _⟩ hHeld ?_
  (try simp only [Act.put, nz1, nz2, nz3])
  refine tkL 33 ⟨some 46, .load 26 (.tmp 4), 26, _, _, _⟩ hHeld ?_ (v := ?vr1_34_33) (hy := ?yr1_34_33)
  case yr1_34_33 => (intro wy hSw; obtain ⟨y0, y1, Qs⟩ := hSw; (with_reducible refine pexec_load 26 (.tmp 4) ?_ w.heap.size ?_ 26 #[.int .i64 s.n, .int .i64 s.d0.kind, .int .i64 s.d0.side, .int .i64 s.d0.step, .int .i64 s.d1.kind, .int .i64 s.d1.side, .int .i64 s.d1.step] _ Qs Try.underlying26 ?_ ?_) <;> first | rfl | exact infoSp)
  (try simp only [Act.put, nz1, nz2, nz3])
  refine tkL 34 ⟨some 47, .load 27 (.tmp 9), 27, _, _, _⟩ hHeld ?_
  (try simp only [Act.put, nz1, nz2, nz3])
  refine tkL 36 ⟨some 49, .load 26 (.tmp 4), 26, _, _, _⟩ hHeld ?_ (v := ?vr1_36_36) (hy := ?yr1_36_36)
  case yr1_36_36 => (intro wy hSw; obtain ⟨y0, y1, Qs⟩ := hSw; (with_reducible refine pexec_load 26 (.tmp 4) ?_ w.heap.size ?_ 26 #[.int .i64 s.n, .int .i64 s.d0.kind, .int .i64 s.d0.side, .int .i64 s.d0.step, .int .i64 s.d1.kind, .int .i64 s.d1.side, .int .i64 s.d1.step] _ Qs Try.underlying26 ?_ ?_) <;> first | rfl | exact infoSp)
  (try simp only [Act.put, nz1, nz2, nz3])
  refine tkL 37 ⟨some 50, .load 27 (.tmp 9), 27, _, _, _⟩ hHeld ?_
  (try simp only [Act.put, nz1, nz2, nz3])
  refine wpAnyH_ready (rs := [35]) (by as_aux_lemma => kernel_rfl) (by simp) ?_
  refine AllReadyH.cons (o := ⟨some 48, .call { callee := .value (.func 43), args := #[.tmp 46, .tmp 47], argTypes := #[26, 27] }, 3, _, _, _⟩) rfl (fun K hK => ?_) AllReadyH.nil
  (go_simp; (refine (HP _).mono ?_); (rintro e wz ⟨rfl, hb⟩); (try replace Ta := Ta.later hb); (try replace Tb := Tb.later hb); (try replace Tc := Tc.later hb); (try replace Td := Td.later hb); (try replace Te := Te.later hb); (replace Rs := Rs.later hb); (replace Ry := Ry.later hb); (replace hb0 := below_step hb0 hb); go_wp2_with fail)
  refine hK.out _ _ ?hSr1_38_35 (fun hHeld2 => ?_)
  case hSr1_38_35 => (obtain ⟨y0, y1, Qs⟩ := hHeld; exact ⟨cell_later hb y0, cell_later hb y1, Qs.later hb⟩)
  clear hK K hHeld
  have hHeld := hHeld2
  clear hHeld2
  rename World => wq
  (try simp only [Act.put, nz1, nz2, nz3])
  refine wpAnyH_ready (rs := [38]) (by as_aux_lemma => kernel_rfl) (by simp) ?_
  refine AllReadyH.cons (o := ⟨some 51, .call { callee := .value (.func 44), args := #[.tmp 49, .tmp 50], argTypes := #[26, 27] }, 3, _, _, _⟩) rfl (fun K hK => ?_) AllReadyH.nil
  (go_simp; (refine (HRP _).mono ?_); (rintro e wz ⟨rfl, hb⟩); (try replace Ta := Ta.later hb); (try replace Tb := Tb.later hb); (try replace Tc := Tc.later hb); (try replace Td := Td.later hb); (try replace Te := Te.later hb); (replace Rs := Rs.later hb); (replace Ry := Ry.later hb); (replace hb0 := below_step hb0 hb); go_wp2_with fail)
  refine hK.out _ _ ?hSr1_39_38 (fun hHeld2 => ?_)
  case hSr1_39_38 => (obtain ⟨y0, y1, Qs⟩ := hHeld; exact ⟨cell_later hb y0, cell_later hb y1, Qs.later hb⟩)
  clear hK K hHeld
  have hHeld := hHeld2
  clear hHeld2
  rename World => wq
  (try simp only [Act.put, nz1, nz2, nz3])
  refine tkL 39 ⟨some 52, .binOp .eql 3 (.tmp 48) (.tmp 51) 3, 4, _, _, _⟩ hHeld ?_
  (try simp only [Act.put, nz1, nz2, nz3])
  refine tkL 40 ⟨some 53, .pick (.tmp 45) (.tmp 52) (.const (.bool false)), 4, _, _, _⟩ hHeld ?_
  (try simp only [Act.put, nz1, nz2, nz3])
  refine tkL 41 ⟨some 8, .assign (.tmp 53), 4, _, _, _⟩ hHeld ?_
  (try simp only [Act.put, nz1, nz2, nz3])
  refine wpAnyH_done (by as_aux_lemma => kernel_rfl) ?_ _
  (go_wp2; go_ret; exact ⟨rfl, hb0⟩)
theorem ts_sliced {f : FuncId} {args : Array Value} {w : World} {l : List (Int × Int)} {N : Nat} (hN : l.length = N) (h : Calls Try.prog f args w fun e w' => ∃ v, e = .returned v ∧ TS w' v l ∧ Below w.heap.size w w') : Calls Try.prog f args w fun e w' => ∃ p c, e = .returned (.slice p N c) ∧ TS w' (.slice p N c) l ∧ Below w.heap.size w w' := by
  refine h.mono ?_
  rintro e w' ⟨v, rfl, hx, hb⟩
  obtain ⟨p, c, rfl, _, _⟩ := ts_read hx
  rw [hN] at hx ⊢
  exact ⟨p, c, rfl, hx, hb⟩
theorem line_len {a b h : Int} (h1 : a ≤ 128) (h2 : 0 ≤ b) : (lineN a b h).length ≤ 1000 := by
  rw [lineN_length]; unfold cntH; omega
theorem gridTells_any (s : Sp) (ht i j : Int) (w : World) : Calls Try.prog 10 #[sv s, .int .i64 ht, .int .i64 i, .int .i64 j] w fun e w' => e = .returned (.bool true) ∧ Below w.heap.size w w' := by
  have ra := wA_range s
  have rb := wB_range s
  obtain ⟨hc1, hc2⟩ := walk_cnt ra.1 ra.2 rb.1 rb.2
  have hl := line_len (a := wA s) (b := wB s) (h := ht) ra.2 rb.1
  have HC := gcount_t s
  rw [← hc1] at HC
  exact gtells_w s ht i j _ _ _ _ _ _ HC (fun w => ts_sliced rfl (rnodes_t s w)) (fun w => ts_sliced rfl (nodes_t s w)) (fun va vb w ha hb => sameN_t _ va vb (by omega) w ha hb) (gtall_t s) (rtall_t s) (fun w => ts_sliced rfl (on_t s ht w)) (fun w => ts_sliced rfl (ron_t s ht w)) (fun va vb w ha hb => sameN_t _ va vb (by omega) w ha hb) (place_t s i j) (rplace_t s i j) w
end Go.Proofs.Ytbekocknfpekoaa
