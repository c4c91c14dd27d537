/- LawGridClimbs: what the theorem needs of these texts. No conditions beyond those that are written. -/
import Derived.Test.YtbekocknfpekoaaBGA
import Derived.Test.YtbekocknfpekoaaBGR1
import Derived.Test.YtbekocknfpekoaaBJGR2
namespace Go.Proofs.Ytbekocknfpekoaa
set_option linter.unusedVariables false
set_option linter.unusedSimpArgs false
open Go.RowKit
set_option maxRecDepth 100000 in
set_option maxHeartbeats 64000000 in
theorem gclimbs_w (s : Sp) (p : Px) (N M : Nat) (L LP : List Px)
    (HL : ∀ w, Calls Try.prog 47 #[sv s, pv p] w fun e w' => ∃ p c, e = .returned (.slice p N c) ∧ XS w' (.slice p N c) L ∧ Below w.heap.size w w')
    (HRL : ∀ w, Calls Try.prog 48 #[sv s, pv p] w fun e w' => ∃ p c, e = .returned (.slice p N c) ∧ XS w' (.slice p N c) L ∧ Below w.heap.size w w')
    (HP : ∀ w, Calls Try.prog 49 #[sv s, pv p] w fun e w' => ∃ p c, e = .returned (.slice p M c) ∧ XS w' (.slice p M c) LP ∧ Below w.heap.size w w')
    (HRP : ∀ w, Calls Try.prog 50 #[sv s, pv p] w fun e w' => ∃ p c, e = .returned (.slice p M c) ∧ XS w' (.slice p M c) LP ∧ Below w.heap.size w w')
    (HS : ∀ va vb w, XS w va L → XS w vb L → Calls Try.prog 46 #[va, vb] w fun e w' => e = .returned (.bool true) ∧ Below w.heap.size w w')
    (HS2 : ∀ va vb w, XS w va LP → XS w vb LP → Calls Try.prog 46 #[va, vb] w fun e w' => e = .returned (.bool true) ∧ Below w.heap.size w w') (w : World) :
    Calls Try.prog 12 #[sv s, pv p] w fun e w' => e = .returned (.bool true) ∧ Below w.heap.size w w' := by
  have HA := alive10_t
  have HSx := Lib.hid (And.intro HS HS2)
  clear HS HS2
  unfold sv pv at *
  obtain ⟨Rs, Rp, hb0⟩ := two_rows w #[.int .i64 s.n, .int .i64 s.d0.kind, .int .i64 s.d0.side, .int .i64 s.d0.step, .int .i64 s.d1.kind, .int .i64 s.d1.side, .int .i64 s.d1.step] #[.int .i64 p.a0, .int .i64 p.a1, .int .i64 p.k0.kind, .int .i64 p.k0.len, .int .u64 p.k0.h, .int .u64 p.k0.l, .string ⟨p.k0.path.toArray⟩, .int .i64 p.k1.kind, .int .i64 p.k1.len, .int .u64 p.k1.h, .int .u64 p.k1.l, .string ⟨p.k1.path.toArray⟩] 26 33
  (try clear s0 s1 s2 s3 s4 s5 s6); obtain ⟨s0, s1, s2, s3, s4, s5, s6⟩ := row7 Rs
  (try clear p0 p1 p2 p3 p4 p5 p6 p7 p8 p9 p10 p11); obtain ⟨p0, p1, p2, p3, p4, p5, p6, p7, p8, p9, p10, p11⟩ := row12 Rp
  go_enter Try.func12, Try.ntmps12
  go_wp2_with fail
  refine wp_region_held_drew (S := (fun w' => Row w' w.heap.size #[.int .i64 s.n, .int .i64 s.d0.kind, .int .i64 s.d0.side, .int .i64 s.d0.step, .int .i64 s.d1.kind, .int .i64 s.d1.side, .int .i64 s.d1.step] 26 ∧ Row w' (w.heap.size + 1) #[.int .i64 p.a0, .int .i64 p.a1, .int .i64 p.k0.kind, .int .i64 p.k0.len, .int .u64 p.k0.h, .int .u64 p.k0.l, .string ⟨p.k0.path.toArray⟩, .int .i64 p.k1.kind, .int .i64 p.k1.len, .int .u64 p.k1.h, .int .u64 p.k1.l, .string ⟨p.k1.path.toArray⟩] 33)) (by kernel_rfl) ?hSr1_ (fun hHeld => ?_)
  case hSr1_ => (exact ⟨Rs.drew, Rp.drew⟩)
  (clear s0 s1 s2 s3 s4 s5 s6 p0 p1 p2 p3 p4 p5 p6 p7 p8 p9 p10 p11; (replace Rs := Rs.drew); (replace Rp := Rp.drew); (replace hb0 := hb0.drew); (generalize World.drew _ = wq at *))
  refine wpAnyH_ready (rs := [0]) (by kernel_rfl) (by simp) ?_
  refine AllReadyH.cons (o := ⟨some 5, .call { callee := .value (.func 34), args := #[], argTypes := #[] }, 4, _, _, _⟩) rfl (fun K hK => ?_) AllReadyH.nil
  (go_simp; (refine (HA _).mono ?_); (rintro e wz ⟨rfl, hb⟩); (try replace Ta := Ta.later hb); (try replace Tb := Tb.later hb); (try replace Tc := Tc.later hb); (try replace Td := Td.later hb); (replace Rs := Rs.later hb); (replace Rp := Rp.later hb); (replace hb0 := below_step hb0 hb); go_wp2_with fail)
  refine hK.out _ _ ?hSr1_1_0 (fun hHeld2 => ?_)
  case hSr1_1_0 => (obtain ⟨Qs, Qp⟩ := hHeld; exact ⟨Qs.later hb, Qp.later hb⟩)
  clear hK K hHeld
  have hHeld := hHeld2
  clear hHeld2
  rename World => wq
  (try simp only [Act.put, nz1, nz2, nz3])
  refine tk 1 ⟨some 6, .move (.tmp 5), 4, _, _, _⟩ hHeld ?_
  (try simp only [Act.put, nz1, nz2, nz3])
  refine tk 2 ⟨some 7, .load 26 (.tmp 2), 26, _, _, _⟩ hHeld ?_ (v := ?vr1_3_2) (hy := ?yr1_3_2)
  case yr1_3_2 => (intro wy hSw; obtain ⟨Qs, Qp⟩ := hSw; (with_reducible refine pexec_load 26 (.tmp 2) ?_ w.heap.size ?_ 26 #[.int .i64 s.n, .int .i64 s.d0.kind, .int .i64 s.d0.side, .int .i64 s.d0.step, .int .i64 s.d1.kind, .int .i64 s.d1.side, .int .i64 s.d1.step] _ Qs Try.underlying26 ?_ ?_) <;> first | rfl | exact infoSp)
  (try simp only [Act.put, nz1, nz2, nz3])
  refine tk 3 ⟨some 8, .load 33 (.tmp 3), 33, _, _, _⟩ hHeld ?_ (v := ?vr1_4_3) (hy := ?yr1_4_3)
  case yr1_4_3 => (intro wy hSw; obtain ⟨Qs, Qp⟩ := hSw; (with_reducible refine pexec_load 33 (.tmp 3) ?_ (w.heap.size + 1) ?_ 33 #[.int .i64 p.a0, .int .i64 p.a1, .int .i64 p.k0.kind, .int .i64 p.k0.len, .int .u64 p.k0.h, .int .u64 p.k0.l, .string ⟨p.k0.path.toArray⟩, .int .i64 p.k1.kind, .int .i64 p.k1.len, .int .u64 p.k1.h, .int .u64 p.k1.l, .string ⟨p.k1.path.toArray⟩] _ Qp Try.underlying33 ?_ ?_) <;> first | rfl | exact infoPx)
  (try simp only [Act.put, nz1, nz2, nz3])
  refine tk 5 ⟨some 10, .load 26 (.tmp 2), 26, _, _, _⟩ hHeld ?_ (v := ?vr1_5_5) (hy := ?yr1_5_5)
  case yr1_5_5 => (intro wy hSw; obtain ⟨Qs, Qp⟩ := hSw; (with_reducible refine pexec_load 26 (.tmp 2) ?_ w.heap.size ?_ 26 #[.int .i64 s.n, .int .i64 s.d0.kind, .int .i64 s.d0.side, .int .i64 s.d0.step, .int .i64 s.d1.kind, .int .i64 s.d1.side, .int .i64 s.d1.step] _ Qs Try.underlying26 ?_ ?_) <;> first | rfl | exact infoSp)
  (try simp only [Act.put, nz1, nz2, nz3])
  refine tk 6 ⟨some 11, .load 33 (.tmp 3), 33, _, _, _⟩ hHeld ?_ (v := ?vr1_6_6) (hy := ?yr1_6_6)
  case yr1_6_6 => (intro wy hSw; obtain ⟨Qs, Qp⟩ := hSw; (with_reducible refine pexec_load 33 (.tmp 3) ?_ (w.heap.size + 1) ?_ 33 #[.int .i64 p.a0, .int .i64 p.a1, .int .i64 p.k0.kind, .int .i64 p.k0.len, .int .u64 p.k0.h, .int .u64 p.k0.l, .string ⟨p.k0.path.toArray⟩, .int .i64 p.k1.kind, .int .i64 p.k1.len, .int .u64 p.k1.h, .int .u64 p.k1.l, .string ⟨p.k1.path.toArray⟩] _ Qp Try.underlying33 ?_ ?_) <;> first | rfl | exact infoPx)
  (try simp only [Act.put, nz1, nz2, nz3])
  refine wpAnyH_ready (rs := [4]) (by kernel_rfl) (by simp) ?_
  refine AllReadyH.cons (o := ⟨some 9, .call { callee := .value (.func 47), args := #[.tmp 7, .tmp 8], argTypes := #[26, 33] }, 60, _, _, _⟩) rfl (fun K hK => ?_) AllReadyH.nil
  (go_simp; (refine (HL _).mono ?_); (rintro e wz ⟨pa, ca, rfl, Ta, hb⟩); (try replace Tb := Tb.later hb); (try replace Tc := Tc.later hb); (try replace Td := Td.later hb); (replace Rs := Rs.later hb); (replace Rp := Rp.later hb); (replace hb0 := below_step hb0 hb); go_wp2_with fail)
  refine hK.out _ _ ?hSr1_7_4 (fun hHeld2 => ?_)
  case hSr1_7_4 => (obtain ⟨Qs, Qp⟩ := hHeld; exact ⟨Qs.later hb, Qp.later hb⟩)
  clear hK K hHeld
  have hHeld := hHeld2
  clear hHeld2
  rename World => wq
  (try simp only [Act.put, nz1, nz2, nz3])
  refine wpAnyH_ready (rs := [7]) (by kernel_rfl) (by simp) ?_
  refine AllReadyH.cons (o := ⟨some 12, .call { callee := .value (.func 48), args := #[.tmp 10, .tmp 11], argTypes := #[26, 33] }, 60, _, _, _⟩) rfl (fun K hK => ?_) AllReadyH.nil
  (go_simp; (refine (HRL _).mono ?_); (rintro e wz ⟨pb, cb, rfl, Tb, hb⟩); (try replace Ta := Ta.later hb); (try replace Tc := Tc.later hb); (try replace Td := Td.later hb); (replace Rs := Rs.later hb); (replace Rp := Rp.later hb); (replace hb0 := below_step hb0 hb); go_wp2_with fail)
  refine hK.out _ _ ?hSr1_8_7 (fun hHeld2 => ?_)
  case hSr1_8_7 => (obtain ⟨Qs, Qp⟩ := hHeld; exact ⟨Qs.later hb, Qp.later hb⟩)
  clear hK K hHeld
  have hHeld := hHeld2
  clear hHeld2
  rename World => wq
  (try simp only [Act.put, nz1, nz2, nz3])
  refine wpAnyH_ready (rs := [8]) (by kernel_rfl) (by simp) ?_
  refine AllReadyH.cons (o := ⟨some 13, .call { callee := .value (.func 46), args := #[.tmp 9, .tmp 12], argTypes := #[60, 60] }, 4, _, _, _⟩) rfl (fun K hK => ?_) AllReadyH.nil
  (go_simp; (refine (HSx.out.1 _ _ _ Ta Tb).mono ?_); (rintro e wz ⟨rfl, hb⟩); (try replace Ta := Ta.later hb); (try replace Tb := Tb.later hb); (try replace Tc := Tc.later hb); (try replace Td := Td.later hb); (replace Rs := Rs.later hb); (replace Rp := Rp.later hb); (replace hb0 := below_step hb0 hb); go_wp2_with fail)
  refine hK.out _ _ ?hSr1_9_8 (fun hHeld2 => ?_)
  case hSr1_9_8 => (obtain ⟨Qs, Qp⟩ := hHeld; exact ⟨Qs.later hb, Qp.later hb⟩)
  clear hK K hHeld
  have hHeld := hHeld2
  clear hHeld2
  rename World => wq
  (try simp only [Act.put, nz1, nz2, nz3])
  refine tk 9 ⟨some 14, .pick (.tmp 6) (.tmp 13) (.const (.bool false)), 4, _, _, _⟩ hHeld ?_
  (try simp only [Act.put, nz1, nz2, nz3])
  refine tk 10 ⟨some 15, .move (.tmp 14), 4, _, _, _⟩ hHeld ?_
  (try simp only [Act.put, nz1, nz2, nz3])
  refine tk 11 ⟨some 16, .load 26 (.tmp 2), 26, _, _, _⟩ hHeld ?_ (v := ?vr1_12_11) (hy := ?yr1_12_11)
  case yr1_12_11 => (intro wy hSw; obtain ⟨Qs, Qp⟩ := hSw; (with_reducible refine pexec_load 26 (.tmp 2) ?_ w.heap.size ?_ 26 #[.int .i64 s.n, .int .i64 s.d0.kind, .int .i64 s.d0.side, .int .i64 s.d0.step, .int .i64 s.d1.kind, .int .i64 s.d1.side, .int .i64 s.d1.step] _ Qs Try.underlying26 ?_ ?_) <;> first | rfl | exact infoSp)
  (try simp only [Act.put, nz1, nz2, nz3])
  refine tk 12 ⟨some 17, .load 33 (.tmp 3), 33, _, _, _⟩ hHeld ?_ (v := ?vr1_13_12) (hy := ?yr1_13_12)
  case yr1_13_12 => (intro wy hSw; obtain ⟨Qs, Qp⟩ := hSw; (with_reducible refine pexec_load 33 (.tmp 3) ?_ (w.heap.size + 1) ?_ 33 #[.int .i64 p.a0, .int .i64 p.a1, .int .i64 p.k0.kind, .int .i64 p.k0.len, .int .u64 p.k0.h, .int .u64 p.k0.l, .string ⟨p.k0.path.toArray⟩, .int .i64 p.k1.kind, .int .i64 p.k1.len, .int .u64 p.k1.h, .int .u64 p.k1.l, .string ⟨p.k1.path.toArray⟩] _ Qp Try.underlying33 ?_ ?_) <;> first | rfl | exact infoPx)
  (try simp only [Act.put, nz1, nz2, nz3])
  refine tk 14 ⟨some 19, .load 26 (.tmp 2), 26, _, _, _⟩ hHeld ?_ (v := ?vr1_14_14) (hy := ?yr1_14_14)
  case yr1_14_14 => (intro wy hSw; obtain ⟨Qs, Qp⟩ := hSw; (with_reducible refine pexec_load 26 (.tmp 2) ?_ w.heap.size ?_ 26 #[.int .i64 s.n, .int .i64 s.d0.kind, .int .i64 s.d0.side, .int .i64 s.d0.step, .int .i64 s.d1.kind, .int .i64 s.d1.side, .int .i64 s.d1.step] _ Qs Try.underlying26 ?_ ?_) <;> first | rfl | exact infoSp)
  (try simp only [Act.put, nz1, nz2, nz3])
  refine tk 15 ⟨some 20, .load 33 (.tmp 3), 33, _, _, _⟩ hHeld ?_ (v := ?vr1_15_15) (hy := ?yr1_15_15)
  case yr1_15_15 => (intro wy hSw; obtain ⟨Qs, Qp⟩ := hSw; (with_reducible refine pexec_load 33 (.tmp 3) ?_ (w.heap.size + 1) ?_ 33 #[.int .i64 p.a0, .int .i64 p.a1, .int .i64 p.k0.kind, .int .i64 p.k0.len, .int .u64 p.k0.h, .int .u64 p.k0.l, .string ⟨p.k0.path.toArray⟩, .int .i64 p.k1.kind, .int .i64 p.k1.len, .int .u64 p.k1.h, .int .u64 p.k1.l, .string ⟨p.k1.path.toArray⟩] _ Qp Try.underlying33 ?_ ?_) <;> first | rfl | exact infoPx)
  (try simp only [Act.put, nz1, nz2, nz3])
  refine wpAnyH_ready (rs := [13]) (by kernel_rfl) (by simp) ?_
  refine AllReadyH.cons (o := ⟨some 18, .call { callee := .value (.func 49), args := #[.tmp 16, .tmp 17], argTypes := #[26, 33] }, 60, _, _, _⟩) rfl (fun K hK => ?_) AllReadyH.nil
  (go_simp; (refine (HP _).mono ?_); (rintro e wz ⟨pc, cc, rfl, Tc, hb⟩); (try replace Ta := Ta.later hb); (try replace Tb := Tb.later hb); (try replace Td := Td.later hb); (replace Rs := Rs.later hb); (replace Rp := Rp.later hb); (replace hb0 := below_step hb0 hb); go_wp2_with fail)
  refine hK.out _ _ ?hSr1_16_13 (fun hHeld2 => ?_)
  case hSr1_16_13 => (obtain ⟨Qs, Qp⟩ := hHeld; exact ⟨Qs.later hb, Qp.later hb⟩)
  clear hK K hHeld
  have hHeld := hHeld2
  clear hHeld2
  rename World => wq
  (try simp only [Act.put, nz1, nz2, nz3])
  refine wpAnyH_ready (rs := [16]) (by kernel_rfl) (by simp) ?_
  refine AllReadyH.cons (o := ⟨some 21, .call { callee := .value (.func 50), args := #[.tmp 19, .tmp 20], argTypes := #[26, 33] }, 60, _, _, _⟩) rfl (fun K hK => ?_) AllReadyH.nil
  (go_simp; (refine (HRP _).mono ?_); (rintro e wz ⟨pd, cd, rfl, Td, hb⟩); (try replace Ta := Ta.later hb); (try replace Tb := Tb.later hb); (try replace Tc := Tc.later hb); (replace Rs := Rs.later hb); (replace Rp := Rp.later hb); (replace hb0 := below_step hb0 hb); go_wp2_with fail)
  refine hK.out _ _ ?hSr1_17_16 (fun hHeld2 => ?_)
  case hSr1_17_16 => (obtain ⟨Qs, Qp⟩ := hHeld; exact ⟨Qs.later hb, Qp.later hb⟩)
  clear hK K hHeld
  have hHeld := hHeld2
  clear hHeld2
  rename World => wq
  (try simp only [Act.put, nz1, nz2, nz3])
  refine wpAnyH_ready (rs := [17]) (by kernel_rfl) (by simp) ?_
  refine AllReadyH.cons (o := ⟨some 22, .call { callee := .value (.func 46), args := #[.tmp 18, .tmp 21], argTypes := #[60, 60] }, 4, _, _, _⟩) rfl (fun K hK => ?_) AllReadyH.nil
  (go_simp; (refine (HSx.out.2 _ _ _ Tc Td).mono ?_); (rintro e wz ⟨rfl, hb⟩); (try replace Ta := Ta.later hb); (try replace Tb := Tb.later hb); (try replace Tc := Tc.later hb); (try replace Td := Td.later hb); (replace Rs := Rs.later hb); (replace Rp := Rp.later hb); (replace hb0 := below_step hb0 hb); go_wp2_with fail)
  refine hK.out _ _ ?hSr1_18_17 (fun hHeld2 => ?_)
  case hSr1_18_17 => (obtain ⟨Qs, Qp⟩ := hHeld; exact ⟨Qs.later hb, Qp.later hb⟩)
  clear hK K hHeld
  have hHeld := hHeld2
  clear hHeld2
  rename World => wq
  (try simp only [Act.put, nz1, nz2, nz3])
  refine tk 18 ⟨some 23, .pick (.tmp 15) (.tmp 22) (.const (.bool false)), 4, _, _, _⟩ hHeld ?_
  (try simp only [Act.put, nz1, nz2, nz3])
  refine tk 19 ⟨some 4, .assign (.tmp 23), 4, _, _, _⟩ hHeld ?_
  (try simp only [Act.put, nz1, nz2, nz3])
  refine wpAnyH_done (by kernel_rfl) ?_ _
  (go_wp2; go_ret; exact ⟨rfl, hb0⟩)
theorem xs_sliced {f : FuncId} {args : Array Value} {w : World} {l : List Px} {N : Nat} (hN : l.length = N) (h : Calls Try.prog f args w fun e w' => ∃ v, e = .returned v ∧ XS w' v l ∧ Below w.heap.size w w') : Calls Try.prog f args w fun e w' => ∃ p c, e = .returned (.slice p N c) ∧ XS w' (.slice p N c) l ∧ Below w.heap.size w w' := by
  refine h.mono ?_
  rintro e w' ⟨v, rfl, hx, hb⟩
  obtain ⟨p, c, rfl, _, _⟩ := xs_read hx
  rw [hN] at hx ⊢
  exact ⟨p, c, rfl, hx, hb⟩
theorem all_len (s : Sp) (p : Px) : (allP s p).length ≤ 100000 := by
  rw [← all_filter]
  have ra := wA_range s
  have rb := wB_range s
  have hc := (walk_cnt ra.1 ra.2 rb.1 rb.2).2
  refine Nat.le_trans (List.length_filter_le _ _) ?_
  rw [List.length_map]; omega
theorem par_len (s : Sp) (p : Px) : (parP s p).length ≤ 100000 := by
  unfold parP
  split
  · exact Nat.le_trans (List.length_filter_le _ _) (by simp)
  · simp
theorem gridClimbs_any (s : Sp) (p : Px) (op : p.ok) (w : World) : Calls Try.prog 12 #[sv s, pv p] w fun e w' => e = .returned (.bool true) ∧ Below w.heap.size w w' :=
  gclimbs_w s p _ _ _ _ (fun w => xs_sliced rfl (all_t s p op w)) (fun w => xs_sliced rfl (rall_t s p op w)) (fun w => xs_sliced rfl (parents_t s p op w)) (fun w => xs_sliced rfl (rparents_t s p op w)) (fun va vb w ha hb => sameX_t _ va vb (all_len s p) w ha hb) (fun va vb w ha hb => sameX_t _ va vb (par_len s p) w ha hb) w
end Go.Proofs.Ytbekocknfpekoaa
