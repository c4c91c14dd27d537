/- LawPrefixOrders: what the theorem needs of these texts. No conditions beyond those that are written. -/
import Derived.Test.YtbekocknfpekoaaJ0
import Derived.Test.YtbekocknfpekoaaJ4
import Derived.Test.YtbekocknfpekoaaP9
namespace Go.Proofs.Ytbekocknfpekoaa
set_option linter.unusedVariables false
set_option linter.unusedSimpArgs false
open Go.RowKit
set_option maxRecDepth 100000 in
set_option maxHeartbeats 16000000 in
theorem orders_a (p q x : Px) (n k : Int) (hq : decide (p = q) = false) (H1 : ∀ w, Calls Try.prog 32 #[pv p, pv q] w fun e w' => e = .returned (.int .i64 1) ∧ Below w.heap.size w w') (H2 : ∀ w, Calls Try.prog 32 #[pv q, pv p] w fun e w' => e = .returned (.int .i64 (-1)) ∧ Below w.heap.size w w') (w : World) : Calls Try.prog 9 #[pv p, pv q, pv x] w fun e w' => e = .returned (.bool true) ∧ Below w.heap.size w w' := by
  have qe := eql_px p q
  rw [hq] at qe
  have HA := alive9_t
  unfold pv at *
  obtain ⟨Rc, Rd, Re, hb0⟩ := three_rows w #[Value.int .i64 p.a0, Value.int .i64 p.a1, Value.int .i64 p.k0.kind, Value.int .i64 p.k0.len, Value.int .u64 p.k0.h, Value.int .u64 p.k0.l, Value.string ⟨p.k0.path.toArray⟩, Value.int .i64 p.k1.kind, Value.int .i64 p.k1.len, Value.int .u64 p.k1.h, Value.int .u64 p.k1.l, Value.string ⟨p.k1.path.toArray⟩] #[Value.int .i64 q.a0, Value.int .i64 q.a1, Value.int .i64 q.k0.kind, Value.int .i64 q.k0.len, Value.int .u64 q.k0.h, Value.int .u64 q.k0.l, Value.string ⟨q.k0.path.toArray⟩, Value.int .i64 q.k1.kind, Value.int .i64 q.k1.len, Value.int .u64 q.k1.h, Value.int .u64 q.k1.l, Value.string ⟨q.k1.path.toArray⟩] #[Value.int .i64 x.a0, Value.int .i64 x.a1, Value.int .i64 x.k0.kind, Value.int .i64 x.k0.len, Value.int .u64 x.k0.h, Value.int .u64 x.k0.l, Value.string ⟨x.k0.path.toArray⟩, Value.int .i64 x.k1.kind, Value.int .i64 x.k1.len, Value.int .u64 x.k1.h, Value.int .u64 x.k1.l, Value.string ⟨x.k1.path.toArray⟩] 33 33 33
  (try clear c0 c1 c2 c3 c4 c5 c6 c7 c8 c9 c10 c11); obtain ⟨c0, c1, c2, c3, c4, c5, c6, c7, c8, c9, c10, c11⟩ := row12 Rc
  (try clear d0 d1 d2 d3 d4 d5 d6 d7 d8 d9 d10 d11); obtain ⟨d0, d1, d2, d3, d4, d5, d6, d7, d8, d9, d10, d11⟩ := row12 Rd
  (try clear e0 e1 e2 e3 e4 e5 e6 e7 e8 e9 e10 e11); obtain ⟨e0, e1, e2, e3, e4, e5, e6, e7, e8, e9, e10, e11⟩ := row12 Re
  go_enter Try.func9, Try.ntmps9
  go_wp2_with fail
  refine wp_region_held_drew (S := (fun w' => Row w' w.heap.size #[Value.int .i64 p.a0, Value.int .i64 p.a1, Value.int .i64 p.k0.kind, Value.int .i64 p.k0.len, Value.int .u64 p.k0.h, Value.int .u64 p.k0.l, Value.string ⟨p.k0.path.toArray⟩, Value.int .i64 p.k1.kind, Value.int .i64 p.k1.len, Value.int .u64 p.k1.h, Value.int .u64 p.k1.l, Value.string ⟨p.k1.path.toArray⟩] 33 ∧ Row w' (w.heap.size + 1) #[Value.int .i64 q.a0, Value.int .i64 q.a1, Value.int .i64 q.k0.kind, Value.int .i64 q.k0.len, Value.int .u64 q.k0.h, Value.int .u64 q.k0.l, Value.string ⟨q.k0.path.toArray⟩, Value.int .i64 q.k1.kind, Value.int .i64 q.k1.len, Value.int .u64 q.k1.h, Value.int .u64 q.k1.l, Value.string ⟨q.k1.path.toArray⟩] 33)) (by kernel_rfl) ?hSr1_ (fun hHeld => ?_)
  case hSr1_ => (exact ⟨Rc.drew, Rd.drew⟩)
  (clear c0 c1 c2 c3 c4 c5 c6 c7 c8 c9 c10 c11 d0 d1 d2 d3 d4 d5 d6 d7 d8 d9 d10 d11 e0 e1 e2 e3 e4 e5 e6 e7 e8 e9 e10 e11; (replace Rc := Rc.drew); (replace Rd := Rd.drew); (replace Re := Re.drew); (replace hb0 := hb0.drew); (generalize World.drew _ = wq at *))
  refine tk 0 ⟨some 9, .load 33 (.tmp 3), 33, _, #[], none⟩ hHeld ?_ (v := ?vr1_1_0) (hy := ?yr1_1_0)
  case yr1_1_0 => (intro wy hSw; obtain ⟨Qc, Qd⟩ := hSw; (with_reducible refine pexec_load 33 (.tmp 3) ?_ w.heap.size ?_ 33 #[Value.int .i64 p.a0, Value.int .i64 p.a1, Value.int .i64 p.k0.kind, Value.int .i64 p.k0.len, Value.int .u64 p.k0.h, Value.int .u64 p.k0.l, Value.string ⟨p.k0.path.toArray⟩, Value.int .i64 p.k1.kind, Value.int .i64 p.k1.len, Value.int .u64 p.k1.h, Value.int .u64 p.k1.l, Value.string ⟨p.k1.path.toArray⟩] _ Qc Try.underlying33 ?_ ?_) <;> first | rfl | exact infoPx)
  (try simp only [Act.put, nz1, nz2, nz3])
  refine tk 1 ⟨some 10, .load 33 (.tmp 4), 33, _, #[], none⟩ hHeld ?_ (v := ?vr1_2_1) (hy := ?yr1_2_1)
  case yr1_2_1 => (intro wy hSw; obtain ⟨Qc, Qd⟩ := hSw; (with_reducible refine pexec_load 33 (.tmp 4) ?_ (w.heap.size + 1) ?_ 33 #[Value.int .i64 q.a0, Value.int .i64 q.a1, Value.int .i64 q.k0.kind, Value.int .i64 q.k0.len, Value.int .u64 q.k0.h, Value.int .u64 q.k0.l, Value.string ⟨q.k0.path.toArray⟩, Value.int .i64 q.k1.kind, Value.int .i64 q.k1.len, Value.int .u64 q.k1.h, Value.int .u64 q.k1.l, Value.string ⟨q.k1.path.toArray⟩] _ Qd Try.underlying33 ?_ ?_) <;> first | rfl | exact infoPx)
  (try simp only [Act.put, nz1, nz2, nz3])
  refine tk 3 ⟨some 12, .load 33 (.tmp 4), 33, _, #[], none⟩ hHeld ?_ (v := ?vr1_3_3) (hy := ?yr1_3_3)
  case yr1_3_3 => (intro wy hSw; obtain ⟨Qc, Qd⟩ := hSw; (with_reducible refine pexec_load 33 (.tmp 4) ?_ (w.heap.size + 1) ?_ 33 #[Value.int .i64 q.a0, Value.int .i64 q.a1, Value.int .i64 q.k0.kind, Value.int .i64 q.k0.len, Value.int .u64 q.k0.h, Value.int .u64 q.k0.l, Value.string ⟨q.k0.path.toArray⟩, Value.int .i64 q.k1.kind, Value.int .i64 q.k1.len, Value.int .u64 q.k1.h, Value.int .u64 q.k1.l, Value.string ⟨q.k1.path.toArray⟩] _ Qd Try.underlying33 ?_ ?_) <;> first | rfl | exact infoPx)
  (try simp only [Act.put, nz1, nz2, nz3])
  refine tk 4 ⟨some 13, .load 33 (.tmp 3), 33, _, #[], none⟩ hHeld ?_ (v := ?vr1_4_4) (hy := ?yr1_4_4)
  case yr1_4_4 => (intro wy hSw; obtain ⟨Qc, Qd⟩ := hSw; (with_reducible refine pexec_load 33 (.tmp 3) ?_ w.heap.size ?_ 33 #[Value.int .i64 p.a0, Value.int .i64 p.a1, Value.int .i64 p.k0.kind, Value.int .i64 p.k0.len, Value.int .u64 p.k0.h, Value.int .u64 p.k0.l, Value.string ⟨p.k0.path.toArray⟩, Value.int .i64 p.k1.kind, Value.int .i64 p.k1.len, Value.int .u64 p.k1.h, Value.int .u64 p.k1.l, Value.string ⟨p.k1.path.toArray⟩] _ Qc Try.underlying33 ?_ ?_) <;> first | rfl | exact infoPx)
  (try simp only [Act.put, nz1, nz2, nz3])
  refine wpAnyH_ready (rs := [2]) (by kernel_rfl) (by simp) ?_
  refine AllReadyH.cons (o := ⟨some 11, .call { callee := .value (.func 32), args := #[.tmp 9, .tmp 10], argTypes := #[33, 33] }, 3, _, #[⟨0, .data⟩, ⟨1, .data⟩], none⟩) rfl (fun K hK => ?_) AllReadyH.nil
  (go_simp; (refine (H1 _).mono ?_); (rintro e wz ⟨rfl, hb⟩); (replace Rc := Rc.later hb); (replace Rd := Rd.later hb); (replace Re := Re.later hb); (replace hb0 := below_step hb0 hb); go_wp2_with fail)
  refine hK.out _ _ ?hSr1_5_2 (fun hHeld2 => ?_)
  case hSr1_5_2 => (obtain ⟨Qc, Qd⟩ := hHeld; exact ⟨Qc.later hb, Qd.later hb⟩)
  clear hK K hHeld
  have hHeld := hHeld2
  clear hHeld2
  rename World => wq
  (try simp only [Act.put, nz1, nz2, nz3])
  refine wpAnyH_ready (rs := [5]) (by kernel_rfl) (by simp) ?_
  refine AllReadyH.cons (o := ⟨some 14, .call { callee := .value (.func 32), args := #[.tmp 12, .tmp 13], argTypes := #[33, 33] }, 3, _, #[⟨3, .data⟩, ⟨4, .data⟩, ⟨2, .chain⟩], none⟩) rfl (fun K hK => ?_) AllReadyH.nil
  (go_simp; (refine (H2 _).mono ?_); (rintro e wz ⟨rfl, hb⟩); (replace Rc := Rc.later hb); (replace Rd := Rd.later hb); (replace Re := Re.later hb); (replace hb0 := below_step hb0 hb); go_wp2_with fail)
  refine hK.out _ _ ?hSr1_6_5 (fun hHeld2 => ?_)
  case hSr1_6_5 => (obtain ⟨Qc, Qd⟩ := hHeld; exact ⟨Qc.later hb, Qd.later hb⟩)
  clear hK K hHeld
  have hHeld := hHeld2
  clear hHeld2
  rename World => wq
  (try simp only [Act.put, nz1, nz2, nz3])
  refine tk 6 ⟨some 7, .assign (.tmp 11), 3, _, #[⟨2, .data⟩, ⟨5, .chain⟩, ⟨0, .phase⟩, ⟨1, .phase⟩, ⟨2, .phase⟩, { on := 3, ground := .textOnly .lateStores }, { on := 4, ground := .textOnly .lateStores }, { on := 5, ground := .textOnly .lateStoresUnsure }], none⟩ hHeld ?_
  (try simp only [Act.put, nz1, nz2, nz3])
  refine tk 7 ⟨some 8, .assign (.tmp 14), 3, _, #[⟨5, .data⟩, ⟨6, .chain⟩, ⟨0, .phase⟩, ⟨1, .phase⟩, ⟨2, .phase⟩, ⟨3, .phase⟩, ⟨4, .phase⟩, ⟨5, .phase⟩, ⟨6, .phase⟩], none⟩ hHeld ?_
  (try simp only [Act.put, nz1, nz2, nz3])
  refine wpAnyH_done (by kernel_rfl) ?_ _
  clear hHeld
  rename World => w1
  have lc := Rc.lt
  have ld := Rd.lt
  have le := Re.lt
  (try clear c0 c1 c2 c3 c4 c5 c6 c7 c8 c9 c10 c11); obtain ⟨c0, c1, c2, c3, c4, c5, c6, c7, c8, c9, c10, c11⟩ := row12 Rc
  (try clear d0 d1 d2 d3 d4 d5 d6 d7 d8 d9 d10 d11); obtain ⟨d0, d1, d2, d3, d4, d5, d6, d7, d8, d9, d10, d11⟩ := row12 Rd
  (try clear e0 e1 e2 e3 e4 e5 e6 e7 e8 e9 e10 e11); obtain ⟨e0, e1, e2, e3, e4, e5, e6, e7, e8, e9, e10, e11⟩ := row12 Re
  go_wp2_with fail
  refine (HA _).mono ?_
  rintro e w2 ⟨rfl, hb⟩
  replace Rc := Rc.later hb
  replace Rd := Rd.later hb
  replace Re := Re.later hb
  replace hb0 := below_step hb0 hb
  clear hb
  have lc := Rc.lt
  have ld := Rd.lt
  have le := Re.lt
  (try clear c0 c1 c2 c3 c4 c5 c6 c7 c8 c9 c10 c11); obtain ⟨c0, c1, c2, c3, c4, c5, c6, c7, c8, c9, c10, c11⟩ := row12 Rc
  (try clear d0 d1 d2 d3 d4 d5 d6 d7 d8 d9 d10 d11); obtain ⟨d0, d1, d2, d3, d4, d5, d6, d7, d8, d9, d10, d11⟩ := row12 Rd
  (try clear e0 e1 e2 e3 e4 e5 e6 e7 e8 e9 e10 e11); obtain ⟨e0, e1, e2, e3, e4, e5, e6, e7, e8, e9, e10, e11⟩ := row12 Re
  go_wp2
  go_ret
  exact ⟨rfl, hb0⟩
set_option maxRecDepth 100000 in
set_option maxHeartbeats 16000000 in
theorem orders_b (p q x : Px) (n k : Int) (hq : decide (p = q) = false) (H1 : ∀ w, Calls Try.prog 32 #[pv p, pv q] w fun e w' => e = .returned (.int .i64 (-1)) ∧ Below w.heap.size w w') (H2 : ∀ w, Calls Try.prog 32 #[pv q, pv p] w fun e w' => e = .returned (.int .i64 1) ∧ Below w.heap.size w w') (H3 : ∀ w, Calls Try.prog 32 #[pv q, pv x] w fun e w' => e = .returned (.int .i64 1) ∧ Below w.heap.size w w') (w : World) : Calls Try.prog 9 #[pv p, pv q, pv x] w fun e w' => e = .returned (.bool true) ∧ Below w.heap.size w w' := by
  have qe := eql_px p q
  rw [hq] at qe
  have HA := alive9_t
  unfold pv at *
  obtain ⟨Rc, Rd, Re, hb0⟩ := three_rows w #[Value.int .i64 p.a0, Value.int .i64 p.a1, Value.int .i64 p.k0.kind, Value.int .i64 p.k0.len, Value.int .u64 p.k0.h, Value.int .u64 p.k0.l, Value.string ⟨p.k0.path.toArray⟩, Value.int .i64 p.k1.kind, Value.int .i64 p.k1.len, Value.int .u64 p.k1.h, Value.int .u64 p.k1.l, Value.string ⟨p.k1.path.toArray⟩] #[Value.int .i64 q.a0, Value.int .i64 q.a1, Value.int .i64 q.k0.kind, Value.int .i64 q.k0.len, Value.int .u64 q.k0.h, Value.int .u64 q.k0.l, Value.string ⟨q.k0.path.toArray⟩, Value.int .i64 q.k1.kind, Value.int .i64 q.k1.len, Value.int .u64 q.k1.h, Value.int .u64 q.k1.l, Value.string ⟨q.k1.path.toArray⟩] #[Value.int .i64 x.a0, Value.int .i64 x.a1, Value.int .i64 x.k0.kind, Value.int .i64 x.k0.len, Value.int .u64 x.k0.h, Value.int .u64 x.k0.l, Value.string ⟨x.k0.path.toArray⟩, Value.int .i64 x.k1.kind, Value.int .i64 x.k1.len, Value.int .u64 x.k1.h, Value.int .u64 x.k1.l, Value.string ⟨x.k1.path.toArray⟩] 33 33 33
  (try clear c0 c1 c2 c3 c4 c5 c6 c7 c8 c9 c10 c11); obtain ⟨c0, c1, c2, c3, c4, c5, c6, c7, c8, c9, c10, c11⟩ := row12 Rc
  (try clear d0 d1 d2 d3 d4 d5 d6 d7 d8 d9 d10 d11); obtain ⟨d0, d1, d2, d3, d4, d5, d6, d7, d8, d9, d10, d11⟩ := row12 Rd
  (try clear e0 e1 e2 e3 e4 e5 e6 e7 e8 e9 e10 e11); obtain ⟨e0, e1, e2, e3, e4, e5, e6, e7, e8, e9, e10, e11⟩ := row12 Re
  go_enter Try.func9, Try.ntmps9
  go_wp2_with fail
  refine wp_region_held_drew (S := (fun w' => Row w' w.heap.size #[Value.int .i64 p.a0, Value.int .i64 p.a1, Value.int .i64 p.k0.kind, Value.int .i64 p.k0.len, Value.int .u64 p.k0.h, Value.int .u64 p.k0.l, Value.string ⟨p.k0.path.toArray⟩, Value.int .i64 p.k1.kind, Value.int .i64 p.k1.len, Value.int .u64 p.k1.h, Value.int .u64 p.k1.l, Value.string ⟨p.k1.path.toArray⟩] 33 ∧ Row w' (w.heap.size + 1) #[Value.int .i64 q.a0, Value.int .i64 q.a1, Value.int .i64 q.k0.kind, Value.int .i64 q.k0.len, Value.int .u64 q.k0.h, Value.int .u64 q.k0.l, Value.string ⟨q.k0.path.toArray⟩, Value.int .i64 q.k1.kind, Value.int .i64 q.k1.len, Value.int .u64 q.k1.h, Value.int .u64 q.k1.l, Value.string ⟨q.k1.path.toArray⟩] 33)) (by kernel_rfl) ?hSr2_ (fun hHeld => ?_)
  case hSr2_ => (exact ⟨Rc.drew, Rd.drew⟩)
  (clear c0 c1 c2 c3 c4 c5 c6 c7 c8 c9 c10 c11 d0 d1 d2 d3 d4 d5 d6 d7 d8 d9 d10 d11 e0 e1 e2 e3 e4 e5 e6 e7 e8 e9 e10 e11; (replace Rc := Rc.drew); (replace Rd := Rd.drew); (replace Re := Re.drew); (replace hb0 := hb0.drew); (generalize World.drew _ = wq at *))
  refine tk 0 ⟨some 9, .load 33 (.tmp 3), 33, _, #[], none⟩ hHeld ?_ (v := ?vr2_1_0) (hy := ?yr2_1_0)
  case yr2_1_0 => (intro wy hSw; obtain ⟨Qc, Qd⟩ := hSw; (with_reducible refine pexec_load 33 (.tmp 3) ?_ w.heap.size ?_ 33 #[Value.int .i64 p.a0, Value.int .i64 p.a1, Value.int .i64 p.k0.kind, Value.int .i64 p.k0.len, Value.int .u64 p.k0.h, Value.int .u64 p.k0.l, Value.string ⟨p.k0.path.toArray⟩, Value.int .i64 p.k1.kind, Value.int .i64 p.k1.len, Value.int .u64 p.k1.h, Value.int .u64 p.k1.l, Value.string ⟨p.k1.path.toArray⟩] _ Qc Try.underlying33 ?_ ?_) <;> first | rfl | exact infoPx)
  (try simp only [Act.put, nz1, nz2, nz3])
  refine tk 1 ⟨some 10, .load 33 (.tmp 4), 33, _, #[], none⟩ hHeld ?_ (v := ?vr2_2_1) (hy := ?yr2_2_1)
  case yr2_2_1 => (intro wy hSw; obtain ⟨Qc, Qd⟩ := hSw; (with_reducible refine pexec_load 33 (.tmp 4) ?_ (w.heap.size + 1) ?_ 33 #[Value.int .i64 q.a0, Value.int .i64 q.a1, Value.int .i64 q.k0.kind, Value.int .i64 q.k0.len, Value.int .u64 q.k0.h, Value.int .u64 q.k0.l, Value.string ⟨q.k0.path.toArray⟩, Value.int .i64 q.k1.kind, Value.int .i64 q.k1.len, Value.int .u64 q.k1.h, Value.int .u64 q.k1.l, Value.string ⟨q.k1.path.toArray⟩] _ Qd Try.underlying33 ?_ ?_) <;> first | rfl | exact infoPx)
  (try simp only [Act.put, nz1, nz2, nz3])
  refine tk 3 ⟨some 12, .load 33 (.tmp 4), 33, _, #[], none⟩ hHeld ?_ (v := ?vr2_3_3) (hy := ?yr2_3_3)
  case yr2_3_3 => (intro wy hSw; obtain ⟨Qc, Qd⟩ := hSw; (with_reducible refine pexec_load 33 (.tmp 4) ?_ (w.heap.size + 1) ?_ 33 #[Value.int .i64 q.a0, Value.int .i64 q.a1, Value.int .i64 q.k0.kind, Value.int .i64 q.k0.len, Value.int .u64 q.k0.h, Value.int .u64 q.k0.l, Value.string ⟨q.k0.path.toArray⟩, Value.int .i64 q.k1.kind, Value.int .i64 q.k1.len, Value.int .u64 q.k1.h, Value.int .u64 q.k1.l, Value.string ⟨q.k1.path.toArray⟩] _ Qd Try.underlying33 ?_ ?_) <;> first | rfl | exact infoPx)
  (try simp only [Act.put, nz1, nz2, nz3])
  refine tk 4 ⟨some 13, .load 33 (.tmp 3), 33, _, #[], none⟩ hHeld ?_ (v := ?vr2_4_4) (hy := ?yr2_4_4)
  case yr2_4_4 => (intro wy hSw; obtain ⟨Qc, Qd⟩ := hSw; (with_reducible refine pexec_load 33 (.tmp 3) ?_ w.heap.size ?_ 33 #[Value.int .i64 p.a0, Value.int .i64 p.a1, Value.int .i64 p.k0.kind, Value.int .i64 p.k0.len, Value.int .u64 p.k0.h, Value.int .u64 p.k0.l, Value.string ⟨p.k0.path.toArray⟩, Value.int .i64 p.k1.kind, Value.int .i64 p.k1.len, Value.int .u64 p.k1.h, Value.int .u64 p.k1.l, Value.string ⟨p.k1.path.toArray⟩] _ Qc Try.underlying33 ?_ ?_) <;> first | rfl | exact infoPx)
  (try simp only [Act.put, nz1, nz2, nz3])
  refine wpAnyH_ready (rs := [2]) (by kernel_rfl) (by simp) ?_
  refine AllReadyH.cons (o := ⟨some 11, .call { callee := .value (.func 32), args := #[.tmp 9, .tmp 10], argTypes := #[33, 33] }, 3, _, #[⟨0, .data⟩, ⟨1, .data⟩], none⟩) rfl (fun K hK => ?_) AllReadyH.nil
  (go_simp; (refine (H1 _).mono ?_); (rintro e wz ⟨rfl, hb⟩); (replace Rc := Rc.later hb); (replace Rd := Rd.later hb); (replace Re := Re.later hb); (replace hb0 := below_step hb0 hb); go_wp2_with fail)
  refine hK.out _ _ ?hSr2_5_2 (fun hHeld2 => ?_)
  case hSr2_5_2 => (obtain ⟨Qc, Qd⟩ := hHeld; exact ⟨Qc.later hb, Qd.later hb⟩)
  clear hK K hHeld
  have hHeld := hHeld2
  clear hHeld2
  rename World => wq
  (try simp only [Act.put, nz1, nz2, nz3])
  refine wpAnyH_ready (rs := [5]) (by kernel_rfl) (by simp) ?_
  refine AllReadyH.cons (o := ⟨some 14, .call { callee := .value (.func 32), args := #[.tmp 12, .tmp 13], argTypes := #[33, 33] }, 3, _, #[⟨3, .data⟩, ⟨4, .data⟩, ⟨2, .chain⟩], none⟩) rfl (fun K hK => ?_) AllReadyH.nil
  (go_simp; (refine (H2 _).mono ?_); (rintro e wz ⟨rfl, hb⟩); (replace Rc := Rc.later hb); (replace Rd := Rd.later hb); (replace Re := Re.later hb); (replace hb0 := below_step hb0 hb); go_wp2_with fail)
  refine hK.out _ _ ?hSr2_6_5 (fun hHeld2 => ?_)
  case hSr2_6_5 => (obtain ⟨Qc, Qd⟩ := hHeld; exact ⟨Qc.later hb, Qd.later hb⟩)
  clear hK K hHeld
  have hHeld := hHeld2
  clear hHeld2
  rename World => wq
  (try simp only [Act.put, nz1, nz2, nz3])
  refine tk 6 ⟨some 7, .assign (.tmp 11), 3, _, #[⟨2, .data⟩, ⟨5, .chain⟩, ⟨0, .phase⟩, ⟨1, .phase⟩, ⟨2, .phase⟩, { on := 3, ground := .textOnly .lateStores }, { on := 4, ground := .textOnly .lateStores }, { on := 5, ground := .textOnly .lateStoresUnsure }], none⟩ hHeld ?_
  (try simp only [Act.put, nz1, nz2, nz3])
  refine tk 7 ⟨some 8, .assign (.tmp 14), 3, _, #[⟨5, .data⟩, ⟨6, .chain⟩, ⟨0, .phase⟩, ⟨1, .phase⟩, ⟨2, .phase⟩, ⟨3, .phase⟩, ⟨4, .phase⟩, ⟨5, .phase⟩, ⟨6, .phase⟩], none⟩ hHeld ?_
  (try simp only [Act.put, nz1, nz2, nz3])
  refine wpAnyH_done (by kernel_rfl) ?_ _
  clear hHeld
  rename World => w1
  have lc := Rc.lt
  have ld := Rd.lt
  have le := Re.lt
  (try clear c0 c1 c2 c3 c4 c5 c6 c7 c8 c9 c10 c11); obtain ⟨c0, c1, c2, c3, c4, c5, c6, c7, c8, c9, c10, c11⟩ := row12 Rc
  (try clear d0 d1 d2 d3 d4 d5 d6 d7 d8 d9 d10 d11); obtain ⟨d0, d1, d2, d3, d4, d5, d6, d7, d8, d9, d10, d11⟩ := row12 Rd
  (try clear e0 e1 e2 e3 e4 e5 e6 e7 e8 e9 e10 e11); obtain ⟨e0, e1, e2, e3, e4, e5, e6, e7, e8, e9, e10, e11⟩ := row12 Re
  go_wp2_with fail
  refine (HA _).mono ?_
  rintro e w2 ⟨rfl, hb⟩
  replace Rc := Rc.later hb
  replace Rd := Rd.later hb
  replace Re := Re.later hb
  replace hb0 := below_step hb0 hb
  clear hb
  have lc := Rc.lt
  have ld := Rd.lt
  have le := Re.lt
  (try clear c0 c1 c2 c3 c4 c5 c6 c7 c8 c9 c10 c11); obtain ⟨c0, c1, c2, c3, c4, c5, c6, c7, c8, c9, c10, c11⟩ := row12 Rc
  (try clear d0 d1 d2 d3 d4 d5 d6 d7 d8 d9 d10 d11); obtain ⟨d0, d1, d2, d3, d4, d5, d6, d7, d8, d9, d10, d11⟩ := row12 Rd
  (try clear e0 e1 e2 e3 e4 e5 e6 e7 e8 e9 e10 e11); obtain ⟨e0, e1, e2, e3, e4, e5, e6, e7, e8, e9, e10, e11⟩ := row12 Re
  go_wp2_with fail
  refine (H3 _).mono ?_
  rintro e w3 ⟨rfl, hb⟩
  replace Rc := Rc.later hb
  replace Rd := Rd.later hb
  replace Re := Re.later hb
  replace hb0 := below_step hb0 hb
  clear hb
  have lc := Rc.lt
  have ld := Rd.lt
  have le := Re.lt
  (try clear c0 c1 c2 c3 c4 c5 c6 c7 c8 c9 c10 c11); obtain ⟨c0, c1, c2, c3, c4, c5, c6, c7, c8, c9, c10, c11⟩ := row12 Rc
  (try clear d0 d1 d2 d3 d4 d5 d6 d7 d8 d9 d10 d11); obtain ⟨d0, d1, d2, d3, d4, d5, d6, d7, d8, d9, d10, d11⟩ := row12 Rd
  (try clear e0 e1 e2 e3 e4 e5 e6 e7 e8 e9 e10 e11); obtain ⟨e0, e1, e2, e3, e4, e5, e6, e7, e8, e9, e10, e11⟩ := row12 Re
  go_wp2
  go_ret
  exact ⟨rfl, hb0⟩
set_option maxRecDepth 100000 in
set_option maxHeartbeats 16000000 in
theorem orders_c (p q x : Px) (n k : Int) (hq : decide (p = q) = false) (H1 : ∀ w, Calls Try.prog 32 #[pv p, pv q] w fun e w' => e = .returned (.int .i64 (-1)) ∧ Below w.heap.size w w') (H2 : ∀ w, Calls Try.prog 32 #[pv q, pv p] w fun e w' => e = .returned (.int .i64 1) ∧ Below w.heap.size w w') (H3 : ∀ w, Calls Try.prog 32 #[pv q, pv x] w fun e w' => e = .returned (.int .i64 n) ∧ Below w.heap.size w w') (H4 : ∀ w, Calls Try.prog 32 #[pv p, pv x] w fun e w' => e = .returned (.int .i64 k) ∧ Below w.heap.size w w') (hn : n ≤ 0) (hk : k ≤ 0) (w : World) : Calls Try.prog 9 #[pv p, pv q, pv x] w fun e w' => e = .returned (.bool true) ∧ Below w.heap.size w w' := by
  have qe := eql_px p q
  rw [hq] at qe
  have HA := alive9_t
  have n1 : decide (0 < n) = false := decide_eq_false (by omega)
  have k1 : decide (k ≤ 0) = true := decide_eq_true hk
  unfold pv at *
  obtain ⟨Rc, Rd, Re, hb0⟩ := three_rows w #[Value.int .i64 p.a0, Value.int .i64 p.a1, Value.int .i64 p.k0.kind, Value.int .i64 p.k0.len, Value.int .u64 p.k0.h, Value.int .u64 p.k0.l, Value.string ⟨p.k0.path.toArray⟩, Value.int .i64 p.k1.kind, Value.int .i64 p.k1.len, Value.int .u64 p.k1.h, Value.int .u64 p.k1.l, Value.string ⟨p.k1.path.toArray⟩] #[Value.int .i64 q.a0, Value.int .i64 q.a1, Value.int .i64 q.k0.kind, Value.int .i64 q.k0.len, Value.int .u64 q.k0.h, Value.int .u64 q.k0.l, Value.string ⟨q.k0.path.toArray⟩, Value.int .i64 q.k1.kind, Value.int .i64 q.k1.len, Value.int .u64 q.k1.h, Value.int .u64 q.k1.l, Value.string ⟨q.k1.path.toArray⟩] #[Value.int .i64 x.a0, Value.int .i64 x.a1, Value.int .i64 x.k0.kind, Value.int .i64 x.k0.len, Value.int .u64 x.k0.h, Value.int .u64 x.k0.l, Value.string ⟨x.k0.path.toArray⟩, Value.int .i64 x.k1.kind, Value.int .i64 x.k1.len, Value.int .u64 x.k1.h, Value.int .u64 x.k1.l, Value.string ⟨x.k1.path.toArray⟩] 33 33 33
  (try clear c0 c1 c2 c3 c4 c5 c6 c7 c8 c9 c10 c11); obtain ⟨c0, c1, c2, c3, c4, c5, c6, c7, c8, c9, c10, c11⟩ := row12 Rc
  (try clear d0 d1 d2 d3 d4 d5 d6 d7 d8 d9 d10 d11); obtain ⟨d0, d1, d2, d3, d4, d5, d6, d7, d8, d9, d10, d11⟩ := row12 Rd
  (try clear e0 e1 e2 e3 e4 e5 e6 e7 e8 e9 e10 e11); obtain ⟨e0, e1, e2, e3, e4, e5, e6, e7, e8, e9, e10, e11⟩ := row12 Re
  go_enter Try.func9, Try.ntmps9
  go_wp2_with fail
  refine wp_region_held_drew (S := (fun w' => Row w' w.heap.size #[Value.int .i64 p.a0, Value.int .i64 p.a1, Value.int .i64 p.k0.kind, Value.int .i64 p.k0.len, Value.int .u64 p.k0.h, Value.int .u64 p.k0.l, Value.string ⟨p.k0.path.toArray⟩, Value.int .i64 p.k1.kind, Value.int .i64 p.k1.len, Value.int .u64 p.k1.h, Value.int .u64 p.k1.l, Value.string ⟨p.k1.path.toArray⟩] 33 ∧ Row w' (w.heap.size + 1) #[Value.int .i64 q.a0, Value.int .i64 q.a1, Value.int .i64 q.k0.kind, Value.int .i64 q.k0.len, Value.int .u64 q.k0.h, Value.int .u64 q.k0.l, Value.string ⟨q.k0.path.toArray⟩, Value.int .i64 q.k1.kind, Value.int .i64 q.k1.len, Value.int .u64 q.k1.h, Value.int .u64 q.k1.l, Value.string ⟨q.k1.path.toArray⟩] 33)) (by kernel_rfl) ?hSr3_ (fun hHeld => ?_)
  case hSr3_ => (exact ⟨Rc.drew, Rd.drew⟩)
  (clear c0 c1 c2 c3 c4 c5 c6 c7 c8 c9 c10 c11 d0 d1 d2 d3 d4 d5 d6 d7 d8 d9 d10 d11 e0 e1 e2 e3 e4 e5 e6 e7 e8 e9 e10 e11; (replace Rc := Rc.drew); (replace Rd := Rd.drew); (replace Re := Re.drew); (replace hb0 := hb0.drew); (generalize World.drew _ = wq at *))
  refine tk 0 ⟨some 9, .load 33 (.tmp 3), 33, _, #[], none⟩ hHeld ?_ (v := ?vr3_1_0) (hy := ?yr3_1_0)
  case yr3_1_0 => (intro wy hSw; obtain ⟨Qc, Qd⟩ := hSw; (with_reducible refine pexec_load 33 (.tmp 3) ?_ w.heap.size ?_ 33 #[Value.int .i64 p.a0, Value.int .i64 p.a1, Value.int .i64 p.k0.kind, Value.int .i64 p.k0.len, Value.int .u64 p.k0.h, Value.int .u64 p.k0.l, Value.string ⟨p.k0.path.toArray⟩, Value.int .i64 p.k1.kind, Value.int .i64 p.k1.len, Value.int .u64 p.k1.h, Value.int .u64 p.k1.l, Value.string ⟨p.k1.path.toArray⟩] _ Qc Try.underlying33 ?_ ?_) <;> first | rfl | exact infoPx)
  (try simp only [Act.put, nz1, nz2, nz3])
  refine tk 1 ⟨some 10, .load 33 (.tmp 4), 33, _, #[], none⟩ hHeld ?_ (v := ?vr3_2_1) (hy := ?yr3_2_1)
  case yr3_2_1 => (intro wy hSw; obtain ⟨Qc, Qd⟩ := hSw; (with_reducible refine pexec_load 33 (.tmp 4) ?_ (w.heap.size + 1) ?_ 33 #[Value.int .i64 q.a0, Value.int .i64 q.a1, Value.int .i64 q.k0.kind, Value.int .i64 q.k0.len, Value.int .u64 q.k0.h, Value.int .u64 q.k0.l, Value.string ⟨q.k0.path.toArray⟩, Value.int .i64 q.k1.kind, Value.int .i64 q.k1.len, Value.int .u64 q.k1.h, Value.int .u64 q.k1.l, Value.string ⟨q.k1.path.toArray⟩] _ Qd Try.underlying33 ?_ ?_) <;> first | rfl | exact infoPx)
  (try simp only [Act.put, nz1, nz2, nz3])
  refine tk 3 ⟨some 12, .load 33 (.tmp 4), 33, _, #[], none⟩ hHeld ?_ (v := ?vr3_3_3) (hy := ?yr3_3_3)
  case yr3_3_3 => (intro wy hSw; obtain ⟨Qc, Qd⟩ := hSw; (with_reducible refine pexec_load 33 (.tmp 4) ?_ (w.heap.size + 1) ?_ 33 #[Value.int .i64 q.a0, Value.int .i64 q.a1, Value.int .i64 q.k0.kind, Value.int .i64 q.k0.len, Value.int .u64 q.k0.h, Value.int .u64 q.k0.l, Value.string ⟨q.k0.path.toArray⟩, Value.int .i64 q.k1.kind, Value.int .i64 q.k1.len, Value.int .u64 q.k1.h, Value.int .u64 q.k1.l, Value.string ⟨q.k1.path.toArray⟩] _ Qd Try.underlying33 ?_ ?_) <;> first | rfl | exact infoPx)
  (try simp only [Act.put, nz1, nz2, nz3])
  refine tk 4 ⟨some 13, .load 33 (.tmp 3), 33, _, #[], none⟩ hHeld ?_ (v := ?vr3_4_4) (hy := ?yr3_4_4)
  case yr3_4_4 => (intro wy hSw; obtain ⟨Qc, Qd⟩ := hSw; (with_reducible refine pexec_load 33 (.tmp 3) ?_ w.heap.size ?_ 33 #[Value.int .i64 p.a0, Value.int .i64 p.a1, Value.int .i64 p.k0.kind, Value.int .i64 p.k0.len, Value.int .u64 p.k0.h, Value.int .u64 p.k0.l, Value.string ⟨p.k0.path.toArray⟩, Value.int .i64 p.k1.kind, Value.int .i64 p.k1.len, Value.int .u64 p.k1.h, Value.int .u64 p.k1.l, Value.string ⟨p.k1.path.toArray⟩] _ Qc Try.underlying33 ?_ ?_) <;> first | rfl | exact infoPx)
  (try simp only [Act.put, nz1, nz2, nz3])
  refine wpAnyH_ready (rs := [2]) (by kernel_rfl) (by simp) ?_
  refine AllReadyH.cons (o := ⟨some 11, .call { callee := .value (.func 32), args := #[.tmp 9, .tmp 10], argTypes := #[33, 33] }, 3, _, #[⟨0, .data⟩, ⟨1, .data⟩], none⟩) rfl (fun K hK => ?_) AllReadyH.nil
  (go_simp; (refine (H1 _).mono ?_); (rintro e wz ⟨rfl, hb⟩); (replace Rc := Rc.later hb); (replace Rd := Rd.later hb); (replace Re := Re.later hb); (replace hb0 := below_step hb0 hb); go_wp2_with fail)
  refine hK.out _ _ ?hSr3_5_2 (fun hHeld2 => ?_)
  case hSr3_5_2 => (obtain ⟨Qc, Qd⟩ := hHeld; exact ⟨Qc.later hb, Qd.later hb⟩)
  clear hK K hHeld
  have hHeld := hHeld2
  clear hHeld2
  rename World => wq
  (try simp only [Act.put, nz1, nz2, nz3])
  refine wpAnyH_ready (rs := [5]) (by kernel_rfl) (by simp) ?_
  refine AllReadyH.cons (o := ⟨some 14, .call { callee := .value (.func 32), args := #[.tmp 12, .tmp 13], argTypes := #[33, 33] }, 3, _, #[⟨3, .data⟩, ⟨4, .data⟩, ⟨2, .chain⟩], none⟩) rfl (fun K hK => ?_) AllReadyH.nil
  (go_simp; (refine (H2 _).mono ?_); (rintro e wz ⟨rfl, hb⟩); (replace Rc := Rc.later hb); (replace Rd := Rd.later hb); (replace Re := Re.later hb); (replace hb0 := below_step hb0 hb); go_wp2_with fail)
  refine hK.out _ _ ?hSr3_6_5 (fun hHeld2 => ?_)
  case hSr3_6_5 => (obtain ⟨Qc, Qd⟩ := hHeld; exact ⟨Qc.later hb, Qd.later hb⟩)
  clear hK K hHeld
  have hHeld := hHeld2
  clear hHeld2
  rename World => wq
  (try simp only [Act.put, nz1, nz2, nz3])
  refine tk 6 ⟨some 7, .assign (.tmp 11), 3, _, #[⟨2, .data⟩, ⟨5, .chain⟩, ⟨0, .phase⟩, ⟨1, .phase⟩, ⟨2, .phase⟩, { on := 3, ground := .textOnly .lateStores }, { on := 4, ground := .textOnly .lateStores }, { on := 5, ground := .textOnly .lateStoresUnsure }], none⟩ hHeld ?_
  (try simp only [Act.put, nz1, nz2, nz3])
  refine tk 7 ⟨some 8, .assign (.tmp 14), 3, _, #[⟨5, .data⟩, ⟨6, .chain⟩, ⟨0, .phase⟩, ⟨1, .phase⟩, ⟨2, .phase⟩, ⟨3, .phase⟩, ⟨4, .phase⟩, ⟨5, .phase⟩, ⟨6, .phase⟩], none⟩ hHeld ?_
  (try simp only [Act.put, nz1, nz2, nz3])
  refine wpAnyH_done (by kernel_rfl) ?_ _
  clear hHeld
  rename World => w1
  have lc := Rc.lt
  have ld := Rd.lt
  have le := Re.lt
  (try clear c0 c1 c2 c3 c4 c5 c6 c7 c8 c9 c10 c11); obtain ⟨c0, c1, c2, c3, c4, c5, c6, c7, c8, c9, c10, c11⟩ := row12 Rc
  (try clear d0 d1 d2 d3 d4 d5 d6 d7 d8 d9 d10 d11); obtain ⟨d0, d1, d2, d3, d4, d5, d6, d7, d8, d9, d10, d11⟩ := row12 Rd
  (try clear e0 e1 e2 e3 e4 e5 e6 e7 e8 e9 e10 e11); obtain ⟨e0, e1, e2, e3, e4, e5, e6, e7, e8, e9, e10, e11⟩ := row12 Re
  go_wp2_with fail
  refine (HA _).mono ?_
  rintro e w2 ⟨rfl, hb⟩
  replace Rc := Rc.later hb
  replace Rd := Rd.later hb
  replace Re := Re.later hb
  replace hb0 := below_step hb0 hb
  clear hb
  have lc := Rc.lt
  have ld := Rd.lt
  have le := Re.lt
  (try clear c0 c1 c2 c3 c4 c5 c6 c7 c8 c9 c10 c11); obtain ⟨c0, c1, c2, c3, c4, c5, c6, c7, c8, c9, c10, c11⟩ := row12 Rc
  (try clear d0 d1 d2 d3 d4 d5 d6 d7 d8 d9 d10 d11); obtain ⟨d0, d1, d2, d3, d4, d5, d6, d7, d8, d9, d10, d11⟩ := row12 Rd
  (try clear e0 e1 e2 e3 e4 e5 e6 e7 e8 e9 e10 e11); obtain ⟨e0, e1, e2, e3, e4, e5, e6, e7, e8, e9, e10, e11⟩ := row12 Re
  go_wp2_with fail
  refine (H3 _).mono ?_
  rintro e w3 ⟨rfl, hb⟩
  replace Rc := Rc.later hb
  replace Rd := Rd.later hb
  replace Re := Re.later hb
  replace hb0 := below_step hb0 hb
  clear hb
  have lc := Rc.lt
  have ld := Rd.lt
  have le := Re.lt
  (try clear c0 c1 c2 c3 c4 c5 c6 c7 c8 c9 c10 c11); obtain ⟨c0, c1, c2, c3, c4, c5, c6, c7, c8, c9, c10, c11⟩ := row12 Rc
  (try clear d0 d1 d2 d3 d4 d5 d6 d7 d8 d9 d10 d11); obtain ⟨d0, d1, d2, d3, d4, d5, d6, d7, d8, d9, d10, d11⟩ := row12 Rd
  (try clear e0 e1 e2 e3 e4 e5 e6 e7 e8 e9 e10 e11); obtain ⟨e0, e1, e2, e3, e4, e5, e6, e7, e8, e9, e10, e11⟩ := row12 Re
  go_wp2_with fail
  refine (H4 _).mono ?_
  rintro e w4 ⟨rfl, hb⟩
  replace Rc := Rc.later hb
  replace Rd := Rd.later hb
  replace Re := Re.later hb
  replace hb0 := below_step hb0 hb
  clear hb
  have lc := Rc.lt
  have ld := Rd.lt
  have le := Re.lt
  (try clear c0 c1 c2 c3 c4 c5 c6 c7 c8 c9 c10 c11); obtain ⟨c0, c1, c2, c3, c4, c5, c6, c7, c8, c9, c10, c11⟩ := row12 Rc
  (try clear d0 d1 d2 d3 d4 d5 d6 d7 d8 d9 d10 d11); obtain ⟨d0, d1, d2, d3, d4, d5, d6, d7, d8, d9, d10, d11⟩ := row12 Rd
  (try clear e0 e1 e2 e3 e4 e5 e6 e7 e8 e9 e10 e11); obtain ⟨e0, e1, e2, e3, e4, e5, e6, e7, e8, e9, e10, e11⟩ := row12 Re
  go_wp2
  go_ret
  exact ⟨rfl, hb0⟩
set_option maxRecDepth 100000 in
set_option maxHeartbeats 16000000 in
theorem orders_d (p q x : Px) (n k : Int) (hq : decide (p = q) = true) (H1 : ∀ w, Calls Try.prog 32 #[pv p, pv q] w fun e w' => e = .returned (.int .i64 0) ∧ Below w.heap.size w w') (H2 : ∀ w, Calls Try.prog 32 #[pv q, pv p] w fun e w' => e = .returned (.int .i64 0) ∧ Below w.heap.size w w') (H3 : ∀ w, Calls Try.prog 32 #[pv q, pv x] w fun e w' => e = .returned (.int .i64 1) ∧ Below w.heap.size w w') (w : World) : Calls Try.prog 9 #[pv p, pv q, pv x] w fun e w' => e = .returned (.bool true) ∧ Below w.heap.size w w' := by
  have qe := eql_px p q
  rw [hq] at qe
  have HA := alive9_t
  unfold pv at *
  obtain ⟨Rc, Rd, Re, hb0⟩ := three_rows w #[Value.int .i64 p.a0, Value.int .i64 p.a1, Value.int .i64 p.k0.kind, Value.int .i64 p.k0.len, Value.int .u64 p.k0.h, Value.int .u64 p.k0.l, Value.string ⟨p.k0.path.toArray⟩, Value.int .i64 p.k1.kind, Value.int .i64 p.k1.len, Value.int .u64 p.k1.h, Value.int .u64 p.k1.l, Value.string ⟨p.k1.path.toArray⟩] #[Value.int .i64 q.a0, Value.int .i64 q.a1, Value.int .i64 q.k0.kind, Value.int .i64 q.k0.len, Value.int .u64 q.k0.h, Value.int .u64 q.k0.l, Value.string ⟨q.k0.path.toArray⟩, Value.int .i64 q.k1.kind, Value.int .i64 q.k1.len, Value.int .u64 q.k1.h, Value.int .u64 q.k1.l, Value.string ⟨q.k1.path.toArray⟩] #[Value.int .i64 x.a0, Value.int .i64 x.a1, Value.int .i64 x.k0.kind, Value.int .i64 x.k0.len, Value.int .u64 x.k0.h, Value.int .u64 x.k0.l, Value.string ⟨x.k0.path.toArray⟩, Value.int .i64 x.k1.kind, Value.int .i64 x.k1.len, Value.int .u64 x.k1.h, Value.int .u64 x.k1.l, Value.string ⟨x.k1.path.toArray⟩] 33 33 33
  (try clear c0 c1 c2 c3 c4 c5 c6 c7 c8 c9 c10 c11); obtain ⟨c0, c1, c2, c3, c4, c5, c6, c7, c8, c9, c10, c11⟩ := row12 Rc
  (try clear d0 d1 d2 d3 d4 d5 d6 d7 d8 d9 d10 d11); obtain ⟨d0, d1, d2, d3, d4, d5, d6, d7, d8, d9, d10, d11⟩ := row12 Rd
  (try clear e0 e1 e2 e3 e4 e5 e6 e7 e8 e9 e10 e11); obtain ⟨e0, e1, e2, e3, e4, e5, e6, e7, e8, e9, e10, e11⟩ := row12 Re
  go_enter Try.func9, Try.ntmps9
  go_wp2_with fail
  refine wp_region_held_drew (S := (fun w' => Row w' w.heap.size #[Value.int .i64 p.a0, Value.int .i64 p.a1, Value.int .i64 p.k0.kind, Value.int .i64 p.k0.len, Value.int .u64 p.k0.h, Value.int .u64 p.k0.l, Value.string ⟨p.k0.path.toArray⟩, Value.int .i64 p.k1.kind, Value.int .i64 p.k1.len, Value.int .u64 p.k1.h, Value.int .u64 p.k1.l, Value.string ⟨p.k1.path.toArray⟩] 33 ∧ Row w' (w.heap.size + 1) #[Value.int .i64 q.a0, Value.int .i64 q.a1, Value.int .i64 q.k0.kind, Value.int .i64 q.k0.len, Value.int .u64 q.k0.h, Value.int .u64 q.k0.l, Value.string ⟨q.k0.path.toArray⟩, Value.int .i64 q.k1.kind, Value.int .i64 q.k1.len, Value.int .u64 q.k1.h, Value.int .u64 q.k1.l, Value.string ⟨q.k1.path.toArray⟩] 33)) (by kernel_rfl) ?hSr4_ (fun hHeld => ?_)
  case hSr4_ => (exact ⟨Rc.drew, Rd.drew⟩)
  (clear c0 c1 c2 c3 c4 c5 c6 c7 c8 c9 c10 c11 d0 d1 d2 d3 d4 d5 d6 d7 d8 d9 d10 d11 e0 e1 e2 e3 e4 e5 e6 e7 e8 e9 e10 e11; (replace Rc := Rc.drew); (replace Rd := Rd.drew); (replace Re := Re.drew); (replace hb0 := hb0.drew); (generalize World.drew _ = wq at *))
  refine tk 0 ⟨some 9, .load 33 (.tmp 3), 33, _, #[], none⟩ hHeld ?_ (v := ?vr4_1_0) (hy := ?yr4_1_0)
  case yr4_1_0 => (intro wy hSw; obtain ⟨Qc, Qd⟩ := hSw; (with_reducible refine pexec_load 33 (.tmp 3) ?_ w.heap.size ?_ 33 #[Value.int .i64 p.a0, Value.int .i64 p.a1, Value.int .i64 p.k0.kind, Value.int .i64 p.k0.len, Value.int .u64 p.k0.h, Value.int .u64 p.k0.l, Value.string ⟨p.k0.path.toArray⟩, Value.int .i64 p.k1.kind, Value.int .i64 p.k1.len, Value.int .u64 p.k1.h, Value.int .u64 p.k1.l, Value.string ⟨p.k1.path.toArray⟩] _ Qc Try.underlying33 ?_ ?_) <;> first | rfl | exact infoPx)
  (try simp only [Act.put, nz1, nz2, nz3])
  refine tk 1 ⟨some 10, .load 33 (.tmp 4), 33, _, #[], none⟩ hHeld ?_ (v := ?vr4_2_1) (hy := ?yr4_2_1)
  case yr4_2_1 => (intro wy hSw; obtain ⟨Qc, Qd⟩ := hSw; (with_reducible refine pexec_load 33 (.tmp 4) ?_ (w.heap.size + 1) ?_ 33 #[Value.int .i64 q.a0, Value.int .i64 q.a1, Value.int .i64 q.k0.kind, Value.int .i64 q.k0.len, Value.int .u64 q.k0.h, Value.int .u64 q.k0.l, Value.string ⟨q.k0.path.toArray⟩, Value.int .i64 q.k1.kind, Value.int .i64 q.k1.len, Value.int .u64 q.k1.h, Value.int .u64 q.k1.l, Value.string ⟨q.k1.path.toArray⟩] _ Qd Try.underlying33 ?_ ?_) <;> first | rfl | exact infoPx)
  (try simp only [Act.put, nz1, nz2, nz3])
  refine tk 3 ⟨some 12, .load 33 (.tmp 4), 33, _, #[], none⟩ hHeld ?_ (v := ?vr4_3_3) (hy := ?yr4_3_3)
  case yr4_3_3 => (intro wy hSw; obtain ⟨Qc, Qd⟩ := hSw; (with_reducible refine pexec_load 33 (.tmp 4) ?_ (w.heap.size + 1) ?_ 33 #[Value.int .i64 q.a0, Value.int .i64 q.a1, Value.int .i64 q.k0.kind, Value.int .i64 q.k0.len, Value.int .u64 q.k0.h, Value.int .u64 q.k0.l, Value.string ⟨q.k0.path.toArray⟩, Value.int .i64 q.k1.kind, Value.int .i64 q.k1.len, Value.int .u64 q.k1.h, Value.int .u64 q.k1.l, Value.string ⟨q.k1.path.toArray⟩] _ Qd Try.underlying33 ?_ ?_) <;> first | rfl | exact infoPx)
  (try simp only [Act.put, nz1, nz2, nz3])
  refine tk 4 ⟨some 13, .load 33 (.tmp 3), 33, _, #[], none⟩ hHeld ?_ (v := ?vr4_4_4) (hy := ?yr4_4_4)
  case yr4_4_4 => (intro wy hSw; obtain ⟨Qc, Qd⟩ := hSw; (with_reducible refine pexec_load 33 (.tmp 3) ?_ w.heap.size ?_ 33 #[Value.int .i64 p.a0, Value.int .i64 p.a1, Value.int .i64 p.k0.kind, Value.int .i64 p.k0.len, Value.int .u64 p.k0.h, Value.int .u64 p.k0.l, Value.string ⟨p.k0.path.toArray⟩, Value.int .i64 p.k1.kind, Value.int .i64 p.k1.len, Value.int .u64 p.k1.h, Value.int .u64 p.k1.l, Value.string ⟨p.k1.path.toArray⟩] _ Qc Try.underlying33 ?_ ?_) <;> first | rfl | exact infoPx)
  (try simp only [Act.put, nz1, nz2, nz3])
  refine wpAnyH_ready (rs := [2]) (by kernel_rfl) (by simp) ?_
  refine AllReadyH.cons (o := ⟨some 11, .call { callee := .value (.func 32), args := #[.tmp 9, .tmp 10], argTypes := #[33, 33] }, 3, _, #[⟨0, .data⟩, ⟨1, .data⟩], none⟩) rfl (fun K hK => ?_) AllReadyH.nil
  (go_simp; (refine (H1 _).mono ?_); (rintro e wz ⟨rfl, hb⟩); (replace Rc := Rc.later hb); (replace Rd := Rd.later hb); (replace Re := Re.later hb); (replace hb0 := below_step hb0 hb); go_wp2_with fail)
  refine hK.out _ _ ?hSr4_5_2 (fun hHeld2 => ?_)
  case hSr4_5_2 => (obtain ⟨Qc, Qd⟩ := hHeld; exact ⟨Qc.later hb, Qd.later hb⟩)
  clear hK K hHeld
  have hHeld := hHeld2
  clear hHeld2
  rename World => wq
  (try simp only [Act.put, nz1, nz2, nz3])
  refine wpAnyH_ready (rs := [5]) (by kernel_rfl) (by simp) ?_
  refine AllReadyH.cons (o := ⟨some 14, .call { callee := .value (.func 32), args := #[.tmp 12, .tmp 13], argTypes := #[33, 33] }, 3, _, #[⟨3, .data⟩, ⟨4, .data⟩, ⟨2, .chain⟩], none⟩) rfl (fun K hK => ?_) AllReadyH.nil
  (go_simp; (refine (H2 _).mono ?_); (rintro e wz ⟨rfl, hb⟩); (replace Rc := Rc.later hb); (replace Rd := Rd.later hb); (replace Re := Re.later hb); (replace hb0 := below_step hb0 hb); go_wp2_with fail)
  refine hK.out _ _ ?hSr4_6_5 (fun hHeld2 => ?_)
  case hSr4_6_5 => (obtain ⟨Qc, Qd⟩ := hHeld; exact ⟨Qc.later hb, Qd.later hb⟩)
  clear hK K hHeld
  have hHeld := hHeld2
  clear hHeld2
  rename World => wq
  (try simp only [Act.put, nz1, nz2, nz3])
  refine tk 6 ⟨some 7, .assign (.tmp 11), 3, _, #[⟨2, .data⟩, ⟨5, .chain⟩, ⟨0, .phase⟩, ⟨1, .phase⟩, ⟨2, .phase⟩, { on := 3, ground := .textOnly .lateStores }, { on := 4, ground := .textOnly .lateStores }, { on := 5, ground := .textOnly .lateStoresUnsure }], none⟩ hHeld ?_
  (try simp only [Act.put, nz1, nz2, nz3])
  refine tk 7 ⟨some 8, .assign (.tmp 14), 3, _, #[⟨5, .data⟩, ⟨6, .chain⟩, ⟨0, .phase⟩, ⟨1, .phase⟩, ⟨2, .phase⟩, ⟨3, .phase⟩, ⟨4, .phase⟩, ⟨5, .phase⟩, ⟨6, .phase⟩], none⟩ hHeld ?_
  (try simp only [Act.put, nz1, nz2, nz3])
  refine wpAnyH_done (by kernel_rfl) ?_ _
  clear hHeld
  rename World => w1
  have lc := Rc.lt
  have ld := Rd.lt
  have le := Re.lt
  (try clear c0 c1 c2 c3 c4 c5 c6 c7 c8 c9 c10 c11); obtain ⟨c0, c1, c2, c3, c4, c5, c6, c7, c8, c9, c10, c11⟩ := row12 Rc
  (try clear d0 d1 d2 d3 d4 d5 d6 d7 d8 d9 d10 d11); obtain ⟨d0, d1, d2, d3, d4, d5, d6, d7, d8, d9, d10, d11⟩ := row12 Rd
  (try clear e0 e1 e2 e3 e4 e5 e6 e7 e8 e9 e10 e11); obtain ⟨e0, e1, e2, e3, e4, e5, e6, e7, e8, e9, e10, e11⟩ := row12 Re
  go_wp2_with fail
  refine (HA _).mono ?_
  rintro e w2 ⟨rfl, hb⟩
  replace Rc := Rc.later hb
  replace Rd := Rd.later hb
  replace Re := Re.later hb
  replace hb0 := below_step hb0 hb
  clear hb
  have lc := Rc.lt
  have ld := Rd.lt
  have le := Re.lt
  (try clear c0 c1 c2 c3 c4 c5 c6 c7 c8 c9 c10 c11); obtain ⟨c0, c1, c2, c3, c4, c5, c6, c7, c8, c9, c10, c11⟩ := row12 Rc
  (try clear d0 d1 d2 d3 d4 d5 d6 d7 d8 d9 d10 d11); obtain ⟨d0, d1, d2, d3, d4, d5, d6, d7, d8, d9, d10, d11⟩ := row12 Rd
  (try clear e0 e1 e2 e3 e4 e5 e6 e7 e8 e9 e10 e11); obtain ⟨e0, e1, e2, e3, e4, e5, e6, e7, e8, e9, e10, e11⟩ := row12 Re
  go_wp2_with fail
  refine (H3 _).mono ?_
  rintro e w3 ⟨rfl, hb⟩
  replace Rc := Rc.later hb
  replace Rd := Rd.later hb
  replace Re := Re.later hb
  replace hb0 := below_step hb0 hb
  clear hb
  have lc := Rc.lt
  have ld := Rd.lt
  have le := Re.lt
  (try clear c0 c1 c2 c3 c4 c5 c6 c7 c8 c9 c10 c11); obtain ⟨c0, c1, c2, c3, c4, c5, c6, c7, c8, c9, c10, c11⟩ := row12 Rc
  (try clear d0 d1 d2 d3 d4 d5 d6 d7 d8 d9 d10 d11); obtain ⟨d0, d1, d2, d3, d4, d5, d6, d7, d8, d9, d10, d11⟩ := row12 Rd
  (try clear e0 e1 e2 e3 e4 e5 e6 e7 e8 e9 e10 e11); obtain ⟨e0, e1, e2, e3, e4, e5, e6, e7, e8, e9, e10, e11⟩ := row12 Re
  go_wp2
  go_ret
  exact ⟨rfl, hb0⟩
set_option maxRecDepth 100000 in
set_option maxHeartbeats 16000000 in
theorem orders_e (p q x : Px) (n k : Int) (hq : decide (p = q) = true) (H1 : ∀ w, Calls Try.prog 32 #[pv p, pv q] w fun e w' => e = .returned (.int .i64 0) ∧ Below w.heap.size w w') (H2 : ∀ w, Calls Try.prog 32 #[pv q, pv p] w fun e w' => e = .returned (.int .i64 0) ∧ Below w.heap.size w w') (H3 : ∀ w, Calls Try.prog 32 #[pv q, pv x] w fun e w' => e = .returned (.int .i64 n) ∧ Below w.heap.size w w') (H4 : ∀ w, Calls Try.prog 32 #[pv p, pv x] w fun e w' => e = .returned (.int .i64 k) ∧ Below w.heap.size w w') (hn : n ≤ 0) (hk : k ≤ 0) (w : World) : Calls Try.prog 9 #[pv p, pv q, pv x] w fun e w' => e = .returned (.bool true) ∧ Below w.heap.size w w' := by
  have qe := eql_px p q
  rw [hq] at qe
  have HA := alive9_t
  have n1 : decide (0 < n) = false := decide_eq_false (by omega)
  have k1 : decide (k ≤ 0) = true := decide_eq_true hk
  unfold pv at *
  obtain ⟨Rc, Rd, Re, hb0⟩ := three_rows w #[Value.int .i64 p.a0, Value.int .i64 p.a1, Value.int .i64 p.k0.kind, Value.int .i64 p.k0.len, Value.int .u64 p.k0.h, Value.int .u64 p.k0.l, Value.string ⟨p.k0.path.toArray⟩, Value.int .i64 p.k1.kind, Value.int .i64 p.k1.len, Value.int .u64 p.k1.h, Value.int .u64 p.k1.l, Value.string ⟨p.k1.path.toArray⟩] #[Value.int .i64 q.a0, Value.int .i64 q.a1, Value.int .i64 q.k0.kind, Value.int .i64 q.k0.len, Value.int .u64 q.k0.h, Value.int .u64 q.k0.l, Value.string ⟨q.k0.path.toArray⟩, Value.int .i64 q.k1.kind, Value.int .i64 q.k1.len, Value.int .u64 q.k1.h, Value.int .u64 q.k1.l, Value.string ⟨q.k1.path.toArray⟩] #[Value.int .i64 x.a0, Value.int .i64 x.a1, Value.int .i64 x.k0.kind, Value.int .i64 x.k0.len, Value.int .u64 x.k0.h, Value.int .u64 x.k0.l, Value.string ⟨x.k0.path.toArray⟩, Value.int .i64 x.k1.kind, Value.int .i64 x.k1.len, Value.int .u64 x.k1.h, Value.int .u64 x.k1.l, Value.string ⟨x.k1.path.toArray⟩] 33 33 33
  (try clear c0 c1 c2 c3 c4 c5 c6 c7 c8 c9 c10 c11); obtain ⟨c0, c1, c2, c3, c4, c5, c6, c7, c8, c9, c10, c11⟩ := row12 Rc
  (try clear d0 d1 d2 d3 d4 d5 d6 d7 d8 d9 d10 d11); obtain ⟨d0, d1, d2, d3, d4, d5, d6, d7, d8, d9, d10, d11⟩ := row12 Rd
  (try clear e0 e1 e2 e3 e4 e5 e6 e7 e8 e9 e10 e11); obtain ⟨e0, e1, e2, e3, e4, e5, e6, e7, e8, e9, e10, e11⟩ := row12 Re
  go_enter Try.func9, Try.ntmps9
  go_wp2_with fail
  refine wp_region_held_drew (S := (fun w' => Row w' w.heap.size #[Value.int .i64 p.a0, Value.int .i64 p.a1, Value.int .i64 p.k0.kind, Value.int .i64 p.k0.len, Value.int .u64 p.k0.h, Value.int .u64 p.k0.l, Value.string ⟨p.k0.path.toArray⟩, Value.int .i64 p.k1.kind, Value.int .i64 p.k1.len, Value.int .u64 p.k1.h, Value.int .u64 p.k1.l, Value.string ⟨p.k1.path.toArray⟩] 33 ∧ Row w' (w.heap.size + 1) #[Value.int .i64 q.a0, Value.int .i64 q.a1, Value.int .i64 q.k0.kind, Value.int .i64 q.k0.len, Value.int .u64 q.k0.h, Value.int .u64 q.k0.l, Value.string ⟨q.k0.path.toArray⟩, Value.int .i64 q.k1.kind, Value.int .i64 q.k1.len, Value.int .u64 q.k1.h, Value.int .u64 q.k1.l, Value.string ⟨q.k1.path.toArray⟩] 33)) (by kernel_rfl) ?hSr5_ (fun hHeld => ?_)
  case hSr5_ => (exact ⟨Rc.drew, Rd.drew⟩)
  (clear c0 c1 c2 c3 c4 c5 c6 c7 c8 c9 c10 c11 d0 d1 d2 d3 d4 d5 d6 d7 d8 d9 d10 d11 e0 e1 e2 e3 e4 e5 e6 e7 e8 e9 e10 e11; (replace Rc := Rc.drew); (replace Rd := Rd.drew); (replace Re := Re.drew); (replace hb0 := hb0.drew); (generalize World.drew _ = wq at *))
  refine tk 0 ⟨some 9, .load 33 (.tmp 3), 33, _, #[], none⟩ hHeld ?_ (v := ?vr5_1_0) (hy := ?yr5_1_0)
  case yr5_1_0 => (intro wy hSw; obtain ⟨Qc, Qd⟩ := hSw; (with_reducible refine pexec_load 33 (.tmp 3) ?_ w.heap.size ?_ 33 #[Value.int .i64 p.a0, Value.int .i64 p.a1, Value.int .i64 p.k0.kind, Value.int .i64 p.k0.len, Value.int .u64 p.k0.h, Value.int .u64 p.k0.l, Value.string ⟨p.k0.path.toArray⟩, Value.int .i64 p.k1.kind, Value.int .i64 p.k1.len, Value.int .u64 p.k1.h, Value.int .u64 p.k1.l, Value.string ⟨p.k1.path.toArray⟩] _ Qc Try.underlying33 ?_ ?_) <;> first | rfl | exact infoPx)
  (try simp only [Act.put, nz1, nz2, nz3])
  refine tk 1 ⟨some 10, .load 33 (.tmp 4), 33, _, #[], none⟩ hHeld ?_ (v := ?vr5_2_1) (hy := ?yr5_2_1)
  case yr5_2_1 => (intro wy hSw; obtain ⟨Qc, Qd⟩ := hSw; (with_reducible refine pexec_load 33 (.tmp 4) ?_ (w.heap.size + 1) ?_ 33 #[Value.int .i64 q.a0, Value.int .i64 q.a1, Value.int .i64 q.k0.kind, Value.int .i64 q.k0.len, Value.int .u64 q.k0.h, Value.int .u64 q.k0.l, Value.string ⟨q.k0.path.toArray⟩, Value.int .i64 q.k1.kind, Value.int .i64 q.k1.len, Value.int .u64 q.k1.h, Value.int .u64 q.k1.l, Value.string ⟨q.k1.path.toArray⟩] _ Qd Try.underlying33 ?_ ?_) <;> first | rfl | exact infoPx)
  (try simp only [Act.put, nz1, nz2, nz3])
  refine tk 3 ⟨some 12, .load 33 (.tmp 4), 33, _, #[], none⟩ hHeld ?_ (v := ?vr5_3_3) (hy := ?yr5_3_3)
  case yr5_3_3 => (intro wy hSw; obtain ⟨Qc, Qd⟩ := hSw; (with_reducible refine pexec_load 33 (.tmp 4) ?_ (w.heap.size + 1) ?_ 33 #[Value.int .i64 q.a0, Value.int .i64 q.a1, Value.int .i64 q.k0.kind, Value.int .i64 q.k0.len, Value.int .u64 q.k0.h, Value.int .u64 q.k0.l, Value.string ⟨q.k0.path.toArray⟩, Value.int .i64 q.k1.kind, Value.int .i64 q.k1.len, Value.int .u64 q.k1.h, Value.int .u64 q.k1.l, Value.string ⟨q.k1.path.toArray⟩] _ Qd Try.underlying33 ?_ ?_) <;> first | rfl | exact infoPx)
  (try simp only [Act.put, nz1, nz2, nz3])
  refine tk 4 ⟨some 13, .load 33 (.tmp 3), 33, _, #[], none⟩ hHeld ?_ (v := ?vr5_4_4) (hy := ?yr5_4_4)
  case yr5_4_4 => (intro wy hSw; obtain ⟨Qc, Qd⟩ := hSw; (with_reducible refine pexec_load 33 (.tmp 3) ?_ w.heap.size ?_ 33 #[Value.int .i64 p.a0, Value.int .i64 p.a1, Value.int .i64 p.k0.kind, Value.int .i64 p.k0.len, Value.int .u64 p.k0.h, Value.int .u64 p.k0.l, Value.string ⟨p.k0.path.toArray⟩, Value.int .i64 p.k1.kind, Value.int .i64 p.k1.len, Value.int .u64 p.k1.h, Value.int .u64 p.k1.l, Value.string ⟨p.k1.path.toArray⟩] _ Qc Try.underlying33 ?_ ?_) <;> first | rfl | exact infoPx)
  (try simp only [Act.put, nz1, nz2, nz3])
  refine wpAnyH_ready (rs := [2]) (by kernel_rfl) (by simp) ?_
  refine AllReadyH.cons (o := ⟨some 11, .call { callee := .value (.func 32), args := #[.tmp 9, .tmp 10], argTypes := #[33, 33] }, 3, _, #[⟨0, .data⟩, ⟨1, .data⟩], none⟩) rfl (fun K hK => ?_) AllReadyH.nil
  (go_simp; (refine (H1 _).mono ?_); (rintro e wz ⟨rfl, hb⟩); (replace Rc := Rc.later hb); (replace Rd := Rd.later hb); (replace Re := Re.later hb); (replace hb0 := below_step hb0 hb); go_wp2_with fail)
  refine hK.out _ _ ?hSr5_5_2 (fun hHeld2 => ?_)
  case hSr5_5_2 => (obtain ⟨Qc, Qd⟩ := hHeld; exact ⟨Qc.later hb, Qd.later hb⟩)
  clear hK K hHeld
  have hHeld := hHeld2
  clear hHeld2
  rename World => wq
  (try simp only [Act.put, nz1, nz2, nz3])
  refine wpAnyH_ready (rs := [5]) (by kernel_rfl) (by simp) ?_
  refine AllReadyH.cons (o := ⟨some 14, .call { callee := .value (.func 32), args := #[.tmp 12, .tmp 13], argTypes := #[33, 33] }, 3, _, #[⟨3, .data⟩, ⟨4, .data⟩, ⟨2, .chain⟩], none⟩) rfl (fun K hK => ?_) AllReadyH.nil
  (go_simp; (refine (H2 _).mono ?_); (rintro e wz ⟨rfl, hb⟩); (replace Rc := Rc.later hb); (replace Rd := Rd.later hb); (replace Re := Re.later hb); (replace hb0 := below_step hb0 hb); go_wp2_with fail)
  refine hK.out _ _ ?hSr5_6_5 (fun hHeld2 => ?_)
  case hSr5_6_5 => (obtain ⟨Qc, Qd⟩ := hHeld; exact ⟨Qc.later hb, Qd.later hb⟩)
  clear hK K hHeld
  have hHeld := hHeld2
  clear hHeld2
  rename World => wq
  (try simp only [Act.put, nz1, nz2, nz3])
  refine tk 6 ⟨some 7, .assign (.tmp 11), 3, _, #[⟨2, .data⟩, ⟨5, .chain⟩, ⟨0, .phase⟩, ⟨1, .phase⟩, ⟨2, .phase⟩, { on := 3, ground := .textOnly .lateStores }, { on := 4, ground := .textOnly .lateStores }, { on := 5, ground := .textOnly .lateStoresUnsure }], none⟩ hHeld ?_
  (try simp only [Act.put, nz1, nz2, nz3])
  refine tk 7 ⟨some 8, .assign (.tmp 14), 3, _, #[⟨5, .data⟩, ⟨6, .chain⟩, ⟨0, .phase⟩, ⟨1, .phase⟩, ⟨2, .phase⟩, ⟨3, .phase⟩, ⟨4, .phase⟩, ⟨5, .phase⟩, ⟨6, .phase⟩], none⟩ hHeld ?_
  (try simp only [Act.put, nz1, nz2, nz3])
  refine wpAnyH_done (by kernel_rfl) ?_ _
  clear hHeld
  rename World => w1
  have lc := Rc.lt
  have ld := Rd.lt
  have le := Re.lt
  (try clear c0 c1 c2 c3 c4 c5 c6 c7 c8 c9 c10 c11); obtain ⟨c0, c1, c2, c3, c4, c5, c6, c7, c8, c9, c10, c11⟩ := row12 Rc
  (try clear d0 d1 d2 d3 d4 d5 d6 d7 d8 d9 d10 d11); obtain ⟨d0, d1, d2, d3, d4, d5, d6, d7, d8, d9, d10, d11⟩ := row12 Rd
  (try clear e0 e1 e2 e3 e4 e5 e6 e7 e8 e9 e10 e11); obtain ⟨e0, e1, e2, e3, e4, e5, e6, e7, e8, e9, e10, e11⟩ := row12 Re
  go_wp2_with fail
  refine (HA _).mono ?_
  rintro e w2 ⟨rfl, hb⟩
  replace Rc := Rc.later hb
  replace Rd := Rd.later hb
  replace Re := Re.later hb
  replace hb0 := below_step hb0 hb
  clear hb
  have lc := Rc.lt
  have ld := Rd.lt
  have le := Re.lt
  (try clear c0 c1 c2 c3 c4 c5 c6 c7 c8 c9 c10 c11); obtain ⟨c0, c1, c2, c3, c4, c5, c6, c7, c8, c9, c10, c11⟩ := row12 Rc
  (try clear d0 d1 d2 d3 d4 d5 d6 d7 d8 d9 d10 d11); obtain ⟨d0, d1, d2, d3, d4, d5, d6, d7, d8, d9, d10, d11⟩ := row12 Rd
  (try clear e0 e1 e2 e3 e4 e5 e6 e7 e8 e9 e10 e11); obtain ⟨e0, e1, e2, e3, e4, e5, e6, e7, e8, e9, e10, e11⟩ := row12 Re
  go_wp2_with fail
  refine (H3 _).mono ?_
  rintro e w3 ⟨rfl, hb⟩
  replace Rc := Rc.later hb
  replace Rd := Rd.later hb
  replace Re := Re.later hb
  replace hb0 := below_step hb0 hb
  clear hb
  have lc := Rc.lt
  have ld := Rd.lt
  have le := Re.lt
  (try clear c0 c1 c2 c3 c4 c5 c6 c7 c8 c9 c10 c11); obtain ⟨c0, c1, c2, c3, c4, c5, c6, c7, c8, c9, c10, c11⟩ := row12 Rc
  (try clear d0 d1 d2 d3 d4 d5 d6 d7 d8 d9 d10 d11); obtain ⟨d0, d1, d2, d3, d4, d5, d6, d7, d8, d9, d10, d11⟩ := row12 Rd
  (try clear e0 e1 e2 e3 e4 e5 e6 e7 e8 e9 e10 e11); obtain ⟨e0, e1, e2, e3, e4, e5, e6, e7, e8, e9, e10, e11⟩ := row12 Re
  go_wp2_with fail
  refine (H4 _).mono ?_
  rintro e w4 ⟨rfl, hb⟩
  replace Rc := Rc.later hb
  replace Rd := Rd.later hb
  replace Re := Re.later hb
  replace hb0 := below_step hb0 hb
  clear hb
  have lc := Rc.lt
  have ld := Rd.lt
  have le := Re.lt
  (try clear c0 c1 c2 c3 c4 c5 c6 c7 c8 c9 c10 c11); obtain ⟨c0, c1, c2, c3, c4, c5, c6, c7, c8, c9, c10, c11⟩ := row12 Rc
  (try clear d0 d1 d2 d3 d4 d5 d6 d7 d8 d9 d10 d11); obtain ⟨d0, d1, d2, d3, d4, d5, d6, d7, d8, d9, d10, d11⟩ := row12 Rd
  (try clear e0 e1 e2 e3 e4 e5 e6 e7 e8 e9 e10 e11); obtain ⟨e0, e1, e2, e3, e4, e5, e6, e7, e8, e9, e10, e11⟩ := row12 Re
  go_wp2
  go_ret
  exact ⟨rfl, hb0⟩
theorem orders_any (p q x : Px) (op : p.ok) (oq : q.ok) (ox : x.ok) (w : World) : Calls Try.prog 9 #[pv p, pv q, pv x] w fun e w' => e = .returned (.bool true) ∧ Below w.heap.size w w' := by
  have H1 := pcmp_t p q op oq
  have H2 := pcmp_t q p oq op
  have H3 := pcmp_t q x oq ox
  have H4 := pcmp_t p x op ox
  have hz := cmpP_zero op oq
  have ha := ord_P.anti p q
  have l1 := ord_P.lo p q
  have l2 := ord_P.hi p q
  have l3 := ord_P.lo q x
  have l4 := ord_P.hi q x
  have ht := ord_P.tr p q x
  rw [ha] at H2
  generalize cmpP p q = m at *
  generalize cmpP q x = n at *
  generalize cmpP p x = k at *
  have hm : m = -1 ∨ m = 0 ∨ m = 1 := by omega
  rcases hm with rfl | rfl | rfl
  · have hq : decide (p = q) = false := decide_eq_false (fun e => by have := hz.2 e; omega)
    by_cases hn : n ≤ 0
    · exact orders_c p q x n k hq H1 H2 H3 H4 hn (ht (by omega) hn) w
    · obtain rfl : n = 1 := by omega
      exact orders_b p q x 1 k hq H1 H2 H3 w
  · have hq : decide (p = q) = true := decide_eq_true (hz.1 rfl)
    by_cases hn : n ≤ 0
    · exact orders_e p q x n k hq H1 H2 H3 H4 hn (ht (by omega) hn) w
    · obtain rfl : n = 1 := by omega
      exact orders_d p q x 1 k hq H1 H2 H3 w
  · have hq : decide (p = q) = false := decide_eq_false (fun e => by have := hz.2 e; omega)
    exact orders_a p q x n k hq H1 H2 w
end Go.Proofs.Ytbekocknfpekoaa
