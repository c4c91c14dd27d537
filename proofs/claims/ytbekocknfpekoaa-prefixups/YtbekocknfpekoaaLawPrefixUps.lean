/- LawPrefixUps: what the theorem needs of these texts. No conditions beyond those that are written. -/
import Derived.Test.YtbekocknfpekoaaJF0
import Derived.Test.YtbekocknfpekoaaR9d
import Derived.Test.YtbekocknfpekoaaPA
import Derived.Test.YtbekocknfpekoaaJP11
namespace Go.Proofs.Ytbekocknfpekoaa
set_option linter.unusedVariables false
set_option linter.unusedSimpArgs false
open Go.RowKit
set_option maxRecDepth 100000 in
set_option maxHeartbeats 32000000 in
theorem ups9_false (s : Sp) (p q u : Px) (i j : Int)
    (H1 : ∀ w, Calls Try.prog 26 #[sv s, pv p, .agg #[.int .i64 i, .int .i64 j]] w fun e w' => e = .returned (pv u) ∧ Below w.heap.size w w')
    (H2 : ∀ w, Calls Try.prog 27 #[sv s, pv p, .agg #[.int .i64 i, .int .i64 j]] w fun e w' => e = .returned (pv u) ∧ Below w.heap.size w w')
    (H3 : ∀ w, Calls Try.prog 28 #[sv s, pv p, pv q] w fun e w' => e = .returned (.bool false) ∧ Below w.heap.size w w')
    (H4 : ∀ w, Calls Try.prog 29 #[sv s, pv p, pv q] w fun e w' => e = .returned (.bool false) ∧ Below w.heap.size w w') (w : World) :
    Calls Try.prog 4 #[sv s, pv p, pv q, .int .i64 i, .int .i64 j] w fun e w' => e = .returned (.bool true) ∧ Below w.heap.size w w' := by
  have HA := alive9_t
  have qe := eql_px u u
  rw [decide_eq_true rfl] at qe
  unfold sv pv at *
  obtain ⟨Rg, Rd, Re, hb0⟩ := three_rows w #[.int .i64 s.n, .int .i64 s.d0.kind, .int .i64 s.d0.side, .int .i64 s.d0.step, .int .i64 s.d1.kind, .int .i64 s.d1.side, .int .i64 s.d1.step] #[.int .i64 p.a0, .int .i64 p.a1, .int .i64 p.k0.kind, .int .i64 p.k0.len, .int .u64 p.k0.h, .int .u64 p.k0.l, .string ⟨p.k0.path.toArray⟩, .int .i64 p.k1.kind, .int .i64 p.k1.len, .int .u64 p.k1.h, .int .u64 p.k1.l, .string ⟨p.k1.path.toArray⟩] #[.int .i64 q.a0, .int .i64 q.a1, .int .i64 q.k0.kind, .int .i64 q.k0.len, .int .u64 q.k0.h, .int .u64 q.k0.l, .string ⟨q.k0.path.toArray⟩, .int .i64 q.k1.kind, .int .i64 q.k1.len, .int .u64 q.k1.h, .int .u64 q.k1.l, .string ⟨q.k1.path.toArray⟩] 26 33 33
  (try clear g0 g1 g2 g3 g4 g5 g6); obtain ⟨g0, g1, g2, g3, g4, g5, g6⟩ := row7 Rg
  (try clear d0 d1 d2 d3 d4 d5 d6 d7 d8 d9 d10 d11); obtain ⟨d0, d1, d2, d3, d4, d5, d6, d7, d8, d9, d10, d11⟩ := row12 Rd
  (try clear e0 e1 e2 e3 e4 e5 e6 e7 e8 e9 e10 e11); obtain ⟨e0, e1, e2, e3, e4, e5, e6, e7, e8, e9, e10, e11⟩ := row12 Re
  go_enter Try.func4, Try.ntmps4
  go_wp2_with fail
  replace Rg := Rg.alloc (.cells #[Value.int .i64 i, Value.int .i64 j] 27)
  replace Rd := Rd.alloc (.cells #[Value.int .i64 i, Value.int .i64 j] 27)
  replace Re := Re.alloc (.cells #[Value.int .i64 i, Value.int .i64 j] 27)
  have Rm := Row.new (World.alloc (World.alloc (World.alloc w (.cells #[.int .i64 s.n, .int .i64 s.d0.kind, .int .i64 s.d0.side, .int .i64 s.d0.step, .int .i64 s.d1.kind, .int .i64 s.d1.side, .int .i64 s.d1.step] 26)) (.cells #[.int .i64 p.a0, .int .i64 p.a1, .int .i64 p.k0.kind, .int .i64 p.k0.len, .int .u64 p.k0.h, .int .u64 p.k0.l, .string ⟨p.k0.path.toArray⟩, .int .i64 p.k1.kind, .int .i64 p.k1.len, .int .u64 p.k1.h, .int .u64 p.k1.l, .string ⟨p.k1.path.toArray⟩] 33)) (.cells #[.int .i64 q.a0, .int .i64 q.a1, .int .i64 q.k0.kind, .int .i64 q.k0.len, .int .u64 q.k0.h, .int .u64 q.k0.l, .string ⟨q.k0.path.toArray⟩, .int .i64 q.k1.kind, .int .i64 q.k1.len, .int .u64 q.k1.h, .int .u64 q.k1.l, .string ⟨q.k1.path.toArray⟩] 33)) #[Value.int .i64 i, Value.int .i64 j] 27
  simp only [World.size_alloc] at Rm
  have mm := hb0.size
  replace hb0 := hb0.alloc hb0.size (.cells #[Value.int .i64 i, Value.int .i64 j] 27)
  (try clear g0 g1 g2 g3 g4 g5 g6); obtain ⟨g0, g1, g2, g3, g4, g5, g6⟩ := row7 Rg
  (try clear d0 d1 d2 d3 d4 d5 d6 d7 d8 d9 d10 d11); obtain ⟨d0, d1, d2, d3, d4, d5, d6, d7, d8, d9, d10, d11⟩ := row12 Rd
  (try clear e0 e1 e2 e3 e4 e5 e6 e7 e8 e9 e10 e11); obtain ⟨e0, e1, e2, e3, e4, e5, e6, e7, e8, e9, e10, e11⟩ := row12 Re
  (try clear m0 m1); obtain ⟨m0, m1⟩ := row2 Rm
  generalize (World.alloc (World.alloc (World.alloc (World.alloc w (.cells #[.int .i64 s.n, .int .i64 s.d0.kind, .int .i64 s.d0.side, .int .i64 s.d0.step, .int .i64 s.d1.kind, .int .i64 s.d1.side, .int .i64 s.d1.step] 26)) (.cells #[.int .i64 p.a0, .int .i64 p.a1, .int .i64 p.k0.kind, .int .i64 p.k0.len, .int .u64 p.k0.h, .int .u64 p.k0.l, .string ⟨p.k0.path.toArray⟩, .int .i64 p.k1.kind, .int .i64 p.k1.len, .int .u64 p.k1.h, .int .u64 p.k1.l, .string ⟨p.k1.path.toArray⟩] 33)) (.cells #[.int .i64 q.a0, .int .i64 q.a1, .int .i64 q.k0.kind, .int .i64 q.k0.len, .int .u64 q.k0.h, .int .u64 q.k0.l, .string ⟨q.k0.path.toArray⟩, .int .i64 q.k1.kind, .int .i64 q.k1.len, .int .u64 q.k1.h, .int .u64 q.k1.l, .string ⟨q.k1.path.toArray⟩] 33)) (.cells #[Value.int .i64 i, Value.int .i64 j] 27)) = w1 at *
  refine wp_region_held_drew (S := (fun w' => w'.cell? ⟨w.heap.size + 1 + 1 + 1, 0, none⟩ = some (Value.int .i64 i) ∧ w'.cell? ⟨w.heap.size + 1 + 1 + 1, 1, none⟩ = some (Value.int .i64 j) ∧ Row w' w.heap.size #[.int .i64 s.n, .int .i64 s.d0.kind, .int .i64 s.d0.side, .int .i64 s.d0.step, .int .i64 s.d1.kind, .int .i64 s.d1.side, .int .i64 s.d1.step] 26 ∧ Row w' (w.heap.size + 1) #[.int .i64 p.a0, .int .i64 p.a1, .int .i64 p.k0.kind, .int .i64 p.k0.len, .int .u64 p.k0.h, .int .u64 p.k0.l, .string ⟨p.k0.path.toArray⟩, .int .i64 p.k1.kind, .int .i64 p.k1.len, .int .u64 p.k1.h, .int .u64 p.k1.l, .string ⟨p.k1.path.toArray⟩] 33 ∧ Row w' (w.heap.size + 1 + 1) #[.int .i64 q.a0, .int .i64 q.a1, .int .i64 q.k0.kind, .int .i64 q.k0.len, .int .u64 q.k0.h, .int .u64 q.k0.l, .string ⟨q.k0.path.toArray⟩, .int .i64 q.k1.kind, .int .i64 q.k1.len, .int .u64 q.k1.h, .int .u64 q.k1.l, .string ⟨q.k1.path.toArray⟩] 33)) (by kernel_rfl) ?hSr91_ (fun hHeld => ?_)
  case hSr91_ => (exact ⟨m0, m1, Rg.drew, Rd.drew, Re.drew⟩)
  (clear g0 g1 g2 g3 g4 g5 g6 d0 d1 d2 d3 d4 d5 d6 d7 d8 d9 d10 d11 e0 e1 e2 e3 e4 e5 e6 e7 e8 e9 e10 e11 m0 m1; (replace Rg := Rg.drew); (replace Rd := Rd.drew); (replace Re := Re.drew); (replace Rm := Rm.drew); (replace hb0 := hb0.drew); (generalize World.drew w1 = wq at *))
  refine wpAnyH_ready (rs := [0]) (by kernel_rfl) (by simp) ?_
  refine AllReadyH.cons (o := ⟨some 15, .call { callee := .value (.func 24), args := #[], argTypes := #[] }, 4, _, _, _⟩) rfl (fun K hK => ?_) AllReadyH.nil
  (go_simp; (refine (HA _).mono ?_); (rintro e wz ⟨rfl, hb⟩); (replace Rg := Rg.later hb); (replace Rd := Rd.later hb); (replace Re := Re.later hb); (replace Rm := Rm.later hb); (replace hb0 := below_step hb0 hb); go_wp2_with fail)
  refine hK.out _ _ ?hSr91_1_0 (fun hHeld2 => ?_)
  case hSr91_1_0 => (obtain ⟨m0, m1, Qg, Qd, Qe⟩ := hHeld; exact ⟨cell_later hb m0, cell_later hb m1, Qg.later hb, Qd.later hb, Qe.later hb⟩)
  clear hK K hHeld
  have hHeld := hHeld2
  clear hHeld2
  rename World => wq
  (try simp only [Act.put, nz1, nz2, nz3])
  refine tk 1 ⟨some 16, .move (.tmp 15), 4, _, _, _⟩ hHeld ?_
  (try simp only [Act.put, nz1, nz2, nz3])
  refine tk 2 ⟨some 17, .load 26 (.tmp 5), 26, _, _, _⟩ hHeld ?_ (v := ?vr91_3_2) (hy := ?yr91_3_2)
  case yr91_3_2 => (intro wy hSw; obtain ⟨m0, m1, Qg, Qd, Qe⟩ := hSw; (with_reducible refine pexec_load 26 (.tmp 5) ?_ w.heap.size ?_ 26 #[.int .i64 s.n, .int .i64 s.d0.kind, .int .i64 s.d0.side, .int .i64 s.d0.step, .int .i64 s.d1.kind, .int .i64 s.d1.side, .int .i64 s.d1.step] _ Qg Try.underlying26 ?_ ?_) <;> first | rfl | exact infoSp)
  (try simp only [Act.put, nz1, nz2, nz3])
  refine tk 3 ⟨some 18, .load 33 (.tmp 6), 33, _, _, _⟩ hHeld ?_ (v := ?vr91_4_3) (hy := ?yr91_4_3)
  case yr91_4_3 => (intro wy hSw; obtain ⟨m0, m1, Qg, Qd, Qe⟩ := hSw; (with_reducible refine pexec_load 33 (.tmp 6) ?_ (w.heap.size + 1) ?_ 33 #[.int .i64 p.a0, .int .i64 p.a1, .int .i64 p.k0.kind, .int .i64 p.k0.len, .int .u64 p.k0.h, .int .u64 p.k0.l, .string ⟨p.k0.path.toArray⟩, .int .i64 p.k1.kind, .int .i64 p.k1.len, .int .u64 p.k1.h, .int .u64 p.k1.l, .string ⟨p.k1.path.toArray⟩] _ Qd Try.underlying33 ?_ ?_) <;> first | rfl | exact infoPx)
  (try simp only [Act.put, nz1, nz2, nz3])
  refine tk 4 ⟨some 19, .load 27 (.tmp 11), 27, _, _, _⟩ hHeld ?_
  (try simp only [Act.put, nz1, nz2, nz3])
  refine tk 6 ⟨some 21, .load 26 (.tmp 5), 26, _, _, _⟩ hHeld ?_ (v := ?vr91_6_6) (hy := ?yr91_6_6)
  case yr91_6_6 => (intro wy hSw; obtain ⟨m0, m1, Qg, Qd, Qe⟩ := hSw; (with_reducible refine pexec_load 26 (.tmp 5) ?_ w.heap.size ?_ 26 #[.int .i64 s.n, .int .i64 s.d0.kind, .int .i64 s.d0.side, .int .i64 s.d0.step, .int .i64 s.d1.kind, .int .i64 s.d1.side, .int .i64 s.d1.step] _ Qg Try.underlying26 ?_ ?_) <;> first | rfl | exact infoSp)
  (try simp only [Act.put, nz1, nz2, nz3])
  refine tk 7 ⟨some 22, .load 33 (.tmp 6), 33, _, _, _⟩ hHeld ?_ (v := ?vr91_7_7) (hy := ?yr91_7_7)
  case yr91_7_7 => (intro wy hSw; obtain ⟨m0, m1, Qg, Qd, Qe⟩ := hSw; (with_reducible refine pexec_load 33 (.tmp 6) ?_ (w.heap.size + 1) ?_ 33 #[.int .i64 p.a0, .int .i64 p.a1, .int .i64 p.k0.kind, .int .i64 p.k0.len, .int .u64 p.k0.h, .int .u64 p.k0.l, .string ⟨p.k0.path.toArray⟩, .int .i64 p.k1.kind, .int .i64 p.k1.len, .int .u64 p.k1.h, .int .u64 p.k1.l, .string ⟨p.k1.path.toArray⟩] _ Qd Try.underlying33 ?_ ?_) <;> first | rfl | exact infoPx)
  (try simp only [Act.put, nz1, nz2, nz3])
  refine tk 8 ⟨some 23, .load 27 (.tmp 11), 27, _, _, _⟩ hHeld ?_
  (try simp only [Act.put, nz1, nz2, nz3])
  refine wpAnyH_ready (rs := [5]) (by kernel_rfl) (by simp) ?_
  refine AllReadyH.cons (o := ⟨some 20, .call { callee := .value (.func 26), args := #[.tmp 17, .tmp 18, .tmp 19], argTypes := #[26, 33, 27] }, 33, _, _, _⟩) rfl (fun K hK => ?_) AllReadyH.nil
  (go_simp; (refine (H1 _).mono ?_); (rintro e wz ⟨rfl, hb⟩); (replace Rg := Rg.later hb); (replace Rd := Rd.later hb); (replace Re := Re.later hb); (replace Rm := Rm.later hb); (replace hb0 := below_step hb0 hb); go_wp2_with fail)
  refine hK.out _ _ ?hSr91_9_5 (fun hHeld2 => ?_)
  case hSr91_9_5 => (obtain ⟨m0, m1, Qg, Qd, Qe⟩ := hHeld; exact ⟨cell_later hb m0, cell_later hb m1, Qg.later hb, Qd.later hb, Qe.later hb⟩)
  clear hK K hHeld
  have hHeld := hHeld2
  clear hHeld2
  rename World => wq
  (try simp only [Act.put, nz1, nz2, nz3])
  refine wpAnyH_ready (rs := [9]) (by kernel_rfl) (by simp) ?_
  refine AllReadyH.cons (o := ⟨some 24, .call { callee := .value (.func 27), args := #[.tmp 21, .tmp 22, .tmp 23], argTypes := #[26, 33, 27] }, 33, _, _, _⟩) rfl (fun K hK => ?_) AllReadyH.nil
  (go_simp; (refine (H2 _).mono ?_); (rintro e wz ⟨rfl, hb⟩); (replace Rg := Rg.later hb); (replace Rd := Rd.later hb); (replace Re := Re.later hb); (replace Rm := Rm.later hb); (replace hb0 := below_step hb0 hb); go_wp2_with fail)
  refine hK.out _ _ ?hSr91_10_9 (fun hHeld2 => ?_)
  case hSr91_10_9 => (obtain ⟨m0, m1, Qg, Qd, Qe⟩ := hHeld; exact ⟨cell_later hb m0, cell_later hb m1, Qg.later hb, Qd.later hb, Qe.later hb⟩)
  clear hK K hHeld
  have hHeld := hHeld2
  clear hHeld2
  rename World => wq
  (try simp only [Act.put, nz1, nz2, nz3])
  refine tk 10 ⟨some 25, .binOp .eql 33 (.tmp 20) (.tmp 24) 33, 4, _, _, _⟩ hHeld ?_
  (try simp only [Act.put, nz1, nz2, nz3])
  refine tk 11 ⟨some 26, .pick (.tmp 16) (.tmp 25) (.const (.bool false)), 4, _, _, _⟩ hHeld ?_
  (try simp only [Act.put, nz1, nz2, nz3])
  refine tk 12 ⟨some 27, .move (.tmp 26), 4, _, _, _⟩ hHeld ?_
  (try simp only [Act.put, nz1, nz2, nz3])
  refine tk 13 ⟨some 28, .load 26 (.tmp 5), 26, _, _, _⟩ hHeld ?_ (v := ?vr91_14_13) (hy := ?yr91_14_13)
  case yr91_14_13 => (intro wy hSw; obtain ⟨m0, m1, Qg, Qd, Qe⟩ := hSw; (with_reducible refine pexec_load 26 (.tmp 5) ?_ w.heap.size ?_ 26 #[.int .i64 s.n, .int .i64 s.d0.kind, .int .i64 s.d0.side, .int .i64 s.d0.step, .int .i64 s.d1.kind, .int .i64 s.d1.side, .int .i64 s.d1.step] _ Qg Try.underlying26 ?_ ?_) <;> first | rfl | exact infoSp)
  (try simp only [Act.put, nz1, nz2, nz3])
  refine tk 14 ⟨some 29, .load 33 (.tmp 6), 33, _, _, _⟩ hHeld ?_ (v := ?vr91_15_14) (hy := ?yr91_15_14)
  case yr91_15_14 => (intro wy hSw; obtain ⟨m0, m1, Qg, Qd, Qe⟩ := hSw; (with_reducible refine pexec_load 33 (.tmp 6) ?_ (w.heap.size + 1) ?_ 33 #[.int .i64 p.a0, .int .i64 p.a1, .int .i64 p.k0.kind, .int .i64 p.k0.len, .int .u64 p.k0.h, .int .u64 p.k0.l, .string ⟨p.k0.path.toArray⟩, .int .i64 p.k1.kind, .int .i64 p.k1.len, .int .u64 p.k1.h, .int .u64 p.k1.l, .string ⟨p.k1.path.toArray⟩] _ Qd Try.underlying33 ?_ ?_) <;> first | rfl | exact infoPx)
  (try simp only [Act.put, nz1, nz2, nz3])
  refine tk 15 ⟨some 30, .load 33 (.tmp 7), 33, _, _, _⟩ hHeld ?_ (v := ?vr91_16_15) (hy := ?yr91_16_15)
  case yr91_16_15 => (intro wy hSw; obtain ⟨m0, m1, Qg, Qd, Qe⟩ := hSw; (with_reducible refine pexec_load 33 (.tmp 7) ?_ (w.heap.size + 1 + 1) ?_ 33 #[.int .i64 q.a0, .int .i64 q.a1, .int .i64 q.k0.kind, .int .i64 q.k0.len, .int .u64 q.k0.h, .int .u64 q.k0.l, .string ⟨q.k0.path.toArray⟩, .int .i64 q.k1.kind, .int .i64 q.k1.len, .int .u64 q.k1.h, .int .u64 q.k1.l, .string ⟨q.k1.path.toArray⟩] _ Qe Try.underlying33 ?_ ?_) <;> first | rfl | exact infoPx)
  (try simp only [Act.put, nz1, nz2, nz3])
  refine tk 17 ⟨some 32, .load 26 (.tmp 5), 26, _, _, _⟩ hHeld ?_ (v := ?vr91_17_17) (hy := ?yr91_17_17)
  case yr91_17_17 => (intro wy hSw; obtain ⟨m0, m1, Qg, Qd, Qe⟩ := hSw; (with_reducible refine pexec_load 26 (.tmp 5) ?_ w.heap.size ?_ 26 #[.int .i64 s.n, .int .i64 s.d0.kind, .int .i64 s.d0.side, .int .i64 s.d0.step, .int .i64 s.d1.kind, .int .i64 s.d1.side, .int .i64 s.d1.step] _ Qg Try.underlying26 ?_ ?_) <;> first | rfl | exact infoSp)
  (try simp only [Act.put, nz1, nz2, nz3])
  refine tk 18 ⟨some 33, .load 33 (.tmp 6), 33, _, _, _⟩ hHeld ?_ (v := ?vr91_18_18) (hy := ?yr91_18_18)
  case yr91_18_18 => (intro wy hSw; obtain ⟨m0, m1, Qg, Qd, Qe⟩ := hSw; (with_reducible refine pexec_load 33 (.tmp 6) ?_ (w.heap.size + 1) ?_ 33 #[.int .i64 p.a0, .int .i64 p.a1, .int .i64 p.k0.kind, .int .i64 p.k0.len, .int .u64 p.k0.h, .int .u64 p.k0.l, .string ⟨p.k0.path.toArray⟩, .int .i64 p.k1.kind, .int .i64 p.k1.len, .int .u64 p.k1.h, .int .u64 p.k1.l, .string ⟨p.k1.path.toArray⟩] _ Qd Try.underlying33 ?_ ?_) <;> first | rfl | exact infoPx)
  (try simp only [Act.put, nz1, nz2, nz3])
  refine tk 19 ⟨some 34, .load 33 (.tmp 7), 33, _, _, _⟩ hHeld ?_ (v := ?vr91_19_19) (hy := ?yr91_19_19)
  case yr91_19_19 => (intro wy hSw; obtain ⟨m0, m1, Qg, Qd, Qe⟩ := hSw; (with_reducible refine pexec_load 33 (.tmp 7) ?_ (w.heap.size + 1 + 1) ?_ 33 #[.int .i64 q.a0, .int .i64 q.a1, .int .i64 q.k0.kind, .int .i64 q.k0.len, .int .u64 q.k0.h, .int .u64 q.k0.l, .string ⟨q.k0.path.toArray⟩, .int .i64 q.k1.kind, .int .i64 q.k1.len, .int .u64 q.k1.h, .int .u64 q.k1.l, .string ⟨q.k1.path.toArray⟩] _ Qe Try.underlying33 ?_ ?_) <;> first | rfl | exact infoPx)
  (try simp only [Act.put, nz1, nz2, nz3])
  refine wpAnyH_ready (rs := [16]) (by kernel_rfl) (by simp) ?_
  refine AllReadyH.cons (o := ⟨some 31, .call { callee := .value (.func 28), args := #[.tmp 28, .tmp 29, .tmp 30], argTypes := #[26, 33, 33] }, 4, _, _, _⟩) rfl (fun K hK => ?_) AllReadyH.nil
  (go_simp; (refine (H3 _).mono ?_); (rintro e wz ⟨rfl, hb⟩); (replace Rg := Rg.later hb); (replace Rd := Rd.later hb); (replace Re := Re.later hb); (replace Rm := Rm.later hb); (replace hb0 := below_step hb0 hb); go_wp2_with fail)
  refine hK.out _ _ ?hSr91_20_16 (fun hHeld2 => ?_)
  case hSr91_20_16 => (obtain ⟨m0, m1, Qg, Qd, Qe⟩ := hHeld; exact ⟨cell_later hb m0, cell_later hb m1, Qg.later hb, Qd.later hb, Qe.later hb⟩)
  clear hK K hHeld
  have hHeld := hHeld2
  clear hHeld2
  rename World => wq
  (try simp only [Act.put, nz1, nz2, nz3])
  refine wpAnyH_ready (rs := [20]) (by kernel_rfl) (by simp) ?_
  refine AllReadyH.cons (o := ⟨some 35, .call { callee := .value (.func 29), args := #[.tmp 32, .tmp 33, .tmp 34], argTypes := #[26, 33, 33] }, 4, _, _, _⟩) rfl (fun K hK => ?_) AllReadyH.nil
  (go_simp; (refine (H4 _).mono ?_); (rintro e wz ⟨rfl, hb⟩); (replace Rg := Rg.later hb); (replace Rd := Rd.later hb); (replace Re := Re.later hb); (replace Rm := Rm.later hb); (replace hb0 := below_step hb0 hb); go_wp2_with fail)
  refine hK.out _ _ ?hSr91_21_20 (fun hHeld2 => ?_)
  case hSr91_21_20 => (obtain ⟨m0, m1, Qg, Qd, Qe⟩ := hHeld; exact ⟨cell_later hb m0, cell_later hb m1, Qg.later hb, Qd.later hb, Qe.later hb⟩)
  clear hK K hHeld
  have hHeld := hHeld2
  clear hHeld2
  rename World => wq
  (try simp only [Act.put, nz1, nz2, nz3])
  refine tk 21 ⟨some 36, .binOp .eql 4 (.tmp 31) (.tmp 35) 4, 4, _, _, _⟩ hHeld ?_
  (try simp only [Act.put, nz1, nz2, nz3])
  refine tk 22 ⟨some 37, .pick (.tmp 27) (.tmp 36) (.const (.bool false)), 4, _, _, _⟩ hHeld ?_
  (try simp only [Act.put, nz1, nz2, nz3])
  refine tk 23 ⟨some 10, .assign (.tmp 37), 4, _, _, _⟩ hHeld ?_
  (try simp only [Act.put, nz1, nz2, nz3])
  refine wpAnyH_done (by kernel_rfl) ?_ _
  clear hHeld
  rename World => w2
  have lg := Rg.lt
  have ld := Rd.lt
  have le := Re.lt
  have lm := Rm.lt
  (try clear g0 g1 g2 g3 g4 g5 g6); obtain ⟨g0, g1, g2, g3, g4, g5, g6⟩ := row7 Rg
  (try clear d0 d1 d2 d3 d4 d5 d6 d7 d8 d9 d10 d11); obtain ⟨d0, d1, d2, d3, d4, d5, d6, d7, d8, d9, d10, d11⟩ := row12 Rd
  (try clear e0 e1 e2 e3 e4 e5 e6 e7 e8 e9 e10 e11); obtain ⟨e0, e1, e2, e3, e4, e5, e6, e7, e8, e9, e10, e11⟩ := row12 Re
  (try clear m0 m1); obtain ⟨m0, m1⟩ := row2 Rm
  go_wp2
  go_ret
  exact ⟨rfl, hb0⟩
set_option maxRecDepth 100000 in
set_option maxHeartbeats 32000000 in
theorem ups9_true (s : Sp) (p q u : Px) (i j : Int)
    (H1 : ∀ w, Calls Try.prog 26 #[sv s, pv p, .agg #[.int .i64 i, .int .i64 j]] w fun e w' => e = .returned (pv u) ∧ Below w.heap.size w w')
    (H2 : ∀ w, Calls Try.prog 27 #[sv s, pv p, .agg #[.int .i64 i, .int .i64 j]] w fun e w' => e = .returned (pv u) ∧ Below w.heap.size w w')
    (H3 : ∀ w, Calls Try.prog 28 #[sv s, pv p, pv q] w fun e w' => e = .returned (.bool true) ∧ Below w.heap.size w w')
    (H4 : ∀ w, Calls Try.prog 29 #[sv s, pv p, pv q] w fun e w' => e = .returned (.bool true) ∧ Below w.heap.size w w') (w : World) :
    Calls Try.prog 4 #[sv s, pv p, pv q, .int .i64 i, .int .i64 j] w fun e w' => e = .returned (.bool true) ∧ Below w.heap.size w w' := by
  have HA := alive9_t
  have qe := eql_px u u
  rw [decide_eq_true rfl] at qe
  unfold sv pv at *
  obtain ⟨Rg, Rd, Re, hb0⟩ := three_rows w #[.int .i64 s.n, .int .i64 s.d0.kind, .int .i64 s.d0.side, .int .i64 s.d0.step, .int .i64 s.d1.kind, .int .i64 s.d1.side, .int .i64 s.d1.step] #[.int .i64 p.a0, .int .i64 p.a1, .int .i64 p.k0.kind, .int .i64 p.k0.len, .int .u64 p.k0.h, .int .u64 p.k0.l, .string ⟨p.k0.path.toArray⟩, .int .i64 p.k1.kind, .int .i64 p.k1.len, .int .u64 p.k1.h, .int .u64 p.k1.l, .string ⟨p.k1.path.toArray⟩] #[.int .i64 q.a0, .int .i64 q.a1, .int .i64 q.k0.kind, .int .i64 q.k0.len, .int .u64 q.k0.h, .int .u64 q.k0.l, .string ⟨q.k0.path.toArray⟩, .int .i64 q.k1.kind, .int .i64 q.k1.len, .int .u64 q.k1.h, .int .u64 q.k1.l, .string ⟨q.k1.path.toArray⟩] 26 33 33
  (try clear g0 g1 g2 g3 g4 g5 g6); obtain ⟨g0, g1, g2, g3, g4, g5, g6⟩ := row7 Rg
  (try clear d0 d1 d2 d3 d4 d5 d6 d7 d8 d9 d10 d11); obtain ⟨d0, d1, d2, d3, d4, d5, d6, d7, d8, d9, d10, d11⟩ := row12 Rd
  (try clear e0 e1 e2 e3 e4 e5 e6 e7 e8 e9 e10 e11); obtain ⟨e0, e1, e2, e3, e4, e5, e6, e7, e8, e9, e10, e11⟩ := row12 Re
  go_enter Try.func4, Try.ntmps4
  go_wp2_with fail
  replace Rg := Rg.alloc (.cells #[Value.int .i64 i, Value.int .i64 j] 27)
  replace Rd := Rd.alloc (.cells #[Value.int .i64 i, Value.int .i64 j] 27)
  replace Re := Re.alloc (.cells #[Value.int .i64 i, Value.int .i64 j] 27)
  have Rm := Row.new (World.alloc (World.alloc (World.alloc w (.cells #[.int .i64 s.n, .int .i64 s.d0.kind, .int .i64 s.d0.side, .int .i64 s.d0.step, .int .i64 s.d1.kind, .int .i64 s.d1.side, .int .i64 s.d1.step] 26)) (.cells #[.int .i64 p.a0, .int .i64 p.a1, .int .i64 p.k0.kind, .int .i64 p.k0.len, .int .u64 p.k0.h, .int .u64 p.k0.l, .string ⟨p.k0.path.toArray⟩, .int .i64 p.k1.kind, .int .i64 p.k1.len, .int .u64 p.k1.h, .int .u64 p.k1.l, .string ⟨p.k1.path.toArray⟩] 33)) (.cells #[.int .i64 q.a0, .int .i64 q.a1, .int .i64 q.k0.kind, .int .i64 q.k0.len, .int .u64 q.k0.h, .int .u64 q.k0.l, .string ⟨q.k0.path.toArray⟩, .int .i64 q.k1.kind, .int .i64 q.k1.len, .int .u64 q.k1.h, .int .u64 q.k1.l, .string ⟨q.k1.path.toArray⟩] 33)) #[Value.int .i64 i, Value.int .i64 j] 27
  simp only [World.size_alloc] at Rm
  have mm := hb0.size
  replace hb0 := hb0.alloc hb0.size (.cells #[Value.int .i64 i, Value.int .i64 j] 27)
  (try clear g0 g1 g2 g3 g4 g5 g6); obtain ⟨g0, g1, g2, g3, g4, g5, g6⟩ := row7 Rg
  (try clear d0 d1 d2 d3 d4 d5 d6 d7 d8 d9 d10 d11); obtain ⟨d0, d1, d2, d3, d4, d5, d6, d7, d8, d9, d10, d11⟩ := row12 Rd
  (try clear e0 e1 e2 e3 e4 e5 e6 e7 e8 e9 e10 e11); obtain ⟨e0, e1, e2, e3, e4, e5, e6, e7, e8, e9, e10, e11⟩ := row12 Re
  (try clear m0 m1); obtain ⟨m0, m1⟩ := row2 Rm
  generalize (World.alloc (World.alloc (World.alloc (World.alloc w (.cells #[.int .i64 s.n, .int .i64 s.d0.kind, .int .i64 s.d0.side, .int .i64 s.d0.step, .int .i64 s.d1.kind, .int .i64 s.d1.side, .int .i64 s.d1.step] 26)) (.cells #[.int .i64 p.a0, .int .i64 p.a1, .int .i64 p.k0.kind, .int .i64 p.k0.len, .int .u64 p.k0.h, .int .u64 p.k0.l, .string ⟨p.k0.path.toArray⟩, .int .i64 p.k1.kind, .int .i64 p.k1.len, .int .u64 p.k1.h, .int .u64 p.k1.l, .string ⟨p.k1.path.toArray⟩] 33)) (.cells #[.int .i64 q.a0, .int .i64 q.a1, .int .i64 q.k0.kind, .int .i64 q.k0.len, .int .u64 q.k0.h, .int .u64 q.k0.l, .string ⟨q.k0.path.toArray⟩, .int .i64 q.k1.kind, .int .i64 q.k1.len, .int .u64 q.k1.h, .int .u64 q.k1.l, .string ⟨q.k1.path.toArray⟩] 33)) (.cells #[Value.int .i64 i, Value.int .i64 j] 27)) = w1 at *
  refine wp_region_held_drew (S := (fun w' => w'.cell? ⟨w.heap.size + 1 + 1 + 1, 0, none⟩ = some (Value.int .i64 i) ∧ w'.cell? ⟨w.heap.size + 1 + 1 + 1, 1, none⟩ = some (Value.int .i64 j) ∧ Row w' w.heap.size #[.int .i64 s.n, .int .i64 s.d0.kind, .int .i64 s.d0.side, .int .i64 s.d0.step, .int .i64 s.d1.kind, .int .i64 s.d1.side, .int .i64 s.d1.step] 26 ∧ Row w' (w.heap.size + 1) #[.int .i64 p.a0, .int .i64 p.a1, .int .i64 p.k0.kind, .int .i64 p.k0.len, .int .u64 p.k0.h, .int .u64 p.k0.l, .string ⟨p.k0.path.toArray⟩, .int .i64 p.k1.kind, .int .i64 p.k1.len, .int .u64 p.k1.h, .int .u64 p.k1.l, .string ⟨p.k1.path.toArray⟩] 33 ∧ Row w' (w.heap.size + 1 + 1) #[.int .i64 q.a0, .int .i64 q.a1, .int .i64 q.k0.kind, .int .i64 q.k0.len, .int .u64 q.k0.h, .int .u64 q.k0.l, .string ⟨q.k0.path.toArray⟩, .int .i64 q.k1.kind, .int .i64 q.k1.len, .int .u64 q.k1.h, .int .u64 q.k1.l, .string ⟨q.k1.path.toArray⟩] 33)) (by kernel_rfl) ?hSr92_ (fun hHeld => ?_)
  case hSr92_ => (exact ⟨m0, m1, Rg.drew, Rd.drew, Re.drew⟩)
  (clear g0 g1 g2 g3 g4 g5 g6 d0 d1 d2 d3 d4 d5 d6 d7 d8 d9 d10 d11 e0 e1 e2 e3 e4 e5 e6 e7 e8 e9 e10 e11 m0 m1; (replace Rg := Rg.drew); (replace Rd := Rd.drew); (replace Re := Re.drew); (replace Rm := Rm.drew); (replace hb0 := hb0.drew); (generalize World.drew w1 = wq at *))
  refine wpAnyH_ready (rs := [0]) (by kernel_rfl) (by simp) ?_
  refine AllReadyH.cons (o := ⟨some 15, .call { callee := .value (.func 24), args := #[], argTypes := #[] }, 4, _, _, _⟩) rfl (fun K hK => ?_) AllReadyH.nil
  (go_simp; (refine (HA _).mono ?_); (rintro e wz ⟨rfl, hb⟩); (replace Rg := Rg.later hb); (replace Rd := Rd.later hb); (replace Re := Re.later hb); (replace Rm := Rm.later hb); (replace hb0 := below_step hb0 hb); go_wp2_with fail)
  refine hK.out _ _ ?hSr92_1_0 (fun hHeld2 => ?_)
  case hSr92_1_0 => (obtain ⟨m0, m1, Qg, Qd, Qe⟩ := hHeld; exact ⟨cell_later hb m0, cell_later hb m1, Qg.later hb, Qd.later hb, Qe.later hb⟩)
  clear hK K hHeld
  have hHeld := hHeld2
  clear hHeld2
  rename World => wq
  (try simp only [Act.put, nz1, nz2, nz3])
  refine tk 1 ⟨some 16, .move (.tmp 15), 4, _, _, _⟩ hHeld ?_
  (try simp only [Act.put, nz1, nz2, nz3])
  refine tk 2 ⟨some 17, .load 26 (.tmp 5), 26, _, _, _⟩ hHeld ?_ (v := ?vr92_3_2) (hy := ?yr92_3_2)
  case yr92_3_2 => (intro wy hSw; obtain ⟨m0, m1, Qg, Qd, Qe⟩ := hSw; (with_reducible refine pexec_load 26 (.tmp 5) ?_ w.heap.size ?_ 26 #[.int .i64 s.n, .int .i64 s.d0.kind, .int .i64 s.d0.side, .int .i64 s.d0.step, .int .i64 s.d1.kind, .int .i64 s.d1.side, .int .i64 s.d1.step] _ Qg Try.underlying26 ?_ ?_) <;> first | rfl | exact infoSp)
  (try simp only [Act.put, nz1, nz2, nz3])
  refine tk 3 ⟨some 18, .load 33 (.tmp 6), 33, _, _, _⟩ hHeld ?_ (v := ?vr92_4_3) (hy := ?yr92_4_3)
  case yr92_4_3 => (intro wy hSw; obtain ⟨m0, m1, Qg, Qd, Qe⟩ := hSw; (with_reducible refine pexec_load 33 (.tmp 6) ?_ (w.heap.size + 1) ?_ 33 #[.int .i64 p.a0, .int .i64 p.a1, .int .i64 p.k0.kind, .int .i64 p.k0.len, .int .u64 p.k0.h, .int .u64 p.k0.l, .string ⟨p.k0.path.toArray⟩, .int .i64 p.k1.kind, .int .i64 p.k1.len, .int .u64 p.k1.h, .int .u64 p.k1.l, .string ⟨p.k1.path.toArray⟩] _ Qd Try.underlying33 ?_ ?_) <;> first | rfl | exact infoPx)
  (try simp only [Act.put, nz1, nz2, nz3])
  refine tk 4 ⟨some 19, .load 27 (.tmp 11), 27, _, _, _⟩ hHeld ?_
  (try simp only [Act.put, nz1, nz2, nz3])
  refine tk 6 ⟨some 21, .load 26 (.tmp 5), 26, _, _, _⟩ hHeld ?_ (v := ?vr92_6_6) (hy := ?yr92_6_6)
  case yr92_6_6 => (intro wy hSw; obtain ⟨m0, m1, Qg, Qd, Qe⟩ := hSw; (with_reducible refine pexec_load 26 (.tmp 5) ?_ w.heap.size ?_ 26 #[.int .i64 s.n, .int .i64 s.d0.kind, .int .i64 s.d0.side, .int .i64 s.d0.step, .int .i64 s.d1.kind, .int .i64 s.d1.side, .int .i64 s.d1.step] _ Qg Try.underlying26 ?_ ?_) <;> first | rfl | exact infoSp)
  (try simp only [Act.put, nz1, nz2, nz3])
  refine tk 7 ⟨some 22, .load 33 (.tmp 6), 33, _, _, _⟩ hHeld ?_ (v := ?vr92_7_7) (hy := ?yr92_7_7)
  case yr92_7_7 => (intro wy hSw; obtain ⟨m0, m1, Qg, Qd, Qe⟩ := hSw; (with_reducible refine pexec_load 33 (.tmp 6) ?_ (w.heap.size + 1) ?_ 33 #[.int .i64 p.a0, .int .i64 p.a1, .int .i64 p.k0.kind, .int .i64 p.k0.len, .int .u64 p.k0.h, .int .u64 p.k0.l, .string ⟨p.k0.path.toArray⟩, .int .i64 p.k1.kind, .int .i64 p.k1.len, .int .u64 p.k1.h, .int .u64 p.k1.l, .string ⟨p.k1.path.toArray⟩] _ Qd Try.underlying33 ?_ ?_) <;> first | rfl | exact infoPx)
  (try simp only [Act.put, nz1, nz2, nz3])
  refine tk 8 ⟨some 23, .load 27 (.tmp 11), 27, _, _, _⟩ hHeld ?_
  (try simp only [Act.put, nz1, nz2, nz3])
  refine wpAnyH_ready (rs := [5]) (by kernel_rfl) (by simp) ?_
  refine AllReadyH.cons (o := ⟨some 20, .call { callee := .value (.func 26), args := #[.tmp 17, .tmp 18, .tmp 19], argTypes := #[26, 33, 27] }, 33, _, _, _⟩) rfl (fun K hK => ?_) AllReadyH.nil
  (go_simp; (refine (H1 _).mono ?_); (rintro e wz ⟨rfl, hb⟩); (replace Rg := Rg.later hb); (replace Rd := Rd.later hb); (replace Re := Re.later hb); (replace Rm := Rm.later hb); (replace hb0 := below_step hb0 hb); go_wp2_with fail)
  refine hK.out _ _ ?hSr92_9_5 (fun hHeld2 => ?_)
  case hSr92_9_5 => (obtain ⟨m0, m1, Qg, Qd, Qe⟩ := hHeld; exact ⟨cell_later hb m0, cell_later hb m1, Qg.later hb, Qd.later hb, Qe.later hb⟩)
  clear hK K hHeld
  have hHeld := hHeld2
  clear hHeld2
  rename World => wq
  (try simp only [Act.put, nz1, nz2, nz3])
  refine wpAnyH_ready (rs := [9]) (by kernel_rfl) (by simp) ?_
  refine AllReadyH.cons (o := ⟨some 24, .call { callee := .value (.func 27), args := #[.tmp 21, .tmp 22, .tmp 23], argTypes := #[26, 33, 27] }, 33, _, _, _⟩) rfl (fun K hK => ?_) AllReadyH.nil
  (go_simp; (refine (H2 _).mono ?_); (rintro e wz ⟨rfl, hb⟩); (replace Rg := Rg.later hb); (replace Rd := Rd.later hb); (replace Re := Re.later hb); (replace Rm := Rm.later hb); (replace hb0 := below_step hb0 hb); go_wp2_with fail)
  refine hK.out _ _ ?hSr92_10_9 (fun hHeld2 => ?_)
  case hSr92_10_9 => (obtain ⟨m0, m1, Qg, Qd, Qe⟩ := hHeld; exact ⟨cell_later hb m0, cell_later hb m1, Qg.later hb, Qd.later hb, Qe.later hb⟩)
  clear hK K hHeld
  have hHeld := hHeld2
  clear hHeld2
  rename World => wq
  (try simp only [Act.put, nz1, nz2, nz3])
  refine tk 10 ⟨some 25, .binOp .eql 33 (.tmp 20) (.tmp 24) 33, 4, _, _, _⟩ hHeld ?_
  (try simp only [Act.put, nz1, nz2, nz3])
  refine tk 11 ⟨some 26, .pick (.tmp 16) (.tmp 25) (.const (.bool false)), 4, _, _, _⟩ hHeld ?_
  (try simp only [Act.put, nz1, nz2, nz3])
  refine tk 12 ⟨some 27, .move (.tmp 26), 4, _, _, _⟩ hHeld ?_
  (try simp only [Act.put, nz1, nz2, nz3])
  refine tk 13 ⟨some 28, .load 26 (.tmp 5), 26, _, _, _⟩ hHeld ?_ (v := ?vr92_14_13) (hy := ?yr92_14_13)
  case yr92_14_13 => (intro wy hSw; obtain ⟨m0, m1, Qg, Qd, Qe⟩ := hSw; (with_reducible refine pexec_load 26 (.tmp 5) ?_ w.heap.size ?_ 26 #[.int .i64 s.n, .int .i64 s.d0.kind, .int .i64 s.d0.side, .int .i64 s.d0.step, .int .i64 s.d1.kind, .int .i64 s.d1.side, .int .i64 s.d1.step] _ Qg Try.underlying26 ?_ ?_) <;> first | rfl | exact infoSp)
  (try simp only [Act.put, nz1, nz2, nz3])
  refine tk 14 ⟨some 29, .load 33 (.tmp 6), 33, _, _, _⟩ hHeld ?_ (v := ?vr92_15_14) (hy := ?yr92_15_14)
  case yr92_15_14 => (intro wy hSw; obtain ⟨m0, m1, Qg, Qd, Qe⟩ := hSw; (with_reducible refine pexec_load 33 (.tmp 6) ?_ (w.heap.size + 1) ?_ 33 #[.int .i64 p.a0, .int .i64 p.a1, .int .i64 p.k0.kind, .int .i64 p.k0.len, .int .u64 p.k0.h, .int .u64 p.k0.l, .string ⟨p.k0.path.toArray⟩, .int .i64 p.k1.kind, .int .i64 p.k1.len, .int .u64 p.k1.h, .int .u64 p.k1.l, .string ⟨p.k1.path.toArray⟩] _ Qd Try.underlying33 ?_ ?_) <;> first | rfl | exact infoPx)
  (try simp only [Act.put, nz1, nz2, nz3])
  refine tk 15 ⟨some 30, .load 33 (.tmp 7), 33, _, _, _⟩ hHeld ?_ (v := ?vr92_16_15) (hy := ?yr92_16_15)
  case yr92_16_15 => (intro wy hSw; obtain ⟨m0, m1, Qg, Qd, Qe⟩ := hSw; (with_reducible refine pexec_load 33 (.tmp 7) ?_ (w.heap.size + 1 + 1) ?_ 33 #[.int .i64 q.a0, .int .i64 q.a1, .int .i64 q.k0.kind, .int .i64 q.k0.len, .int .u64 q.k0.h, .int .u64 q.k0.l, .string ⟨q.k0.path.toArray⟩, .int .i64 q.k1.kind, .int .i64 q.k1.len, .int .u64 q.k1.h, .int .u64 q.k1.l, .string ⟨q.k1.path.toArray⟩] _ Qe Try.underlying33 ?_ ?_) <;> first | rfl | exact infoPx)
  (try simp only [Act.put, nz1, nz2, nz3])
  refine tk 17 ⟨some 32, .load 26 (.tmp 5), 26, _, _, _⟩ hHeld ?_ (v := ?vr92_17_17) (hy := ?yr92_17_17)
  case yr92_17_17 => (intro wy hSw; obtain ⟨m0, m1, Qg, Qd, Qe⟩ := hSw; (with_reducible refine pexec_load 26 (.tmp 5) ?_ w.heap.size ?_ 26 #[.int .i64 s.n, .int .i64 s.d0.kind, .int .i64 s.d0.side, .int .i64 s.d0.step, .int .i64 s.d1.kind, .int .i64 s.d1.side, .int .i64 s.d1.step] _ Qg Try.underlying26 ?_ ?_) <;> first | rfl | exact infoSp)
  (try simp only [Act.put, nz1, nz2, nz3])
  refine tk 18 ⟨some 33, .load 33 (.tmp 6), 33, _, _, _⟩ hHeld ?_ (v := ?vr92_18_18) (hy := ?yr92_18_18)
  case yr92_18_18 => (intro wy hSw; obtain ⟨m0, m1, Qg, Qd, Qe⟩ := hSw; (with_reducible refine pexec_load 33 (.tmp 6) ?_ (w.heap.size + 1) ?_ 33 #[.int .i64 p.a0, .int .i64 p.a1, .int .i64 p.k0.kind, .int .i64 p.k0.len, .int .u64 p.k0.h, .int .u64 p.k0.l, .string ⟨p.k0.path.toArray⟩, .int .i64 p.k1.kind, .int .i64 p.k1.len, .int .u64 p.k1.h, .int .u64 p.k1.l, .string ⟨p.k1.path.toArray⟩] _ Qd Try.underlying33 ?_ ?_) <;> first | rfl | exact infoPx)
  (try simp only [Act.put, nz1, nz2, nz3])
  refine tk 19 ⟨some 34, .load 33 (.tmp 7), 33, _, _, _⟩ hHeld ?_ (v := ?vr92_19_19) (hy := ?yr92_19_19)
  case yr92_19_19 => (intro wy hSw; obtain ⟨m0, m1, Qg, Qd, Qe⟩ := hSw; (with_reducible refine pexec_load 33 (.tmp 7) ?_ (w.heap.size + 1 + 1) ?_ 33 #[.int .i64 q.a0, .int .i64 q.a1, .int .i64 q.k0.kind, .int .i64 q.k0.len, .int .u64 q.k0.h, .int .u64 q.k0.l, .string ⟨q.k0.path.toArray⟩, .int .i64 q.k1.kind, .int .i64 q.k1.len, .int .u64 q.k1.h, .int .u64 q.k1.l, .string ⟨q.k1.path.toArray⟩] _ Qe Try.underlying33 ?_ ?_) <;> first | rfl | exact infoPx)
  (try simp only [Act.put, nz1, nz2, nz3])
  refine wpAnyH_ready (rs := [16]) (by kernel_rfl) (by simp) ?_
  refine AllReadyH.cons (o := ⟨some 31, .call { callee := .value (.func 28), args := #[.tmp 28, .tmp 29, .tmp 30], argTypes := #[26, 33, 33] }, 4, _, _, _⟩) rfl (fun K hK => ?_) AllReadyH.nil
  (go_simp; (refine (H3 _).mono ?_); (rintro e wz ⟨rfl, hb⟩); (replace Rg := Rg.later hb); (replace Rd := Rd.later hb); (replace Re := Re.later hb); (replace Rm := Rm.later hb); (replace hb0 := below_step hb0 hb); go_wp2_with fail)
  refine hK.out _ _ ?hSr92_20_16 (fun hHeld2 => ?_)
  case hSr92_20_16 => (obtain ⟨m0, m1, Qg, Qd, Qe⟩ := hHeld; exact ⟨cell_later hb m0, cell_later hb m1, Qg.later hb, Qd.later hb, Qe.later hb⟩)
  clear hK K hHeld
  have hHeld := hHeld2
  clear hHeld2
  rename World => wq
  (try simp only [Act.put, nz1, nz2, nz3])
  refine wpAnyH_ready (rs := [20]) (by kernel_rfl) (by simp) ?_
  refine AllReadyH.cons (o := ⟨some 35, .call { callee := .value (.func 29), args := #[.tmp 32, .tmp 33, .tmp 34], argTypes := #[26, 33, 33] }, 4, _, _, _⟩) rfl (fun K hK => ?_) AllReadyH.nil
  (go_simp; (refine (H4 _).mono ?_); (rintro e wz ⟨rfl, hb⟩); (replace Rg := Rg.later hb); (replace Rd := Rd.later hb); (replace Re := Re.later hb); (replace Rm := Rm.later hb); (replace hb0 := below_step hb0 hb); go_wp2_with fail)
  refine hK.out _ _ ?hSr92_21_20 (fun hHeld2 => ?_)
  case hSr92_21_20 => (obtain ⟨m0, m1, Qg, Qd, Qe⟩ := hHeld; exact ⟨cell_later hb m0, cell_later hb m1, Qg.later hb, Qd.later hb, Qe.later hb⟩)
  clear hK K hHeld
  have hHeld := hHeld2
  clear hHeld2
  rename World => wq
  (try simp only [Act.put, nz1, nz2, nz3])
  refine tk 21 ⟨some 36, .binOp .eql 4 (.tmp 31) (.tmp 35) 4, 4, _, _, _⟩ hHeld ?_
  (try simp only [Act.put, nz1, nz2, nz3])
  refine tk 22 ⟨some 37, .pick (.tmp 27) (.tmp 36) (.const (.bool false)), 4, _, _, _⟩ hHeld ?_
  (try simp only [Act.put, nz1, nz2, nz3])
  refine tk 23 ⟨some 10, .assign (.tmp 37), 4, _, _, _⟩ hHeld ?_
  (try simp only [Act.put, nz1, nz2, nz3])
  refine wpAnyH_done (by kernel_rfl) ?_ _
  clear hHeld
  rename World => w2
  have lg := Rg.lt
  have ld := Rd.lt
  have le := Re.lt
  have lm := Rm.lt
  (try clear g0 g1 g2 g3 g4 g5 g6); obtain ⟨g0, g1, g2, g3, g4, g5, g6⟩ := row7 Rg
  (try clear d0 d1 d2 d3 d4 d5 d6 d7 d8 d9 d10 d11); obtain ⟨d0, d1, d2, d3, d4, d5, d6, d7, d8, d9, d10, d11⟩ := row12 Rd
  (try clear e0 e1 e2 e3 e4 e5 e6 e7 e8 e9 e10 e11); obtain ⟨e0, e1, e2, e3, e4, e5, e6, e7, e8, e9, e10, e11⟩ := row12 Re
  (try clear m0 m1); obtain ⟨m0, m1⟩ := row2 Rm
  go_wp2
  go_ret
  exact ⟨rfl, hb0⟩
theorem ups9_any (s : Sp) (p q : Px) (i j : Int) (op : p.ok) (oq : q.ok) (i0 : -9223372036854775808 ≤ i) (i1 : i ≤ 9223372036854775807) (j0 : -9223372036854775808 ≤ j) (j1 : j ≤ 9223372036854775807) (w : World) : Calls Try.prog 4 #[sv s, pv p, pv q, .int .i64 i, .int .i64 j] w fun e w' => e = .returned (.bool true) ∧ Below w.heap.size w w' := by
  have H1 := up9_t s p op i j
  have H2 := rup_t s p op i j i0 i1 j0 j1
  have H3 := over9_t s p q op oq
  have H4 := rover9_t s p q op oq
  cases h : overP s p q with
  | false => rw [h] at H3 H4; exact ups9_false s p q _ i j H1 H2 H3 H4 w
  | true => rw [h] at H3 H4; exact ups9_true s p q _ i j H1 H2 H3 H4 w
end Go.Proofs.Ytbekocknfpekoaa
