/- LawPrefixCrosses: what the theorem needs of these texts. No conditions beyond those that are written. -/
import Derived.Test.YtbekocknfpekoaaCR9f
namespace Go.Proofs.Ytbekocknfpekoaa
set_option linter.unusedVariables false
set_option maxHeartbeats 32000000
set_option linter.unusedSimpArgs false
open Go.RowKit
set_option maxRecDepth 100000 in
theorem crosses9_false (s : Sp) (p q x : Px) (m : Int)
    (H1 : ∀ w, Calls Try.prog 30 #[sv s, pv p, pv q] w fun e w' => e = .returned (.tuple #[pv x, .bool false]) ∧ Below w.heap.size w w')
    (H2 : ∀ w, Calls Try.prog 31 #[sv s, pv p, pv q] w fun e w' => e = .returned (.tuple #[pv x, .bool false]) ∧ Below w.heap.size w w')
    (H3 : ∀ w, Calls Try.prog 32 #[pv p, pv q] w fun e w' => e = .returned (.int .i64 m) ∧ Below w.heap.size w w')
    (H4 : ∀ w, Calls Try.prog 33 #[pv p, pv q] w fun e w' => e = .returned (.int .i64 m) ∧ Below w.heap.size w w') (w : World) :
    Calls Try.prog 5 #[sv s, pv p, pv q] w fun e w' => e = .returned (.bool true) ∧ Below w.heap.size w w' := by
  have HA := alive9_t
  have qe := eql_px x x
  rw [decide_eq_true rfl] at qe
  unfold sv pv at *
  obtain ⟨Rg, Rd, Re, hb0⟩ := three_rows w #[.int .i64 s.n, .int .i64 s.d0.kind, .int .i64 s.d0.side, .int .i64 s.d0.step, .int .i64 s.d1.kind, .int .i64 s.d1.side, .int .i64 s.d1.step] #[.int .i64 p.a0, .int .i64 p.a1, .int .i64 p.k0.kind, .int .i64 p.k0.len, .int .u64 p.k0.h, .int .u64 p.k0.l, .string ⟨p.k0.path.toArray⟩, .int .i64 p.k1.kind, .int .i64 p.k1.len, .int .u64 p.k1.h, .int .u64 p.k1.l, .string ⟨p.k1.path.toArray⟩] #[.int .i64 q.a0, .int .i64 q.a1, .int .i64 q.k0.kind, .int .i64 q.k0.len, .int .u64 q.k0.h, .int .u64 q.k0.l, .string ⟨q.k0.path.toArray⟩, .int .i64 q.k1.kind, .int .i64 q.k1.len, .int .u64 q.k1.h, .int .u64 q.k1.l, .string ⟨q.k1.path.toArray⟩] 26 33 33
  (try clear g0 g1 g2 g3 g4 g5 g6); obtain ⟨g0, g1, g2, g3, g4, g5, g6⟩ := row7 Rg
  (try clear d0 d1 d2 d3 d4 d5 d6 d7 d8 d9 d10 d11); obtain ⟨d0, d1, d2, d3, d4, d5, d6, d7, d8, d9, d10, d11⟩ := row12 Rd
  (try clear e0 e1 e2 e3 e4 e5 e6 e7 e8 e9 e10 e11); obtain ⟨e0, e1, e2, e3, e4, e5, e6, e7, e8, e9, e10, e11⟩ := row12 Re
  go_enter Try.func5, Try.ntmps5
  go_wp2_with fail
  refine (H1 _).mono ?_
  rintro e w1 ⟨rfl, hb⟩
  replace Rg := Rg.later hb
  replace Rd := Rd.later hb
  replace Re := Re.later hb
  replace hb0 := below_step hb0 hb
  clear hb
  have lg := Rg.lt
  have ld := Rd.lt
  have le := Re.lt
  (try clear g0 g1 g2 g3 g4 g5 g6); obtain ⟨g0, g1, g2, g3, g4, g5, g6⟩ := row7 Rg
  (try clear d0 d1 d2 d3 d4 d5 d6 d7 d8 d9 d10 d11); obtain ⟨d0, d1, d2, d3, d4, d5, d6, d7, d8, d9, d10, d11⟩ := row12 Rd
  (try clear e0 e1 e2 e3 e4 e5 e6 e7 e8 e9 e10 e11); obtain ⟨e0, e1, e2, e3, e4, e5, e6, e7, e8, e9, e10, e11⟩ := row12 Re
  go_wp2_with fail
  refine (H2 _).mono ?_
  rintro e w2 ⟨rfl, hb⟩
  have nyg := Rg.lt
  have nyd := Rd.lt
  have nye := Re.lt
  replace Rg := (Rg.alloc _).later hb
  replace Rd := (Rd.alloc _).later hb
  replace Re := (Re.alloc _).later hb
  have Ry := Row.later (Row.new _ _ _) hb
  have my := hb0.size
  replace hb0 := below_step (hb0.alloc hb0.size _) hb
  clear hb
  generalize w1.heap.size = gy at *
  have lg := Rg.lt
  have ld := Rd.lt
  have le := Re.lt
  have ly := Ry.lt
  (try clear g0 g1 g2 g3 g4 g5 g6); obtain ⟨g0, g1, g2, g3, g4, g5, g6⟩ := row7 Rg
  (try clear d0 d1 d2 d3 d4 d5 d6 d7 d8 d9 d10 d11); obtain ⟨d0, d1, d2, d3, d4, d5, d6, d7, d8, d9, d10, d11⟩ := row12 Rd
  (try clear e0 e1 e2 e3 e4 e5 e6 e7 e8 e9 e10 e11); obtain ⟨e0, e1, e2, e3, e4, e5, e6, e7, e8, e9, e10, e11⟩ := row12 Re
  (try clear y0 y1 y2 y3 y4 y5 y6 y7 y8 y9 y10 y11); obtain ⟨y0, y1, y2, y3, y4, y5, y6, y7, y8, y9, y10, y11⟩ := row12 Ry
  go_wp2_with fail
  replace Rg := Rg.alloc (.cells #[Value.int .i64 x.a0, Value.int .i64 x.a1, Value.int .i64 x.k0.kind, Value.int .i64 x.k0.len, Value.int .u64 x.k0.h, Value.int .u64 x.k0.l, Value.string ⟨x.k0.path.toArray⟩, Value.int .i64 x.k1.kind, Value.int .i64 x.k1.len, Value.int .u64 x.k1.h, Value.int .u64 x.k1.l, Value.string ⟨x.k1.path.toArray⟩] 33)
  replace Rd := Rd.alloc (.cells #[Value.int .i64 x.a0, Value.int .i64 x.a1, Value.int .i64 x.k0.kind, Value.int .i64 x.k0.len, Value.int .u64 x.k0.h, Value.int .u64 x.k0.l, Value.string ⟨x.k0.path.toArray⟩, Value.int .i64 x.k1.kind, Value.int .i64 x.k1.len, Value.int .u64 x.k1.h, Value.int .u64 x.k1.l, Value.string ⟨x.k1.path.toArray⟩] 33)
  replace Re := Re.alloc (.cells #[Value.int .i64 x.a0, Value.int .i64 x.a1, Value.int .i64 x.k0.kind, Value.int .i64 x.k0.len, Value.int .u64 x.k0.h, Value.int .u64 x.k0.l, Value.string ⟨x.k0.path.toArray⟩, Value.int .i64 x.k1.kind, Value.int .i64 x.k1.len, Value.int .u64 x.k1.h, Value.int .u64 x.k1.l, Value.string ⟨x.k1.path.toArray⟩] 33)
  replace Ry := Ry.alloc (.cells #[Value.int .i64 x.a0, Value.int .i64 x.a1, Value.int .i64 x.k0.kind, Value.int .i64 x.k0.len, Value.int .u64 x.k0.h, Value.int .u64 x.k0.l, Value.string ⟨x.k0.path.toArray⟩, Value.int .i64 x.k1.kind, Value.int .i64 x.k1.len, Value.int .u64 x.k1.h, Value.int .u64 x.k1.l, Value.string ⟨x.k1.path.toArray⟩] 33)
  have Rz := Row.new w2 #[Value.int .i64 x.a0, Value.int .i64 x.a1, Value.int .i64 x.k0.kind, Value.int .i64 x.k0.len, Value.int .u64 x.k0.h, Value.int .u64 x.k0.l, Value.string ⟨x.k0.path.toArray⟩, Value.int .i64 x.k1.kind, Value.int .i64 x.k1.len, Value.int .u64 x.k1.h, Value.int .u64 x.k1.l, Value.string ⟨x.k1.path.toArray⟩] 33
  have mz := hb0.size
  replace hb0 := hb0.alloc hb0.size (.cells #[Value.int .i64 x.a0, Value.int .i64 x.a1, Value.int .i64 x.k0.kind, Value.int .i64 x.k0.len, Value.int .u64 x.k0.h, Value.int .u64 x.k0.l, Value.string ⟨x.k0.path.toArray⟩, Value.int .i64 x.k1.kind, Value.int .i64 x.k1.len, Value.int .u64 x.k1.h, Value.int .u64 x.k1.l, Value.string ⟨x.k1.path.toArray⟩] 33)
  (try clear g0 g1 g2 g3 g4 g5 g6); obtain ⟨g0, g1, g2, g3, g4, g5, g6⟩ := row7 Rg
  (try clear d0 d1 d2 d3 d4 d5 d6 d7 d8 d9 d10 d11); obtain ⟨d0, d1, d2, d3, d4, d5, d6, d7, d8, d9, d10, d11⟩ := row12 Rd
  (try clear e0 e1 e2 e3 e4 e5 e6 e7 e8 e9 e10 e11); obtain ⟨e0, e1, e2, e3, e4, e5, e6, e7, e8, e9, e10, e11⟩ := row12 Re
  (try clear y0 y1 y2 y3 y4 y5 y6 y7 y8 y9 y10 y11); obtain ⟨y0, y1, y2, y3, y4, y5, y6, y7, y8, y9, y10, y11⟩ := row12 Ry
  (try clear z0 z1 z2 z3 z4 z5 z6 z7 z8 z9 z10 z11); obtain ⟨z0, z1, z2, z3, z4, z5, z6, z7, z8, z9, z10, z11⟩ := row12 Rz
  generalize (World.alloc w2 (.cells #[Value.int .i64 x.a0, Value.int .i64 x.a1, Value.int .i64 x.k0.kind, Value.int .i64 x.k0.len, Value.int .u64 x.k0.h, Value.int .u64 x.k0.l, Value.string ⟨x.k0.path.toArray⟩, Value.int .i64 x.k1.kind, Value.int .i64 x.k1.len, Value.int .u64 x.k1.h, Value.int .u64 x.k1.l, Value.string ⟨x.k1.path.toArray⟩] 33)) = w3 at *
  refine wp_region_held_drew (S := (fun w' => Row w' (w.heap.size + 1) #[.int .i64 p.a0, .int .i64 p.a1, .int .i64 p.k0.kind, .int .i64 p.k0.len, .int .u64 p.k0.h, .int .u64 p.k0.l, .string ⟨p.k0.path.toArray⟩, .int .i64 p.k1.kind, .int .i64 p.k1.len, .int .u64 p.k1.h, .int .u64 p.k1.l, .string ⟨p.k1.path.toArray⟩] 33 ∧ Row w' (w.heap.size + 1 + 1) #[.int .i64 q.a0, .int .i64 q.a1, .int .i64 q.k0.kind, .int .i64 q.k0.len, .int .u64 q.k0.h, .int .u64 q.k0.l, .string ⟨q.k0.path.toArray⟩, .int .i64 q.k1.kind, .int .i64 q.k1.len, .int .u64 q.k1.h, .int .u64 q.k1.l, .string ⟨q.k1.path.toArray⟩] 33 ∧ Row w' gy #[.int .i64 x.a0, .int .i64 x.a1, .int .i64 x.k0.kind, .int .i64 x.k0.len, .int .u64 x.k0.h, .int .u64 x.k0.l, .string ⟨x.k0.path.toArray⟩, .int .i64 x.k1.kind, .int .i64 x.k1.len, .int .u64 x.k1.h, .int .u64 x.k1.l, .string ⟨x.k1.path.toArray⟩] 33 ∧ Row w' w2.heap.size #[.int .i64 x.a0, .int .i64 x.a1, .int .i64 x.k0.kind, .int .i64 x.k0.len, .int .u64 x.k0.h, .int .u64 x.k0.l, .string ⟨x.k0.path.toArray⟩, .int .i64 x.k1.kind, .int .i64 x.k1.len, .int .u64 x.k1.h, .int .u64 x.k1.l, .string ⟨x.k1.path.toArray⟩] 33)) (by kernel_rfl) ?hSr85_ (fun hHeld => ?_)
  case hSr85_ => (exact ⟨Rd.drew, Re.drew, Ry.drew, Rz.drew⟩)
  (clear g0 g1 g2 g3 g4 g5 g6 d0 d1 d2 d3 d4 d5 d6 d7 d8 d9 d10 d11 e0 e1 e2 e3 e4 e5 e6 e7 e8 e9 e10 e11 y0 y1 y2 y3 y4 y5 y6 y7 y8 y9 y10 y11 z0 z1 z2 z3 z4 z5 z6 z7 z8 z9 z10 z11; (replace Rg := Rg.drew); (replace Rd := Rd.drew); (replace Re := Re.drew); (replace Ry := Ry.drew); (replace Rz := Rz.drew); (replace hb0 := hb0.drew); (generalize World.drew w3 = wq at *))
  refine wpAnyH_ready (rs := [0]) (by kernel_rfl) (by simp) ?_
  refine AllReadyH.cons (o := ⟨some 25, .call { callee := .value (.func 24), args := #[], argTypes := #[] }, 4, _, _, _⟩) rfl (fun K hK => ?_) AllReadyH.nil
  (go_simp; (refine (HA _).mono ?_); (rintro e wz ⟨rfl, hb⟩); (replace Rg := Rg.later hb); (replace Rd := Rd.later hb); (replace Re := Re.later hb); (replace Ry := Ry.later hb); (replace Rz := Rz.later hb); (replace hb0 := below_step hb0 hb); go_wp2_with fail)
  refine hK.out _ _ ?hSr85_1_0 (fun hHeld2 => ?_)
  case hSr85_1_0 => (obtain ⟨Qd, Qe, Qy, Qz⟩ := hHeld; exact ⟨Qd.later hb, Qe.later hb, Qy.later hb, Qz.later hb⟩)
  clear hK K hHeld
  have hHeld := hHeld2
  clear hHeld2
  rename World => wq
  (try simp only [Act.put, nz1, nz2, nz3])
  refine tk 1 ⟨some 26, .move (.tmp 25), 4, _, _, _⟩ hHeld ?_
  (try simp only [Act.put, nz1, nz2, nz3])
  refine tk 2 ⟨some 27, .load 33 (.tmp 7), 33, _, _, _⟩ hHeld ?_ (v := ?vr85_3_2) (hy := ?yr85_3_2)
  case yr85_3_2 => (intro wy hSw; obtain ⟨Qd, Qe, Qy, Qz⟩ := hSw; (with_reducible refine pexec_load 33 (.tmp 7) ?_ gy ?_ 33 #[.int .i64 x.a0, .int .i64 x.a1, .int .i64 x.k0.kind, .int .i64 x.k0.len, .int .u64 x.k0.h, .int .u64 x.k0.l, .string ⟨x.k0.path.toArray⟩, .int .i64 x.k1.kind, .int .i64 x.k1.len, .int .u64 x.k1.h, .int .u64 x.k1.l, .string ⟨x.k1.path.toArray⟩] _ Qy Try.underlying33 ?_ ?_) <;> first | rfl | exact infoPx)
  (try simp only [Act.put, nz1, nz2, nz3])
  refine tk 3 ⟨some 28, .load 33 (.tmp 9), 33, _, _, _⟩ hHeld ?_ (v := ?vr85_4_3) (hy := ?yr85_4_3)
  case yr85_4_3 => (intro wy hSw; obtain ⟨Qd, Qe, Qy, Qz⟩ := hSw; (with_reducible refine pexec_load 33 (.tmp 9) ?_ w2.heap.size ?_ 33 #[.int .i64 x.a0, .int .i64 x.a1, .int .i64 x.k0.kind, .int .i64 x.k0.len, .int .u64 x.k0.h, .int .u64 x.k0.l, .string ⟨x.k0.path.toArray⟩, .int .i64 x.k1.kind, .int .i64 x.k1.len, .int .u64 x.k1.h, .int .u64 x.k1.l, .string ⟨x.k1.path.toArray⟩] _ Qz Try.underlying33 ?_ ?_) <;> first | rfl | exact infoPx)
  (try simp only [Act.put, nz1, nz2, nz3])
  refine tk 4 ⟨some 29, .binOp .eql 33 (.tmp 27) (.tmp 28) 33, 4, _, _, _⟩ hHeld ?_
  (try simp only [Act.put, nz1, nz2, nz3])
  refine tk 5 ⟨some 30, .pick (.tmp 26) (.tmp 29) (.const (.bool false)), 4, _, _, _⟩ hHeld ?_
  (try simp only [Act.put, nz1, nz2, nz3])
  refine tk 6 ⟨some 31, .move (.tmp 30), 4, _, _, _⟩ hHeld ?_
  (try simp only [Act.put, nz1, nz2, nz3])
  refine tk 7 ⟨some 32, .move (.tmp 8), 4, _, _, _⟩ hHeld ?_
  (try simp only [Act.put, nz1, nz2, nz3])
  refine tk 8 ⟨some 33, .move (.tmp 10), 4, _, _, _⟩ hHeld ?_
  (try simp only [Act.put, nz1, nz2, nz3])
  refine tk 9 ⟨some 34, .binOp .eql 4 (.tmp 32) (.tmp 33) 4, 4, _, _, _⟩ hHeld ?_
  (try simp only [Act.put, nz1, nz2, nz3])
  refine tk 10 ⟨some 35, .pick (.tmp 31) (.tmp 34) (.const (.bool false)), 4, _, _, _⟩ hHeld ?_
  (try simp only [Act.put, nz1, nz2, nz3])
  refine tk 11 ⟨some 36, .move (.tmp 35), 4, _, _, _⟩ hHeld ?_
  (try simp only [Act.put, nz1, nz2, nz3])
  refine tk 12 ⟨some 37, .load 33 (.tmp 4), 33, _, _, _⟩ hHeld ?_ (v := ?vr85_13_12) (hy := ?yr85_13_12)
  case yr85_13_12 => (intro wy hSw; obtain ⟨Qd, Qe, Qy, Qz⟩ := hSw; (with_reducible refine pexec_load 33 (.tmp 4) ?_ (w.heap.size + 1) ?_ 33 #[.int .i64 p.a0, .int .i64 p.a1, .int .i64 p.k0.kind, .int .i64 p.k0.len, .int .u64 p.k0.h, .int .u64 p.k0.l, .string ⟨p.k0.path.toArray⟩, .int .i64 p.k1.kind, .int .i64 p.k1.len, .int .u64 p.k1.h, .int .u64 p.k1.l, .string ⟨p.k1.path.toArray⟩] _ Qd Try.underlying33 ?_ ?_) <;> first | rfl | exact infoPx)
  (try simp only [Act.put, nz1, nz2, nz3])
  refine tk 13 ⟨some 38, .load 33 (.tmp 5), 33, _, _, _⟩ hHeld ?_ (v := ?vr85_14_13) (hy := ?yr85_14_13)
  case yr85_14_13 => (intro wy hSw; obtain ⟨Qd, Qe, Qy, Qz⟩ := hSw; (with_reducible refine pexec_load 33 (.tmp 5) ?_ (w.heap.size + 1 + 1) ?_ 33 #[.int .i64 q.a0, .int .i64 q.a1, .int .i64 q.k0.kind, .int .i64 q.k0.len, .int .u64 q.k0.h, .int .u64 q.k0.l, .string ⟨q.k0.path.toArray⟩, .int .i64 q.k1.kind, .int .i64 q.k1.len, .int .u64 q.k1.h, .int .u64 q.k1.l, .string ⟨q.k1.path.toArray⟩] _ Qe Try.underlying33 ?_ ?_) <;> first | rfl | exact infoPx)
  (try simp only [Act.put, nz1, nz2, nz3])
  refine tk 15 ⟨some 40, .load 33 (.tmp 4), 33, _, _, _⟩ hHeld ?_ (v := ?vr85_15_15) (hy := ?yr85_15_15)
  case yr85_15_15 => (intro wy hSw; obtain ⟨Qd, Qe, Qy, Qz⟩ := hSw; (with_reducible refine pexec_load 33 (.tmp 4) ?_ (w.heap.size + 1) ?_ 33 #[.int .i64 p.a0, .int .i64 p.a1, .int .i64 p.k0.kind, .int .i64 p.k0.len, .int .u64 p.k0.h, .int .u64 p.k0.l, .string ⟨p.k0.path.toArray⟩, .int .i64 p.k1.kind, .int .i64 p.k1.len, .int .u64 p.k1.h, .int .u64 p.k1.l, .string ⟨p.k1.path.toArray⟩] _ Qd Try.underlying33 ?_ ?_) <;> first | rfl | exact infoPx)
  (try simp only [Act.put, nz1, nz2, nz3])
  refine tk 16 ⟨some 41, .load 33 (.tmp 5), 33, _, _, _⟩ hHeld ?_ (v := ?vr85_16_16) (hy := ?yr85_16_16)
  case yr85_16_16 => (intro wy hSw; obtain ⟨Qd, Qe, Qy, Qz⟩ := hSw; (with_reducible refine pexec_load 33 (.tmp 5) ?_ (w.heap.size + 1 + 1) ?_ 33 #[.int .i64 q.a0, .int .i64 q.a1, .int .i64 q.k0.kind, .int .i64 q.k0.len, .int .u64 q.k0.h, .int .u64 q.k0.l, .string ⟨q.k0.path.toArray⟩, .int .i64 q.k1.kind, .int .i64 q.k1.len, .int .u64 q.k1.h, .int .u64 q.k1.l, .string ⟨q.k1.path.toArray⟩] _ Qe Try.underlying33 ?_ ?_) <;> first | rfl | exact infoPx)
  (try simp only [Act.put, nz1, nz2, nz3])
  refine wpAnyH_ready (rs := [14]) (by kernel_rfl) (by simp) ?_
  refine AllReadyH.cons (o := ⟨some 39, .call { callee := .value (.func 32), args := #[.tmp 37, .tmp 38], argTypes := #[33, 33] }, 3, _, _, _⟩) rfl (fun K hK => ?_) AllReadyH.nil
  (go_simp; (refine (H3 _).mono ?_); (rintro e wz ⟨rfl, hb⟩); (replace Rg := Rg.later hb); (replace Rd := Rd.later hb); (replace Re := Re.later hb); (replace Ry := Ry.later hb); (replace Rz := Rz.later hb); (replace hb0 := below_step hb0 hb); go_wp2_with fail)
  refine hK.out _ _ ?hSr85_17_14 (fun hHeld2 => ?_)
  case hSr85_17_14 => (obtain ⟨Qd, Qe, Qy, Qz⟩ := hHeld; exact ⟨Qd.later hb, Qe.later hb, Qy.later hb, Qz.later hb⟩)
  clear hK K hHeld
  have hHeld := hHeld2
  clear hHeld2
  rename World => wq
  (try simp only [Act.put, nz1, nz2, nz3])
  refine wpAnyH_ready (rs := [17]) (by kernel_rfl) (by simp) ?_
  refine AllReadyH.cons (o := ⟨some 42, .call { callee := .value (.func 33), args := #[.tmp 40, .tmp 41], argTypes := #[33, 33] }, 3, _, _, _⟩) rfl (fun K hK => ?_) AllReadyH.nil
  (go_simp; (refine (H4 _).mono ?_); (rintro e wz ⟨rfl, hb⟩); (replace Rg := Rg.later hb); (replace Rd := Rd.later hb); (replace Re := Re.later hb); (replace Ry := Ry.later hb); (replace Rz := Rz.later hb); (replace hb0 := below_step hb0 hb); go_wp2_with fail)
  refine hK.out _ _ ?hSr85_18_17 (fun hHeld2 => ?_)
  case hSr85_18_17 => (obtain ⟨Qd, Qe, Qy, Qz⟩ := hHeld; exact ⟨Qd.later hb, Qe.later hb, Qy.later hb, Qz.later hb⟩)
  clear hK K hHeld
  have hHeld := hHeld2
  clear hHeld2
  rename World => wq
  (try simp only [Act.put, nz1, nz2, nz3])
  refine tk 18 ⟨some 43, .binOp .eql 3 (.tmp 39) (.tmp 42) 3, 4, _, _, _⟩ hHeld ?_
  (try simp only [Act.put, nz1, nz2, nz3])
  refine tk 19 ⟨some 44, .pick (.tmp 36) (.tmp 43) (.const (.bool false)), 4, _, _, _⟩ hHeld ?_
  (try simp only [Act.put, nz1, nz2, nz3])
  refine tk 20 ⟨some 6, .assign (.tmp 44), 4, _, _, _⟩ hHeld ?_
  (try simp only [Act.put, nz1, nz2, nz3])
  refine wpAnyH_done (by kernel_rfl) ?_ _
  clear hHeld
  rename World => w4
  have lg := Rg.lt
  have ld := Rd.lt
  have le := Re.lt
  have ly := Ry.lt
  have lz := Rz.lt
  (try clear g0 g1 g2 g3 g4 g5 g6); obtain ⟨g0, g1, g2, g3, g4, g5, g6⟩ := row7 Rg
  (try clear d0 d1 d2 d3 d4 d5 d6 d7 d8 d9 d10 d11); obtain ⟨d0, d1, d2, d3, d4, d5, d6, d7, d8, d9, d10, d11⟩ := row12 Rd
  (try clear e0 e1 e2 e3 e4 e5 e6 e7 e8 e9 e10 e11); obtain ⟨e0, e1, e2, e3, e4, e5, e6, e7, e8, e9, e10, e11⟩ := row12 Re
  (try clear y0 y1 y2 y3 y4 y5 y6 y7 y8 y9 y10 y11); obtain ⟨y0, y1, y2, y3, y4, y5, y6, y7, y8, y9, y10, y11⟩ := row12 Ry
  (try clear z0 z1 z2 z3 z4 z5 z6 z7 z8 z9 z10 z11); obtain ⟨z0, z1, z2, z3, z4, z5, z6, z7, z8, z9, z10, z11⟩ := row12 Rz
  go_wp2
  go_ret
  exact ⟨rfl, hb0⟩
set_option maxRecDepth 100000 in
theorem crosses9_true (s : Sp) (p q x : Px) (m : Int)
    (H1 : ∀ w, Calls Try.prog 30 #[sv s, pv p, pv q] w fun e w' => e = .returned (.tuple #[pv x, .bool true]) ∧ Below w.heap.size w w')
    (H2 : ∀ w, Calls Try.prog 31 #[sv s, pv p, pv q] w fun e w' => e = .returned (.tuple #[pv x, .bool true]) ∧ Below w.heap.size w w')
    (H3 : ∀ w, Calls Try.prog 32 #[pv p, pv q] w fun e w' => e = .returned (.int .i64 m) ∧ Below w.heap.size w w')
    (H4 : ∀ w, Calls Try.prog 33 #[pv p, pv q] w fun e w' => e = .returned (.int .i64 m) ∧ Below w.heap.size w w') (w : World) :
    Calls Try.prog 5 #[sv s, pv p, pv q] w fun e w' => e = .returned (.bool true) ∧ Below w.heap.size w w' := by
  have HA := alive9_t
  have qe := eql_px x x
  rw [decide_eq_true rfl] at qe
  unfold sv pv at *
  obtain ⟨Rg, Rd, Re, hb0⟩ := three_rows w #[.int .i64 s.n, .int .i64 s.d0.kind, .int .i64 s.d0.side, .int .i64 s.d0.step, .int .i64 s.d1.kind, .int .i64 s.d1.side, .int .i64 s.d1.step] #[.int .i64 p.a0, .int .i64 p.a1, .int .i64 p.k0.kind, .int .i64 p.k0.len, .int .u64 p.k0.h, .int .u64 p.k0.l, .string ⟨p.k0.path.toArray⟩, .int .i64 p.k1.kind, .int .i64 p.k1.len, .int .u64 p.k1.h, .int .u64 p.k1.l, .string ⟨p.k1.path.toArray⟩] #[.int .i64 q.a0, .int .i64 q.a1, .int .i64 q.k0.kind, .int .i64 q.k0.len, .int .u64 q.k0.h, .int .u64 q.k0.l, .string ⟨q.k0.path.toArray⟩, .int .i64 q.k1.kind, .int .i64 q.k1.len, .int .u64 q.k1.h, .int .u64 q.k1.l, .string ⟨q.k1.path.toArray⟩] 26 33 33
  (try clear g0 g1 g2 g3 g4 g5 g6); obtain ⟨g0, g1, g2, g3, g4, g5, g6⟩ := row7 Rg
  (try clear d0 d1 d2 d3 d4 d5 d6 d7 d8 d9 d10 d11); obtain ⟨d0, d1, d2, d3, d4, d5, d6, d7, d8, d9, d10, d11⟩ := row12 Rd
  (try clear e0 e1 e2 e3 e4 e5 e6 e7 e8 e9 e10 e11); obtain ⟨e0, e1, e2, e3, e4, e5, e6, e7, e8, e9, e10, e11⟩ := row12 Re
  go_enter Try.func5, Try.ntmps5
  go_wp2_with fail
  refine (H1 _).mono ?_
  rintro e w1 ⟨rfl, hb⟩
  replace Rg := Rg.later hb
  replace Rd := Rd.later hb
  replace Re := Re.later hb
  replace hb0 := below_step hb0 hb
  clear hb
  have lg := Rg.lt
  have ld := Rd.lt
  have le := Re.lt
  (try clear g0 g1 g2 g3 g4 g5 g6); obtain ⟨g0, g1, g2, g3, g4, g5, g6⟩ := row7 Rg
  (try clear d0 d1 d2 d3 d4 d5 d6 d7 d8 d9 d10 d11); obtain ⟨d0, d1, d2, d3, d4, d5, d6, d7, d8, d9, d10, d11⟩ := row12 Rd
  (try clear e0 e1 e2 e3 e4 e5 e6 e7 e8 e9 e10 e11); obtain ⟨e0, e1, e2, e3, e4, e5, e6, e7, e8, e9, e10, e11⟩ := row12 Re
  go_wp2_with fail
  refine (H2 _).mono ?_
  rintro e w2 ⟨rfl, hb⟩
  have nyg := Rg.lt
  have nyd := Rd.lt
  have nye := Re.lt
  replace Rg := (Rg.alloc _).later hb
  replace Rd := (Rd.alloc _).later hb
  replace Re := (Re.alloc _).later hb
  have Ry := Row.later (Row.new _ _ _) hb
  have my := hb0.size
  replace hb0 := below_step (hb0.alloc hb0.size _) hb
  clear hb
  generalize w1.heap.size = gy at *
  have lg := Rg.lt
  have ld := Rd.lt
  have le := Re.lt
  have ly := Ry.lt
  (try clear g0 g1 g2 g3 g4 g5 g6); obtain ⟨g0, g1, g2, g3, g4, g5, g6⟩ := row7 Rg
  (try clear d0 d1 d2 d3 d4 d5 d6 d7 d8 d9 d10 d11); obtain ⟨d0, d1, d2, d3, d4, d5, d6, d7, d8, d9, d10, d11⟩ := row12 Rd
  (try clear e0 e1 e2 e3 e4 e5 e6 e7 e8 e9 e10 e11); obtain ⟨e0, e1, e2, e3, e4, e5, e6, e7, e8, e9, e10, e11⟩ := row12 Re
  (try clear y0 y1 y2 y3 y4 y5 y6 y7 y8 y9 y10 y11); obtain ⟨y0, y1, y2, y3, y4, y5, y6, y7, y8, y9, y10, y11⟩ := row12 Ry
  go_wp2_with fail
  replace Rg := Rg.alloc (.cells #[Value.int .i64 x.a0, Value.int .i64 x.a1, Value.int .i64 x.k0.kind, Value.int .i64 x.k0.len, Value.int .u64 x.k0.h, Value.int .u64 x.k0.l, Value.string ⟨x.k0.path.toArray⟩, Value.int .i64 x.k1.kind, Value.int .i64 x.k1.len, Value.int .u64 x.k1.h, Value.int .u64 x.k1.l, Value.string ⟨x.k1.path.toArray⟩] 33)
  replace Rd := Rd.alloc (.cells #[Value.int .i64 x.a0, Value.int .i64 x.a1, Value.int .i64 x.k0.kind, Value.int .i64 x.k0.len, Value.int .u64 x.k0.h, Value.int .u64 x.k0.l, Value.string ⟨x.k0.path.toArray⟩, Value.int .i64 x.k1.kind, Value.int .i64 x.k1.len, Value.int .u64 x.k1.h, Value.int .u64 x.k1.l, Value.string ⟨x.k1.path.toArray⟩] 33)
  replace Re := Re.alloc (.cells #[Value.int .i64 x.a0, Value.int .i64 x.a1, Value.int .i64 x.k0.kind, Value.int .i64 x.k0.len, Value.int .u64 x.k0.h, Value.int .u64 x.k0.l, Value.string ⟨x.k0.path.toArray⟩, Value.int .i64 x.k1.kind, Value.int .i64 x.k1.len, Value.int .u64 x.k1.h, Value.int .u64 x.k1.l, Value.string ⟨x.k1.path.toArray⟩] 33)
  replace Ry := Ry.alloc (.cells #[Value.int .i64 x.a0, Value.int .i64 x.a1, Value.int .i64 x.k0.kind, Value.int .i64 x.k0.len, Value.int .u64 x.k0.h, Value.int .u64 x.k0.l, Value.string ⟨x.k0.path.toArray⟩, Value.int .i64 x.k1.kind, Value.int .i64 x.k1.len, Value.int .u64 x.k1.h, Value.int .u64 x.k1.l, Value.string ⟨x.k1.path.toArray⟩] 33)
  have Rz := Row.new w2 #[Value.int .i64 x.a0, Value.int .i64 x.a1, Value.int .i64 x.k0.kind, Value.int .i64 x.k0.len, Value.int .u64 x.k0.h, Value.int .u64 x.k0.l, Value.string ⟨x.k0.path.toArray⟩, Value.int .i64 x.k1.kind, Value.int .i64 x.k1.len, Value.int .u64 x.k1.h, Value.int .u64 x.k1.l, Value.string ⟨x.k1.path.toArray⟩] 33
  have mz := hb0.size
  replace hb0 := hb0.alloc hb0.size (.cells #[Value.int .i64 x.a0, Value.int .i64 x.a1, Value.int .i64 x.k0.kind, Value.int .i64 x.k0.len, Value.int .u64 x.k0.h, Value.int .u64 x.k0.l, Value.string ⟨x.k0.path.toArray⟩, Value.int .i64 x.k1.kind, Value.int .i64 x.k1.len, Value.int .u64 x.k1.h, Value.int .u64 x.k1.l, Value.string ⟨x.k1.path.toArray⟩] 33)
  (try clear g0 g1 g2 g3 g4 g5 g6); obtain ⟨g0, g1, g2, g3, g4, g5, g6⟩ := row7 Rg
  (try clear d0 d1 d2 d3 d4 d5 d6 d7 d8 d9 d10 d11); obtain ⟨d0, d1, d2, d3, d4, d5, d6, d7, d8, d9, d10, d11⟩ := row12 Rd
  (try clear e0 e1 e2 e3 e4 e5 e6 e7 e8 e9 e10 e11); obtain ⟨e0, e1, e2, e3, e4, e5, e6, e7, e8, e9, e10, e11⟩ := row12 Re
  (try clear y0 y1 y2 y3 y4 y5 y6 y7 y8 y9 y10 y11); obtain ⟨y0, y1, y2, y3, y4, y5, y6, y7, y8, y9, y10, y11⟩ := row12 Ry
  (try clear z0 z1 z2 z3 z4 z5 z6 z7 z8 z9 z10 z11); obtain ⟨z0, z1, z2, z3, z4, z5, z6, z7, z8, z9, z10, z11⟩ := row12 Rz
  generalize (World.alloc w2 (.cells #[Value.int .i64 x.a0, Value.int .i64 x.a1, Value.int .i64 x.k0.kind, Value.int .i64 x.k0.len, Value.int .u64 x.k0.h, Value.int .u64 x.k0.l, Value.string ⟨x.k0.path.toArray⟩, Value.int .i64 x.k1.kind, Value.int .i64 x.k1.len, Value.int .u64 x.k1.h, Value.int .u64 x.k1.l, Value.string ⟨x.k1.path.toArray⟩] 33)) = w3 at *
  refine wp_region_held_drew (S := (fun w' => Row w' (w.heap.size + 1) #[.int .i64 p.a0, .int .i64 p.a1, .int .i64 p.k0.kind, .int .i64 p.k0.len, .int .u64 p.k0.h, .int .u64 p.k0.l, .string ⟨p.k0.path.toArray⟩, .int .i64 p.k1.kind, .int .i64 p.k1.len, .int .u64 p.k1.h, .int .u64 p.k1.l, .string ⟨p.k1.path.toArray⟩] 33 ∧ Row w' (w.heap.size + 1 + 1) #[.int .i64 q.a0, .int .i64 q.a1, .int .i64 q.k0.kind, .int .i64 q.k0.len, .int .u64 q.k0.h, .int .u64 q.k0.l, .string ⟨q.k0.path.toArray⟩, .int .i64 q.k1.kind, .int .i64 q.k1.len, .int .u64 q.k1.h, .int .u64 q.k1.l, .string ⟨q.k1.path.toArray⟩] 33 ∧ Row w' gy #[.int .i64 x.a0, .int .i64 x.a1, .int .i64 x.k0.kind, .int .i64 x.k0.len, .int .u64 x.k0.h, .int .u64 x.k0.l, .string ⟨x.k0.path.toArray⟩, .int .i64 x.k1.kind, .int .i64 x.k1.len, .int .u64 x.k1.h, .int .u64 x.k1.l, .string ⟨x.k1.path.toArray⟩] 33 ∧ Row w' w2.heap.size #[.int .i64 x.a0, .int .i64 x.a1, .int .i64 x.k0.kind, .int .i64 x.k0.len, .int .u64 x.k0.h, .int .u64 x.k0.l, .string ⟨x.k0.path.toArray⟩, .int .i64 x.k1.kind, .int .i64 x.k1.len, .int .u64 x.k1.h, .int .u64 x.k1.l, .string ⟨x.k1.path.toArray⟩] 33)) (by kernel_rfl) ?hSr86_ (fun hHeld => ?_)
  case hSr86_ => (exact ⟨Rd.drew, Re.drew, Ry.drew, Rz.drew⟩)
  (clear g0 g1 g2 g3 g4 g5 g6 d0 d1 d2 d3 d4 d5 d6 d7 d8 d9 d10 d11 e0 e1 e2 e3 e4 e5 e6 e7 e8 e9 e10 e11 y0 y1 y2 y3 y4 y5 y6 y7 y8 y9 y10 y11 z0 z1 z2 z3 z4 z5 z6 z7 z8 z9 z10 z11; (replace Rg := Rg.drew); (replace Rd := Rd.drew); (replace Re := Re.drew); (replace Ry := Ry.drew); (replace Rz := Rz.drew); (replace hb0 := hb0.drew); (generalize World.drew w3 = wq at *))
  refine wpAnyH_ready (rs := [0]) (by kernel_rfl) (by simp) ?_
  refine AllReadyH.cons (o := ⟨some 25, .call { callee := .value (.func 24), args := #[], argTypes := #[] }, 4, _, _, _⟩) rfl (fun K hK => ?_) AllReadyH.nil
  (go_simp; (refine (HA _).mono ?_); (rintro e wz ⟨rfl, hb⟩); (replace Rg := Rg.later hb); (replace Rd := Rd.later hb); (replace Re := Re.later hb); (replace Ry := Ry.later hb); (replace Rz := Rz.later hb); (replace hb0 := below_step hb0 hb); go_wp2_with fail)
  refine hK.out _ _ ?hSr86_1_0 (fun hHeld2 => ?_)
  case hSr86_1_0 => (obtain ⟨Qd, Qe, Qy, Qz⟩ := hHeld; exact ⟨Qd.later hb, Qe.later hb, Qy.later hb, Qz.later hb⟩)
  clear hK K hHeld
  have hHeld := hHeld2
  clear hHeld2
  rename World => wq
  (try simp only [Act.put, nz1, nz2, nz3])
  refine tk 1 ⟨some 26, .move (.tmp 25), 4, _, _, _⟩ hHeld ?_
  (try simp only [Act.put, nz1, nz2, nz3])
  refine tk 2 ⟨some 27, .load 33 (.tmp 7), 33, _, _, _⟩ hHeld ?_ (v := ?vr86_3_2) (hy := ?yr86_3_2)
  case yr86_3_2 => (intro wy hSw; obtain ⟨Qd, Qe, Qy, Qz⟩ := hSw; (with_reducible refine pexec_load 33 (.tmp 7) ?_ gy ?_ 33 #[.int .i64 x.a0, .int .i64 x.a1, .int .i64 x.k0.kind, .int .i64 x.k0.len, .int .u64 x.k0.h, .int .u64 x.k0.l, .string ⟨x.k0.path.toArray⟩, .int .i64 x.k1.kind, .int .i64 x.k1.len, .int .u64 x.k1.h, .int .u64 x.k1.l, .string ⟨x.k1.path.toArray⟩] _ Qy Try.underlying33 ?_ ?_) <;> first | rfl | exact infoPx)
  (try simp only [Act.put, nz1, nz2, nz3])
  refine tk 3 ⟨some 28, .load 33 (.tmp 9), 33, _, _, _⟩ hHeld ?_ (v := ?vr86_4_3) (hy := ?yr86_4_3)
  case yr86_4_3 => (intro wy hSw; obtain ⟨Qd, Qe, Qy, Qz⟩ := hSw; (with_reducible refine pexec_load 33 (.tmp 9) ?_ w2.heap.size ?_ 33 #[.int .i64 x.a0, .int .i64 x.a1, .int .i64 x.k0.kind, .int .i64 x.k0.len, .int .u64 x.k0.h, .int .u64 x.k0.l, .string ⟨x.k0.path.toArray⟩, .int .i64 x.k1.kind, .int .i64 x.k1.len, .int .u64 x.k1.h, .int .u64 x.k1.l, .string ⟨x.k1.path.toArray⟩] _ Qz Try.underlying33 ?_ ?_) <;> first | rfl | exact infoPx)
  (try simp only [Act.put, nz1, nz2, nz3])
  refine tk 4 ⟨some 29, .binOp .eql 33 (.tmp 27) (.tmp 28) 33, 4, _, _, _⟩ hHeld ?_
  (try simp only [Act.put, nz1, nz2, nz3])
  refine tk 5 ⟨some 30, .pick (.tmp 26) (.tmp 29) (.const (.bool false)), 4, _, _, _⟩ hHeld ?_
  (try simp only [Act.put, nz1, nz2, nz3])
  refine tk 6 ⟨some 31, .move (.tmp 30), 4, _, _, _⟩ hHeld ?_
  (try simp only [Act.put, nz1, nz2, nz3])
  refine tk 7 ⟨some 32, .move (.tmp 8), 4, _, _, _⟩ hHeld ?_
  (try simp only [Act.put, nz1, nz2, nz3])
  refine tk 8 ⟨some 33, .move (.tmp 10), 4, _, _, _⟩ hHeld ?_
  (try simp only [Act.put, nz1, nz2, nz3])
  refine tk 9 ⟨some 34, .binOp .eql 4 (.tmp 32) (.tmp 33) 4, 4, _, _, _⟩ hHeld ?_
  (try simp only [Act.put, nz1, nz2, nz3])
  refine tk 10 ⟨some 35, .pick (.tmp 31) (.tmp 34) (.const (.bool false)), 4, _, _, _⟩ hHeld ?_
  (try simp only [Act.put, nz1, nz2, nz3])
  refine tk 11 ⟨some 36, .move (.tmp 35), 4, _, _, _⟩ hHeld ?_
  (try simp only [Act.put, nz1, nz2, nz3])
  refine tk 12 ⟨some 37, .load 33 (.tmp 4), 33, _, _, _⟩ hHeld ?_ (v := ?vr86_13_12) (hy := ?yr86_13_12)
  case yr86_13_12 => (intro wy hSw; obtain ⟨Qd, Qe, Qy, Qz⟩ := hSw; (with_reducible refine pexec_load 33 (.tmp 4) ?_ (w.heap.size + 1) ?_ 33 #[.int .i64 p.a0, .int .i64 p.a1, .int .i64 p.k0.kind, .int .i64 p.k0.len, .int .u64 p.k0.h, .int .u64 p.k0.l, .string ⟨p.k0.path.toArray⟩, .int .i64 p.k1.kind, .int .i64 p.k1.len, .int .u64 p.k1.h, .int .u64 p.k1.l, .string ⟨p.k1.path.toArray⟩] _ Qd Try.underlying33 ?_ ?_) <;> first | rfl | exact infoPx)
  (try simp only [Act.put, nz1, nz2, nz3])
  refine tk 13 ⟨some 38, .load 33 (.tmp 5), 33, _, _, _⟩ hHeld ?_ (v := ?vr86_14_13) (hy := ?yr86_14_13)
  case yr86_14_13 => (intro wy hSw; obtain ⟨Qd, Qe, Qy, Qz⟩ := hSw; (with_reducible refine pexec_load 33 (.tmp 5) ?_ (w.heap.size + 1 + 1) ?_ 33 #[.int .i64 q.a0, .int .i64 q.a1, .int .i64 q.k0.kind, .int .i64 q.k0.len, .int .u64 q.k0.h, .int .u64 q.k0.l, .string ⟨q.k0.path.toArray⟩, .int .i64 q.k1.kind, .int .i64 q.k1.len, .int .u64 q.k1.h, .int .u64 q.k1.l, .string ⟨q.k1.path.toArray⟩] _ Qe Try.underlying33 ?_ ?_) <;> first | rfl | exact infoPx)
  (try simp only [Act.put, nz1, nz2, nz3])
  refine tk 15 ⟨some 40, .load 33 (.tmp 4), 33, _, _, _⟩ hHeld ?_ (v := ?vr86_15_15) (hy := ?yr86_15_15)
  case yr86_15_15 => (intro wy hSw; obtain ⟨Qd, Qe, Qy, Qz⟩ := hSw; (with_reducible refine pexec_load 33 (.tmp 4) ?_ (w.heap.size + 1) ?_ 33 #[.int .i64 p.a0, .int .i64 p.a1, .int .i64 p.k0.kind, .int .i64 p.k0.len, .int .u64 p.k0.h, .int .u64 p.k0.l, .string ⟨p.k0.path.toArray⟩, .int .i64 p.k1.kind, .int .i64 p.k1.len, .int .u64 p.k1.h, .int .u64 p.k1.l, .string ⟨p.k1.path.toArray⟩] _ Qd Try.underlying33 ?_ ?_) <;> first | rfl | exact infoPx)
  (try simp only [Act.put, nz1, nz2, nz3])
  refine tk 16 ⟨some 41, .load 33 (.tmp 5), 33, _, _, _⟩ hHeld ?_ (v := ?vr86_16_16) (hy := ?yr86_16_16)
  case yr86_16_16 => (intro wy hSw; obtain ⟨Qd, Qe, Qy, Qz⟩ := hSw; (with_reducible refine pexec_load 33 (.tmp 5) ?_ (w.heap.size + 1 + 1) ?_ 33 #[.int .i64 q.a0, .int .i64 q.a1, .int .i64 q.k0.kind, .int .i64 q.k0.len, .int .u64 q.k0.h, .int .u64 q.k0.l, .string ⟨q.k0.path.toArray⟩, .int .i64 q.k1.kind, .int .i64 q.k1.len, .int .u64 q.k1.h, .int .u64 q.k1.l, .string ⟨q.k1.path.toArray⟩] _ Qe Try.underlying33 ?_ ?_) <;> first | rfl | exact infoPx)
  (try simp only [Act.put, nz1, nz2, nz3])
  refine wpAnyH_ready (rs := [14]) (by kernel_rfl) (by simp) ?_
  refine AllReadyH.cons (o := ⟨some 39, .call { callee := .value (.func 32), args := #[.tmp 37, .tmp 38], argTypes := #[33, 33] }, 3, _, _, _⟩) rfl (fun K hK => ?_) AllReadyH.nil
  (go_simp; (refine (H3 _).mono ?_); (rintro e wz ⟨rfl, hb⟩); (replace Rg := Rg.later hb); (replace Rd := Rd.later hb); (replace Re := Re.later hb); (replace Ry := Ry.later hb); (replace Rz := Rz.later hb); (replace hb0 := below_step hb0 hb); go_wp2_with fail)
  refine hK.out _ _ ?hSr86_17_14 (fun hHeld2 => ?_)
  case hSr86_17_14 => (obtain ⟨Qd, Qe, Qy, Qz⟩ := hHeld; exact ⟨Qd.later hb, Qe.later hb, Qy.later hb, Qz.later hb⟩)
  clear hK K hHeld
  have hHeld := hHeld2
  clear hHeld2
  rename World => wq
  (try simp only [Act.put, nz1, nz2, nz3])
  refine wpAnyH_ready (rs := [17]) (by kernel_rfl) (by simp) ?_
  refine AllReadyH.cons (o := ⟨some 42, .call { callee := .value (.func 33), args := #[.tmp 40, .tmp 41], argTypes := #[33, 33] }, 3, _, _, _⟩) rfl (fun K hK => ?_) AllReadyH.nil
  (go_simp; (refine (H4 _).mono ?_); (rintro e wz ⟨rfl, hb⟩); (replace Rg := Rg.later hb); (replace Rd := Rd.later hb); (replace Re := Re.later hb); (replace Ry := Ry.later hb); (replace Rz := Rz.later hb); (replace hb0 := below_step hb0 hb); go_wp2_with fail)
  refine hK.out _ _ ?hSr86_18_17 (fun hHeld2 => ?_)
  case hSr86_18_17 => (obtain ⟨Qd, Qe, Qy, Qz⟩ := hHeld; exact ⟨Qd.later hb, Qe.later hb, Qy.later hb, Qz.later hb⟩)
  clear hK K hHeld
  have hHeld := hHeld2
  clear hHeld2
  rename World => wq
  (try simp only [Act.put, nz1, nz2, nz3])
  refine tk 18 ⟨some 43, .binOp .eql 3 (.tmp 39) (.tmp 42) 3, 4, _, _, _⟩ hHeld ?_
  (try simp only [Act.put, nz1, nz2, nz3])
  refine tk 19 ⟨some 44, .pick (.tmp 36) (.tmp 43) (.const (.bool false)), 4, _, _, _⟩ hHeld ?_
  (try simp only [Act.put, nz1, nz2, nz3])
  refine tk 20 ⟨some 6, .assign (.tmp 44), 4, _, _, _⟩ hHeld ?_
  (try simp only [Act.put, nz1, nz2, nz3])
  refine wpAnyH_done (by kernel_rfl) ?_ _
  clear hHeld
  rename World => w4
  have lg := Rg.lt
  have ld := Rd.lt
  have le := Re.lt
  have ly := Ry.lt
  have lz := Rz.lt
  (try clear g0 g1 g2 g3 g4 g5 g6); obtain ⟨g0, g1, g2, g3, g4, g5, g6⟩ := row7 Rg
  (try clear d0 d1 d2 d3 d4 d5 d6 d7 d8 d9 d10 d11); obtain ⟨d0, d1, d2, d3, d4, d5, d6, d7, d8, d9, d10, d11⟩ := row12 Rd
  (try clear e0 e1 e2 e3 e4 e5 e6 e7 e8 e9 e10 e11); obtain ⟨e0, e1, e2, e3, e4, e5, e6, e7, e8, e9, e10, e11⟩ := row12 Re
  (try clear y0 y1 y2 y3 y4 y5 y6 y7 y8 y9 y10 y11); obtain ⟨y0, y1, y2, y3, y4, y5, y6, y7, y8, y9, y10, y11⟩ := row12 Ry
  (try clear z0 z1 z2 z3 z4 z5 z6 z7 z8 z9 z10 z11); obtain ⟨z0, z1, z2, z3, z4, z5, z6, z7, z8, z9, z10, z11⟩ := row12 Rz
  go_wp2
  go_ret
  exact ⟨rfl, hb0⟩
theorem crosses9_any (s : Sp) (p q : Px) (op : p.ok) (oq : q.ok) (w : World) : Calls Try.prog 5 #[sv s, pv p, pv q] w fun e w' => e = .returned (.bool true) ∧ Below w.heap.size w w' := by
  have H1 := cross9_t s p q op oq
  have H2 := rcross_t s p q op oq
  have H3 := pcmp_t p q op oq
  have H4 := rpcmp_t p q op oq
  cases h : crossB s p q with
  | false => rw [h] at H1 H2; exact crosses9_false s p q _ _ H1 H2 H3 H4 w
  | true => rw [h] at H1 H2; exact crosses9_true s p q _ _ H1 H2 H3 H4 w
end Go.Proofs.Ytbekocknfpekoaa
