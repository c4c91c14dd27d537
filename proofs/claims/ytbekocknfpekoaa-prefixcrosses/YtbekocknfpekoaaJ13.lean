/- LawPrefixCrosses, OpenP: what the theorem needs of these texts. No conditions beyond those that are written. -/
import Derived.Test.YtbekocknfpekoaaJ0
import Derived.Test.YtbekocknfpekoaaJ9
import Derived.Test.YtbekocknfpekoaaR9f
import Derived.Test.YtbekocknfpekoaaPA
import Derived.Test.YtbekocknfpekoaaJ1
import Derived.ChangeSame
namespace Go.Proofs.Ytbekocknfpekoaa
set_option linter.unusedVariables false
set_option linter.unusedSimpArgs false
open Go.RowKit
set_option maxRecDepth 100000 in
set_option maxHeartbeats 32000000 in
theorem crosses9_false (s : Sp) (p q x : Px) (m : Int)
    (H1 : ∀ w, Calls Try.prog 30 #[sv s, pv p, pv q] w fun e w' => e = .returned (.tuple #[pv x, .bool false]) ∧ Below w.heap.size w w')
    (H2 : ∀ w, Calls Try.prog 31 #[sv s, pv p, pv q] w fun e w' => e = .returned (.tuple #[pv x, .bool false]) ∧ Below w.heap.size w w')
    (H3 : ∀ w, Calls Try.prog 32 #[pv p, pv q] w fun e w' => e = .returned (.int .i64 m) ∧ Below w.heap.size w w')
    (H4 : ∀ w, Calls Try.prog 33 #[pv p, pv q] w fun e w' => e = .returned (.int .i64 m) ∧ Below w.heap.size w w') (w : World) :
    Calls Try.prog 5 #[sv s, pv p, pv q] w fun e w' => e = .returned (.bool true) ∧ Below w.heap.size w w' := by
  have HA := alive9_t
  have qe := eql_px x x
  rw [decide_eq_true rfl] at qe
  unfold sv pv at *
  obtain ⟨Rg, Rd, Re, hb0⟩ := three_rows w #[.int .i64 s.n, .int .i64 s.d0.kind, .int .i64 s.d0.side, .int .i64 s.d0.step, .int .i64 s.d1.kind, .int .i64 s.d1.side, .int .i64 s.d1.step] #[.int .i64 p.a0, .int .i64 p.a1, .int .i64 p.k0.kind, .int .i64 p.k0.len, .int .u64 p.k0.h, .int .u64 p.k0.l, .string ⟨p.k0.path.toArray⟩, .int .i64 p.k1.kind, .int .i64 p.k1.len, .int .u64 p.k1.h, .int .u64 p.k1.l, .string ⟨p.k1.path.toArray⟩] #[.int .i64 q.a0, .int .i64 q.a1, .int .i64 q.k0.kind, .int .i64 q.k0.len, .int .u64 q.k0.h, .int .u64 q.k0.l, .string ⟨q.k0.path.toArray⟩, .int .i64 q.k1.kind, .int .i64 q.k1.len, .int .u64 q.k1.h, .int .u64 q.k1.l, .string ⟨q.k1.path.toArray⟩] 26 33 33
  (try clear g0 g1 g2 g3 g4 g5 g6); obtain ⟨g0, g1, g2, g3, g4, g5, g6⟩ := row7 Rg
  (try clear d0 d1 d2 d3 d4 d5 d6 d7 d8 d9 d10 d11); obtain ⟨d0, d1, d2, d3, d4, d5, d6, d7, d8, d9, d10, d11⟩ := row12 Rd
  (try clear e0 e1 e2 e3 e4 e5 e6 e7 e8 e9 e10 e11); obtain ⟨e0, e1, e2, e3, e4, e5, e6, e7, e8, e9, e10, e11⟩ := row12 Re
  go_enter Try.func5, Try.ntmps5
  go_wp2_with fail
  refine (H1 _).mono ?_
  rintro e w1 ⟨rfl, hb⟩
  replace Rg := Rg.later hb
  replace Rd := Rd.later hb
  replace Re := Re.later hb
  replace hb0 := below_step hb0 hb
  clear hb
  have lg := Rg.lt
  have ld := Rd.lt
  have le := Re.lt
  (try clear g0 g1 g2 g3 g4 g5 g6); obtain ⟨g0, g1, g2, g3, g4, g5, g6⟩ := row7 Rg
  (try clear d0 d1 d2 d3 d4 d5 d6 d7 d8 d9 d10 d11); obtain ⟨d0, d1, d2, d3, d4, d5, d6, d7, d8, d9, d10, d11⟩ := row12 Rd
  (try clear e0 e1 e2 e3 e4 e5 e6 e7 e8 e9 e10 e11); obtain ⟨e0, e1, e2, e3, e4, e5, e6, e7, e8, e9, e10, e11⟩ := row12 Re
  go_wp2_with fail
  refine (H2 _).mono ?_
  rintro e w2 ⟨rfl, hb⟩
  have nyg := Rg.lt
  have nyd := Rd.lt
  have nye := Re.lt
  replace Rg := (Rg.alloc _).later hb
  replace Rd := (Rd.alloc _).later hb
  replace Re := (Re.alloc _).later hb
  have Ry := Row.later (Row.new _ _ _) hb
  have my := hb0.size
  replace hb0 := below_step (hb0.alloc hb0.size _) hb
  clear hb
  generalize w1.heap.size = gy at *
  have lg := Rg.lt
  have ld := Rd.lt
  have le := Re.lt
  have ly := Ry.lt
  (try clear g0 g1 g2 g3 g4 g5 g6); obtain ⟨g0, g1, g2, g3, g4, g5, g6⟩ := row7 Rg
  (try clear d0 d1 d2 d3 d4 d5 d6 d7 d8 d9 d10 d11); obtain ⟨d0, d1, d2, d3, d4, d5, d6, d7, d8, d9, d10, d11⟩ := row12 Rd
  (try clear e0 e1 e2 e3 e4 e5 e6 e7 e8 e9 e10 e11); obtain ⟨e0, e1, e2, e3, e4, e5, e6, e7, e8, e9, e10, e11⟩ := row12 Re
  (try clear y0 y1 y2 y3 y4 y5 y6 y7 y8 y9 y10 y11); obtain ⟨y0, y1, y2, y3, y4, y5, y6, y7, y8, y9, y10, y11⟩ := row12 Ry
  go_wp2_with fail
  replace Rg := Rg.alloc (.cells #[Value.int .i64 x.a0, Value.int .i64 x.a1, Value.int .i64 x.k0.kind, Value.int .i64 x.k0.len, Value.int .u64 x.k0.h, Value.int .u64 x.k0.l, Value.string ⟨x.k0.path.toArray⟩, Value.int .i64 x.k1.kind, Value.int .i64 x.k1.len, Value.int .u64 x.k1.h, Value.int .u64 x.k1.l, Value.string ⟨x.k1.path.toArray⟩] 33)
  replace Rd := Rd.alloc (.cells #[Value.int .i64 x.a0, Value.int .i64 x.a1, Value.int .i64 x.k0.kind, Value.int .i64 x.k0.len, Value.int .u64 x.k0.h, Value.int .u64 x.k0.l, Value.string ⟨x.k0.path.toArray⟩, Value.int .i64 x.k1.kind, Value.int .i64 x.k1.len, Value.int .u64 x.k1.h, Value.int .u64 x.k1.l, Value.string ⟨x.k1.path.toArray⟩] 33)
  replace Re := Re.alloc (.cells #[Value.int .i64 x.a0, Value.int .i64 x.a1, Value.int .i64 x.k0.kind, Value.int .i64 x.k0.len, Value.int .u64 x.k0.h, Value.int .u64 x.k0.l, Value.string ⟨x.k0.path.toArray⟩, Value.int .i64 x.k1.kind, Value.int .i64 x.k1.len, Value.int .u64 x.k1.h, Value.int .u64 x.k1.l, Value.string ⟨x.k1.path.toArray⟩] 33)
  replace Ry := Ry.alloc (.cells #[Value.int .i64 x.a0, Value.int .i64 x.a1, Value.int .i64 x.k0.kind, Value.int .i64 x.k0.len, Value.int .u64 x.k0.h, Value.int .u64 x.k0.l, Value.string ⟨x.k0.path.toArray⟩, Value.int .i64 x.k1.kind, Value.int .i64 x.k1.len, Value.int .u64 x.k1.h, Value.int .u64 x.k1.l, Value.string ⟨x.k1.path.toArray⟩] 33)
  have Rz := Row.new w2 #[Value.int .i64 x.a0, Value.int .i64 x.a1, Value.int .i64 x.k0.kind, Value.int .i64 x.k0.len, Value.int .u64 x.k0.h, Value.int .u64 x.k0.l, Value.string ⟨x.k0.path.toArray⟩, Value.int .i64 x.k1.kind, Value.int .i64 x.k1.len, Value.int .u64 x.k1.h, Value.int .u64 x.k1.l, Value.string ⟨x.k1.path.toArray⟩] 33
  have mz := hb0.size
  replace hb0 := hb0.alloc hb0.size (.cells #[Value.int .i64 x.a0, Value.int .i64 x.a1, Value.int .i64 x.k0.kind, Value.int .i64 x.k0.len, Value.int .u64 x.k0.h, Value.int .u64 x.k0.l, Value.string ⟨x.k0.path.toArray⟩, Value.int .i64 x.k1.kind, Value.int .i64 x.k1.len, Value.int .u64 x.k1.h, Value.int .u64 x.k1.l, Value.string ⟨x.k1.path.toArray⟩] 33)
  (try clear g0 g1 g2 g3 g4 g5 g6); obtain ⟨g0, g1, g2, g3, g4, g5, g6⟩ := row7 Rg
  (try clear d0 d1 d2 d3 d4 d5 d6 d7 d8 d9 d10 d11); obtain ⟨d0, d1, d2, d3, d4, d5, d6, d7, d8, d9, d10, d11⟩ := row12 Rd
  (try clear e0 e1 e2 e3 e4 e5 e6 e7 e8 e9 e10 e11); obtain ⟨e0, e1, e2, e3, e4, e5, e6, e7, e8, e9, e10, e11⟩ := row12 Re
  (try clear y0 y1 y2 y3 y4 y5 y6 y7 y8 y9 y10 y11); obtain ⟨y0, y1, y2, y3, y4, y5, y6, y7, y8, y9, y10, y11⟩ := row12 Ry
  (try clear z0 z1 z2 z3 z4 z5 z6 z7 z8 z9 z10 z11); obtain ⟨z0, z1, z2, z3, z4, z5, z6, z7, z8, z9, z10, z11⟩ := row12 Rz
  generalize (World.alloc w2 (.cells #[Value.int .i64 x.a0, Value.int .i64 x.a1, Value.int .i64 x.k0.kind, Value.int .i64 x.k0.len, Value.int .u64 x.k0.h, Value.int .u64 x.k0.l, Value.string ⟨x.k0.path.toArray⟩, Value.int .i64 x.k1.kind, Value.int .i64 x.k1.len, Value.int .u64 x.k1.h, Value.int .u64 x.k1.l, Value.string ⟨x.k1.path.toArray⟩] 33)) = w3 at *
  refine wp_region_held_drew (S := (fun w' => Row w' (w.heap.size + 1) #[.int .i64 p.a0, .int .i64 p.a1, .int .i64 p.k0.kind, .int .i64 p.k0.len, .int .u64 p.k0.h, .int .u64 p.k0.l, .string ⟨p.k0.path.toArray⟩, .int .i64 p.k1.kind, .int .i64 p.k1.len, .int .u64 p.k1.h, .int .u64 p.k1.l, .string ⟨p.k1.path.toArray⟩] 33 ∧ Row w' (w.heap.size + 1 + 1) #[.int .i64 q.a0, .int .i64 q.a1, .int .i64 q.k0.kind, .int .i64 q.k0.len, .int .u64 q.k0.h, .int .u64 q.k0.l, .string ⟨q.k0.path.toArray⟩, .int .i64 q.k1.kind, .int .i64 q.k1.len, .int .u64 q.k1.h, .int .u64 q.k1.l, .string ⟨q.k1.path.toArray⟩] 33 ∧ Row w' gy #[.int .i64 x.a0, .int .i64 x.a1, .int .i64 x.k0.kind, .int .i64 x.k0.len, .int .u64 x.k0.h, .int .u64 x.k0.l, .string ⟨x.k0.path.toArray⟩, .int .i64 x.k1.kind, .int .i64 x.k1.len, .int .u64 x.k1.h, .int .u64 x.k1.l, .string ⟨x.k1.path.toArray⟩] 33 ∧ Row w' w2.heap.size #[.int .i64 x.a0, .int .i64 x.a1, .int .i64 x.k0.kind, .int .i64 x.k0.len, .int .u64 x.k0.h, .int .u64 x.k0.l, .string ⟨x.k0.path.toArray⟩, .int .i64 x.k1.kind, .int .i64 x.k1.len, .int .u64 x.k1.h, .int .u64 x.k1.l, .string ⟨x.k1.path.toArray⟩] 33)) (by kernel_rfl) ?hSr85_ (fun hHeld => ?_)
  case hSr85_ => (exact ⟨Rd.drew, Re.drew, Ry.drew, Rz.drew⟩)
  (clear g0 g1 g2 g3 g4 g5 g6 d0 d1 d2 d3 d4 d5 d6 d7 d8 d9 d10 d11 e0 e1 e2 e3 e4 e5 e6 e7 e8 e9 e10 e11 y0 y1 y2 y3 y4 y5 y6 y7 y8 y9 y10 y11 z0 z1 z2 z3 z4 z5 z6 z7 z8 z9 z10 z11; (replace Rg := Rg.drew); (replace Rd := Rd.drew); (replace Re := Re.drew); (replace Ry := Ry.drew); (replace Rz := Rz.drew); (replace hb0 := hb0.drew); (generalize World.drew w3 = wq at *))
  refine wpAnyH_ready (rs := [0]) (by kernel_rfl) (by simp) ?_
  refine AllReadyH.cons (o := ⟨some 25, .call { callee := .value (.func 24), args := #[], argTypes := #[] }, 4, _, _, _⟩) rfl (fun K hK => ?_) AllReadyH.nil
  (go_simp; (refine (HA _).mono ?_); (rintro e wz ⟨rfl, hb⟩); (replace Rg := Rg.later hb); (replace Rd := Rd.later hb); (replace Re := Re.later hb); (replace Ry := Ry.later hb); (replace Rz := Rz.later hb); (replace hb0 := below_step hb0 hb); go_wp2_with fail)
  refine hK.out _ _ ?hSr85_1_0 (fun hHeld2 => ?_)
  case hSr85_1_0 => (obtain ⟨Qd, Qe, Qy, Qz⟩ := hHeld; exact ⟨Qd.later hb, Qe.later hb, Qy.later hb, Qz.later hb⟩)
  clear hK K hHeld
  have hHeld := hHeld2
  clear hHeld2
  rename World => wq
  (try simp only [Act.put, nz1, nz2, nz3])
  refine tk 1 ⟨some 26, .move (.tmp 25), 4, _, _, _⟩ hHeld ?_
  (try simp only [Act.put, nz1, nz2, nz3])
  refine tk 2 ⟨some 27, .load 33 (.tmp 7), 33, _, _, _⟩ hHeld ?_ (v := ?vr85_3_2) (hy := ?yr85_3_2)
  case yr85_3_2 => (intro wy hSw; obtain ⟨Qd, Qe, Qy, Qz⟩ := hSw; (with_reducible refine pexec_load 33 (.tmp 7) ?_ gy ?_ 33 #[.int .i64 x.a0, .int .i64 x.a1, .int .i64 x.k0.kind, .int .i64 x.k0.len, .int .u64 x.k0.h, .int .u64 x.k0.l, .string ⟨x.k0.path.toArray⟩, .int .i64 x.k1.kind, .int .i64 x.k1.len, .int .u64 x.k1.h, .int .u64 x.k1.l, .string ⟨x.k1.path.toArray⟩] _ Qy Try.underlying33 ?_ ?_) <;> first | rfl | exact infoPx)
  (try simp only [Act.put, nz1, nz2, nz3])
  refine tk 3 ⟨some 28, .load 33 (.tmp 9), 33, _, _, _⟩ hHeld ?_ (v := ?vr85_4_3) (hy := ?yr85_4_3)
  case yr85_4_3 => (intro wy hSw; obtain ⟨Qd, Qe, Qy, Qz⟩ := hSw; (with_reducible refine pexec_load 33 (.tmp 9) ?_ w2.heap.size ?_ 33 #[.int .i64 x.a0, .int .i64 x.a1, .int .i64 x.k0.kind, .int .i64 x.k0.len, .int .u64 x.k0.h, .int .u64 x.k0.l, .string ⟨x.k0.path.toArray⟩, .int .i64 x.k1.kind, .int .i64 x.k1.len, .int .u64 x.k1.h, .int .u64 x.k1.l, .string ⟨x.k1.path.toArray⟩] _ Qz Try.underlying33 ?_ ?_) <;> first | rfl | exact infoPx)
  (try simp only [Act.put, nz1, nz2, nz3])
  refine tk 4 ⟨some 29, .binOp .eql 33 (.tmp 27) (.tmp 28) 33, 4, _, _, _⟩ hHeld ?_
  (try simp only [Act.put, nz1, nz2, nz3])
  refine tk 5 ⟨some 30, .pick (.tmp 26) (.tmp 29) (.const (.bool false)), 4, _, _, _⟩ hHeld ?_
  (try simp only [Act.put, nz1, nz2, nz3])
  refine tk 6 ⟨some 31, .move (.tmp 30), 4, _, _, _⟩ hHeld ?_
  (try simp only [Act.put, nz1, nz2, nz3])
  refine tk 7 ⟨some 32, .move (.tmp 8), 4, _, _, _⟩ hHeld ?_
  (try simp only [Act.put, nz1, nz2, nz3])
  refine tk 8 ⟨some 33, .move (.tmp 10), 4, _, _, _⟩ hHeld ?_
  (try simp only [Act.put, nz1, nz2, nz3])
  refine tk 9 ⟨some 34, .binOp .eql 4 (.tmp 32) (.tmp 33) 4, 4, _, _, _⟩ hHeld ?_
  (try simp only [Act.put, nz1, nz2, nz3])
  refine tk 10 ⟨some 35, .pick (.tmp 31) (.tmp 34) (.const (.bool false)), 4, _, _, _⟩ hHeld ?_
  (try simp only [Act.put, nz1, nz2, nz3])
  refine tk 11 ⟨some 36, .move (.tmp 35), 4, _, _, _⟩ hHeld ?_
  (try simp only [Act.put, nz1, nz2, nz3])
  refine tk 12 ⟨some 37, .load 33 (.tmp 4), 33, _, _, _⟩ hHeld ?_ (v := ?vr85_13_12) (hy := ?yr85_13_12)
  case yr85_13_12 => (intro wy hSw; obtain ⟨Qd, Qe, Qy, Qz⟩ := hSw; (with_reducible refine pexec_load 33 (.tmp 4) ?_ (w.heap.size + 1) ?_ 33 #[.int .i64 p.a0, .int .i64 p.a1, .int .i64 p.k0.kind, .int .i64 p.k0.len, .int .u64 p.k0.h, .int .u64 p.k0.l, .string ⟨p.k0.path.toArray⟩, .int .i64 p.k1.kind, .int .i64 p.k1.len, .int .u64 p.k1.h, .int .u64 p.k1.l, .string ⟨p.k1.path.toArray⟩] _ Qd Try.underlying33 ?_ ?_) <;> first | rfl | exact infoPx)
  (try simp only [Act.put, nz1, nz2, nz3])
  refine tk 13 ⟨some 38, .load 33 (.tmp 5), 33, _, _, _⟩ hHeld ?_ (v := ?vr85_14_13) (hy := ?yr85_14_13)
  case yr85_14_13 => (intro wy hSw; obtain ⟨Qd, Qe, Qy, Qz⟩ := hSw; (with_reducible refine pexec_load 33 (.tmp 5) ?_ (w.heap.size + 1 + 1) ?_ 33 #[.int .i64 q.a0, .int .i64 q.a1, .int .i64 q.k0.kind, .int .i64 q.k0.len, .int .u64 q.k0.h, .int .u64 q.k0.l, .string ⟨q.k0.path.toArray⟩, .int .i64 q.k1.kind, .int .i64 q.k1.len, .int .u64 q.k1.h, .int .u64 q.k1.l, .string ⟨q.k1.path.toArray⟩] _ Qe Try.underlying33 ?_ ?_) <;> first | rfl | exact infoPx)
  (try simp only [Act.put, nz1, nz2, nz3])
  refine tk 15 ⟨some 40, .load 33 (.tmp 4), 33, _, _, _⟩ hHeld ?_ (v := ?vr85_15_15) (hy := ?yr85_15_15)
  case yr85_15_15 => (intro wy hSw; obtain ⟨Qd, Qe, Qy, Qz⟩ := hSw; (with_reducible refine pexec_load 33 (.tmp 4) ?_ (w.heap.size + 1) ?_ 33 #[.int .i64 p.a0, .int .i64 p.a1, .int .i64 p.k0.kind, .int .i64 p.k0.len, .int .u64 p.k0.h, .int .u64 p.k0.l, .string ⟨p.k0.path.toArray⟩, .int .i64 p.k1.kind, .int .i64 p.k1.len, .int .u64 p.k1.h, .int .u64 p.k1.l, .string ⟨p.k1.path.toArray⟩] _ Qd Try.underlying33 ?_ ?_) <;> first | rfl | exact infoPx)
  (try simp only [Act.put, nz1, nz2, nz3])
  refine tk 16 ⟨some 41, .load 33 (.tmp 5), 33, _, _, _⟩ hHeld ?_ (v := ?vr85_16_16) (hy := ?yr85_16_16)
  case yr85_16_16 => (intro wy hSw; obtain ⟨Qd, Qe, Qy, Qz⟩ := hSw; (with_reducible refine pexec_load 33 (.tmp 5) ?_ (w.heap.size + 1 + 1) ?_ 33 #[.int .i64 q.a0, .int .i64 q.a1, .int .i64 q.k0.kind, .int .i64 q.k0.len, .int .u64 q.k0.h, .int .u64 q.k0.l, .string ⟨q.k0.path.toArray⟩, .int .i64 q.k1.kind, .int .i64 q.k1.len, .int .u64 q.k1.h, .int .u64 q.k1.l, .string ⟨q.k1.path.toArray⟩] _ Qe Try.underlying33 ?_ ?_) <;> first | rfl | exact infoPx)
  (try simp only [Act.put, nz1, nz2, nz3])
  refine wpAnyH_ready (rs := [14]) (by kernel_rfl) (by simp) ?_
  refine AllReadyH.cons (o := ⟨some 39, .call { callee := .value (.func 32), args := #[.tmp 37, .tmp 38], argTypes := #[33, 33] }, 3, _, _, _⟩) rfl (fun K hK => ?_) AllReadyH.nil
  (go_simp; (refine (H3 _).mono ?_); (rintro e wz ⟨rfl, hb⟩); (replace Rg := Rg.later hb); (replace Rd := Rd.later hb); (replace Re := Re.later hb); (replace Ry := Ry.later hb); (replace Rz := Rz.later hb); (replace hb0 := below_step hb0 hb); go_wp2_with fail)
  refine hK.out _ _ ?hSr85_17_14 (fun hHeld2 => ?_)
  case hSr85_17_14 => (obtain ⟨Qd, Qe, Qy, Qz⟩ := hHeld; exact ⟨Qd.later hb, Qe.later hb, Qy.later hb, Qz.later hb⟩)
  clear hK K hHeld
  have hHeld := hHeld2
  clear hHeld2
  rename World => wq
  (try simp only [Act.put, nz1, nz2, nz3])
  refine wpAnyH_ready (rs := [17]) (by kernel_rfl) (by simp) ?_
  refine AllReadyH.cons (o := ⟨some 42, .call { callee := .value (.func 33), args := #[.tmp 40, .tmp 41], argTypes := #[33, 33] }, 3, _, _, _⟩) rfl (fun K hK => ?_) AllReadyH.nil
  (go_simp; (refine (H4 _).mono ?_); (rintro e wz ⟨rfl, hb⟩); (replace Rg := Rg.later hb); (replace Rd := Rd.later hb); (replace Re := Re.later hb); (replace Ry := Ry.later hb); (replace Rz := Rz.later hb); (replace hb0 := below_step hb0 hb); go_wp2_with fail)
  refine hK.out _ _ ?hSr85_18_17 (fun hHeld2 => ?_)
  case hSr85_18_17 => (obtain ⟨Qd, Qe, Qy, Qz⟩ := hHeld; exact ⟨Qd.later hb, Qe.later hb, Qy.later hb, Qz.later hb⟩)
  clear hK K hHeld
  have hHeld := hHeld2
  clear hHeld2
  rename World => wq
  (try simp only [Act.put, nz1, nz2, nz3])
  refine tk 18 ⟨some 43, .binOp .eql 3 (.tmp 39) (.tmp 42) 3, 4, _, _, _⟩ hHeld ?_
  (try simp only [Act.put, nz1, nz2, nz3])
  refine tk 19 ⟨some 44, .pick (.tmp 36) (.tmp 43) (.const (.bool false)), 4, _, _, _⟩ hHeld ?_
  (try simp only [Act.put, nz1, nz2, nz3])
  refine tk 20 ⟨some 6, .assign (.tmp 44), 4, _, _, _⟩ hHeld ?_
  (try simp only [Act.put, nz1, nz2, nz3])
  refine wpAnyH_done (by kernel_rfl) ?_ _
  clear hHeld
  rename World => w4
  have lg := Rg.lt
  have ld := Rd.lt
  have le := Re.lt
  have ly := Ry.lt
  have lz := Rz.lt
  (try clear g0 g1 g2 g3 g4 g5 g6); obtain ⟨g0, g1, g2, g3, g4, g5, g6⟩ := row7 Rg
  (try clear d0 d1 d2 d3 d4 d5 d6 d7 d8 d9 d10 d11); obtain ⟨d0, d1, d2, d3, d4, d5, d6, d7, d8, d9, d10, d11⟩ := row12 Rd
  (try clear e0 e1 e2 e3 e4 e5 e6 e7 e8 e9 e10 e11); obtain ⟨e0, e1, e2, e3, e4, e5, e6, e7, e8, e9, e10, e11⟩ := row12 Re
  (try clear y0 y1 y2 y3 y4 y5 y6 y7 y8 y9 y10 y11); obtain ⟨y0, y1, y2, y3, y4, y5, y6, y7, y8, y9, y10, y11⟩ := row12 Ry
  (try clear z0 z1 z2 z3 z4 z5 z6 z7 z8 z9 z10 z11); obtain ⟨z0, z1, z2, z3, z4, z5, z6, z7, z8, z9, z10, z11⟩ := row12 Rz
  go_wp2
  go_ret
  exact ⟨rfl, hb0⟩
set_option maxRecDepth 100000 in
set_option maxHeartbeats 32000000 in
theorem crosses9_true (s : Sp) (p q x : Px) (m : Int)
    (H1 : ∀ w, Calls Try.prog 30 #[sv s, pv p, pv q] w fun e w' => e = .returned (.tuple #[pv x, .bool true]) ∧ Below w.heap.size w w')
    (H2 : ∀ w, Calls Try.prog 31 #[sv s, pv p, pv q] w fun e w' => e = .returned (.tuple #[pv x, .bool true]) ∧ Below w.heap.size w w')
    (H3 : ∀ w, Calls Try.prog 32 #[pv p, pv q] w fun e w' => e = .returned (.int .i64 m) ∧ Below w.heap.size w w')
    (H4 : ∀ w, Calls Try.prog 33 #[pv p, pv q] w fun e w' => e = .returned (.int .i64 m) ∧ Below w.heap.size w w') (w : World) :
    Calls Try.prog 5 #[sv s, pv p, pv q] w fun e w' => e = .returned (.bool true) ∧ Below w.heap.size w w' := by
  have HA := alive9_t
  have qe := eql_px x x
  rw [decide_eq_true rfl] at qe
  unfold sv pv at *
  obtain ⟨Rg, Rd, Re, hb0⟩ := three_rows w #[.int .i64 s.n, .int .i64 s.d0.kind, .int .i64 s.d0.side, .int .i64 s.d0.step, .int .i64 s.d1.kind, .int .i64 s.d1.side, .int .i64 s.d1.step] #[.int .i64 p.a0, .int .i64 p.a1, .int .i64 p.k0.kind, .int .i64 p.k0.len, .int .u64 p.k0.h, .int .u64 p.k0.l, .string ⟨p.k0.path.toArray⟩, .int .i64 p.k1.kind, .int .i64 p.k1.len, .int .u64 p.k1.h, .int .u64 p.k1.l, .string ⟨p.k1.path.toArray⟩] #[.int .i64 q.a0, .int .i64 q.a1, .int .i64 q.k0.kind, .int .i64 q.k0.len, .int .u64 q.k0.h, .int .u64 q.k0.l, .string ⟨q.k0.path.toArray⟩, .int .i64 q.k1.kind, .int .i64 q.k1.len, .int .u64 q.k1.h, .int .u64 q.k1.l, .string ⟨q.k1.path.toArray⟩] 26 33 33
  (try clear g0 g1 g2 g3 g4 g5 g6); obtain ⟨g0, g1, g2, g3, g4, g5, g6⟩ := row7 Rg
  (try clear d0 d1 d2 d3 d4 d5 d6 d7 d8 d9 d10 d11); obtain ⟨d0, d1, d2, d3, d4, d5, d6, d7, d8, d9, d10, d11⟩ := row12 Rd
  (try clear e0 e1 e2 e3 e4 e5 e6 e7 e8 e9 e10 e11); obtain ⟨e0, e1, e2, e3, e4, e5, e6, e7, e8, e9, e10, e11⟩ := row12 Re
  go_enter Try.func5, Try.ntmps5
  go_wp2_with fail
  refine (H1 _).mono ?_
  rintro e w1 ⟨rfl, hb⟩
  replace Rg := Rg.later hb
  replace Rd := Rd.later hb
  replace Re := Re.later hb
  replace hb0 := below_step hb0 hb
  clear hb
  have lg := Rg.lt
  have ld := Rd.lt
  have le := Re.lt
  (try clear g0 g1 g2 g3 g4 g5 g6); obtain ⟨g0, g1, g2, g3, g4, g5, g6⟩ := row7 Rg
  (try clear d0 d1 d2 d3 d4 d5 d6 d7 d8 d9 d10 d11); obtain ⟨d0, d1, d2, d3, d4, d5, d6, d7, d8, d9, d10, d11⟩ := row12 Rd
  (try clear e0 e1 e2 e3 e4 e5 e6 e7 e8 e9 e10 e11); obtain ⟨e0, e1, e2, e3, e4, e5, e6, e7, e8, e9, e10, e11⟩ := row12 Re
  go_wp2_with fail
  refine (H2 _).mono ?_
  rintro e w2 ⟨rfl, hb⟩
  have nyg := Rg.lt
  have nyd := Rd.lt
  have nye := Re.lt
  replace Rg := (Rg.alloc _).later hb
  replace Rd := (Rd.alloc _).later hb
  replace Re := (Re.alloc _).later hb
  have Ry := Row.later (Row.new _ _ _) hb
  have my := hb0.size
  replace hb0 := below_step (hb0.alloc hb0.size _) hb
  clear hb
  generalize w1.heap.size = gy at *
  have lg := Rg.lt
  have ld := Rd.lt
  have le := Re.lt
  have ly := Ry.lt
  (try clear g0 g1 g2 g3 g4 g5 g6); obtain ⟨g0, g1, g2, g3, g4, g5, g6⟩ := row7 Rg
  (try clear d0 d1 d2 d3 d4 d5 d6 d7 d8 d9 d10 d11); obtain ⟨d0, d1, d2, d3, d4, d5, d6, d7, d8, d9, d10, d11⟩ := row12 Rd
  (try clear e0 e1 e2 e3 e4 e5 e6 e7 e8 e9 e10 e11); obtain ⟨e0, e1, e2, e3, e4, e5, e6, e7, e8, e9, e10, e11⟩ := row12 Re
  (try clear y0 y1 y2 y3 y4 y5 y6 y7 y8 y9 y10 y11); obtain ⟨y0, y1, y2, y3, y4, y5, y6, y7, y8, y9, y10, y11⟩ := row12 Ry
  go_wp2_with fail
  replace Rg := Rg.alloc (.cells #[Value.int .i64 x.a0, Value.int .i64 x.a1, Value.int .i64 x.k0.kind, Value.int .i64 x.k0.len, Value.int .u64 x.k0.h, Value.int .u64 x.k0.l, Value.string ⟨x.k0.path.toArray⟩, Value.int .i64 x.k1.kind, Value.int .i64 x.k1.len, Value.int .u64 x.k1.h, Value.int .u64 x.k1.l, Value.string ⟨x.k1.path.toArray⟩] 33)
  replace Rd := Rd.alloc (.cells #[Value.int .i64 x.a0, Value.int .i64 x.a1, Value.int .i64 x.k0.kind, Value.int .i64 x.k0.len, Value.int .u64 x.k0.h, Value.int .u64 x.k0.l, Value.string ⟨x.k0.path.toArray⟩, Value.int .i64 x.k1.kind, Value.int .i64 x.k1.len, Value.int .u64 x.k1.h, Value.int .u64 x.k1.l, Value.string ⟨x.k1.path.toArray⟩] 33)
  replace Re := Re.alloc (.cells #[Value.int .i64 x.a0, Value.int .i64 x.a1, Value.int .i64 x.k0.kind, Value.int .i64 x.k0.len, Value.int .u64 x.k0.h, Value.int .u64 x.k0.l, Value.string ⟨x.k0.path.toArray⟩, Value.int .i64 x.k1.kind, Value.int .i64 x.k1.len, Value.int .u64 x.k1.h, Value.int .u64 x.k1.l, Value.string ⟨x.k1.path.toArray⟩] 33)
  replace Ry := Ry.alloc (.cells #[Value.int .i64 x.a0, Value.int .i64 x.a1, Value.int .i64 x.k0.kind, Value.int .i64 x.k0.len, Value.int .u64 x.k0.h, Value.int .u64 x.k0.l, Value.string ⟨x.k0.path.toArray⟩, Value.int .i64 x.k1.kind, Value.int .i64 x.k1.len, Value.int .u64 x.k1.h, Value.int .u64 x.k1.l, Value.string ⟨x.k1.path.toArray⟩] 33)
  have Rz := Row.new w2 #[Value.int .i64 x.a0, Value.int .i64 x.a1, Value.int .i64 x.k0.kind, Value.int .i64 x.k0.len, Value.int .u64 x.k0.h, Value.int .u64 x.k0.l, Value.string ⟨x.k0.path.toArray⟩, Value.int .i64 x.k1.kind, Value.int .i64 x.k1.len, Value.int .u64 x.k1.h, Value.int .u64 x.k1.l, Value.string ⟨x.k1.path.toArray⟩] 33
  have mz := hb0.size
  replace hb0 := hb0.alloc hb0.size (.cells #[Value.int .i64 x.a0, Value.int .i64 x.a1, Value.int .i64 x.k0.kind, Value.int .i64 x.k0.len, Value.int .u64 x.k0.h, Value.int .u64 x.k0.l, Value.string ⟨x.k0.path.toArray⟩, Value.int .i64 x.k1.kind, Value.int .i64 x.k1.len, Value.int .u64 x.k1.h, Value.int .u64 x.k1.l, Value.string ⟨x.k1.path.toArray⟩] 33)
  (try clear g0 g1 g2 g3 g4 g5 g6); obtain ⟨g0, g1, g2, g3, g4, g5, g6⟩ := row7 Rg
  (try clear d0 d1 d2 d3 d4 d5 d6 d7 d8 d9 d10 d11); obtain ⟨d0, d1, d2, d3, d4, d5, d6, d7, d8, d9, d10, d11⟩ := row12 Rd
  (try clear e0 e1 e2 e3 e4 e5 e6 e7 e8 e9 e10 e11); obtain ⟨e0, e1, e2, e3, e4, e5, e6, e7, e8, e9, e10, e11⟩ := row12 Re
  (try clear y0 y1 y2 y3 y4 y5 y6 y7 y8 y9 y10 y11); obtain ⟨y0, y1, y2, y3, y4, y5, y6, y7, y8, y9, y10, y11⟩ := row12 Ry
  (try clear z0 z1 z2 z3 z4 z5 z6 z7 z8 z9 z10 z11); obtain ⟨z0, z1, z2, z3, z4, z5, z6, z7, z8, z9, z10, z11⟩ := row12 Rz
  generalize (World.alloc w2 (.cells #[Value.int .i64 x.a0, Value.int .i64 x.a1, Value.int .i64 x.k0.kind, Value.int .i64 x.k0.len, Value.int .u64 x.k0.h, Value.int .u64 x.k0.l, Value.string ⟨x.k0.path.toArray⟩, Value.int .i64 x.k1.kind, Value.int .i64 x.k1.len, Value.int .u64 x.k1.h, Value.int .u64 x.k1.l, Value.string ⟨x.k1.path.toArray⟩] 33)) = w3 at *
  refine wp_region_held_drew (S := (fun w' => Row w' (w.heap.size + 1) #[.int .i64 p.a0, .int .i64 p.a1, .int .i64 p.k0.kind, .int .i64 p.k0.len, .int .u64 p.k0.h, .int .u64 p.k0.l, .string ⟨p.k0.path.toArray⟩, .int .i64 p.k1.kind, .int .i64 p.k1.len, .int .u64 p.k1.h, .int .u64 p.k1.l, .string ⟨p.k1.path.toArray⟩] 33 ∧ Row w' (w.heap.size + 1 + 1) #[.int .i64 q.a0, .int .i64 q.a1, .int .i64 q.k0.kind, .int .i64 q.k0.len, .int .u64 q.k0.h, .int .u64 q.k0.l, .string ⟨q.k0.path.toArray⟩, .int .i64 q.k1.kind, .int .i64 q.k1.len, .int .u64 q.k1.h, .int .u64 q.k1.l, .string ⟨q.k1.path.toArray⟩] 33 ∧ Row w' gy #[.int .i64 x.a0, .int .i64 x.a1, .int .i64 x.k0.kind, .int .i64 x.k0.len, .int .u64 x.k0.h, .int .u64 x.k0.l, .string ⟨x.k0.path.toArray⟩, .int .i64 x.k1.kind, .int .i64 x.k1.len, .int .u64 x.k1.h, .int .u64 x.k1.l, .string ⟨x.k1.path.toArray⟩] 33 ∧ Row w' w2.heap.size #[.int .i64 x.a0, .int .i64 x.a1, .int .i64 x.k0.kind, .int .i64 x.k0.len, .int .u64 x.k0.h, .int .u64 x.k0.l, .string ⟨x.k0.path.toArray⟩, .int .i64 x.k1.kind, .int .i64 x.k1.len, .int .u64 x.k1.h, .int .u64 x.k1.l, .string ⟨x.k1.path.toArray⟩] 33)) (by kernel_rfl) ?hSr86_ (fun hHeld => ?_)
  case hSr86_ => (exact ⟨Rd.drew, Re.drew, Ry.drew, Rz.drew⟩)
  (clear g0 g1 g2 g3 g4 g5 g6 d0 d1 d2 d3 d4 d5 d6 d7 d8 d9 d10 d11 e0 e1 e2 e3 e4 e5 e6 e7 e8 e9 e10 e11 y0 y1 y2 y3 y4 y5 y6 y7 y8 y9 y10 y11 z0 z1 z2 z3 z4 z5 z6 z7 z8 z9 z10 z11; (replace Rg := Rg.drew); (replace Rd := Rd.drew); (replace Re := Re.drew); (replace Ry := Ry.drew); (replace Rz := Rz.drew); (replace hb0 := hb0.drew); (generalize World.drew w3 = wq at *))
  refine wpAnyH_ready (rs := [0]) (by kernel_rfl) (by simp) ?_
  refine AllReadyH.cons (o := ⟨some 25, .call { callee := .value (.func 24), args := #[], argTypes := #[] }, 4, _, _, _⟩) rfl (fun K hK => ?_) AllReadyH.nil
  (go_simp; (refine (HA _).mono ?_); (rintro e wz ⟨rfl, hb⟩); (replace Rg := Rg.later hb); (replace Rd := Rd.later hb); (replace Re := Re.later hb); (replace Ry := Ry.later hb); (replace Rz := Rz.later hb); (replace hb0 := below_step hb0 hb); go_wp2_with fail)
  refine hK.out _ _ ?hSr86_1_0 (fun hHeld2 => ?_)
  case hSr86_1_0 => (obtain ⟨Qd, Qe, Qy, Qz⟩ := hHeld; exact ⟨Qd.later hb, Qe.later hb, Qy.later hb, Qz.later hb⟩)
  clear hK K hHeld
  have hHeld := hHeld2
  clear hHeld2
  rename World => wq
  (try simp only [Act.put, nz1, nz2, nz3])
  refine tk 1 ⟨some 26, .move (.tmp 25), 4, _, _, _⟩ hHeld ?_
  (try simp only [Act.put, nz1, nz2, nz3])
  refine tk 2 ⟨some 27, .load 33 (.tmp 7), 33, _, _, _⟩ hHeld ?_ (v := ?vr86_3_2) (hy := ?yr86_3_2)
  case yr86_3_2 => (intro wy hSw; obtain ⟨Qd, Qe, Qy, Qz⟩ := hSw; (with_reducible refine pexec_load 33 (.tmp 7) ?_ gy ?_ 33 #[.int .i64 x.a0, .int .i64 x.a1, .int .i64 x.k0.kind, .int .i64 x.k0.len, .int .u64 x.k0.h, .int .u64 x.k0.l, .string ⟨x.k0.path.toArray⟩, .int .i64 x.k1.kind, .int .i64 x.k1.len, .int .u64 x.k1.h, .int .u64 x.k1.l, .string ⟨x.k1.path.toArray⟩] _ Qy Try.underlying33 ?_ ?_) <;> first | rfl | exact infoPx)
  (try simp only [Act.put, nz1, nz2, nz3])
  refine tk 3 ⟨some 28, .load 33 (.tmp 9), 33, _, _, _⟩ hHeld ?_ (v := ?vr86_4_3) (hy := ?yr86_4_3)
  case yr86_4_3 => (intro wy hSw; obtain ⟨Qd, Qe, Qy, Qz⟩ := hSw; (with_reducible refine pexec_load 33 (.tmp 9) ?_ w2.heap.size ?_ 33 #[.int .i64 x.a0, .int .i64 x.a1, .int .i64 x.k0.kind, .int .i64 x.k0.len, .int .u64 x.k0.h, .int .u64 x.k0.l, .string ⟨x.k0.path.toArray⟩, .int .i64 x.k1.kind, .int .i64 x.k1.len, .int .u64 x.k1.h, .int .u64 x.k1.l, .string ⟨x.k1.path.toArray⟩] _ Qz Try.underlying33 ?_ ?_) <;> first | rfl | exact infoPx)
  (try simp only [Act.put, nz1, nz2, nz3])
  refine tk 4 ⟨some 29, .binOp .eql 33 (.tmp 27) (.tmp 28) 33, 4, _, _, _⟩ hHeld ?_
  (try simp only [Act.put, nz1, nz2, nz3])
  refine tk 5 ⟨some 30, .pick (.tmp 26) (.tmp 29) (.const (.bool false)), 4, _, _, _⟩ hHeld ?_
  (try simp only [Act.put, nz1, nz2, nz3])
  refine tk 6 ⟨some 31, .move (.tmp 30), 4, _, _, _⟩ hHeld ?_
  (try simp only [Act.put, nz1, nz2, nz3])
  refine tk 7 ⟨some 32, .move (.tmp 8), 4, _, _, _⟩ hHeld ?_
  (try simp only [Act.put, nz1, nz2, nz3])
  refine tk 8 ⟨some 33, .move (.tmp 10), 4, _, _, _⟩ hHeld ?_
  (try simp only [Act.put, nz1, nz2, nz3])
  refine tk 9 ⟨some 34, .binOp .eql 4 (.tmp 32) (.tmp 33) 4, 4, _, _, _⟩ hHeld ?_
  (try simp only [Act.put, nz1, nz2, nz3])
  refine tk 10 ⟨some 35, .pick (.tmp 31) (.tmp 34) (.const (.bool false)), 4, _, _, _⟩ hHeld ?_
  (try simp only [Act.put, nz1, nz2, nz3])
  refine tk 11 ⟨some 36, .move (.tmp 35), 4, _, _, _⟩ hHeld ?_
  (try simp only [Act.put, nz1, nz2, nz3])
  refine tk 12 ⟨some 37, .load 33 (.tmp 4), 33, _, _, _⟩ hHeld ?_ (v := ?vr86_13_12) (hy := ?yr86_13_12)
  case yr86_13_12 => (intro wy hSw; obtain ⟨Qd, Qe, Qy, Qz⟩ := hSw; (with_reducible refine pexec_load 33 (.tmp 4) ?_ (w.heap.size + 1) ?_ 33 #[.int .i64 p.a0, .int .i64 p.a1, .int .i64 p.k0.kind, .int .i64 p.k0.len, .int .u64 p.k0.h, .int .u64 p.k0.l, .string ⟨p.k0.path.toArray⟩, .int .i64 p.k1.kind, .int .i64 p.k1.len, .int .u64 p.k1.h, .int .u64 p.k1.l, .string ⟨p.k1.path.toArray⟩] _ Qd Try.underlying33 ?_ ?_) <;> first | rfl | exact infoPx)
  (try simp only [Act.put, nz1, nz2, nz3])
  refine tk 13 ⟨some 38, .load 33 (.tmp 5), 33, _, _, _⟩ hHeld ?_ (v := ?vr86_14_13) (hy := ?yr86_14_13)
  case yr86_14_13 => (intro wy hSw; obtain ⟨Qd, Qe, Qy, Qz⟩ := hSw; (with_reducible refine pexec_load 33 (.tmp 5) ?_ (w.heap.size + 1 + 1) ?_ 33 #[.int .i64 q.a0, .int .i64 q.a1, .int .i64 q.k0.kind, .int .i64 q.k0.len, .int .u64 q.k0.h, .int .u64 q.k0.l, .string ⟨q.k0.path.toArray⟩, .int .i64 q.k1.kind, .int .i64 q.k1.len, .int .u64 q.k1.h, .int .u64 q.k1.l, .string ⟨q.k1.path.toArray⟩] _ Qe Try.underlying33 ?_ ?_) <;> first | rfl | exact infoPx)
  (try simp only [Act.put, nz1, nz2, nz3])
  refine tk 15 ⟨some 40, .load 33 (.tmp 4), 33, _, _, _⟩ hHeld ?_ (v := ?vr86_15_15) (hy := ?yr86_15_15)
  case yr86_15_15 => (intro wy hSw; obtain ⟨Qd, Qe, Qy, Qz⟩ := hSw; (with_reducible refine pexec_load 33 (.tmp 4) ?_ (w.heap.size + 1) ?_ 33 #[.int .i64 p.a0, .int .i64 p.a1, .int .i64 p.k0.kind, .int .i64 p.k0.len, .int .u64 p.k0.h, .int .u64 p.k0.l, .string ⟨p.k0.path.toArray⟩, .int .i64 p.k1.kind, .int .i64 p.k1.len, .int .u64 p.k1.h, .int .u64 p.k1.l, .string ⟨p.k1.path.toArray⟩] _ Qd Try.underlying33 ?_ ?_) <;> first | rfl | exact infoPx)
  (try simp only [Act.put, nz1, nz2, nz3])
  refine tk 16 ⟨some 41, .load 33 (.tmp 5), 33, _, _, _⟩ hHeld ?_ (v := ?vr86_16_16) (hy := ?yr86_16_16)
  case yr86_16_16 => (intro wy hSw; obtain ⟨Qd, Qe, Qy, Qz⟩ := hSw; (with_reducible refine pexec_load 33 (.tmp 5) ?_ (w.heap.size + 1 + 1) ?_ 33 #[.int .i64 q.a0, .int .i64 q.a1, .int .i64 q.k0.kind, .int .i64 q.k0.len, .int .u64 q.k0.h, .int .u64 q.k0.l, .string ⟨q.k0.path.toArray⟩, .int .i64 q.k1.kind, .int .i64 q.k1.len, .int .u64 q.k1.h, .int .u64 q.k1.l, .string ⟨q.k1.path.toArray⟩] _ Qe Try.underlying33 ?_ ?_) <;> first | rfl | exact infoPx)
  (try simp only [Act.put, nz1, nz2, nz3])
  refine wpAnyH_ready (rs := [14]) (by kernel_rfl) (by simp) ?_
  refine AllReadyH.cons (o := ⟨some 39, .call { callee := .value (.func 32), args := #[.tmp 37, .tmp 38], argTypes := #[33, 33] }, 3, _, _, _⟩) rfl (fun K hK => ?_) AllReadyH.nil
  (go_simp; (refine (H3 _).mono ?_); (rintro e wz ⟨rfl, hb⟩); (replace Rg := Rg.later hb); (replace Rd := Rd.later hb); (replace Re := Re.later hb); (replace Ry := Ry.later hb); (replace Rz := Rz.later hb); (replace hb0 := below_step hb0 hb); go_wp2_with fail)
  refine hK.out _ _ ?hSr86_17_14 (fun hHeld2 => ?_)
  case hSr86_17_14 => (obtain ⟨Qd, Qe, Qy, Qz⟩ := hHeld; exact ⟨Qd.later hb, Qe.later hb, Qy.later hb, Qz.later hb⟩)
  clear hK K hHeld
  have hHeld := hHeld2
  clear hHeld2
  rename World => wq
  (try simp only [Act.put, nz1, nz2, nz3])
  refine wpAnyH_ready (rs := [17]) (by kernel_rfl) (by simp) ?_
  refine AllReadyH.cons (o := ⟨some 42, .call { callee := .value (.func 33), args := #[.tmp 40, .tmp 41], argTypes := #[33, 33] }, 3, _, _, _⟩) rfl (fun K hK => ?_) AllReadyH.nil
  (go_simp; (refine (H4 _).mono ?_); (rintro e wz ⟨rfl, hb⟩); (replace Rg := Rg.later hb); (replace Rd := Rd.later hb); (replace Re := Re.later hb); (replace Ry := Ry.later hb); (replace Rz := Rz.later hb); (replace hb0 := below_step hb0 hb); go_wp2_with fail)
  refine hK.out _ _ ?hSr86_18_17 (fun hHeld2 => ?_)
  case hSr86_18_17 => (obtain ⟨Qd, Qe, Qy, Qz⟩ := hHeld; exact ⟨Qd.later hb, Qe.later hb, Qy.later hb, Qz.later hb⟩)
  clear hK K hHeld
  have hHeld := hHeld2
  clear hHeld2
  rename World => wq
  (try simp only [Act.put, nz1, nz2, nz3])
  refine tk 18 ⟨some 43, .binOp .eql 3 (.tmp 39) (.tmp 42) 3, 4, _, _, _⟩ hHeld ?_
  (try simp only [Act.put, nz1, nz2, nz3])
  refine tk 19 ⟨some 44, .pick (.tmp 36) (.tmp 43) (.const (.bool false)), 4, _, _, _⟩ hHeld ?_
  (try simp only [Act.put, nz1, nz2, nz3])
  refine tk 20 ⟨some 6, .assign (.tmp 44), 4, _, _, _⟩ hHeld ?_
  (try simp only [Act.put, nz1, nz2, nz3])
  refine wpAnyH_done (by kernel_rfl) ?_ _
  clear hHeld
  rename World => w4
  have lg := Rg.lt
  have ld := Rd.lt
  have le := Re.lt
  have ly := Ry.lt
  have lz := Rz.lt
  (try clear g0 g1 g2 g3 g4 g5 g6); obtain ⟨g0, g1, g2, g3, g4, g5, g6⟩ := row7 Rg
  (try clear d0 d1 d2 d3 d4 d5 d6 d7 d8 d9 d10 d11); obtain ⟨d0, d1, d2, d3, d4, d5, d6, d7, d8, d9, d10, d11⟩ := row12 Rd
  (try clear e0 e1 e2 e3 e4 e5 e6 e7 e8 e9 e10 e11); obtain ⟨e0, e1, e2, e3, e4, e5, e6, e7, e8, e9, e10, e11⟩ := row12 Re
  (try clear y0 y1 y2 y3 y4 y5 y6 y7 y8 y9 y10 y11); obtain ⟨y0, y1, y2, y3, y4, y5, y6, y7, y8, y9, y10, y11⟩ := row12 Ry
  (try clear z0 z1 z2 z3 z4 z5 z6 z7 z8 z9 z10 z11); obtain ⟨z0, z1, z2, z3, z4, z5, z6, z7, z8, z9, z10, z11⟩ := row12 Rz
  go_wp2
  go_ret
  exact ⟨rfl, hb0⟩
theorem crosses9_any (s : Sp) (p q : Px) (op : p.ok) (oq : q.ok) (w : World) : Calls Try.prog 5 #[sv s, pv p, pv q] w fun e w' => e = .returned (.bool true) ∧ Below w.heap.size w w' := by
  have H1 := cross9_t s p q op oq
  have H2 := rcross_t s p q op oq
  have H3 := pcmp_t p q op oq
  have H4 := rpcmp_t p q op oq
  cases h : crossB s p q with
  | false => rw [h] at H1 H2; exact crosses9_false s p q _ _ H1 H2 H3 H4 w
  | true => rw [h] at H1 H2; exact crosses9_true s p q _ _ H1 H2 H3 H4 w
end Go.Proofs.Ytbekocknfpekoaa
namespace Go.Proofs.Ytbekocknfpekoaa
set_option linter.unusedVariables false
set_option linter.unusedSimpArgs false
open Go.ChangeShapes Go.WideShapes Go.ChangeAt Go.RowKit Go.Joins Go.Deep
theorem cellsPx : Try.prog.cellsOf 33 = 12 := by kernel_rfl
theorem cellsSp : Try.prog.cellsOf 26 = 7 := by kernel_rfl
theorem cellsAt : Try.prog.cellsOf 27 = 2 := by kernel_rfl
theorem cellsK2 : Try.prog.cellsOf 31 = 10 := by kernel_rfl
theorem cellsD2 : Try.prog.cellsOf 24 = 6 := by kernel_rfl
theorem cellsInt : Try.prog.cellsOf 3 = 1 := by kernel_rfl
section
variable {H : Type} {enc : TypeId × Value → H} {W : World} {base : Nat} {sp : Nat → Bool} {held : Bool}
def keyData (k : Ke) : DataW H := .agg [.lit (.int .i64 k.kind), .lit (.int .i64 k.len), .lit (.int .u64 k.h), .lit (.int .u64 k.l), .lit (.string k.path)]
set_option maxRecDepth 100000 in
theorem keyc_of {c0 c1 c2 c3 c4 : Value} {x : DataW H × List MemPlace} {fuel : Nat} (hf : DataW.trod enc Try.prog W base sp held fuel 30 [c0, c1, c2, c3, c4] = some x) :
    ∃ k : Ke, c0 = .int .i64 k.kind ∧ c1 = .int .i64 k.len ∧ c2 = .int .u64 k.h ∧ c3 = .int .u64 k.l ∧ c4 = .string ⟨k.path.toArray⟩ ∧ k.okL ∧ x.1 = keyData k := by
  have hs := Try.underlying30
  have F := field_at hs (by kernel_rfl) hf
  obtain ⟨_, _, h0, d0⟩ := F 0 _ c0 rfl rfl
  obtain ⟨_, _, h1, d1⟩ := F 1 _ c1 rfl rfl
  obtain ⟨_, _, h2, d2⟩ := F 2 _ c2 rfl rfl
  obtain ⟨_, _, h3, d3⟩ := F 3 _ c3 rfl rfl
  obtain ⟨_, _, h4, d4⟩ := F 4 _ c4 rfl rfl
  obtain ⟨n0, e0, g0, w0⟩ := DataW.trod_int Try.underlying3 h0
  obtain ⟨n1, e1, g1, w1⟩ := DataW.trod_int Try.underlying3 h1
  obtain ⟨n2, e2, g2, w2⟩ := DataW.trod_int Try.underlying28 h2
  obtain ⟨n3, e3, g3, w3⟩ := DataW.trod_int Try.underlying28 h3
  obtain ⟨s, e4, g4, w4⟩ := DataW.trod_string Try.underlying9 h4
  subst g0 g1 g2 g3 g4
  simp only [List.cons.injEq, and_true] at e0 e1 e2 e3 e4
  subst e0 e1 e2 e3 e4
  simp [Lit.wf, IntKind.min, IntKind.max, IntKind.signed, IntKind.bits] at w0 w1 w2 w3
  refine ⟨⟨n0, n1, n2, n3, s.data.toList⟩, rfl, rfl, rfl, rfl, rfl, ?_, ?_⟩
  · constructor <;> dsimp only
    · unfold Word; omega
    · unfold Word; omega
    · omega
    · omega
    · omega
    · omega
  · obtain ⟨ys, hy, hl, z0⟩ := d0
    obtain ⟨y1, hy1, _, z1⟩ := d1
    obtain ⟨y2, hy2, _, z2⟩ := d2
    obtain ⟨y3, hy3, _, z3⟩ := d3
    obtain ⟨y4, hy4, _, z4⟩ := d4
    rw [hy] at hy1 hy2 hy3 hy4
    cases hy1; cases hy2; cases hy3; cases hy4
    rw [hy]
    match ys, hl with
    | [a, b, c, d, e], _ =>
      simp at z0 z1 z2 z3 z4
      rw [z0, z1, z2, z3, z4]; rfl
def pxData (p : Px) : DataW H := .agg [.agg [.lit (.int .i64 p.a0), .lit (.int .i64 p.a1)], .agg [keyData p.k0, keyData p.k1]]
/-- what a prefix holds as an argument, its paths' lengths aside -/
structure Px.okL (p : Px) : Prop where
  k0 : p.k0.okL
  k1 : p.k1.okL
  a00 : -9223372036854775808 ≤ p.a0
  a01 : p.a0 ≤ 9223372036854775807
  a10 : -9223372036854775808 ≤ p.a1
  a11 : p.a1 ≤ 9223372036854775807
theorem int_cell {c : Value} {x : DataW H × List MemPlace} {fuel : Nat} (hf : DataW.trod enc Try.prog W base sp held fuel 3 [c] = some x) : ∃ n : Int, c = .int .i64 n ∧ x.1 = .lit (.int .i64 n) ∧ -9223372036854775808 ≤ n ∧ n ≤ 9223372036854775807 := by
  obtain ⟨n, e, g, w⟩ := DataW.trod_int Try.underlying3 hf
  simp only [List.cons.injEq, and_true] at e
  simp [Lit.wf, IntKind.min, IntKind.max, IntKind.signed, IntKind.bits] at w
  subst g
  exact ⟨n, e, rfl, by omega, by omega⟩
theorem pair_of {α : Type} {xs : List α} (h : xs.length = 2) : ∃ a b, xs = [a, b] := by
  match xs, h with
  | [a, b], _ => exact ⟨a, b, rfl⟩
set_option maxRecDepth 100000 in
theorem px_of_trod {v : Value} {d : DataW H} {p : List MemPlace} {r : Reach} {b0 : Nat} (hv : Value.okWide Try.prog W r b0 33 v) (h : DataW.Trod enc Try.prog W base sp held 33 v d p) : ∃ k : Px, v = pv k ∧ k.okL ∧ d = pxData k := by
  have hs := Try.underlying33
  obtain ⟨⟨l⟩, rfl, hsz⟩ := okWide_struct hs hv
  obtain ⟨fuel, hf⟩ := h
  match l, hsz.trans cellsPx with
  | [c0, c1, c2, c3, c4, c5, c6, c7, c8, c9, c10, c11], _ =>
    obtain ⟨y0, y1, n, hx, _, h0, h1⟩ := trod_struct2 hs hf
    rw [cellsAt] at h0
    rw [cellsK2] at h1
    simp [Value.cells] at h0 h1
    obtain ⟨xs, m, _, rfl, _, hl, hi⟩ := DataW.trod_array Try.underlying27 h0
    obtain ⟨zs, m2, _, rfl, _, hl2, hi2⟩ := DataW.trod_array Try.underlying31 h1
    rw [cellsInt] at hi
    rw [cellsKey] at hi2
    obtain ⟨xa, xb, rfl⟩ := pair_of hl
    obtain ⟨za, zb, rfl⟩ := pair_of hl2
    have g0 := hi 0 (by omega)
    have g1 := hi 1 (by omega)
    have g2 := hi2 0 (by omega)
    have g3 := hi2 1 (by omega)
    simp at g0 g1 g2 g3
    obtain ⟨n0, rfl, q0, r0, r1⟩ := int_cell g0
    obtain ⟨n1, rfl, q1, r2, r3⟩ := int_cell g1
    obtain ⟨k0, rfl, rfl, rfl, rfl, rfl, o0, e0⟩ := keyc_of g2
    obtain ⟨k1, rfl, rfl, rfl, rfl, rfl, o1, e1⟩ := keyc_of g3
    refine ⟨⟨n0, n1, k0, k1⟩, rfl, ⟨o0, o1, r0, r1, r2, r3⟩, ?_⟩
    have := congrArg Prod.fst hx
    simp only at this
    rw [this]
    simp [q0, q1, e0, e1, pxData]
theorem dimc_of {c0 c1 c2 : Value} {x : DataW H × List MemPlace} {fuel : Nat} (hf : DataW.trod enc Try.prog W base sp held fuel 23 [c0, c1, c2] = some x) : ∃ k : Dm, c0 = .int .i64 k.kind ∧ c1 = .int .i64 k.side ∧ c2 = .int .i64 k.step ∧ k.ok := by
  have hs := Try.underlying23
  have F := field_at hs (by kernel_rfl) hf
  obtain ⟨_, _, h0, _⟩ := F 0 _ c0 rfl rfl
  obtain ⟨_, _, h1, _⟩ := F 1 _ c1 rfl rfl
  obtain ⟨_, _, h2, _⟩ := F 2 _ c2 rfl rfl
  obtain ⟨n0, rfl, _, r0, r1⟩ := int_cell h0
  obtain ⟨n1, rfl, _, r2, r3⟩ := int_cell h1
  obtain ⟨n2, rfl, _, r4, r5⟩ := int_cell h2
  exact ⟨⟨n0, n1, n2⟩, rfl, rfl, rfl, ⟨r0, r1, r2, r3, r4, r5⟩⟩
set_option maxRecDepth 100000 in
theorem sp_of_trod {v : Value} {d : DataW H} {p : List MemPlace} {r : Reach} {b0 : Nat} (hv : Value.okWide Try.prog W r b0 26 v) (h : DataW.Trod enc Try.prog W base sp held 26 v d p) : ∃ s : Sp, v = sv s ∧ s.ok := by
  have hs := Try.underlying26
  obtain ⟨⟨l⟩, rfl, hsz⟩ := okWide_struct hs hv
  obtain ⟨fuel, hf⟩ := h
  match l, hsz.trans cellsSp with
  | [c0, c1, c2, c3, c4, c5, c6], _ =>
    obtain ⟨y0, y1, n, _, _, h0, h1⟩ := trod_struct2 hs hf
    rw [cellsInt] at h0
    rw [cellsD2] at h1
    simp [Value.cells] at h0 h1
    obtain ⟨n0, rfl, _, r0, r1⟩ := int_cell h0
    obtain ⟨zs, m2, _, rfl, _, hl2, hi2⟩ := DataW.trod_array Try.underlying24 h1
    rw [cellsDim] at hi2
    obtain ⟨za, zb, rfl⟩ := pair_of hl2
    have g2 := hi2 0 (by omega)
    have g3 := hi2 1 (by omega)
    simp at g2 g3
    obtain ⟨k0, rfl, rfl, rfl, o0⟩ := dimc_of g2
    obtain ⟨k1, rfl, rfl, rfl, o1⟩ := dimc_of g3
    exact ⟨⟨n0, k0, k1⟩, rfl, r0, r1, o0, o1⟩
theorem px_sized {ts : List TypeId} {ds : List (DataW H)} {d : DataW H} {j : Nat} {k : Px} (h : (DataW.weightsEach Try.prog ts ds).all (· ≤ reachBytes) = true) (ht : ts[j]? = some 33) (hd : ds[j]? = some d)
    (e : d = pxData k) (ok : k.okL) : k.ok := by
  subst e
  have hu := Try.underlying30
  have hu1 := Try.underlying33
  have hu2 := Try.underlying31
  have hu3 := Try.underlying27
  have m0 := List.all_eq_true.1 h _ (DataW.weights_mem_each ht hd k.k0.path.length (by simp [pxData, keyData, DataW.weights, DataW.weightsEach, DataW.weightsAll, hu, hu1, hu2, hu3]))
  have m1 := List.all_eq_true.1 h _ (DataW.weights_mem_each ht hd k.k1.path.length (by simp [pxData, keyData, DataW.weights, DataW.weightsEach, DataW.weightsAll, hu, hu1, hu2, hu3]))
  have h2 : k.k0.path.length ≤ reachBytes := by simpa using m0
  have h4 : k.k1.path.length ≤ reachBytes := by simpa using m1
  have h3 : reachBytes < 140737488355328 := by decide
  exact ⟨⟨ok.k0.h, ok.k0.l, ok.k0.k0, ok.k0.k1, ok.k0.n0, ok.k0.n1, by omega⟩, ⟨ok.k1.h, ok.k1.l, ok.k1.k0, ok.k1.k1, ok.k1.n0, ok.k1.n1, by omega⟩, ok.a00, ok.a01, ok.a10, ok.a11⟩
end
end Go.Proofs.Ytbekocknfpekoaa
