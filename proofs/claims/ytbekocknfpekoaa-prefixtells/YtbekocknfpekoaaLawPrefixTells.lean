/- LawPrefixTells: what the theorem needs of these texts. No conditions beyond those that are written. -/
import Derived.Test.YtbekocknfpekoaaJF0
import Derived.Test.YtbekocknfpekoaaR9b
import Derived.Test.YtbekocknfpekoaaPA
import Derived.Test.YtbekocknfpekoaaJP11
namespace Go.Proofs.Ytbekocknfpekoaa
set_option linter.unusedVariables false
set_option linter.unusedSimpArgs false
open Go.RowKit
set_option maxRecDepth 100000 in
set_option maxHeartbeats 32000000 in
theorem tells9_a (s : Sp) (p l t : Px)
    (H1 : ∀ w, Calls Try.prog 16 #[sv s, kv p.k0, kv p.k1] w fun e w' => e = .returned (.tuple #[pv l, .bool false]) ∧ Below w.heap.size w w')
    (H2 : ∀ w, Calls Try.prog 17 #[sv s, kv p.k0, kv p.k1] w fun e w' => e = .returned (.tuple #[pv l, .bool false]) ∧ Below w.heap.size w w')
    (H3 : ∀ w, Calls Try.prog 18 #[sv s] w fun e w' => e = .returned (.bool false) ∧ Below w.heap.size w w')
    (H4 : ∀ w, Calls Try.prog 19 #[sv s] w fun e w' => e = .returned (.bool false) ∧ Below w.heap.size w w')
    (H5 : ∀ w, Calls Try.prog 20 #[sv s, pv p] w fun e w' => e = .returned (.bool false) ∧ Below w.heap.size w w')
    (H6 : ∀ w, Calls Try.prog 21 #[sv s, pv p] w fun e w' => e = .returned (.bool false) ∧ Below w.heap.size w w')
    (H7 : ∀ w, Calls Try.prog 22 #[sv s] w fun e w' => e = .returned (pv t) ∧ Below w.heap.size w w')
    (H8 : ∀ w, Calls Try.prog 23 #[sv s] w fun e w' => e = .returned (pv t) ∧ Below w.heap.size w w')
    (H9 : ∀ w, Calls Try.prog 25 #[sv s, pv p] w fun e w' => e = .returned (.int .i64 0) ∧ Below w.heap.size w w') (w : World) :
    Calls Try.prog 3 #[sv s, pv p] w fun e w' => e = .returned (.bool true) ∧ Below w.heap.size w w' := by
  have HA := alive9_t
  have ql := neq_px l l
  have qt := neq_px t t
  rw [decide_eq_true rfl] at ql qt
  unfold sv pv kv at *
  obtain ⟨Rg, Rd, hb0⟩ := two_rows w #[.int .i64 s.n, .int .i64 s.d0.kind, .int .i64 s.d0.side, .int .i64 s.d0.step, .int .i64 s.d1.kind, .int .i64 s.d1.side, .int .i64 s.d1.step] #[.int .i64 p.a0, .int .i64 p.a1, .int .i64 p.k0.kind, .int .i64 p.k0.len, .int .u64 p.k0.h, .int .u64 p.k0.l, .string ⟨p.k0.path.toArray⟩, .int .i64 p.k1.kind, .int .i64 p.k1.len, .int .u64 p.k1.h, .int .u64 p.k1.l, .string ⟨p.k1.path.toArray⟩] 26 33
  (try clear g0 g1 g2 g3 g4 g5 g6); obtain ⟨g0, g1, g2, g3, g4, g5, g6⟩ := row7 Rg
  (try clear d0 d1 d2 d3 d4 d5 d6 d7 d8 d9 d10 d11); obtain ⟨d0, d1, d2, d3, d4, d5, d6, d7, d8, d9, d10, d11⟩ := row12 Rd
  go_enter Try.func3, Try.ntmps3
  go_wp2_with fail
  refine (H1 _).mono ?_
  rintro e w1 ⟨rfl, hb⟩
  replace Rg := Rg.later hb
  replace Rd := Rd.later hb
  replace hb0 := below_step hb0 hb
  clear hb
  have lg := Rg.lt
  have ld := Rd.lt
  (try clear g0 g1 g2 g3 g4 g5 g6); obtain ⟨g0, g1, g2, g3, g4, g5, g6⟩ := row7 Rg
  (try clear d0 d1 d2 d3 d4 d5 d6 d7 d8 d9 d10 d11); obtain ⟨d0, d1, d2, d3, d4, d5, d6, d7, d8, d9, d10, d11⟩ := row12 Rd
  go_wp2_with fail
  refine (H2 _).mono ?_
  rintro e w2 ⟨rfl, hb⟩
  have nyg := Rg.lt
  have nyd := Rd.lt
  replace Rg := (Rg.alloc _).later hb
  replace Rd := (Rd.alloc _).later hb
  have Ry := Row.later (Row.new _ _ _) hb
  have my := hb0.size
  replace hb0 := below_step (hb0.alloc hb0.size _) hb
  clear hb
  generalize w1.heap.size = gy at *
  have lg := Rg.lt
  have ld := Rd.lt
  have ly := Ry.lt
  (try clear g0 g1 g2 g3 g4 g5 g6); obtain ⟨g0, g1, g2, g3, g4, g5, g6⟩ := row7 Rg
  (try clear d0 d1 d2 d3 d4 d5 d6 d7 d8 d9 d10 d11); obtain ⟨d0, d1, d2, d3, d4, d5, d6, d7, d8, d9, d10, d11⟩ := row12 Rd
  (try clear y0 y1 y2 y3 y4 y5 y6 y7 y8 y9 y10 y11); obtain ⟨y0, y1, y2, y3, y4, y5, y6, y7, y8, y9, y10, y11⟩ := row12 Ry
  go_wp2_with fail
  replace Rg := Rg.alloc (.cells #[Value.int .i64 l.a0, Value.int .i64 l.a1, Value.int .i64 l.k0.kind, Value.int .i64 l.k0.len, Value.int .u64 l.k0.h, Value.int .u64 l.k0.l, Value.string ⟨l.k0.path.toArray⟩, Value.int .i64 l.k1.kind, Value.int .i64 l.k1.len, Value.int .u64 l.k1.h, Value.int .u64 l.k1.l, Value.string ⟨l.k1.path.toArray⟩] 33)
  replace Rd := Rd.alloc (.cells #[Value.int .i64 l.a0, Value.int .i64 l.a1, Value.int .i64 l.k0.kind, Value.int .i64 l.k0.len, Value.int .u64 l.k0.h, Value.int .u64 l.k0.l, Value.string ⟨l.k0.path.toArray⟩, Value.int .i64 l.k1.kind, Value.int .i64 l.k1.len, Value.int .u64 l.k1.h, Value.int .u64 l.k1.l, Value.string ⟨l.k1.path.toArray⟩] 33)
  replace Ry := Ry.alloc (.cells #[Value.int .i64 l.a0, Value.int .i64 l.a1, Value.int .i64 l.k0.kind, Value.int .i64 l.k0.len, Value.int .u64 l.k0.h, Value.int .u64 l.k0.l, Value.string ⟨l.k0.path.toArray⟩, Value.int .i64 l.k1.kind, Value.int .i64 l.k1.len, Value.int .u64 l.k1.h, Value.int .u64 l.k1.l, Value.string ⟨l.k1.path.toArray⟩] 33)
  have Rz := Row.new w2 #[Value.int .i64 l.a0, Value.int .i64 l.a1, Value.int .i64 l.k0.kind, Value.int .i64 l.k0.len, Value.int .u64 l.k0.h, Value.int .u64 l.k0.l, Value.string ⟨l.k0.path.toArray⟩, Value.int .i64 l.k1.kind, Value.int .i64 l.k1.len, Value.int .u64 l.k1.h, Value.int .u64 l.k1.l, Value.string ⟨l.k1.path.toArray⟩] 33
  have mz := hb0.size
  replace hb0 := hb0.alloc hb0.size (.cells #[Value.int .i64 l.a0, Value.int .i64 l.a1, Value.int .i64 l.k0.kind, Value.int .i64 l.k0.len, Value.int .u64 l.k0.h, Value.int .u64 l.k0.l, Value.string ⟨l.k0.path.toArray⟩, Value.int .i64 l.k1.kind, Value.int .i64 l.k1.len, Value.int .u64 l.k1.h, Value.int .u64 l.k1.l, Value.string ⟨l.k1.path.toArray⟩] 33)
  (try clear g0 g1 g2 g3 g4 g5 g6); obtain ⟨g0, g1, g2, g3, g4, g5, g6⟩ := row7 Rg
  (try clear d0 d1 d2 d3 d4 d5 d6 d7 d8 d9 d10 d11); obtain ⟨d0, d1, d2, d3, d4, d5, d6, d7, d8, d9, d10, d11⟩ := row12 Rd
  (try clear y0 y1 y2 y3 y4 y5 y6 y7 y8 y9 y10 y11); obtain ⟨y0, y1, y2, y3, y4, y5, y6, y7, y8, y9, y10, y11⟩ := row12 Ry
  (try clear z0 z1 z2 z3 z4 z5 z6 z7 z8 z9 z10 z11); obtain ⟨z0, z1, z2, z3, z4, z5, z6, z7, z8, z9, z10, z11⟩ := row12 Rz
  generalize (World.alloc w2 (.cells #[Value.int .i64 l.a0, Value.int .i64 l.a1, Value.int .i64 l.k0.kind, Value.int .i64 l.k0.len, Value.int .u64 l.k0.h, Value.int .u64 l.k0.l, Value.string ⟨l.k0.path.toArray⟩, Value.int .i64 l.k1.kind, Value.int .i64 l.k1.len, Value.int .u64 l.k1.h, Value.int .u64 l.k1.l, Value.string ⟨l.k1.path.toArray⟩] 33)) = w3 at *
  refine wp_region_held_drew (S := (fun w' => Row w' w.heap.size #[.int .i64 s.n, .int .i64 s.d0.kind, .int .i64 s.d0.side, .int .i64 s.d0.step, .int .i64 s.d1.kind, .int .i64 s.d1.side, .int .i64 s.d1.step] 26 ∧ Row w' (w.heap.size + 1) #[.int .i64 p.a0, .int .i64 p.a1, .int .i64 p.k0.kind, .int .i64 p.k0.len, .int .u64 p.k0.h, .int .u64 p.k0.l, .string ⟨p.k0.path.toArray⟩, .int .i64 p.k1.kind, .int .i64 p.k1.len, .int .u64 p.k1.h, .int .u64 p.k1.l, .string ⟨p.k1.path.toArray⟩] 33 ∧ Row w' gy #[.int .i64 l.a0, .int .i64 l.a1, .int .i64 l.k0.kind, .int .i64 l.k0.len, .int .u64 l.k0.h, .int .u64 l.k0.l, .string ⟨l.k0.path.toArray⟩, .int .i64 l.k1.kind, .int .i64 l.k1.len, .int .u64 l.k1.h, .int .u64 l.k1.l, .string ⟨l.k1.path.toArray⟩] 33 ∧ Row w' w2.heap.size #[.int .i64 l.a0, .int .i64 l.a1, .int .i64 l.k0.kind, .int .i64 l.k0.len, .int .u64 l.k0.h, .int .u64 l.k0.l, .string ⟨l.k0.path.toArray⟩, .int .i64 l.k1.kind, .int .i64 l.k1.len, .int .u64 l.k1.h, .int .u64 l.k1.l, .string ⟨l.k1.path.toArray⟩] 33)) (by kernel_rfl) ?hSr93_ (fun hHeld => ?_)
  case hSr93_ => (exact ⟨Rg.drew, Rd.drew, Ry.drew, Rz.drew⟩)
  (clear g0 g1 g2 g3 g4 g5 g6 d0 d1 d2 d3 d4 d5 d6 d7 d8 d9 d10 d11 y0 y1 y2 y3 y4 y5 y6 y7 y8 y9 y10 y11 z0 z1 z2 z3 z4 z5 z6 z7 z8 z9 z10 z11; (replace Rg := Rg.drew); (replace Rd := Rd.drew); (replace Ry := Ry.drew); (replace Rz := Rz.drew); (replace hb0 := hb0.drew); (generalize World.drew w3 = wq at *))
  refine tk 0 ⟨some 31, .load 33 (.tmp 5), 33, _, _, _⟩ hHeld ?_ (v := ?vr93_1_0) (hy := ?yr93_1_0)
  case yr93_1_0 => (intro wy hSw; obtain ⟨Qg, Qd, Qy, Qz⟩ := hSw; (with_reducible refine pexec_load 33 (.tmp 5) ?_ gy ?_ 33 #[.int .i64 l.a0, .int .i64 l.a1, .int .i64 l.k0.kind, .int .i64 l.k0.len, .int .u64 l.k0.h, .int .u64 l.k0.l, .string ⟨l.k0.path.toArray⟩, .int .i64 l.k1.kind, .int .i64 l.k1.len, .int .u64 l.k1.h, .int .u64 l.k1.l, .string ⟨l.k1.path.toArray⟩] _ Qy Try.underlying33 ?_ ?_) <;> first | rfl | exact infoPx)
  (try simp only [Act.put, nz1, nz2, nz3])
  refine tk 1 ⟨some 32, .load 33 (.tmp 7), 33, _, _, _⟩ hHeld ?_ (v := ?vr93_2_1) (hy := ?yr93_2_1)
  case yr93_2_1 => (intro wy hSw; obtain ⟨Qg, Qd, Qy, Qz⟩ := hSw; (with_reducible refine pexec_load 33 (.tmp 7) ?_ w2.heap.size ?_ 33 #[.int .i64 l.a0, .int .i64 l.a1, .int .i64 l.k0.kind, .int .i64 l.k0.len, .int .u64 l.k0.h, .int .u64 l.k0.l, .string ⟨l.k0.path.toArray⟩, .int .i64 l.k1.kind, .int .i64 l.k1.len, .int .u64 l.k1.h, .int .u64 l.k1.l, .string ⟨l.k1.path.toArray⟩] _ Qz Try.underlying33 ?_ ?_) <;> first | rfl | exact infoPx)
  (try simp only [Act.put, nz1, nz2, nz3])
  refine tk 2 ⟨some 33, .binOp .neq 33 (.tmp 31) (.tmp 32) 33, 4, _, _, _⟩ hHeld ?_
  (try simp only [Act.put, nz1, nz2, nz3])
  refine tk 3 ⟨some 34, .move (.tmp 33), 4, _, _, _⟩ hHeld ?_
  (try simp only [Act.put, nz1, nz2, nz3])
  refine tk 4 ⟨some 35, .move (.tmp 6), 4, _, _, _⟩ hHeld ?_
  (try simp only [Act.put, nz1, nz2, nz3])
  refine tk 5 ⟨some 36, .move (.tmp 8), 4, _, _, _⟩ hHeld ?_
  (try simp only [Act.put, nz1, nz2, nz3])
  refine tk 6 ⟨some 37, .binOp .neq 4 (.tmp 35) (.tmp 36) 4, 4, _, _, _⟩ hHeld ?_
  (try simp only [Act.put, nz1, nz2, nz3])
  refine tk 7 ⟨some 38, .pick (.tmp 34) (.const (.bool true)) (.tmp 37), 4, _, _, _⟩ hHeld ?_
  (try simp only [Act.put, nz1, nz2, nz3])
  refine tk 8 ⟨some 39, .move (.tmp 38), 4, _, _, _⟩ hHeld ?_
  (try simp only [Act.put, nz1, nz2, nz3])
  refine tk 9 ⟨some 40, .load 26 (.tmp 2), 26, _, _, _⟩ hHeld ?_ (v := ?vr93_10_9) (hy := ?yr93_10_9)
  case yr93_10_9 => (intro wy hSw; obtain ⟨Qg, Qd, Qy, Qz⟩ := hSw; (with_reducible refine pexec_load 26 (.tmp 2) ?_ w.heap.size ?_ 26 #[.int .i64 s.n, .int .i64 s.d0.kind, .int .i64 s.d0.side, .int .i64 s.d0.step, .int .i64 s.d1.kind, .int .i64 s.d1.side, .int .i64 s.d1.step] _ Qg Try.underlying26 ?_ ?_) <;> first | rfl | exact infoSp)
  (try simp only [Act.put, nz1, nz2, nz3])
  refine tk 11 ⟨some 42, .load 26 (.tmp 2), 26, _, _, _⟩ hHeld ?_ (v := ?vr93_11_11) (hy := ?yr93_11_11)
  case yr93_11_11 => (intro wy hSw; obtain ⟨Qg, Qd, Qy, Qz⟩ := hSw; (with_reducible refine pexec_load 26 (.tmp 2) ?_ w.heap.size ?_ 26 #[.int .i64 s.n, .int .i64 s.d0.kind, .int .i64 s.d0.side, .int .i64 s.d0.step, .int .i64 s.d1.kind, .int .i64 s.d1.side, .int .i64 s.d1.step] _ Qg Try.underlying26 ?_ ?_) <;> first | rfl | exact infoSp)
  (try simp only [Act.put, nz1, nz2, nz3])
  refine wpAnyH_ready (rs := [10]) (by kernel_rfl) (by simp) ?_
  refine AllReadyH.cons (o := ⟨some 41, .call { callee := .value (.func 18), args := #[.tmp 40], argTypes := #[26] }, 4, _, _, _⟩) rfl (fun K hK => ?_) AllReadyH.nil
  (go_simp; (refine (H3 _).mono ?_); (rintro e wz ⟨rfl, hb⟩); (replace Rg := Rg.later hb); (replace Rd := Rd.later hb); (replace Ry := Ry.later hb); (replace Rz := Rz.later hb); (replace hb0 := below_step hb0 hb); go_wp2_with fail)
  refine hK.out _ _ ?hSr93_12_10 (fun hHeld2 => ?_)
  case hSr93_12_10 => (obtain ⟨Qg, Qd, Qy, Qz⟩ := hHeld; exact ⟨Qg.later hb, Qd.later hb, Qy.later hb, Qz.later hb⟩)
  clear hK K hHeld
  have hHeld := hHeld2
  clear hHeld2
  rename World => wq
  (try simp only [Act.put, nz1, nz2, nz3])
  refine wpAnyH_ready (rs := [12]) (by kernel_rfl) (by simp) ?_
  refine AllReadyH.cons (o := ⟨some 43, .call { callee := .value (.func 19), args := #[.tmp 42], argTypes := #[26] }, 4, _, _, _⟩) rfl (fun K hK => ?_) AllReadyH.nil
  (go_simp; (refine (H4 _).mono ?_); (rintro e wz ⟨rfl, hb⟩); (replace Rg := Rg.later hb); (replace Rd := Rd.later hb); (replace Ry := Ry.later hb); (replace Rz := Rz.later hb); (replace hb0 := below_step hb0 hb); go_wp2_with fail)
  refine hK.out _ _ ?hSr93_13_12 (fun hHeld2 => ?_)
  case hSr93_13_12 => (obtain ⟨Qg, Qd, Qy, Qz⟩ := hHeld; exact ⟨Qg.later hb, Qd.later hb, Qy.later hb, Qz.later hb⟩)
  clear hK K hHeld
  have hHeld := hHeld2
  clear hHeld2
  rename World => wq
  (try simp only [Act.put, nz1, nz2, nz3])
  refine tk 13 ⟨some 44, .binOp .neq 4 (.tmp 41) (.tmp 43) 4, 4, _, _, _⟩ hHeld ?_
  (try simp only [Act.put, nz1, nz2, nz3])
  refine tk 14 ⟨some 45, .pick (.tmp 39) (.const (.bool true)) (.tmp 44), 4, _, _, _⟩ hHeld ?_
  (try simp only [Act.put, nz1, nz2, nz3])
  refine tk 15 ⟨some 46, .move (.tmp 45), 4, _, _, _⟩ hHeld ?_
  (try simp only [Act.put, nz1, nz2, nz3])
  refine tk 16 ⟨some 47, .load 26 (.tmp 2), 26, _, _, _⟩ hHeld ?_ (v := ?vr93_17_16) (hy := ?yr93_17_16)
  case yr93_17_16 => (intro wy hSw; obtain ⟨Qg, Qd, Qy, Qz⟩ := hSw; (with_reducible refine pexec_load 26 (.tmp 2) ?_ w.heap.size ?_ 26 #[.int .i64 s.n, .int .i64 s.d0.kind, .int .i64 s.d0.side, .int .i64 s.d0.step, .int .i64 s.d1.kind, .int .i64 s.d1.side, .int .i64 s.d1.step] _ Qg Try.underlying26 ?_ ?_) <;> first | rfl | exact infoSp)
  (try simp only [Act.put, nz1, nz2, nz3])
  refine tk 17 ⟨some 48, .load 33 (.tmp 3), 33, _, _, _⟩ hHeld ?_ (v := ?vr93_18_17) (hy := ?yr93_18_17)
  case yr93_18_17 => (intro wy hSw; obtain ⟨Qg, Qd, Qy, Qz⟩ := hSw; (with_reducible refine pexec_load 33 (.tmp 3) ?_ (w.heap.size + 1) ?_ 33 #[.int .i64 p.a0, .int .i64 p.a1, .int .i64 p.k0.kind, .int .i64 p.k0.len, .int .u64 p.k0.h, .int .u64 p.k0.l, .string ⟨p.k0.path.toArray⟩, .int .i64 p.k1.kind, .int .i64 p.k1.len, .int .u64 p.k1.h, .int .u64 p.k1.l, .string ⟨p.k1.path.toArray⟩] _ Qd Try.underlying33 ?_ ?_) <;> first | rfl | exact infoPx)
  (try simp only [Act.put, nz1, nz2, nz3])
  refine tk 19 ⟨some 50, .load 26 (.tmp 2), 26, _, _, _⟩ hHeld ?_ (v := ?vr93_19_19) (hy := ?yr93_19_19)
  case yr93_19_19 => (intro wy hSw; obtain ⟨Qg, Qd, Qy, Qz⟩ := hSw; (with_reducible refine pexec_load 26 (.tmp 2) ?_ w.heap.size ?_ 26 #[.int .i64 s.n, .int .i64 s.d0.kind, .int .i64 s.d0.side, .int .i64 s.d0.step, .int .i64 s.d1.kind, .int .i64 s.d1.side, .int .i64 s.d1.step] _ Qg Try.underlying26 ?_ ?_) <;> first | rfl | exact infoSp)
  (try simp only [Act.put, nz1, nz2, nz3])
  refine tk 20 ⟨some 51, .load 33 (.tmp 3), 33, _, _, _⟩ hHeld ?_ (v := ?vr93_20_20) (hy := ?yr93_20_20)
  case yr93_20_20 => (intro wy hSw; obtain ⟨Qg, Qd, Qy, Qz⟩ := hSw; (with_reducible refine pexec_load 33 (.tmp 3) ?_ (w.heap.size + 1) ?_ 33 #[.int .i64 p.a0, .int .i64 p.a1, .int .i64 p.k0.kind, .int .i64 p.k0.len, .int .u64 p.k0.h, .int .u64 p.k0.l, .string ⟨p.k0.path.toArray⟩, .int .i64 p.k1.kind, .int .i64 p.k1.len, .int .u64 p.k1.h, .int .u64 p.k1.l, .string ⟨p.k1.path.toArray⟩] _ Qd Try.underlying33 ?_ ?_) <;> first | rfl | exact infoPx)
  (try simp only [Act.put, nz1, nz2, nz3])
  refine wpAnyH_ready (rs := [18]) (by kernel_rfl) (by simp) ?_
  refine AllReadyH.cons (o := ⟨some 49, .call { callee := .value (.func 20), args := #[.tmp 47, .tmp 48], argTypes := #[26, 33] }, 4, _, _, _⟩) rfl (fun K hK => ?_) AllReadyH.nil
  (go_simp; (refine (H5 _).mono ?_); (rintro e wz ⟨rfl, hb⟩); (replace Rg := Rg.later hb); (replace Rd := Rd.later hb); (replace Ry := Ry.later hb); (replace Rz := Rz.later hb); (replace hb0 := below_step hb0 hb); go_wp2_with fail)
  refine hK.out _ _ ?hSr93_21_18 (fun hHeld2 => ?_)
  case hSr93_21_18 => (obtain ⟨Qg, Qd, Qy, Qz⟩ := hHeld; exact ⟨Qg.later hb, Qd.later hb, Qy.later hb, Qz.later hb⟩)
  clear hK K hHeld
  have hHeld := hHeld2
  clear hHeld2
  rename World => wq
  (try simp only [Act.put, nz1, nz2, nz3])
  refine wpAnyH_ready (rs := [21]) (by kernel_rfl) (by simp) ?_
  refine AllReadyH.cons (o := ⟨some 52, .call { callee := .value (.func 21), args := #[.tmp 50, .tmp 51], argTypes := #[26, 33] }, 4, _, _, _⟩) rfl (fun K hK => ?_) AllReadyH.nil
  (go_simp; (refine (H6 _).mono ?_); (rintro e wz ⟨rfl, hb⟩); (replace Rg := Rg.later hb); (replace Rd := Rd.later hb); (replace Ry := Ry.later hb); (replace Rz := Rz.later hb); (replace hb0 := below_step hb0 hb); go_wp2_with fail)
  refine hK.out _ _ ?hSr93_22_21 (fun hHeld2 => ?_)
  case hSr93_22_21 => (obtain ⟨Qg, Qd, Qy, Qz⟩ := hHeld; exact ⟨Qg.later hb, Qd.later hb, Qy.later hb, Qz.later hb⟩)
  clear hK K hHeld
  have hHeld := hHeld2
  clear hHeld2
  rename World => wq
  (try simp only [Act.put, nz1, nz2, nz3])
  refine tk 22 ⟨some 53, .binOp .neq 4 (.tmp 49) (.tmp 52) 4, 4, _, _, _⟩ hHeld ?_
  (try simp only [Act.put, nz1, nz2, nz3])
  refine tk 23 ⟨some 54, .pick (.tmp 46) (.const (.bool true)) (.tmp 53), 4, _, _, _⟩ hHeld ?_
  (try simp only [Act.put, nz1, nz2, nz3])
  refine tk 24 ⟨some 55, .move (.tmp 54), 4, _, _, _⟩ hHeld ?_
  (try simp only [Act.put, nz1, nz2, nz3])
  refine tk 25 ⟨some 56, .load 26 (.tmp 2), 26, _, _, _⟩ hHeld ?_ (v := ?vr93_26_25) (hy := ?yr93_26_25)
  case yr93_26_25 => (intro wy hSw; obtain ⟨Qg, Qd, Qy, Qz⟩ := hSw; (with_reducible refine pexec_load 26 (.tmp 2) ?_ w.heap.size ?_ 26 #[.int .i64 s.n, .int .i64 s.d0.kind, .int .i64 s.d0.side, .int .i64 s.d0.step, .int .i64 s.d1.kind, .int .i64 s.d1.side, .int .i64 s.d1.step] _ Qg Try.underlying26 ?_ ?_) <;> first | rfl | exact infoSp)
  (try simp only [Act.put, nz1, nz2, nz3])
  refine tk 27 ⟨some 58, .load 26 (.tmp 2), 26, _, _, _⟩ hHeld ?_ (v := ?vr93_27_27) (hy := ?yr93_27_27)
  case yr93_27_27 => (intro wy hSw; obtain ⟨Qg, Qd, Qy, Qz⟩ := hSw; (with_reducible refine pexec_load 26 (.tmp 2) ?_ w.heap.size ?_ 26 #[.int .i64 s.n, .int .i64 s.d0.kind, .int .i64 s.d0.side, .int .i64 s.d0.step, .int .i64 s.d1.kind, .int .i64 s.d1.side, .int .i64 s.d1.step] _ Qg Try.underlying26 ?_ ?_) <;> first | rfl | exact infoSp)
  (try simp only [Act.put, nz1, nz2, nz3])
  refine wpAnyH_ready (rs := [26]) (by kernel_rfl) (by simp) ?_
  refine AllReadyH.cons (o := ⟨some 57, .call { callee := .value (.func 22), args := #[.tmp 56], argTypes := #[26] }, 33, _, _, _⟩) rfl (fun K hK => ?_) AllReadyH.nil
  (go_simp; (refine (H7 _).mono ?_); (rintro e wz ⟨rfl, hb⟩); (replace Rg := Rg.later hb); (replace Rd := Rd.later hb); (replace Ry := Ry.later hb); (replace Rz := Rz.later hb); (replace hb0 := below_step hb0 hb); go_wp2_with fail)
  refine hK.out _ _ ?hSr93_28_26 (fun hHeld2 => ?_)
  case hSr93_28_26 => (obtain ⟨Qg, Qd, Qy, Qz⟩ := hHeld; exact ⟨Qg.later hb, Qd.later hb, Qy.later hb, Qz.later hb⟩)
  clear hK K hHeld
  have hHeld := hHeld2
  clear hHeld2
  rename World => wq
  (try simp only [Act.put, nz1, nz2, nz3])
  refine wpAnyH_ready (rs := [28]) (by kernel_rfl) (by simp) ?_
  refine AllReadyH.cons (o := ⟨some 59, .call { callee := .value (.func 23), args := #[.tmp 58], argTypes := #[26] }, 33, _, _, _⟩) rfl (fun K hK => ?_) AllReadyH.nil
  (go_simp; (refine (H8 _).mono ?_); (rintro e wz ⟨rfl, hb⟩); (replace Rg := Rg.later hb); (replace Rd := Rd.later hb); (replace Ry := Ry.later hb); (replace Rz := Rz.later hb); (replace hb0 := below_step hb0 hb); go_wp2_with fail)
  refine hK.out _ _ ?hSr93_29_28 (fun hHeld2 => ?_)
  case hSr93_29_28 => (obtain ⟨Qg, Qd, Qy, Qz⟩ := hHeld; exact ⟨Qg.later hb, Qd.later hb, Qy.later hb, Qz.later hb⟩)
  clear hK K hHeld
  have hHeld := hHeld2
  clear hHeld2
  rename World => wq
  (try simp only [Act.put, nz1, nz2, nz3])
  refine tk 29 ⟨some 60, .binOp .neq 33 (.tmp 57) (.tmp 59) 33, 4, _, _, _⟩ hHeld ?_
  (try simp only [Act.put, nz1, nz2, nz3])
  refine tk 30 ⟨some 61, .pick (.tmp 55) (.const (.bool true)) (.tmp 60), 4, _, _, _⟩ hHeld ?_
  (try simp only [Act.put, nz1, nz2, nz3])
  refine wpAnyH_done (by kernel_rfl) ?_ _
  clear hHeld
  rename World => w4
  have lg := Rg.lt
  have ld := Rd.lt
  have ly := Ry.lt
  have lz := Rz.lt
  (try clear g0 g1 g2 g3 g4 g5 g6); obtain ⟨g0, g1, g2, g3, g4, g5, g6⟩ := row7 Rg
  (try clear d0 d1 d2 d3 d4 d5 d6 d7 d8 d9 d10 d11); obtain ⟨d0, d1, d2, d3, d4, d5, d6, d7, d8, d9, d10, d11⟩ := row12 Rd
  (try clear y0 y1 y2 y3 y4 y5 y6 y7 y8 y9 y10 y11); obtain ⟨y0, y1, y2, y3, y4, y5, y6, y7, y8, y9, y10, y11⟩ := row12 Ry
  (try clear z0 z1 z2 z3 z4 z5 z6 z7 z8 z9 z10 z11); obtain ⟨z0, z1, z2, z3, z4, z5, z6, z7, z8, z9, z10, z11⟩ := row12 Rz
  go_wp2_with fail
  refine (H6 _).mono ?_
  rintro e w5 ⟨rfl, hb⟩
  replace Rg := Rg.later hb
  replace Rd := Rd.later hb
  replace Ry := Ry.later hb
  replace Rz := Rz.later hb
  replace hb0 := below_step hb0 hb
  clear hb
  have lg := Rg.lt
  have ld := Rd.lt
  have ly := Ry.lt
  have lz := Rz.lt
  (try clear g0 g1 g2 g3 g4 g5 g6); obtain ⟨g0, g1, g2, g3, g4, g5, g6⟩ := row7 Rg
  (try clear d0 d1 d2 d3 d4 d5 d6 d7 d8 d9 d10 d11); obtain ⟨d0, d1, d2, d3, d4, d5, d6, d7, d8, d9, d10, d11⟩ := row12 Rd
  (try clear y0 y1 y2 y3 y4 y5 y6 y7 y8 y9 y10 y11); obtain ⟨y0, y1, y2, y3, y4, y5, y6, y7, y8, y9, y10, y11⟩ := row12 Ry
  (try clear z0 z1 z2 z3 z4 z5 z6 z7 z8 z9 z10 z11); obtain ⟨z0, z1, z2, z3, z4, z5, z6, z7, z8, z9, z10, z11⟩ := row12 Rz
  go_wp2_with fail
  refine (HA _).mono ?_
  rintro e w6 ⟨rfl, hb⟩
  replace Rg := Rg.later hb
  replace Rd := Rd.later hb
  replace Ry := Ry.later hb
  replace Rz := Rz.later hb
  replace hb0 := below_step hb0 hb
  clear hb
  have lg := Rg.lt
  have ld := Rd.lt
  have ly := Ry.lt
  have lz := Rz.lt
  (try clear g0 g1 g2 g3 g4 g5 g6); obtain ⟨g0, g1, g2, g3, g4, g5, g6⟩ := row7 Rg
  (try clear d0 d1 d2 d3 d4 d5 d6 d7 d8 d9 d10 d11); obtain ⟨d0, d1, d2, d3, d4, d5, d6, d7, d8, d9, d10, d11⟩ := row12 Rd
  (try clear y0 y1 y2 y3 y4 y5 y6 y7 y8 y9 y10 y11); obtain ⟨y0, y1, y2, y3, y4, y5, y6, y7, y8, y9, y10, y11⟩ := row12 Ry
  (try clear z0 z1 z2 z3 z4 z5 z6 z7 z8 z9 z10 z11); obtain ⟨z0, z1, z2, z3, z4, z5, z6, z7, z8, z9, z10, z11⟩ := row12 Rz
  go_wp2_with fail
  refine (H9 _).mono ?_
  rintro e w7 ⟨rfl, hb⟩
  replace Rg := Rg.later hb
  replace Rd := Rd.later hb
  replace Ry := Ry.later hb
  replace Rz := Rz.later hb
  replace hb0 := below_step hb0 hb
  clear hb
  have lg := Rg.lt
  have ld := Rd.lt
  have ly := Ry.lt
  have lz := Rz.lt
  (try clear g0 g1 g2 g3 g4 g5 g6); obtain ⟨g0, g1, g2, g3, g4, g5, g6⟩ := row7 Rg
  (try clear d0 d1 d2 d3 d4 d5 d6 d7 d8 d9 d10 d11); obtain ⟨d0, d1, d2, d3, d4, d5, d6, d7, d8, d9, d10, d11⟩ := row12 Rd
  (try clear y0 y1 y2 y3 y4 y5 y6 y7 y8 y9 y10 y11); obtain ⟨y0, y1, y2, y3, y4, y5, y6, y7, y8, y9, y10, y11⟩ := row12 Ry
  (try clear z0 z1 z2 z3 z4 z5 z6 z7 z8 z9 z10 z11); obtain ⟨z0, z1, z2, z3, z4, z5, z6, z7, z8, z9, z10, z11⟩ := row12 Rz
  go_wp2
  go_ret
  exact ⟨rfl, hb0⟩
set_option maxRecDepth 100000 in
set_option maxHeartbeats 32000000 in
theorem tells9_b (s : Sp) (p l t : Px)
    (H1 : ∀ w, Calls Try.prog 16 #[sv s, kv p.k0, kv p.k1] w fun e w' => e = .returned (.tuple #[pv l, .bool false]) ∧ Below w.heap.size w w')
    (H2 : ∀ w, Calls Try.prog 17 #[sv s, kv p.k0, kv p.k1] w fun e w' => e = .returned (.tuple #[pv l, .bool false]) ∧ Below w.heap.size w w')
    (H3 : ∀ w, Calls Try.prog 18 #[sv s] w fun e w' => e = .returned (.bool true) ∧ Below w.heap.size w w')
    (H4 : ∀ w, Calls Try.prog 19 #[sv s] w fun e w' => e = .returned (.bool true) ∧ Below w.heap.size w w')
    (H5 : ∀ w, Calls Try.prog 20 #[sv s, pv p] w fun e w' => e = .returned (.bool false) ∧ Below w.heap.size w w')
    (H6 : ∀ w, Calls Try.prog 21 #[sv s, pv p] w fun e w' => e = .returned (.bool false) ∧ Below w.heap.size w w')
    (H7 : ∀ w, Calls Try.prog 22 #[sv s] w fun e w' => e = .returned (pv t) ∧ Below w.heap.size w w')
    (H8 : ∀ w, Calls Try.prog 23 #[sv s] w fun e w' => e = .returned (pv t) ∧ Below w.heap.size w w')
    (H9 : ∀ w, Calls Try.prog 25 #[sv s, pv p] w fun e w' => e = .returned (.int .i64 0) ∧ Below w.heap.size w w') (w : World) :
    Calls Try.prog 3 #[sv s, pv p] w fun e w' => e = .returned (.bool true) ∧ Below w.heap.size w w' := by
  have HA := alive9_t
  have ql := neq_px l l
  have qt := neq_px t t
  rw [decide_eq_true rfl] at ql qt
  unfold sv pv kv at *
  obtain ⟨Rg, Rd, hb0⟩ := two_rows w #[.int .i64 s.n, .int .i64 s.d0.kind, .int .i64 s.d0.side, .int .i64 s.d0.step, .int .i64 s.d1.kind, .int .i64 s.d1.side, .int .i64 s.d1.step] #[.int .i64 p.a0, .int .i64 p.a1, .int .i64 p.k0.kind, .int .i64 p.k0.len, .int .u64 p.k0.h, .int .u64 p.k0.l, .string ⟨p.k0.path.toArray⟩, .int .i64 p.k1.kind, .int .i64 p.k1.len, .int .u64 p.k1.h, .int .u64 p.k1.l, .string ⟨p.k1.path.toArray⟩] 26 33
  (try clear g0 g1 g2 g3 g4 g5 g6); obtain ⟨g0, g1, g2, g3, g4, g5, g6⟩ := row7 Rg
  (try clear d0 d1 d2 d3 d4 d5 d6 d7 d8 d9 d10 d11); obtain ⟨d0, d1, d2, d3, d4, d5, d6, d7, d8, d9, d10, d11⟩ := row12 Rd
  go_enter Try.func3, Try.ntmps3
  go_wp2_with fail
  refine (H1 _).mono ?_
  rintro e w1 ⟨rfl, hb⟩
  replace Rg := Rg.later hb
  replace Rd := Rd.later hb
  replace hb0 := below_step hb0 hb
  clear hb
  have lg := Rg.lt
  have ld := Rd.lt
  (try clear g0 g1 g2 g3 g4 g5 g6); obtain ⟨g0, g1, g2, g3, g4, g5, g6⟩ := row7 Rg
  (try clear d0 d1 d2 d3 d4 d5 d6 d7 d8 d9 d10 d11); obtain ⟨d0, d1, d2, d3, d4, d5, d6, d7, d8, d9, d10, d11⟩ := row12 Rd
  go_wp2_with fail
  refine (H2 _).mono ?_
  rintro e w2 ⟨rfl, hb⟩
  have nyg := Rg.lt
  have nyd := Rd.lt
  replace Rg := (Rg.alloc _).later hb
  replace Rd := (Rd.alloc _).later hb
  have Ry := Row.later (Row.new _ _ _) hb
  have my := hb0.size
  replace hb0 := below_step (hb0.alloc hb0.size _) hb
  clear hb
  generalize w1.heap.size = gy at *
  have lg := Rg.lt
  have ld := Rd.lt
  have ly := Ry.lt
  (try clear g0 g1 g2 g3 g4 g5 g6); obtain ⟨g0, g1, g2, g3, g4, g5, g6⟩ := row7 Rg
  (try clear d0 d1 d2 d3 d4 d5 d6 d7 d8 d9 d10 d11); obtain ⟨d0, d1, d2, d3, d4, d5, d6, d7, d8, d9, d10, d11⟩ := row12 Rd
  (try clear y0 y1 y2 y3 y4 y5 y6 y7 y8 y9 y10 y11); obtain ⟨y0, y1, y2, y3, y4, y5, y6, y7, y8, y9, y10, y11⟩ := row12 Ry
  go_wp2_with fail
  replace Rg := Rg.alloc (.cells #[Value.int .i64 l.a0, Value.int .i64 l.a1, Value.int .i64 l.k0.kind, Value.int .i64 l.k0.len, Value.int .u64 l.k0.h, Value.int .u64 l.k0.l, Value.string ⟨l.k0.path.toArray⟩, Value.int .i64 l.k1.kind, Value.int .i64 l.k1.len, Value.int .u64 l.k1.h, Value.int .u64 l.k1.l, Value.string ⟨l.k1.path.toArray⟩] 33)
  replace Rd := Rd.alloc (.cells #[Value.int .i64 l.a0, Value.int .i64 l.a1, Value.int .i64 l.k0.kind, Value.int .i64 l.k0.len, Value.int .u64 l.k0.h, Value.int .u64 l.k0.l, Value.string ⟨l.k0.path.toArray⟩, Value.int .i64 l.k1.kind, Value.int .i64 l.k1.len, Value.int .u64 l.k1.h, Value.int .u64 l.k1.l, Value.string ⟨l.k1.path.toArray⟩] 33)
  replace Ry := Ry.alloc (.cells #[Value.int .i64 l.a0, Value.int .i64 l.a1, Value.int .i64 l.k0.kind, Value.int .i64 l.k0.len, Value.int .u64 l.k0.h, Value.int .u64 l.k0.l, Value.string ⟨l.k0.path.toArray⟩, Value.int .i64 l.k1.kind, Value.int .i64 l.k1.len, Value.int .u64 l.k1.h, Value.int .u64 l.k1.l, Value.string ⟨l.k1.path.toArray⟩] 33)
  have Rz := Row.new w2 #[Value.int .i64 l.a0, Value.int .i64 l.a1, Value.int .i64 l.k0.kind, Value.int .i64 l.k0.len, Value.int .u64 l.k0.h, Value.int .u64 l.k0.l, Value.string ⟨l.k0.path.toArray⟩, Value.int .i64 l.k1.kind, Value.int .i64 l.k1.len, Value.int .u64 l.k1.h, Value.int .u64 l.k1.l, Value.string ⟨l.k1.path.toArray⟩] 33
  have mz := hb0.size
  replace hb0 := hb0.alloc hb0.size (.cells #[Value.int .i64 l.a0, Value.int .i64 l.a1, Value.int .i64 l.k0.kind, Value.int .i64 l.k0.len, Value.int .u64 l.k0.h, Value.int .u64 l.k0.l, Value.string ⟨l.k0.path.toArray⟩, Value.int .i64 l.k1.kind, Value.int .i64 l.k1.len, Value.int .u64 l.k1.h, Value.int .u64 l.k1.l, Value.string ⟨l.k1.path.toArray⟩] 33)
  (try clear g0 g1 g2 g3 g4 g5 g6); obtain ⟨g0, g1, g2, g3, g4, g5, g6⟩ := row7 Rg
  (try clear d0 d1 d2 d3 d4 d5 d6 d7 d8 d9 d10 d11); obtain ⟨d0, d1, d2, d3, d4, d5, d6, d7, d8, d9, d10, d11⟩ := row12 Rd
  (try clear y0 y1 y2 y3 y4 y5 y6 y7 y8 y9 y10 y11); obtain ⟨y0, y1, y2, y3, y4, y5, y6, y7, y8, y9, y10, y11⟩ := row12 Ry
  (try clear z0 z1 z2 z3 z4 z5 z6 z7 z8 z9 z10 z11); obtain ⟨z0, z1, z2, z3, z4, z5, z6, z7, z8, z9, z10, z11⟩ := row12 Rz
  generalize (World.alloc w2 (.cells #[Value.int .i64 l.a0, Value.int .i64 l.a1, Value.int .i64 l.k0.kind, Value.int .i64 l.k0.len, Value.int .u64 l.k0.h, Value.int .u64 l.k0.l, Value.string ⟨l.k0.path.toArray⟩, Value.int .i64 l.k1.kind, Value.int .i64 l.k1.len, Value.int .u64 l.k1.h, Value.int .u64 l.k1.l, Value.string ⟨l.k1.path.toArray⟩] 33)) = w3 at *
  refine wp_region_held_drew (S := (fun w' => Row w' w.heap.size #[.int .i64 s.n, .int .i64 s.d0.kind, .int .i64 s.d0.side, .int .i64 s.d0.step, .int .i64 s.d1.kind, .int .i64 s.d1.side, .int .i64 s.d1.step] 26 ∧ Row w' (w.heap.size + 1) #[.int .i64 p.a0, .int .i64 p.a1, .int .i64 p.k0.kind, .int .i64 p.k0.len, .int .u64 p.k0.h, .int .u64 p.k0.l, .string ⟨p.k0.path.toArray⟩, .int .i64 p.k1.kind, .int .i64 p.k1.len, .int .u64 p.k1.h, .int .u64 p.k1.l, .string ⟨p.k1.path.toArray⟩] 33 ∧ Row w' gy #[.int .i64 l.a0, .int .i64 l.a1, .int .i64 l.k0.kind, .int .i64 l.k0.len, .int .u64 l.k0.h, .int .u64 l.k0.l, .string ⟨l.k0.path.toArray⟩, .int .i64 l.k1.kind, .int .i64 l.k1.len, .int .u64 l.k1.h, .int .u64 l.k1.l, .string ⟨l.k1.path.toArray⟩] 33 ∧ Row w' w2.heap.size #[.int .i64 l.a0, .int .i64 l.a1, .int .i64 l.k0.kind, .int .i64 l.k0.len, .int .u64 l.k0.h, .int .u64 l.k0.l, .string ⟨l.k0.path.toArray⟩, .int .i64 l.k1.kind, .int .i64 l.k1.len, .int .u64 l.k1.h, .int .u64 l.k1.l, .string ⟨l.k1.path.toArray⟩] 33)) (by kernel_rfl) ?hSr94_ (fun hHeld => ?_)
  case hSr94_ => (exact ⟨Rg.drew, Rd.drew, Ry.drew, Rz.drew⟩)
  (clear g0 g1 g2 g3 g4 g5 g6 d0 d1 d2 d3 d4 d5 d6 d7 d8 d9 d10 d11 y0 y1 y2 y3 y4 y5 y6 y7 y8 y9 y10 y11 z0 z1 z2 z3 z4 z5 z6 z7 z8 z9 z10 z11; (replace Rg := Rg.drew); (replace Rd := Rd.drew); (replace Ry := Ry.drew); (replace Rz := Rz.drew); (replace hb0 := hb0.drew); (generalize World.drew w3 = wq at *))
  refine tk 0 ⟨some 31, .load 33 (.tmp 5), 33, _, _, _⟩ hHeld ?_ (v := ?vr94_1_0) (hy := ?yr94_1_0)
  case yr94_1_0 => (intro wy hSw; obtain ⟨Qg, Qd, Qy, Qz⟩ := hSw; (with_reducible refine pexec_load 33 (.tmp 5) ?_ gy ?_ 33 #[.int .i64 l.a0, .int .i64 l.a1, .int .i64 l.k0.kind, .int .i64 l.k0.len, .int .u64 l.k0.h, .int .u64 l.k0.l, .string ⟨l.k0.path.toArray⟩, .int .i64 l.k1.kind, .int .i64 l.k1.len, .int .u64 l.k1.h, .int .u64 l.k1.l, .string ⟨l.k1.path.toArray⟩] _ Qy Try.underlying33 ?_ ?_) <;> first | rfl | exact infoPx)
  (try simp only [Act.put, nz1, nz2, nz3])
  refine tk 1 ⟨some 32, .load 33 (.tmp 7), 33, _, _, _⟩ hHeld ?_ (v := ?vr94_2_1) (hy := ?yr94_2_1)
  case yr94_2_1 => (intro wy hSw; obtain ⟨Qg, Qd, Qy, Qz⟩ := hSw; (with_reducible refine pexec_load 33 (.tmp 7) ?_ w2.heap.size ?_ 33 #[.int .i64 l.a0, .int .i64 l.a1, .int .i64 l.k0.kind, .int .i64 l.k0.len, .int .u64 l.k0.h, .int .u64 l.k0.l, .string ⟨l.k0.path.toArray⟩, .int .i64 l.k1.kind, .int .i64 l.k1.len, .int .u64 l.k1.h, .int .u64 l.k1.l, .string ⟨l.k1.path.toArray⟩] _ Qz Try.underlying33 ?_ ?_) <;> first | rfl | exact infoPx)
  (try simp only [Act.put, nz1, nz2, nz3])
  refine tk 2 ⟨some 33, .binOp .neq 33 (.tmp 31) (.tmp 32) 33, 4, _, _, _⟩ hHeld ?_
  (try simp only [Act.put, nz1, nz2, nz3])
  refine tk 3 ⟨some 34, .move (.tmp 33), 4, _, _, _⟩ hHeld ?_
  (try simp only [Act.put, nz1, nz2, nz3])
  refine tk 4 ⟨some 35, .move (.tmp 6), 4, _, _, _⟩ hHeld ?_
  (try simp only [Act.put, nz1, nz2, nz3])
  refine tk 5 ⟨some 36, .move (.tmp 8), 4, _, _, _⟩ hHeld ?_
  (try simp only [Act.put, nz1, nz2, nz3])
  refine tk 6 ⟨some 37, .binOp .neq 4 (.tmp 35) (.tmp 36) 4, 4, _, _, _⟩ hHeld ?_
  (try simp only [Act.put, nz1, nz2, nz3])
  refine tk 7 ⟨some 38, .pick (.tmp 34) (.const (.bool true)) (.tmp 37), 4, _, _, _⟩ hHeld ?_
  (try simp only [Act.put, nz1, nz2, nz3])
  refine tk 8 ⟨some 39, .move (.tmp 38), 4, _, _, _⟩ hHeld ?_
  (try simp only [Act.put, nz1, nz2, nz3])
  refine tk 9 ⟨some 40, .load 26 (.tmp 2), 26, _, _, _⟩ hHeld ?_ (v := ?vr94_10_9) (hy := ?yr94_10_9)
  case yr94_10_9 => (intro wy hSw; obtain ⟨Qg, Qd, Qy, Qz⟩ := hSw; (with_reducible refine pexec_load 26 (.tmp 2) ?_ w.heap.size ?_ 26 #[.int .i64 s.n, .int .i64 s.d0.kind, .int .i64 s.d0.side, .int .i64 s.d0.step, .int .i64 s.d1.kind, .int .i64 s.d1.side, .int .i64 s.d1.step] _ Qg Try.underlying26 ?_ ?_) <;> first | rfl | exact infoSp)
  (try simp only [Act.put, nz1, nz2, nz3])
  refine tk 11 ⟨some 42, .load 26 (.tmp 2), 26, _, _, _⟩ hHeld ?_ (v := ?vr94_11_11) (hy := ?yr94_11_11)
  case yr94_11_11 => (intro wy hSw; obtain ⟨Qg, Qd, Qy, Qz⟩ := hSw; (with_reducible refine pexec_load 26 (.tmp 2) ?_ w.heap.size ?_ 26 #[.int .i64 s.n, .int .i64 s.d0.kind, .int .i64 s.d0.side, .int .i64 s.d0.step, .int .i64 s.d1.kind, .int .i64 s.d1.side, .int .i64 s.d1.step] _ Qg Try.underlying26 ?_ ?_) <;> first | rfl | exact infoSp)
  (try simp only [Act.put, nz1, nz2, nz3])
  refine wpAnyH_ready (rs := [10]) (by kernel_rfl) (by simp) ?_
  refine AllReadyH.cons (o := ⟨some 41, .call { callee := .value (.func 18), args := #[.tmp 40], argTypes := #[26] }, 4, _, _, _⟩) rfl (fun K hK => ?_) AllReadyH.nil
  (go_simp; (refine (H3 _).mono ?_); (rintro e wz ⟨rfl, hb⟩); (replace Rg := Rg.later hb); (replace Rd := Rd.later hb); (replace Ry := Ry.later hb); (replace Rz := Rz.later hb); (replace hb0 := below_step hb0 hb); go_wp2_with fail)
  refine hK.out _ _ ?hSr94_12_10 (fun hHeld2 => ?_)
  case hSr94_12_10 => (obtain ⟨Qg, Qd, Qy, Qz⟩ := hHeld; exact ⟨Qg.later hb, Qd.later hb, Qy.later hb, Qz.later hb⟩)
  clear hK K hHeld
  have hHeld := hHeld2
  clear hHeld2
  rename World => wq
  (try simp only [Act.put, nz1, nz2, nz3])
  refine wpAnyH_ready (rs := [12]) (by kernel_rfl) (by simp) ?_
  refine AllReadyH.cons (o := ⟨some 43, .call { callee := .value (.func 19), args := #[.tmp 42], argTypes := #[26] }, 4, _, _, _⟩) rfl (fun K hK => ?_) AllReadyH.nil
  (go_simp; (refine (H4 _).mono ?_); (rintro e wz ⟨rfl, hb⟩); (replace Rg := Rg.later hb); (replace Rd := Rd.later hb); (replace Ry := Ry.later hb); (replace Rz := Rz.later hb); (replace hb0 := below_step hb0 hb); go_wp2_with fail)
  refine hK.out _ _ ?hSr94_13_12 (fun hHeld2 => ?_)
  case hSr94_13_12 => (obtain ⟨Qg, Qd, Qy, Qz⟩ := hHeld; exact ⟨Qg.later hb, Qd.later hb, Qy.later hb, Qz.later hb⟩)
  clear hK K hHeld
  have hHeld := hHeld2
  clear hHeld2
  rename World => wq
  (try simp only [Act.put, nz1, nz2, nz3])
  refine tk 13 ⟨some 44, .binOp .neq 4 (.tmp 41) (.tmp 43) 4, 4, _, _, _⟩ hHeld ?_
  (try simp only [Act.put, nz1, nz2, nz3])
  refine tk 14 ⟨some 45, .pick (.tmp 39) (.const (.bool true)) (.tmp 44), 4, _, _, _⟩ hHeld ?_
  (try simp only [Act.put, nz1, nz2, nz3])
  refine tk 15 ⟨some 46, .move (.tmp 45), 4, _, _, _⟩ hHeld ?_
  (try simp only [Act.put, nz1, nz2, nz3])
  refine tk 16 ⟨some 47, .load 26 (.tmp 2), 26, _, _, _⟩ hHeld ?_ (v := ?vr94_17_16) (hy := ?yr94_17_16)
  case yr94_17_16 => (intro wy hSw; obtain ⟨Qg, Qd, Qy, Qz⟩ := hSw; (with_reducible refine pexec_load 26 (.tmp 2) ?_ w.heap.size ?_ 26 #[.int .i64 s.n, .int .i64 s.d0.kind, .int .i64 s.d0.side, .int .i64 s.d0.step, .int .i64 s.d1.kind, .int .i64 s.d1.side, .int .i64 s.d1.step] _ Qg Try.underlying26 ?_ ?_) <;> first | rfl | exact infoSp)
  (try simp only [Act.put, nz1, nz2, nz3])
  refine tk 17 ⟨some 48, .load 33 (.tmp 3), 33, _, _, _⟩ hHeld ?_ (v := ?vr94_18_17) (hy := ?yr94_18_17)
  case yr94_18_17 => (intro wy hSw; obtain ⟨Qg, Qd, Qy, Qz⟩ := hSw; (with_reducible refine pexec_load 33 (.tmp 3) ?_ (w.heap.size + 1) ?_ 33 #[.int .i64 p.a0, .int .i64 p.a1, .int .i64 p.k0.kind, .int .i64 p.k0.len, .int .u64 p.k0.h, .int .u64 p.k0.l, .string ⟨p.k0.path.toArray⟩, .int .i64 p.k1.kind, .int .i64 p.k1.len, .int .u64 p.k1.h, .int .u64 p.k1.l, .string ⟨p.k1.path.toArray⟩] _ Qd Try.underlying33 ?_ ?_) <;> first | rfl | exact infoPx)
  (try simp only [Act.put, nz1, nz2, nz3])
  refine tk 19 ⟨some 50, .load 26 (.tmp 2), 26, _, _, _⟩ hHeld ?_ (v := ?vr94_19_19) (hy := ?yr94_19_19)
  case yr94_19_19 => (intro wy hSw; obtain ⟨Qg, Qd, Qy, Qz⟩ := hSw; (with_reducible refine pexec_load 26 (.tmp 2) ?_ w.heap.size ?_ 26 #[.int .i64 s.n, .int .i64 s.d0.kind, .int .i64 s.d0.side, .int .i64 s.d0.step, .int .i64 s.d1.kind, .int .i64 s.d1.side, .int .i64 s.d1.step] _ Qg Try.underlying26 ?_ ?_) <;> first | rfl | exact infoSp)
  (try simp only [Act.put, nz1, nz2, nz3])
  refine tk 20 ⟨some 51, .load 33 (.tmp 3), 33, _, _, _⟩ hHeld ?_ (v := ?vr94_20_20) (hy := ?yr94_20_20)
  case yr94_20_20 => (intro wy hSw; obtain ⟨Qg, Qd, Qy, Qz⟩ := hSw; (with_reducible refine pexec_load 33 (.tmp 3) ?_ (w.heap.size + 1) ?_ 33 #[.int .i64 p.a0, .int .i64 p.a1, .int .i64 p.k0.kind, .int .i64 p.k0.len, .int .u64 p.k0.h, .int .u64 p.k0.l, .string ⟨p.k0.path.toArray⟩, .int .i64 p.k1.kind, .int .i64 p.k1.len, .int .u64 p.k1.h, .int .u64 p.k1.l, .string ⟨p.k1.path.toArray⟩] _ Qd Try.underlying33 ?_ ?_) <;> first | rfl | exact infoPx)
  (try simp only [Act.put, nz1, nz2, nz3])
  refine wpAnyH_ready (rs := [18]) (by kernel_rfl) (by simp) ?_
  refine AllReadyH.cons (o := ⟨some 49, .call { callee := .value (.func 20), args := #[.tmp 47, .tmp 48], argTypes := #[26, 33] }, 4, _, _, _⟩) rfl (fun K hK => ?_) AllReadyH.nil
  (go_simp; (refine (H5 _).mono ?_); (rintro e wz ⟨rfl, hb⟩); (replace Rg := Rg.later hb); (replace Rd := Rd.later hb); (replace Ry := Ry.later hb); (replace Rz := Rz.later hb); (replace hb0 := below_step hb0 hb); go_wp2_with fail)
  refine hK.out _ _ ?hSr94_21_18 (fun hHeld2 => ?_)
  case hSr94_21_18 => (obtain ⟨Qg, Qd, Qy, Qz⟩ := hHeld; exact ⟨Qg.later hb, Qd.later hb, Qy.later hb, Qz.later hb⟩)
  clear hK K hHeld
  have hHeld := hHeld2
  clear hHeld2
  rename World => wq
  (try simp only [Act.put, nz1, nz2, nz3])
  refine wpAnyH_ready (rs := [21]) (by kernel_rfl) (by simp) ?_
  refine AllReadyH.cons (o := ⟨some 52, .call { callee := .value (.func 21), args := #[.tmp 50, .tmp 51], argTypes := #[26, 33] }, 4, _, _, _⟩) rfl (fun K hK => ?_) AllReadyH.nil
  (go_simp; (refine (H6 _).mono ?_); (rintro e wz ⟨rfl, hb⟩); (replace Rg := Rg.later hb); (replace Rd := Rd.later hb); (replace Ry := Ry.later hb); (replace Rz := Rz.later hb); (replace hb0 := below_step hb0 hb); go_wp2_with fail)
  refine hK.out _ _ ?hSr94_22_21 (fun hHeld2 => ?_)
  case hSr94_22_21 => (obtain ⟨Qg, Qd, Qy, Qz⟩ := hHeld; exact ⟨Qg.later hb, Qd.later hb, Qy.later hb, Qz.later hb⟩)
  clear hK K hHeld
  have hHeld := hHeld2
  clear hHeld2
  rename World => wq
  (try simp only [Act.put, nz1, nz2, nz3])
  refine tk 22 ⟨some 53, .binOp .neq 4 (.tmp 49) (.tmp 52) 4, 4, _, _, _⟩ hHeld ?_
  (try simp only [Act.put, nz1, nz2, nz3])
  refine tk 23 ⟨some 54, .pick (.tmp 46) (.const (.bool true)) (.tmp 53), 4, _, _, _⟩ hHeld ?_
  (try simp only [Act.put, nz1, nz2, nz3])
  refine tk 24 ⟨some 55, .move (.tmp 54), 4, _, _, _⟩ hHeld ?_
  (try simp only [Act.put, nz1, nz2, nz3])
  refine tk 25 ⟨some 56, .load 26 (.tmp 2), 26, _, _, _⟩ hHeld ?_ (v := ?vr94_26_25) (hy := ?yr94_26_25)
  case yr94_26_25 => (intro wy hSw; obtain ⟨Qg, Qd, Qy, Qz⟩ := hSw; (with_reducible refine pexec_load 26 (.tmp 2) ?_ w.heap.size ?_ 26 #[.int .i64 s.n, .int .i64 s.d0.kind, .int .i64 s.d0.side, .int .i64 s.d0.step, .int .i64 s.d1.kind, .int .i64 s.d1.side, .int .i64 s.d1.step] _ Qg Try.underlying26 ?_ ?_) <;> first | rfl | exact infoSp)
  (try simp only [Act.put, nz1, nz2, nz3])
  refine tk 27 ⟨some 58, .load 26 (.tmp 2), 26, _, _, _⟩ hHeld ?_ (v := ?vr94_27_27) (hy := ?yr94_27_27)
  case yr94_27_27 => (intro wy hSw; obtain ⟨Qg, Qd, Qy, Qz⟩ := hSw; (with_reducible refine pexec_load 26 (.tmp 2) ?_ w.heap.size ?_ 26 #[.int .i64 s.n, .int .i64 s.d0.kind, .int .i64 s.d0.side, .int .i64 s.d0.step, .int .i64 s.d1.kind, .int .i64 s.d1.side, .int .i64 s.d1.step] _ Qg Try.underlying26 ?_ ?_) <;> first | rfl | exact infoSp)
  (try simp only [Act.put, nz1, nz2, nz3])
  refine wpAnyH_ready (rs := [26]) (by kernel_rfl) (by simp) ?_
  refine AllReadyH.cons (o := ⟨some 57, .call { callee := .value (.func 22), args := #[.tmp 56], argTypes := #[26] }, 33, _, _, _⟩) rfl (fun K hK => ?_) AllReadyH.nil
  (go_simp; (refine (H7 _).mono ?_); (rintro e wz ⟨rfl, hb⟩); (replace Rg := Rg.later hb); (replace Rd := Rd.later hb); (replace Ry := Ry.later hb); (replace Rz := Rz.later hb); (replace hb0 := below_step hb0 hb); go_wp2_with fail)
  refine hK.out _ _ ?hSr94_28_26 (fun hHeld2 => ?_)
  case hSr94_28_26 => (obtain ⟨Qg, Qd, Qy, Qz⟩ := hHeld; exact ⟨Qg.later hb, Qd.later hb, Qy.later hb, Qz.later hb⟩)
  clear hK K hHeld
  have hHeld := hHeld2
  clear hHeld2
  rename World => wq
  (try simp only [Act.put, nz1, nz2, nz3])
  refine wpAnyH_ready (rs := [28]) (by kernel_rfl) (by simp) ?_
  refine AllReadyH.cons (o := ⟨some 59, .call { callee := .value (.func 23), args := #[.tmp 58], argTypes := #[26] }, 33, _, _, _⟩) rfl (fun K hK => ?_) AllReadyH.nil
  (go_simp; (refine (H8 _).mono ?_); (rintro e wz ⟨rfl, hb⟩); (replace Rg := Rg.later hb); (replace Rd := Rd.later hb); (replace Ry := Ry.later hb); (replace Rz := Rz.later hb); (replace hb0 := below_step hb0 hb); go_wp2_with fail)
  refine hK.out _ _ ?hSr94_29_28 (fun hHeld2 => ?_)
  case hSr94_29_28 => (obtain ⟨Qg, Qd, Qy, Qz⟩ := hHeld; exact ⟨Qg.later hb, Qd.later hb, Qy.later hb, Qz.later hb⟩)
  clear hK K hHeld
  have hHeld := hHeld2
  clear hHeld2
  rename World => wq
  (try simp only [Act.put, nz1, nz2, nz3])
  refine tk 29 ⟨some 60, .binOp .neq 33 (.tmp 57) (.tmp 59) 33, 4, _, _, _⟩ hHeld ?_
  (try simp only [Act.put, nz1, nz2, nz3])
  refine tk 30 ⟨some 61, .pick (.tmp 55) (.const (.bool true)) (.tmp 60), 4, _, _, _⟩ hHeld ?_
  (try simp only [Act.put, nz1, nz2, nz3])
  refine wpAnyH_done (by kernel_rfl) ?_ _
  clear hHeld
  rename World => w4
  have lg := Rg.lt
  have ld := Rd.lt
  have ly := Ry.lt
  have lz := Rz.lt
  (try clear g0 g1 g2 g3 g4 g5 g6); obtain ⟨g0, g1, g2, g3, g4, g5, g6⟩ := row7 Rg
  (try clear d0 d1 d2 d3 d4 d5 d6 d7 d8 d9 d10 d11); obtain ⟨d0, d1, d2, d3, d4, d5, d6, d7, d8, d9, d10, d11⟩ := row12 Rd
  (try clear y0 y1 y2 y3 y4 y5 y6 y7 y8 y9 y10 y11); obtain ⟨y0, y1, y2, y3, y4, y5, y6, y7, y8, y9, y10, y11⟩ := row12 Ry
  (try clear z0 z1 z2 z3 z4 z5 z6 z7 z8 z9 z10 z11); obtain ⟨z0, z1, z2, z3, z4, z5, z6, z7, z8, z9, z10, z11⟩ := row12 Rz
  go_wp2_with fail
  refine (H6 _).mono ?_
  rintro e w5 ⟨rfl, hb⟩
  replace Rg := Rg.later hb
  replace Rd := Rd.later hb
  replace Ry := Ry.later hb
  replace Rz := Rz.later hb
  replace hb0 := below_step hb0 hb
  clear hb
  have lg := Rg.lt
  have ld := Rd.lt
  have ly := Ry.lt
  have lz := Rz.lt
  (try clear g0 g1 g2 g3 g4 g5 g6); obtain ⟨g0, g1, g2, g3, g4, g5, g6⟩ := row7 Rg
  (try clear d0 d1 d2 d3 d4 d5 d6 d7 d8 d9 d10 d11); obtain ⟨d0, d1, d2, d3, d4, d5, d6, d7, d8, d9, d10, d11⟩ := row12 Rd
  (try clear y0 y1 y2 y3 y4 y5 y6 y7 y8 y9 y10 y11); obtain ⟨y0, y1, y2, y3, y4, y5, y6, y7, y8, y9, y10, y11⟩ := row12 Ry
  (try clear z0 z1 z2 z3 z4 z5 z6 z7 z8 z9 z10 z11); obtain ⟨z0, z1, z2, z3, z4, z5, z6, z7, z8, z9, z10, z11⟩ := row12 Rz
  go_wp2_with fail
  refine (HA _).mono ?_
  rintro e w6 ⟨rfl, hb⟩
  replace Rg := Rg.later hb
  replace Rd := Rd.later hb
  replace Ry := Ry.later hb
  replace Rz := Rz.later hb
  replace hb0 := below_step hb0 hb
  clear hb
  have lg := Rg.lt
  have ld := Rd.lt
  have ly := Ry.lt
  have lz := Rz.lt
  (try clear g0 g1 g2 g3 g4 g5 g6); obtain ⟨g0, g1, g2, g3, g4, g5, g6⟩ := row7 Rg
  (try clear d0 d1 d2 d3 d4 d5 d6 d7 d8 d9 d10 d11); obtain ⟨d0, d1, d2, d3, d4, d5, d6, d7, d8, d9, d10, d11⟩ := row12 Rd
  (try clear y0 y1 y2 y3 y4 y5 y6 y7 y8 y9 y10 y11); obtain ⟨y0, y1, y2, y3, y4, y5, y6, y7, y8, y9, y10, y11⟩ := row12 Ry
  (try clear z0 z1 z2 z3 z4 z5 z6 z7 z8 z9 z10 z11); obtain ⟨z0, z1, z2, z3, z4, z5, z6, z7, z8, z9, z10, z11⟩ := row12 Rz
  go_wp2_with fail
  refine (H9 _).mono ?_
  rintro e w7 ⟨rfl, hb⟩
  replace Rg := Rg.later hb
  replace Rd := Rd.later hb
  replace Ry := Ry.later hb
  replace Rz := Rz.later hb
  replace hb0 := below_step hb0 hb
  clear hb
  have lg := Rg.lt
  have ld := Rd.lt
  have ly := Ry.lt
  have lz := Rz.lt
  (try clear g0 g1 g2 g3 g4 g5 g6); obtain ⟨g0, g1, g2, g3, g4, g5, g6⟩ := row7 Rg
  (try clear d0 d1 d2 d3 d4 d5 d6 d7 d8 d9 d10 d11); obtain ⟨d0, d1, d2, d3, d4, d5, d6, d7, d8, d9, d10, d11⟩ := row12 Rd
  (try clear y0 y1 y2 y3 y4 y5 y6 y7 y8 y9 y10 y11); obtain ⟨y0, y1, y2, y3, y4, y5, y6, y7, y8, y9, y10, y11⟩ := row12 Ry
  (try clear z0 z1 z2 z3 z4 z5 z6 z7 z8 z9 z10 z11); obtain ⟨z0, z1, z2, z3, z4, z5, z6, z7, z8, z9, z10, z11⟩ := row12 Rz
  go_wp2
  go_ret
  exact ⟨rfl, hb0⟩
set_option maxRecDepth 100000 in
set_option maxHeartbeats 32000000 in
theorem tells9_c (s : Sp) (p l t : Px)
    (H1 : ∀ w, Calls Try.prog 16 #[sv s, kv p.k0, kv p.k1] w fun e w' => e = .returned (.tuple #[pv l, .bool false]) ∧ Below w.heap.size w w')
    (H2 : ∀ w, Calls Try.prog 17 #[sv s, kv p.k0, kv p.k1] w fun e w' => e = .returned (.tuple #[pv l, .bool false]) ∧ Below w.heap.size w w')
    (H3 : ∀ w, Calls Try.prog 18 #[sv s] w fun e w' => e = .returned (.bool true) ∧ Below w.heap.size w w')
    (H4 : ∀ w, Calls Try.prog 19 #[sv s] w fun e w' => e = .returned (.bool true) ∧ Below w.heap.size w w')
    (H5 : ∀ w, Calls Try.prog 20 #[sv s, pv p] w fun e w' => e = .returned (.bool true) ∧ Below w.heap.size w w')
    (H6 : ∀ w, Calls Try.prog 21 #[sv s, pv p] w fun e w' => e = .returned (.bool true) ∧ Below w.heap.size w w')
    (H7 : ∀ w, Calls Try.prog 22 #[sv s] w fun e w' => e = .returned (pv t) ∧ Below w.heap.size w w')
    (H8 : ∀ w, Calls Try.prog 23 #[sv s] w fun e w' => e = .returned (pv t) ∧ Below w.heap.size w w')
    (H9 : ∀ w, Calls Try.prog 25 #[sv s, pv p] w fun e w' => e = .returned (.int .i64 (p.a0 + p.a1)) ∧ Below w.heap.size w w')
    (g0 : 0 ≤ p.a0) (g1 : p.a0 ≤ 1000) (g2 : 0 ≤ p.a1) (g3 : p.a1 ≤ 1000) (w : World) :
    Calls Try.prog 3 #[sv s, pv p] w fun e w' => e = .returned (.bool true) ∧ Below w.heap.size w w' := by
  have HA := alive9_t
  have ql := neq_px l l
  have qt := neq_px t t
  rw [decide_eq_true rfl] at ql qt
  have hw : IntKind.i64.wrap (p.a0 + p.a1) = p.a0 + p.a1 := IntWalk.i64_in _ (by omega)
  clear g0 g1 g2 g3
  unfold sv pv kv at *
  obtain ⟨Rg, Rd, hb0⟩ := two_rows w #[.int .i64 s.n, .int .i64 s.d0.kind, .int .i64 s.d0.side, .int .i64 s.d0.step, .int .i64 s.d1.kind, .int .i64 s.d1.side, .int .i64 s.d1.step] #[.int .i64 p.a0, .int .i64 p.a1, .int .i64 p.k0.kind, .int .i64 p.k0.len, .int .u64 p.k0.h, .int .u64 p.k0.l, .string ⟨p.k0.path.toArray⟩, .int .i64 p.k1.kind, .int .i64 p.k1.len, .int .u64 p.k1.h, .int .u64 p.k1.l, .string ⟨p.k1.path.toArray⟩] 26 33
  (try clear g0 g1 g2 g3 g4 g5 g6); obtain ⟨g0, g1, g2, g3, g4, g5, g6⟩ := row7 Rg
  (try clear d0 d1 d2 d3 d4 d5 d6 d7 d8 d9 d10 d11); obtain ⟨d0, d1, d2, d3, d4, d5, d6, d7, d8, d9, d10, d11⟩ := row12 Rd
  go_enter Try.func3, Try.ntmps3
  go_wp2_with fail
  refine (H1 _).mono ?_
  rintro e w1 ⟨rfl, hb⟩
  replace Rg := Rg.later hb
  replace Rd := Rd.later hb
  replace hb0 := below_step hb0 hb
  clear hb
  have lg := Rg.lt
  have ld := Rd.lt
  (try clear g0 g1 g2 g3 g4 g5 g6); obtain ⟨g0, g1, g2, g3, g4, g5, g6⟩ := row7 Rg
  (try clear d0 d1 d2 d3 d4 d5 d6 d7 d8 d9 d10 d11); obtain ⟨d0, d1, d2, d3, d4, d5, d6, d7, d8, d9, d10, d11⟩ := row12 Rd
  go_wp2_with fail
  refine (H2 _).mono ?_
  rintro e w2 ⟨rfl, hb⟩
  have nyg := Rg.lt
  have nyd := Rd.lt
  replace Rg := (Rg.alloc _).later hb
  replace Rd := (Rd.alloc _).later hb
  have Ry := Row.later (Row.new _ _ _) hb
  have my := hb0.size
  replace hb0 := below_step (hb0.alloc hb0.size _) hb
  clear hb
  generalize w1.heap.size = gy at *
  have lg := Rg.lt
  have ld := Rd.lt
  have ly := Ry.lt
  (try clear g0 g1 g2 g3 g4 g5 g6); obtain ⟨g0, g1, g2, g3, g4, g5, g6⟩ := row7 Rg
  (try clear d0 d1 d2 d3 d4 d5 d6 d7 d8 d9 d10 d11); obtain ⟨d0, d1, d2, d3, d4, d5, d6, d7, d8, d9, d10, d11⟩ := row12 Rd
  (try clear y0 y1 y2 y3 y4 y5 y6 y7 y8 y9 y10 y11); obtain ⟨y0, y1, y2, y3, y4, y5, y6, y7, y8, y9, y10, y11⟩ := row12 Ry
  go_wp2_with fail
  replace Rg := Rg.alloc (.cells #[Value.int .i64 l.a0, Value.int .i64 l.a1, Value.int .i64 l.k0.kind, Value.int .i64 l.k0.len, Value.int .u64 l.k0.h, Value.int .u64 l.k0.l, Value.string ⟨l.k0.path.toArray⟩, Value.int .i64 l.k1.kind, Value.int .i64 l.k1.len, Value.int .u64 l.k1.h, Value.int .u64 l.k1.l, Value.string ⟨l.k1.path.toArray⟩] 33)
  replace Rd := Rd.alloc (.cells #[Value.int .i64 l.a0, Value.int .i64 l.a1, Value.int .i64 l.k0.kind, Value.int .i64 l.k0.len, Value.int .u64 l.k0.h, Value.int .u64 l.k0.l, Value.string ⟨l.k0.path.toArray⟩, Value.int .i64 l.k1.kind, Value.int .i64 l.k1.len, Value.int .u64 l.k1.h, Value.int .u64 l.k1.l, Value.string ⟨l.k1.path.toArray⟩] 33)
  replace Ry := Ry.alloc (.cells #[Value.int .i64 l.a0, Value.int .i64 l.a1, Value.int .i64 l.k0.kind, Value.int .i64 l.k0.len, Value.int .u64 l.k0.h, Value.int .u64 l.k0.l, Value.string ⟨l.k0.path.toArray⟩, Value.int .i64 l.k1.kind, Value.int .i64 l.k1.len, Value.int .u64 l.k1.h, Value.int .u64 l.k1.l, Value.string ⟨l.k1.path.toArray⟩] 33)
  have Rz := Row.new w2 #[Value.int .i64 l.a0, Value.int .i64 l.a1, Value.int .i64 l.k0.kind, Value.int .i64 l.k0.len, Value.int .u64 l.k0.h, Value.int .u64 l.k0.l, Value.string ⟨l.k0.path.toArray⟩, Value.int .i64 l.k1.kind, Value.int .i64 l.k1.len, Value.int .u64 l.k1.h, Value.int .u64 l.k1.l, Value.string ⟨l.k1.path.toArray⟩] 33
  have mz := hb0.size
  replace hb0 := hb0.alloc hb0.size (.cells #[Value.int .i64 l.a0, Value.int .i64 l.a1, Value.int .i64 l.k0.kind, Value.int .i64 l.k0.len, Value.int .u64 l.k0.h, Value.int .u64 l.k0.l, Value.string ⟨l.k0.path.toArray⟩, Value.int .i64 l.k1.kind, Value.int .i64 l.k1.len, Value.int .u64 l.k1.h, Value.int .u64 l.k1.l, Value.string ⟨l.k1.path.toArray⟩] 33)
  (try clear g0 g1 g2 g3 g4 g5 g6); obtain ⟨g0, g1, g2, g3, g4, g5, g6⟩ := row7 Rg
  (try clear d0 d1 d2 d3 d4 d5 d6 d7 d8 d9 d10 d11); obtain ⟨d0, d1, d2, d3, d4, d5, d6, d7, d8, d9, d10, d11⟩ := row12 Rd
  (try clear y0 y1 y2 y3 y4 y5 y6 y7 y8 y9 y10 y11); obtain ⟨y0, y1, y2, y3, y4, y5, y6, y7, y8, y9, y10, y11⟩ := row12 Ry
  (try clear z0 z1 z2 z3 z4 z5 z6 z7 z8 z9 z10 z11); obtain ⟨z0, z1, z2, z3, z4, z5, z6, z7, z8, z9, z10, z11⟩ := row12 Rz
  generalize (World.alloc w2 (.cells #[Value.int .i64 l.a0, Value.int .i64 l.a1, Value.int .i64 l.k0.kind, Value.int .i64 l.k0.len, Value.int .u64 l.k0.h, Value.int .u64 l.k0.l, Value.string ⟨l.k0.path.toArray⟩, Value.int .i64 l.k1.kind, Value.int .i64 l.k1.len, Value.int .u64 l.k1.h, Value.int .u64 l.k1.l, Value.string ⟨l.k1.path.toArray⟩] 33)) = w3 at *
  refine wp_region_held_drew (S := (fun w' => Row w' w.heap.size #[.int .i64 s.n, .int .i64 s.d0.kind, .int .i64 s.d0.side, .int .i64 s.d0.step, .int .i64 s.d1.kind, .int .i64 s.d1.side, .int .i64 s.d1.step] 26 ∧ Row w' (w.heap.size + 1) #[.int .i64 p.a0, .int .i64 p.a1, .int .i64 p.k0.kind, .int .i64 p.k0.len, .int .u64 p.k0.h, .int .u64 p.k0.l, .string ⟨p.k0.path.toArray⟩, .int .i64 p.k1.kind, .int .i64 p.k1.len, .int .u64 p.k1.h, .int .u64 p.k1.l, .string ⟨p.k1.path.toArray⟩] 33 ∧ Row w' gy #[.int .i64 l.a0, .int .i64 l.a1, .int .i64 l.k0.kind, .int .i64 l.k0.len, .int .u64 l.k0.h, .int .u64 l.k0.l, .string ⟨l.k0.path.toArray⟩, .int .i64 l.k1.kind, .int .i64 l.k1.len, .int .u64 l.k1.h, .int .u64 l.k1.l, .string ⟨l.k1.path.toArray⟩] 33 ∧ Row w' w2.heap.size #[.int .i64 l.a0, .int .i64 l.a1, .int .i64 l.k0.kind, .int .i64 l.k0.len, .int .u64 l.k0.h, .int .u64 l.k0.l, .string ⟨l.k0.path.toArray⟩, .int .i64 l.k1.kind, .int .i64 l.k1.len, .int .u64 l.k1.h, .int .u64 l.k1.l, .string ⟨l.k1.path.toArray⟩] 33)) (by kernel_rfl) ?hSr95_ (fun hHeld => ?_)
  case hSr95_ => (exact ⟨Rg.drew, Rd.drew, Ry.drew, Rz.drew⟩)
  (clear g0 g1 g2 g3 g4 g5 g6 d0 d1 d2 d3 d4 d5 d6 d7 d8 d9 d10 d11 y0 y1 y2 y3 y4 y5 y6 y7 y8 y9 y10 y11 z0 z1 z2 z3 z4 z5 z6 z7 z8 z9 z10 z11; (replace Rg := Rg.drew); (replace Rd := Rd.drew); (replace Ry := Ry.drew); (replace Rz := Rz.drew); (replace hb0 := hb0.drew); (generalize World.drew w3 = wq at *))
  refine tk 0 ⟨some 31, .load 33 (.tmp 5), 33, _, _, _⟩ hHeld ?_ (v := ?vr95_1_0) (hy := ?yr95_1_0)
  case yr95_1_0 => (intro wy hSw; obtain ⟨Qg, Qd, Qy, Qz⟩ := hSw; (with_reducible refine pexec_load 33 (.tmp 5) ?_ gy ?_ 33 #[.int .i64 l.a0, .int .i64 l.a1, .int .i64 l.k0.kind, .int .i64 l.k0.len, .int .u64 l.k0.h, .int .u64 l.k0.l, .string ⟨l.k0.path.toArray⟩, .int .i64 l.k1.kind, .int .i64 l.k1.len, .int .u64 l.k1.h, .int .u64 l.k1.l, .string ⟨l.k1.path.toArray⟩] _ Qy Try.underlying33 ?_ ?_) <;> first | rfl | exact infoPx)
  (try simp only [Act.put, nz1, nz2, nz3])
  refine tk 1 ⟨some 32, .load 33 (.tmp 7), 33, _, _, _⟩ hHeld ?_ (v := ?vr95_2_1) (hy := ?yr95_2_1)
  case yr95_2_1 => (intro wy hSw; obtain ⟨Qg, Qd, Qy, Qz⟩ := hSw; (with_reducible refine pexec_load 33 (.tmp 7) ?_ w2.heap.size ?_ 33 #[.int .i64 l.a0, .int .i64 l.a1, .int .i64 l.k0.kind, .int .i64 l.k0.len, .int .u64 l.k0.h, .int .u64 l.k0.l, .string ⟨l.k0.path.toArray⟩, .int .i64 l.k1.kind, .int .i64 l.k1.len, .int .u64 l.k1.h, .int .u64 l.k1.l, .string ⟨l.k1.path.toArray⟩] _ Qz Try.underlying33 ?_ ?_) <;> first | rfl | exact infoPx)
  (try simp only [Act.put, nz1, nz2, nz3])
  refine tk 2 ⟨some 33, .binOp .neq 33 (.tmp 31) (.tmp 32) 33, 4, _, _, _⟩ hHeld ?_
  (try simp only [Act.put, nz1, nz2, nz3])
  refine tk 3 ⟨some 34, .move (.tmp 33), 4, _, _, _⟩ hHeld ?_
  (try simp only [Act.put, nz1, nz2, nz3])
  refine tk 4 ⟨some 35, .move (.tmp 6), 4, _, _, _⟩ hHeld ?_
  (try simp only [Act.put, nz1, nz2, nz3])
  refine tk 5 ⟨some 36, .move (.tmp 8), 4, _, _, _⟩ hHeld ?_
  (try simp only [Act.put, nz1, nz2, nz3])
  refine tk 6 ⟨some 37, .binOp .neq 4 (.tmp 35) (.tmp 36) 4, 4, _, _, _⟩ hHeld ?_
  (try simp only [Act.put, nz1, nz2, nz3])
  refine tk 7 ⟨some 38, .pick (.tmp 34) (.const (.bool true)) (.tmp 37), 4, _, _, _⟩ hHeld ?_
  (try simp only [Act.put, nz1, nz2, nz3])
  refine tk 8 ⟨some 39, .move (.tmp 38), 4, _, _, _⟩ hHeld ?_
  (try simp only [Act.put, nz1, nz2, nz3])
  refine tk 9 ⟨some 40, .load 26 (.tmp 2), 26, _, _, _⟩ hHeld ?_ (v := ?vr95_10_9) (hy := ?yr95_10_9)
  case yr95_10_9 => (intro wy hSw; obtain ⟨Qg, Qd, Qy, Qz⟩ := hSw; (with_reducible refine pexec_load 26 (.tmp 2) ?_ w.heap.size ?_ 26 #[.int .i64 s.n, .int .i64 s.d0.kind, .int .i64 s.d0.side, .int .i64 s.d0.step, .int .i64 s.d1.kind, .int .i64 s.d1.side, .int .i64 s.d1.step] _ Qg Try.underlying26 ?_ ?_) <;> first | rfl | exact infoSp)
  (try simp only [Act.put, nz1, nz2, nz3])
  refine tk 11 ⟨some 42, .load 26 (.tmp 2), 26, _, _, _⟩ hHeld ?_ (v := ?vr95_11_11) (hy := ?yr95_11_11)
  case yr95_11_11 => (intro wy hSw; obtain ⟨Qg, Qd, Qy, Qz⟩ := hSw; (with_reducible refine pexec_load 26 (.tmp 2) ?_ w.heap.size ?_ 26 #[.int .i64 s.n, .int .i64 s.d0.kind, .int .i64 s.d0.side, .int .i64 s.d0.step, .int .i64 s.d1.kind, .int .i64 s.d1.side, .int .i64 s.d1.step] _ Qg Try.underlying26 ?_ ?_) <;> first | rfl | exact infoSp)
  (try simp only [Act.put, nz1, nz2, nz3])
  refine wpAnyH_ready (rs := [10]) (by kernel_rfl) (by simp) ?_
  refine AllReadyH.cons (o := ⟨some 41, .call { callee := .value (.func 18), args := #[.tmp 40], argTypes := #[26] }, 4, _, _, _⟩) rfl (fun K hK => ?_) AllReadyH.nil
  (go_simp; (refine (H3 _).mono ?_); (rintro e wz ⟨rfl, hb⟩); (replace Rg := Rg.later hb); (replace Rd := Rd.later hb); (replace Ry := Ry.later hb); (replace Rz := Rz.later hb); (replace hb0 := below_step hb0 hb); go_wp2_with fail)
  refine hK.out _ _ ?hSr95_12_10 (fun hHeld2 => ?_)
  case hSr95_12_10 => (obtain ⟨Qg, Qd, Qy, Qz⟩ := hHeld; exact ⟨Qg.later hb, Qd.later hb, Qy.later hb, Qz.later hb⟩)
  clear hK K hHeld
  have hHeld := hHeld2
  clear hHeld2
  rename World => wq
  (try simp only [Act.put, nz1, nz2, nz3])
  refine wpAnyH_ready (rs := [12]) (by kernel_rfl) (by simp) ?_
  refine AllReadyH.cons (o := ⟨some 43, .call { callee := .value (.func 19), args := #[.tmp 42], argTypes := #[26] }, 4, _, _, _⟩) rfl (fun K hK => ?_) AllReadyH.nil
  (go_simp; (refine (H4 _).mono ?_); (rintro e wz ⟨rfl, hb⟩); (replace Rg := Rg.later hb); (replace Rd := Rd.later hb); (replace Ry := Ry.later hb); (replace Rz := Rz.later hb); (replace hb0 := below_step hb0 hb); go_wp2_with fail)
  refine hK.out _ _ ?hSr95_13_12 (fun hHeld2 => ?_)
  case hSr95_13_12 => (obtain ⟨Qg, Qd, Qy, Qz⟩ := hHeld; exact ⟨Qg.later hb, Qd.later hb, Qy.later hb, Qz.later hb⟩)
  clear hK K hHeld
  have hHeld := hHeld2
  clear hHeld2
  rename World => wq
  (try simp only [Act.put, nz1, nz2, nz3])
  refine tk 13 ⟨some 44, .binOp .neq 4 (.tmp 41) (.tmp 43) 4, 4, _, _, _⟩ hHeld ?_
  (try simp only [Act.put, nz1, nz2, nz3])
  refine tk 14 ⟨some 45, .pick (.tmp 39) (.const (.bool true)) (.tmp 44), 4, _, _, _⟩ hHeld ?_
  (try simp only [Act.put, nz1, nz2, nz3])
  refine tk 15 ⟨some 46, .move (.tmp 45), 4, _, _, _⟩ hHeld ?_
  (try simp only [Act.put, nz1, nz2, nz3])
  refine tk 16 ⟨some 47, .load 26 (.tmp 2), 26, _, _, _⟩ hHeld ?_ (v := ?vr95_17_16) (hy := ?yr95_17_16)
  case yr95_17_16 => (intro wy hSw; obtain ⟨Qg, Qd, Qy, Qz⟩ := hSw; (with_reducible refine pexec_load 26 (.tmp 2) ?_ w.heap.size ?_ 26 #[.int .i64 s.n, .int .i64 s.d0.kind, .int .i64 s.d0.side, .int .i64 s.d0.step, .int .i64 s.d1.kind, .int .i64 s.d1.side, .int .i64 s.d1.step] _ Qg Try.underlying26 ?_ ?_) <;> first | rfl | exact infoSp)
  (try simp only [Act.put, nz1, nz2, nz3])
  refine tk 17 ⟨some 48, .load 33 (.tmp 3), 33, _, _, _⟩ hHeld ?_ (v := ?vr95_18_17) (hy := ?yr95_18_17)
  case yr95_18_17 => (intro wy hSw; obtain ⟨Qg, Qd, Qy, Qz⟩ := hSw; (with_reducible refine pexec_load 33 (.tmp 3) ?_ (w.heap.size + 1) ?_ 33 #[.int .i64 p.a0, .int .i64 p.a1, .int .i64 p.k0.kind, .int .i64 p.k0.len, .int .u64 p.k0.h, .int .u64 p.k0.l, .string ⟨p.k0.path.toArray⟩, .int .i64 p.k1.kind, .int .i64 p.k1.len, .int .u64 p.k1.h, .int .u64 p.k1.l, .string ⟨p.k1.path.toArray⟩] _ Qd Try.underlying33 ?_ ?_) <;> first | rfl | exact infoPx)
  (try simp only [Act.put, nz1, nz2, nz3])
  refine tk 19 ⟨some 50, .load 26 (.tmp 2), 26, _, _, _⟩ hHeld ?_ (v := ?vr95_19_19) (hy := ?yr95_19_19)
  case yr95_19_19 => (intro wy hSw; obtain ⟨Qg, Qd, Qy, Qz⟩ := hSw; (with_reducible refine pexec_load 26 (.tmp 2) ?_ w.heap.size ?_ 26 #[.int .i64 s.n, .int .i64 s.d0.kind, .int .i64 s.d0.side, .int .i64 s.d0.step, .int .i64 s.d1.kind, .int .i64 s.d1.side, .int .i64 s.d1.step] _ Qg Try.underlying26 ?_ ?_) <;> first | rfl | exact infoSp)
  (try simp only [Act.put, nz1, nz2, nz3])
  refine tk 20 ⟨some 51, .load 33 (.tmp 3), 33, _, _, _⟩ hHeld ?_ (v := ?vr95_20_20) (hy := ?yr95_20_20)
  case yr95_20_20 => (intro wy hSw; obtain ⟨Qg, Qd, Qy, Qz⟩ := hSw; (with_reducible refine pexec_load 33 (.tmp 3) ?_ (w.heap.size + 1) ?_ 33 #[.int .i64 p.a0, .int .i64 p.a1, .int .i64 p.k0.kind, .int .i64 p.k0.len, .int .u64 p.k0.h, .int .u64 p.k0.l, .string ⟨p.k0.path.toArray⟩, .int .i64 p.k1.kind, .int .i64 p.k1.len, .int .u64 p.k1.h, .int .u64 p.k1.l, .string ⟨p.k1.path.toArray⟩] _ Qd Try.underlying33 ?_ ?_) <;> first | rfl | exact infoPx)
  (try simp only [Act.put, nz1, nz2, nz3])
  refine wpAnyH_ready (rs := [18]) (by kernel_rfl) (by simp) ?_
  refine AllReadyH.cons (o := ⟨some 49, .call { callee := .value (.func 20), args := #[.tmp 47, .tmp 48], argTypes := #[26, 33] }, 4, _, _, _⟩) rfl (fun K hK => ?_) AllReadyH.nil
  (go_simp; (refine (H5 _).mono ?_); (rintro e wz ⟨rfl, hb⟩); (replace Rg := Rg.later hb); (replace Rd := Rd.later hb); (replace Ry := Ry.later hb); (replace Rz := Rz.later hb); (replace hb0 := below_step hb0 hb); go_wp2_with fail)
  refine hK.out _ _ ?hSr95_21_18 (fun hHeld2 => ?_)
  case hSr95_21_18 => (obtain ⟨Qg, Qd, Qy, Qz⟩ := hHeld; exact ⟨Qg.later hb, Qd.later hb, Qy.later hb, Qz.later hb⟩)
  clear hK K hHeld
  have hHeld := hHeld2
  clear hHeld2
  rename World => wq
  (try simp only [Act.put, nz1, nz2, nz3])
  refine wpAnyH_ready (rs := [21]) (by kernel_rfl) (by simp) ?_
  refine AllReadyH.cons (o := ⟨some 52, .call { callee := .value (.func 21), args := #[.tmp 50, .tmp 51], argTypes := #[26, 33] }, 4, _, _, _⟩) rfl (fun K hK => ?_) AllReadyH.nil
  (go_simp; (refine (H6 _).mono ?_); (rintro e wz ⟨rfl, hb⟩); (replace Rg := Rg.later hb); (replace Rd := Rd.later hb); (replace Ry := Ry.later hb); (replace Rz := Rz.later hb); (replace hb0 := below_step hb0 hb); go_wp2_with fail)
  refine hK.out _ _ ?hSr95_22_21 (fun hHeld2 => ?_)
  case hSr95_22_21 => (obtain ⟨Qg, Qd, Qy, Qz⟩ := hHeld; exact ⟨Qg.later hb, Qd.later hb, Qy.later hb, Qz.later hb⟩)
  clear hK K hHeld
  have hHeld := hHeld2
  clear hHeld2
  rename World => wq
  (try simp only [Act.put, nz1, nz2, nz3])
  refine tk 22 ⟨some 53, .binOp .neq 4 (.tmp 49) (.tmp 52) 4, 4, _, _, _⟩ hHeld ?_
  (try simp only [Act.put, nz1, nz2, nz3])
  refine tk 23 ⟨some 54, .pick (.tmp 46) (.const (.bool true)) (.tmp 53), 4, _, _, _⟩ hHeld ?_
  (try simp only [Act.put, nz1, nz2, nz3])
  refine tk 24 ⟨some 55, .move (.tmp 54), 4, _, _, _⟩ hHeld ?_
  (try simp only [Act.put, nz1, nz2, nz3])
  refine tk 25 ⟨some 56, .load 26 (.tmp 2), 26, _, _, _⟩ hHeld ?_ (v := ?vr95_26_25) (hy := ?yr95_26_25)
  case yr95_26_25 => (intro wy hSw; obtain ⟨Qg, Qd, Qy, Qz⟩ := hSw; (with_reducible refine pexec_load 26 (.tmp 2) ?_ w.heap.size ?_ 26 #[.int .i64 s.n, .int .i64 s.d0.kind, .int .i64 s.d0.side, .int .i64 s.d0.step, .int .i64 s.d1.kind, .int .i64 s.d1.side, .int .i64 s.d1.step] _ Qg Try.underlying26 ?_ ?_) <;> first | rfl | exact infoSp)
  (try simp only [Act.put, nz1, nz2, nz3])
  refine tk 27 ⟨some 58, .load 26 (.tmp 2), 26, _, _, _⟩ hHeld ?_ (v := ?vr95_27_27) (hy := ?yr95_27_27)
  case yr95_27_27 => (intro wy hSw; obtain ⟨Qg, Qd, Qy, Qz⟩ := hSw; (with_reducible refine pexec_load 26 (.tmp 2) ?_ w.heap.size ?_ 26 #[.int .i64 s.n, .int .i64 s.d0.kind, .int .i64 s.d0.side, .int .i64 s.d0.step, .int .i64 s.d1.kind, .int .i64 s.d1.side, .int .i64 s.d1.step] _ Qg Try.underlying26 ?_ ?_) <;> first | rfl | exact infoSp)
  (try simp only [Act.put, nz1, nz2, nz3])
  refine wpAnyH_ready (rs := [26]) (by kernel_rfl) (by simp) ?_
  refine AllReadyH.cons (o := ⟨some 57, .call { callee := .value (.func 22), args := #[.tmp 56], argTypes := #[26] }, 33, _, _, _⟩) rfl (fun K hK => ?_) AllReadyH.nil
  (go_simp; (refine (H7 _).mono ?_); (rintro e wz ⟨rfl, hb⟩); (replace Rg := Rg.later hb); (replace Rd := Rd.later hb); (replace Ry := Ry.later hb); (replace Rz := Rz.later hb); (replace hb0 := below_step hb0 hb); go_wp2_with fail)
  refine hK.out _ _ ?hSr95_28_26 (fun hHeld2 => ?_)
  case hSr95_28_26 => (obtain ⟨Qg, Qd, Qy, Qz⟩ := hHeld; exact ⟨Qg.later hb, Qd.later hb, Qy.later hb, Qz.later hb⟩)
  clear hK K hHeld
  have hHeld := hHeld2
  clear hHeld2
  rename World => wq
  (try simp only [Act.put, nz1, nz2, nz3])
  refine wpAnyH_ready (rs := [28]) (by kernel_rfl) (by simp) ?_
  refine AllReadyH.cons (o := ⟨some 59, .call { callee := .value (.func 23), args := #[.tmp 58], argTypes := #[26] }, 33, _, _, _⟩) rfl (fun K hK => ?_) AllReadyH.nil
  (go_simp; (refine (H8 _).mono ?_); (rintro e wz ⟨rfl, hb⟩); (replace Rg := Rg.later hb); (replace Rd := Rd.later hb); (replace Ry := Ry.later hb); (replace Rz := Rz.later hb); (replace hb0 := below_step hb0 hb); go_wp2_with fail)
  refine hK.out _ _ ?hSr95_29_28 (fun hHeld2 => ?_)
  case hSr95_29_28 => (obtain ⟨Qg, Qd, Qy, Qz⟩ := hHeld; exact ⟨Qg.later hb, Qd.later hb, Qy.later hb, Qz.later hb⟩)
  clear hK K hHeld
  have hHeld := hHeld2
  clear hHeld2
  rename World => wq
  (try simp only [Act.put, nz1, nz2, nz3])
  refine tk 29 ⟨some 60, .binOp .neq 33 (.tmp 57) (.tmp 59) 33, 4, _, _, _⟩ hHeld ?_
  (try simp only [Act.put, nz1, nz2, nz3])
  refine tk 30 ⟨some 61, .pick (.tmp 55) (.const (.bool true)) (.tmp 60), 4, _, _, _⟩ hHeld ?_
  (try simp only [Act.put, nz1, nz2, nz3])
  refine wpAnyH_done (by kernel_rfl) ?_ _
  clear hHeld
  rename World => w4
  have lg := Rg.lt
  have ld := Rd.lt
  have ly := Ry.lt
  have lz := Rz.lt
  (try clear g0 g1 g2 g3 g4 g5 g6); obtain ⟨g0, g1, g2, g3, g4, g5, g6⟩ := row7 Rg
  (try clear d0 d1 d2 d3 d4 d5 d6 d7 d8 d9 d10 d11); obtain ⟨d0, d1, d2, d3, d4, d5, d6, d7, d8, d9, d10, d11⟩ := row12 Rd
  (try clear y0 y1 y2 y3 y4 y5 y6 y7 y8 y9 y10 y11); obtain ⟨y0, y1, y2, y3, y4, y5, y6, y7, y8, y9, y10, y11⟩ := row12 Ry
  (try clear z0 z1 z2 z3 z4 z5 z6 z7 z8 z9 z10 z11); obtain ⟨z0, z1, z2, z3, z4, z5, z6, z7, z8, z9, z10, z11⟩ := row12 Rz
  go_wp2_with fail
  refine (H6 _).mono ?_
  rintro e w5 ⟨rfl, hb⟩
  replace Rg := Rg.later hb
  replace Rd := Rd.later hb
  replace Ry := Ry.later hb
  replace Rz := Rz.later hb
  replace hb0 := below_step hb0 hb
  clear hb
  have lg := Rg.lt
  have ld := Rd.lt
  have ly := Ry.lt
  have lz := Rz.lt
  (try clear g0 g1 g2 g3 g4 g5 g6); obtain ⟨g0, g1, g2, g3, g4, g5, g6⟩ := row7 Rg
  (try clear d0 d1 d2 d3 d4 d5 d6 d7 d8 d9 d10 d11); obtain ⟨d0, d1, d2, d3, d4, d5, d6, d7, d8, d9, d10, d11⟩ := row12 Rd
  (try clear y0 y1 y2 y3 y4 y5 y6 y7 y8 y9 y10 y11); obtain ⟨y0, y1, y2, y3, y4, y5, y6, y7, y8, y9, y10, y11⟩ := row12 Ry
  (try clear z0 z1 z2 z3 z4 z5 z6 z7 z8 z9 z10 z11); obtain ⟨z0, z1, z2, z3, z4, z5, z6, z7, z8, z9, z10, z11⟩ := row12 Rz
  go_wp2_with fail
  refine wp_region_held_drew (S := (fun w' => w'.cell? ⟨w.heap.size + 1, 0, none⟩ = some (Value.int .i64 p.a0) ∧ w'.cell? ⟨w.heap.size + 1, 1, none⟩ = some (Value.int .i64 p.a1) ∧ Row w' w.heap.size #[.int .i64 s.n, .int .i64 s.d0.kind, .int .i64 s.d0.side, .int .i64 s.d0.step, .int .i64 s.d1.kind, .int .i64 s.d1.side, .int .i64 s.d1.step] 26 ∧ Row w' (w.heap.size + 1) #[.int .i64 p.a0, .int .i64 p.a1, .int .i64 p.k0.kind, .int .i64 p.k0.len, .int .u64 p.k0.h, .int .u64 p.k0.l, .string ⟨p.k0.path.toArray⟩, .int .i64 p.k1.kind, .int .i64 p.k1.len, .int .u64 p.k1.h, .int .u64 p.k1.l, .string ⟨p.k1.path.toArray⟩] 33)) (by kernel_rfl) ?hSr96_ (fun hHeld => ?_)
  case hSr96_ => (exact ⟨d0, d1, Rg.drew, Rd.drew⟩)
  (clear g0 g1 g2 g3 g4 g5 g6 d0 d1 d2 d3 d4 d5 d6 d7 d8 d9 d10 d11 y0 y1 y2 y3 y4 y5 y6 y7 y8 y9 y10 y11 z0 z1 z2 z3 z4 z5 z6 z7 z8 z9 z10 z11; (replace Rg := Rg.drew); (replace Rd := Rd.drew); (replace Ry := Ry.drew); (replace Rz := Rz.drew); (replace hb0 := hb0.drew); (generalize World.drew w5 = wq at *))
  refine wpAnyH_ready (rs := [0]) (by kernel_rfl) (by simp) ?_
  refine AllReadyH.cons (o := ⟨some 73, .call { callee := .value (.func 24), args := #[], argTypes := #[] }, 4, _, _, _⟩) rfl (fun K hK => ?_) AllReadyH.nil
  (go_simp; (refine (HA _).mono ?_); (rintro e wz ⟨rfl, hb⟩); (replace Rg := Rg.later hb); (replace Rd := Rd.later hb); (replace Ry := Ry.later hb); (replace Rz := Rz.later hb); (replace hb0 := below_step hb0 hb); go_wp2_with fail)
  refine hK.out _ _ ?hSr96_1_0 (fun hHeld2 => ?_)
  case hSr96_1_0 => (obtain ⟨d0, d1, Qg, Qd⟩ := hHeld; exact ⟨cell_later hb d0, cell_later hb d1, Qg.later hb, Qd.later hb⟩)
  clear hK K hHeld
  have hHeld := hHeld2
  clear hHeld2
  rename World => wq
  (try simp only [Act.put, nz1, nz2, nz3])
  refine tk 1 ⟨some 74, .move (.tmp 73), 4, _, _, _⟩ hHeld ?_
  (try simp only [Act.put, nz1, nz2, nz3])
  refine tk 2 ⟨some 75, .load 26 (.tmp 2), 26, _, _, _⟩ hHeld ?_ (v := ?vr96_3_2) (hy := ?yr96_3_2)
  case yr96_3_2 => (intro wy hSw; obtain ⟨d0, d1, Qg, Qd⟩ := hSw; (with_reducible refine pexec_load 26 (.tmp 2) ?_ w.heap.size ?_ 26 #[.int .i64 s.n, .int .i64 s.d0.kind, .int .i64 s.d0.side, .int .i64 s.d0.step, .int .i64 s.d1.kind, .int .i64 s.d1.side, .int .i64 s.d1.step] _ Qg Try.underlying26 ?_ ?_) <;> first | rfl | exact infoSp)
  (try simp only [Act.put, nz1, nz2, nz3])
  refine tk 3 ⟨some 76, .load 33 (.tmp 3), 33, _, _, _⟩ hHeld ?_ (v := ?vr96_4_3) (hy := ?yr96_4_3)
  case yr96_4_3 => (intro wy hSw; obtain ⟨d0, d1, Qg, Qd⟩ := hSw; (with_reducible refine pexec_load 33 (.tmp 3) ?_ (w.heap.size + 1) ?_ 33 #[.int .i64 p.a0, .int .i64 p.a1, .int .i64 p.k0.kind, .int .i64 p.k0.len, .int .u64 p.k0.h, .int .u64 p.k0.l, .string ⟨p.k0.path.toArray⟩, .int .i64 p.k1.kind, .int .i64 p.k1.len, .int .u64 p.k1.h, .int .u64 p.k1.l, .string ⟨p.k1.path.toArray⟩] _ Qd Try.underlying33 ?_ ?_) <;> first | rfl | exact infoPx)
  (try simp only [Act.put, nz1, nz2, nz3])
  refine tk 5 ⟨some 78, .fieldAddr 33 (.tmp 3) 0, 0, _, _, _⟩ hHeld ?_
  (try simp only [Act.put, nz1, nz2, nz3])
  refine tk 6 ⟨some 79, .indexAddr 27 (.tmp 78) (.const (.int .i64 0)), 0, _, _, _⟩ hHeld ?_
  (try simp only [Act.put, nz1, nz2, nz3])
  refine tk 7 ⟨some 80, .load 3 (.tmp 79), 3, _, _, _⟩ hHeld ?_
  (try simp only [Act.put, nz1, nz2, nz3])
  refine tk 8 ⟨some 81, .fieldAddr 33 (.tmp 3) 0, 0, _, _, _⟩ hHeld ?_
  (try simp only [Act.put, nz1, nz2, nz3])
  refine tk 9 ⟨some 82, .indexAddr 27 (.tmp 81) (.const (.int .i64 1)), 0, _, _, _⟩ hHeld ?_
  (try simp only [Act.put, nz1, nz2, nz3])
  refine tk 10 ⟨some 83, .load 3 (.tmp 82), 3, _, _, _⟩ hHeld ?_
  (try simp only [Act.put, nz1, nz2, nz3])
  refine tk 11 ⟨some 84, .binOp .add 3 (.tmp 80) (.tmp 83) 3, 3, _, _, _⟩ hHeld ?_
  (try simp only [Act.put, nz1, nz2, nz3])
  refine wpAnyH_ready (rs := [4]) (by kernel_rfl) (by simp) ?_
  refine AllReadyH.cons (o := ⟨some 77, .call { callee := .value (.func 25), args := #[.tmp 75, .tmp 76], argTypes := #[26, 33] }, 3, _, _, _⟩) rfl (fun K hK => ?_) AllReadyH.nil
  (go_simp; (refine (H9 _).mono ?_); (rintro e wz ⟨rfl, hb⟩); (replace Rg := Rg.later hb); (replace Rd := Rd.later hb); (replace Ry := Ry.later hb); (replace Rz := Rz.later hb); (replace hb0 := below_step hb0 hb); go_wp2_with fail)
  refine hK.out _ _ ?hSr96_12_4 (fun hHeld2 => ?_)
  case hSr96_12_4 => (obtain ⟨d0, d1, Qg, Qd⟩ := hHeld; exact ⟨cell_later hb d0, cell_later hb d1, Qg.later hb, Qd.later hb⟩)
  clear hK K hHeld
  have hHeld := hHeld2
  clear hHeld2
  rename World => wq
  (try simp only [Act.put, nz1, nz2, nz3])
  refine tk 12 ⟨some 85, .binOp .eql 3 (.tmp 77) (.tmp 84) 3, 4, _, _, _⟩ hHeld ?_
  (try simp only [Act.put, nz1, nz2, nz3])
  refine tk 13 ⟨some 86, .pick (.tmp 74) (.tmp 85) (.const (.bool false)), 4, _, _, _⟩ hHeld ?_
  (try simp only [Act.put, nz1, nz2, nz3])
  refine tk 14 ⟨some 4, .assign (.tmp 86), 4, _, _, _⟩ hHeld ?_
  (try simp only [Act.put, nz1, nz2, nz3])
  refine wpAnyH_done (by kernel_rfl) ?_ _
  clear hHeld
  rename World => w6
  have lg := Rg.lt
  have ld := Rd.lt
  have ly := Ry.lt
  have lz := Rz.lt
  (try clear g0 g1 g2 g3 g4 g5 g6); obtain ⟨g0, g1, g2, g3, g4, g5, g6⟩ := row7 Rg
  (try clear d0 d1 d2 d3 d4 d5 d6 d7 d8 d9 d10 d11); obtain ⟨d0, d1, d2, d3, d4, d5, d6, d7, d8, d9, d10, d11⟩ := row12 Rd
  (try clear y0 y1 y2 y3 y4 y5 y6 y7 y8 y9 y10 y11); obtain ⟨y0, y1, y2, y3, y4, y5, y6, y7, y8, y9, y10, y11⟩ := row12 Ry
  (try clear z0 z1 z2 z3 z4 z5 z6 z7 z8 z9 z10 z11); obtain ⟨z0, z1, z2, z3, z4, z5, z6, z7, z8, z9, z10, z11⟩ := row12 Rz
  go_wp2
  go_ret
  exact ⟨rfl, hb0⟩
set_option maxRecDepth 100000 in
set_option maxHeartbeats 32000000 in
theorem tells9_d (s : Sp) (p l t : Px)
    (H1 : ∀ w, Calls Try.prog 16 #[sv s, kv p.k0, kv p.k1] w fun e w' => e = .returned (.tuple #[pv l, .bool true]) ∧ Below w.heap.size w w')
    (H2 : ∀ w, Calls Try.prog 17 #[sv s, kv p.k0, kv p.k1] w fun e w' => e = .returned (.tuple #[pv l, .bool true]) ∧ Below w.heap.size w w')
    (H3 : ∀ w, Calls Try.prog 18 #[sv s] w fun e w' => e = .returned (.bool true) ∧ Below w.heap.size w w')
    (H4 : ∀ w, Calls Try.prog 19 #[sv s] w fun e w' => e = .returned (.bool true) ∧ Below w.heap.size w w')
    (H5 : ∀ w, Calls Try.prog 20 #[sv s, pv p] w fun e w' => e = .returned (.bool false) ∧ Below w.heap.size w w')
    (H6 : ∀ w, Calls Try.prog 21 #[sv s, pv p] w fun e w' => e = .returned (.bool false) ∧ Below w.heap.size w w')
    (H7 : ∀ w, Calls Try.prog 22 #[sv s] w fun e w' => e = .returned (pv t) ∧ Below w.heap.size w w')
    (H8 : ∀ w, Calls Try.prog 23 #[sv s] w fun e w' => e = .returned (pv t) ∧ Below w.heap.size w w')
    (H9 : ∀ w, Calls Try.prog 25 #[sv s, pv p] w fun e w' => e = .returned (.int .i64 0) ∧ Below w.heap.size w w') (w : World) :
    Calls Try.prog 3 #[sv s, pv p] w fun e w' => e = .returned (.bool true) ∧ Below w.heap.size w w' := by
  have HA := alive9_t
  have ql := neq_px l l
  have qt := neq_px t t
  rw [decide_eq_true rfl] at ql qt
  unfold sv pv kv at *
  obtain ⟨Rg, Rd, hb0⟩ := two_rows w #[.int .i64 s.n, .int .i64 s.d0.kind, .int .i64 s.d0.side, .int .i64 s.d0.step, .int .i64 s.d1.kind, .int .i64 s.d1.side, .int .i64 s.d1.step] #[.int .i64 p.a0, .int .i64 p.a1, .int .i64 p.k0.kind, .int .i64 p.k0.len, .int .u64 p.k0.h, .int .u64 p.k0.l, .string ⟨p.k0.path.toArray⟩, .int .i64 p.k1.kind, .int .i64 p.k1.len, .int .u64 p.k1.h, .int .u64 p.k1.l, .string ⟨p.k1.path.toArray⟩] 26 33
  (try clear g0 g1 g2 g3 g4 g5 g6); obtain ⟨g0, g1, g2, g3, g4, g5, g6⟩ := row7 Rg
  (try clear d0 d1 d2 d3 d4 d5 d6 d7 d8 d9 d10 d11); obtain ⟨d0, d1, d2, d3, d4, d5, d6, d7, d8, d9, d10, d11⟩ := row12 Rd
  go_enter Try.func3, Try.ntmps3
  go_wp2_with fail
  refine (H1 _).mono ?_
  rintro e w1 ⟨rfl, hb⟩
  replace Rg := Rg.later hb
  replace Rd := Rd.later hb
  replace hb0 := below_step hb0 hb
  clear hb
  have lg := Rg.lt
  have ld := Rd.lt
  (try clear g0 g1 g2 g3 g4 g5 g6); obtain ⟨g0, g1, g2, g3, g4, g5, g6⟩ := row7 Rg
  (try clear d0 d1 d2 d3 d4 d5 d6 d7 d8 d9 d10 d11); obtain ⟨d0, d1, d2, d3, d4, d5, d6, d7, d8, d9, d10, d11⟩ := row12 Rd
  go_wp2_with fail
  refine (H2 _).mono ?_
  rintro e w2 ⟨rfl, hb⟩
  have nyg := Rg.lt
  have nyd := Rd.lt
  replace Rg := (Rg.alloc _).later hb
  replace Rd := (Rd.alloc _).later hb
  have Ry := Row.later (Row.new _ _ _) hb
  have my := hb0.size
  replace hb0 := below_step (hb0.alloc hb0.size _) hb
  clear hb
  generalize w1.heap.size = gy at *
  have lg := Rg.lt
  have ld := Rd.lt
  have ly := Ry.lt
  (try clear g0 g1 g2 g3 g4 g5 g6); obtain ⟨g0, g1, g2, g3, g4, g5, g6⟩ := row7 Rg
  (try clear d0 d1 d2 d3 d4 d5 d6 d7 d8 d9 d10 d11); obtain ⟨d0, d1, d2, d3, d4, d5, d6, d7, d8, d9, d10, d11⟩ := row12 Rd
  (try clear y0 y1 y2 y3 y4 y5 y6 y7 y8 y9 y10 y11); obtain ⟨y0, y1, y2, y3, y4, y5, y6, y7, y8, y9, y10, y11⟩ := row12 Ry
  go_wp2_with fail
  replace Rg := Rg.alloc (.cells #[Value.int .i64 l.a0, Value.int .i64 l.a1, Value.int .i64 l.k0.kind, Value.int .i64 l.k0.len, Value.int .u64 l.k0.h, Value.int .u64 l.k0.l, Value.string ⟨l.k0.path.toArray⟩, Value.int .i64 l.k1.kind, Value.int .i64 l.k1.len, Value.int .u64 l.k1.h, Value.int .u64 l.k1.l, Value.string ⟨l.k1.path.toArray⟩] 33)
  replace Rd := Rd.alloc (.cells #[Value.int .i64 l.a0, Value.int .i64 l.a1, Value.int .i64 l.k0.kind, Value.int .i64 l.k0.len, Value.int .u64 l.k0.h, Value.int .u64 l.k0.l, Value.string ⟨l.k0.path.toArray⟩, Value.int .i64 l.k1.kind, Value.int .i64 l.k1.len, Value.int .u64 l.k1.h, Value.int .u64 l.k1.l, Value.string ⟨l.k1.path.toArray⟩] 33)
  replace Ry := Ry.alloc (.cells #[Value.int .i64 l.a0, Value.int .i64 l.a1, Value.int .i64 l.k0.kind, Value.int .i64 l.k0.len, Value.int .u64 l.k0.h, Value.int .u64 l.k0.l, Value.string ⟨l.k0.path.toArray⟩, Value.int .i64 l.k1.kind, Value.int .i64 l.k1.len, Value.int .u64 l.k1.h, Value.int .u64 l.k1.l, Value.string ⟨l.k1.path.toArray⟩] 33)
  have Rz := Row.new w2 #[Value.int .i64 l.a0, Value.int .i64 l.a1, Value.int .i64 l.k0.kind, Value.int .i64 l.k0.len, Value.int .u64 l.k0.h, Value.int .u64 l.k0.l, Value.string ⟨l.k0.path.toArray⟩, Value.int .i64 l.k1.kind, Value.int .i64 l.k1.len, Value.int .u64 l.k1.h, Value.int .u64 l.k1.l, Value.string ⟨l.k1.path.toArray⟩] 33
  have mz := hb0.size
  replace hb0 := hb0.alloc hb0.size (.cells #[Value.int .i64 l.a0, Value.int .i64 l.a1, Value.int .i64 l.k0.kind, Value.int .i64 l.k0.len, Value.int .u64 l.k0.h, Value.int .u64 l.k0.l, Value.string ⟨l.k0.path.toArray⟩, Value.int .i64 l.k1.kind, Value.int .i64 l.k1.len, Value.int .u64 l.k1.h, Value.int .u64 l.k1.l, Value.string ⟨l.k1.path.toArray⟩] 33)
  (try clear g0 g1 g2 g3 g4 g5 g6); obtain ⟨g0, g1, g2, g3, g4, g5, g6⟩ := row7 Rg
  (try clear d0 d1 d2 d3 d4 d5 d6 d7 d8 d9 d10 d11); obtain ⟨d0, d1, d2, d3, d4, d5, d6, d7, d8, d9, d10, d11⟩ := row12 Rd
  (try clear y0 y1 y2 y3 y4 y5 y6 y7 y8 y9 y10 y11); obtain ⟨y0, y1, y2, y3, y4, y5, y6, y7, y8, y9, y10, y11⟩ := row12 Ry
  (try clear z0 z1 z2 z3 z4 z5 z6 z7 z8 z9 z10 z11); obtain ⟨z0, z1, z2, z3, z4, z5, z6, z7, z8, z9, z10, z11⟩ := row12 Rz
  generalize (World.alloc w2 (.cells #[Value.int .i64 l.a0, Value.int .i64 l.a1, Value.int .i64 l.k0.kind, Value.int .i64 l.k0.len, Value.int .u64 l.k0.h, Value.int .u64 l.k0.l, Value.string ⟨l.k0.path.toArray⟩, Value.int .i64 l.k1.kind, Value.int .i64 l.k1.len, Value.int .u64 l.k1.h, Value.int .u64 l.k1.l, Value.string ⟨l.k1.path.toArray⟩] 33)) = w3 at *
  refine wp_region_held_drew (S := (fun w' => Row w' w.heap.size #[.int .i64 s.n, .int .i64 s.d0.kind, .int .i64 s.d0.side, .int .i64 s.d0.step, .int .i64 s.d1.kind, .int .i64 s.d1.side, .int .i64 s.d1.step] 26 ∧ Row w' (w.heap.size + 1) #[.int .i64 p.a0, .int .i64 p.a1, .int .i64 p.k0.kind, .int .i64 p.k0.len, .int .u64 p.k0.h, .int .u64 p.k0.l, .string ⟨p.k0.path.toArray⟩, .int .i64 p.k1.kind, .int .i64 p.k1.len, .int .u64 p.k1.h, .int .u64 p.k1.l, .string ⟨p.k1.path.toArray⟩] 33 ∧ Row w' gy #[.int .i64 l.a0, .int .i64 l.a1, .int .i64 l.k0.kind, .int .i64 l.k0.len, .int .u64 l.k0.h, .int .u64 l.k0.l, .string ⟨l.k0.path.toArray⟩, .int .i64 l.k1.kind, .int .i64 l.k1.len, .int .u64 l.k1.h, .int .u64 l.k1.l, .string ⟨l.k1.path.toArray⟩] 33 ∧ Row w' w2.heap.size #[.int .i64 l.a0, .int .i64 l.a1, .int .i64 l.k0.kind, .int .i64 l.k0.len, .int .u64 l.k0.h, .int .u64 l.k0.l, .string ⟨l.k0.path.toArray⟩, .int .i64 l.k1.kind, .int .i64 l.k1.len, .int .u64 l.k1.h, .int .u64 l.k1.l, .string ⟨l.k1.path.toArray⟩] 33)) (by kernel_rfl) ?hSr97_ (fun hHeld => ?_)
  case hSr97_ => (exact ⟨Rg.drew, Rd.drew, Ry.drew, Rz.drew⟩)
  (clear g0 g1 g2 g3 g4 g5 g6 d0 d1 d2 d3 d4 d5 d6 d7 d8 d9 d10 d11 y0 y1 y2 y3 y4 y5 y6 y7 y8 y9 y10 y11 z0 z1 z2 z3 z4 z5 z6 z7 z8 z9 z10 z11; (replace Rg := Rg.drew); (replace Rd := Rd.drew); (replace Ry := Ry.drew); (replace Rz := Rz.drew); (replace hb0 := hb0.drew); (generalize World.drew w3 = wq at *))
  refine tk 0 ⟨some 31, .load 33 (.tmp 5), 33, _, _, _⟩ hHeld ?_ (v := ?vr97_1_0) (hy := ?yr97_1_0)
  case yr97_1_0 => (intro wy hSw; obtain ⟨Qg, Qd, Qy, Qz⟩ := hSw; (with_reducible refine pexec_load 33 (.tmp 5) ?_ gy ?_ 33 #[.int .i64 l.a0, .int .i64 l.a1, .int .i64 l.k0.kind, .int .i64 l.k0.len, .int .u64 l.k0.h, .int .u64 l.k0.l, .string ⟨l.k0.path.toArray⟩, .int .i64 l.k1.kind, .int .i64 l.k1.len, .int .u64 l.k1.h, .int .u64 l.k1.l, .string ⟨l.k1.path.toArray⟩] _ Qy Try.underlying33 ?_ ?_) <;> first | rfl | exact infoPx)
  (try simp only [Act.put, nz1, nz2, nz3])
  refine tk 1 ⟨some 32, .load 33 (.tmp 7), 33, _, _, _⟩ hHeld ?_ (v := ?vr97_2_1) (hy := ?yr97_2_1)
  case yr97_2_1 => (intro wy hSw; obtain ⟨Qg, Qd, Qy, Qz⟩ := hSw; (with_reducible refine pexec_load 33 (.tmp 7) ?_ w2.heap.size ?_ 33 #[.int .i64 l.a0, .int .i64 l.a1, .int .i64 l.k0.kind, .int .i64 l.k0.len, .int .u64 l.k0.h, .int .u64 l.k0.l, .string ⟨l.k0.path.toArray⟩, .int .i64 l.k1.kind, .int .i64 l.k1.len, .int .u64 l.k1.h, .int .u64 l.k1.l, .string ⟨l.k1.path.toArray⟩] _ Qz Try.underlying33 ?_ ?_) <;> first | rfl | exact infoPx)
  (try simp only [Act.put, nz1, nz2, nz3])
  refine tk 2 ⟨some 33, .binOp .neq 33 (.tmp 31) (.tmp 32) 33, 4, _, _, _⟩ hHeld ?_
  (try simp only [Act.put, nz1, nz2, nz3])
  refine tk 3 ⟨some 34, .move (.tmp 33), 4, _, _, _⟩ hHeld ?_
  (try simp only [Act.put, nz1, nz2, nz3])
  refine tk 4 ⟨some 35, .move (.tmp 6), 4, _, _, _⟩ hHeld ?_
  (try simp only [Act.put, nz1, nz2, nz3])
  refine tk 5 ⟨some 36, .move (.tmp 8), 4, _, _, _⟩ hHeld ?_
  (try simp only [Act.put, nz1, nz2, nz3])
  refine tk 6 ⟨some 37, .binOp .neq 4 (.tmp 35) (.tmp 36) 4, 4, _, _, _⟩ hHeld ?_
  (try simp only [Act.put, nz1, nz2, nz3])
  refine tk 7 ⟨some 38, .pick (.tmp 34) (.const (.bool true)) (.tmp 37), 4, _, _, _⟩ hHeld ?_
  (try simp only [Act.put, nz1, nz2, nz3])
  refine tk 8 ⟨some 39, .move (.tmp 38), 4, _, _, _⟩ hHeld ?_
  (try simp only [Act.put, nz1, nz2, nz3])
  refine tk 9 ⟨some 40, .load 26 (.tmp 2), 26, _, _, _⟩ hHeld ?_ (v := ?vr97_10_9) (hy := ?yr97_10_9)
  case yr97_10_9 => (intro wy hSw; obtain ⟨Qg, Qd, Qy, Qz⟩ := hSw; (with_reducible refine pexec_load 26 (.tmp 2) ?_ w.heap.size ?_ 26 #[.int .i64 s.n, .int .i64 s.d0.kind, .int .i64 s.d0.side, .int .i64 s.d0.step, .int .i64 s.d1.kind, .int .i64 s.d1.side, .int .i64 s.d1.step] _ Qg Try.underlying26 ?_ ?_) <;> first | rfl | exact infoSp)
  (try simp only [Act.put, nz1, nz2, nz3])
  refine tk 11 ⟨some 42, .load 26 (.tmp 2), 26, _, _, _⟩ hHeld ?_ (v := ?vr97_11_11) (hy := ?yr97_11_11)
  case yr97_11_11 => (intro wy hSw; obtain ⟨Qg, Qd, Qy, Qz⟩ := hSw; (with_reducible refine pexec_load 26 (.tmp 2) ?_ w.heap.size ?_ 26 #[.int .i64 s.n, .int .i64 s.d0.kind, .int .i64 s.d0.side, .int .i64 s.d0.step, .int .i64 s.d1.kind, .int .i64 s.d1.side, .int .i64 s.d1.step] _ Qg Try.underlying26 ?_ ?_) <;> first | rfl | exact infoSp)
  (try simp only [Act.put, nz1, nz2, nz3])
  refine wpAnyH_ready (rs := [10]) (by kernel_rfl) (by simp) ?_
  refine AllReadyH.cons (o := ⟨some 41, .call { callee := .value (.func 18), args := #[.tmp 40], argTypes := #[26] }, 4, _, _, _⟩) rfl (fun K hK => ?_) AllReadyH.nil
  (go_simp; (refine (H3 _).mono ?_); (rintro e wz ⟨rfl, hb⟩); (replace Rg := Rg.later hb); (replace Rd := Rd.later hb); (replace Ry := Ry.later hb); (replace Rz := Rz.later hb); (replace hb0 := below_step hb0 hb); go_wp2_with fail)
  refine hK.out _ _ ?hSr97_12_10 (fun hHeld2 => ?_)
  case hSr97_12_10 => (obtain ⟨Qg, Qd, Qy, Qz⟩ := hHeld; exact ⟨Qg.later hb, Qd.later hb, Qy.later hb, Qz.later hb⟩)
  clear hK K hHeld
  have hHeld := hHeld2
  clear hHeld2
  rename World => wq
  (try simp only [Act.put, nz1, nz2, nz3])
  refine wpAnyH_ready (rs := [12]) (by kernel_rfl) (by simp) ?_
  refine AllReadyH.cons (o := ⟨some 43, .call { callee := .value (.func 19), args := #[.tmp 42], argTypes := #[26] }, 4, _, _, _⟩) rfl (fun K hK => ?_) AllReadyH.nil
  (go_simp; (refine (H4 _).mono ?_); (rintro e wz ⟨rfl, hb⟩); (replace Rg := Rg.later hb); (replace Rd := Rd.later hb); (replace Ry := Ry.later hb); (replace Rz := Rz.later hb); (replace hb0 := below_step hb0 hb); go_wp2_with fail)
  refine hK.out _ _ ?hSr97_13_12 (fun hHeld2 => ?_)
  case hSr97_13_12 => (obtain ⟨Qg, Qd, Qy, Qz⟩ := hHeld; exact ⟨Qg.later hb, Qd.later hb, Qy.later hb, Qz.later hb⟩)
  clear hK K hHeld
  have hHeld := hHeld2
  clear hHeld2
  rename World => wq
  (try simp only [Act.put, nz1, nz2, nz3])
  refine tk 13 ⟨some 44, .binOp .neq 4 (.tmp 41) (.tmp 43) 4, 4, _, _, _⟩ hHeld ?_
  (try simp only [Act.put, nz1, nz2, nz3])
  refine tk 14 ⟨some 45, .pick (.tmp 39) (.const (.bool true)) (.tmp 44), 4, _, _, _⟩ hHeld ?_
  (try simp only [Act.put, nz1, nz2, nz3])
  refine tk 15 ⟨some 46, .move (.tmp 45), 4, _, _, _⟩ hHeld ?_
  (try simp only [Act.put, nz1, nz2, nz3])
  refine tk 16 ⟨some 47, .load 26 (.tmp 2), 26, _, _, _⟩ hHeld ?_ (v := ?vr97_17_16) (hy := ?yr97_17_16)
  case yr97_17_16 => (intro wy hSw; obtain ⟨Qg, Qd, Qy, Qz⟩ := hSw; (with_reducible refine pexec_load 26 (.tmp 2) ?_ w.heap.size ?_ 26 #[.int .i64 s.n, .int .i64 s.d0.kind, .int .i64 s.d0.side, .int .i64 s.d0.step, .int .i64 s.d1.kind, .int .i64 s.d1.side, .int .i64 s.d1.step] _ Qg Try.underlying26 ?_ ?_) <;> first | rfl | exact infoSp)
  (try simp only [Act.put, nz1, nz2, nz3])
  refine tk 17 ⟨some 48, .load 33 (.tmp 3), 33, _, _, _⟩ hHeld ?_ (v := ?vr97_18_17) (hy := ?yr97_18_17)
  case yr97_18_17 => (intro wy hSw; obtain ⟨Qg, Qd, Qy, Qz⟩ := hSw; (with_reducible refine pexec_load 33 (.tmp 3) ?_ (w.heap.size + 1) ?_ 33 #[.int .i64 p.a0, .int .i64 p.a1, .int .i64 p.k0.kind, .int .i64 p.k0.len, .int .u64 p.k0.h, .int .u64 p.k0.l, .string ⟨p.k0.path.toArray⟩, .int .i64 p.k1.kind, .int .i64 p.k1.len, .int .u64 p.k1.h, .int .u64 p.k1.l, .string ⟨p.k1.path.toArray⟩] _ Qd Try.underlying33 ?_ ?_) <;> first | rfl | exact infoPx)
  (try simp only [Act.put, nz1, nz2, nz3])
  refine tk 19 ⟨some 50, .load 26 (.tmp 2), 26, _, _, _⟩ hHeld ?_ (v := ?vr97_19_19) (hy := ?yr97_19_19)
  case yr97_19_19 => (intro wy hSw; obtain ⟨Qg, Qd, Qy, Qz⟩ := hSw; (with_reducible refine pexec_load 26 (.tmp 2) ?_ w.heap.size ?_ 26 #[.int .i64 s.n, .int .i64 s.d0.kind, .int .i64 s.d0.side, .int .i64 s.d0.step, .int .i64 s.d1.kind, .int .i64 s.d1.side, .int .i64 s.d1.step] _ Qg Try.underlying26 ?_ ?_) <;> first | rfl | exact infoSp)
  (try simp only [Act.put, nz1, nz2, nz3])
  refine tk 20 ⟨some 51, .load 33 (.tmp 3), 33, _, _, _⟩ hHeld ?_ (v := ?vr97_20_20) (hy := ?yr97_20_20)
  case yr97_20_20 => (intro wy hSw; obtain ⟨Qg, Qd, Qy, Qz⟩ := hSw; (with_reducible refine pexec_load 33 (.tmp 3) ?_ (w.heap.size + 1) ?_ 33 #[.int .i64 p.a0, .int .i64 p.a1, .int .i64 p.k0.kind, .int .i64 p.k0.len, .int .u64 p.k0.h, .int .u64 p.k0.l, .string ⟨p.k0.path.toArray⟩, .int .i64 p.k1.kind, .int .i64 p.k1.len, .int .u64 p.k1.h, .int .u64 p.k1.l, .string ⟨p.k1.path.toArray⟩] _ Qd Try.underlying33 ?_ ?_) <;> first | rfl | exact infoPx)
  (try simp only [Act.put, nz1, nz2, nz3])
  refine wpAnyH_ready (rs := [18]) (by kernel_rfl) (by simp) ?_
  refine AllReadyH.cons (o := ⟨some 49, .call { callee := .value (.func 20), args := #[.tmp 47, .tmp 48], argTypes := #[26, 33] }, 4, _, _, _⟩) rfl (fun K hK => ?_) AllReadyH.nil
  (go_simp; (refine (H5 _).mono ?_); (rintro e wz ⟨rfl, hb⟩); (replace Rg := Rg.later hb); (replace Rd := Rd.later hb); (replace Ry := Ry.later hb); (replace Rz := Rz.later hb); (replace hb0 := below_step hb0 hb); go_wp2_with fail)
  refine hK.out _ _ ?hSr97_21_18 (fun hHeld2 => ?_)
  case hSr97_21_18 => (obtain ⟨Qg, Qd, Qy, Qz⟩ := hHeld; exact ⟨Qg.later hb, Qd.later hb, Qy.later hb, Qz.later hb⟩)
  clear hK K hHeld
  have hHeld := hHeld2
  clear hHeld2
  rename World => wq
  (try simp only [Act.put, nz1, nz2, nz3])
  refine wpAnyH_ready (rs := [21]) (by kernel_rfl) (by simp) ?_
  refine AllReadyH.cons (o := ⟨some 52, .call { callee := .value (.func 21), args := #[.tmp 50, .tmp 51], argTypes := #[26, 33] }, 4, _, _, _⟩) rfl (fun K hK => ?_) AllReadyH.nil
  (go_simp; (refine (H6 _).mono ?_); (rintro e wz ⟨rfl, hb⟩); (replace Rg := Rg.later hb); (replace Rd := Rd.later hb); (replace Ry := Ry.later hb); (replace Rz := Rz.later hb); (replace hb0 := below_step hb0 hb); go_wp2_with fail)
  refine hK.out _ _ ?hSr97_22_21 (fun hHeld2 => ?_)
  case hSr97_22_21 => (obtain ⟨Qg, Qd, Qy, Qz⟩ := hHeld; exact ⟨Qg.later hb, Qd.later hb, Qy.later hb, Qz.later hb⟩)
  clear hK K hHeld
  have hHeld := hHeld2
  clear hHeld2
  rename World => wq
  (try simp only [Act.put, nz1, nz2, nz3])
  refine tk 22 ⟨some 53, .binOp .neq 4 (.tmp 49) (.tmp 52) 4, 4, _, _, _⟩ hHeld ?_
  (try simp only [Act.put, nz1, nz2, nz3])
  refine tk 23 ⟨some 54, .pick (.tmp 46) (.const (.bool true)) (.tmp 53), 4, _, _, _⟩ hHeld ?_
  (try simp only [Act.put, nz1, nz2, nz3])
  refine tk 24 ⟨some 55, .move (.tmp 54), 4, _, _, _⟩ hHeld ?_
  (try simp only [Act.put, nz1, nz2, nz3])
  refine tk 25 ⟨some 56, .load 26 (.tmp 2), 26, _, _, _⟩ hHeld ?_ (v := ?vr97_26_25) (hy := ?yr97_26_25)
  case yr97_26_25 => (intro wy hSw; obtain ⟨Qg, Qd, Qy, Qz⟩ := hSw; (with_reducible refine pexec_load 26 (.tmp 2) ?_ w.heap.size ?_ 26 #[.int .i64 s.n, .int .i64 s.d0.kind, .int .i64 s.d0.side, .int .i64 s.d0.step, .int .i64 s.d1.kind, .int .i64 s.d1.side, .int .i64 s.d1.step] _ Qg Try.underlying26 ?_ ?_) <;> first | rfl | exact infoSp)
  (try simp only [Act.put, nz1, nz2, nz3])
  refine tk 27 ⟨some 58, .load 26 (.tmp 2), 26, _, _, _⟩ hHeld ?_ (v := ?vr97_27_27) (hy := ?yr97_27_27)
  case yr97_27_27 => (intro wy hSw; obtain ⟨Qg, Qd, Qy, Qz⟩ := hSw; (with_reducible refine pexec_load 26 (.tmp 2) ?_ w.heap.size ?_ 26 #[.int .i64 s.n, .int .i64 s.d0.kind, .int .i64 s.d0.side, .int .i64 s.d0.step, .int .i64 s.d1.kind, .int .i64 s.d1.side, .int .i64 s.d1.step] _ Qg Try.underlying26 ?_ ?_) <;> first | rfl | exact infoSp)
  (try simp only [Act.put, nz1, nz2, nz3])
  refine wpAnyH_ready (rs := [26]) (by kernel_rfl) (by simp) ?_
  refine AllReadyH.cons (o := ⟨some 57, .call { callee := .value (.func 22), args := #[.tmp 56], argTypes := #[26] }, 33, _, _, _⟩) rfl (fun K hK => ?_) AllReadyH.nil
  (go_simp; (refine (H7 _).mono ?_); (rintro e wz ⟨rfl, hb⟩); (replace Rg := Rg.later hb); (replace Rd := Rd.later hb); (replace Ry := Ry.later hb); (replace Rz := Rz.later hb); (replace hb0 := below_step hb0 hb); go_wp2_with fail)
  refine hK.out _ _ ?hSr97_28_26 (fun hHeld2 => ?_)
  case hSr97_28_26 => (obtain ⟨Qg, Qd, Qy, Qz⟩ := hHeld; exact ⟨Qg.later hb, Qd.later hb, Qy.later hb, Qz.later hb⟩)
  clear hK K hHeld
  have hHeld := hHeld2
  clear hHeld2
  rename World => wq
  (try simp only [Act.put, nz1, nz2, nz3])
  refine wpAnyH_ready (rs := [28]) (by kernel_rfl) (by simp) ?_
  refine AllReadyH.cons (o := ⟨some 59, .call { callee := .value (.func 23), args := #[.tmp 58], argTypes := #[26] }, 33, _, _, _⟩) rfl (fun K hK => ?_) AllReadyH.nil
  (go_simp; (refine (H8 _).mono ?_); (rintro e wz ⟨rfl, hb⟩); (replace Rg := Rg.later hb); (replace Rd := Rd.later hb); (replace Ry := Ry.later hb); (replace Rz := Rz.later hb); (replace hb0 := below_step hb0 hb); go_wp2_with fail)
  refine hK.out _ _ ?hSr97_29_28 (fun hHeld2 => ?_)
  case hSr97_29_28 => (obtain ⟨Qg, Qd, Qy, Qz⟩ := hHeld; exact ⟨Qg.later hb, Qd.later hb, Qy.later hb, Qz.later hb⟩)
  clear hK K hHeld
  have hHeld := hHeld2
  clear hHeld2
  rename World => wq
  (try simp only [Act.put, nz1, nz2, nz3])
  refine tk 29 ⟨some 60, .binOp .neq 33 (.tmp 57) (.tmp 59) 33, 4, _, _, _⟩ hHeld ?_
  (try simp only [Act.put, nz1, nz2, nz3])
  refine tk 30 ⟨some 61, .pick (.tmp 55) (.const (.bool true)) (.tmp 60), 4, _, _, _⟩ hHeld ?_
  (try simp only [Act.put, nz1, nz2, nz3])
  refine wpAnyH_done (by kernel_rfl) ?_ _
  clear hHeld
  rename World => w4
  have lg := Rg.lt
  have ld := Rd.lt
  have ly := Ry.lt
  have lz := Rz.lt
  (try clear g0 g1 g2 g3 g4 g5 g6); obtain ⟨g0, g1, g2, g3, g4, g5, g6⟩ := row7 Rg
  (try clear d0 d1 d2 d3 d4 d5 d6 d7 d8 d9 d10 d11); obtain ⟨d0, d1, d2, d3, d4, d5, d6, d7, d8, d9, d10, d11⟩ := row12 Rd
  (try clear y0 y1 y2 y3 y4 y5 y6 y7 y8 y9 y10 y11); obtain ⟨y0, y1, y2, y3, y4, y5, y6, y7, y8, y9, y10, y11⟩ := row12 Ry
  (try clear z0 z1 z2 z3 z4 z5 z6 z7 z8 z9 z10 z11); obtain ⟨z0, z1, z2, z3, z4, z5, z6, z7, z8, z9, z10, z11⟩ := row12 Rz
  go_wp2_with fail
  refine (H6 _).mono ?_
  rintro e w5 ⟨rfl, hb⟩
  replace Rg := Rg.later hb
  replace Rd := Rd.later hb
  replace Ry := Ry.later hb
  replace Rz := Rz.later hb
  replace hb0 := below_step hb0 hb
  clear hb
  have lg := Rg.lt
  have ld := Rd.lt
  have ly := Ry.lt
  have lz := Rz.lt
  (try clear g0 g1 g2 g3 g4 g5 g6); obtain ⟨g0, g1, g2, g3, g4, g5, g6⟩ := row7 Rg
  (try clear d0 d1 d2 d3 d4 d5 d6 d7 d8 d9 d10 d11); obtain ⟨d0, d1, d2, d3, d4, d5, d6, d7, d8, d9, d10, d11⟩ := row12 Rd
  (try clear y0 y1 y2 y3 y4 y5 y6 y7 y8 y9 y10 y11); obtain ⟨y0, y1, y2, y3, y4, y5, y6, y7, y8, y9, y10, y11⟩ := row12 Ry
  (try clear z0 z1 z2 z3 z4 z5 z6 z7 z8 z9 z10 z11); obtain ⟨z0, z1, z2, z3, z4, z5, z6, z7, z8, z9, z10, z11⟩ := row12 Rz
  go_wp2_with fail
  refine (HA _).mono ?_
  rintro e w6 ⟨rfl, hb⟩
  replace Rg := Rg.later hb
  replace Rd := Rd.later hb
  replace Ry := Ry.later hb
  replace Rz := Rz.later hb
  replace hb0 := below_step hb0 hb
  clear hb
  have lg := Rg.lt
  have ld := Rd.lt
  have ly := Ry.lt
  have lz := Rz.lt
  (try clear g0 g1 g2 g3 g4 g5 g6); obtain ⟨g0, g1, g2, g3, g4, g5, g6⟩ := row7 Rg
  (try clear d0 d1 d2 d3 d4 d5 d6 d7 d8 d9 d10 d11); obtain ⟨d0, d1, d2, d3, d4, d5, d6, d7, d8, d9, d10, d11⟩ := row12 Rd
  (try clear y0 y1 y2 y3 y4 y5 y6 y7 y8 y9 y10 y11); obtain ⟨y0, y1, y2, y3, y4, y5, y6, y7, y8, y9, y10, y11⟩ := row12 Ry
  (try clear z0 z1 z2 z3 z4 z5 z6 z7 z8 z9 z10 z11); obtain ⟨z0, z1, z2, z3, z4, z5, z6, z7, z8, z9, z10, z11⟩ := row12 Rz
  go_wp2_with fail
  refine (H9 _).mono ?_
  rintro e w7 ⟨rfl, hb⟩
  replace Rg := Rg.later hb
  replace Rd := Rd.later hb
  replace Ry := Ry.later hb
  replace Rz := Rz.later hb
  replace hb0 := below_step hb0 hb
  clear hb
  have lg := Rg.lt
  have ld := Rd.lt
  have ly := Ry.lt
  have lz := Rz.lt
  (try clear g0 g1 g2 g3 g4 g5 g6); obtain ⟨g0, g1, g2, g3, g4, g5, g6⟩ := row7 Rg
  (try clear d0 d1 d2 d3 d4 d5 d6 d7 d8 d9 d10 d11); obtain ⟨d0, d1, d2, d3, d4, d5, d6, d7, d8, d9, d10, d11⟩ := row12 Rd
  (try clear y0 y1 y2 y3 y4 y5 y6 y7 y8 y9 y10 y11); obtain ⟨y0, y1, y2, y3, y4, y5, y6, y7, y8, y9, y10, y11⟩ := row12 Ry
  (try clear z0 z1 z2 z3 z4 z5 z6 z7 z8 z9 z10 z11); obtain ⟨z0, z1, z2, z3, z4, z5, z6, z7, z8, z9, z10, z11⟩ := row12 Rz
  go_wp2
  go_ret
  exact ⟨rfl, hb0⟩
set_option maxRecDepth 100000 in
set_option maxHeartbeats 32000000 in
theorem tells9_e (s : Sp) (p l t : Px)
    (H1 : ∀ w, Calls Try.prog 16 #[sv s, kv p.k0, kv p.k1] w fun e w' => e = .returned (.tuple #[pv l, .bool true]) ∧ Below w.heap.size w w')
    (H2 : ∀ w, Calls Try.prog 17 #[sv s, kv p.k0, kv p.k1] w fun e w' => e = .returned (.tuple #[pv l, .bool true]) ∧ Below w.heap.size w w')
    (H3 : ∀ w, Calls Try.prog 18 #[sv s] w fun e w' => e = .returned (.bool true) ∧ Below w.heap.size w w')
    (H4 : ∀ w, Calls Try.prog 19 #[sv s] w fun e w' => e = .returned (.bool true) ∧ Below w.heap.size w w')
    (H5 : ∀ w, Calls Try.prog 20 #[sv s, pv p] w fun e w' => e = .returned (.bool true) ∧ Below w.heap.size w w')
    (H6 : ∀ w, Calls Try.prog 21 #[sv s, pv p] w fun e w' => e = .returned (.bool true) ∧ Below w.heap.size w w')
    (H7 : ∀ w, Calls Try.prog 22 #[sv s] w fun e w' => e = .returned (pv t) ∧ Below w.heap.size w w')
    (H8 : ∀ w, Calls Try.prog 23 #[sv s] w fun e w' => e = .returned (pv t) ∧ Below w.heap.size w w')
    (H9 : ∀ w, Calls Try.prog 25 #[sv s, pv p] w fun e w' => e = .returned (.int .i64 (p.a0 + p.a1)) ∧ Below w.heap.size w w')
    (g0 : 0 ≤ p.a0) (g1 : p.a0 ≤ 1000) (g2 : 0 ≤ p.a1) (g3 : p.a1 ≤ 1000) (w : World) :
    Calls Try.prog 3 #[sv s, pv p] w fun e w' => e = .returned (.bool true) ∧ Below w.heap.size w w' := by
  have HA := alive9_t
  have ql := neq_px l l
  have qt := neq_px t t
  rw [decide_eq_true rfl] at ql qt
  have hw : IntKind.i64.wrap (p.a0 + p.a1) = p.a0 + p.a1 := IntWalk.i64_in _ (by omega)
  clear g0 g1 g2 g3
  unfold sv pv kv at *
  obtain ⟨Rg, Rd, hb0⟩ := two_rows w #[.int .i64 s.n, .int .i64 s.d0.kind, .int .i64 s.d0.side, .int .i64 s.d0.step, .int .i64 s.d1.kind, .int .i64 s.d1.side, .int .i64 s.d1.step] #[.int .i64 p.a0, .int .i64 p.a1, .int .i64 p.k0.kind, .int .i64 p.k0.len, .int .u64 p.k0.h, .int .u64 p.k0.l, .string ⟨p.k0.path.toArray⟩, .int .i64 p.k1.kind, .int .i64 p.k1.len, .int .u64 p.k1.h, .int .u64 p.k1.l, .string ⟨p.k1.path.toArray⟩] 26 33
  (try clear g0 g1 g2 g3 g4 g5 g6); obtain ⟨g0, g1, g2, g3, g4, g5, g6⟩ := row7 Rg
  (try clear d0 d1 d2 d3 d4 d5 d6 d7 d8 d9 d10 d11); obtain ⟨d0, d1, d2, d3, d4, d5, d6, d7, d8, d9, d10, d11⟩ := row12 Rd
  go_enter Try.func3, Try.ntmps3
  go_wp2_with fail
  refine (H1 _).mono ?_
  rintro e w1 ⟨rfl, hb⟩
  replace Rg := Rg.later hb
  replace Rd := Rd.later hb
  replace hb0 := below_step hb0 hb
  clear hb
  have lg := Rg.lt
  have ld := Rd.lt
  (try clear g0 g1 g2 g3 g4 g5 g6); obtain ⟨g0, g1, g2, g3, g4, g5, g6⟩ := row7 Rg
  (try clear d0 d1 d2 d3 d4 d5 d6 d7 d8 d9 d10 d11); obtain ⟨d0, d1, d2, d3, d4, d5, d6, d7, d8, d9, d10, d11⟩ := row12 Rd
  go_wp2_with fail
  refine (H2 _).mono ?_
  rintro e w2 ⟨rfl, hb⟩
  have nyg := Rg.lt
  have nyd := Rd.lt
  replace Rg := (Rg.alloc _).later hb
  replace Rd := (Rd.alloc _).later hb
  have Ry := Row.later (Row.new _ _ _) hb
  have my := hb0.size
  replace hb0 := below_step (hb0.alloc hb0.size _) hb
  clear hb
  generalize w1.heap.size = gy at *
  have lg := Rg.lt
  have ld := Rd.lt
  have ly := Ry.lt
  (try clear g0 g1 g2 g3 g4 g5 g6); obtain ⟨g0, g1, g2, g3, g4, g5, g6⟩ := row7 Rg
  (try clear d0 d1 d2 d3 d4 d5 d6 d7 d8 d9 d10 d11); obtain ⟨d0, d1, d2, d3, d4, d5, d6, d7, d8, d9, d10, d11⟩ := row12 Rd
  (try clear y0 y1 y2 y3 y4 y5 y6 y7 y8 y9 y10 y11); obtain ⟨y0, y1, y2, y3, y4, y5, y6, y7, y8, y9, y10, y11⟩ := row12 Ry
  go_wp2_with fail
  replace Rg := Rg.alloc (.cells #[Value.int .i64 l.a0, Value.int .i64 l.a1, Value.int .i64 l.k0.kind, Value.int .i64 l.k0.len, Value.int .u64 l.k0.h, Value.int .u64 l.k0.l, Value.string ⟨l.k0.path.toArray⟩, Value.int .i64 l.k1.kind, Value.int .i64 l.k1.len, Value.int .u64 l.k1.h, Value.int .u64 l.k1.l, Value.string ⟨l.k1.path.toArray⟩] 33)
  replace Rd := Rd.alloc (.cells #[Value.int .i64 l.a0, Value.int .i64 l.a1, Value.int .i64 l.k0.kind, Value.int .i64 l.k0.len, Value.int .u64 l.k0.h, Value.int .u64 l.k0.l, Value.string ⟨l.k0.path.toArray⟩, Value.int .i64 l.k1.kind, Value.int .i64 l.k1.len, Value.int .u64 l.k1.h, Value.int .u64 l.k1.l, Value.string ⟨l.k1.path.toArray⟩] 33)
  replace Ry := Ry.alloc (.cells #[Value.int .i64 l.a0, Value.int .i64 l.a1, Value.int .i64 l.k0.kind, Value.int .i64 l.k0.len, Value.int .u64 l.k0.h, Value.int .u64 l.k0.l, Value.string ⟨l.k0.path.toArray⟩, Value.int .i64 l.k1.kind, Value.int .i64 l.k1.len, Value.int .u64 l.k1.h, Value.int .u64 l.k1.l, Value.string ⟨l.k1.path.toArray⟩] 33)
  have Rz := Row.new w2 #[Value.int .i64 l.a0, Value.int .i64 l.a1, Value.int .i64 l.k0.kind, Value.int .i64 l.k0.len, Value.int .u64 l.k0.h, Value.int .u64 l.k0.l, Value.string ⟨l.k0.path.toArray⟩, Value.int .i64 l.k1.kind, Value.int .i64 l.k1.len, Value.int .u64 l.k1.h, Value.int .u64 l.k1.l, Value.string ⟨l.k1.path.toArray⟩] 33
  have mz := hb0.size
  replace hb0 := hb0.alloc hb0.size (.cells #[Value.int .i64 l.a0, Value.int .i64 l.a1, Value.int .i64 l.k0.kind, Value.int .i64 l.k0.len, Value.int .u64 l.k0.h, Value.int .u64 l.k0.l, Value.string ⟨l.k0.path.toArray⟩, Value.int .i64 l.k1.kind, Value.int .i64 l.k1.len, Value.int .u64 l.k1.h, Value.int .u64 l.k1.l, Value.string ⟨l.k1.path.toArray⟩] 33)
  (try clear g0 g1 g2 g3 g4 g5 g6); obtain ⟨g0, g1, g2, g3, g4, g5, g6⟩ := row7 Rg
  (try clear d0 d1 d2 d3 d4 d5 d6 d7 d8 d9 d10 d11); obtain ⟨d0, d1, d2, d3, d4, d5, d6, d7, d8, d9, d10, d11⟩ := row12 Rd
  (try clear y0 y1 y2 y3 y4 y5 y6 y7 y8 y9 y10 y11); obtain ⟨y0, y1, y2, y3, y4, y5, y6, y7, y8, y9, y10, y11⟩ := row12 Ry
  (try clear z0 z1 z2 z3 z4 z5 z6 z7 z8 z9 z10 z11); obtain ⟨z0, z1, z2, z3, z4, z5, z6, z7, z8, z9, z10, z11⟩ := row12 Rz
  generalize (World.alloc w2 (.cells #[Value.int .i64 l.a0, Value.int .i64 l.a1, Value.int .i64 l.k0.kind, Value.int .i64 l.k0.len, Value.int .u64 l.k0.h, Value.int .u64 l.k0.l, Value.string ⟨l.k0.path.toArray⟩, Value.int .i64 l.k1.kind, Value.int .i64 l.k1.len, Value.int .u64 l.k1.h, Value.int .u64 l.k1.l, Value.string ⟨l.k1.path.toArray⟩] 33)) = w3 at *
  refine wp_region_held_drew (S := (fun w' => Row w' w.heap.size #[.int .i64 s.n, .int .i64 s.d0.kind, .int .i64 s.d0.side, .int .i64 s.d0.step, .int .i64 s.d1.kind, .int .i64 s.d1.side, .int .i64 s.d1.step] 26 ∧ Row w' (w.heap.size + 1) #[.int .i64 p.a0, .int .i64 p.a1, .int .i64 p.k0.kind, .int .i64 p.k0.len, .int .u64 p.k0.h, .int .u64 p.k0.l, .string ⟨p.k0.path.toArray⟩, .int .i64 p.k1.kind, .int .i64 p.k1.len, .int .u64 p.k1.h, .int .u64 p.k1.l, .string ⟨p.k1.path.toArray⟩] 33 ∧ Row w' gy #[.int .i64 l.a0, .int .i64 l.a1, .int .i64 l.k0.kind, .int .i64 l.k0.len, .int .u64 l.k0.h, .int .u64 l.k0.l, .string ⟨l.k0.path.toArray⟩, .int .i64 l.k1.kind, .int .i64 l.k1.len, .int .u64 l.k1.h, .int .u64 l.k1.l, .string ⟨l.k1.path.toArray⟩] 33 ∧ Row w' w2.heap.size #[.int .i64 l.a0, .int .i64 l.a1, .int .i64 l.k0.kind, .int .i64 l.k0.len, .int .u64 l.k0.h, .int .u64 l.k0.l, .string ⟨l.k0.path.toArray⟩, .int .i64 l.k1.kind, .int .i64 l.k1.len, .int .u64 l.k1.h, .int .u64 l.k1.l, .string ⟨l.k1.path.toArray⟩] 33)) (by kernel_rfl) ?hSr98_ (fun hHeld => ?_)
  case hSr98_ => (exact ⟨Rg.drew, Rd.drew, Ry.drew, Rz.drew⟩)
  (clear g0 g1 g2 g3 g4 g5 g6 d0 d1 d2 d3 d4 d5 d6 d7 d8 d9 d10 d11 y0 y1 y2 y3 y4 y5 y6 y7 y8 y9 y10 y11 z0 z1 z2 z3 z4 z5 z6 z7 z8 z9 z10 z11; (replace Rg := Rg.drew); (replace Rd := Rd.drew); (replace Ry := Ry.drew); (replace Rz := Rz.drew); (replace hb0 := hb0.drew); (generalize World.drew w3 = wq at *))
  refine tk 0 ⟨some 31, .load 33 (.tmp 5), 33, _, _, _⟩ hHeld ?_ (v := ?vr98_1_0) (hy := ?yr98_1_0)
  case yr98_1_0 => (intro wy hSw; obtain ⟨Qg, Qd, Qy, Qz⟩ := hSw; (with_reducible refine pexec_load 33 (.tmp 5) ?_ gy ?_ 33 #[.int .i64 l.a0, .int .i64 l.a1, .int .i64 l.k0.kind, .int .i64 l.k0.len, .int .u64 l.k0.h, .int .u64 l.k0.l, .string ⟨l.k0.path.toArray⟩, .int .i64 l.k1.kind, .int .i64 l.k1.len, .int .u64 l.k1.h, .int .u64 l.k1.l, .string ⟨l.k1.path.toArray⟩] _ Qy Try.underlying33 ?_ ?_) <;> first | rfl | exact infoPx)
  (try simp only [Act.put, nz1, nz2, nz3])
  refine tk 1 ⟨some 32, .load 33 (.tmp 7), 33, _, _, _⟩ hHeld ?_ (v := ?vr98_2_1) (hy := ?yr98_2_1)
  case yr98_2_1 => (intro wy hSw; obtain ⟨Qg, Qd, Qy, Qz⟩ := hSw; (with_reducible refine pexec_load 33 (.tmp 7) ?_ w2.heap.size ?_ 33 #[.int .i64 l.a0, .int .i64 l.a1, .int .i64 l.k0.kind, .int .i64 l.k0.len, .int .u64 l.k0.h, .int .u64 l.k0.l, .string ⟨l.k0.path.toArray⟩, .int .i64 l.k1.kind, .int .i64 l.k1.len, .int .u64 l.k1.h, .int .u64 l.k1.l, .string ⟨l.k1.path.toArray⟩] _ Qz Try.underlying33 ?_ ?_) <;> first | rfl | exact infoPx)
  (try simp only [Act.put, nz1, nz2, nz3])
  refine tk 2 ⟨some 33, .binOp .neq 33 (.tmp 31) (.tmp 32) 33, 4, _, _, _⟩ hHeld ?_
  (try simp only [Act.put, nz1, nz2, nz3])
  refine tk 3 ⟨some 34, .move (.tmp 33), 4, _, _, _⟩ hHeld ?_
  (try simp only [Act.put, nz1, nz2, nz3])
  refine tk 4 ⟨some 35, .move (.tmp 6), 4, _, _, _⟩ hHeld ?_
  (try simp only [Act.put, nz1, nz2, nz3])
  refine tk 5 ⟨some 36, .move (.tmp 8), 4, _, _, _⟩ hHeld ?_
  (try simp only [Act.put, nz1, nz2, nz3])
  refine tk 6 ⟨some 37, .binOp .neq 4 (.tmp 35) (.tmp 36) 4, 4, _, _, _⟩ hHeld ?_
  (try simp only [Act.put, nz1, nz2, nz3])
  refine tk 7 ⟨some 38, .pick (.tmp 34) (.const (.bool true)) (.tmp 37), 4, _, _, _⟩ hHeld ?_
  (try simp only [Act.put, nz1, nz2, nz3])
  refine tk 8 ⟨some 39, .move (.tmp 38), 4, _, _, _⟩ hHeld ?_
  (try simp only [Act.put, nz1, nz2, nz3])
  refine tk 9 ⟨some 40, .load 26 (.tmp 2), 26, _, _, _⟩ hHeld ?_ (v := ?vr98_10_9) (hy := ?yr98_10_9)
  case yr98_10_9 => (intro wy hSw; obtain ⟨Qg, Qd, Qy, Qz⟩ := hSw; (with_reducible refine pexec_load 26 (.tmp 2) ?_ w.heap.size ?_ 26 #[.int .i64 s.n, .int .i64 s.d0.kind, .int .i64 s.d0.side, .int .i64 s.d0.step, .int .i64 s.d1.kind, .int .i64 s.d1.side, .int .i64 s.d1.step] _ Qg Try.underlying26 ?_ ?_) <;> first | rfl | exact infoSp)
  (try simp only [Act.put, nz1, nz2, nz3])
  refine tk 11 ⟨some 42, .load 26 (.tmp 2), 26, _, _, _⟩ hHeld ?_ (v := ?vr98_11_11) (hy := ?yr98_11_11)
  case yr98_11_11 => (intro wy hSw; obtain ⟨Qg, Qd, Qy, Qz⟩ := hSw; (with_reducible refine pexec_load 26 (.tmp 2) ?_ w.heap.size ?_ 26 #[.int .i64 s.n, .int .i64 s.d0.kind, .int .i64 s.d0.side, .int .i64 s.d0.step, .int .i64 s.d1.kind, .int .i64 s.d1.side, .int .i64 s.d1.step] _ Qg Try.underlying26 ?_ ?_) <;> first | rfl | exact infoSp)
  (try simp only [Act.put, nz1, nz2, nz3])
  refine wpAnyH_ready (rs := [10]) (by kernel_rfl) (by simp) ?_
  refine AllReadyH.cons (o := ⟨some 41, .call { callee := .value (.func 18), args := #[.tmp 40], argTypes := #[26] }, 4, _, _, _⟩) rfl (fun K hK => ?_) AllReadyH.nil
  (go_simp; (refine (H3 _).mono ?_); (rintro e wz ⟨rfl, hb⟩); (replace Rg := Rg.later hb); (replace Rd := Rd.later hb); (replace Ry := Ry.later hb); (replace Rz := Rz.later hb); (replace hb0 := below_step hb0 hb); go_wp2_with fail)
  refine hK.out _ _ ?hSr98_12_10 (fun hHeld2 => ?_)
  case hSr98_12_10 => (obtain ⟨Qg, Qd, Qy, Qz⟩ := hHeld; exact ⟨Qg.later hb, Qd.later hb, Qy.later hb, Qz.later hb⟩)
  clear hK K hHeld
  have hHeld := hHeld2
  clear hHeld2
  rename World => wq
  (try simp only [Act.put, nz1, nz2, nz3])
  refine wpAnyH_ready (rs := [12]) (by kernel_rfl) (by simp) ?_
  refine AllReadyH.cons (o := ⟨some 43, .call { callee := .value (.func 19), args := #[.tmp 42], argTypes := #[26] }, 4, _, _, _⟩) rfl (fun K hK => ?_) AllReadyH.nil
  (go_simp; (refine (H4 _).mono ?_); (rintro e wz ⟨rfl, hb⟩); (replace Rg := Rg.later hb); (replace Rd := Rd.later hb); (replace Ry := Ry.later hb); (replace Rz := Rz.later hb); (replace hb0 := below_step hb0 hb); go_wp2_with fail)
  refine hK.out _ _ ?hSr98_13_12 (fun hHeld2 => ?_)
  case hSr98_13_12 => (obtain ⟨Qg, Qd, Qy, Qz⟩ := hHeld; exact ⟨Qg.later hb, Qd.later hb, Qy.later hb, Qz.later hb⟩)
  clear hK K hHeld
  have hHeld := hHeld2
  clear hHeld2
  rename World => wq
  (try simp only [Act.put, nz1, nz2, nz3])
  refine tk 13 ⟨some 44, .binOp .neq 4 (.tmp 41) (.tmp 43) 4, 4, _, _, _⟩ hHeld ?_
  (try simp only [Act.put, nz1, nz2, nz3])
  refine tk 14 ⟨some 45, .pick (.tmp 39) (.const (.bool true)) (.tmp 44), 4, _, _, _⟩ hHeld ?_
  (try simp only [Act.put, nz1, nz2, nz3])
  refine tk 15 ⟨some 46, .move (.tmp 45), 4, _, _, _⟩ hHeld ?_
  (try simp only [Act.put, nz1, nz2, nz3])
  refine tk 16 ⟨some 47, .load 26 (.tmp 2), 26, _, _, _⟩ hHeld ?_ (v := ?vr98_17_16) (hy := ?yr98_17_16)
  case yr98_17_16 => (intro wy hSw; obtain ⟨Qg, Qd, Qy, Qz⟩ := hSw; (with_reducible refine pexec_load 26 (.tmp 2) ?_ w.heap.size ?_ 26 #[.int .i64 s.n, .int .i64 s.d0.kind, .int .i64 s.d0.side, .int .i64 s.d0.step, .int .i64 s.d1.kind, .int .i64 s.d1.side, .int .i64 s.d1.step] _ Qg Try.underlying26 ?_ ?_) <;> first | rfl | exact infoSp)
  (try simp only [Act.put, nz1, nz2, nz3])
  refine tk 17 ⟨some 48, .load 33 (.tmp 3), 33, _, _, _⟩ hHeld ?_ (v := ?vr98_18_17) (hy := ?yr98_18_17)
  case yr98_18_17 => (intro wy hSw; obtain ⟨Qg, Qd, Qy, Qz⟩ := hSw; (with_reducible refine pexec_load 33 (.tmp 3) ?_ (w.heap.size + 1) ?_ 33 #[.int .i64 p.a0, .int .i64 p.a1, .int .i64 p.k0.kind, .int .i64 p.k0.len, .int .u64 p.k0.h, .int .u64 p.k0.l, .string ⟨p.k0.path.toArray⟩, .int .i64 p.k1.kind, .int .i64 p.k1.len, .int .u64 p.k1.h, .int .u64 p.k1.l, .string ⟨p.k1.path.toArray⟩] _ Qd Try.underlying33 ?_ ?_) <;> first | rfl | exact infoPx)
  (try simp only [Act.put, nz1, nz2, nz3])
  refine tk 19 ⟨some 50, .load 26 (.tmp 2), 26, _, _, _⟩ hHeld ?_ (v := ?vr98_19_19) (hy := ?yr98_19_19)
  case yr98_19_19 => (intro wy hSw; obtain ⟨Qg, Qd, Qy, Qz⟩ := hSw; (with_reducible refine pexec_load 26 (.tmp 2) ?_ w.heap.size ?_ 26 #[.int .i64 s.n, .int .i64 s.d0.kind, .int .i64 s.d0.side, .int .i64 s.d0.step, .int .i64 s.d1.kind, .int .i64 s.d1.side, .int .i64 s.d1.step] _ Qg Try.underlying26 ?_ ?_) <;> first | rfl | exact infoSp)
  (try simp only [Act.put, nz1, nz2, nz3])
  refine tk 20 ⟨some 51, .load 33 (.tmp 3), 33, _, _, _⟩ hHeld ?_ (v := ?vr98_20_20) (hy := ?yr98_20_20)
  case yr98_20_20 => (intro wy hSw; obtain ⟨Qg, Qd, Qy, Qz⟩ := hSw; (with_reducible refine pexec_load 33 (.tmp 3) ?_ (w.heap.size + 1) ?_ 33 #[.int .i64 p.a0, .int .i64 p.a1, .int .i64 p.k0.kind, .int .i64 p.k0.len, .int .u64 p.k0.h, .int .u64 p.k0.l, .string ⟨p.k0.path.toArray⟩, .int .i64 p.k1.kind, .int .i64 p.k1.len, .int .u64 p.k1.h, .int .u64 p.k1.l, .string ⟨p.k1.path.toArray⟩] _ Qd Try.underlying33 ?_ ?_) <;> first | rfl | exact infoPx)
  (try simp only [Act.put, nz1, nz2, nz3])
  refine wpAnyH_ready (rs := [18]) (by kernel_rfl) (by simp) ?_
  refine AllReadyH.cons (o := ⟨some 49, .call { callee := .value (.func 20), args := #[.tmp 47, .tmp 48], argTypes := #[26, 33] }, 4, _, _, _⟩) rfl (fun K hK => ?_) AllReadyH.nil
  (go_simp; (refine (H5 _).mono ?_); (rintro e wz ⟨rfl, hb⟩); (replace Rg := Rg.later hb); (replace Rd := Rd.later hb); (replace Ry := Ry.later hb); (replace Rz := Rz.later hb); (replace hb0 := below_step hb0 hb); go_wp2_with fail)
  refine hK.out _ _ ?hSr98_21_18 (fun hHeld2 => ?_)
  case hSr98_21_18 => (obtain ⟨Qg, Qd, Qy, Qz⟩ := hHeld; exact ⟨Qg.later hb, Qd.later hb, Qy.later hb, Qz.later hb⟩)
  clear hK K hHeld
  have hHeld := hHeld2
  clear hHeld2
  rename World => wq
  (try simp only [Act.put, nz1, nz2, nz3])
  refine wpAnyH_ready (rs := [21]) (by kernel_rfl) (by simp) ?_
  refine AllReadyH.cons (o := ⟨some 52, .call { callee := .value (.func 21), args := #[.tmp 50, .tmp 51], argTypes := #[26, 33] }, 4, _, _, _⟩) rfl (fun K hK => ?_) AllReadyH.nil
  (go_simp; (refine (H6 _).mono ?_); (rintro e wz ⟨rfl, hb⟩); (replace Rg := Rg.later hb); (replace Rd := Rd.later hb); (replace Ry := Ry.later hb); (replace Rz := Rz.later hb); (replace hb0 := below_step hb0 hb); go_wp2_with fail)
  refine hK.out _ _ ?hSr98_22_21 (fun hHeld2 => ?_)
  case hSr98_22_21 => (obtain ⟨Qg, Qd, Qy, Qz⟩ := hHeld; exact ⟨Qg.later hb, Qd.later hb, Qy.later hb, Qz.later hb⟩)
  clear hK K hHeld
  have hHeld := hHeld2
  clear hHeld2
  rename World => wq
  (try simp only [Act.put, nz1, nz2, nz3])
  refine tk 22 ⟨some 53, .binOp .neq 4 (.tmp 49) (.tmp 52) 4, 4, _, _, _⟩ hHeld ?_
  (try simp only [Act.put, nz1, nz2, nz3])
  refine tk 23 ⟨some 54, .pick (.tmp 46) (.const (.bool true)) (.tmp 53), 4, _, _, _⟩ hHeld ?_
  (try simp only [Act.put, nz1, nz2, nz3])
  refine tk 24 ⟨some 55, .move (.tmp 54), 4, _, _, _⟩ hHeld ?_
  (try simp only [Act.put, nz1, nz2, nz3])
  refine tk 25 ⟨some 56, .load 26 (.tmp 2), 26, _, _, _⟩ hHeld ?_ (v := ?vr98_26_25) (hy := ?yr98_26_25)
  case yr98_26_25 => (intro wy hSw; obtain ⟨Qg, Qd, Qy, Qz⟩ := hSw; (with_reducible refine pexec_load 26 (.tmp 2) ?_ w.heap.size ?_ 26 #[.int .i64 s.n, .int .i64 s.d0.kind, .int .i64 s.d0.side, .int .i64 s.d0.step, .int .i64 s.d1.kind, .int .i64 s.d1.side, .int .i64 s.d1.step] _ Qg Try.underlying26 ?_ ?_) <;> first | rfl | exact infoSp)
  (try simp only [Act.put, nz1, nz2, nz3])
  refine tk 27 ⟨some 58, .load 26 (.tmp 2), 26, _, _, _⟩ hHeld ?_ (v := ?vr98_27_27) (hy := ?yr98_27_27)
  case yr98_27_27 => (intro wy hSw; obtain ⟨Qg, Qd, Qy, Qz⟩ := hSw; (with_reducible refine pexec_load 26 (.tmp 2) ?_ w.heap.size ?_ 26 #[.int .i64 s.n, .int .i64 s.d0.kind, .int .i64 s.d0.side, .int .i64 s.d0.step, .int .i64 s.d1.kind, .int .i64 s.d1.side, .int .i64 s.d1.step] _ Qg Try.underlying26 ?_ ?_) <;> first | rfl | exact infoSp)
  (try simp only [Act.put, nz1, nz2, nz3])
  refine wpAnyH_ready (rs := [26]) (by kernel_rfl) (by simp) ?_
  refine AllReadyH.cons (o := ⟨some 57, .call { callee := .value (.func 22), args := #[.tmp 56], argTypes := #[26] }, 33, _, _, _⟩) rfl (fun K hK => ?_) AllReadyH.nil
  (go_simp; (refine (H7 _).mono ?_); (rintro e wz ⟨rfl, hb⟩); (replace Rg := Rg.later hb); (replace Rd := Rd.later hb); (replace Ry := Ry.later hb); (replace Rz := Rz.later hb); (replace hb0 := below_step hb0 hb); go_wp2_with fail)
  refine hK.out _ _ ?hSr98_28_26 (fun hHeld2 => ?_)
  case hSr98_28_26 => (obtain ⟨Qg, Qd, Qy, Qz⟩ := hHeld; exact ⟨Qg.later hb, Qd.later hb, Qy.later hb, Qz.later hb⟩)
  clear hK K hHeld
  have hHeld := hHeld2
  clear hHeld2
  rename World => wq
  (try simp only [Act.put, nz1, nz2, nz3])
  refine wpAnyH_ready (rs := [28]) (by kernel_rfl) (by simp) ?_
  refine AllReadyH.cons (o := ⟨some 59, .call { callee := .value (.func 23), args := #[.tmp 58], argTypes := #[26] }, 33, _, _, _⟩) rfl (fun K hK => ?_) AllReadyH.nil
  (go_simp; (refine (H8 _).mono ?_); (rintro e wz ⟨rfl, hb⟩); (replace Rg := Rg.later hb); (replace Rd := Rd.later hb); (replace Ry := Ry.later hb); (replace Rz := Rz.later hb); (replace hb0 := below_step hb0 hb); go_wp2_with fail)
  refine hK.out _ _ ?hSr98_29_28 (fun hHeld2 => ?_)
  case hSr98_29_28 => (obtain ⟨Qg, Qd, Qy, Qz⟩ := hHeld; exact ⟨Qg.later hb, Qd.later hb, Qy.later hb, Qz.later hb⟩)
  clear hK K hHeld
  have hHeld := hHeld2
  clear hHeld2
  rename World => wq
  (try simp only [Act.put, nz1, nz2, nz3])
  refine tk 29 ⟨some 60, .binOp .neq 33 (.tmp 57) (.tmp 59) 33, 4, _, _, _⟩ hHeld ?_
  (try simp only [Act.put, nz1, nz2, nz3])
  refine tk 30 ⟨some 61, .pick (.tmp 55) (.const (.bool true)) (.tmp 60), 4, _, _, _⟩ hHeld ?_
  (try simp only [Act.put, nz1, nz2, nz3])
  refine wpAnyH_done (by kernel_rfl) ?_ _
  clear hHeld
  rename World => w4
  have lg := Rg.lt
  have ld := Rd.lt
  have ly := Ry.lt
  have lz := Rz.lt
  (try clear g0 g1 g2 g3 g4 g5 g6); obtain ⟨g0, g1, g2, g3, g4, g5, g6⟩ := row7 Rg
  (try clear d0 d1 d2 d3 d4 d5 d6 d7 d8 d9 d10 d11); obtain ⟨d0, d1, d2, d3, d4, d5, d6, d7, d8, d9, d10, d11⟩ := row12 Rd
  (try clear y0 y1 y2 y3 y4 y5 y6 y7 y8 y9 y10 y11); obtain ⟨y0, y1, y2, y3, y4, y5, y6, y7, y8, y9, y10, y11⟩ := row12 Ry
  (try clear z0 z1 z2 z3 z4 z5 z6 z7 z8 z9 z10 z11); obtain ⟨z0, z1, z2, z3, z4, z5, z6, z7, z8, z9, z10, z11⟩ := row12 Rz
  go_wp2_with fail
  refine (H6 _).mono ?_
  rintro e w5 ⟨rfl, hb⟩
  replace Rg := Rg.later hb
  replace Rd := Rd.later hb
  replace Ry := Ry.later hb
  replace Rz := Rz.later hb
  replace hb0 := below_step hb0 hb
  clear hb
  have lg := Rg.lt
  have ld := Rd.lt
  have ly := Ry.lt
  have lz := Rz.lt
  (try clear g0 g1 g2 g3 g4 g5 g6); obtain ⟨g0, g1, g2, g3, g4, g5, g6⟩ := row7 Rg
  (try clear d0 d1 d2 d3 d4 d5 d6 d7 d8 d9 d10 d11); obtain ⟨d0, d1, d2, d3, d4, d5, d6, d7, d8, d9, d10, d11⟩ := row12 Rd
  (try clear y0 y1 y2 y3 y4 y5 y6 y7 y8 y9 y10 y11); obtain ⟨y0, y1, y2, y3, y4, y5, y6, y7, y8, y9, y10, y11⟩ := row12 Ry
  (try clear z0 z1 z2 z3 z4 z5 z6 z7 z8 z9 z10 z11); obtain ⟨z0, z1, z2, z3, z4, z5, z6, z7, z8, z9, z10, z11⟩ := row12 Rz
  go_wp2_with fail
  refine wp_region_held_drew (S := (fun w' => w'.cell? ⟨w.heap.size + 1, 0, none⟩ = some (Value.int .i64 p.a0) ∧ w'.cell? ⟨w.heap.size + 1, 1, none⟩ = some (Value.int .i64 p.a1) ∧ Row w' w.heap.size #[.int .i64 s.n, .int .i64 s.d0.kind, .int .i64 s.d0.side, .int .i64 s.d0.step, .int .i64 s.d1.kind, .int .i64 s.d1.side, .int .i64 s.d1.step] 26 ∧ Row w' (w.heap.size + 1) #[.int .i64 p.a0, .int .i64 p.a1, .int .i64 p.k0.kind, .int .i64 p.k0.len, .int .u64 p.k0.h, .int .u64 p.k0.l, .string ⟨p.k0.path.toArray⟩, .int .i64 p.k1.kind, .int .i64 p.k1.len, .int .u64 p.k1.h, .int .u64 p.k1.l, .string ⟨p.k1.path.toArray⟩] 33)) (by kernel_rfl) ?hSr99_ (fun hHeld => ?_)
  case hSr99_ => (exact ⟨d0, d1, Rg.drew, Rd.drew⟩)
  (clear g0 g1 g2 g3 g4 g5 g6 d0 d1 d2 d3 d4 d5 d6 d7 d8 d9 d10 d11 y0 y1 y2 y3 y4 y5 y6 y7 y8 y9 y10 y11 z0 z1 z2 z3 z4 z5 z6 z7 z8 z9 z10 z11; (replace Rg := Rg.drew); (replace Rd := Rd.drew); (replace Ry := Ry.drew); (replace Rz := Rz.drew); (replace hb0 := hb0.drew); (generalize World.drew w5 = wq at *))
  refine wpAnyH_ready (rs := [0]) (by kernel_rfl) (by simp) ?_
  refine AllReadyH.cons (o := ⟨some 73, .call { callee := .value (.func 24), args := #[], argTypes := #[] }, 4, _, _, _⟩) rfl (fun K hK => ?_) AllReadyH.nil
  (go_simp; (refine (HA _).mono ?_); (rintro e wz ⟨rfl, hb⟩); (replace Rg := Rg.later hb); (replace Rd := Rd.later hb); (replace Ry := Ry.later hb); (replace Rz := Rz.later hb); (replace hb0 := below_step hb0 hb); go_wp2_with fail)
  refine hK.out _ _ ?hSr99_1_0 (fun hHeld2 => ?_)
  case hSr99_1_0 => (obtain ⟨d0, d1, Qg, Qd⟩ := hHeld; exact ⟨cell_later hb d0, cell_later hb d1, Qg.later hb, Qd.later hb⟩)
  clear hK K hHeld
  have hHeld := hHeld2
  clear hHeld2
  rename World => wq
  (try simp only [Act.put, nz1, nz2, nz3])
  refine tk 1 ⟨some 74, .move (.tmp 73), 4, _, _, _⟩ hHeld ?_
  (try simp only [Act.put, nz1, nz2, nz3])
  refine tk 2 ⟨some 75, .load 26 (.tmp 2), 26, _, _, _⟩ hHeld ?_ (v := ?vr99_3_2) (hy := ?yr99_3_2)
  case yr99_3_2 => (intro wy hSw; obtain ⟨d0, d1, Qg, Qd⟩ := hSw; (with_reducible refine pexec_load 26 (.tmp 2) ?_ w.heap.size ?_ 26 #[.int .i64 s.n, .int .i64 s.d0.kind, .int .i64 s.d0.side, .int .i64 s.d0.step, .int .i64 s.d1.kind, .int .i64 s.d1.side, .int .i64 s.d1.step] _ Qg Try.underlying26 ?_ ?_) <;> first | rfl | exact infoSp)
  (try simp only [Act.put, nz1, nz2, nz3])
  refine tk 3 ⟨some 76, .load 33 (.tmp 3), 33, _, _, _⟩ hHeld ?_ (v := ?vr99_4_3) (hy := ?yr99_4_3)
  case yr99_4_3 => (intro wy hSw; obtain ⟨d0, d1, Qg, Qd⟩ := hSw; (with_reducible refine pexec_load 33 (.tmp 3) ?_ (w.heap.size + 1) ?_ 33 #[.int .i64 p.a0, .int .i64 p.a1, .int .i64 p.k0.kind, .int .i64 p.k0.len, .int .u64 p.k0.h, .int .u64 p.k0.l, .string ⟨p.k0.path.toArray⟩, .int .i64 p.k1.kind, .int .i64 p.k1.len, .int .u64 p.k1.h, .int .u64 p.k1.l, .string ⟨p.k1.path.toArray⟩] _ Qd Try.underlying33 ?_ ?_) <;> first | rfl | exact infoPx)
  (try simp only [Act.put, nz1, nz2, nz3])
  refine tk 5 ⟨some 78, .fieldAddr 33 (.tmp 3) 0, 0, _, _, _⟩ hHeld ?_
  (try simp only [Act.put, nz1, nz2, nz3])
  refine tk 6 ⟨some 79, .indexAddr 27 (.tmp 78) (.const (.int .i64 0)), 0, _, _, _⟩ hHeld ?_
  (try simp only [Act.put, nz1, nz2, nz3])
  refine tk 7 ⟨some 80, .load 3 (.tmp 79), 3, _, _, _⟩ hHeld ?_
  (try simp only [Act.put, nz1, nz2, nz3])
  refine tk 8 ⟨some 81, .fieldAddr 33 (.tmp 3) 0, 0, _, _, _⟩ hHeld ?_
  (try simp only [Act.put, nz1, nz2, nz3])
  refine tk 9 ⟨some 82, .indexAddr 27 (.tmp 81) (.const (.int .i64 1)), 0, _, _, _⟩ hHeld ?_
  (try simp only [Act.put, nz1, nz2, nz3])
  refine tk 10 ⟨some 83, .load 3 (.tmp 82), 3, _, _, _⟩ hHeld ?_
  (try simp only [Act.put, nz1, nz2, nz3])
  refine tk 11 ⟨some 84, .binOp .add 3 (.tmp 80) (.tmp 83) 3, 3, _, _, _⟩ hHeld ?_
  (try simp only [Act.put, nz1, nz2, nz3])
  refine wpAnyH_ready (rs := [4]) (by kernel_rfl) (by simp) ?_
  refine AllReadyH.cons (o := ⟨some 77, .call { callee := .value (.func 25), args := #[.tmp 75, .tmp 76], argTypes := #[26, 33] }, 3, _, _, _⟩) rfl (fun K hK => ?_) AllReadyH.nil
  (go_simp; (refine (H9 _).mono ?_); (rintro e wz ⟨rfl, hb⟩); (replace Rg := Rg.later hb); (replace Rd := Rd.later hb); (replace Ry := Ry.later hb); (replace Rz := Rz.later hb); (replace hb0 := below_step hb0 hb); go_wp2_with fail)
  refine hK.out _ _ ?hSr99_12_4 (fun hHeld2 => ?_)
  case hSr99_12_4 => (obtain ⟨d0, d1, Qg, Qd⟩ := hHeld; exact ⟨cell_later hb d0, cell_later hb d1, Qg.later hb, Qd.later hb⟩)
  clear hK K hHeld
  have hHeld := hHeld2
  clear hHeld2
  rename World => wq
  (try simp only [Act.put, nz1, nz2, nz3])
  refine tk 12 ⟨some 85, .binOp .eql 3 (.tmp 77) (.tmp 84) 3, 4, _, _, _⟩ hHeld ?_
  (try simp only [Act.put, nz1, nz2, nz3])
  refine tk 13 ⟨some 86, .pick (.tmp 74) (.tmp 85) (.const (.bool false)), 4, _, _, _⟩ hHeld ?_
  (try simp only [Act.put, nz1, nz2, nz3])
  refine tk 14 ⟨some 4, .assign (.tmp 86), 4, _, _, _⟩ hHeld ?_
  (try simp only [Act.put, nz1, nz2, nz3])
  refine wpAnyH_done (by kernel_rfl) ?_ _
  clear hHeld
  rename World => w6
  have lg := Rg.lt
  have ld := Rd.lt
  have ly := Ry.lt
  have lz := Rz.lt
  (try clear g0 g1 g2 g3 g4 g5 g6); obtain ⟨g0, g1, g2, g3, g4, g5, g6⟩ := row7 Rg
  (try clear d0 d1 d2 d3 d4 d5 d6 d7 d8 d9 d10 d11); obtain ⟨d0, d1, d2, d3, d4, d5, d6, d7, d8, d9, d10, d11⟩ := row12 Rd
  (try clear y0 y1 y2 y3 y4 y5 y6 y7 y8 y9 y10 y11); obtain ⟨y0, y1, y2, y3, y4, y5, y6, y7, y8, y9, y10, y11⟩ := row12 Ry
  (try clear z0 z1 z2 z3 z4 z5 z6 z7 z8 z9 z10 z11); obtain ⟨z0, z1, z2, z3, z4, z5, z6, z7, z8, z9, z10, z11⟩ := row12 Rz
  go_wp2
  go_ret
  exact ⟨rfl, hb0⟩
theorem tells9_any (s : Sp) (p : Px) (op : p.ok) (w : World) : Calls Try.prog 3 #[sv s, pv p] w fun e w' => e = .returned (.bool true) ∧ Below w.heap.size w w' := by
  have H1 := leaf_t s p.k0 p.k1 op.k0 op.k1
  have H2 := rleaf_t s p.k0 p.k1 op.k0 op.k1
  have H3 := sound_t s
  have H4 := rsound_t s
  have H5 := right9_t s p op
  have H6 := rright9_t s p op
  have H7 := top9_t s
  have H8 := rtop_t s
  have H9 := height_t s p op
  have hh : heightP s p = if rightP s p = true then p.a0 + p.a1 else 0 := rfl
  have hr := right_iff s p
  have hl := right_iff s ⟨0, 0, p.k0, p.k1⟩
  cases ha : soundS s with
  | false =>
    rw [ha] at H3 H4 hr hl
    have r0 : rightP s p = false := by cases h : rightP s p with
      | false => rfl
      | true => exact absurd (hr.1 h).1 (by simp)
    have l0 : rightP s ⟨0, 0, p.k0, p.k1⟩ = false := by cases h : rightP s ⟨0, 0, p.k0, p.k1⟩ with
      | false => rfl
      | true => exact absurd (hl.1 h).1 (by simp)
    rw [r0] at H5 H6 hh
    rw [l0] at H1 H2
    rw [hh] at H9
    exact tells9_a s p _ _ H1 H2 H3 H4 H5 H6 H7 H8 H9 w
  | true =>
    rw [ha] at H3 H4
    cases h1 : rightP s p with
    | false =>
      rw [h1] at H5 H6 hh
      rw [hh] at H9
      cases h2 : rightP s ⟨0, 0, p.k0, p.k1⟩ with
      | false => rw [h2] at H1 H2; exact tells9_b s p _ _ H1 H2 H3 H4 H5 H6 H7 H8 H9 w
      | true => rw [h2] at H1 H2; exact tells9_d s p _ _ H1 H2 H3 H4 H5 H6 H7 H8 H9 w
    | true =>
      obtain ⟨_, o0, o1⟩ := hr.1 h1
      have q0 := onE_range o0
      have q1 := onE_range o1
      have d0 := depthD_range s.d0
      have d1 := depthD_range s.d1
      rw [h1] at H5 H6 hh
      rw [hh] at H9
      cases h2 : rightP s ⟨0, 0, p.k0, p.k1⟩ with
      | false => rw [h2] at H1 H2; exact tells9_c s p _ _ H1 H2 H3 H4 H5 H6 H7 H8 H9 (by omega) (by omega) (by omega) (by omega) w
      | true => rw [h2] at H1 H2; exact tells9_e s p _ _ H1 H2 H3 H4 H5 H6 H7 H8 H9 (by omega) (by omega) (by omega) (by omega) w
end Go.Proofs.Ytbekocknfpekoaa
