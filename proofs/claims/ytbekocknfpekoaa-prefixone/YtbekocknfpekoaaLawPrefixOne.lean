/- LawPrefixOne: what the theorem needs of these texts. No conditions beyond those that are written. -/
import Derived.Test.YtbekocknfpekoaaJF0
import Derived.Test.YtbekocknfpekoaaJP11
namespace Go.Proofs.Ytbekocknfpekoaa
set_option linter.unusedVariables false
set_option linter.unusedSimpArgs false
open Go.RowKit
theorem eql_at (a0 a1 b0 b1 : Int) (w : World) : (binOp .eql 27 (.agg #[.int .i64 a0, .int .i64 a1]) (.agg #[.int .i64 b0, .int .i64 b1])).run Try.prog w = .ok (.bool (decide (a0 = b0 ∧ a1 = b1))) w := by
  have e := eqIn_at 9998 a0 a1 b0 b1
  simp [go_sem, e]
set_option maxRecDepth 100000 in
set_option maxHeartbeats 32000000 in
theorem one_00x (s : Sp) (p q u v t : Px) (i j hu2 hp2 : Int) (b : Bool)
    (H0 : ∀ w, Calls Try.prog 26 #[sv s, pv p, .agg #[.int .i64 i, .int .i64 j]] w fun e w' => e = .returned (pv pz) ∧ Below w.heap.size w w')
    (H1 : ∀ w, Calls Try.prog 28 #[sv s, pv q, pv p] w fun e w' => e = .returned (.bool false) ∧ Below w.heap.size w w')
    (H2 : ∀ w, Calls Try.prog 20 #[sv s, pv q] w fun e w' => e = .returned (.bool false) ∧ Below w.heap.size w w')
    (H3 : ∀ w, Calls Try.prog 20 #[sv s, pv p] w fun e w' => e = .returned (.bool false) ∧ Below w.heap.size w w')
    (H5 : ∀ w, Calls Try.prog 22 #[sv s] w fun e w' => e = .returned (pv t) ∧ Below w.heap.size w w')
     (w : World) :
    Calls Try.prog 7 #[sv s, pv p, pv q, .int .i64 i, .int .i64 j] w fun e w' => e = .returned (.bool true) ∧ Below w.heap.size w w' := by
  have HA := alive9_t
  have qe := eql_px pz pz
  rw [decide_eq_true rfl] at qe
  unfold pz kz at *
  unfold sv pv at *
  obtain ⟨Rg, Rd, Re, hb0⟩ := three_rows w #[.int .i64 s.n, .int .i64 s.d0.kind, .int .i64 s.d0.side, .int .i64 s.d0.step, .int .i64 s.d1.kind, .int .i64 s.d1.side, .int .i64 s.d1.step] #[.int .i64 p.a0, .int .i64 p.a1, .int .i64 p.k0.kind, .int .i64 p.k0.len, .int .u64 p.k0.h, .int .u64 p.k0.l, .string ⟨p.k0.path.toArray⟩, .int .i64 p.k1.kind, .int .i64 p.k1.len, .int .u64 p.k1.h, .int .u64 p.k1.l, .string ⟨p.k1.path.toArray⟩] #[.int .i64 q.a0, .int .i64 q.a1, .int .i64 q.k0.kind, .int .i64 q.k0.len, .int .u64 q.k0.h, .int .u64 q.k0.l, .string ⟨q.k0.path.toArray⟩, .int .i64 q.k1.kind, .int .i64 q.k1.len, .int .u64 q.k1.h, .int .u64 q.k1.l, .string ⟨q.k1.path.toArray⟩] 26 33 33
  (try clear g0 g1 g2 g3 g4 g5 g6); obtain ⟨g0, g1, g2, g3, g4, g5, g6⟩ := row7 Rg
  (try clear d0 d1 d2 d3 d4 d5 d6 d7 d8 d9 d10 d11); obtain ⟨d0, d1, d2, d3, d4, d5, d6, d7, d8, d9, d10, d11⟩ := row12 Rd
  (try clear e0 e1 e2 e3 e4 e5 e6 e7 e8 e9 e10 e11); obtain ⟨e0, e1, e2, e3, e4, e5, e6, e7, e8, e9, e10, e11⟩ := row12 Re
  go_enter Try.func7, Try.ntmps7
  go_wp2_with fail
  refine (H0 _).mono ?_
  rintro e w1 ⟨rfl, hb⟩
  replace Rg := (Rg.alloc _).later hb
  replace Rd := (Rd.alloc _).later hb
  replace Re := (Re.alloc _).later hb
  have Ry := Row.later (Row.new _ _ _) hb
  simp only [World.size_alloc] at Ry
  replace hb0 := below_step (hb0.alloc hb0.size _) hb
  clear hb
  have lg := Rg.lt
  have ld := Rd.lt
  have le := Re.lt
  have ly := Ry.lt
  (try clear g0 g1 g2 g3 g4 g5 g6); obtain ⟨g0, g1, g2, g3, g4, g5, g6⟩ := row7 Rg
  (try clear d0 d1 d2 d3 d4 d5 d6 d7 d8 d9 d10 d11); obtain ⟨d0, d1, d2, d3, d4, d5, d6, d7, d8, d9, d10, d11⟩ := row12 Rd
  (try clear e0 e1 e2 e3 e4 e5 e6 e7 e8 e9 e10 e11); obtain ⟨e0, e1, e2, e3, e4, e5, e6, e7, e8, e9, e10, e11⟩ := row12 Re
  (try clear y0 y1); obtain ⟨y0, y1⟩ := row2 Ry
  go_wp2_with fail
  replace Rg := Rg.alloc (.cells #[Value.int .i64 0, Value.int .i64 0, Value.int .i64 0, Value.int .i64 0, Value.int .u64 0, Value.int .u64 0, Value.string ⟨#[]⟩, Value.int .i64 0, Value.int .i64 0, Value.int .u64 0, Value.int .u64 0, Value.string ⟨#[]⟩] 33)
  replace Rd := Rd.alloc (.cells #[Value.int .i64 0, Value.int .i64 0, Value.int .i64 0, Value.int .i64 0, Value.int .u64 0, Value.int .u64 0, Value.string ⟨#[]⟩, Value.int .i64 0, Value.int .i64 0, Value.int .u64 0, Value.int .u64 0, Value.string ⟨#[]⟩] 33)
  replace Re := Re.alloc (.cells #[Value.int .i64 0, Value.int .i64 0, Value.int .i64 0, Value.int .i64 0, Value.int .u64 0, Value.int .u64 0, Value.string ⟨#[]⟩, Value.int .i64 0, Value.int .i64 0, Value.int .u64 0, Value.int .u64 0, Value.string ⟨#[]⟩] 33)
  replace Ry := Ry.alloc (.cells #[Value.int .i64 0, Value.int .i64 0, Value.int .i64 0, Value.int .i64 0, Value.int .u64 0, Value.int .u64 0, Value.string ⟨#[]⟩, Value.int .i64 0, Value.int .i64 0, Value.int .u64 0, Value.int .u64 0, Value.string ⟨#[]⟩] 33)
  have Rm := Row.new w1 #[Value.int .i64 0, Value.int .i64 0, Value.int .i64 0, Value.int .i64 0, Value.int .u64 0, Value.int .u64 0, Value.string ⟨#[]⟩, Value.int .i64 0, Value.int .i64 0, Value.int .u64 0, Value.int .u64 0, Value.string ⟨#[]⟩] 33
  have mm := hb0.size
  replace hb0 := hb0.alloc hb0.size (.cells #[Value.int .i64 0, Value.int .i64 0, Value.int .i64 0, Value.int .i64 0, Value.int .u64 0, Value.int .u64 0, Value.string ⟨#[]⟩, Value.int .i64 0, Value.int .i64 0, Value.int .u64 0, Value.int .u64 0, Value.string ⟨#[]⟩] 33)
  (try clear g0 g1 g2 g3 g4 g5 g6); obtain ⟨g0, g1, g2, g3, g4, g5, g6⟩ := row7 Rg
  (try clear d0 d1 d2 d3 d4 d5 d6 d7 d8 d9 d10 d11); obtain ⟨d0, d1, d2, d3, d4, d5, d6, d7, d8, d9, d10, d11⟩ := row12 Rd
  (try clear e0 e1 e2 e3 e4 e5 e6 e7 e8 e9 e10 e11); obtain ⟨e0, e1, e2, e3, e4, e5, e6, e7, e8, e9, e10, e11⟩ := row12 Re
  (try clear y0 y1); obtain ⟨y0, y1⟩ := row2 Ry
  (try clear m0 m1 m2 m3 m4 m5 m6 m7 m8 m9 m10 m11); obtain ⟨m0, m1, m2, m3, m4, m5, m6, m7, m8, m9, m10, m11⟩ := row12 Rm
  refine wp_region_held_drew (S := (fun w' => w'.cell? ⟨w.heap.size + 1 + 1, 0, none⟩ = some (Value.int .i64 q.a0) ∧ w'.cell? ⟨w.heap.size + 1 + 1, 1, none⟩ = some (Value.int .i64 q.a1) ∧ Row w' w.heap.size #[.int .i64 s.n, .int .i64 s.d0.kind, .int .i64 s.d0.side, .int .i64 s.d0.step, .int .i64 s.d1.kind, .int .i64 s.d1.side, .int .i64 s.d1.step] 26 ∧ Row w' (w.heap.size + 1) #[.int .i64 p.a0, .int .i64 p.a1, .int .i64 p.k0.kind, .int .i64 p.k0.len, .int .u64 p.k0.h, .int .u64 p.k0.l, .string ⟨p.k0.path.toArray⟩, .int .i64 p.k1.kind, .int .i64 p.k1.len, .int .u64 p.k1.h, .int .u64 p.k1.l, .string ⟨p.k1.path.toArray⟩] 33 ∧ Row w' (w.heap.size + 1 + 1) #[.int .i64 q.a0, .int .i64 q.a1, .int .i64 q.k0.kind, .int .i64 q.k0.len, .int .u64 q.k0.h, .int .u64 q.k0.l, .string ⟨q.k0.path.toArray⟩, .int .i64 q.k1.kind, .int .i64 q.k1.len, .int .u64 q.k1.h, .int .u64 q.k1.l, .string ⟨q.k1.path.toArray⟩] 33)) (by kernel_rfl) ?hSr100_ (fun hHeld => ?_)
  case hSr100_ => (exact ⟨e0, e1, Rg.drew, Rd.drew, Re.drew⟩)
  (clear g0 g1 g2 g3 g4 g5 g6 d0 d1 d2 d3 d4 d5 d6 d7 d8 d9 d10 d11 e0 e1 e2 e3 e4 e5 e6 e7 e8 e9 e10 e11 y0 y1 m0 m1 m2 m3 m4 m5 m6 m7 m8 m9 m10 m11; (replace Rg := Rg.drew); (replace Rd := Rd.drew); (replace Re := Re.drew); (replace Ry := Ry.drew); (replace Rm := Rm.drew); (replace hb0 := hb0.drew); (generalize World.drew (World.alloc w1 (.cells #[Value.int .i64 0, Value.int .i64 0, Value.int .i64 0, Value.int .i64 0, Value.int .u64 0, Value.int .u64 0, Value.string ⟨#[]⟩, Value.int .i64 0, Value.int .i64 0, Value.int .u64 0, Value.int .u64 0, Value.string ⟨#[]⟩] 33)) = wq at *))
  refine tk 0 ⟨some 21, .load 26 (.tmp 5), 26, _, _, _⟩ hHeld ?_ (v := ?vr100_1_0) (hy := ?yr100_1_0)
  case yr100_1_0 => (intro wy hSw; obtain ⟨e0, e1, Qg, Qd, Qe⟩ := hSw; (with_reducible refine pexec_load 26 (.tmp 5) ?_ w.heap.size ?_ 26 #[.int .i64 s.n, .int .i64 s.d0.kind, .int .i64 s.d0.side, .int .i64 s.d0.step, .int .i64 s.d1.kind, .int .i64 s.d1.side, .int .i64 s.d1.step] _ Qg Try.underlying26 ?_ ?_) <;> first | rfl | exact infoSp)
  (try simp only [Act.put, nz1, nz2, nz3])
  refine tk 1 ⟨some 22, .load 33 (.tmp 7), 33, _, _, _⟩ hHeld ?_ (v := ?vr100_2_1) (hy := ?yr100_2_1)
  case yr100_2_1 => (intro wy hSw; obtain ⟨e0, e1, Qg, Qd, Qe⟩ := hSw; (with_reducible refine pexec_load 33 (.tmp 7) ?_ (w.heap.size + 1 + 1) ?_ 33 #[.int .i64 q.a0, .int .i64 q.a1, .int .i64 q.k0.kind, .int .i64 q.k0.len, .int .u64 q.k0.h, .int .u64 q.k0.l, .string ⟨q.k0.path.toArray⟩, .int .i64 q.k1.kind, .int .i64 q.k1.len, .int .u64 q.k1.h, .int .u64 q.k1.l, .string ⟨q.k1.path.toArray⟩] _ Qe Try.underlying33 ?_ ?_) <;> first | rfl | exact infoPx)
  (try simp only [Act.put, nz1, nz2, nz3])
  refine tk 2 ⟨some 23, .load 33 (.tmp 6), 33, _, _, _⟩ hHeld ?_ (v := ?vr100_3_2) (hy := ?yr100_3_2)
  case yr100_3_2 => (intro wy hSw; obtain ⟨e0, e1, Qg, Qd, Qe⟩ := hSw; (with_reducible refine pexec_load 33 (.tmp 6) ?_ (w.heap.size + 1) ?_ 33 #[.int .i64 p.a0, .int .i64 p.a1, .int .i64 p.k0.kind, .int .i64 p.k0.len, .int .u64 p.k0.h, .int .u64 p.k0.l, .string ⟨p.k0.path.toArray⟩, .int .i64 p.k1.kind, .int .i64 p.k1.len, .int .u64 p.k1.h, .int .u64 p.k1.l, .string ⟨p.k1.path.toArray⟩] _ Qd Try.underlying33 ?_ ?_) <;> first | rfl | exact infoPx)
  (try simp only [Act.put, nz1, nz2, nz3])
  refine tk 4 ⟨some 25, .load 26 (.tmp 5), 26, _, _, _⟩ hHeld ?_ (v := ?vr100_4_4) (hy := ?yr100_4_4)
  case yr100_4_4 => (intro wy hSw; obtain ⟨e0, e1, Qg, Qd, Qe⟩ := hSw; (with_reducible refine pexec_load 26 (.tmp 5) ?_ w.heap.size ?_ 26 #[.int .i64 s.n, .int .i64 s.d0.kind, .int .i64 s.d0.side, .int .i64 s.d0.step, .int .i64 s.d1.kind, .int .i64 s.d1.side, .int .i64 s.d1.step] _ Qg Try.underlying26 ?_ ?_) <;> first | rfl | exact infoSp)
  (try simp only [Act.put, nz1, nz2, nz3])
  refine tk 5 ⟨some 26, .load 33 (.tmp 7), 33, _, _, _⟩ hHeld ?_ (v := ?vr100_5_5) (hy := ?yr100_5_5)
  case yr100_5_5 => (intro wy hSw; obtain ⟨e0, e1, Qg, Qd, Qe⟩ := hSw; (with_reducible refine pexec_load 33 (.tmp 7) ?_ (w.heap.size + 1 + 1) ?_ 33 #[.int .i64 q.a0, .int .i64 q.a1, .int .i64 q.k0.kind, .int .i64 q.k0.len, .int .u64 q.k0.h, .int .u64 q.k0.l, .string ⟨q.k0.path.toArray⟩, .int .i64 q.k1.kind, .int .i64 q.k1.len, .int .u64 q.k1.h, .int .u64 q.k1.l, .string ⟨q.k1.path.toArray⟩] _ Qe Try.underlying33 ?_ ?_) <;> first | rfl | exact infoPx)
  (try simp only [Act.put, nz1, nz2, nz3])
  refine wpAnyH_ready (rs := [3]) (by kernel_rfl) (by simp) ?_
  refine AllReadyH.cons (o := ⟨some 24, .call { callee := .value (.func 28), args := #[.tmp 21, .tmp 22, .tmp 23], argTypes := #[26, 33, 33] }, 4, _, _, _⟩) rfl (fun K hK => ?_) AllReadyH.nil
  (go_simp; (refine (H1 _).mono ?_); (rintro e wz ⟨rfl, hb⟩); (replace Rg := Rg.later hb); (replace Rd := Rd.later hb); (replace Re := Re.later hb); (replace Ry := Ry.later hb); (replace Rm := Rm.later hb); (replace hb0 := below_step hb0 hb); go_wp2_with fail)
  refine hK.out _ _ ?hSr100_6_3 (fun hHeld2 => ?_)
  case hSr100_6_3 => (obtain ⟨e0, e1, Qg, Qd, Qe⟩ := hHeld; exact ⟨cell_later hb e0, cell_later hb e1, Qg.later hb, Qd.later hb, Qe.later hb⟩)
  clear hK K hHeld
  have hHeld := hHeld2
  clear hHeld2
  rename World => wq
  (try simp only [Act.put, nz1, nz2, nz3])
  refine wpAnyH_ready (rs := [6]) (by kernel_rfl) (by simp) ?_
  refine AllReadyH.cons (o := ⟨some 27, .call { callee := .value (.func 20), args := #[.tmp 25, .tmp 26], argTypes := #[26, 33] }, 4, _, _, _⟩) rfl (fun K hK => ?_) AllReadyH.nil
  (go_simp; (refine (H2 _).mono ?_); (rintro e wz ⟨rfl, hb⟩); (replace Rg := Rg.later hb); (replace Rd := Rd.later hb); (replace Re := Re.later hb); (replace Ry := Ry.later hb); (replace Rm := Rm.later hb); (replace hb0 := below_step hb0 hb); go_wp2_with fail)
  refine hK.out _ _ ?hSr100_7_6 (fun hHeld2 => ?_)
  case hSr100_7_6 => (obtain ⟨e0, e1, Qg, Qd, Qe⟩ := hHeld; exact ⟨cell_later hb e0, cell_later hb e1, Qg.later hb, Qd.later hb, Qe.later hb⟩)
  clear hK K hHeld
  have hHeld := hHeld2
  clear hHeld2
  rename World => wq
  (try simp only [Act.put, nz1, nz2, nz3])
  refine tk 7 ⟨some 28, .move (.tmp 27), 4, _, _, _⟩ hHeld ?_
  (try simp only [Act.put, nz1, nz2, nz3])
  refine ts 8 ⟨some 29, .load 26 (.tmp 5), 26, _, _, _⟩ hHeld ?_
  (try simp only [Act.put, nz1, nz2, nz3])
  refine ts 9 ⟨some 30, .load 33 (.tmp 6), 33, _, _, _⟩ hHeld ?_
  (try simp only [Act.put, nz1, nz2, nz3])
  refine ts 10 ⟨some 31, .call { callee := .value (.func 20), args := #[.tmp 29, .tmp 30], argTypes := #[26, 33] }, 4, _, _, _⟩ hHeld ?_
  (try simp only [Act.put, nz1, nz2, nz3])
  refine tk 11 ⟨some 32, .pick (.tmp 28) (.tmp 31) (.const (.bool false)), 4, _, _, _⟩ hHeld ?_
  (try simp only [Act.put, nz1, nz2, nz3])
  refine tk 12 ⟨some 33, .move (.tmp 32), 4, _, _, _⟩ hHeld ?_
  (try simp only [Act.put, nz1, nz2, nz3])
  refine ts 13 ⟨some 34, .load 26 (.tmp 5), 26, _, _, _⟩ hHeld ?_
  (try simp only [Act.put, nz1, nz2, nz3])
  refine ts 14 ⟨some 35, .load 33 (.tmp 6), 33, _, _, _⟩ hHeld ?_
  (try simp only [Act.put, nz1, nz2, nz3])
  refine ts 15 ⟨some 36, .fieldAddr 33 (.tmp 7) 0, 0, _, _, _⟩ hHeld ?_
  (try simp only [Act.put, nz1, nz2, nz3])
  refine ts 16 ⟨some 37, .load 27 (.tmp 36), 27, _, _, _⟩ hHeld ?_
  (try simp only [Act.put, nz1, nz2, nz3])
  refine ts 17 ⟨some 38, .call { callee := .value (.func 26), args := #[.tmp 34, .tmp 35, .tmp 37], argTypes := #[26, 33, 27] }, 33, _, _, _⟩ hHeld ?_
  (try simp only [Act.put, nz1, nz2, nz3])
  refine ts 18 ⟨some 39, .load 33 (.tmp 7), 33, _, _, _⟩ hHeld ?_
  (try simp only [Act.put, nz1, nz2, nz3])
  refine ts 19 ⟨some 40, .binOp .eql 33 (.tmp 38) (.tmp 39) 33, 4, _, _, _⟩ hHeld ?_
  (try simp only [Act.put, nz1, nz2, nz3])
  refine tk 20 ⟨some 41, .pick (.tmp 33) (.tmp 40) (.const (.bool false)), 4, _, _, _⟩ hHeld ?_
  (try simp only [Act.put, nz1, nz2, nz3])
  refine tk 21 ⟨some 42, .binOp .neq 4 (.tmp 24) (.tmp 41) 4, 4, _, _, _⟩ hHeld ?_
  (try simp only [Act.put, nz1, nz2, nz3])
  refine wpAnyH_done (by kernel_rfl) ?_ _
  clear hHeld
  rename World => w2
  have lg := Rg.lt
  have ld := Rd.lt
  have le := Re.lt
  have ly := Ry.lt
  have lm := Rm.lt
  (try clear g0 g1 g2 g3 g4 g5 g6); obtain ⟨g0, g1, g2, g3, g4, g5, g6⟩ := row7 Rg
  (try clear d0 d1 d2 d3 d4 d5 d6 d7 d8 d9 d10 d11); obtain ⟨d0, d1, d2, d3, d4, d5, d6, d7, d8, d9, d10, d11⟩ := row12 Rd
  (try clear e0 e1 e2 e3 e4 e5 e6 e7 e8 e9 e10 e11); obtain ⟨e0, e1, e2, e3, e4, e5, e6, e7, e8, e9, e10, e11⟩ := row12 Re
  (try clear y0 y1); obtain ⟨y0, y1⟩ := row2 Ry
  (try clear m0 m1 m2 m3 m4 m5 m6 m7 m8 m9 m10 m11); obtain ⟨m0, m1, m2, m3, m4, m5, m6, m7, m8, m9, m10, m11⟩ := row12 Rm
  go_wp2_with fail
  refine (H5 _).mono ?_
  rintro e w3 ⟨rfl, hb⟩
  replace Rg := Rg.later hb
  replace Rd := Rd.later hb
  replace Re := Re.later hb
  replace Ry := Ry.later hb
  replace Rm := Rm.later hb
  replace hb0 := below_step hb0 hb
  clear hb
  have lg := Rg.lt
  have ld := Rd.lt
  have le := Re.lt
  have ly := Ry.lt
  have lm := Rm.lt
  (try clear g0 g1 g2 g3 g4 g5 g6); obtain ⟨g0, g1, g2, g3, g4, g5, g6⟩ := row7 Rg
  (try clear d0 d1 d2 d3 d4 d5 d6 d7 d8 d9 d10 d11); obtain ⟨d0, d1, d2, d3, d4, d5, d6, d7, d8, d9, d10, d11⟩ := row12 Rd
  (try clear e0 e1 e2 e3 e4 e5 e6 e7 e8 e9 e10 e11); obtain ⟨e0, e1, e2, e3, e4, e5, e6, e7, e8, e9, e10, e11⟩ := row12 Re
  (try clear y0 y1); obtain ⟨y0, y1⟩ := row2 Ry
  (try clear m0 m1 m2 m3 m4 m5 m6 m7 m8 m9 m10 m11); obtain ⟨m0, m1, m2, m3, m4, m5, m6, m7, m8, m9, m10, m11⟩ := row12 Rm
  go_wp2_with fail
  refine (H3 _).mono ?_
  rintro e w4 ⟨rfl, hb⟩
  have nng := Rg.lt
  have nnd := Rd.lt
  have nne := Re.lt
  have nny := Ry.lt
  have nnm := Rm.lt
  replace Rg := (Rg.alloc _).later hb
  replace Rd := (Rd.alloc _).later hb
  replace Re := (Re.alloc _).later hb
  replace Ry := (Ry.alloc _).later hb
  replace Rm := (Rm.alloc _).later hb
  have Rn := Row.later (Row.new _ _ _) hb
  have mn := hb0.size
  replace hb0 := below_step (hb0.alloc hb0.size _) hb
  clear hb
  generalize w3.heap.size = gn at *
  have lg := Rg.lt
  have ld := Rd.lt
  have le := Re.lt
  have ly := Ry.lt
  have lm := Rm.lt
  have ln := Rn.lt
  (try clear g0 g1 g2 g3 g4 g5 g6); obtain ⟨g0, g1, g2, g3, g4, g5, g6⟩ := row7 Rg
  (try clear d0 d1 d2 d3 d4 d5 d6 d7 d8 d9 d10 d11); obtain ⟨d0, d1, d2, d3, d4, d5, d6, d7, d8, d9, d10, d11⟩ := row12 Rd
  (try clear e0 e1 e2 e3 e4 e5 e6 e7 e8 e9 e10 e11); obtain ⟨e0, e1, e2, e3, e4, e5, e6, e7, e8, e9, e10, e11⟩ := row12 Re
  (try clear y0 y1); obtain ⟨y0, y1⟩ := row2 Ry
  (try clear m0 m1 m2 m3 m4 m5 m6 m7 m8 m9 m10 m11); obtain ⟨m0, m1, m2, m3, m4, m5, m6, m7, m8, m9, m10, m11⟩ := row12 Rm
  (try clear n0 n1 n2 n3 n4 n5 n6 n7 n8 n9 n10 n11); obtain ⟨n0, n1, n2, n3, n4, n5, n6, n7, n8, n9, n10, n11⟩ := row12 Rn
  go_wp2_with fail
  refine (HA _).mono ?_
  rintro e w5 ⟨rfl, hb⟩
  replace Rg := Rg.later hb
  replace Rd := Rd.later hb
  replace Re := Re.later hb
  replace Ry := Ry.later hb
  replace Rm := Rm.later hb
  replace Rn := Rn.later hb
  replace hb0 := below_step hb0 hb
  clear hb
  have lg := Rg.lt
  have ld := Rd.lt
  have le := Re.lt
  have ly := Ry.lt
  have lm := Rm.lt
  have ln := Rn.lt
  (try clear g0 g1 g2 g3 g4 g5 g6); obtain ⟨g0, g1, g2, g3, g4, g5, g6⟩ := row7 Rg
  (try clear d0 d1 d2 d3 d4 d5 d6 d7 d8 d9 d10 d11); obtain ⟨d0, d1, d2, d3, d4, d5, d6, d7, d8, d9, d10, d11⟩ := row12 Rd
  (try clear e0 e1 e2 e3 e4 e5 e6 e7 e8 e9 e10 e11); obtain ⟨e0, e1, e2, e3, e4, e5, e6, e7, e8, e9, e10, e11⟩ := row12 Re
  (try clear y0 y1); obtain ⟨y0, y1⟩ := row2 Ry
  (try clear m0 m1 m2 m3 m4 m5 m6 m7 m8 m9 m10 m11); obtain ⟨m0, m1, m2, m3, m4, m5, m6, m7, m8, m9, m10, m11⟩ := row12 Rm
  (try clear n0 n1 n2 n3 n4 n5 n6 n7 n8 n9 n10 n11); obtain ⟨n0, n1, n2, n3, n4, n5, n6, n7, n8, n9, n10, n11⟩ := row12 Rn
  go_wp2
  go_ret
  exact ⟨rfl, hb0⟩
set_option maxRecDepth 100000 in
set_option maxHeartbeats 32000000 in
theorem one_01a (s : Sp) (p q u v t : Px) (i j hu2 hp2 : Int) (b : Bool)
    (H0 : ∀ w, Calls Try.prog 26 #[sv s, pv p, .agg #[.int .i64 i, .int .i64 j]] w fun e w' => e = .returned (pv pz) ∧ Below w.heap.size w w')
    (H1 : ∀ w, Calls Try.prog 28 #[sv s, pv q, pv p] w fun e w' => e = .returned (.bool false) ∧ Below w.heap.size w w')
    (H2 : ∀ w, Calls Try.prog 20 #[sv s, pv q] w fun e w' => e = .returned (.bool false) ∧ Below w.heap.size w w')
    (H3 : ∀ w, Calls Try.prog 20 #[sv s, pv p] w fun e w' => e = .returned (.bool true) ∧ Below w.heap.size w w')
    (H5 : ∀ w, Calls Try.prog 22 #[sv s] w fun e w' => e = .returned (pv t) ∧ Below w.heap.size w w')
    (g0 : i < p.a0) (w : World) :
    Calls Try.prog 7 #[sv s, pv p, pv q, .int .i64 i, .int .i64 j] w fun e w' => e = .returned (.bool true) ∧ Below w.heap.size w w' := by
  have HA := alive9_t
  have qe := eql_px pz pz
  rw [decide_eq_true rfl] at qe
  have g0' : decide (i < p.a0) = true := decide_eq_true g0
  unfold pz kz at *
  unfold sv pv at *
  obtain ⟨Rg, Rd, Re, hb0⟩ := three_rows w #[.int .i64 s.n, .int .i64 s.d0.kind, .int .i64 s.d0.side, .int .i64 s.d0.step, .int .i64 s.d1.kind, .int .i64 s.d1.side, .int .i64 s.d1.step] #[.int .i64 p.a0, .int .i64 p.a1, .int .i64 p.k0.kind, .int .i64 p.k0.len, .int .u64 p.k0.h, .int .u64 p.k0.l, .string ⟨p.k0.path.toArray⟩, .int .i64 p.k1.kind, .int .i64 p.k1.len, .int .u64 p.k1.h, .int .u64 p.k1.l, .string ⟨p.k1.path.toArray⟩] #[.int .i64 q.a0, .int .i64 q.a1, .int .i64 q.k0.kind, .int .i64 q.k0.len, .int .u64 q.k0.h, .int .u64 q.k0.l, .string ⟨q.k0.path.toArray⟩, .int .i64 q.k1.kind, .int .i64 q.k1.len, .int .u64 q.k1.h, .int .u64 q.k1.l, .string ⟨q.k1.path.toArray⟩] 26 33 33
  (try clear g0 g1 g2 g3 g4 g5 g6); obtain ⟨g0, g1, g2, g3, g4, g5, g6⟩ := row7 Rg
  (try clear d0 d1 d2 d3 d4 d5 d6 d7 d8 d9 d10 d11); obtain ⟨d0, d1, d2, d3, d4, d5, d6, d7, d8, d9, d10, d11⟩ := row12 Rd
  (try clear e0 e1 e2 e3 e4 e5 e6 e7 e8 e9 e10 e11); obtain ⟨e0, e1, e2, e3, e4, e5, e6, e7, e8, e9, e10, e11⟩ := row12 Re
  go_enter Try.func7, Try.ntmps7
  go_wp2_with fail
  refine (H0 _).mono ?_
  rintro e w1 ⟨rfl, hb⟩
  replace Rg := (Rg.alloc _).later hb
  replace Rd := (Rd.alloc _).later hb
  replace Re := (Re.alloc _).later hb
  have Ry := Row.later (Row.new _ _ _) hb
  simp only [World.size_alloc] at Ry
  replace hb0 := below_step (hb0.alloc hb0.size _) hb
  clear hb
  have lg := Rg.lt
  have ld := Rd.lt
  have le := Re.lt
  have ly := Ry.lt
  (try clear g0 g1 g2 g3 g4 g5 g6); obtain ⟨g0, g1, g2, g3, g4, g5, g6⟩ := row7 Rg
  (try clear d0 d1 d2 d3 d4 d5 d6 d7 d8 d9 d10 d11); obtain ⟨d0, d1, d2, d3, d4, d5, d6, d7, d8, d9, d10, d11⟩ := row12 Rd
  (try clear e0 e1 e2 e3 e4 e5 e6 e7 e8 e9 e10 e11); obtain ⟨e0, e1, e2, e3, e4, e5, e6, e7, e8, e9, e10, e11⟩ := row12 Re
  (try clear y0 y1); obtain ⟨y0, y1⟩ := row2 Ry
  go_wp2_with fail
  replace Rg := Rg.alloc (.cells #[Value.int .i64 0, Value.int .i64 0, Value.int .i64 0, Value.int .i64 0, Value.int .u64 0, Value.int .u64 0, Value.string ⟨#[]⟩, Value.int .i64 0, Value.int .i64 0, Value.int .u64 0, Value.int .u64 0, Value.string ⟨#[]⟩] 33)
  replace Rd := Rd.alloc (.cells #[Value.int .i64 0, Value.int .i64 0, Value.int .i64 0, Value.int .i64 0, Value.int .u64 0, Value.int .u64 0, Value.string ⟨#[]⟩, Value.int .i64 0, Value.int .i64 0, Value.int .u64 0, Value.int .u64 0, Value.string ⟨#[]⟩] 33)
  replace Re := Re.alloc (.cells #[Value.int .i64 0, Value.int .i64 0, Value.int .i64 0, Value.int .i64 0, Value.int .u64 0, Value.int .u64 0, Value.string ⟨#[]⟩, Value.int .i64 0, Value.int .i64 0, Value.int .u64 0, Value.int .u64 0, Value.string ⟨#[]⟩] 33)
  replace Ry := Ry.alloc (.cells #[Value.int .i64 0, Value.int .i64 0, Value.int .i64 0, Value.int .i64 0, Value.int .u64 0, Value.int .u64 0, Value.string ⟨#[]⟩, Value.int .i64 0, Value.int .i64 0, Value.int .u64 0, Value.int .u64 0, Value.string ⟨#[]⟩] 33)
  have Rm := Row.new w1 #[Value.int .i64 0, Value.int .i64 0, Value.int .i64 0, Value.int .i64 0, Value.int .u64 0, Value.int .u64 0, Value.string ⟨#[]⟩, Value.int .i64 0, Value.int .i64 0, Value.int .u64 0, Value.int .u64 0, Value.string ⟨#[]⟩] 33
  have mm := hb0.size
  replace hb0 := hb0.alloc hb0.size (.cells #[Value.int .i64 0, Value.int .i64 0, Value.int .i64 0, Value.int .i64 0, Value.int .u64 0, Value.int .u64 0, Value.string ⟨#[]⟩, Value.int .i64 0, Value.int .i64 0, Value.int .u64 0, Value.int .u64 0, Value.string ⟨#[]⟩] 33)
  (try clear g0 g1 g2 g3 g4 g5 g6); obtain ⟨g0, g1, g2, g3, g4, g5, g6⟩ := row7 Rg
  (try clear d0 d1 d2 d3 d4 d5 d6 d7 d8 d9 d10 d11); obtain ⟨d0, d1, d2, d3, d4, d5, d6, d7, d8, d9, d10, d11⟩ := row12 Rd
  (try clear e0 e1 e2 e3 e4 e5 e6 e7 e8 e9 e10 e11); obtain ⟨e0, e1, e2, e3, e4, e5, e6, e7, e8, e9, e10, e11⟩ := row12 Re
  (try clear y0 y1); obtain ⟨y0, y1⟩ := row2 Ry
  (try clear m0 m1 m2 m3 m4 m5 m6 m7 m8 m9 m10 m11); obtain ⟨m0, m1, m2, m3, m4, m5, m6, m7, m8, m9, m10, m11⟩ := row12 Rm
  refine wp_region_held_drew (S := (fun w' => w'.cell? ⟨w.heap.size + 1 + 1, 0, none⟩ = some (Value.int .i64 q.a0) ∧ w'.cell? ⟨w.heap.size + 1 + 1, 1, none⟩ = some (Value.int .i64 q.a1) ∧ Row w' w.heap.size #[.int .i64 s.n, .int .i64 s.d0.kind, .int .i64 s.d0.side, .int .i64 s.d0.step, .int .i64 s.d1.kind, .int .i64 s.d1.side, .int .i64 s.d1.step] 26 ∧ Row w' (w.heap.size + 1) #[.int .i64 p.a0, .int .i64 p.a1, .int .i64 p.k0.kind, .int .i64 p.k0.len, .int .u64 p.k0.h, .int .u64 p.k0.l, .string ⟨p.k0.path.toArray⟩, .int .i64 p.k1.kind, .int .i64 p.k1.len, .int .u64 p.k1.h, .int .u64 p.k1.l, .string ⟨p.k1.path.toArray⟩] 33 ∧ Row w' (w.heap.size + 1 + 1) #[.int .i64 q.a0, .int .i64 q.a1, .int .i64 q.k0.kind, .int .i64 q.k0.len, .int .u64 q.k0.h, .int .u64 q.k0.l, .string ⟨q.k0.path.toArray⟩, .int .i64 q.k1.kind, .int .i64 q.k1.len, .int .u64 q.k1.h, .int .u64 q.k1.l, .string ⟨q.k1.path.toArray⟩] 33)) (by kernel_rfl) ?hSr101_ (fun hHeld => ?_)
  case hSr101_ => (exact ⟨e0, e1, Rg.drew, Rd.drew, Re.drew⟩)
  (clear g0 g1 g2 g3 g4 g5 g6 d0 d1 d2 d3 d4 d5 d6 d7 d8 d9 d10 d11 e0 e1 e2 e3 e4 e5 e6 e7 e8 e9 e10 e11 y0 y1 m0 m1 m2 m3 m4 m5 m6 m7 m8 m9 m10 m11; (replace Rg := Rg.drew); (replace Rd := Rd.drew); (replace Re := Re.drew); (replace Ry := Ry.drew); (replace Rm := Rm.drew); (replace hb0 := hb0.drew); (generalize World.drew (World.alloc w1 (.cells #[Value.int .i64 0, Value.int .i64 0, Value.int .i64 0, Value.int .i64 0, Value.int .u64 0, Value.int .u64 0, Value.string ⟨#[]⟩, Value.int .i64 0, Value.int .i64 0, Value.int .u64 0, Value.int .u64 0, Value.string ⟨#[]⟩] 33)) = wq at *))
  refine tk 0 ⟨some 21, .load 26 (.tmp 5), 26, _, _, _⟩ hHeld ?_ (v := ?vr101_1_0) (hy := ?yr101_1_0)
  case yr101_1_0 => (intro wy hSw; obtain ⟨e0, e1, Qg, Qd, Qe⟩ := hSw; (with_reducible refine pexec_load 26 (.tmp 5) ?_ w.heap.size ?_ 26 #[.int .i64 s.n, .int .i64 s.d0.kind, .int .i64 s.d0.side, .int .i64 s.d0.step, .int .i64 s.d1.kind, .int .i64 s.d1.side, .int .i64 s.d1.step] _ Qg Try.underlying26 ?_ ?_) <;> first | rfl | exact infoSp)
  (try simp only [Act.put, nz1, nz2, nz3])
  refine tk 1 ⟨some 22, .load 33 (.tmp 7), 33, _, _, _⟩ hHeld ?_ (v := ?vr101_2_1) (hy := ?yr101_2_1)
  case yr101_2_1 => (intro wy hSw; obtain ⟨e0, e1, Qg, Qd, Qe⟩ := hSw; (with_reducible refine pexec_load 33 (.tmp 7) ?_ (w.heap.size + 1 + 1) ?_ 33 #[.int .i64 q.a0, .int .i64 q.a1, .int .i64 q.k0.kind, .int .i64 q.k0.len, .int .u64 q.k0.h, .int .u64 q.k0.l, .string ⟨q.k0.path.toArray⟩, .int .i64 q.k1.kind, .int .i64 q.k1.len, .int .u64 q.k1.h, .int .u64 q.k1.l, .string ⟨q.k1.path.toArray⟩] _ Qe Try.underlying33 ?_ ?_) <;> first | rfl | exact infoPx)
  (try simp only [Act.put, nz1, nz2, nz3])
  refine tk 2 ⟨some 23, .load 33 (.tmp 6), 33, _, _, _⟩ hHeld ?_ (v := ?vr101_3_2) (hy := ?yr101_3_2)
  case yr101_3_2 => (intro wy hSw; obtain ⟨e0, e1, Qg, Qd, Qe⟩ := hSw; (with_reducible refine pexec_load 33 (.tmp 6) ?_ (w.heap.size + 1) ?_ 33 #[.int .i64 p.a0, .int .i64 p.a1, .int .i64 p.k0.kind, .int .i64 p.k0.len, .int .u64 p.k0.h, .int .u64 p.k0.l, .string ⟨p.k0.path.toArray⟩, .int .i64 p.k1.kind, .int .i64 p.k1.len, .int .u64 p.k1.h, .int .u64 p.k1.l, .string ⟨p.k1.path.toArray⟩] _ Qd Try.underlying33 ?_ ?_) <;> first | rfl | exact infoPx)
  (try simp only [Act.put, nz1, nz2, nz3])
  refine tk 4 ⟨some 25, .load 26 (.tmp 5), 26, _, _, _⟩ hHeld ?_ (v := ?vr101_4_4) (hy := ?yr101_4_4)
  case yr101_4_4 => (intro wy hSw; obtain ⟨e0, e1, Qg, Qd, Qe⟩ := hSw; (with_reducible refine pexec_load 26 (.tmp 5) ?_ w.heap.size ?_ 26 #[.int .i64 s.n, .int .i64 s.d0.kind, .int .i64 s.d0.side, .int .i64 s.d0.step, .int .i64 s.d1.kind, .int .i64 s.d1.side, .int .i64 s.d1.step] _ Qg Try.underlying26 ?_ ?_) <;> first | rfl | exact infoSp)
  (try simp only [Act.put, nz1, nz2, nz3])
  refine tk 5 ⟨some 26, .load 33 (.tmp 7), 33, _, _, _⟩ hHeld ?_ (v := ?vr101_5_5) (hy := ?yr101_5_5)
  case yr101_5_5 => (intro wy hSw; obtain ⟨e0, e1, Qg, Qd, Qe⟩ := hSw; (with_reducible refine pexec_load 33 (.tmp 7) ?_ (w.heap.size + 1 + 1) ?_ 33 #[.int .i64 q.a0, .int .i64 q.a1, .int .i64 q.k0.kind, .int .i64 q.k0.len, .int .u64 q.k0.h, .int .u64 q.k0.l, .string ⟨q.k0.path.toArray⟩, .int .i64 q.k1.kind, .int .i64 q.k1.len, .int .u64 q.k1.h, .int .u64 q.k1.l, .string ⟨q.k1.path.toArray⟩] _ Qe Try.underlying33 ?_ ?_) <;> first | rfl | exact infoPx)
  (try simp only [Act.put, nz1, nz2, nz3])
  refine wpAnyH_ready (rs := [3]) (by kernel_rfl) (by simp) ?_
  refine AllReadyH.cons (o := ⟨some 24, .call { callee := .value (.func 28), args := #[.tmp 21, .tmp 22, .tmp 23], argTypes := #[26, 33, 33] }, 4, _, _, _⟩) rfl (fun K hK => ?_) AllReadyH.nil
  (go_simp; (refine (H1 _).mono ?_); (rintro e wz ⟨rfl, hb⟩); (replace Rg := Rg.later hb); (replace Rd := Rd.later hb); (replace Re := Re.later hb); (replace Ry := Ry.later hb); (replace Rm := Rm.later hb); (replace hb0 := below_step hb0 hb); go_wp2_with fail)
  refine hK.out _ _ ?hSr101_6_3 (fun hHeld2 => ?_)
  case hSr101_6_3 => (obtain ⟨e0, e1, Qg, Qd, Qe⟩ := hHeld; exact ⟨cell_later hb e0, cell_later hb e1, Qg.later hb, Qd.later hb, Qe.later hb⟩)
  clear hK K hHeld
  have hHeld := hHeld2
  clear hHeld2
  rename World => wq
  (try simp only [Act.put, nz1, nz2, nz3])
  refine wpAnyH_ready (rs := [6]) (by kernel_rfl) (by simp) ?_
  refine AllReadyH.cons (o := ⟨some 27, .call { callee := .value (.func 20), args := #[.tmp 25, .tmp 26], argTypes := #[26, 33] }, 4, _, _, _⟩) rfl (fun K hK => ?_) AllReadyH.nil
  (go_simp; (refine (H2 _).mono ?_); (rintro e wz ⟨rfl, hb⟩); (replace Rg := Rg.later hb); (replace Rd := Rd.later hb); (replace Re := Re.later hb); (replace Ry := Ry.later hb); (replace Rm := Rm.later hb); (replace hb0 := below_step hb0 hb); go_wp2_with fail)
  refine hK.out _ _ ?hSr101_7_6 (fun hHeld2 => ?_)
  case hSr101_7_6 => (obtain ⟨e0, e1, Qg, Qd, Qe⟩ := hHeld; exact ⟨cell_later hb e0, cell_later hb e1, Qg.later hb, Qd.later hb, Qe.later hb⟩)
  clear hK K hHeld
  have hHeld := hHeld2
  clear hHeld2
  rename World => wq
  (try simp only [Act.put, nz1, nz2, nz3])
  refine tk 7 ⟨some 28, .move (.tmp 27), 4, _, _, _⟩ hHeld ?_
  (try simp only [Act.put, nz1, nz2, nz3])
  refine ts 8 ⟨some 29, .load 26 (.tmp 5), 26, _, _, _⟩ hHeld ?_
  (try simp only [Act.put, nz1, nz2, nz3])
  refine ts 9 ⟨some 30, .load 33 (.tmp 6), 33, _, _, _⟩ hHeld ?_
  (try simp only [Act.put, nz1, nz2, nz3])
  refine ts 10 ⟨some 31, .call { callee := .value (.func 20), args := #[.tmp 29, .tmp 30], argTypes := #[26, 33] }, 4, _, _, _⟩ hHeld ?_
  (try simp only [Act.put, nz1, nz2, nz3])
  refine tk 11 ⟨some 32, .pick (.tmp 28) (.tmp 31) (.const (.bool false)), 4, _, _, _⟩ hHeld ?_
  (try simp only [Act.put, nz1, nz2, nz3])
  refine tk 12 ⟨some 33, .move (.tmp 32), 4, _, _, _⟩ hHeld ?_
  (try simp only [Act.put, nz1, nz2, nz3])
  refine ts 13 ⟨some 34, .load 26 (.tmp 5), 26, _, _, _⟩ hHeld ?_
  (try simp only [Act.put, nz1, nz2, nz3])
  refine ts 14 ⟨some 35, .load 33 (.tmp 6), 33, _, _, _⟩ hHeld ?_
  (try simp only [Act.put, nz1, nz2, nz3])
  refine ts 15 ⟨some 36, .fieldAddr 33 (.tmp 7) 0, 0, _, _, _⟩ hHeld ?_
  (try simp only [Act.put, nz1, nz2, nz3])
  refine ts 16 ⟨some 37, .load 27 (.tmp 36), 27, _, _, _⟩ hHeld ?_
  (try simp only [Act.put, nz1, nz2, nz3])
  refine ts 17 ⟨some 38, .call { callee := .value (.func 26), args := #[.tmp 34, .tmp 35, .tmp 37], argTypes := #[26, 33, 27] }, 33, _, _, _⟩ hHeld ?_
  (try simp only [Act.put, nz1, nz2, nz3])
  refine ts 18 ⟨some 39, .load 33 (.tmp 7), 33, _, _, _⟩ hHeld ?_
  (try simp only [Act.put, nz1, nz2, nz3])
  refine ts 19 ⟨some 40, .binOp .eql 33 (.tmp 38) (.tmp 39) 33, 4, _, _, _⟩ hHeld ?_
  (try simp only [Act.put, nz1, nz2, nz3])
  refine tk 20 ⟨some 41, .pick (.tmp 33) (.tmp 40) (.const (.bool false)), 4, _, _, _⟩ hHeld ?_
  (try simp only [Act.put, nz1, nz2, nz3])
  refine tk 21 ⟨some 42, .binOp .neq 4 (.tmp 24) (.tmp 41) 4, 4, _, _, _⟩ hHeld ?_
  (try simp only [Act.put, nz1, nz2, nz3])
  refine wpAnyH_done (by kernel_rfl) ?_ _
  clear hHeld
  rename World => w2
  have lg := Rg.lt
  have ld := Rd.lt
  have le := Re.lt
  have ly := Ry.lt
  have lm := Rm.lt
  (try clear g0 g1 g2 g3 g4 g5 g6); obtain ⟨g0, g1, g2, g3, g4, g5, g6⟩ := row7 Rg
  (try clear d0 d1 d2 d3 d4 d5 d6 d7 d8 d9 d10 d11); obtain ⟨d0, d1, d2, d3, d4, d5, d6, d7, d8, d9, d10, d11⟩ := row12 Rd
  (try clear e0 e1 e2 e3 e4 e5 e6 e7 e8 e9 e10 e11); obtain ⟨e0, e1, e2, e3, e4, e5, e6, e7, e8, e9, e10, e11⟩ := row12 Re
  (try clear y0 y1); obtain ⟨y0, y1⟩ := row2 Ry
  (try clear m0 m1 m2 m3 m4 m5 m6 m7 m8 m9 m10 m11); obtain ⟨m0, m1, m2, m3, m4, m5, m6, m7, m8, m9, m10, m11⟩ := row12 Rm
  go_wp2_with fail
  refine (H5 _).mono ?_
  rintro e w3 ⟨rfl, hb⟩
  replace Rg := Rg.later hb
  replace Rd := Rd.later hb
  replace Re := Re.later hb
  replace Ry := Ry.later hb
  replace Rm := Rm.later hb
  replace hb0 := below_step hb0 hb
  clear hb
  have lg := Rg.lt
  have ld := Rd.lt
  have le := Re.lt
  have ly := Ry.lt
  have lm := Rm.lt
  (try clear g0 g1 g2 g3 g4 g5 g6); obtain ⟨g0, g1, g2, g3, g4, g5, g6⟩ := row7 Rg
  (try clear d0 d1 d2 d3 d4 d5 d6 d7 d8 d9 d10 d11); obtain ⟨d0, d1, d2, d3, d4, d5, d6, d7, d8, d9, d10, d11⟩ := row12 Rd
  (try clear e0 e1 e2 e3 e4 e5 e6 e7 e8 e9 e10 e11); obtain ⟨e0, e1, e2, e3, e4, e5, e6, e7, e8, e9, e10, e11⟩ := row12 Re
  (try clear y0 y1); obtain ⟨y0, y1⟩ := row2 Ry
  (try clear m0 m1 m2 m3 m4 m5 m6 m7 m8 m9 m10 m11); obtain ⟨m0, m1, m2, m3, m4, m5, m6, m7, m8, m9, m10, m11⟩ := row12 Rm
  go_wp2_with fail
  refine (H3 _).mono ?_
  rintro e w4 ⟨rfl, hb⟩
  have nng := Rg.lt
  have nnd := Rd.lt
  have nne := Re.lt
  have nny := Ry.lt
  have nnm := Rm.lt
  replace Rg := (Rg.alloc _).later hb
  replace Rd := (Rd.alloc _).later hb
  replace Re := (Re.alloc _).later hb
  replace Ry := (Ry.alloc _).later hb
  replace Rm := (Rm.alloc _).later hb
  have Rn := Row.later (Row.new _ _ _) hb
  have mn := hb0.size
  replace hb0 := below_step (hb0.alloc hb0.size _) hb
  clear hb
  generalize w3.heap.size = gn at *
  have lg := Rg.lt
  have ld := Rd.lt
  have le := Re.lt
  have ly := Ry.lt
  have lm := Rm.lt
  have ln := Rn.lt
  (try clear g0 g1 g2 g3 g4 g5 g6); obtain ⟨g0, g1, g2, g3, g4, g5, g6⟩ := row7 Rg
  (try clear d0 d1 d2 d3 d4 d5 d6 d7 d8 d9 d10 d11); obtain ⟨d0, d1, d2, d3, d4, d5, d6, d7, d8, d9, d10, d11⟩ := row12 Rd
  (try clear e0 e1 e2 e3 e4 e5 e6 e7 e8 e9 e10 e11); obtain ⟨e0, e1, e2, e3, e4, e5, e6, e7, e8, e9, e10, e11⟩ := row12 Re
  (try clear y0 y1); obtain ⟨y0, y1⟩ := row2 Ry
  (try clear m0 m1 m2 m3 m4 m5 m6 m7 m8 m9 m10 m11); obtain ⟨m0, m1, m2, m3, m4, m5, m6, m7, m8, m9, m10, m11⟩ := row12 Rm
  (try clear n0 n1 n2 n3 n4 n5 n6 n7 n8 n9 n10 n11); obtain ⟨n0, n1, n2, n3, n4, n5, n6, n7, n8, n9, n10, n11⟩ := row12 Rn
  go_wp2_with fail
  refine (HA _).mono ?_
  rintro e w5 ⟨rfl, hb⟩
  replace Rg := Rg.later hb
  replace Rd := Rd.later hb
  replace Re := Re.later hb
  replace Ry := Ry.later hb
  replace Rm := Rm.later hb
  replace Rn := Rn.later hb
  replace hb0 := below_step hb0 hb
  clear hb
  have lg := Rg.lt
  have ld := Rd.lt
  have le := Re.lt
  have ly := Ry.lt
  have lm := Rm.lt
  have ln := Rn.lt
  (try clear g0 g1 g2 g3 g4 g5 g6); obtain ⟨g0, g1, g2, g3, g4, g5, g6⟩ := row7 Rg
  (try clear d0 d1 d2 d3 d4 d5 d6 d7 d8 d9 d10 d11); obtain ⟨d0, d1, d2, d3, d4, d5, d6, d7, d8, d9, d10, d11⟩ := row12 Rd
  (try clear e0 e1 e2 e3 e4 e5 e6 e7 e8 e9 e10 e11); obtain ⟨e0, e1, e2, e3, e4, e5, e6, e7, e8, e9, e10, e11⟩ := row12 Re
  (try clear y0 y1); obtain ⟨y0, y1⟩ := row2 Ry
  (try clear m0 m1 m2 m3 m4 m5 m6 m7 m8 m9 m10 m11); obtain ⟨m0, m1, m2, m3, m4, m5, m6, m7, m8, m9, m10, m11⟩ := row12 Rm
  (try clear n0 n1 n2 n3 n4 n5 n6 n7 n8 n9 n10 n11); obtain ⟨n0, n1, n2, n3, n4, n5, n6, n7, n8, n9, n10, n11⟩ := row12 Rn
  go_wp2
  go_ret
  exact ⟨rfl, hb0⟩
set_option maxRecDepth 100000 in
set_option maxHeartbeats 32000000 in
theorem one_01b (s : Sp) (p q u v t : Px) (i j hu2 hp2 : Int) (b : Bool)
    (H0 : ∀ w, Calls Try.prog 26 #[sv s, pv p, .agg #[.int .i64 i, .int .i64 j]] w fun e w' => e = .returned (pv pz) ∧ Below w.heap.size w w')
    (H1 : ∀ w, Calls Try.prog 28 #[sv s, pv q, pv p] w fun e w' => e = .returned (.bool false) ∧ Below w.heap.size w w')
    (H2 : ∀ w, Calls Try.prog 20 #[sv s, pv q] w fun e w' => e = .returned (.bool false) ∧ Below w.heap.size w w')
    (H3 : ∀ w, Calls Try.prog 20 #[sv s, pv p] w fun e w' => e = .returned (.bool true) ∧ Below w.heap.size w w')
    (H5 : ∀ w, Calls Try.prog 22 #[sv s] w fun e w' => e = .returned (pv t) ∧ Below w.heap.size w w')
    (g0 : ¬ i < p.a0) (g1 : j < p.a1) (w : World) :
    Calls Try.prog 7 #[sv s, pv p, pv q, .int .i64 i, .int .i64 j] w fun e w' => e = .returned (.bool true) ∧ Below w.heap.size w w' := by
  have HA := alive9_t
  have qe := eql_px pz pz
  rw [decide_eq_true rfl] at qe
  have g0' : decide (i < p.a0) = false := decide_eq_false g0
  have g1' : decide (j < p.a1) = true := decide_eq_true g1
  unfold pz kz at *
  unfold sv pv at *
  obtain ⟨Rg, Rd, Re, hb0⟩ := three_rows w #[.int .i64 s.n, .int .i64 s.d0.kind, .int .i64 s.d0.side, .int .i64 s.d0.step, .int .i64 s.d1.kind, .int .i64 s.d1.side, .int .i64 s.d1.step] #[.int .i64 p.a0, .int .i64 p.a1, .int .i64 p.k0.kind, .int .i64 p.k0.len, .int .u64 p.k0.h, .int .u64 p.k0.l, .string ⟨p.k0.path.toArray⟩, .int .i64 p.k1.kind, .int .i64 p.k1.len, .int .u64 p.k1.h, .int .u64 p.k1.l, .string ⟨p.k1.path.toArray⟩] #[.int .i64 q.a0, .int .i64 q.a1, .int .i64 q.k0.kind, .int .i64 q.k0.len, .int .u64 q.k0.h, .int .u64 q.k0.l, .string ⟨q.k0.path.toArray⟩, .int .i64 q.k1.kind, .int .i64 q.k1.len, .int .u64 q.k1.h, .int .u64 q.k1.l, .string ⟨q.k1.path.toArray⟩] 26 33 33
  (try clear g0 g1 g2 g3 g4 g5 g6); obtain ⟨g0, g1, g2, g3, g4, g5, g6⟩ := row7 Rg
  (try clear d0 d1 d2 d3 d4 d5 d6 d7 d8 d9 d10 d11); obtain ⟨d0, d1, d2, d3, d4, d5, d6, d7, d8, d9, d10, d11⟩ := row12 Rd
  (try clear e0 e1 e2 e3 e4 e5 e6 e7 e8 e9 e10 e11); obtain ⟨e0, e1, e2, e3, e4, e5, e6, e7, e8, e9, e10, e11⟩ := row12 Re
  go_enter Try.func7, Try.ntmps7
  go_wp2_with fail
  refine (H0 _).mono ?_
  rintro e w1 ⟨rfl, hb⟩
  replace Rg := (Rg.alloc _).later hb
  replace Rd := (Rd.alloc _).later hb
  replace Re := (Re.alloc _).later hb
  have Ry := Row.later (Row.new _ _ _) hb
  simp only [World.size_alloc] at Ry
  replace hb0 := below_step (hb0.alloc hb0.size _) hb
  clear hb
  have lg := Rg.lt
  have ld := Rd.lt
  have le := Re.lt
  have ly := Ry.lt
  (try clear g0 g1 g2 g3 g4 g5 g6); obtain ⟨g0, g1, g2, g3, g4, g5, g6⟩ := row7 Rg
  (try clear d0 d1 d2 d3 d4 d5 d6 d7 d8 d9 d10 d11); obtain ⟨d0, d1, d2, d3, d4, d5, d6, d7, d8, d9, d10, d11⟩ := row12 Rd
  (try clear e0 e1 e2 e3 e4 e5 e6 e7 e8 e9 e10 e11); obtain ⟨e0, e1, e2, e3, e4, e5, e6, e7, e8, e9, e10, e11⟩ := row12 Re
  (try clear y0 y1); obtain ⟨y0, y1⟩ := row2 Ry
  go_wp2_with fail
  replace Rg := Rg.alloc (.cells #[Value.int .i64 0, Value.int .i64 0, Value.int .i64 0, Value.int .i64 0, Value.int .u64 0, Value.int .u64 0, Value.string ⟨#[]⟩, Value.int .i64 0, Value.int .i64 0, Value.int .u64 0, Value.int .u64 0, Value.string ⟨#[]⟩] 33)
  replace Rd := Rd.alloc (.cells #[Value.int .i64 0, Value.int .i64 0, Value.int .i64 0, Value.int .i64 0, Value.int .u64 0, Value.int .u64 0, Value.string ⟨#[]⟩, Value.int .i64 0, Value.int .i64 0, Value.int .u64 0, Value.int .u64 0, Value.string ⟨#[]⟩] 33)
  replace Re := Re.alloc (.cells #[Value.int .i64 0, Value.int .i64 0, Value.int .i64 0, Value.int .i64 0, Value.int .u64 0, Value.int .u64 0, Value.string ⟨#[]⟩, Value.int .i64 0, Value.int .i64 0, Value.int .u64 0, Value.int .u64 0, Value.string ⟨#[]⟩] 33)
  replace Ry := Ry.alloc (.cells #[Value.int .i64 0, Value.int .i64 0, Value.int .i64 0, Value.int .i64 0, Value.int .u64 0, Value.int .u64 0, Value.string ⟨#[]⟩, Value.int .i64 0, Value.int .i64 0, Value.int .u64 0, Value.int .u64 0, Value.string ⟨#[]⟩] 33)
  have Rm := Row.new w1 #[Value.int .i64 0, Value.int .i64 0, Value.int .i64 0, Value.int .i64 0, Value.int .u64 0, Value.int .u64 0, Value.string ⟨#[]⟩, Value.int .i64 0, Value.int .i64 0, Value.int .u64 0, Value.int .u64 0, Value.string ⟨#[]⟩] 33
  have mm := hb0.size
  replace hb0 := hb0.alloc hb0.size (.cells #[Value.int .i64 0, Value.int .i64 0, Value.int .i64 0, Value.int .i64 0, Value.int .u64 0, Value.int .u64 0, Value.string ⟨#[]⟩, Value.int .i64 0, Value.int .i64 0, Value.int .u64 0, Value.int .u64 0, Value.string ⟨#[]⟩] 33)
  (try clear g0 g1 g2 g3 g4 g5 g6); obtain ⟨g0, g1, g2, g3, g4, g5, g6⟩ := row7 Rg
  (try clear d0 d1 d2 d3 d4 d5 d6 d7 d8 d9 d10 d11); obtain ⟨d0, d1, d2, d3, d4, d5, d6, d7, d8, d9, d10, d11⟩ := row12 Rd
  (try clear e0 e1 e2 e3 e4 e5 e6 e7 e8 e9 e10 e11); obtain ⟨e0, e1, e2, e3, e4, e5, e6, e7, e8, e9, e10, e11⟩ := row12 Re
  (try clear y0 y1); obtain ⟨y0, y1⟩ := row2 Ry
  (try clear m0 m1 m2 m3 m4 m5 m6 m7 m8 m9 m10 m11); obtain ⟨m0, m1, m2, m3, m4, m5, m6, m7, m8, m9, m10, m11⟩ := row12 Rm
  refine wp_region_held_drew (S := (fun w' => w'.cell? ⟨w.heap.size + 1 + 1, 0, none⟩ = some (Value.int .i64 q.a0) ∧ w'.cell? ⟨w.heap.size + 1 + 1, 1, none⟩ = some (Value.int .i64 q.a1) ∧ Row w' w.heap.size #[.int .i64 s.n, .int .i64 s.d0.kind, .int .i64 s.d0.side, .int .i64 s.d0.step, .int .i64 s.d1.kind, .int .i64 s.d1.side, .int .i64 s.d1.step] 26 ∧ Row w' (w.heap.size + 1) #[.int .i64 p.a0, .int .i64 p.a1, .int .i64 p.k0.kind, .int .i64 p.k0.len, .int .u64 p.k0.h, .int .u64 p.k0.l, .string ⟨p.k0.path.toArray⟩, .int .i64 p.k1.kind, .int .i64 p.k1.len, .int .u64 p.k1.h, .int .u64 p.k1.l, .string ⟨p.k1.path.toArray⟩] 33 ∧ Row w' (w.heap.size + 1 + 1) #[.int .i64 q.a0, .int .i64 q.a1, .int .i64 q.k0.kind, .int .i64 q.k0.len, .int .u64 q.k0.h, .int .u64 q.k0.l, .string ⟨q.k0.path.toArray⟩, .int .i64 q.k1.kind, .int .i64 q.k1.len, .int .u64 q.k1.h, .int .u64 q.k1.l, .string ⟨q.k1.path.toArray⟩] 33)) (by kernel_rfl) ?hSr102_ (fun hHeld => ?_)
  case hSr102_ => (exact ⟨e0, e1, Rg.drew, Rd.drew, Re.drew⟩)
  (clear g0 g1 g2 g3 g4 g5 g6 d0 d1 d2 d3 d4 d5 d6 d7 d8 d9 d10 d11 e0 e1 e2 e3 e4 e5 e6 e7 e8 e9 e10 e11 y0 y1 m0 m1 m2 m3 m4 m5 m6 m7 m8 m9 m10 m11; (replace Rg := Rg.drew); (replace Rd := Rd.drew); (replace Re := Re.drew); (replace Ry := Ry.drew); (replace Rm := Rm.drew); (replace hb0 := hb0.drew); (generalize World.drew (World.alloc w1 (.cells #[Value.int .i64 0, Value.int .i64 0, Value.int .i64 0, Value.int .i64 0, Value.int .u64 0, Value.int .u64 0, Value.string ⟨#[]⟩, Value.int .i64 0, Value.int .i64 0, Value.int .u64 0, Value.int .u64 0, Value.string ⟨#[]⟩] 33)) = wq at *))
  refine tk 0 ⟨some 21, .load 26 (.tmp 5), 26, _, _, _⟩ hHeld ?_ (v := ?vr102_1_0) (hy := ?yr102_1_0)
  case yr102_1_0 => (intro wy hSw; obtain ⟨e0, e1, Qg, Qd, Qe⟩ := hSw; (with_reducible refine pexec_load 26 (.tmp 5) ?_ w.heap.size ?_ 26 #[.int .i64 s.n, .int .i64 s.d0.kind, .int .i64 s.d0.side, .int .i64 s.d0.step, .int .i64 s.d1.kind, .int .i64 s.d1.side, .int .i64 s.d1.step] _ Qg Try.underlying26 ?_ ?_) <;> first | rfl | exact infoSp)
  (try simp only [Act.put, nz1, nz2, nz3])
  refine tk 1 ⟨some 22, .load 33 (.tmp 7), 33, _, _, _⟩ hHeld ?_ (v := ?vr102_2_1) (hy := ?yr102_2_1)
  case yr102_2_1 => (intro wy hSw; obtain ⟨e0, e1, Qg, Qd, Qe⟩ := hSw; (with_reducible refine pexec_load 33 (.tmp 7) ?_ (w.heap.size + 1 + 1) ?_ 33 #[.int .i64 q.a0, .int .i64 q.a1, .int .i64 q.k0.kind, .int .i64 q.k0.len, .int .u64 q.k0.h, .int .u64 q.k0.l, .string ⟨q.k0.path.toArray⟩, .int .i64 q.k1.kind, .int .i64 q.k1.len, .int .u64 q.k1.h, .int .u64 q.k1.l, .string ⟨q.k1.path.toArray⟩] _ Qe Try.underlying33 ?_ ?_) <;> first | rfl | exact infoPx)
  (try simp only [Act.put, nz1, nz2, nz3])
  refine tk 2 ⟨some 23, .load 33 (.tmp 6), 33, _, _, _⟩ hHeld ?_ (v := ?vr102_3_2) (hy := ?yr102_3_2)
  case yr102_3_2 => (intro wy hSw; obtain ⟨e0, e1, Qg, Qd, Qe⟩ := hSw; (with_reducible refine pexec_load 33 (.tmp 6) ?_ (w.heap.size + 1) ?_ 33 #[.int .i64 p.a0, .int .i64 p.a1, .int .i64 p.k0.kind, .int .i64 p.k0.len, .int .u64 p.k0.h, .int .u64 p.k0.l, .string ⟨p.k0.path.toArray⟩, .int .i64 p.k1.kind, .int .i64 p.k1.len, .int .u64 p.k1.h, .int .u64 p.k1.l, .string ⟨p.k1.path.toArray⟩] _ Qd Try.underlying33 ?_ ?_) <;> first | rfl | exact infoPx)
  (try simp only [Act.put, nz1, nz2, nz3])
  refine tk 4 ⟨some 25, .load 26 (.tmp 5), 26, _, _, _⟩ hHeld ?_ (v := ?vr102_4_4) (hy := ?yr102_4_4)
  case yr102_4_4 => (intro wy hSw; obtain ⟨e0, e1, Qg, Qd, Qe⟩ := hSw; (with_reducible refine pexec_load 26 (.tmp 5) ?_ w.heap.size ?_ 26 #[.int .i64 s.n, .int .i64 s.d0.kind, .int .i64 s.d0.side, .int .i64 s.d0.step, .int .i64 s.d1.kind, .int .i64 s.d1.side, .int .i64 s.d1.step] _ Qg Try.underlying26 ?_ ?_) <;> first | rfl | exact infoSp)
  (try simp only [Act.put, nz1, nz2, nz3])
  refine tk 5 ⟨some 26, .load 33 (.tmp 7), 33, _, _, _⟩ hHeld ?_ (v := ?vr102_5_5) (hy := ?yr102_5_5)
  case yr102_5_5 => (intro wy hSw; obtain ⟨e0, e1, Qg, Qd, Qe⟩ := hSw; (with_reducible refine pexec_load 33 (.tmp 7) ?_ (w.heap.size + 1 + 1) ?_ 33 #[.int .i64 q.a0, .int .i64 q.a1, .int .i64 q.k0.kind, .int .i64 q.k0.len, .int .u64 q.k0.h, .int .u64 q.k0.l, .string ⟨q.k0.path.toArray⟩, .int .i64 q.k1.kind, .int .i64 q.k1.len, .int .u64 q.k1.h, .int .u64 q.k1.l, .string ⟨q.k1.path.toArray⟩] _ Qe Try.underlying33 ?_ ?_) <;> first | rfl | exact infoPx)
  (try simp only [Act.put, nz1, nz2, nz3])
  refine wpAnyH_ready (rs := [3]) (by kernel_rfl) (by simp) ?_
  refine AllReadyH.cons (o := ⟨some 24, .call { callee := .value (.func 28), args := #[.tmp 21, .tmp 22, .tmp 23], argTypes := #[26, 33, 33] }, 4, _, _, _⟩) rfl (fun K hK => ?_) AllReadyH.nil
  (go_simp; (refine (H1 _).mono ?_); (rintro e wz ⟨rfl, hb⟩); (replace Rg := Rg.later hb); (replace Rd := Rd.later hb); (replace Re := Re.later hb); (replace Ry := Ry.later hb); (replace Rm := Rm.later hb); (replace hb0 := below_step hb0 hb); go_wp2_with fail)
  refine hK.out _ _ ?hSr102_6_3 (fun hHeld2 => ?_)
  case hSr102_6_3 => (obtain ⟨e0, e1, Qg, Qd, Qe⟩ := hHeld; exact ⟨cell_later hb e0, cell_later hb e1, Qg.later hb, Qd.later hb, Qe.later hb⟩)
  clear hK K hHeld
  have hHeld := hHeld2
  clear hHeld2
  rename World => wq
  (try simp only [Act.put, nz1, nz2, nz3])
  refine wpAnyH_ready (rs := [6]) (by kernel_rfl) (by simp) ?_
  refine AllReadyH.cons (o := ⟨some 27, .call { callee := .value (.func 20), args := #[.tmp 25, .tmp 26], argTypes := #[26, 33] }, 4, _, _, _⟩) rfl (fun K hK => ?_) AllReadyH.nil
  (go_simp; (refine (H2 _).mono ?_); (rintro e wz ⟨rfl, hb⟩); (replace Rg := Rg.later hb); (replace Rd := Rd.later hb); (replace Re := Re.later hb); (replace Ry := Ry.later hb); (replace Rm := Rm.later hb); (replace hb0 := below_step hb0 hb); go_wp2_with fail)
  refine hK.out _ _ ?hSr102_7_6 (fun hHeld2 => ?_)
  case hSr102_7_6 => (obtain ⟨e0, e1, Qg, Qd, Qe⟩ := hHeld; exact ⟨cell_later hb e0, cell_later hb e1, Qg.later hb, Qd.later hb, Qe.later hb⟩)
  clear hK K hHeld
  have hHeld := hHeld2
  clear hHeld2
  rename World => wq
  (try simp only [Act.put, nz1, nz2, nz3])
  refine tk 7 ⟨some 28, .move (.tmp 27), 4, _, _, _⟩ hHeld ?_
  (try simp only [Act.put, nz1, nz2, nz3])
  refine ts 8 ⟨some 29, .load 26 (.tmp 5), 26, _, _, _⟩ hHeld ?_
  (try simp only [Act.put, nz1, nz2, nz3])
  refine ts 9 ⟨some 30, .load 33 (.tmp 6), 33, _, _, _⟩ hHeld ?_
  (try simp only [Act.put, nz1, nz2, nz3])
  refine ts 10 ⟨some 31, .call { callee := .value (.func 20), args := #[.tmp 29, .tmp 30], argTypes := #[26, 33] }, 4, _, _, _⟩ hHeld ?_
  (try simp only [Act.put, nz1, nz2, nz3])
  refine tk 11 ⟨some 32, .pick (.tmp 28) (.tmp 31) (.const (.bool false)), 4, _, _, _⟩ hHeld ?_
  (try simp only [Act.put, nz1, nz2, nz3])
  refine tk 12 ⟨some 33, .move (.tmp 32), 4, _, _, _⟩ hHeld ?_
  (try simp only [Act.put, nz1, nz2, nz3])
  refine ts 13 ⟨some 34, .load 26 (.tmp 5), 26, _, _, _⟩ hHeld ?_
  (try simp only [Act.put, nz1, nz2, nz3])
  refine ts 14 ⟨some 35, .load 33 (.tmp 6), 33, _, _, _⟩ hHeld ?_
  (try simp only [Act.put, nz1, nz2, nz3])
  refine ts 15 ⟨some 36, .fieldAddr 33 (.tmp 7) 0, 0, _, _, _⟩ hHeld ?_
  (try simp only [Act.put, nz1, nz2, nz3])
  refine ts 16 ⟨some 37, .load 27 (.tmp 36), 27, _, _, _⟩ hHeld ?_
  (try simp only [Act.put, nz1, nz2, nz3])
  refine ts 17 ⟨some 38, .call { callee := .value (.func 26), args := #[.tmp 34, .tmp 35, .tmp 37], argTypes := #[26, 33, 27] }, 33, _, _, _⟩ hHeld ?_
  (try simp only [Act.put, nz1, nz2, nz3])
  refine ts 18 ⟨some 39, .load 33 (.tmp 7), 33, _, _, _⟩ hHeld ?_
  (try simp only [Act.put, nz1, nz2, nz3])
  refine ts 19 ⟨some 40, .binOp .eql 33 (.tmp 38) (.tmp 39) 33, 4, _, _, _⟩ hHeld ?_
  (try simp only [Act.put, nz1, nz2, nz3])
  refine tk 20 ⟨some 41, .pick (.tmp 33) (.tmp 40) (.const (.bool false)), 4, _, _, _⟩ hHeld ?_
  (try simp only [Act.put, nz1, nz2, nz3])
  refine tk 21 ⟨some 42, .binOp .neq 4 (.tmp 24) (.tmp 41) 4, 4, _, _, _⟩ hHeld ?_
  (try simp only [Act.put, nz1, nz2, nz3])
  refine wpAnyH_done (by kernel_rfl) ?_ _
  clear hHeld
  rename World => w2
  have lg := Rg.lt
  have ld := Rd.lt
  have le := Re.lt
  have ly := Ry.lt
  have lm := Rm.lt
  (try clear g0 g1 g2 g3 g4 g5 g6); obtain ⟨g0, g1, g2, g3, g4, g5, g6⟩ := row7 Rg
  (try clear d0 d1 d2 d3 d4 d5 d6 d7 d8 d9 d10 d11); obtain ⟨d0, d1, d2, d3, d4, d5, d6, d7, d8, d9, d10, d11⟩ := row12 Rd
  (try clear e0 e1 e2 e3 e4 e5 e6 e7 e8 e9 e10 e11); obtain ⟨e0, e1, e2, e3, e4, e5, e6, e7, e8, e9, e10, e11⟩ := row12 Re
  (try clear y0 y1); obtain ⟨y0, y1⟩ := row2 Ry
  (try clear m0 m1 m2 m3 m4 m5 m6 m7 m8 m9 m10 m11); obtain ⟨m0, m1, m2, m3, m4, m5, m6, m7, m8, m9, m10, m11⟩ := row12 Rm
  go_wp2_with fail
  refine (H5 _).mono ?_
  rintro e w3 ⟨rfl, hb⟩
  replace Rg := Rg.later hb
  replace Rd := Rd.later hb
  replace Re := Re.later hb
  replace Ry := Ry.later hb
  replace Rm := Rm.later hb
  replace hb0 := below_step hb0 hb
  clear hb
  have lg := Rg.lt
  have ld := Rd.lt
  have le := Re.lt
  have ly := Ry.lt
  have lm := Rm.lt
  (try clear g0 g1 g2 g3 g4 g5 g6); obtain ⟨g0, g1, g2, g3, g4, g5, g6⟩ := row7 Rg
  (try clear d0 d1 d2 d3 d4 d5 d6 d7 d8 d9 d10 d11); obtain ⟨d0, d1, d2, d3, d4, d5, d6, d7, d8, d9, d10, d11⟩ := row12 Rd
  (try clear e0 e1 e2 e3 e4 e5 e6 e7 e8 e9 e10 e11); obtain ⟨e0, e1, e2, e3, e4, e5, e6, e7, e8, e9, e10, e11⟩ := row12 Re
  (try clear y0 y1); obtain ⟨y0, y1⟩ := row2 Ry
  (try clear m0 m1 m2 m3 m4 m5 m6 m7 m8 m9 m10 m11); obtain ⟨m0, m1, m2, m3, m4, m5, m6, m7, m8, m9, m10, m11⟩ := row12 Rm
  go_wp2_with fail
  refine (H3 _).mono ?_
  rintro e w4 ⟨rfl, hb⟩
  have nng := Rg.lt
  have nnd := Rd.lt
  have nne := Re.lt
  have nny := Ry.lt
  have nnm := Rm.lt
  replace Rg := (Rg.alloc _).later hb
  replace Rd := (Rd.alloc _).later hb
  replace Re := (Re.alloc _).later hb
  replace Ry := (Ry.alloc _).later hb
  replace Rm := (Rm.alloc _).later hb
  have Rn := Row.later (Row.new _ _ _) hb
  have mn := hb0.size
  replace hb0 := below_step (hb0.alloc hb0.size _) hb
  clear hb
  generalize w3.heap.size = gn at *
  have lg := Rg.lt
  have ld := Rd.lt
  have le := Re.lt
  have ly := Ry.lt
  have lm := Rm.lt
  have ln := Rn.lt
  (try clear g0 g1 g2 g3 g4 g5 g6); obtain ⟨g0, g1, g2, g3, g4, g5, g6⟩ := row7 Rg
  (try clear d0 d1 d2 d3 d4 d5 d6 d7 d8 d9 d10 d11); obtain ⟨d0, d1, d2, d3, d4, d5, d6, d7, d8, d9, d10, d11⟩ := row12 Rd
  (try clear e0 e1 e2 e3 e4 e5 e6 e7 e8 e9 e10 e11); obtain ⟨e0, e1, e2, e3, e4, e5, e6, e7, e8, e9, e10, e11⟩ := row12 Re
  (try clear y0 y1); obtain ⟨y0, y1⟩ := row2 Ry
  (try clear m0 m1 m2 m3 m4 m5 m6 m7 m8 m9 m10 m11); obtain ⟨m0, m1, m2, m3, m4, m5, m6, m7, m8, m9, m10, m11⟩ := row12 Rm
  (try clear n0 n1 n2 n3 n4 n5 n6 n7 n8 n9 n10 n11); obtain ⟨n0, n1, n2, n3, n4, n5, n6, n7, n8, n9, n10, n11⟩ := row12 Rn
  go_wp2_with fail
  refine (HA _).mono ?_
  rintro e w5 ⟨rfl, hb⟩
  replace Rg := Rg.later hb
  replace Rd := Rd.later hb
  replace Re := Re.later hb
  replace Ry := Ry.later hb
  replace Rm := Rm.later hb
  replace Rn := Rn.later hb
  replace hb0 := below_step hb0 hb
  clear hb
  have lg := Rg.lt
  have ld := Rd.lt
  have le := Re.lt
  have ly := Ry.lt
  have lm := Rm.lt
  have ln := Rn.lt
  (try clear g0 g1 g2 g3 g4 g5 g6); obtain ⟨g0, g1, g2, g3, g4, g5, g6⟩ := row7 Rg
  (try clear d0 d1 d2 d3 d4 d5 d6 d7 d8 d9 d10 d11); obtain ⟨d0, d1, d2, d3, d4, d5, d6, d7, d8, d9, d10, d11⟩ := row12 Rd
  (try clear e0 e1 e2 e3 e4 e5 e6 e7 e8 e9 e10 e11); obtain ⟨e0, e1, e2, e3, e4, e5, e6, e7, e8, e9, e10, e11⟩ := row12 Re
  (try clear y0 y1); obtain ⟨y0, y1⟩ := row2 Ry
  (try clear m0 m1 m2 m3 m4 m5 m6 m7 m8 m9 m10 m11); obtain ⟨m0, m1, m2, m3, m4, m5, m6, m7, m8, m9, m10, m11⟩ := row12 Rm
  (try clear n0 n1 n2 n3 n4 n5 n6 n7 n8 n9 n10 n11); obtain ⟨n0, n1, n2, n3, n4, n5, n6, n7, n8, n9, n10, n11⟩ := row12 Rn
  go_wp2
  go_ret
  exact ⟨rfl, hb0⟩
set_option maxRecDepth 100000 in
set_option maxHeartbeats 32000000 in
theorem one_01c (s : Sp) (p q u v t : Px) (i j hu2 hp2 : Int) (b : Bool)
    (H0 : ∀ w, Calls Try.prog 26 #[sv s, pv p, .agg #[.int .i64 i, .int .i64 j]] w fun e w' => e = .returned (pv pz) ∧ Below w.heap.size w w')
    (H1 : ∀ w, Calls Try.prog 28 #[sv s, pv q, pv p] w fun e w' => e = .returned (.bool false) ∧ Below w.heap.size w w')
    (H2 : ∀ w, Calls Try.prog 20 #[sv s, pv q] w fun e w' => e = .returned (.bool false) ∧ Below w.heap.size w w')
    (H3 : ∀ w, Calls Try.prog 20 #[sv s, pv p] w fun e w' => e = .returned (.bool true) ∧ Below w.heap.size w w')
    (H5 : ∀ w, Calls Try.prog 22 #[sv s] w fun e w' => e = .returned (pv t) ∧ Below w.heap.size w w')
    (g0 : ¬ i < p.a0) (g1 : ¬ j < p.a1) (g2 : t.a0 < i) (w : World) :
    Calls Try.prog 7 #[sv s, pv p, pv q, .int .i64 i, .int .i64 j] w fun e w' => e = .returned (.bool true) ∧ Below w.heap.size w w' := by
  have HA := alive9_t
  have qe := eql_px pz pz
  rw [decide_eq_true rfl] at qe
  have g0' : decide (i < p.a0) = false := decide_eq_false g0
  have g1' : decide (j < p.a1) = false := decide_eq_false g1
  have g2' : decide (t.a0 < i) = true := decide_eq_true g2
  unfold pz kz at *
  unfold sv pv at *
  obtain ⟨Rg, Rd, Re, hb0⟩ := three_rows w #[.int .i64 s.n, .int .i64 s.d0.kind, .int .i64 s.d0.side, .int .i64 s.d0.step, .int .i64 s.d1.kind, .int .i64 s.d1.side, .int .i64 s.d1.step] #[.int .i64 p.a0, .int .i64 p.a1, .int .i64 p.k0.kind, .int .i64 p.k0.len, .int .u64 p.k0.h, .int .u64 p.k0.l, .string ⟨p.k0.path.toArray⟩, .int .i64 p.k1.kind, .int .i64 p.k1.len, .int .u64 p.k1.h, .int .u64 p.k1.l, .string ⟨p.k1.path.toArray⟩] #[.int .i64 q.a0, .int .i64 q.a1, .int .i64 q.k0.kind, .int .i64 q.k0.len, .int .u64 q.k0.h, .int .u64 q.k0.l, .string ⟨q.k0.path.toArray⟩, .int .i64 q.k1.kind, .int .i64 q.k1.len, .int .u64 q.k1.h, .int .u64 q.k1.l, .string ⟨q.k1.path.toArray⟩] 26 33 33
  (try clear g0 g1 g2 g3 g4 g5 g6); obtain ⟨g0, g1, g2, g3, g4, g5, g6⟩ := row7 Rg
  (try clear d0 d1 d2 d3 d4 d5 d6 d7 d8 d9 d10 d11); obtain ⟨d0, d1, d2, d3, d4, d5, d6, d7, d8, d9, d10, d11⟩ := row12 Rd
  (try clear e0 e1 e2 e3 e4 e5 e6 e7 e8 e9 e10 e11); obtain ⟨e0, e1, e2, e3, e4, e5, e6, e7, e8, e9, e10, e11⟩ := row12 Re
  go_enter Try.func7, Try.ntmps7
  go_wp2_with fail
  refine (H0 _).mono ?_
  rintro e w1 ⟨rfl, hb⟩
  replace Rg := (Rg.alloc _).later hb
  replace Rd := (Rd.alloc _).later hb
  replace Re := (Re.alloc _).later hb
  have Ry := Row.later (Row.new _ _ _) hb
  simp only [World.size_alloc] at Ry
  replace hb0 := below_step (hb0.alloc hb0.size _) hb
  clear hb
  have lg := Rg.lt
  have ld := Rd.lt
  have le := Re.lt
  have ly := Ry.lt
  (try clear g0 g1 g2 g3 g4 g5 g6); obtain ⟨g0, g1, g2, g3, g4, g5, g6⟩ := row7 Rg
  (try clear d0 d1 d2 d3 d4 d5 d6 d7 d8 d9 d10 d11); obtain ⟨d0, d1, d2, d3, d4, d5, d6, d7, d8, d9, d10, d11⟩ := row12 Rd
  (try clear e0 e1 e2 e3 e4 e5 e6 e7 e8 e9 e10 e11); obtain ⟨e0, e1, e2, e3, e4, e5, e6, e7, e8, e9, e10, e11⟩ := row12 Re
  (try clear y0 y1); obtain ⟨y0, y1⟩ := row2 Ry
  go_wp2_with fail
  replace Rg := Rg.alloc (.cells #[Value.int .i64 0, Value.int .i64 0, Value.int .i64 0, Value.int .i64 0, Value.int .u64 0, Value.int .u64 0, Value.string ⟨#[]⟩, Value.int .i64 0, Value.int .i64 0, Value.int .u64 0, Value.int .u64 0, Value.string ⟨#[]⟩] 33)
  replace Rd := Rd.alloc (.cells #[Value.int .i64 0, Value.int .i64 0, Value.int .i64 0, Value.int .i64 0, Value.int .u64 0, Value.int .u64 0, Value.string ⟨#[]⟩, Value.int .i64 0, Value.int .i64 0, Value.int .u64 0, Value.int .u64 0, Value.string ⟨#[]⟩] 33)
  replace Re := Re.alloc (.cells #[Value.int .i64 0, Value.int .i64 0, Value.int .i64 0, Value.int .i64 0, Value.int .u64 0, Value.int .u64 0, Value.string ⟨#[]⟩, Value.int .i64 0, Value.int .i64 0, Value.int .u64 0, Value.int .u64 0, Value.string ⟨#[]⟩] 33)
  replace Ry := Ry.alloc (.cells #[Value.int .i64 0, Value.int .i64 0, Value.int .i64 0, Value.int .i64 0, Value.int .u64 0, Value.int .u64 0, Value.string ⟨#[]⟩, Value.int .i64 0, Value.int .i64 0, Value.int .u64 0, Value.int .u64 0, Value.string ⟨#[]⟩] 33)
  have Rm := Row.new w1 #[Value.int .i64 0, Value.int .i64 0, Value.int .i64 0, Value.int .i64 0, Value.int .u64 0, Value.int .u64 0, Value.string ⟨#[]⟩, Value.int .i64 0, Value.int .i64 0, Value.int .u64 0, Value.int .u64 0, Value.string ⟨#[]⟩] 33
  have mm := hb0.size
  replace hb0 := hb0.alloc hb0.size (.cells #[Value.int .i64 0, Value.int .i64 0, Value.int .i64 0, Value.int .i64 0, Value.int .u64 0, Value.int .u64 0, Value.string ⟨#[]⟩, Value.int .i64 0, Value.int .i64 0, Value.int .u64 0, Value.int .u64 0, Value.string ⟨#[]⟩] 33)
  (try clear g0 g1 g2 g3 g4 g5 g6); obtain ⟨g0, g1, g2, g3, g4, g5, g6⟩ := row7 Rg
  (try clear d0 d1 d2 d3 d4 d5 d6 d7 d8 d9 d10 d11); obtain ⟨d0, d1, d2, d3, d4, d5, d6, d7, d8, d9, d10, d11⟩ := row12 Rd
  (try clear e0 e1 e2 e3 e4 e5 e6 e7 e8 e9 e10 e11); obtain ⟨e0, e1, e2, e3, e4, e5, e6, e7, e8, e9, e10, e11⟩ := row12 Re
  (try clear y0 y1); obtain ⟨y0, y1⟩ := row2 Ry
  (try clear m0 m1 m2 m3 m4 m5 m6 m7 m8 m9 m10 m11); obtain ⟨m0, m1, m2, m3, m4, m5, m6, m7, m8, m9, m10, m11⟩ := row12 Rm
  refine wp_region_held_drew (S := (fun w' => w'.cell? ⟨w.heap.size + 1 + 1, 0, none⟩ = some (Value.int .i64 q.a0) ∧ w'.cell? ⟨w.heap.size + 1 + 1, 1, none⟩ = some (Value.int .i64 q.a1) ∧ Row w' w.heap.size #[.int .i64 s.n, .int .i64 s.d0.kind, .int .i64 s.d0.side, .int .i64 s.d0.step, .int .i64 s.d1.kind, .int .i64 s.d1.side, .int .i64 s.d1.step] 26 ∧ Row w' (w.heap.size + 1) #[.int .i64 p.a0, .int .i64 p.a1, .int .i64 p.k0.kind, .int .i64 p.k0.len, .int .u64 p.k0.h, .int .u64 p.k0.l, .string ⟨p.k0.path.toArray⟩, .int .i64 p.k1.kind, .int .i64 p.k1.len, .int .u64 p.k1.h, .int .u64 p.k1.l, .string ⟨p.k1.path.toArray⟩] 33 ∧ Row w' (w.heap.size + 1 + 1) #[.int .i64 q.a0, .int .i64 q.a1, .int .i64 q.k0.kind, .int .i64 q.k0.len, .int .u64 q.k0.h, .int .u64 q.k0.l, .string ⟨q.k0.path.toArray⟩, .int .i64 q.k1.kind, .int .i64 q.k1.len, .int .u64 q.k1.h, .int .u64 q.k1.l, .string ⟨q.k1.path.toArray⟩] 33)) (by kernel_rfl) ?hSr103_ (fun hHeld => ?_)
  case hSr103_ => (exact ⟨e0, e1, Rg.drew, Rd.drew, Re.drew⟩)
  (clear g0 g1 g2 g3 g4 g5 g6 d0 d1 d2 d3 d4 d5 d6 d7 d8 d9 d10 d11 e0 e1 e2 e3 e4 e5 e6 e7 e8 e9 e10 e11 y0 y1 m0 m1 m2 m3 m4 m5 m6 m7 m8 m9 m10 m11; (replace Rg := Rg.drew); (replace Rd := Rd.drew); (replace Re := Re.drew); (replace Ry := Ry.drew); (replace Rm := Rm.drew); (replace hb0 := hb0.drew); (generalize World.drew (World.alloc w1 (.cells #[Value.int .i64 0, Value.int .i64 0, Value.int .i64 0, Value.int .i64 0, Value.int .u64 0, Value.int .u64 0, Value.string ⟨#[]⟩, Value.int .i64 0, Value.int .i64 0, Value.int .u64 0, Value.int .u64 0, Value.string ⟨#[]⟩] 33)) = wq at *))
  refine tk 0 ⟨some 21, .load 26 (.tmp 5), 26, _, _, _⟩ hHeld ?_ (v := ?vr103_1_0) (hy := ?yr103_1_0)
  case yr103_1_0 => (intro wy hSw; obtain ⟨e0, e1, Qg, Qd, Qe⟩ := hSw; (with_reducible refine pexec_load 26 (.tmp 5) ?_ w.heap.size ?_ 26 #[.int .i64 s.n, .int .i64 s.d0.kind, .int .i64 s.d0.side, .int .i64 s.d0.step, .int .i64 s.d1.kind, .int .i64 s.d1.side, .int .i64 s.d1.step] _ Qg Try.underlying26 ?_ ?_) <;> first | rfl | exact infoSp)
  (try simp only [Act.put, nz1, nz2, nz3])
  refine tk 1 ⟨some 22, .load 33 (.tmp 7), 33, _, _, _⟩ hHeld ?_ (v := ?vr103_2_1) (hy := ?yr103_2_1)
  case yr103_2_1 => (intro wy hSw; obtain ⟨e0, e1, Qg, Qd, Qe⟩ := hSw; (with_reducible refine pexec_load 33 (.tmp 7) ?_ (w.heap.size + 1 + 1) ?_ 33 #[.int .i64 q.a0, .int .i64 q.a1, .int .i64 q.k0.kind, .int .i64 q.k0.len, .int .u64 q.k0.h, .int .u64 q.k0.l, .string ⟨q.k0.path.toArray⟩, .int .i64 q.k1.kind, .int .i64 q.k1.len, .int .u64 q.k1.h, .int .u64 q.k1.l, .string ⟨q.k1.path.toArray⟩] _ Qe Try.underlying33 ?_ ?_) <;> first | rfl | exact infoPx)
  (try simp only [Act.put, nz1, nz2, nz3])
  refine tk 2 ⟨some 23, .load 33 (.tmp 6), 33, _, _, _⟩ hHeld ?_ (v := ?vr103_3_2) (hy := ?yr103_3_2)
  case yr103_3_2 => (intro wy hSw; obtain ⟨e0, e1, Qg, Qd, Qe⟩ := hSw; (with_reducible refine pexec_load 33 (.tmp 6) ?_ (w.heap.size + 1) ?_ 33 #[.int .i64 p.a0, .int .i64 p.a1, .int .i64 p.k0.kind, .int .i64 p.k0.len, .int .u64 p.k0.h, .int .u64 p.k0.l, .string ⟨p.k0.path.toArray⟩, .int .i64 p.k1.kind, .int .i64 p.k1.len, .int .u64 p.k1.h, .int .u64 p.k1.l, .string ⟨p.k1.path.toArray⟩] _ Qd Try.underlying33 ?_ ?_) <;> first | rfl | exact infoPx)
  (try simp only [Act.put, nz1, nz2, nz3])
  refine tk 4 ⟨some 25, .load 26 (.tmp 5), 26, _, _, _⟩ hHeld ?_ (v := ?vr103_4_4) (hy := ?yr103_4_4)
  case yr103_4_4 => (intro wy hSw; obtain ⟨e0, e1, Qg, Qd, Qe⟩ := hSw; (with_reducible refine pexec_load 26 (.tmp 5) ?_ w.heap.size ?_ 26 #[.int .i64 s.n, .int .i64 s.d0.kind, .int .i64 s.d0.side, .int .i64 s.d0.step, .int .i64 s.d1.kind, .int .i64 s.d1.side, .int .i64 s.d1.step] _ Qg Try.underlying26 ?_ ?_) <;> first | rfl | exact infoSp)
  (try simp only [Act.put, nz1, nz2, nz3])
  refine tk 5 ⟨some 26, .load 33 (.tmp 7), 33, _, _, _⟩ hHeld ?_ (v := ?vr103_5_5) (hy := ?yr103_5_5)
  case yr103_5_5 => (intro wy hSw; obtain ⟨e0, e1, Qg, Qd, Qe⟩ := hSw; (with_reducible refine pexec_load 33 (.tmp 7) ?_ (w.heap.size + 1 + 1) ?_ 33 #[.int .i64 q.a0, .int .i64 q.a1, .int .i64 q.k0.kind, .int .i64 q.k0.len, .int .u64 q.k0.h, .int .u64 q.k0.l, .string ⟨q.k0.path.toArray⟩, .int .i64 q.k1.kind, .int .i64 q.k1.len, .int .u64 q.k1.h, .int .u64 q.k1.l, .string ⟨q.k1.path.toArray⟩] _ Qe Try.underlying33 ?_ ?_) <;> first | rfl | exact infoPx)
  (try simp only [Act.put, nz1, nz2, nz3])
  refine wpAnyH_ready (rs := [3]) (by kernel_rfl) (by simp) ?_
  refine AllReadyH.cons (o := ⟨some 24, .call { callee := .value (.func 28), args := #[.tmp 21, .tmp 22, .tmp 23], argTypes := #[26, 33, 33] }, 4, _, _, _⟩) rfl (fun K hK => ?_) AllReadyH.nil
  (go_simp; (refine (H1 _).mono ?_); (rintro e wz ⟨rfl, hb⟩); (replace Rg := Rg.later hb); (replace Rd := Rd.later hb); (replace Re := Re.later hb); (replace Ry := Ry.later hb); (replace Rm := Rm.later hb); (replace hb0 := below_step hb0 hb); go_wp2_with fail)
  refine hK.out _ _ ?hSr103_6_3 (fun hHeld2 => ?_)
  case hSr103_6_3 => (obtain ⟨e0, e1, Qg, Qd, Qe⟩ := hHeld; exact ⟨cell_later hb e0, cell_later hb e1, Qg.later hb, Qd.later hb, Qe.later hb⟩)
  clear hK K hHeld
  have hHeld := hHeld2
  clear hHeld2
  rename World => wq
  (try simp only [Act.put, nz1, nz2, nz3])
  refine wpAnyH_ready (rs := [6]) (by kernel_rfl) (by simp) ?_
  refine AllReadyH.cons (o := ⟨some 27, .call { callee := .value (.func 20), args := #[.tmp 25, .tmp 26], argTypes := #[26, 33] }, 4, _, _, _⟩) rfl (fun K hK => ?_) AllReadyH.nil
  (go_simp; (refine (H2 _).mono ?_); (rintro e wz ⟨rfl, hb⟩); (replace Rg := Rg.later hb); (replace Rd := Rd.later hb); (replace Re := Re.later hb); (replace Ry := Ry.later hb); (replace Rm := Rm.later hb); (replace hb0 := below_step hb0 hb); go_wp2_with fail)
  refine hK.out _ _ ?hSr103_7_6 (fun hHeld2 => ?_)
  case hSr103_7_6 => (obtain ⟨e0, e1, Qg, Qd, Qe⟩ := hHeld; exact ⟨cell_later hb e0, cell_later hb e1, Qg.later hb, Qd.later hb, Qe.later hb⟩)
  clear hK K hHeld
  have hHeld := hHeld2
  clear hHeld2
  rename World => wq
  (try simp only [Act.put, nz1, nz2, nz3])
  refine tk 7 ⟨some 28, .move (.tmp 27), 4, _, _, _⟩ hHeld ?_
  (try simp only [Act.put, nz1, nz2, nz3])
  refine ts 8 ⟨some 29, .load 26 (.tmp 5), 26, _, _, _⟩ hHeld ?_
  (try simp only [Act.put, nz1, nz2, nz3])
  refine ts 9 ⟨some 30, .load 33 (.tmp 6), 33, _, _, _⟩ hHeld ?_
  (try simp only [Act.put, nz1, nz2, nz3])
  refine ts 10 ⟨some 31, .call { callee := .value (.func 20), args := #[.tmp 29, .tmp 30], argTypes := #[26, 33] }, 4, _, _, _⟩ hHeld ?_
  (try simp only [Act.put, nz1, nz2, nz3])
  refine tk 11 ⟨some 32, .pick (.tmp 28) (.tmp 31) (.const (.bool false)), 4, _, _, _⟩ hHeld ?_
  (try simp only [Act.put, nz1, nz2, nz3])
  refine tk 12 ⟨some 33, .move (.tmp 32), 4, _, _, _⟩ hHeld ?_
  (try simp only [Act.put, nz1, nz2, nz3])
  refine ts 13 ⟨some 34, .load 26 (.tmp 5), 26, _, _, _⟩ hHeld ?_
  (try simp only [Act.put, nz1, nz2, nz3])
  refine ts 14 ⟨some 35, .load 33 (.tmp 6), 33, _, _, _⟩ hHeld ?_
  (try simp only [Act.put, nz1, nz2, nz3])
  refine ts 15 ⟨some 36, .fieldAddr 33 (.tmp 7) 0, 0, _, _, _⟩ hHeld ?_
  (try simp only [Act.put, nz1, nz2, nz3])
  refine ts 16 ⟨some 37, .load 27 (.tmp 36), 27, _, _, _⟩ hHeld ?_
  (try simp only [Act.put, nz1, nz2, nz3])
  refine ts 17 ⟨some 38, .call { callee := .value (.func 26), args := #[.tmp 34, .tmp 35, .tmp 37], argTypes := #[26, 33, 27] }, 33, _, _, _⟩ hHeld ?_
  (try simp only [Act.put, nz1, nz2, nz3])
  refine ts 18 ⟨some 39, .load 33 (.tmp 7), 33, _, _, _⟩ hHeld ?_
  (try simp only [Act.put, nz1, nz2, nz3])
  refine ts 19 ⟨some 40, .binOp .eql 33 (.tmp 38) (.tmp 39) 33, 4, _, _, _⟩ hHeld ?_
  (try simp only [Act.put, nz1, nz2, nz3])
  refine tk 20 ⟨some 41, .pick (.tmp 33) (.tmp 40) (.const (.bool false)), 4, _, _, _⟩ hHeld ?_
  (try simp only [Act.put, nz1, nz2, nz3])
  refine tk 21 ⟨some 42, .binOp .neq 4 (.tmp 24) (.tmp 41) 4, 4, _, _, _⟩ hHeld ?_
  (try simp only [Act.put, nz1, nz2, nz3])
  refine wpAnyH_done (by kernel_rfl) ?_ _
  clear hHeld
  rename World => w2
  have lg := Rg.lt
  have ld := Rd.lt
  have le := Re.lt
  have ly := Ry.lt
  have lm := Rm.lt
  (try clear g0 g1 g2 g3 g4 g5 g6); obtain ⟨g0, g1, g2, g3, g4, g5, g6⟩ := row7 Rg
  (try clear d0 d1 d2 d3 d4 d5 d6 d7 d8 d9 d10 d11); obtain ⟨d0, d1, d2, d3, d4, d5, d6, d7, d8, d9, d10, d11⟩ := row12 Rd
  (try clear e0 e1 e2 e3 e4 e5 e6 e7 e8 e9 e10 e11); obtain ⟨e0, e1, e2, e3, e4, e5, e6, e7, e8, e9, e10, e11⟩ := row12 Re
  (try clear y0 y1); obtain ⟨y0, y1⟩ := row2 Ry
  (try clear m0 m1 m2 m3 m4 m5 m6 m7 m8 m9 m10 m11); obtain ⟨m0, m1, m2, m3, m4, m5, m6, m7, m8, m9, m10, m11⟩ := row12 Rm
  go_wp2_with fail
  refine (H5 _).mono ?_
  rintro e w3 ⟨rfl, hb⟩
  replace Rg := Rg.later hb
  replace Rd := Rd.later hb
  replace Re := Re.later hb
  replace Ry := Ry.later hb
  replace Rm := Rm.later hb
  replace hb0 := below_step hb0 hb
  clear hb
  have lg := Rg.lt
  have ld := Rd.lt
  have le := Re.lt
  have ly := Ry.lt
  have lm := Rm.lt
  (try clear g0 g1 g2 g3 g4 g5 g6); obtain ⟨g0, g1, g2, g3, g4, g5, g6⟩ := row7 Rg
  (try clear d0 d1 d2 d3 d4 d5 d6 d7 d8 d9 d10 d11); obtain ⟨d0, d1, d2, d3, d4, d5, d6, d7, d8, d9, d10, d11⟩ := row12 Rd
  (try clear e0 e1 e2 e3 e4 e5 e6 e7 e8 e9 e10 e11); obtain ⟨e0, e1, e2, e3, e4, e5, e6, e7, e8, e9, e10, e11⟩ := row12 Re
  (try clear y0 y1); obtain ⟨y0, y1⟩ := row2 Ry
  (try clear m0 m1 m2 m3 m4 m5 m6 m7 m8 m9 m10 m11); obtain ⟨m0, m1, m2, m3, m4, m5, m6, m7, m8, m9, m10, m11⟩ := row12 Rm
  go_wp2_with fail
  refine (H3 _).mono ?_
  rintro e w4 ⟨rfl, hb⟩
  have nng := Rg.lt
  have nnd := Rd.lt
  have nne := Re.lt
  have nny := Ry.lt
  have nnm := Rm.lt
  replace Rg := (Rg.alloc _).later hb
  replace Rd := (Rd.alloc _).later hb
  replace Re := (Re.alloc _).later hb
  replace Ry := (Ry.alloc _).later hb
  replace Rm := (Rm.alloc _).later hb
  have Rn := Row.later (Row.new _ _ _) hb
  have mn := hb0.size
  replace hb0 := below_step (hb0.alloc hb0.size _) hb
  clear hb
  generalize w3.heap.size = gn at *
  have lg := Rg.lt
  have ld := Rd.lt
  have le := Re.lt
  have ly := Ry.lt
  have lm := Rm.lt
  have ln := Rn.lt
  (try clear g0 g1 g2 g3 g4 g5 g6); obtain ⟨g0, g1, g2, g3, g4, g5, g6⟩ := row7 Rg
  (try clear d0 d1 d2 d3 d4 d5 d6 d7 d8 d9 d10 d11); obtain ⟨d0, d1, d2, d3, d4, d5, d6, d7, d8, d9, d10, d11⟩ := row12 Rd
  (try clear e0 e1 e2 e3 e4 e5 e6 e7 e8 e9 e10 e11); obtain ⟨e0, e1, e2, e3, e4, e5, e6, e7, e8, e9, e10, e11⟩ := row12 Re
  (try clear y0 y1); obtain ⟨y0, y1⟩ := row2 Ry
  (try clear m0 m1 m2 m3 m4 m5 m6 m7 m8 m9 m10 m11); obtain ⟨m0, m1, m2, m3, m4, m5, m6, m7, m8, m9, m10, m11⟩ := row12 Rm
  (try clear n0 n1 n2 n3 n4 n5 n6 n7 n8 n9 n10 n11); obtain ⟨n0, n1, n2, n3, n4, n5, n6, n7, n8, n9, n10, n11⟩ := row12 Rn
  go_wp2_with fail
  refine (HA _).mono ?_
  rintro e w5 ⟨rfl, hb⟩
  replace Rg := Rg.later hb
  replace Rd := Rd.later hb
  replace Re := Re.later hb
  replace Ry := Ry.later hb
  replace Rm := Rm.later hb
  replace Rn := Rn.later hb
  replace hb0 := below_step hb0 hb
  clear hb
  have lg := Rg.lt
  have ld := Rd.lt
  have le := Re.lt
  have ly := Ry.lt
  have lm := Rm.lt
  have ln := Rn.lt
  (try clear g0 g1 g2 g3 g4 g5 g6); obtain ⟨g0, g1, g2, g3, g4, g5, g6⟩ := row7 Rg
  (try clear d0 d1 d2 d3 d4 d5 d6 d7 d8 d9 d10 d11); obtain ⟨d0, d1, d2, d3, d4, d5, d6, d7, d8, d9, d10, d11⟩ := row12 Rd
  (try clear e0 e1 e2 e3 e4 e5 e6 e7 e8 e9 e10 e11); obtain ⟨e0, e1, e2, e3, e4, e5, e6, e7, e8, e9, e10, e11⟩ := row12 Re
  (try clear y0 y1); obtain ⟨y0, y1⟩ := row2 Ry
  (try clear m0 m1 m2 m3 m4 m5 m6 m7 m8 m9 m10 m11); obtain ⟨m0, m1, m2, m3, m4, m5, m6, m7, m8, m9, m10, m11⟩ := row12 Rm
  (try clear n0 n1 n2 n3 n4 n5 n6 n7 n8 n9 n10 n11); obtain ⟨n0, n1, n2, n3, n4, n5, n6, n7, n8, n9, n10, n11⟩ := row12 Rn
  go_wp2
  go_ret
  exact ⟨rfl, hb0⟩
set_option maxRecDepth 100000 in
set_option maxHeartbeats 32000000 in
theorem one_01d (s : Sp) (p q u v t : Px) (i j hu2 hp2 : Int) (b : Bool)
    (H0 : ∀ w, Calls Try.prog 26 #[sv s, pv p, .agg #[.int .i64 i, .int .i64 j]] w fun e w' => e = .returned (pv pz) ∧ Below w.heap.size w w')
    (H1 : ∀ w, Calls Try.prog 28 #[sv s, pv q, pv p] w fun e w' => e = .returned (.bool false) ∧ Below w.heap.size w w')
    (H2 : ∀ w, Calls Try.prog 20 #[sv s, pv q] w fun e w' => e = .returned (.bool false) ∧ Below w.heap.size w w')
    (H3 : ∀ w, Calls Try.prog 20 #[sv s, pv p] w fun e w' => e = .returned (.bool true) ∧ Below w.heap.size w w')
    (H5 : ∀ w, Calls Try.prog 22 #[sv s] w fun e w' => e = .returned (pv t) ∧ Below w.heap.size w w')
    (g0 : ¬ i < p.a0) (g1 : ¬ j < p.a1) (g2 : ¬ t.a0 < i) (g3 : t.a1 < j) (w : World) :
    Calls Try.prog 7 #[sv s, pv p, pv q, .int .i64 i, .int .i64 j] w fun e w' => e = .returned (.bool true) ∧ Below w.heap.size w w' := by
  have HA := alive9_t
  have qe := eql_px pz pz
  rw [decide_eq_true rfl] at qe
  have g0' : decide (i < p.a0) = false := decide_eq_false g0
  have g1' : decide (j < p.a1) = false := decide_eq_false g1
  have g2' : decide (t.a0 < i) = false := decide_eq_false g2
  have g3' : decide (t.a1 < j) = true := decide_eq_true g3
  unfold pz kz at *
  unfold sv pv at *
  obtain ⟨Rg, Rd, Re, hb0⟩ := three_rows w #[.int .i64 s.n, .int .i64 s.d0.kind, .int .i64 s.d0.side, .int .i64 s.d0.step, .int .i64 s.d1.kind, .int .i64 s.d1.side, .int .i64 s.d1.step] #[.int .i64 p.a0, .int .i64 p.a1, .int .i64 p.k0.kind, .int .i64 p.k0.len, .int .u64 p.k0.h, .int .u64 p.k0.l, .string ⟨p.k0.path.toArray⟩, .int .i64 p.k1.kind, .int .i64 p.k1.len, .int .u64 p.k1.h, .int .u64 p.k1.l, .string ⟨p.k1.path.toArray⟩] #[.int .i64 q.a0, .int .i64 q.a1, .int .i64 q.k0.kind, .int .i64 q.k0.len, .int .u64 q.k0.h, .int .u64 q.k0.l, .string ⟨q.k0.path.toArray⟩, .int .i64 q.k1.kind, .int .i64 q.k1.len, .int .u64 q.k1.h, .int .u64 q.k1.l, .string ⟨q.k1.path.toArray⟩] 26 33 33
  (try clear g0 g1 g2 g3 g4 g5 g6); obtain ⟨g0, g1, g2, g3, g4, g5, g6⟩ := row7 Rg
  (try clear d0 d1 d2 d3 d4 d5 d6 d7 d8 d9 d10 d11); obtain ⟨d0, d1, d2, d3, d4, d5, d6, d7, d8, d9, d10, d11⟩ := row12 Rd
  (try clear e0 e1 e2 e3 e4 e5 e6 e7 e8 e9 e10 e11); obtain ⟨e0, e1, e2, e3, e4, e5, e6, e7, e8, e9, e10, e11⟩ := row12 Re
  go_enter Try.func7, Try.ntmps7
  go_wp2_with fail
  refine (H0 _).mono ?_
  rintro e w1 ⟨rfl, hb⟩
  replace Rg := (Rg.alloc _).later hb
  replace Rd := (Rd.alloc _).later hb
  replace Re := (Re.alloc _).later hb
  have Ry := Row.later (Row.new _ _ _) hb
  simp only [World.size_alloc] at Ry
  replace hb0 := below_step (hb0.alloc hb0.size _) hb
  clear hb
  have lg := Rg.lt
  have ld := Rd.lt
  have le := Re.lt
  have ly := Ry.lt
  (try clear g0 g1 g2 g3 g4 g5 g6); obtain ⟨g0, g1, g2, g3, g4, g5, g6⟩ := row7 Rg
  (try clear d0 d1 d2 d3 d4 d5 d6 d7 d8 d9 d10 d11); obtain ⟨d0, d1, d2, d3, d4, d5, d6, d7, d8, d9, d10, d11⟩ := row12 Rd
  (try clear e0 e1 e2 e3 e4 e5 e6 e7 e8 e9 e10 e11); obtain ⟨e0, e1, e2, e3, e4, e5, e6, e7, e8, e9, e10, e11⟩ := row12 Re
  (try clear y0 y1); obtain ⟨y0, y1⟩ := row2 Ry
  go_wp2_with fail
  replace Rg := Rg.alloc (.cells #[Value.int .i64 0, Value.int .i64 0, Value.int .i64 0, Value.int .i64 0, Value.int .u64 0, Value.int .u64 0, Value.string ⟨#[]⟩, Value.int .i64 0, Value.int .i64 0, Value.int .u64 0, Value.int .u64 0, Value.string ⟨#[]⟩] 33)
  replace Rd := Rd.alloc (.cells #[Value.int .i64 0, Value.int .i64 0, Value.int .i64 0, Value.int .i64 0, Value.int .u64 0, Value.int .u64 0, Value.string ⟨#[]⟩, Value.int .i64 0, Value.int .i64 0, Value.int .u64 0, Value.int .u64 0, Value.string ⟨#[]⟩] 33)
  replace Re := Re.alloc (.cells #[Value.int .i64 0, Value.int .i64 0, Value.int .i64 0, Value.int .i64 0, Value.int .u64 0, Value.int .u64 0, Value.string ⟨#[]⟩, Value.int .i64 0, Value.int .i64 0, Value.int .u64 0, Value.int .u64 0, Value.string ⟨#[]⟩] 33)
  replace Ry := Ry.alloc (.cells #[Value.int .i64 0, Value.int .i64 0, Value.int .i64 0, Value.int .i64 0, Value.int .u64 0, Value.int .u64 0, Value.string ⟨#[]⟩, Value.int .i64 0, Value.int .i64 0, Value.int .u64 0, Value.int .u64 0, Value.string ⟨#[]⟩] 33)
  have Rm := Row.new w1 #[Value.int .i64 0, Value.int .i64 0, Value.int .i64 0, Value.int .i64 0, Value.int .u64 0, Value.int .u64 0, Value.string ⟨#[]⟩, Value.int .i64 0, Value.int .i64 0, Value.int .u64 0, Value.int .u64 0, Value.string ⟨#[]⟩] 33
  have mm := hb0.size
  replace hb0 := hb0.alloc hb0.size (.cells #[Value.int .i64 0, Value.int .i64 0, Value.int .i64 0, Value.int .i64 0, Value.int .u64 0, Value.int .u64 0, Value.string ⟨#[]⟩, Value.int .i64 0, Value.int .i64 0, Value.int .u64 0, Value.int .u64 0, Value.string ⟨#[]⟩] 33)
  (try clear g0 g1 g2 g3 g4 g5 g6); obtain ⟨g0, g1, g2, g3, g4, g5, g6⟩ := row7 Rg
  (try clear d0 d1 d2 d3 d4 d5 d6 d7 d8 d9 d10 d11); obtain ⟨d0, d1, d2, d3, d4, d5, d6, d7, d8, d9, d10, d11⟩ := row12 Rd
  (try clear e0 e1 e2 e3 e4 e5 e6 e7 e8 e9 e10 e11); obtain ⟨e0, e1, e2, e3, e4, e5, e6, e7, e8, e9, e10, e11⟩ := row12 Re
  (try clear y0 y1); obtain ⟨y0, y1⟩ := row2 Ry
  (try clear m0 m1 m2 m3 m4 m5 m6 m7 m8 m9 m10 m11); obtain ⟨m0, m1, m2, m3, m4, m5, m6, m7, m8, m9, m10, m11⟩ := row12 Rm
  refine wp_region_held_drew (S := (fun w' => w'.cell? ⟨w.heap.size + 1 + 1, 0, none⟩ = some (Value.int .i64 q.a0) ∧ w'.cell? ⟨w.heap.size + 1 + 1, 1, none⟩ = some (Value.int .i64 q.a1) ∧ Row w' w.heap.size #[.int .i64 s.n, .int .i64 s.d0.kind, .int .i64 s.d0.side, .int .i64 s.d0.step, .int .i64 s.d1.kind, .int .i64 s.d1.side, .int .i64 s.d1.step] 26 ∧ Row w' (w.heap.size + 1) #[.int .i64 p.a0, .int .i64 p.a1, .int .i64 p.k0.kind, .int .i64 p.k0.len, .int .u64 p.k0.h, .int .u64 p.k0.l, .string ⟨p.k0.path.toArray⟩, .int .i64 p.k1.kind, .int .i64 p.k1.len, .int .u64 p.k1.h, .int .u64 p.k1.l, .string ⟨p.k1.path.toArray⟩] 33 ∧ Row w' (w.heap.size + 1 + 1) #[.int .i64 q.a0, .int .i64 q.a1, .int .i64 q.k0.kind, .int .i64 q.k0.len, .int .u64 q.k0.h, .int .u64 q.k0.l, .string ⟨q.k0.path.toArray⟩, .int .i64 q.k1.kind, .int .i64 q.k1.len, .int .u64 q.k1.h, .int .u64 q.k1.l, .string ⟨q.k1.path.toArray⟩] 33)) (by kernel_rfl) ?hSr104_ (fun hHeld => ?_)
  case hSr104_ => (exact ⟨e0, e1, Rg.drew, Rd.drew, Re.drew⟩)
  (clear g0 g1 g2 g3 g4 g5 g6 d0 d1 d2 d3 d4 d5 d6 d7 d8 d9 d10 d11 e0 e1 e2 e3 e4 e5 e6 e7 e8 e9 e10 e11 y0 y1 m0 m1 m2 m3 m4 m5 m6 m7 m8 m9 m10 m11; (replace Rg := Rg.drew); (replace Rd := Rd.drew); (replace Re := Re.drew); (replace Ry := Ry.drew); (replace Rm := Rm.drew); (replace hb0 := hb0.drew); (generalize World.drew (World.alloc w1 (.cells #[Value.int .i64 0, Value.int .i64 0, Value.int .i64 0, Value.int .i64 0, Value.int .u64 0, Value.int .u64 0, Value.string ⟨#[]⟩, Value.int .i64 0, Value.int .i64 0, Value.int .u64 0, Value.int .u64 0, Value.string ⟨#[]⟩] 33)) = wq at *))
  refine tk 0 ⟨some 21, .load 26 (.tmp 5), 26, _, _, _⟩ hHeld ?_ (v := ?vr104_1_0) (hy := ?yr104_1_0)
  case yr104_1_0 => (intro wy hSw; obtain ⟨e0, e1, Qg, Qd, Qe⟩ := hSw; (with_reducible refine pexec_load 26 (.tmp 5) ?_ w.heap.size ?_ 26 #[.int .i64 s.n, .int .i64 s.d0.kind, .int .i64 s.d0.side, .int .i64 s.d0.step, .int .i64 s.d1.kind, .int .i64 s.d1.side, .int .i64 s.d1.step] _ Qg Try.underlying26 ?_ ?_) <;> first | rfl | exact infoSp)
  (try simp only [Act.put, nz1, nz2, nz3])
  refine tk 1 ⟨some 22, .load 33 (.tmp 7), 33, _, _, _⟩ hHeld ?_ (v := ?vr104_2_1) (hy := ?yr104_2_1)
  case yr104_2_1 => (intro wy hSw; obtain ⟨e0, e1, Qg, Qd, Qe⟩ := hSw; (with_reducible refine pexec_load 33 (.tmp 7) ?_ (w.heap.size + 1 + 1) ?_ 33 #[.int .i64 q.a0, .int .i64 q.a1, .int .i64 q.k0.kind, .int .i64 q.k0.len, .int .u64 q.k0.h, .int .u64 q.k0.l, .string ⟨q.k0.path.toArray⟩, .int .i64 q.k1.kind, .int .i64 q.k1.len, .int .u64 q.k1.h, .int .u64 q.k1.l, .string ⟨q.k1.path.toArray⟩] _ Qe Try.underlying33 ?_ ?_) <;> first | rfl | exact infoPx)
  (try simp only [Act.put, nz1, nz2, nz3])
  refine tk 2 ⟨some 23, .load 33 (.tmp 6), 33, _, _, _⟩ hHeld ?_ (v := ?vr104_3_2) (hy := ?yr104_3_2)
  case yr104_3_2 => (intro wy hSw; obtain ⟨e0, e1, Qg, Qd, Qe⟩ := hSw; (with_reducible refine pexec_load 33 (.tmp 6) ?_ (w.heap.size + 1) ?_ 33 #[.int .i64 p.a0, .int .i64 p.a1, .int .i64 p.k0.kind, .int .i64 p.k0.len, .int .u64 p.k0.h, .int .u64 p.k0.l, .string ⟨p.k0.path.toArray⟩, .int .i64 p.k1.kind, .int .i64 p.k1.len, .int .u64 p.k1.h, .int .u64 p.k1.l, .string ⟨p.k1.path.toArray⟩] _ Qd Try.underlying33 ?_ ?_) <;> first | rfl | exact infoPx)
  (try simp only [Act.put, nz1, nz2, nz3])
  refine tk 4 ⟨some 25, .load 26 (.tmp 5), 26, _, _, _⟩ hHeld ?_ (v := ?vr104_4_4) (hy := ?yr104_4_4)
  case yr104_4_4 => (intro wy hSw; obtain ⟨e0, e1, Qg, Qd, Qe⟩ := hSw; (with_reducible refine pexec_load 26 (.tmp 5) ?_ w.heap.size ?_ 26 #[.int .i64 s.n, .int .i64 s.d0.kind, .int .i64 s.d0.side, .int .i64 s.d0.step, .int .i64 s.d1.kind, .int .i64 s.d1.side, .int .i64 s.d1.step] _ Qg Try.underlying26 ?_ ?_) <;> first | rfl | exact infoSp)
  (try simp only [Act.put, nz1, nz2, nz3])
  refine tk 5 ⟨some 26, .load 33 (.tmp 7), 33, _, _, _⟩ hHeld ?_ (v := ?vr104_5_5) (hy := ?yr104_5_5)
  case yr104_5_5 => (intro wy hSw; obtain ⟨e0, e1, Qg, Qd, Qe⟩ := hSw; (with_reducible refine pexec_load 33 (.tmp 7) ?_ (w.heap.size + 1 + 1) ?_ 33 #[.int .i64 q.a0, .int .i64 q.a1, .int .i64 q.k0.kind, .int .i64 q.k0.len, .int .u64 q.k0.h, .int .u64 q.k0.l, .string ⟨q.k0.path.toArray⟩, .int .i64 q.k1.kind, .int .i64 q.k1.len, .int .u64 q.k1.h, .int .u64 q.k1.l, .string ⟨q.k1.path.toArray⟩] _ Qe Try.underlying33 ?_ ?_) <;> first | rfl | exact infoPx)
  (try simp only [Act.put, nz1, nz2, nz3])
  refine wpAnyH_ready (rs := [3]) (by kernel_rfl) (by simp) ?_
  refine AllReadyH.cons (o := ⟨some 24, .call { callee := .value (.func 28), args := #[.tmp 21, .tmp 22, .tmp 23], argTypes := #[26, 33, 33] }, 4, _, _, _⟩) rfl (fun K hK => ?_) AllReadyH.nil
  (go_simp; (refine (H1 _).mono ?_); (rintro e wz ⟨rfl, hb⟩); (replace Rg := Rg.later hb); (replace Rd := Rd.later hb); (replace Re := Re.later hb); (replace Ry := Ry.later hb); (replace Rm := Rm.later hb); (replace hb0 := below_step hb0 hb); go_wp2_with fail)
  refine hK.out _ _ ?hSr104_6_3 (fun hHeld2 => ?_)
  case hSr104_6_3 => (obtain ⟨e0, e1, Qg, Qd, Qe⟩ := hHeld; exact ⟨cell_later hb e0, cell_later hb e1, Qg.later hb, Qd.later hb, Qe.later hb⟩)
  clear hK K hHeld
  have hHeld := hHeld2
  clear hHeld2
  rename World => wq
  (try simp only [Act.put, nz1, nz2, nz3])
  refine wpAnyH_ready (rs := [6]) (by kernel_rfl) (by simp) ?_
  refine AllReadyH.cons (o := ⟨some 27, .call { callee := .value (.func 20), args := #[.tmp 25, .tmp 26], argTypes := #[26, 33] }, 4, _, _, _⟩) rfl (fun K hK => ?_) AllReadyH.nil
  (go_simp; (refine (H2 _).mono ?_); (rintro e wz ⟨rfl, hb⟩); (replace Rg := Rg.later hb); (replace Rd := Rd.later hb); (replace Re := Re.later hb); (replace Ry := Ry.later hb); (replace Rm := Rm.later hb); (replace hb0 := below_step hb0 hb); go_wp2_with fail)
  refine hK.out _ _ ?hSr104_7_6 (fun hHeld2 => ?_)
  case hSr104_7_6 => (obtain ⟨e0, e1, Qg, Qd, Qe⟩ := hHeld; exact ⟨cell_later hb e0, cell_later hb e1, Qg.later hb, Qd.later hb, Qe.later hb⟩)
  clear hK K hHeld
  have hHeld := hHeld2
  clear hHeld2
  rename World => wq
  (try simp only [Act.put, nz1, nz2, nz3])
  refine tk 7 ⟨some 28, .move (.tmp 27), 4, _, _, _⟩ hHeld ?_
  (try simp only [Act.put, nz1, nz2, nz3])
  refine ts 8 ⟨some 29, .load 26 (.tmp 5), 26, _, _, _⟩ hHeld ?_
  (try simp only [Act.put, nz1, nz2, nz3])
  refine ts 9 ⟨some 30, .load 33 (.tmp 6), 33, _, _, _⟩ hHeld ?_
  (try simp only [Act.put, nz1, nz2, nz3])
  refine ts 10 ⟨some 31, .call { callee := .value (.func 20), args := #[.tmp 29, .tmp 30], argTypes := #[26, 33] }, 4, _, _, _⟩ hHeld ?_
  (try simp only [Act.put, nz1, nz2, nz3])
  refine tk 11 ⟨some 32, .pick (.tmp 28) (.tmp 31) (.const (.bool false)), 4, _, _, _⟩ hHeld ?_
  (try simp only [Act.put, nz1, nz2, nz3])
  refine tk 12 ⟨some 33, .move (.tmp 32), 4, _, _, _⟩ hHeld ?_
  (try simp only [Act.put, nz1, nz2, nz3])
  refine ts 13 ⟨some 34, .load 26 (.tmp 5), 26, _, _, _⟩ hHeld ?_
  (try simp only [Act.put, nz1, nz2, nz3])
  refine ts 14 ⟨some 35, .load 33 (.tmp 6), 33, _, _, _⟩ hHeld ?_
  (try simp only [Act.put, nz1, nz2, nz3])
  refine ts 15 ⟨some 36, .fieldAddr 33 (.tmp 7) 0, 0, _, _, _⟩ hHeld ?_
  (try simp only [Act.put, nz1, nz2, nz3])
  refine ts 16 ⟨some 37, .load 27 (.tmp 36), 27, _, _, _⟩ hHeld ?_
  (try simp only [Act.put, nz1, nz2, nz3])
  refine ts 17 ⟨some 38, .call { callee := .value (.func 26), args := #[.tmp 34, .tmp 35, .tmp 37], argTypes := #[26, 33, 27] }, 33, _, _, _⟩ hHeld ?_
  (try simp only [Act.put, nz1, nz2, nz3])
  refine ts 18 ⟨some 39, .load 33 (.tmp 7), 33, _, _, _⟩ hHeld ?_
  (try simp only [Act.put, nz1, nz2, nz3])
  refine ts 19 ⟨some 40, .binOp .eql 33 (.tmp 38) (.tmp 39) 33, 4, _, _, _⟩ hHeld ?_
  (try simp only [Act.put, nz1, nz2, nz3])
  refine tk 20 ⟨some 41, .pick (.tmp 33) (.tmp 40) (.const (.bool false)), 4, _, _, _⟩ hHeld ?_
  (try simp only [Act.put, nz1, nz2, nz3])
  refine tk 21 ⟨some 42, .binOp .neq 4 (.tmp 24) (.tmp 41) 4, 4, _, _, _⟩ hHeld ?_
  (try simp only [Act.put, nz1, nz2, nz3])
  refine wpAnyH_done (by kernel_rfl) ?_ _
  clear hHeld
  rename World => w2
  have lg := Rg.lt
  have ld := Rd.lt
  have le := Re.lt
  have ly := Ry.lt
  have lm := Rm.lt
  (try clear g0 g1 g2 g3 g4 g5 g6); obtain ⟨g0, g1, g2, g3, g4, g5, g6⟩ := row7 Rg
  (try clear d0 d1 d2 d3 d4 d5 d6 d7 d8 d9 d10 d11); obtain ⟨d0, d1, d2, d3, d4, d5, d6, d7, d8, d9, d10, d11⟩ := row12 Rd
  (try clear e0 e1 e2 e3 e4 e5 e6 e7 e8 e9 e10 e11); obtain ⟨e0, e1, e2, e3, e4, e5, e6, e7, e8, e9, e10, e11⟩ := row12 Re
  (try clear y0 y1); obtain ⟨y0, y1⟩ := row2 Ry
  (try clear m0 m1 m2 m3 m4 m5 m6 m7 m8 m9 m10 m11); obtain ⟨m0, m1, m2, m3, m4, m5, m6, m7, m8, m9, m10, m11⟩ := row12 Rm
  go_wp2_with fail
  refine (H5 _).mono ?_
  rintro e w3 ⟨rfl, hb⟩
  replace Rg := Rg.later hb
  replace Rd := Rd.later hb
  replace Re := Re.later hb
  replace Ry := Ry.later hb
  replace Rm := Rm.later hb
  replace hb0 := below_step hb0 hb
  clear hb
  have lg := Rg.lt
  have ld := Rd.lt
  have le := Re.lt
  have ly := Ry.lt
  have lm := Rm.lt
  (try clear g0 g1 g2 g3 g4 g5 g6); obtain ⟨g0, g1, g2, g3, g4, g5, g6⟩ := row7 Rg
  (try clear d0 d1 d2 d3 d4 d5 d6 d7 d8 d9 d10 d11); obtain ⟨d0, d1, d2, d3, d4, d5, d6, d7, d8, d9, d10, d11⟩ := row12 Rd
  (try clear e0 e1 e2 e3 e4 e5 e6 e7 e8 e9 e10 e11); obtain ⟨e0, e1, e2, e3, e4, e5, e6, e7, e8, e9, e10, e11⟩ := row12 Re
  (try clear y0 y1); obtain ⟨y0, y1⟩ := row2 Ry
  (try clear m0 m1 m2 m3 m4 m5 m6 m7 m8 m9 m10 m11); obtain ⟨m0, m1, m2, m3, m4, m5, m6, m7, m8, m9, m10, m11⟩ := row12 Rm
  go_wp2_with fail
  refine (H3 _).mono ?_
  rintro e w4 ⟨rfl, hb⟩
  have nng := Rg.lt
  have nnd := Rd.lt
  have nne := Re.lt
  have nny := Ry.lt
  have nnm := Rm.lt
  replace Rg := (Rg.alloc _).later hb
  replace Rd := (Rd.alloc _).later hb
  replace Re := (Re.alloc _).later hb
  replace Ry := (Ry.alloc _).later hb
  replace Rm := (Rm.alloc _).later hb
  have Rn := Row.later (Row.new _ _ _) hb
  have mn := hb0.size
  replace hb0 := below_step (hb0.alloc hb0.size _) hb
  clear hb
  generalize w3.heap.size = gn at *
  have lg := Rg.lt
  have ld := Rd.lt
  have le := Re.lt
  have ly := Ry.lt
  have lm := Rm.lt
  have ln := Rn.lt
  (try clear g0 g1 g2 g3 g4 g5 g6); obtain ⟨g0, g1, g2, g3, g4, g5, g6⟩ := row7 Rg
  (try clear d0 d1 d2 d3 d4 d5 d6 d7 d8 d9 d10 d11); obtain ⟨d0, d1, d2, d3, d4, d5, d6, d7, d8, d9, d10, d11⟩ := row12 Rd
  (try clear e0 e1 e2 e3 e4 e5 e6 e7 e8 e9 e10 e11); obtain ⟨e0, e1, e2, e3, e4, e5, e6, e7, e8, e9, e10, e11⟩ := row12 Re
  (try clear y0 y1); obtain ⟨y0, y1⟩ := row2 Ry
  (try clear m0 m1 m2 m3 m4 m5 m6 m7 m8 m9 m10 m11); obtain ⟨m0, m1, m2, m3, m4, m5, m6, m7, m8, m9, m10, m11⟩ := row12 Rm
  (try clear n0 n1 n2 n3 n4 n5 n6 n7 n8 n9 n10 n11); obtain ⟨n0, n1, n2, n3, n4, n5, n6, n7, n8, n9, n10, n11⟩ := row12 Rn
  go_wp2_with fail
  refine (HA _).mono ?_
  rintro e w5 ⟨rfl, hb⟩
  replace Rg := Rg.later hb
  replace Rd := Rd.later hb
  replace Re := Re.later hb
  replace Ry := Ry.later hb
  replace Rm := Rm.later hb
  replace Rn := Rn.later hb
  replace hb0 := below_step hb0 hb
  clear hb
  have lg := Rg.lt
  have ld := Rd.lt
  have le := Re.lt
  have ly := Ry.lt
  have lm := Rm.lt
  have ln := Rn.lt
  (try clear g0 g1 g2 g3 g4 g5 g6); obtain ⟨g0, g1, g2, g3, g4, g5, g6⟩ := row7 Rg
  (try clear d0 d1 d2 d3 d4 d5 d6 d7 d8 d9 d10 d11); obtain ⟨d0, d1, d2, d3, d4, d5, d6, d7, d8, d9, d10, d11⟩ := row12 Rd
  (try clear e0 e1 e2 e3 e4 e5 e6 e7 e8 e9 e10 e11); obtain ⟨e0, e1, e2, e3, e4, e5, e6, e7, e8, e9, e10, e11⟩ := row12 Re
  (try clear y0 y1); obtain ⟨y0, y1⟩ := row2 Ry
  (try clear m0 m1 m2 m3 m4 m5 m6 m7 m8 m9 m10 m11); obtain ⟨m0, m1, m2, m3, m4, m5, m6, m7, m8, m9, m10, m11⟩ := row12 Rm
  (try clear n0 n1 n2 n3 n4 n5 n6 n7 n8 n9 n10 n11); obtain ⟨n0, n1, n2, n3, n4, n5, n6, n7, n8, n9, n10, n11⟩ := row12 Rn
  go_wp2
  go_ret
  exact ⟨rfl, hb0⟩
set_option maxRecDepth 100000 in
set_option maxHeartbeats 32000000 in
theorem one_01ok (s : Sp) (p q u v t : Px) (i j hu2 hp2 : Int) (b : Bool)
    (H0 : ∀ w, Calls Try.prog 26 #[sv s, pv p, .agg #[.int .i64 i, .int .i64 j]] w fun e w' => e = .returned (pv u) ∧ Below w.heap.size w w')
    (H1 : ∀ w, Calls Try.prog 28 #[sv s, pv q, pv p] w fun e w' => e = .returned (.bool false) ∧ Below w.heap.size w w')
    (H2 : ∀ w, Calls Try.prog 20 #[sv s, pv q] w fun e w' => e = .returned (.bool false) ∧ Below w.heap.size w w')
    (H3 : ∀ w, Calls Try.prog 20 #[sv s, pv p] w fun e w' => e = .returned (.bool true) ∧ Below w.heap.size w w')
    (H5 : ∀ w, Calls Try.prog 22 #[sv s] w fun e w' => e = .returned (pv t) ∧ Below w.heap.size w w')
    (g0 : ¬ i < p.a0) (g1 : ¬ j < p.a1) (g2 : ¬ t.a0 < i) (g3 : ¬ t.a1 < j)
    (hu : u.a0 = i ∧ u.a1 = j)
    (H6 : ∀ w, Calls Try.prog 28 #[sv s, pv u, pv p] w fun e w' => e = .returned (.bool true) ∧ Below w.heap.size w w')
    (H7 : ∀ w, Calls Try.prog 25 #[sv s, pv u] w fun e w' => e = .returned (.int .i64 hu2) ∧ Below w.heap.size w w')
    (H8 : ∀ w, Calls Try.prog 25 #[sv s, pv p] w fun e w' => e = .returned (.int .i64 hp2) ∧ Below w.heap.size w w')
    (hh : hp2 ≤ hu2) (w : World) :
    Calls Try.prog 7 #[sv s, pv p, pv q, .int .i64 i, .int .i64 j] w fun e w' => e = .returned (.bool true) ∧ Below w.heap.size w w' := by
  have HA := alive9_t
  have qe := eql_px pz pz
  rw [decide_eq_true rfl] at qe
  have g0' : decide (i < p.a0) = false := decide_eq_false g0
  have g1' : decide (j < p.a1) = false := decide_eq_false g1
  have g2' : decide (t.a0 < i) = false := decide_eq_false g2
  have g3' : decide (t.a1 < j) = false := decide_eq_false g3
  have qa := eql_at u.a0 u.a1 i j
  rw [decide_eq_true hu] at qa
  have hh' : decide (hp2 ≤ hu2) = true := decide_eq_true hh
  clear hu
  unfold pz kz at *
  unfold sv pv at *
  obtain ⟨Rg, Rd, Re, hb0⟩ := three_rows w #[.int .i64 s.n, .int .i64 s.d0.kind, .int .i64 s.d0.side, .int .i64 s.d0.step, .int .i64 s.d1.kind, .int .i64 s.d1.side, .int .i64 s.d1.step] #[.int .i64 p.a0, .int .i64 p.a1, .int .i64 p.k0.kind, .int .i64 p.k0.len, .int .u64 p.k0.h, .int .u64 p.k0.l, .string ⟨p.k0.path.toArray⟩, .int .i64 p.k1.kind, .int .i64 p.k1.len, .int .u64 p.k1.h, .int .u64 p.k1.l, .string ⟨p.k1.path.toArray⟩] #[.int .i64 q.a0, .int .i64 q.a1, .int .i64 q.k0.kind, .int .i64 q.k0.len, .int .u64 q.k0.h, .int .u64 q.k0.l, .string ⟨q.k0.path.toArray⟩, .int .i64 q.k1.kind, .int .i64 q.k1.len, .int .u64 q.k1.h, .int .u64 q.k1.l, .string ⟨q.k1.path.toArray⟩] 26 33 33
  (try clear g0 g1 g2 g3 g4 g5 g6); obtain ⟨g0, g1, g2, g3, g4, g5, g6⟩ := row7 Rg
  (try clear d0 d1 d2 d3 d4 d5 d6 d7 d8 d9 d10 d11); obtain ⟨d0, d1, d2, d3, d4, d5, d6, d7, d8, d9, d10, d11⟩ := row12 Rd
  (try clear e0 e1 e2 e3 e4 e5 e6 e7 e8 e9 e10 e11); obtain ⟨e0, e1, e2, e3, e4, e5, e6, e7, e8, e9, e10, e11⟩ := row12 Re
  go_enter Try.func7, Try.ntmps7
  go_wp2_with fail
  refine (H0 _).mono ?_
  rintro e w1 ⟨rfl, hb⟩
  replace Rg := (Rg.alloc _).later hb
  replace Rd := (Rd.alloc _).later hb
  replace Re := (Re.alloc _).later hb
  have Ry := Row.later (Row.new _ _ _) hb
  simp only [World.size_alloc] at Ry
  replace hb0 := below_step (hb0.alloc hb0.size _) hb
  clear hb
  have lg := Rg.lt
  have ld := Rd.lt
  have le := Re.lt
  have ly := Ry.lt
  (try clear g0 g1 g2 g3 g4 g5 g6); obtain ⟨g0, g1, g2, g3, g4, g5, g6⟩ := row7 Rg
  (try clear d0 d1 d2 d3 d4 d5 d6 d7 d8 d9 d10 d11); obtain ⟨d0, d1, d2, d3, d4, d5, d6, d7, d8, d9, d10, d11⟩ := row12 Rd
  (try clear e0 e1 e2 e3 e4 e5 e6 e7 e8 e9 e10 e11); obtain ⟨e0, e1, e2, e3, e4, e5, e6, e7, e8, e9, e10, e11⟩ := row12 Re
  (try clear y0 y1); obtain ⟨y0, y1⟩ := row2 Ry
  go_wp2_with fail
  replace Rg := Rg.alloc (.cells #[Value.int .i64 u.a0, Value.int .i64 u.a1, Value.int .i64 u.k0.kind, Value.int .i64 u.k0.len, Value.int .u64 u.k0.h, Value.int .u64 u.k0.l, Value.string ⟨u.k0.path.toArray⟩, Value.int .i64 u.k1.kind, Value.int .i64 u.k1.len, Value.int .u64 u.k1.h, Value.int .u64 u.k1.l, Value.string ⟨u.k1.path.toArray⟩] 33)
  replace Rd := Rd.alloc (.cells #[Value.int .i64 u.a0, Value.int .i64 u.a1, Value.int .i64 u.k0.kind, Value.int .i64 u.k0.len, Value.int .u64 u.k0.h, Value.int .u64 u.k0.l, Value.string ⟨u.k0.path.toArray⟩, Value.int .i64 u.k1.kind, Value.int .i64 u.k1.len, Value.int .u64 u.k1.h, Value.int .u64 u.k1.l, Value.string ⟨u.k1.path.toArray⟩] 33)
  replace Re := Re.alloc (.cells #[Value.int .i64 u.a0, Value.int .i64 u.a1, Value.int .i64 u.k0.kind, Value.int .i64 u.k0.len, Value.int .u64 u.k0.h, Value.int .u64 u.k0.l, Value.string ⟨u.k0.path.toArray⟩, Value.int .i64 u.k1.kind, Value.int .i64 u.k1.len, Value.int .u64 u.k1.h, Value.int .u64 u.k1.l, Value.string ⟨u.k1.path.toArray⟩] 33)
  replace Ry := Ry.alloc (.cells #[Value.int .i64 u.a0, Value.int .i64 u.a1, Value.int .i64 u.k0.kind, Value.int .i64 u.k0.len, Value.int .u64 u.k0.h, Value.int .u64 u.k0.l, Value.string ⟨u.k0.path.toArray⟩, Value.int .i64 u.k1.kind, Value.int .i64 u.k1.len, Value.int .u64 u.k1.h, Value.int .u64 u.k1.l, Value.string ⟨u.k1.path.toArray⟩] 33)
  have Rm := Row.new w1 #[Value.int .i64 u.a0, Value.int .i64 u.a1, Value.int .i64 u.k0.kind, Value.int .i64 u.k0.len, Value.int .u64 u.k0.h, Value.int .u64 u.k0.l, Value.string ⟨u.k0.path.toArray⟩, Value.int .i64 u.k1.kind, Value.int .i64 u.k1.len, Value.int .u64 u.k1.h, Value.int .u64 u.k1.l, Value.string ⟨u.k1.path.toArray⟩] 33
  have mm := hb0.size
  replace hb0 := hb0.alloc hb0.size (.cells #[Value.int .i64 u.a0, Value.int .i64 u.a1, Value.int .i64 u.k0.kind, Value.int .i64 u.k0.len, Value.int .u64 u.k0.h, Value.int .u64 u.k0.l, Value.string ⟨u.k0.path.toArray⟩, Value.int .i64 u.k1.kind, Value.int .i64 u.k1.len, Value.int .u64 u.k1.h, Value.int .u64 u.k1.l, Value.string ⟨u.k1.path.toArray⟩] 33)
  (try clear g0 g1 g2 g3 g4 g5 g6); obtain ⟨g0, g1, g2, g3, g4, g5, g6⟩ := row7 Rg
  (try clear d0 d1 d2 d3 d4 d5 d6 d7 d8 d9 d10 d11); obtain ⟨d0, d1, d2, d3, d4, d5, d6, d7, d8, d9, d10, d11⟩ := row12 Rd
  (try clear e0 e1 e2 e3 e4 e5 e6 e7 e8 e9 e10 e11); obtain ⟨e0, e1, e2, e3, e4, e5, e6, e7, e8, e9, e10, e11⟩ := row12 Re
  (try clear y0 y1); obtain ⟨y0, y1⟩ := row2 Ry
  (try clear m0 m1 m2 m3 m4 m5 m6 m7 m8 m9 m10 m11); obtain ⟨m0, m1, m2, m3, m4, m5, m6, m7, m8, m9, m10, m11⟩ := row12 Rm
  refine wp_region_held_drew (S := (fun w' => w'.cell? ⟨w.heap.size + 1 + 1, 0, none⟩ = some (Value.int .i64 q.a0) ∧ w'.cell? ⟨w.heap.size + 1 + 1, 1, none⟩ = some (Value.int .i64 q.a1) ∧ Row w' w.heap.size #[.int .i64 s.n, .int .i64 s.d0.kind, .int .i64 s.d0.side, .int .i64 s.d0.step, .int .i64 s.d1.kind, .int .i64 s.d1.side, .int .i64 s.d1.step] 26 ∧ Row w' (w.heap.size + 1) #[.int .i64 p.a0, .int .i64 p.a1, .int .i64 p.k0.kind, .int .i64 p.k0.len, .int .u64 p.k0.h, .int .u64 p.k0.l, .string ⟨p.k0.path.toArray⟩, .int .i64 p.k1.kind, .int .i64 p.k1.len, .int .u64 p.k1.h, .int .u64 p.k1.l, .string ⟨p.k1.path.toArray⟩] 33 ∧ Row w' (w.heap.size + 1 + 1) #[.int .i64 q.a0, .int .i64 q.a1, .int .i64 q.k0.kind, .int .i64 q.k0.len, .int .u64 q.k0.h, .int .u64 q.k0.l, .string ⟨q.k0.path.toArray⟩, .int .i64 q.k1.kind, .int .i64 q.k1.len, .int .u64 q.k1.h, .int .u64 q.k1.l, .string ⟨q.k1.path.toArray⟩] 33)) (by kernel_rfl) ?hSr105_ (fun hHeld => ?_)
  case hSr105_ => (exact ⟨e0, e1, Rg.drew, Rd.drew, Re.drew⟩)
  (clear g0 g1 g2 g3 g4 g5 g6 d0 d1 d2 d3 d4 d5 d6 d7 d8 d9 d10 d11 e0 e1 e2 e3 e4 e5 e6 e7 e8 e9 e10 e11 y0 y1 m0 m1 m2 m3 m4 m5 m6 m7 m8 m9 m10 m11; (replace Rg := Rg.drew); (replace Rd := Rd.drew); (replace Re := Re.drew); (replace Ry := Ry.drew); (replace Rm := Rm.drew); (replace hb0 := hb0.drew); (generalize World.drew (World.alloc w1 (.cells #[Value.int .i64 u.a0, Value.int .i64 u.a1, Value.int .i64 u.k0.kind, Value.int .i64 u.k0.len, Value.int .u64 u.k0.h, Value.int .u64 u.k0.l, Value.string ⟨u.k0.path.toArray⟩, Value.int .i64 u.k1.kind, Value.int .i64 u.k1.len, Value.int .u64 u.k1.h, Value.int .u64 u.k1.l, Value.string ⟨u.k1.path.toArray⟩] 33)) = wq at *))
  refine tk 0 ⟨some 21, .load 26 (.tmp 5), 26, _, _, _⟩ hHeld ?_ (v := ?vr105_1_0) (hy := ?yr105_1_0)
  case yr105_1_0 => (intro wy hSw; obtain ⟨e0, e1, Qg, Qd, Qe⟩ := hSw; (with_reducible refine pexec_load 26 (.tmp 5) ?_ w.heap.size ?_ 26 #[.int .i64 s.n, .int .i64 s.d0.kind, .int .i64 s.d0.side, .int .i64 s.d0.step, .int .i64 s.d1.kind, .int .i64 s.d1.side, .int .i64 s.d1.step] _ Qg Try.underlying26 ?_ ?_) <;> first | rfl | exact infoSp)
  (try simp only [Act.put, nz1, nz2, nz3])
  refine tk 1 ⟨some 22, .load 33 (.tmp 7), 33, _, _, _⟩ hHeld ?_ (v := ?vr105_2_1) (hy := ?yr105_2_1)
  case yr105_2_1 => (intro wy hSw; obtain ⟨e0, e1, Qg, Qd, Qe⟩ := hSw; (with_reducible refine pexec_load 33 (.tmp 7) ?_ (w.heap.size + 1 + 1) ?_ 33 #[.int .i64 q.a0, .int .i64 q.a1, .int .i64 q.k0.kind, .int .i64 q.k0.len, .int .u64 q.k0.h, .int .u64 q.k0.l, .string ⟨q.k0.path.toArray⟩, .int .i64 q.k1.kind, .int .i64 q.k1.len, .int .u64 q.k1.h, .int .u64 q.k1.l, .string ⟨q.k1.path.toArray⟩] _ Qe Try.underlying33 ?_ ?_) <;> first | rfl | exact infoPx)
  (try simp only [Act.put, nz1, nz2, nz3])
  refine tk 2 ⟨some 23, .load 33 (.tmp 6), 33, _, _, _⟩ hHeld ?_ (v := ?vr105_3_2) (hy := ?yr105_3_2)
  case yr105_3_2 => (intro wy hSw; obtain ⟨e0, e1, Qg, Qd, Qe⟩ := hSw; (with_reducible refine pexec_load 33 (.tmp 6) ?_ (w.heap.size + 1) ?_ 33 #[.int .i64 p.a0, .int .i64 p.a1, .int .i64 p.k0.kind, .int .i64 p.k0.len, .int .u64 p.k0.h, .int .u64 p.k0.l, .string ⟨p.k0.path.toArray⟩, .int .i64 p.k1.kind, .int .i64 p.k1.len, .int .u64 p.k1.h, .int .u64 p.k1.l, .string ⟨p.k1.path.toArray⟩] _ Qd Try.underlying33 ?_ ?_) <;> first | rfl | exact infoPx)
  (try simp only [Act.put, nz1, nz2, nz3])
  refine tk 4 ⟨some 25, .load 26 (.tmp 5), 26, _, _, _⟩ hHeld ?_ (v := ?vr105_4_4) (hy := ?yr105_4_4)
  case yr105_4_4 => (intro wy hSw; obtain ⟨e0, e1, Qg, Qd, Qe⟩ := hSw; (with_reducible refine pexec_load 26 (.tmp 5) ?_ w.heap.size ?_ 26 #[.int .i64 s.n, .int .i64 s.d0.kind, .int .i64 s.d0.side, .int .i64 s.d0.step, .int .i64 s.d1.kind, .int .i64 s.d1.side, .int .i64 s.d1.step] _ Qg Try.underlying26 ?_ ?_) <;> first | rfl | exact infoSp)
  (try simp only [Act.put, nz1, nz2, nz3])
  refine tk 5 ⟨some 26, .load 33 (.tmp 7), 33, _, _, _⟩ hHeld ?_ (v := ?vr105_5_5) (hy := ?yr105_5_5)
  case yr105_5_5 => (intro wy hSw; obtain ⟨e0, e1, Qg, Qd, Qe⟩ := hSw; (with_reducible refine pexec_load 33 (.tmp 7) ?_ (w.heap.size + 1 + 1) ?_ 33 #[.int .i64 q.a0, .int .i64 q.a1, .int .i64 q.k0.kind, .int .i64 q.k0.len, .int .u64 q.k0.h, .int .u64 q.k0.l, .string ⟨q.k0.path.toArray⟩, .int .i64 q.k1.kind, .int .i64 q.k1.len, .int .u64 q.k1.h, .int .u64 q.k1.l, .string ⟨q.k1.path.toArray⟩] _ Qe Try.underlying33 ?_ ?_) <;> first | rfl | exact infoPx)
  (try simp only [Act.put, nz1, nz2, nz3])
  refine wpAnyH_ready (rs := [3]) (by kernel_rfl) (by simp) ?_
  refine AllReadyH.cons (o := ⟨some 24, .call { callee := .value (.func 28), args := #[.tmp 21, .tmp 22, .tmp 23], argTypes := #[26, 33, 33] }, 4, _, _, _⟩) rfl (fun K hK => ?_) AllReadyH.nil
  (go_simp; (refine (H1 _).mono ?_); (rintro e wz ⟨rfl, hb⟩); (replace Rg := Rg.later hb); (replace Rd := Rd.later hb); (replace Re := Re.later hb); (replace Ry := Ry.later hb); (replace Rm := Rm.later hb); (replace hb0 := below_step hb0 hb); go_wp2_with fail)
  refine hK.out _ _ ?hSr105_6_3 (fun hHeld2 => ?_)
  case hSr105_6_3 => (obtain ⟨e0, e1, Qg, Qd, Qe⟩ := hHeld; exact ⟨cell_later hb e0, cell_later hb e1, Qg.later hb, Qd.later hb, Qe.later hb⟩)
  clear hK K hHeld
  have hHeld := hHeld2
  clear hHeld2
  rename World => wq
  (try simp only [Act.put, nz1, nz2, nz3])
  refine wpAnyH_ready (rs := [6]) (by kernel_rfl) (by simp) ?_
  refine AllReadyH.cons (o := ⟨some 27, .call { callee := .value (.func 20), args := #[.tmp 25, .tmp 26], argTypes := #[26, 33] }, 4, _, _, _⟩) rfl (fun K hK => ?_) AllReadyH.nil
  (go_simp; (refine (H2 _).mono ?_); (rintro e wz ⟨rfl, hb⟩); (replace Rg := Rg.later hb); (replace Rd := Rd.later hb); (replace Re := Re.later hb); (replace Ry := Ry.later hb); (replace Rm := Rm.later hb); (replace hb0 := below_step hb0 hb); go_wp2_with fail)
  refine hK.out _ _ ?hSr105_7_6 (fun hHeld2 => ?_)
  case hSr105_7_6 => (obtain ⟨e0, e1, Qg, Qd, Qe⟩ := hHeld; exact ⟨cell_later hb e0, cell_later hb e1, Qg.later hb, Qd.later hb, Qe.later hb⟩)
  clear hK K hHeld
  have hHeld := hHeld2
  clear hHeld2
  rename World => wq
  (try simp only [Act.put, nz1, nz2, nz3])
  refine tk 7 ⟨some 28, .move (.tmp 27), 4, _, _, _⟩ hHeld ?_
  (try simp only [Act.put, nz1, nz2, nz3])
  refine ts 8 ⟨some 29, .load 26 (.tmp 5), 26, _, _, _⟩ hHeld ?_
  (try simp only [Act.put, nz1, nz2, nz3])
  refine ts 9 ⟨some 30, .load 33 (.tmp 6), 33, _, _, _⟩ hHeld ?_
  (try simp only [Act.put, nz1, nz2, nz3])
  refine ts 10 ⟨some 31, .call { callee := .value (.func 20), args := #[.tmp 29, .tmp 30], argTypes := #[26, 33] }, 4, _, _, _⟩ hHeld ?_
  (try simp only [Act.put, nz1, nz2, nz3])
  refine tk 11 ⟨some 32, .pick (.tmp 28) (.tmp 31) (.const (.bool false)), 4, _, _, _⟩ hHeld ?_
  (try simp only [Act.put, nz1, nz2, nz3])
  refine tk 12 ⟨some 33, .move (.tmp 32), 4, _, _, _⟩ hHeld ?_
  (try simp only [Act.put, nz1, nz2, nz3])
  refine ts 13 ⟨some 34, .load 26 (.tmp 5), 26, _, _, _⟩ hHeld ?_
  (try simp only [Act.put, nz1, nz2, nz3])
  refine ts 14 ⟨some 35, .load 33 (.tmp 6), 33, _, _, _⟩ hHeld ?_
  (try simp only [Act.put, nz1, nz2, nz3])
  refine ts 15 ⟨some 36, .fieldAddr 33 (.tmp 7) 0, 0, _, _, _⟩ hHeld ?_
  (try simp only [Act.put, nz1, nz2, nz3])
  refine ts 16 ⟨some 37, .load 27 (.tmp 36), 27, _, _, _⟩ hHeld ?_
  (try simp only [Act.put, nz1, nz2, nz3])
  refine ts 17 ⟨some 38, .call { callee := .value (.func 26), args := #[.tmp 34, .tmp 35, .tmp 37], argTypes := #[26, 33, 27] }, 33, _, _, _⟩ hHeld ?_
  (try simp only [Act.put, nz1, nz2, nz3])
  refine ts 18 ⟨some 39, .load 33 (.tmp 7), 33, _, _, _⟩ hHeld ?_
  (try simp only [Act.put, nz1, nz2, nz3])
  refine ts 19 ⟨some 40, .binOp .eql 33 (.tmp 38) (.tmp 39) 33, 4, _, _, _⟩ hHeld ?_
  (try simp only [Act.put, nz1, nz2, nz3])
  refine tk 20 ⟨some 41, .pick (.tmp 33) (.tmp 40) (.const (.bool false)), 4, _, _, _⟩ hHeld ?_
  (try simp only [Act.put, nz1, nz2, nz3])
  refine tk 21 ⟨some 42, .binOp .neq 4 (.tmp 24) (.tmp 41) 4, 4, _, _, _⟩ hHeld ?_
  (try simp only [Act.put, nz1, nz2, nz3])
  refine wpAnyH_done (by kernel_rfl) ?_ _
  clear hHeld
  rename World => w2
  have lg := Rg.lt
  have ld := Rd.lt
  have le := Re.lt
  have ly := Ry.lt
  have lm := Rm.lt
  (try clear g0 g1 g2 g3 g4 g5 g6); obtain ⟨g0, g1, g2, g3, g4, g5, g6⟩ := row7 Rg
  (try clear d0 d1 d2 d3 d4 d5 d6 d7 d8 d9 d10 d11); obtain ⟨d0, d1, d2, d3, d4, d5, d6, d7, d8, d9, d10, d11⟩ := row12 Rd
  (try clear e0 e1 e2 e3 e4 e5 e6 e7 e8 e9 e10 e11); obtain ⟨e0, e1, e2, e3, e4, e5, e6, e7, e8, e9, e10, e11⟩ := row12 Re
  (try clear y0 y1); obtain ⟨y0, y1⟩ := row2 Ry
  (try clear m0 m1 m2 m3 m4 m5 m6 m7 m8 m9 m10 m11); obtain ⟨m0, m1, m2, m3, m4, m5, m6, m7, m8, m9, m10, m11⟩ := row12 Rm
  go_wp2_with fail
  refine (H5 _).mono ?_
  rintro e w3 ⟨rfl, hb⟩
  replace Rg := Rg.later hb
  replace Rd := Rd.later hb
  replace Re := Re.later hb
  replace Ry := Ry.later hb
  replace Rm := Rm.later hb
  replace hb0 := below_step hb0 hb
  clear hb
  have lg := Rg.lt
  have ld := Rd.lt
  have le := Re.lt
  have ly := Ry.lt
  have lm := Rm.lt
  (try clear g0 g1 g2 g3 g4 g5 g6); obtain ⟨g0, g1, g2, g3, g4, g5, g6⟩ := row7 Rg
  (try clear d0 d1 d2 d3 d4 d5 d6 d7 d8 d9 d10 d11); obtain ⟨d0, d1, d2, d3, d4, d5, d6, d7, d8, d9, d10, d11⟩ := row12 Rd
  (try clear e0 e1 e2 e3 e4 e5 e6 e7 e8 e9 e10 e11); obtain ⟨e0, e1, e2, e3, e4, e5, e6, e7, e8, e9, e10, e11⟩ := row12 Re
  (try clear y0 y1); obtain ⟨y0, y1⟩ := row2 Ry
  (try clear m0 m1 m2 m3 m4 m5 m6 m7 m8 m9 m10 m11); obtain ⟨m0, m1, m2, m3, m4, m5, m6, m7, m8, m9, m10, m11⟩ := row12 Rm
  go_wp2_with fail
  refine (H3 _).mono ?_
  rintro e w4 ⟨rfl, hb⟩
  have nng := Rg.lt
  have nnd := Rd.lt
  have nne := Re.lt
  have nny := Ry.lt
  have nnm := Rm.lt
  replace Rg := (Rg.alloc _).later hb
  replace Rd := (Rd.alloc _).later hb
  replace Re := (Re.alloc _).later hb
  replace Ry := (Ry.alloc _).later hb
  replace Rm := (Rm.alloc _).later hb
  have Rn := Row.later (Row.new _ _ _) hb
  have mn := hb0.size
  replace hb0 := below_step (hb0.alloc hb0.size _) hb
  clear hb
  generalize w3.heap.size = gn at *
  have lg := Rg.lt
  have ld := Rd.lt
  have le := Re.lt
  have ly := Ry.lt
  have lm := Rm.lt
  have ln := Rn.lt
  (try clear g0 g1 g2 g3 g4 g5 g6); obtain ⟨g0, g1, g2, g3, g4, g5, g6⟩ := row7 Rg
  (try clear d0 d1 d2 d3 d4 d5 d6 d7 d8 d9 d10 d11); obtain ⟨d0, d1, d2, d3, d4, d5, d6, d7, d8, d9, d10, d11⟩ := row12 Rd
  (try clear e0 e1 e2 e3 e4 e5 e6 e7 e8 e9 e10 e11); obtain ⟨e0, e1, e2, e3, e4, e5, e6, e7, e8, e9, e10, e11⟩ := row12 Re
  (try clear y0 y1); obtain ⟨y0, y1⟩ := row2 Ry
  (try clear m0 m1 m2 m3 m4 m5 m6 m7 m8 m9 m10 m11); obtain ⟨m0, m1, m2, m3, m4, m5, m6, m7, m8, m9, m10, m11⟩ := row12 Rm
  (try clear n0 n1 n2 n3 n4 n5 n6 n7 n8 n9 n10 n11); obtain ⟨n0, n1, n2, n3, n4, n5, n6, n7, n8, n9, n10, n11⟩ := row12 Rn
  go_wp2_with fail
  refine wp_region_held_drew (S := (fun w' => w'.cell? ⟨w1.heap.size, 0, none⟩ = some (Value.int .i64 u.a0) ∧ w'.cell? ⟨w1.heap.size, 1, none⟩ = some (Value.int .i64 u.a1) ∧ w'.cell? ⟨w.heap.size + 1 + 1 + 1, 0, none⟩ = some (Value.int .i64 i) ∧ w'.cell? ⟨w.heap.size + 1 + 1 + 1, 1, none⟩ = some (Value.int .i64 j) ∧ Row w' w.heap.size #[.int .i64 s.n, .int .i64 s.d0.kind, .int .i64 s.d0.side, .int .i64 s.d0.step, .int .i64 s.d1.kind, .int .i64 s.d1.side, .int .i64 s.d1.step] 26 ∧ Row w' (w.heap.size + 1) #[.int .i64 p.a0, .int .i64 p.a1, .int .i64 p.k0.kind, .int .i64 p.k0.len, .int .u64 p.k0.h, .int .u64 p.k0.l, .string ⟨p.k0.path.toArray⟩, .int .i64 p.k1.kind, .int .i64 p.k1.len, .int .u64 p.k1.h, .int .u64 p.k1.l, .string ⟨p.k1.path.toArray⟩] 33 ∧ Row w' w1.heap.size #[.int .i64 u.a0, .int .i64 u.a1, .int .i64 u.k0.kind, .int .i64 u.k0.len, .int .u64 u.k0.h, .int .u64 u.k0.l, .string ⟨u.k0.path.toArray⟩, .int .i64 u.k1.kind, .int .i64 u.k1.len, .int .u64 u.k1.h, .int .u64 u.k1.l, .string ⟨u.k1.path.toArray⟩] 33)) (by kernel_rfl) ?hSr106_ (fun hHeld => ?_)
  case hSr106_ => (exact ⟨m0, m1, y0, y1, Rg.drew, Rd.drew, Rm.drew⟩)
  (clear g0 g1 g2 g3 g4 g5 g6 d0 d1 d2 d3 d4 d5 d6 d7 d8 d9 d10 d11 e0 e1 e2 e3 e4 e5 e6 e7 e8 e9 e10 e11 y0 y1 m0 m1 m2 m3 m4 m5 m6 m7 m8 m9 m10 m11 n0 n1 n2 n3 n4 n5 n6 n7 n8 n9 n10 n11; (replace Rg := Rg.drew); (replace Rd := Rd.drew); (replace Re := Re.drew); (replace Ry := Ry.drew); (replace Rm := Rm.drew); (replace Rn := Rn.drew); (replace hb0 := hb0.drew); (generalize World.drew w4 = wq at *))
  refine wpAnyH_ready (rs := [0]) (by kernel_rfl) (by simp) ?_
  refine AllReadyH.cons (o := ⟨some 83, .call { callee := .value (.func 24), args := #[], argTypes := #[] }, 4, _, _, _⟩) rfl (fun K hK => ?_) AllReadyH.nil
  (go_simp; (refine (HA _).mono ?_); (rintro e wz ⟨rfl, hb⟩); (replace Rg := Rg.later hb); (replace Rd := Rd.later hb); (replace Re := Re.later hb); (replace Ry := Ry.later hb); (replace Rm := Rm.later hb); (replace Rn := Rn.later hb); (replace hb0 := below_step hb0 hb); go_wp2_with fail)
  refine hK.out _ _ ?hSr106_1_0 (fun hHeld2 => ?_)
  case hSr106_1_0 => (obtain ⟨m0, m1, y0, y1, Qg, Qd, Qm⟩ := hHeld; exact ⟨cell_later hb m0, cell_later hb m1, cell_later hb y0, cell_later hb y1, Qg.later hb, Qd.later hb, Qm.later hb⟩)
  clear hK K hHeld
  have hHeld := hHeld2
  clear hHeld2
  rename World => wq
  (try simp only [Act.put, nz1, nz2, nz3])
  refine tk 1 ⟨some 84, .move (.tmp 83), 4, _, _, _⟩ hHeld ?_
  (try simp only [Act.put, nz1, nz2, nz3])
  refine tk 2 ⟨some 85, .fieldAddr 33 (.tmp 12) 0, 0, _, _, _⟩ hHeld ?_
  (try simp only [Act.put, nz1, nz2, nz3])
  refine tk 3 ⟨some 86, .load 27 (.tmp 85), 27, _, _, _⟩ hHeld ?_
  (try simp only [Act.put, nz1, nz2, nz3])
  refine tk 4 ⟨some 87, .load 27 (.tmp 11), 27, _, _, _⟩ hHeld ?_
  (try simp only [Act.put, nz1, nz2, nz3])
  refine tk 5 ⟨some 88, .binOp .eql 27 (.tmp 86) (.tmp 87) 27, 4, _, _, _⟩ hHeld ?_
  (try simp only [Act.put, nz1, nz2, nz3])
  refine tk 6 ⟨some 89, .pick (.tmp 84) (.tmp 88) (.const (.bool false)), 4, _, _, _⟩ hHeld ?_
  (try simp only [Act.put, nz1, nz2, nz3])
  refine tk 7 ⟨some 90, .move (.tmp 89), 4, _, _, _⟩ hHeld ?_
  (try simp only [Act.put, nz1, nz2, nz3])
  refine tk 8 ⟨some 91, .load 26 (.tmp 5), 26, _, _, _⟩ hHeld ?_ (v := ?vr106_9_8) (hy := ?yr106_9_8)
  case yr106_9_8 => (intro wy hSw; obtain ⟨m0, m1, y0, y1, Qg, Qd, Qm⟩ := hSw; (with_reducible refine pexec_load 26 (.tmp 5) ?_ w.heap.size ?_ 26 #[.int .i64 s.n, .int .i64 s.d0.kind, .int .i64 s.d0.side, .int .i64 s.d0.step, .int .i64 s.d1.kind, .int .i64 s.d1.side, .int .i64 s.d1.step] _ Qg Try.underlying26 ?_ ?_) <;> first | rfl | exact infoSp)
  (try simp only [Act.put, nz1, nz2, nz3])
  refine tk 9 ⟨some 92, .load 33 (.tmp 12), 33, _, _, _⟩ hHeld ?_ (v := ?vr106_10_9) (hy := ?yr106_10_9)
  case yr106_10_9 => (intro wy hSw; obtain ⟨m0, m1, y0, y1, Qg, Qd, Qm⟩ := hSw; (with_reducible refine pexec_load 33 (.tmp 12) ?_ w1.heap.size ?_ 33 #[.int .i64 u.a0, .int .i64 u.a1, .int .i64 u.k0.kind, .int .i64 u.k0.len, .int .u64 u.k0.h, .int .u64 u.k0.l, .string ⟨u.k0.path.toArray⟩, .int .i64 u.k1.kind, .int .i64 u.k1.len, .int .u64 u.k1.h, .int .u64 u.k1.l, .string ⟨u.k1.path.toArray⟩] _ Qm Try.underlying33 ?_ ?_) <;> first | rfl | exact infoPx)
  (try simp only [Act.put, nz1, nz2, nz3])
  refine tk 10 ⟨some 93, .load 33 (.tmp 6), 33, _, _, _⟩ hHeld ?_ (v := ?vr106_11_10) (hy := ?yr106_11_10)
  case yr106_11_10 => (intro wy hSw; obtain ⟨m0, m1, y0, y1, Qg, Qd, Qm⟩ := hSw; (with_reducible refine pexec_load 33 (.tmp 6) ?_ (w.heap.size + 1) ?_ 33 #[.int .i64 p.a0, .int .i64 p.a1, .int .i64 p.k0.kind, .int .i64 p.k0.len, .int .u64 p.k0.h, .int .u64 p.k0.l, .string ⟨p.k0.path.toArray⟩, .int .i64 p.k1.kind, .int .i64 p.k1.len, .int .u64 p.k1.h, .int .u64 p.k1.l, .string ⟨p.k1.path.toArray⟩] _ Qd Try.underlying33 ?_ ?_) <;> first | rfl | exact infoPx)
  (try simp only [Act.put, nz1, nz2, nz3])
  refine wpAnyH_ready (rs := [11]) (by kernel_rfl) (by simp) ?_
  refine AllReadyH.cons (o := ⟨some 94, .call { callee := .value (.func 28), args := #[.tmp 91, .tmp 92, .tmp 93], argTypes := #[26, 33, 33] }, 4, _, _, _⟩) rfl (fun K hK => ?_) AllReadyH.nil
  (go_simp; (refine (H6 _).mono ?_); (rintro e wz ⟨rfl, hb⟩); (replace Rg := Rg.later hb); (replace Rd := Rd.later hb); (replace Re := Re.later hb); (replace Ry := Ry.later hb); (replace Rm := Rm.later hb); (replace Rn := Rn.later hb); (replace hb0 := below_step hb0 hb); go_wp2_with fail)
  refine hK.out _ _ ?hSr106_12_11 (fun hHeld2 => ?_)
  case hSr106_12_11 => (obtain ⟨m0, m1, y0, y1, Qg, Qd, Qm⟩ := hHeld; exact ⟨cell_later hb m0, cell_later hb m1, cell_later hb y0, cell_later hb y1, Qg.later hb, Qd.later hb, Qm.later hb⟩)
  clear hK K hHeld
  have hHeld := hHeld2
  clear hHeld2
  rename World => wq
  (try simp only [Act.put, nz1, nz2, nz3])
  refine tk 12 ⟨some 95, .pick (.tmp 90) (.tmp 94) (.const (.bool false)), 4, _, _, _⟩ hHeld ?_
  (try simp only [Act.put, nz1, nz2, nz3])
  refine tk 13 ⟨some 96, .move (.tmp 95), 4, _, _, _⟩ hHeld ?_
  (try simp only [Act.put, nz1, nz2, nz3])
  refine tk 14 ⟨some 97, .load 26 (.tmp 5), 26, _, _, _⟩ hHeld ?_ (v := ?vr106_15_14) (hy := ?yr106_15_14)
  case yr106_15_14 => (intro wy hSw; obtain ⟨m0, m1, y0, y1, Qg, Qd, Qm⟩ := hSw; (with_reducible refine pexec_load 26 (.tmp 5) ?_ w.heap.size ?_ 26 #[.int .i64 s.n, .int .i64 s.d0.kind, .int .i64 s.d0.side, .int .i64 s.d0.step, .int .i64 s.d1.kind, .int .i64 s.d1.side, .int .i64 s.d1.step] _ Qg Try.underlying26 ?_ ?_) <;> first | rfl | exact infoSp)
  (try simp only [Act.put, nz1, nz2, nz3])
  refine tk 15 ⟨some 98, .load 33 (.tmp 12), 33, _, _, _⟩ hHeld ?_ (v := ?vr106_16_15) (hy := ?yr106_16_15)
  case yr106_16_15 => (intro wy hSw; obtain ⟨m0, m1, y0, y1, Qg, Qd, Qm⟩ := hSw; (with_reducible refine pexec_load 33 (.tmp 12) ?_ w1.heap.size ?_ 33 #[.int .i64 u.a0, .int .i64 u.a1, .int .i64 u.k0.kind, .int .i64 u.k0.len, .int .u64 u.k0.h, .int .u64 u.k0.l, .string ⟨u.k0.path.toArray⟩, .int .i64 u.k1.kind, .int .i64 u.k1.len, .int .u64 u.k1.h, .int .u64 u.k1.l, .string ⟨u.k1.path.toArray⟩] _ Qm Try.underlying33 ?_ ?_) <;> first | rfl | exact infoPx)
  (try simp only [Act.put, nz1, nz2, nz3])
  refine tk 17 ⟨some 100, .load 26 (.tmp 5), 26, _, _, _⟩ hHeld ?_ (v := ?vr106_17_17) (hy := ?yr106_17_17)
  case yr106_17_17 => (intro wy hSw; obtain ⟨m0, m1, y0, y1, Qg, Qd, Qm⟩ := hSw; (with_reducible refine pexec_load 26 (.tmp 5) ?_ w.heap.size ?_ 26 #[.int .i64 s.n, .int .i64 s.d0.kind, .int .i64 s.d0.side, .int .i64 s.d0.step, .int .i64 s.d1.kind, .int .i64 s.d1.side, .int .i64 s.d1.step] _ Qg Try.underlying26 ?_ ?_) <;> first | rfl | exact infoSp)
  (try simp only [Act.put, nz1, nz2, nz3])
  refine tk 18 ⟨some 101, .load 33 (.tmp 6), 33, _, _, _⟩ hHeld ?_ (v := ?vr106_18_18) (hy := ?yr106_18_18)
  case yr106_18_18 => (intro wy hSw; obtain ⟨m0, m1, y0, y1, Qg, Qd, Qm⟩ := hSw; (with_reducible refine pexec_load 33 (.tmp 6) ?_ (w.heap.size + 1) ?_ 33 #[.int .i64 p.a0, .int .i64 p.a1, .int .i64 p.k0.kind, .int .i64 p.k0.len, .int .u64 p.k0.h, .int .u64 p.k0.l, .string ⟨p.k0.path.toArray⟩, .int .i64 p.k1.kind, .int .i64 p.k1.len, .int .u64 p.k1.h, .int .u64 p.k1.l, .string ⟨p.k1.path.toArray⟩] _ Qd Try.underlying33 ?_ ?_) <;> first | rfl | exact infoPx)
  (try simp only [Act.put, nz1, nz2, nz3])
  refine wpAnyH_ready (rs := [16]) (by kernel_rfl) (by simp) ?_
  refine AllReadyH.cons (o := ⟨some 99, .call { callee := .value (.func 25), args := #[.tmp 97, .tmp 98], argTypes := #[26, 33] }, 3, _, _, _⟩) rfl (fun K hK => ?_) AllReadyH.nil
  (go_simp; (refine (H7 _).mono ?_); (rintro e wz ⟨rfl, hb⟩); (replace Rg := Rg.later hb); (replace Rd := Rd.later hb); (replace Re := Re.later hb); (replace Ry := Ry.later hb); (replace Rm := Rm.later hb); (replace Rn := Rn.later hb); (replace hb0 := below_step hb0 hb); go_wp2_with fail)
  refine hK.out _ _ ?hSr106_19_16 (fun hHeld2 => ?_)
  case hSr106_19_16 => (obtain ⟨m0, m1, y0, y1, Qg, Qd, Qm⟩ := hHeld; exact ⟨cell_later hb m0, cell_later hb m1, cell_later hb y0, cell_later hb y1, Qg.later hb, Qd.later hb, Qm.later hb⟩)
  clear hK K hHeld
  have hHeld := hHeld2
  clear hHeld2
  rename World => wq
  (try simp only [Act.put, nz1, nz2, nz3])
  refine wpAnyH_ready (rs := [19]) (by kernel_rfl) (by simp) ?_
  refine AllReadyH.cons (o := ⟨some 102, .call { callee := .value (.func 25), args := #[.tmp 100, .tmp 101], argTypes := #[26, 33] }, 3, _, _, _⟩) rfl (fun K hK => ?_) AllReadyH.nil
  (go_simp; (refine (H8 _).mono ?_); (rintro e wz ⟨rfl, hb⟩); (replace Rg := Rg.later hb); (replace Rd := Rd.later hb); (replace Re := Re.later hb); (replace Ry := Ry.later hb); (replace Rm := Rm.later hb); (replace Rn := Rn.later hb); (replace hb0 := below_step hb0 hb); go_wp2_with fail)
  refine hK.out _ _ ?hSr106_20_19 (fun hHeld2 => ?_)
  case hSr106_20_19 => (obtain ⟨m0, m1, y0, y1, Qg, Qd, Qm⟩ := hHeld; exact ⟨cell_later hb m0, cell_later hb m1, cell_later hb y0, cell_later hb y1, Qg.later hb, Qd.later hb, Qm.later hb⟩)
  clear hK K hHeld
  have hHeld := hHeld2
  clear hHeld2
  rename World => wq
  (try simp only [Act.put, nz1, nz2, nz3])
  refine tk 20 ⟨some 103, .binOp .geq 3 (.tmp 99) (.tmp 102) 3, 4, _, _, _⟩ hHeld ?_
  (try simp only [Act.put, nz1, nz2, nz3])
  refine tk 21 ⟨some 104, .pick (.tmp 96) (.tmp 103) (.const (.bool false)), 4, _, _, _⟩ hHeld ?_
  (try simp only [Act.put, nz1, nz2, nz3])
  refine tk 22 ⟨some 10, .assign (.tmp 104), 4, _, _, _⟩ hHeld ?_
  (try simp only [Act.put, nz1, nz2, nz3])
  refine wpAnyH_done (by kernel_rfl) ?_ _
  clear hHeld
  rename World => w5
  have lg := Rg.lt
  have ld := Rd.lt
  have le := Re.lt
  have ly := Ry.lt
  have lm := Rm.lt
  have ln := Rn.lt
  (try clear g0 g1 g2 g3 g4 g5 g6); obtain ⟨g0, g1, g2, g3, g4, g5, g6⟩ := row7 Rg
  (try clear d0 d1 d2 d3 d4 d5 d6 d7 d8 d9 d10 d11); obtain ⟨d0, d1, d2, d3, d4, d5, d6, d7, d8, d9, d10, d11⟩ := row12 Rd
  (try clear e0 e1 e2 e3 e4 e5 e6 e7 e8 e9 e10 e11); obtain ⟨e0, e1, e2, e3, e4, e5, e6, e7, e8, e9, e10, e11⟩ := row12 Re
  (try clear y0 y1); obtain ⟨y0, y1⟩ := row2 Ry
  (try clear m0 m1 m2 m3 m4 m5 m6 m7 m8 m9 m10 m11); obtain ⟨m0, m1, m2, m3, m4, m5, m6, m7, m8, m9, m10, m11⟩ := row12 Rm
  (try clear n0 n1 n2 n3 n4 n5 n6 n7 n8 n9 n10 n11); obtain ⟨n0, n1, n2, n3, n4, n5, n6, n7, n8, n9, n10, n11⟩ := row12 Rn
  go_wp2
  go_ret
  exact ⟨rfl, hb0⟩
set_option maxRecDepth 100000 in
set_option maxHeartbeats 32000000 in
theorem one_10x (s : Sp) (p q u v t : Px) (i j hu2 hp2 : Int) (b : Bool)
    (H0 : ∀ w, Calls Try.prog 26 #[sv s, pv p, .agg #[.int .i64 i, .int .i64 j]] w fun e w' => e = .returned (pv pz) ∧ Below w.heap.size w w')
    (H1 : ∀ w, Calls Try.prog 28 #[sv s, pv q, pv p] w fun e w' => e = .returned (.bool false) ∧ Below w.heap.size w w')
    (H2 : ∀ w, Calls Try.prog 20 #[sv s, pv q] w fun e w' => e = .returned (.bool true) ∧ Below w.heap.size w w')
    (H3 : ∀ w, Calls Try.prog 20 #[sv s, pv p] w fun e w' => e = .returned (.bool false) ∧ Below w.heap.size w w')
    (H5 : ∀ w, Calls Try.prog 22 #[sv s] w fun e w' => e = .returned (pv t) ∧ Below w.heap.size w w')
     (w : World) :
    Calls Try.prog 7 #[sv s, pv p, pv q, .int .i64 i, .int .i64 j] w fun e w' => e = .returned (.bool true) ∧ Below w.heap.size w w' := by
  have HA := alive9_t
  have qe := eql_px pz pz
  rw [decide_eq_true rfl] at qe
  unfold pz kz at *
  unfold sv pv at *
  obtain ⟨Rg, Rd, Re, hb0⟩ := three_rows w #[.int .i64 s.n, .int .i64 s.d0.kind, .int .i64 s.d0.side, .int .i64 s.d0.step, .int .i64 s.d1.kind, .int .i64 s.d1.side, .int .i64 s.d1.step] #[.int .i64 p.a0, .int .i64 p.a1, .int .i64 p.k0.kind, .int .i64 p.k0.len, .int .u64 p.k0.h, .int .u64 p.k0.l, .string ⟨p.k0.path.toArray⟩, .int .i64 p.k1.kind, .int .i64 p.k1.len, .int .u64 p.k1.h, .int .u64 p.k1.l, .string ⟨p.k1.path.toArray⟩] #[.int .i64 q.a0, .int .i64 q.a1, .int .i64 q.k0.kind, .int .i64 q.k0.len, .int .u64 q.k0.h, .int .u64 q.k0.l, .string ⟨q.k0.path.toArray⟩, .int .i64 q.k1.kind, .int .i64 q.k1.len, .int .u64 q.k1.h, .int .u64 q.k1.l, .string ⟨q.k1.path.toArray⟩] 26 33 33
  (try clear g0 g1 g2 g3 g4 g5 g6); obtain ⟨g0, g1, g2, g3, g4, g5, g6⟩ := row7 Rg
  (try clear d0 d1 d2 d3 d4 d5 d6 d7 d8 d9 d10 d11); obtain ⟨d0, d1, d2, d3, d4, d5, d6, d7, d8, d9, d10, d11⟩ := row12 Rd
  (try clear e0 e1 e2 e3 e4 e5 e6 e7 e8 e9 e10 e11); obtain ⟨e0, e1, e2, e3, e4, e5, e6, e7, e8, e9, e10, e11⟩ := row12 Re
  go_enter Try.func7, Try.ntmps7
  go_wp2_with fail
  refine (H0 _).mono ?_
  rintro e w1 ⟨rfl, hb⟩
  replace Rg := (Rg.alloc _).later hb
  replace Rd := (Rd.alloc _).later hb
  replace Re := (Re.alloc _).later hb
  have Ry := Row.later (Row.new _ _ _) hb
  simp only [World.size_alloc] at Ry
  replace hb0 := below_step (hb0.alloc hb0.size _) hb
  clear hb
  have lg := Rg.lt
  have ld := Rd.lt
  have le := Re.lt
  have ly := Ry.lt
  (try clear g0 g1 g2 g3 g4 g5 g6); obtain ⟨g0, g1, g2, g3, g4, g5, g6⟩ := row7 Rg
  (try clear d0 d1 d2 d3 d4 d5 d6 d7 d8 d9 d10 d11); obtain ⟨d0, d1, d2, d3, d4, d5, d6, d7, d8, d9, d10, d11⟩ := row12 Rd
  (try clear e0 e1 e2 e3 e4 e5 e6 e7 e8 e9 e10 e11); obtain ⟨e0, e1, e2, e3, e4, e5, e6, e7, e8, e9, e10, e11⟩ := row12 Re
  (try clear y0 y1); obtain ⟨y0, y1⟩ := row2 Ry
  go_wp2_with fail
  replace Rg := Rg.alloc (.cells #[Value.int .i64 0, Value.int .i64 0, Value.int .i64 0, Value.int .i64 0, Value.int .u64 0, Value.int .u64 0, Value.string ⟨#[]⟩, Value.int .i64 0, Value.int .i64 0, Value.int .u64 0, Value.int .u64 0, Value.string ⟨#[]⟩] 33)
  replace Rd := Rd.alloc (.cells #[Value.int .i64 0, Value.int .i64 0, Value.int .i64 0, Value.int .i64 0, Value.int .u64 0, Value.int .u64 0, Value.string ⟨#[]⟩, Value.int .i64 0, Value.int .i64 0, Value.int .u64 0, Value.int .u64 0, Value.string ⟨#[]⟩] 33)
  replace Re := Re.alloc (.cells #[Value.int .i64 0, Value.int .i64 0, Value.int .i64 0, Value.int .i64 0, Value.int .u64 0, Value.int .u64 0, Value.string ⟨#[]⟩, Value.int .i64 0, Value.int .i64 0, Value.int .u64 0, Value.int .u64 0, Value.string ⟨#[]⟩] 33)
  replace Ry := Ry.alloc (.cells #[Value.int .i64 0, Value.int .i64 0, Value.int .i64 0, Value.int .i64 0, Value.int .u64 0, Value.int .u64 0, Value.string ⟨#[]⟩, Value.int .i64 0, Value.int .i64 0, Value.int .u64 0, Value.int .u64 0, Value.string ⟨#[]⟩] 33)
  have Rm := Row.new w1 #[Value.int .i64 0, Value.int .i64 0, Value.int .i64 0, Value.int .i64 0, Value.int .u64 0, Value.int .u64 0, Value.string ⟨#[]⟩, Value.int .i64 0, Value.int .i64 0, Value.int .u64 0, Value.int .u64 0, Value.string ⟨#[]⟩] 33
  have mm := hb0.size
  replace hb0 := hb0.alloc hb0.size (.cells #[Value.int .i64 0, Value.int .i64 0, Value.int .i64 0, Value.int .i64 0, Value.int .u64 0, Value.int .u64 0, Value.string ⟨#[]⟩, Value.int .i64 0, Value.int .i64 0, Value.int .u64 0, Value.int .u64 0, Value.string ⟨#[]⟩] 33)
  (try clear g0 g1 g2 g3 g4 g5 g6); obtain ⟨g0, g1, g2, g3, g4, g5, g6⟩ := row7 Rg
  (try clear d0 d1 d2 d3 d4 d5 d6 d7 d8 d9 d10 d11); obtain ⟨d0, d1, d2, d3, d4, d5, d6, d7, d8, d9, d10, d11⟩ := row12 Rd
  (try clear e0 e1 e2 e3 e4 e5 e6 e7 e8 e9 e10 e11); obtain ⟨e0, e1, e2, e3, e4, e5, e6, e7, e8, e9, e10, e11⟩ := row12 Re
  (try clear y0 y1); obtain ⟨y0, y1⟩ := row2 Ry
  (try clear m0 m1 m2 m3 m4 m5 m6 m7 m8 m9 m10 m11); obtain ⟨m0, m1, m2, m3, m4, m5, m6, m7, m8, m9, m10, m11⟩ := row12 Rm
  refine wp_region_held_drew (S := (fun w' => w'.cell? ⟨w.heap.size + 1 + 1, 0, none⟩ = some (Value.int .i64 q.a0) ∧ w'.cell? ⟨w.heap.size + 1 + 1, 1, none⟩ = some (Value.int .i64 q.a1) ∧ Row w' w.heap.size #[.int .i64 s.n, .int .i64 s.d0.kind, .int .i64 s.d0.side, .int .i64 s.d0.step, .int .i64 s.d1.kind, .int .i64 s.d1.side, .int .i64 s.d1.step] 26 ∧ Row w' (w.heap.size + 1) #[.int .i64 p.a0, .int .i64 p.a1, .int .i64 p.k0.kind, .int .i64 p.k0.len, .int .u64 p.k0.h, .int .u64 p.k0.l, .string ⟨p.k0.path.toArray⟩, .int .i64 p.k1.kind, .int .i64 p.k1.len, .int .u64 p.k1.h, .int .u64 p.k1.l, .string ⟨p.k1.path.toArray⟩] 33 ∧ Row w' (w.heap.size + 1 + 1) #[.int .i64 q.a0, .int .i64 q.a1, .int .i64 q.k0.kind, .int .i64 q.k0.len, .int .u64 q.k0.h, .int .u64 q.k0.l, .string ⟨q.k0.path.toArray⟩, .int .i64 q.k1.kind, .int .i64 q.k1.len, .int .u64 q.k1.h, .int .u64 q.k1.l, .string ⟨q.k1.path.toArray⟩] 33)) (by kernel_rfl) ?hSr107_ (fun hHeld => ?_)
  case hSr107_ => (exact ⟨e0, e1, Rg.drew, Rd.drew, Re.drew⟩)
  (clear g0 g1 g2 g3 g4 g5 g6 d0 d1 d2 d3 d4 d5 d6 d7 d8 d9 d10 d11 e0 e1 e2 e3 e4 e5 e6 e7 e8 e9 e10 e11 y0 y1 m0 m1 m2 m3 m4 m5 m6 m7 m8 m9 m10 m11; (replace Rg := Rg.drew); (replace Rd := Rd.drew); (replace Re := Re.drew); (replace Ry := Ry.drew); (replace Rm := Rm.drew); (replace hb0 := hb0.drew); (generalize World.drew (World.alloc w1 (.cells #[Value.int .i64 0, Value.int .i64 0, Value.int .i64 0, Value.int .i64 0, Value.int .u64 0, Value.int .u64 0, Value.string ⟨#[]⟩, Value.int .i64 0, Value.int .i64 0, Value.int .u64 0, Value.int .u64 0, Value.string ⟨#[]⟩] 33)) = wq at *))
  refine tk 0 ⟨some 21, .load 26 (.tmp 5), 26, _, _, _⟩ hHeld ?_ (v := ?vr107_1_0) (hy := ?yr107_1_0)
  case yr107_1_0 => (intro wy hSw; obtain ⟨e0, e1, Qg, Qd, Qe⟩ := hSw; (with_reducible refine pexec_load 26 (.tmp 5) ?_ w.heap.size ?_ 26 #[.int .i64 s.n, .int .i64 s.d0.kind, .int .i64 s.d0.side, .int .i64 s.d0.step, .int .i64 s.d1.kind, .int .i64 s.d1.side, .int .i64 s.d1.step] _ Qg Try.underlying26 ?_ ?_) <;> first | rfl | exact infoSp)
  (try simp only [Act.put, nz1, nz2, nz3])
  refine tk 1 ⟨some 22, .load 33 (.tmp 7), 33, _, _, _⟩ hHeld ?_ (v := ?vr107_2_1) (hy := ?yr107_2_1)
  case yr107_2_1 => (intro wy hSw; obtain ⟨e0, e1, Qg, Qd, Qe⟩ := hSw; (with_reducible refine pexec_load 33 (.tmp 7) ?_ (w.heap.size + 1 + 1) ?_ 33 #[.int .i64 q.a0, .int .i64 q.a1, .int .i64 q.k0.kind, .int .i64 q.k0.len, .int .u64 q.k0.h, .int .u64 q.k0.l, .string ⟨q.k0.path.toArray⟩, .int .i64 q.k1.kind, .int .i64 q.k1.len, .int .u64 q.k1.h, .int .u64 q.k1.l, .string ⟨q.k1.path.toArray⟩] _ Qe Try.underlying33 ?_ ?_) <;> first | rfl | exact infoPx)
  (try simp only [Act.put, nz1, nz2, nz3])
  refine tk 2 ⟨some 23, .load 33 (.tmp 6), 33, _, _, _⟩ hHeld ?_ (v := ?vr107_3_2) (hy := ?yr107_3_2)
  case yr107_3_2 => (intro wy hSw; obtain ⟨e0, e1, Qg, Qd, Qe⟩ := hSw; (with_reducible refine pexec_load 33 (.tmp 6) ?_ (w.heap.size + 1) ?_ 33 #[.int .i64 p.a0, .int .i64 p.a1, .int .i64 p.k0.kind, .int .i64 p.k0.len, .int .u64 p.k0.h, .int .u64 p.k0.l, .string ⟨p.k0.path.toArray⟩, .int .i64 p.k1.kind, .int .i64 p.k1.len, .int .u64 p.k1.h, .int .u64 p.k1.l, .string ⟨p.k1.path.toArray⟩] _ Qd Try.underlying33 ?_ ?_) <;> first | rfl | exact infoPx)
  (try simp only [Act.put, nz1, nz2, nz3])
  refine tk 4 ⟨some 25, .load 26 (.tmp 5), 26, _, _, _⟩ hHeld ?_ (v := ?vr107_4_4) (hy := ?yr107_4_4)
  case yr107_4_4 => (intro wy hSw; obtain ⟨e0, e1, Qg, Qd, Qe⟩ := hSw; (with_reducible refine pexec_load 26 (.tmp 5) ?_ w.heap.size ?_ 26 #[.int .i64 s.n, .int .i64 s.d0.kind, .int .i64 s.d0.side, .int .i64 s.d0.step, .int .i64 s.d1.kind, .int .i64 s.d1.side, .int .i64 s.d1.step] _ Qg Try.underlying26 ?_ ?_) <;> first | rfl | exact infoSp)
  (try simp only [Act.put, nz1, nz2, nz3])
  refine tk 5 ⟨some 26, .load 33 (.tmp 7), 33, _, _, _⟩ hHeld ?_ (v := ?vr107_5_5) (hy := ?yr107_5_5)
  case yr107_5_5 => (intro wy hSw; obtain ⟨e0, e1, Qg, Qd, Qe⟩ := hSw; (with_reducible refine pexec_load 33 (.tmp 7) ?_ (w.heap.size + 1 + 1) ?_ 33 #[.int .i64 q.a0, .int .i64 q.a1, .int .i64 q.k0.kind, .int .i64 q.k0.len, .int .u64 q.k0.h, .int .u64 q.k0.l, .string ⟨q.k0.path.toArray⟩, .int .i64 q.k1.kind, .int .i64 q.k1.len, .int .u64 q.k1.h, .int .u64 q.k1.l, .string ⟨q.k1.path.toArray⟩] _ Qe Try.underlying33 ?_ ?_) <;> first | rfl | exact infoPx)
  (try simp only [Act.put, nz1, nz2, nz3])
  refine wpAnyH_ready (rs := [3]) (by kernel_rfl) (by simp) ?_
  refine AllReadyH.cons (o := ⟨some 24, .call { callee := .value (.func 28), args := #[.tmp 21, .tmp 22, .tmp 23], argTypes := #[26, 33, 33] }, 4, _, _, _⟩) rfl (fun K hK => ?_) AllReadyH.nil
  (go_simp; (refine (H1 _).mono ?_); (rintro e wz ⟨rfl, hb⟩); (replace Rg := Rg.later hb); (replace Rd := Rd.later hb); (replace Re := Re.later hb); (replace Ry := Ry.later hb); (replace Rm := Rm.later hb); (replace hb0 := below_step hb0 hb); go_wp2_with fail)
  refine hK.out _ _ ?hSr107_6_3 (fun hHeld2 => ?_)
  case hSr107_6_3 => (obtain ⟨e0, e1, Qg, Qd, Qe⟩ := hHeld; exact ⟨cell_later hb e0, cell_later hb e1, Qg.later hb, Qd.later hb, Qe.later hb⟩)
  clear hK K hHeld
  have hHeld := hHeld2
  clear hHeld2
  rename World => wq
  (try simp only [Act.put, nz1, nz2, nz3])
  refine wpAnyH_ready (rs := [6]) (by kernel_rfl) (by simp) ?_
  refine AllReadyH.cons (o := ⟨some 27, .call { callee := .value (.func 20), args := #[.tmp 25, .tmp 26], argTypes := #[26, 33] }, 4, _, _, _⟩) rfl (fun K hK => ?_) AllReadyH.nil
  (go_simp; (refine (H2 _).mono ?_); (rintro e wz ⟨rfl, hb⟩); (replace Rg := Rg.later hb); (replace Rd := Rd.later hb); (replace Re := Re.later hb); (replace Ry := Ry.later hb); (replace Rm := Rm.later hb); (replace hb0 := below_step hb0 hb); go_wp2_with fail)
  refine hK.out _ _ ?hSr107_7_6 (fun hHeld2 => ?_)
  case hSr107_7_6 => (obtain ⟨e0, e1, Qg, Qd, Qe⟩ := hHeld; exact ⟨cell_later hb e0, cell_later hb e1, Qg.later hb, Qd.later hb, Qe.later hb⟩)
  clear hK K hHeld
  have hHeld := hHeld2
  clear hHeld2
  rename World => wq
  (try simp only [Act.put, nz1, nz2, nz3])
  refine tk 7 ⟨some 28, .move (.tmp 27), 4, _, _, _⟩ hHeld ?_
  (try simp only [Act.put, nz1, nz2, nz3])
  refine tk 8 ⟨some 29, .load 26 (.tmp 5), 26, _, _, _⟩ hHeld ?_ (v := ?vr107_9_8) (hy := ?yr107_9_8)
  case yr107_9_8 => (intro wy hSw; obtain ⟨e0, e1, Qg, Qd, Qe⟩ := hSw; (with_reducible refine pexec_load 26 (.tmp 5) ?_ w.heap.size ?_ 26 #[.int .i64 s.n, .int .i64 s.d0.kind, .int .i64 s.d0.side, .int .i64 s.d0.step, .int .i64 s.d1.kind, .int .i64 s.d1.side, .int .i64 s.d1.step] _ Qg Try.underlying26 ?_ ?_) <;> first | rfl | exact infoSp)
  (try simp only [Act.put, nz1, nz2, nz3])
  refine tk 9 ⟨some 30, .load 33 (.tmp 6), 33, _, _, _⟩ hHeld ?_ (v := ?vr107_10_9) (hy := ?yr107_10_9)
  case yr107_10_9 => (intro wy hSw; obtain ⟨e0, e1, Qg, Qd, Qe⟩ := hSw; (with_reducible refine pexec_load 33 (.tmp 6) ?_ (w.heap.size + 1) ?_ 33 #[.int .i64 p.a0, .int .i64 p.a1, .int .i64 p.k0.kind, .int .i64 p.k0.len, .int .u64 p.k0.h, .int .u64 p.k0.l, .string ⟨p.k0.path.toArray⟩, .int .i64 p.k1.kind, .int .i64 p.k1.len, .int .u64 p.k1.h, .int .u64 p.k1.l, .string ⟨p.k1.path.toArray⟩] _ Qd Try.underlying33 ?_ ?_) <;> first | rfl | exact infoPx)
  (try simp only [Act.put, nz1, nz2, nz3])
  refine wpAnyH_ready (rs := [10]) (by kernel_rfl) (by simp) ?_
  refine AllReadyH.cons (o := ⟨some 31, .call { callee := .value (.func 20), args := #[.tmp 29, .tmp 30], argTypes := #[26, 33] }, 4, _, _, _⟩) rfl (fun K hK => ?_) AllReadyH.nil
  (go_simp; (refine (H3 _).mono ?_); (rintro e wz ⟨rfl, hb⟩); (replace Rg := Rg.later hb); (replace Rd := Rd.later hb); (replace Re := Re.later hb); (replace Ry := Ry.later hb); (replace Rm := Rm.later hb); (replace hb0 := below_step hb0 hb); go_wp2_with fail)
  refine hK.out _ _ ?hSr107_11_10 (fun hHeld2 => ?_)
  case hSr107_11_10 => (obtain ⟨e0, e1, Qg, Qd, Qe⟩ := hHeld; exact ⟨cell_later hb e0, cell_later hb e1, Qg.later hb, Qd.later hb, Qe.later hb⟩)
  clear hK K hHeld
  have hHeld := hHeld2
  clear hHeld2
  rename World => wq
  (try simp only [Act.put, nz1, nz2, nz3])
  refine tk 11 ⟨some 32, .pick (.tmp 28) (.tmp 31) (.const (.bool false)), 4, _, _, _⟩ hHeld ?_
  (try simp only [Act.put, nz1, nz2, nz3])
  refine tk 12 ⟨some 33, .move (.tmp 32), 4, _, _, _⟩ hHeld ?_
  (try simp only [Act.put, nz1, nz2, nz3])
  refine ts 13 ⟨some 34, .load 26 (.tmp 5), 26, _, _, _⟩ hHeld ?_
  (try simp only [Act.put, nz1, nz2, nz3])
  refine ts 14 ⟨some 35, .load 33 (.tmp 6), 33, _, _, _⟩ hHeld ?_
  (try simp only [Act.put, nz1, nz2, nz3])
  refine ts 15 ⟨some 36, .fieldAddr 33 (.tmp 7) 0, 0, _, _, _⟩ hHeld ?_
  (try simp only [Act.put, nz1, nz2, nz3])
  refine ts 16 ⟨some 37, .load 27 (.tmp 36), 27, _, _, _⟩ hHeld ?_
  (try simp only [Act.put, nz1, nz2, nz3])
  refine ts 17 ⟨some 38, .call { callee := .value (.func 26), args := #[.tmp 34, .tmp 35, .tmp 37], argTypes := #[26, 33, 27] }, 33, _, _, _⟩ hHeld ?_
  (try simp only [Act.put, nz1, nz2, nz3])
  refine ts 18 ⟨some 39, .load 33 (.tmp 7), 33, _, _, _⟩ hHeld ?_
  (try simp only [Act.put, nz1, nz2, nz3])
  refine ts 19 ⟨some 40, .binOp .eql 33 (.tmp 38) (.tmp 39) 33, 4, _, _, _⟩ hHeld ?_
  (try simp only [Act.put, nz1, nz2, nz3])
  refine tk 20 ⟨some 41, .pick (.tmp 33) (.tmp 40) (.const (.bool false)), 4, _, _, _⟩ hHeld ?_
  (try simp only [Act.put, nz1, nz2, nz3])
  refine tk 21 ⟨some 42, .binOp .neq 4 (.tmp 24) (.tmp 41) 4, 4, _, _, _⟩ hHeld ?_
  (try simp only [Act.put, nz1, nz2, nz3])
  refine wpAnyH_done (by kernel_rfl) ?_ _
  clear hHeld
  rename World => w2
  have lg := Rg.lt
  have ld := Rd.lt
  have le := Re.lt
  have ly := Ry.lt
  have lm := Rm.lt
  (try clear g0 g1 g2 g3 g4 g5 g6); obtain ⟨g0, g1, g2, g3, g4, g5, g6⟩ := row7 Rg
  (try clear d0 d1 d2 d3 d4 d5 d6 d7 d8 d9 d10 d11); obtain ⟨d0, d1, d2, d3, d4, d5, d6, d7, d8, d9, d10, d11⟩ := row12 Rd
  (try clear e0 e1 e2 e3 e4 e5 e6 e7 e8 e9 e10 e11); obtain ⟨e0, e1, e2, e3, e4, e5, e6, e7, e8, e9, e10, e11⟩ := row12 Re
  (try clear y0 y1); obtain ⟨y0, y1⟩ := row2 Ry
  (try clear m0 m1 m2 m3 m4 m5 m6 m7 m8 m9 m10 m11); obtain ⟨m0, m1, m2, m3, m4, m5, m6, m7, m8, m9, m10, m11⟩ := row12 Rm
  go_wp2_with fail
  refine (H5 _).mono ?_
  rintro e w3 ⟨rfl, hb⟩
  replace Rg := Rg.later hb
  replace Rd := Rd.later hb
  replace Re := Re.later hb
  replace Ry := Ry.later hb
  replace Rm := Rm.later hb
  replace hb0 := below_step hb0 hb
  clear hb
  have lg := Rg.lt
  have ld := Rd.lt
  have le := Re.lt
  have ly := Ry.lt
  have lm := Rm.lt
  (try clear g0 g1 g2 g3 g4 g5 g6); obtain ⟨g0, g1, g2, g3, g4, g5, g6⟩ := row7 Rg
  (try clear d0 d1 d2 d3 d4 d5 d6 d7 d8 d9 d10 d11); obtain ⟨d0, d1, d2, d3, d4, d5, d6, d7, d8, d9, d10, d11⟩ := row12 Rd
  (try clear e0 e1 e2 e3 e4 e5 e6 e7 e8 e9 e10 e11); obtain ⟨e0, e1, e2, e3, e4, e5, e6, e7, e8, e9, e10, e11⟩ := row12 Re
  (try clear y0 y1); obtain ⟨y0, y1⟩ := row2 Ry
  (try clear m0 m1 m2 m3 m4 m5 m6 m7 m8 m9 m10 m11); obtain ⟨m0, m1, m2, m3, m4, m5, m6, m7, m8, m9, m10, m11⟩ := row12 Rm
  go_wp2_with fail
  refine (H3 _).mono ?_
  rintro e w4 ⟨rfl, hb⟩
  have nng := Rg.lt
  have nnd := Rd.lt
  have nne := Re.lt
  have nny := Ry.lt
  have nnm := Rm.lt
  replace Rg := (Rg.alloc _).later hb
  replace Rd := (Rd.alloc _).later hb
  replace Re := (Re.alloc _).later hb
  replace Ry := (Ry.alloc _).later hb
  replace Rm := (Rm.alloc _).later hb
  have Rn := Row.later (Row.new _ _ _) hb
  have mn := hb0.size
  replace hb0 := below_step (hb0.alloc hb0.size _) hb
  clear hb
  generalize w3.heap.size = gn at *
  have lg := Rg.lt
  have ld := Rd.lt
  have le := Re.lt
  have ly := Ry.lt
  have lm := Rm.lt
  have ln := Rn.lt
  (try clear g0 g1 g2 g3 g4 g5 g6); obtain ⟨g0, g1, g2, g3, g4, g5, g6⟩ := row7 Rg
  (try clear d0 d1 d2 d3 d4 d5 d6 d7 d8 d9 d10 d11); obtain ⟨d0, d1, d2, d3, d4, d5, d6, d7, d8, d9, d10, d11⟩ := row12 Rd
  (try clear e0 e1 e2 e3 e4 e5 e6 e7 e8 e9 e10 e11); obtain ⟨e0, e1, e2, e3, e4, e5, e6, e7, e8, e9, e10, e11⟩ := row12 Re
  (try clear y0 y1); obtain ⟨y0, y1⟩ := row2 Ry
  (try clear m0 m1 m2 m3 m4 m5 m6 m7 m8 m9 m10 m11); obtain ⟨m0, m1, m2, m3, m4, m5, m6, m7, m8, m9, m10, m11⟩ := row12 Rm
  (try clear n0 n1 n2 n3 n4 n5 n6 n7 n8 n9 n10 n11); obtain ⟨n0, n1, n2, n3, n4, n5, n6, n7, n8, n9, n10, n11⟩ := row12 Rn
  go_wp2_with fail
  refine (HA _).mono ?_
  rintro e w5 ⟨rfl, hb⟩
  replace Rg := Rg.later hb
  replace Rd := Rd.later hb
  replace Re := Re.later hb
  replace Ry := Ry.later hb
  replace Rm := Rm.later hb
  replace Rn := Rn.later hb
  replace hb0 := below_step hb0 hb
  clear hb
  have lg := Rg.lt
  have ld := Rd.lt
  have le := Re.lt
  have ly := Ry.lt
  have lm := Rm.lt
  have ln := Rn.lt
  (try clear g0 g1 g2 g3 g4 g5 g6); obtain ⟨g0, g1, g2, g3, g4, g5, g6⟩ := row7 Rg
  (try clear d0 d1 d2 d3 d4 d5 d6 d7 d8 d9 d10 d11); obtain ⟨d0, d1, d2, d3, d4, d5, d6, d7, d8, d9, d10, d11⟩ := row12 Rd
  (try clear e0 e1 e2 e3 e4 e5 e6 e7 e8 e9 e10 e11); obtain ⟨e0, e1, e2, e3, e4, e5, e6, e7, e8, e9, e10, e11⟩ := row12 Re
  (try clear y0 y1); obtain ⟨y0, y1⟩ := row2 Ry
  (try clear m0 m1 m2 m3 m4 m5 m6 m7 m8 m9 m10 m11); obtain ⟨m0, m1, m2, m3, m4, m5, m6, m7, m8, m9, m10, m11⟩ := row12 Rm
  (try clear n0 n1 n2 n3 n4 n5 n6 n7 n8 n9 n10 n11); obtain ⟨n0, n1, n2, n3, n4, n5, n6, n7, n8, n9, n10, n11⟩ := row12 Rn
  go_wp2
  go_ret
  exact ⟨rfl, hb0⟩
set_option maxRecDepth 100000 in
set_option maxHeartbeats 32000000 in
theorem one_11a (s : Sp) (p q u v t : Px) (i j hu2 hp2 : Int) (b : Bool)
    (H0 : ∀ w, Calls Try.prog 26 #[sv s, pv p, .agg #[.int .i64 i, .int .i64 j]] w fun e w' => e = .returned (pv pz) ∧ Below w.heap.size w w')
    (H1 : ∀ w, Calls Try.prog 28 #[sv s, pv q, pv p] w fun e w' => e = .returned (.bool b) ∧ Below w.heap.size w w')
    (H2 : ∀ w, Calls Try.prog 20 #[sv s, pv q] w fun e w' => e = .returned (.bool true) ∧ Below w.heap.size w w')
    (H3 : ∀ w, Calls Try.prog 20 #[sv s, pv p] w fun e w' => e = .returned (.bool true) ∧ Below w.heap.size w w')
    (H5 : ∀ w, Calls Try.prog 22 #[sv s] w fun e w' => e = .returned (pv t) ∧ Below w.heap.size w w')
    (H4 : ∀ w, Calls Try.prog 26 #[sv s, pv p, .agg #[.int .i64 q.a0, .int .i64 q.a1]] w fun e w' => e = .returned (pv v) ∧ Below w.heap.size w w')
    (hb : decide (v = q) = b)
    (g0 : i < p.a0) (w : World) :
    Calls Try.prog 7 #[sv s, pv p, pv q, .int .i64 i, .int .i64 j] w fun e w' => e = .returned (.bool true) ∧ Below w.heap.size w w' := by
  have HA := alive9_t
  have qe := eql_px pz pz
  rw [decide_eq_true rfl] at qe
  have qv := eql_px v q
  rw [hb] at qv
  clear hb
  have g0' : decide (i < p.a0) = true := decide_eq_true g0
  unfold pz kz at *
  unfold sv pv at *
  obtain ⟨Rg, Rd, Re, hb0⟩ := three_rows w #[.int .i64 s.n, .int .i64 s.d0.kind, .int .i64 s.d0.side, .int .i64 s.d0.step, .int .i64 s.d1.kind, .int .i64 s.d1.side, .int .i64 s.d1.step] #[.int .i64 p.a0, .int .i64 p.a1, .int .i64 p.k0.kind, .int .i64 p.k0.len, .int .u64 p.k0.h, .int .u64 p.k0.l, .string ⟨p.k0.path.toArray⟩, .int .i64 p.k1.kind, .int .i64 p.k1.len, .int .u64 p.k1.h, .int .u64 p.k1.l, .string ⟨p.k1.path.toArray⟩] #[.int .i64 q.a0, .int .i64 q.a1, .int .i64 q.k0.kind, .int .i64 q.k0.len, .int .u64 q.k0.h, .int .u64 q.k0.l, .string ⟨q.k0.path.toArray⟩, .int .i64 q.k1.kind, .int .i64 q.k1.len, .int .u64 q.k1.h, .int .u64 q.k1.l, .string ⟨q.k1.path.toArray⟩] 26 33 33
  (try clear g0 g1 g2 g3 g4 g5 g6); obtain ⟨g0, g1, g2, g3, g4, g5, g6⟩ := row7 Rg
  (try clear d0 d1 d2 d3 d4 d5 d6 d7 d8 d9 d10 d11); obtain ⟨d0, d1, d2, d3, d4, d5, d6, d7, d8, d9, d10, d11⟩ := row12 Rd
  (try clear e0 e1 e2 e3 e4 e5 e6 e7 e8 e9 e10 e11); obtain ⟨e0, e1, e2, e3, e4, e5, e6, e7, e8, e9, e10, e11⟩ := row12 Re
  go_enter Try.func7, Try.ntmps7
  go_wp2_with fail
  refine (H0 _).mono ?_
  rintro e w1 ⟨rfl, hb⟩
  replace Rg := (Rg.alloc _).later hb
  replace Rd := (Rd.alloc _).later hb
  replace Re := (Re.alloc _).later hb
  have Ry := Row.later (Row.new _ _ _) hb
  simp only [World.size_alloc] at Ry
  replace hb0 := below_step (hb0.alloc hb0.size _) hb
  clear hb
  have lg := Rg.lt
  have ld := Rd.lt
  have le := Re.lt
  have ly := Ry.lt
  (try clear g0 g1 g2 g3 g4 g5 g6); obtain ⟨g0, g1, g2, g3, g4, g5, g6⟩ := row7 Rg
  (try clear d0 d1 d2 d3 d4 d5 d6 d7 d8 d9 d10 d11); obtain ⟨d0, d1, d2, d3, d4, d5, d6, d7, d8, d9, d10, d11⟩ := row12 Rd
  (try clear e0 e1 e2 e3 e4 e5 e6 e7 e8 e9 e10 e11); obtain ⟨e0, e1, e2, e3, e4, e5, e6, e7, e8, e9, e10, e11⟩ := row12 Re
  (try clear y0 y1); obtain ⟨y0, y1⟩ := row2 Ry
  go_wp2_with fail
  replace Rg := Rg.alloc (.cells #[Value.int .i64 0, Value.int .i64 0, Value.int .i64 0, Value.int .i64 0, Value.int .u64 0, Value.int .u64 0, Value.string ⟨#[]⟩, Value.int .i64 0, Value.int .i64 0, Value.int .u64 0, Value.int .u64 0, Value.string ⟨#[]⟩] 33)
  replace Rd := Rd.alloc (.cells #[Value.int .i64 0, Value.int .i64 0, Value.int .i64 0, Value.int .i64 0, Value.int .u64 0, Value.int .u64 0, Value.string ⟨#[]⟩, Value.int .i64 0, Value.int .i64 0, Value.int .u64 0, Value.int .u64 0, Value.string ⟨#[]⟩] 33)
  replace Re := Re.alloc (.cells #[Value.int .i64 0, Value.int .i64 0, Value.int .i64 0, Value.int .i64 0, Value.int .u64 0, Value.int .u64 0, Value.string ⟨#[]⟩, Value.int .i64 0, Value.int .i64 0, Value.int .u64 0, Value.int .u64 0, Value.string ⟨#[]⟩] 33)
  replace Ry := Ry.alloc (.cells #[Value.int .i64 0, Value.int .i64 0, Value.int .i64 0, Value.int .i64 0, Value.int .u64 0, Value.int .u64 0, Value.string ⟨#[]⟩, Value.int .i64 0, Value.int .i64 0, Value.int .u64 0, Value.int .u64 0, Value.string ⟨#[]⟩] 33)
  have Rm := Row.new w1 #[Value.int .i64 0, Value.int .i64 0, Value.int .i64 0, Value.int .i64 0, Value.int .u64 0, Value.int .u64 0, Value.string ⟨#[]⟩, Value.int .i64 0, Value.int .i64 0, Value.int .u64 0, Value.int .u64 0, Value.string ⟨#[]⟩] 33
  have mm := hb0.size
  replace hb0 := hb0.alloc hb0.size (.cells #[Value.int .i64 0, Value.int .i64 0, Value.int .i64 0, Value.int .i64 0, Value.int .u64 0, Value.int .u64 0, Value.string ⟨#[]⟩, Value.int .i64 0, Value.int .i64 0, Value.int .u64 0, Value.int .u64 0, Value.string ⟨#[]⟩] 33)
  (try clear g0 g1 g2 g3 g4 g5 g6); obtain ⟨g0, g1, g2, g3, g4, g5, g6⟩ := row7 Rg
  (try clear d0 d1 d2 d3 d4 d5 d6 d7 d8 d9 d10 d11); obtain ⟨d0, d1, d2, d3, d4, d5, d6, d7, d8, d9, d10, d11⟩ := row12 Rd
  (try clear e0 e1 e2 e3 e4 e5 e6 e7 e8 e9 e10 e11); obtain ⟨e0, e1, e2, e3, e4, e5, e6, e7, e8, e9, e10, e11⟩ := row12 Re
  (try clear y0 y1); obtain ⟨y0, y1⟩ := row2 Ry
  (try clear m0 m1 m2 m3 m4 m5 m6 m7 m8 m9 m10 m11); obtain ⟨m0, m1, m2, m3, m4, m5, m6, m7, m8, m9, m10, m11⟩ := row12 Rm
  refine wp_region_held_drew (S := (fun w' => w'.cell? ⟨w.heap.size + 1 + 1, 0, none⟩ = some (Value.int .i64 q.a0) ∧ w'.cell? ⟨w.heap.size + 1 + 1, 1, none⟩ = some (Value.int .i64 q.a1) ∧ Row w' w.heap.size #[.int .i64 s.n, .int .i64 s.d0.kind, .int .i64 s.d0.side, .int .i64 s.d0.step, .int .i64 s.d1.kind, .int .i64 s.d1.side, .int .i64 s.d1.step] 26 ∧ Row w' (w.heap.size + 1) #[.int .i64 p.a0, .int .i64 p.a1, .int .i64 p.k0.kind, .int .i64 p.k0.len, .int .u64 p.k0.h, .int .u64 p.k0.l, .string ⟨p.k0.path.toArray⟩, .int .i64 p.k1.kind, .int .i64 p.k1.len, .int .u64 p.k1.h, .int .u64 p.k1.l, .string ⟨p.k1.path.toArray⟩] 33 ∧ Row w' (w.heap.size + 1 + 1) #[.int .i64 q.a0, .int .i64 q.a1, .int .i64 q.k0.kind, .int .i64 q.k0.len, .int .u64 q.k0.h, .int .u64 q.k0.l, .string ⟨q.k0.path.toArray⟩, .int .i64 q.k1.kind, .int .i64 q.k1.len, .int .u64 q.k1.h, .int .u64 q.k1.l, .string ⟨q.k1.path.toArray⟩] 33)) (by kernel_rfl) ?hSr108_ (fun hHeld => ?_)
  case hSr108_ => (exact ⟨e0, e1, Rg.drew, Rd.drew, Re.drew⟩)
  (clear g0 g1 g2 g3 g4 g5 g6 d0 d1 d2 d3 d4 d5 d6 d7 d8 d9 d10 d11 e0 e1 e2 e3 e4 e5 e6 e7 e8 e9 e10 e11 y0 y1 m0 m1 m2 m3 m4 m5 m6 m7 m8 m9 m10 m11; (replace Rg := Rg.drew); (replace Rd := Rd.drew); (replace Re := Re.drew); (replace Ry := Ry.drew); (replace Rm := Rm.drew); (replace hb0 := hb0.drew); (generalize World.drew (World.alloc w1 (.cells #[Value.int .i64 0, Value.int .i64 0, Value.int .i64 0, Value.int .i64 0, Value.int .u64 0, Value.int .u64 0, Value.string ⟨#[]⟩, Value.int .i64 0, Value.int .i64 0, Value.int .u64 0, Value.int .u64 0, Value.string ⟨#[]⟩] 33)) = wq at *))
  refine tk 0 ⟨some 21, .load 26 (.tmp 5), 26, _, _, _⟩ hHeld ?_ (v := ?vr108_1_0) (hy := ?yr108_1_0)
  case yr108_1_0 => (intro wy hSw; obtain ⟨e0, e1, Qg, Qd, Qe⟩ := hSw; (with_reducible refine pexec_load 26 (.tmp 5) ?_ w.heap.size ?_ 26 #[.int .i64 s.n, .int .i64 s.d0.kind, .int .i64 s.d0.side, .int .i64 s.d0.step, .int .i64 s.d1.kind, .int .i64 s.d1.side, .int .i64 s.d1.step] _ Qg Try.underlying26 ?_ ?_) <;> first | rfl | exact infoSp)
  (try simp only [Act.put, nz1, nz2, nz3])
  refine tk 1 ⟨some 22, .load 33 (.tmp 7), 33, _, _, _⟩ hHeld ?_ (v := ?vr108_2_1) (hy := ?yr108_2_1)
  case yr108_2_1 => (intro wy hSw; obtain ⟨e0, e1, Qg, Qd, Qe⟩ := hSw; (with_reducible refine pexec_load 33 (.tmp 7) ?_ (w.heap.size + 1 + 1) ?_ 33 #[.int .i64 q.a0, .int .i64 q.a1, .int .i64 q.k0.kind, .int .i64 q.k0.len, .int .u64 q.k0.h, .int .u64 q.k0.l, .string ⟨q.k0.path.toArray⟩, .int .i64 q.k1.kind, .int .i64 q.k1.len, .int .u64 q.k1.h, .int .u64 q.k1.l, .string ⟨q.k1.path.toArray⟩] _ Qe Try.underlying33 ?_ ?_) <;> first | rfl | exact infoPx)
  (try simp only [Act.put, nz1, nz2, nz3])
  refine tk 2 ⟨some 23, .load 33 (.tmp 6), 33, _, _, _⟩ hHeld ?_ (v := ?vr108_3_2) (hy := ?yr108_3_2)
  case yr108_3_2 => (intro wy hSw; obtain ⟨e0, e1, Qg, Qd, Qe⟩ := hSw; (with_reducible refine pexec_load 33 (.tmp 6) ?_ (w.heap.size + 1) ?_ 33 #[.int .i64 p.a0, .int .i64 p.a1, .int .i64 p.k0.kind, .int .i64 p.k0.len, .int .u64 p.k0.h, .int .u64 p.k0.l, .string ⟨p.k0.path.toArray⟩, .int .i64 p.k1.kind, .int .i64 p.k1.len, .int .u64 p.k1.h, .int .u64 p.k1.l, .string ⟨p.k1.path.toArray⟩] _ Qd Try.underlying33 ?_ ?_) <;> first | rfl | exact infoPx)
  (try simp only [Act.put, nz1, nz2, nz3])
  refine tk 4 ⟨some 25, .load 26 (.tmp 5), 26, _, _, _⟩ hHeld ?_ (v := ?vr108_4_4) (hy := ?yr108_4_4)
  case yr108_4_4 => (intro wy hSw; obtain ⟨e0, e1, Qg, Qd, Qe⟩ := hSw; (with_reducible refine pexec_load 26 (.tmp 5) ?_ w.heap.size ?_ 26 #[.int .i64 s.n, .int .i64 s.d0.kind, .int .i64 s.d0.side, .int .i64 s.d0.step, .int .i64 s.d1.kind, .int .i64 s.d1.side, .int .i64 s.d1.step] _ Qg Try.underlying26 ?_ ?_) <;> first | rfl | exact infoSp)
  (try simp only [Act.put, nz1, nz2, nz3])
  refine tk 5 ⟨some 26, .load 33 (.tmp 7), 33, _, _, _⟩ hHeld ?_ (v := ?vr108_5_5) (hy := ?yr108_5_5)
  case yr108_5_5 => (intro wy hSw; obtain ⟨e0, e1, Qg, Qd, Qe⟩ := hSw; (with_reducible refine pexec_load 33 (.tmp 7) ?_ (w.heap.size + 1 + 1) ?_ 33 #[.int .i64 q.a0, .int .i64 q.a1, .int .i64 q.k0.kind, .int .i64 q.k0.len, .int .u64 q.k0.h, .int .u64 q.k0.l, .string ⟨q.k0.path.toArray⟩, .int .i64 q.k1.kind, .int .i64 q.k1.len, .int .u64 q.k1.h, .int .u64 q.k1.l, .string ⟨q.k1.path.toArray⟩] _ Qe Try.underlying33 ?_ ?_) <;> first | rfl | exact infoPx)
  (try simp only [Act.put, nz1, nz2, nz3])
  refine wpAnyH_ready (rs := [3]) (by kernel_rfl) (by simp) ?_
  refine AllReadyH.cons (o := ⟨some 24, .call { callee := .value (.func 28), args := #[.tmp 21, .tmp 22, .tmp 23], argTypes := #[26, 33, 33] }, 4, _, _, _⟩) rfl (fun K hK => ?_) AllReadyH.nil
  (go_simp; (refine (H1 _).mono ?_); (rintro e wz ⟨rfl, hb⟩); (replace Rg := Rg.later hb); (replace Rd := Rd.later hb); (replace Re := Re.later hb); (replace Ry := Ry.later hb); (replace Rm := Rm.later hb); (replace hb0 := below_step hb0 hb); go_wp2_with fail)
  refine hK.out _ _ ?hSr108_6_3 (fun hHeld2 => ?_)
  case hSr108_6_3 => (obtain ⟨e0, e1, Qg, Qd, Qe⟩ := hHeld; exact ⟨cell_later hb e0, cell_later hb e1, Qg.later hb, Qd.later hb, Qe.later hb⟩)
  clear hK K hHeld
  have hHeld := hHeld2
  clear hHeld2
  rename World => wq
  (try simp only [Act.put, nz1, nz2, nz3])
  refine wpAnyH_ready (rs := [6]) (by kernel_rfl) (by simp) ?_
  refine AllReadyH.cons (o := ⟨some 27, .call { callee := .value (.func 20), args := #[.tmp 25, .tmp 26], argTypes := #[26, 33] }, 4, _, _, _⟩) rfl (fun K hK => ?_) AllReadyH.nil
  (go_simp; (refine (H2 _).mono ?_); (rintro e wz ⟨rfl, hb⟩); (replace Rg := Rg.later hb); (replace Rd := Rd.later hb); (replace Re := Re.later hb); (replace Ry := Ry.later hb); (replace Rm := Rm.later hb); (replace hb0 := below_step hb0 hb); go_wp2_with fail)
  refine hK.out _ _ ?hSr108_7_6 (fun hHeld2 => ?_)
  case hSr108_7_6 => (obtain ⟨e0, e1, Qg, Qd, Qe⟩ := hHeld; exact ⟨cell_later hb e0, cell_later hb e1, Qg.later hb, Qd.later hb, Qe.later hb⟩)
  clear hK K hHeld
  have hHeld := hHeld2
  clear hHeld2
  rename World => wq
  (try simp only [Act.put, nz1, nz2, nz3])
  refine tk 7 ⟨some 28, .move (.tmp 27), 4, _, _, _⟩ hHeld ?_
  (try simp only [Act.put, nz1, nz2, nz3])
  refine tk 8 ⟨some 29, .load 26 (.tmp 5), 26, _, _, _⟩ hHeld ?_ (v := ?vr108_9_8) (hy := ?yr108_9_8)
  case yr108_9_8 => (intro wy hSw; obtain ⟨e0, e1, Qg, Qd, Qe⟩ := hSw; (with_reducible refine pexec_load 26 (.tmp 5) ?_ w.heap.size ?_ 26 #[.int .i64 s.n, .int .i64 s.d0.kind, .int .i64 s.d0.side, .int .i64 s.d0.step, .int .i64 s.d1.kind, .int .i64 s.d1.side, .int .i64 s.d1.step] _ Qg Try.underlying26 ?_ ?_) <;> first | rfl | exact infoSp)
  (try simp only [Act.put, nz1, nz2, nz3])
  refine tk 9 ⟨some 30, .load 33 (.tmp 6), 33, _, _, _⟩ hHeld ?_ (v := ?vr108_10_9) (hy := ?yr108_10_9)
  case yr108_10_9 => (intro wy hSw; obtain ⟨e0, e1, Qg, Qd, Qe⟩ := hSw; (with_reducible refine pexec_load 33 (.tmp 6) ?_ (w.heap.size + 1) ?_ 33 #[.int .i64 p.a0, .int .i64 p.a1, .int .i64 p.k0.kind, .int .i64 p.k0.len, .int .u64 p.k0.h, .int .u64 p.k0.l, .string ⟨p.k0.path.toArray⟩, .int .i64 p.k1.kind, .int .i64 p.k1.len, .int .u64 p.k1.h, .int .u64 p.k1.l, .string ⟨p.k1.path.toArray⟩] _ Qd Try.underlying33 ?_ ?_) <;> first | rfl | exact infoPx)
  (try simp only [Act.put, nz1, nz2, nz3])
  refine wpAnyH_ready (rs := [10]) (by kernel_rfl) (by simp) ?_
  refine AllReadyH.cons (o := ⟨some 31, .call { callee := .value (.func 20), args := #[.tmp 29, .tmp 30], argTypes := #[26, 33] }, 4, _, _, _⟩) rfl (fun K hK => ?_) AllReadyH.nil
  (go_simp; (refine (H3 _).mono ?_); (rintro e wz ⟨rfl, hb⟩); (replace Rg := Rg.later hb); (replace Rd := Rd.later hb); (replace Re := Re.later hb); (replace Ry := Ry.later hb); (replace Rm := Rm.later hb); (replace hb0 := below_step hb0 hb); go_wp2_with fail)
  refine hK.out _ _ ?hSr108_11_10 (fun hHeld2 => ?_)
  case hSr108_11_10 => (obtain ⟨e0, e1, Qg, Qd, Qe⟩ := hHeld; exact ⟨cell_later hb e0, cell_later hb e1, Qg.later hb, Qd.later hb, Qe.later hb⟩)
  clear hK K hHeld
  have hHeld := hHeld2
  clear hHeld2
  rename World => wq
  (try simp only [Act.put, nz1, nz2, nz3])
  refine tk 11 ⟨some 32, .pick (.tmp 28) (.tmp 31) (.const (.bool false)), 4, _, _, _⟩ hHeld ?_
  (try simp only [Act.put, nz1, nz2, nz3])
  refine tk 12 ⟨some 33, .move (.tmp 32), 4, _, _, _⟩ hHeld ?_
  (try simp only [Act.put, nz1, nz2, nz3])
  refine tk 13 ⟨some 34, .load 26 (.tmp 5), 26, _, _, _⟩ hHeld ?_ (v := ?vr108_14_13) (hy := ?yr108_14_13)
  case yr108_14_13 => (intro wy hSw; obtain ⟨e0, e1, Qg, Qd, Qe⟩ := hSw; (with_reducible refine pexec_load 26 (.tmp 5) ?_ w.heap.size ?_ 26 #[.int .i64 s.n, .int .i64 s.d0.kind, .int .i64 s.d0.side, .int .i64 s.d0.step, .int .i64 s.d1.kind, .int .i64 s.d1.side, .int .i64 s.d1.step] _ Qg Try.underlying26 ?_ ?_) <;> first | rfl | exact infoSp)
  (try simp only [Act.put, nz1, nz2, nz3])
  refine tk 14 ⟨some 35, .load 33 (.tmp 6), 33, _, _, _⟩ hHeld ?_ (v := ?vr108_15_14) (hy := ?yr108_15_14)
  case yr108_15_14 => (intro wy hSw; obtain ⟨e0, e1, Qg, Qd, Qe⟩ := hSw; (with_reducible refine pexec_load 33 (.tmp 6) ?_ (w.heap.size + 1) ?_ 33 #[.int .i64 p.a0, .int .i64 p.a1, .int .i64 p.k0.kind, .int .i64 p.k0.len, .int .u64 p.k0.h, .int .u64 p.k0.l, .string ⟨p.k0.path.toArray⟩, .int .i64 p.k1.kind, .int .i64 p.k1.len, .int .u64 p.k1.h, .int .u64 p.k1.l, .string ⟨p.k1.path.toArray⟩] _ Qd Try.underlying33 ?_ ?_) <;> first | rfl | exact infoPx)
  (try simp only [Act.put, nz1, nz2, nz3])
  refine tk 15 ⟨some 36, .fieldAddr 33 (.tmp 7) 0, 0, _, _, _⟩ hHeld ?_
  (try simp only [Act.put, nz1, nz2, nz3])
  refine tk 16 ⟨some 37, .load 27 (.tmp 36), 27, _, _, _⟩ hHeld ?_
  (try simp only [Act.put, nz1, nz2, nz3])
  refine tk 18 ⟨some 39, .load 33 (.tmp 7), 33, _, _, _⟩ hHeld ?_ (v := ?vr108_18_18) (hy := ?yr108_18_18)
  case yr108_18_18 => (intro wy hSw; obtain ⟨e0, e1, Qg, Qd, Qe⟩ := hSw; (with_reducible refine pexec_load 33 (.tmp 7) ?_ (w.heap.size + 1 + 1) ?_ 33 #[.int .i64 q.a0, .int .i64 q.a1, .int .i64 q.k0.kind, .int .i64 q.k0.len, .int .u64 q.k0.h, .int .u64 q.k0.l, .string ⟨q.k0.path.toArray⟩, .int .i64 q.k1.kind, .int .i64 q.k1.len, .int .u64 q.k1.h, .int .u64 q.k1.l, .string ⟨q.k1.path.toArray⟩] _ Qe Try.underlying33 ?_ ?_) <;> first | rfl | exact infoPx)
  (try simp only [Act.put, nz1, nz2, nz3])
  refine wpAnyH_ready (rs := [17]) (by kernel_rfl) (by simp) ?_
  refine AllReadyH.cons (o := ⟨some 38, .call { callee := .value (.func 26), args := #[.tmp 34, .tmp 35, .tmp 37], argTypes := #[26, 33, 27] }, 33, _, _, _⟩) rfl (fun K hK => ?_) AllReadyH.nil
  (go_simp; (refine (H4 _).mono ?_); (rintro e wz ⟨rfl, hb⟩); (replace Rg := Rg.later hb); (replace Rd := Rd.later hb); (replace Re := Re.later hb); (replace Ry := Ry.later hb); (replace Rm := Rm.later hb); (replace hb0 := below_step hb0 hb); go_wp2_with fail)
  refine hK.out _ _ ?hSr108_19_17 (fun hHeld2 => ?_)
  case hSr108_19_17 => (obtain ⟨e0, e1, Qg, Qd, Qe⟩ := hHeld; exact ⟨cell_later hb e0, cell_later hb e1, Qg.later hb, Qd.later hb, Qe.later hb⟩)
  clear hK K hHeld
  have hHeld := hHeld2
  clear hHeld2
  rename World => wq
  (try simp only [Act.put, nz1, nz2, nz3])
  refine tk 19 ⟨some 40, .binOp .eql 33 (.tmp 38) (.tmp 39) 33, 4, _, _, _⟩ hHeld ?_
  (try simp only [Act.put, nz1, nz2, nz3])
  refine tk 20 ⟨some 41, .pick (.tmp 33) (.tmp 40) (.const (.bool false)), 4, _, _, _⟩ hHeld ?_
  (try simp only [Act.put, nz1, nz2, nz3])
  refine tk 21 ⟨some 42, .binOp .neq 4 (.tmp 24) (.tmp 41) 4, 4, _, _, _⟩ hHeld ?_
  (try simp only [Act.put, nz1, nz2, nz3])
  refine wpAnyH_done (by kernel_rfl) ?_ _
  clear hHeld
  rename World => w2
  have lg := Rg.lt
  have ld := Rd.lt
  have le := Re.lt
  have ly := Ry.lt
  have lm := Rm.lt
  (try clear g0 g1 g2 g3 g4 g5 g6); obtain ⟨g0, g1, g2, g3, g4, g5, g6⟩ := row7 Rg
  (try clear d0 d1 d2 d3 d4 d5 d6 d7 d8 d9 d10 d11); obtain ⟨d0, d1, d2, d3, d4, d5, d6, d7, d8, d9, d10, d11⟩ := row12 Rd
  (try clear e0 e1 e2 e3 e4 e5 e6 e7 e8 e9 e10 e11); obtain ⟨e0, e1, e2, e3, e4, e5, e6, e7, e8, e9, e10, e11⟩ := row12 Re
  (try clear y0 y1); obtain ⟨y0, y1⟩ := row2 Ry
  (try clear m0 m1 m2 m3 m4 m5 m6 m7 m8 m9 m10 m11); obtain ⟨m0, m1, m2, m3, m4, m5, m6, m7, m8, m9, m10, m11⟩ := row12 Rm
  go_wp2_with fail
  refine (H5 _).mono ?_
  rintro e w3 ⟨rfl, hb⟩
  replace Rg := Rg.later hb
  replace Rd := Rd.later hb
  replace Re := Re.later hb
  replace Ry := Ry.later hb
  replace Rm := Rm.later hb
  replace hb0 := below_step hb0 hb
  clear hb
  have lg := Rg.lt
  have ld := Rd.lt
  have le := Re.lt
  have ly := Ry.lt
  have lm := Rm.lt
  (try clear g0 g1 g2 g3 g4 g5 g6); obtain ⟨g0, g1, g2, g3, g4, g5, g6⟩ := row7 Rg
  (try clear d0 d1 d2 d3 d4 d5 d6 d7 d8 d9 d10 d11); obtain ⟨d0, d1, d2, d3, d4, d5, d6, d7, d8, d9, d10, d11⟩ := row12 Rd
  (try clear e0 e1 e2 e3 e4 e5 e6 e7 e8 e9 e10 e11); obtain ⟨e0, e1, e2, e3, e4, e5, e6, e7, e8, e9, e10, e11⟩ := row12 Re
  (try clear y0 y1); obtain ⟨y0, y1⟩ := row2 Ry
  (try clear m0 m1 m2 m3 m4 m5 m6 m7 m8 m9 m10 m11); obtain ⟨m0, m1, m2, m3, m4, m5, m6, m7, m8, m9, m10, m11⟩ := row12 Rm
  go_wp2_with fail
  refine (H3 _).mono ?_
  rintro e w4 ⟨rfl, hb⟩
  have nng := Rg.lt
  have nnd := Rd.lt
  have nne := Re.lt
  have nny := Ry.lt
  have nnm := Rm.lt
  replace Rg := (Rg.alloc _).later hb
  replace Rd := (Rd.alloc _).later hb
  replace Re := (Re.alloc _).later hb
  replace Ry := (Ry.alloc _).later hb
  replace Rm := (Rm.alloc _).later hb
  have Rn := Row.later (Row.new _ _ _) hb
  have mn := hb0.size
  replace hb0 := below_step (hb0.alloc hb0.size _) hb
  clear hb
  generalize w3.heap.size = gn at *
  have lg := Rg.lt
  have ld := Rd.lt
  have le := Re.lt
  have ly := Ry.lt
  have lm := Rm.lt
  have ln := Rn.lt
  (try clear g0 g1 g2 g3 g4 g5 g6); obtain ⟨g0, g1, g2, g3, g4, g5, g6⟩ := row7 Rg
  (try clear d0 d1 d2 d3 d4 d5 d6 d7 d8 d9 d10 d11); obtain ⟨d0, d1, d2, d3, d4, d5, d6, d7, d8, d9, d10, d11⟩ := row12 Rd
  (try clear e0 e1 e2 e3 e4 e5 e6 e7 e8 e9 e10 e11); obtain ⟨e0, e1, e2, e3, e4, e5, e6, e7, e8, e9, e10, e11⟩ := row12 Re
  (try clear y0 y1); obtain ⟨y0, y1⟩ := row2 Ry
  (try clear m0 m1 m2 m3 m4 m5 m6 m7 m8 m9 m10 m11); obtain ⟨m0, m1, m2, m3, m4, m5, m6, m7, m8, m9, m10, m11⟩ := row12 Rm
  (try clear n0 n1 n2 n3 n4 n5 n6 n7 n8 n9 n10 n11); obtain ⟨n0, n1, n2, n3, n4, n5, n6, n7, n8, n9, n10, n11⟩ := row12 Rn
  go_wp2_with fail
  refine (HA _).mono ?_
  rintro e w5 ⟨rfl, hb⟩
  replace Rg := Rg.later hb
  replace Rd := Rd.later hb
  replace Re := Re.later hb
  replace Ry := Ry.later hb
  replace Rm := Rm.later hb
  replace Rn := Rn.later hb
  replace hb0 := below_step hb0 hb
  clear hb
  have lg := Rg.lt
  have ld := Rd.lt
  have le := Re.lt
  have ly := Ry.lt
  have lm := Rm.lt
  have ln := Rn.lt
  (try clear g0 g1 g2 g3 g4 g5 g6); obtain ⟨g0, g1, g2, g3, g4, g5, g6⟩ := row7 Rg
  (try clear d0 d1 d2 d3 d4 d5 d6 d7 d8 d9 d10 d11); obtain ⟨d0, d1, d2, d3, d4, d5, d6, d7, d8, d9, d10, d11⟩ := row12 Rd
  (try clear e0 e1 e2 e3 e4 e5 e6 e7 e8 e9 e10 e11); obtain ⟨e0, e1, e2, e3, e4, e5, e6, e7, e8, e9, e10, e11⟩ := row12 Re
  (try clear y0 y1); obtain ⟨y0, y1⟩ := row2 Ry
  (try clear m0 m1 m2 m3 m4 m5 m6 m7 m8 m9 m10 m11); obtain ⟨m0, m1, m2, m3, m4, m5, m6, m7, m8, m9, m10, m11⟩ := row12 Rm
  (try clear n0 n1 n2 n3 n4 n5 n6 n7 n8 n9 n10 n11); obtain ⟨n0, n1, n2, n3, n4, n5, n6, n7, n8, n9, n10, n11⟩ := row12 Rn
  go_wp2
  go_ret
  exact ⟨rfl, hb0⟩
set_option maxRecDepth 100000 in
set_option maxHeartbeats 32000000 in
theorem one_11b (s : Sp) (p q u v t : Px) (i j hu2 hp2 : Int) (b : Bool)
    (H0 : ∀ w, Calls Try.prog 26 #[sv s, pv p, .agg #[.int .i64 i, .int .i64 j]] w fun e w' => e = .returned (pv pz) ∧ Below w.heap.size w w')
    (H1 : ∀ w, Calls Try.prog 28 #[sv s, pv q, pv p] w fun e w' => e = .returned (.bool b) ∧ Below w.heap.size w w')
    (H2 : ∀ w, Calls Try.prog 20 #[sv s, pv q] w fun e w' => e = .returned (.bool true) ∧ Below w.heap.size w w')
    (H3 : ∀ w, Calls Try.prog 20 #[sv s, pv p] w fun e w' => e = .returned (.bool true) ∧ Below w.heap.size w w')
    (H5 : ∀ w, Calls Try.prog 22 #[sv s] w fun e w' => e = .returned (pv t) ∧ Below w.heap.size w w')
    (H4 : ∀ w, Calls Try.prog 26 #[sv s, pv p, .agg #[.int .i64 q.a0, .int .i64 q.a1]] w fun e w' => e = .returned (pv v) ∧ Below w.heap.size w w')
    (hb : decide (v = q) = b)
    (g0 : ¬ i < p.a0) (g1 : j < p.a1) (w : World) :
    Calls Try.prog 7 #[sv s, pv p, pv q, .int .i64 i, .int .i64 j] w fun e w' => e = .returned (.bool true) ∧ Below w.heap.size w w' := by
  have HA := alive9_t
  have qe := eql_px pz pz
  rw [decide_eq_true rfl] at qe
  have qv := eql_px v q
  rw [hb] at qv
  clear hb
  have g0' : decide (i < p.a0) = false := decide_eq_false g0
  have g1' : decide (j < p.a1) = true := decide_eq_true g1
  unfold pz kz at *
  unfold sv pv at *
  obtain ⟨Rg, Rd, Re, hb0⟩ := three_rows w #[.int .i64 s.n, .int .i64 s.d0.kind, .int .i64 s.d0.side, .int .i64 s.d0.step, .int .i64 s.d1.kind, .int .i64 s.d1.side, .int .i64 s.d1.step] #[.int .i64 p.a0, .int .i64 p.a1, .int .i64 p.k0.kind, .int .i64 p.k0.len, .int .u64 p.k0.h, .int .u64 p.k0.l, .string ⟨p.k0.path.toArray⟩, .int .i64 p.k1.kind, .int .i64 p.k1.len, .int .u64 p.k1.h, .int .u64 p.k1.l, .string ⟨p.k1.path.toArray⟩] #[.int .i64 q.a0, .int .i64 q.a1, .int .i64 q.k0.kind, .int .i64 q.k0.len, .int .u64 q.k0.h, .int .u64 q.k0.l, .string ⟨q.k0.path.toArray⟩, .int .i64 q.k1.kind, .int .i64 q.k1.len, .int .u64 q.k1.h, .int .u64 q.k1.l, .string ⟨q.k1.path.toArray⟩] 26 33 33
  (try clear g0 g1 g2 g3 g4 g5 g6); obtain ⟨g0, g1, g2, g3, g4, g5, g6⟩ := row7 Rg
  (try clear d0 d1 d2 d3 d4 d5 d6 d7 d8 d9 d10 d11); obtain ⟨d0, d1, d2, d3, d4, d5, d6, d7, d8, d9, d10, d11⟩ := row12 Rd
  (try clear e0 e1 e2 e3 e4 e5 e6 e7 e8 e9 e10 e11); obtain ⟨e0, e1, e2, e3, e4, e5, e6, e7, e8, e9, e10, e11⟩ := row12 Re
  go_enter Try.func7, Try.ntmps7
  go_wp2_with fail
  refine (H0 _).mono ?_
  rintro e w1 ⟨rfl, hb⟩
  replace Rg := (Rg.alloc _).later hb
  replace Rd := (Rd.alloc _).later hb
  replace Re := (Re.alloc _).later hb
  have Ry := Row.later (Row.new _ _ _) hb
  simp only [World.size_alloc] at Ry
  replace hb0 := below_step (hb0.alloc hb0.size _) hb
  clear hb
  have lg := Rg.lt
  have ld := Rd.lt
  have le := Re.lt
  have ly := Ry.lt
  (try clear g0 g1 g2 g3 g4 g5 g6); obtain ⟨g0, g1, g2, g3, g4, g5, g6⟩ := row7 Rg
  (try clear d0 d1 d2 d3 d4 d5 d6 d7 d8 d9 d10 d11); obtain ⟨d0, d1, d2, d3, d4, d5, d6, d7, d8, d9, d10, d11⟩ := row12 Rd
  (try clear e0 e1 e2 e3 e4 e5 e6 e7 e8 e9 e10 e11); obtain ⟨e0, e1, e2, e3, e4, e5, e6, e7, e8, e9, e10, e11⟩ := row12 Re
  (try clear y0 y1); obtain ⟨y0, y1⟩ := row2 Ry
  go_wp2_with fail
  replace Rg := Rg.alloc (.cells #[Value.int .i64 0, Value.int .i64 0, Value.int .i64 0, Value.int .i64 0, Value.int .u64 0, Value.int .u64 0, Value.string ⟨#[]⟩, Value.int .i64 0, Value.int .i64 0, Value.int .u64 0, Value.int .u64 0, Value.string ⟨#[]⟩] 33)
  replace Rd := Rd.alloc (.cells #[Value.int .i64 0, Value.int .i64 0, Value.int .i64 0, Value.int .i64 0, Value.int .u64 0, Value.int .u64 0, Value.string ⟨#[]⟩, Value.int .i64 0, Value.int .i64 0, Value.int .u64 0, Value.int .u64 0, Value.string ⟨#[]⟩] 33)
  replace Re := Re.alloc (.cells #[Value.int .i64 0, Value.int .i64 0, Value.int .i64 0, Value.int .i64 0, Value.int .u64 0, Value.int .u64 0, Value.string ⟨#[]⟩, Value.int .i64 0, Value.int .i64 0, Value.int .u64 0, Value.int .u64 0, Value.string ⟨#[]⟩] 33)
  replace Ry := Ry.alloc (.cells #[Value.int .i64 0, Value.int .i64 0, Value.int .i64 0, Value.int .i64 0, Value.int .u64 0, Value.int .u64 0, Value.string ⟨#[]⟩, Value.int .i64 0, Value.int .i64 0, Value.int .u64 0, Value.int .u64 0, Value.string ⟨#[]⟩] 33)
  have Rm := Row.new w1 #[Value.int .i64 0, Value.int .i64 0, Value.int .i64 0, Value.int .i64 0, Value.int .u64 0, Value.int .u64 0, Value.string ⟨#[]⟩, Value.int .i64 0, Value.int .i64 0, Value.int .u64 0, Value.int .u64 0, Value.string ⟨#[]⟩] 33
  have mm := hb0.size
  replace hb0 := hb0.alloc hb0.size (.cells #[Value.int .i64 0, Value.int .i64 0, Value.int .i64 0, Value.int .i64 0, Value.int .u64 0, Value.int .u64 0, Value.string ⟨#[]⟩, Value.int .i64 0, Value.int .i64 0, Value.int .u64 0, Value.int .u64 0, Value.string ⟨#[]⟩] 33)
  (try clear g0 g1 g2 g3 g4 g5 g6); obtain ⟨g0, g1, g2, g3, g4, g5, g6⟩ := row7 Rg
  (try clear d0 d1 d2 d3 d4 d5 d6 d7 d8 d9 d10 d11); obtain ⟨d0, d1, d2, d3, d4, d5, d6, d7, d8, d9, d10, d11⟩ := row12 Rd
  (try clear e0 e1 e2 e3 e4 e5 e6 e7 e8 e9 e10 e11); obtain ⟨e0, e1, e2, e3, e4, e5, e6, e7, e8, e9, e10, e11⟩ := row12 Re
  (try clear y0 y1); obtain ⟨y0, y1⟩ := row2 Ry
  (try clear m0 m1 m2 m3 m4 m5 m6 m7 m8 m9 m10 m11); obtain ⟨m0, m1, m2, m3, m4, m5, m6, m7, m8, m9, m10, m11⟩ := row12 Rm
  refine wp_region_held_drew (S := (fun w' => w'.cell? ⟨w.heap.size + 1 + 1, 0, none⟩ = some (Value.int .i64 q.a0) ∧ w'.cell? ⟨w.heap.size + 1 + 1, 1, none⟩ = some (Value.int .i64 q.a1) ∧ Row w' w.heap.size #[.int .i64 s.n, .int .i64 s.d0.kind, .int .i64 s.d0.side, .int .i64 s.d0.step, .int .i64 s.d1.kind, .int .i64 s.d1.side, .int .i64 s.d1.step] 26 ∧ Row w' (w.heap.size + 1) #[.int .i64 p.a0, .int .i64 p.a1, .int .i64 p.k0.kind, .int .i64 p.k0.len, .int .u64 p.k0.h, .int .u64 p.k0.l, .string ⟨p.k0.path.toArray⟩, .int .i64 p.k1.kind, .int .i64 p.k1.len, .int .u64 p.k1.h, .int .u64 p.k1.l, .string ⟨p.k1.path.toArray⟩] 33 ∧ Row w' (w.heap.size + 1 + 1) #[.int .i64 q.a0, .int .i64 q.a1, .int .i64 q.k0.kind, .int .i64 q.k0.len, .int .u64 q.k0.h, .int .u64 q.k0.l, .string ⟨q.k0.path.toArray⟩, .int .i64 q.k1.kind, .int .i64 q.k1.len, .int .u64 q.k1.h, .int .u64 q.k1.l, .string ⟨q.k1.path.toArray⟩] 33)) (by kernel_rfl) ?hSr109_ (fun hHeld => ?_)
  case hSr109_ => (exact ⟨e0, e1, Rg.drew, Rd.drew, Re.drew⟩)
  (clear g0 g1 g2 g3 g4 g5 g6 d0 d1 d2 d3 d4 d5 d6 d7 d8 d9 d10 d11 e0 e1 e2 e3 e4 e5 e6 e7 e8 e9 e10 e11 y0 y1 m0 m1 m2 m3 m4 m5 m6 m7 m8 m9 m10 m11; (replace Rg := Rg.drew); (replace Rd := Rd.drew); (replace Re := Re.drew); (replace Ry := Ry.drew); (replace Rm := Rm.drew); (replace hb0 := hb0.drew); (generalize World.drew (World.alloc w1 (.cells #[Value.int .i64 0, Value.int .i64 0, Value.int .i64 0, Value.int .i64 0, Value.int .u64 0, Value.int .u64 0, Value.string ⟨#[]⟩, Value.int .i64 0, Value.int .i64 0, Value.int .u64 0, Value.int .u64 0, Value.string ⟨#[]⟩] 33)) = wq at *))
  refine tk 0 ⟨some 21, .load 26 (.tmp 5), 26, _, _, _⟩ hHeld ?_ (v := ?vr109_1_0) (hy := ?yr109_1_0)
  case yr109_1_0 => (intro wy hSw; obtain ⟨e0, e1, Qg, Qd, Qe⟩ := hSw; (with_reducible refine pexec_load 26 (.tmp 5) ?_ w.heap.size ?_ 26 #[.int .i64 s.n, .int .i64 s.d0.kind, .int .i64 s.d0.side, .int .i64 s.d0.step, .int .i64 s.d1.kind, .int .i64 s.d1.side, .int .i64 s.d1.step] _ Qg Try.underlying26 ?_ ?_) <;> first | rfl | exact infoSp)
  (try simp only [Act.put, nz1, nz2, nz3])
  refine tk 1 ⟨some 22, .load 33 (.tmp 7), 33, _, _, _⟩ hHeld ?_ (v := ?vr109_2_1) (hy := ?yr109_2_1)
  case yr109_2_1 => (intro wy hSw; obtain ⟨e0, e1, Qg, Qd, Qe⟩ := hSw; (with_reducible refine pexec_load 33 (.tmp 7) ?_ (w.heap.size + 1 + 1) ?_ 33 #[.int .i64 q.a0, .int .i64 q.a1, .int .i64 q.k0.kind, .int .i64 q.k0.len, .int .u64 q.k0.h, .int .u64 q.k0.l, .string ⟨q.k0.path.toArray⟩, .int .i64 q.k1.kind, .int .i64 q.k1.len, .int .u64 q.k1.h, .int .u64 q.k1.l, .string ⟨q.k1.path.toArray⟩] _ Qe Try.underlying33 ?_ ?_) <;> first | rfl | exact infoPx)
  (try simp only [Act.put, nz1, nz2, nz3])
  refine tk 2 ⟨some 23, .load 33 (.tmp 6), 33, _, _, _⟩ hHeld ?_ (v := ?vr109_3_2) (hy := ?yr109_3_2)
  case yr109_3_2 => (intro wy hSw; obtain ⟨e0, e1, Qg, Qd, Qe⟩ := hSw; (with_reducible refine pexec_load 33 (.tmp 6) ?_ (w.heap.size + 1) ?_ 33 #[.int .i64 p.a0, .int .i64 p.a1, .int .i64 p.k0.kind, .int .i64 p.k0.len, .int .u64 p.k0.h, .int .u64 p.k0.l, .string ⟨p.k0.path.toArray⟩, .int .i64 p.k1.kind, .int .i64 p.k1.len, .int .u64 p.k1.h, .int .u64 p.k1.l, .string ⟨p.k1.path.toArray⟩] _ Qd Try.underlying33 ?_ ?_) <;> first | rfl | exact infoPx)
  (try simp only [Act.put, nz1, nz2, nz3])
  refine tk 4 ⟨some 25, .load 26 (.tmp 5), 26, _, _, _⟩ hHeld ?_ (v := ?vr109_4_4) (hy := ?yr109_4_4)
  case yr109_4_4 => (intro wy hSw; obtain ⟨e0, e1, Qg, Qd, Qe⟩ := hSw; (with_reducible refine pexec_load 26 (.tmp 5) ?_ w.heap.size ?_ 26 #[.int .i64 s.n, .int .i64 s.d0.kind, .int .i64 s.d0.side, .int .i64 s.d0.step, .int .i64 s.d1.kind, .int .i64 s.d1.side, .int .i64 s.d1.step] _ Qg Try.underlying26 ?_ ?_) <;> first | rfl | exact infoSp)
  (try simp only [Act.put, nz1, nz2, nz3])
  refine tk 5 ⟨some 26, .load 33 (.tmp 7), 33, _, _, _⟩ hHeld ?_ (v := ?vr109_5_5) (hy := ?yr109_5_5)
  case yr109_5_5 => (intro wy hSw; obtain ⟨e0, e1, Qg, Qd, Qe⟩ := hSw; (with_reducible refine pexec_load 33 (.tmp 7) ?_ (w.heap.size + 1 + 1) ?_ 33 #[.int .i64 q.a0, .int .i64 q.a1, .int .i64 q.k0.kind, .int .i64 q.k0.len, .int .u64 q.k0.h, .int .u64 q.k0.l, .string ⟨q.k0.path.toArray⟩, .int .i64 q.k1.kind, .int .i64 q.k1.len, .int .u64 q.k1.h, .int .u64 q.k1.l, .string ⟨q.k1.path.toArray⟩] _ Qe Try.underlying33 ?_ ?_) <;> first | rfl | exact infoPx)
  (try simp only [Act.put, nz1, nz2, nz3])
  refine wpAnyH_ready (rs := [3]) (by kernel_rfl) (by simp) ?_
  refine AllReadyH.cons (o := ⟨some 24, .call { callee := .value (.func 28), args := #[.tmp 21, .tmp 22, .tmp 23], argTypes := #[26, 33, 33] }, 4, _, _, _⟩) rfl (fun K hK => ?_) AllReadyH.nil
  (go_simp; (refine (H1 _).mono ?_); (rintro e wz ⟨rfl, hb⟩); (replace Rg := Rg.later hb); (replace Rd := Rd.later hb); (replace Re := Re.later hb); (replace Ry := Ry.later hb); (replace Rm := Rm.later hb); (replace hb0 := below_step hb0 hb); go_wp2_with fail)
  refine hK.out _ _ ?hSr109_6_3 (fun hHeld2 => ?_)
  case hSr109_6_3 => (obtain ⟨e0, e1, Qg, Qd, Qe⟩ := hHeld; exact ⟨cell_later hb e0, cell_later hb e1, Qg.later hb, Qd.later hb, Qe.later hb⟩)
  clear hK K hHeld
  have hHeld := hHeld2
  clear hHeld2
  rename World => wq
  (try simp only [Act.put, nz1, nz2, nz3])
  refine wpAnyH_ready (rs := [6]) (by kernel_rfl) (by simp) ?_
  refine AllReadyH.cons (o := ⟨some 27, .call { callee := .value (.func 20), args := #[.tmp 25, .tmp 26], argTypes := #[26, 33] }, 4, _, _, _⟩) rfl (fun K hK => ?_) AllReadyH.nil
  (go_simp; (refine (H2 _).mono ?_); (rintro e wz ⟨rfl, hb⟩); (replace Rg := Rg.later hb); (replace Rd := Rd.later hb); (replace Re := Re.later hb); (replace Ry := Ry.later hb); (replace Rm := Rm.later hb); (replace hb0 := below_step hb0 hb); go_wp2_with fail)
  refine hK.out _ _ ?hSr109_7_6 (fun hHeld2 => ?_)
  case hSr109_7_6 => (obtain ⟨e0, e1, Qg, Qd, Qe⟩ := hHeld; exact ⟨cell_later hb e0, cell_later hb e1, Qg.later hb, Qd.later hb, Qe.later hb⟩)
  clear hK K hHeld
  have hHeld := hHeld2
  clear hHeld2
  rename World => wq
  (try simp only [Act.put, nz1, nz2, nz3])
  refine tk 7 ⟨some 28, .move (.tmp 27), 4, _, _, _⟩ hHeld ?_
  (try simp only [Act.put, nz1, nz2, nz3])
  refine tk 8 ⟨some 29, .load 26 (.tmp 5), 26, _, _, _⟩ hHeld ?_ (v := ?vr109_9_8) (hy := ?yr109_9_8)
  case yr109_9_8 => (intro wy hSw; obtain ⟨e0, e1, Qg, Qd, Qe⟩ := hSw; (with_reducible refine pexec_load 26 (.tmp 5) ?_ w.heap.size ?_ 26 #[.int .i64 s.n, .int .i64 s.d0.kind, .int .i64 s.d0.side, .int .i64 s.d0.step, .int .i64 s.d1.kind, .int .i64 s.d1.side, .int .i64 s.d1.step] _ Qg Try.underlying26 ?_ ?_) <;> first | rfl | exact infoSp)
  (try simp only [Act.put, nz1, nz2, nz3])
  refine tk 9 ⟨some 30, .load 33 (.tmp 6), 33, _, _, _⟩ hHeld ?_ (v := ?vr109_10_9) (hy := ?yr109_10_9)
  case yr109_10_9 => (intro wy hSw; obtain ⟨e0, e1, Qg, Qd, Qe⟩ := hSw; (with_reducible refine pexec_load 33 (.tmp 6) ?_ (w.heap.size + 1) ?_ 33 #[.int .i64 p.a0, .int .i64 p.a1, .int .i64 p.k0.kind, .int .i64 p.k0.len, .int .u64 p.k0.h, .int .u64 p.k0.l, .string ⟨p.k0.path.toArray⟩, .int .i64 p.k1.kind, .int .i64 p.k1.len, .int .u64 p.k1.h, .int .u64 p.k1.l, .string ⟨p.k1.path.toArray⟩] _ Qd Try.underlying33 ?_ ?_) <;> first | rfl | exact infoPx)
  (try simp only [Act.put, nz1, nz2, nz3])
  refine wpAnyH_ready (rs := [10]) (by kernel_rfl) (by simp) ?_
  refine AllReadyH.cons (o := ⟨some 31, .call { callee := .value (.func 20), args := #[.tmp 29, .tmp 30], argTypes := #[26, 33] }, 4, _, _, _⟩) rfl (fun K hK => ?_) AllReadyH.nil
  (go_simp; (refine (H3 _).mono ?_); (rintro e wz ⟨rfl, hb⟩); (replace Rg := Rg.later hb); (replace Rd := Rd.later hb); (replace Re := Re.later hb); (replace Ry := Ry.later hb); (replace Rm := Rm.later hb); (replace hb0 := below_step hb0 hb); go_wp2_with fail)
  refine hK.out _ _ ?hSr109_11_10 (fun hHeld2 => ?_)
  case hSr109_11_10 => (obtain ⟨e0, e1, Qg, Qd, Qe⟩ := hHeld; exact ⟨cell_later hb e0, cell_later hb e1, Qg.later hb, Qd.later hb, Qe.later hb⟩)
  clear hK K hHeld
  have hHeld := hHeld2
  clear hHeld2
  rename World => wq
  (try simp only [Act.put, nz1, nz2, nz3])
  refine tk 11 ⟨some 32, .pick (.tmp 28) (.tmp 31) (.const (.bool false)), 4, _, _, _⟩ hHeld ?_
  (try simp only [Act.put, nz1, nz2, nz3])
  refine tk 12 ⟨some 33, .move (.tmp 32), 4, _, _, _⟩ hHeld ?_
  (try simp only [Act.put, nz1, nz2, nz3])
  refine tk 13 ⟨some 34, .load 26 (.tmp 5), 26, _, _, _⟩ hHeld ?_ (v := ?vr109_14_13) (hy := ?yr109_14_13)
  case yr109_14_13 => (intro wy hSw; obtain ⟨e0, e1, Qg, Qd, Qe⟩ := hSw; (with_reducible refine pexec_load 26 (.tmp 5) ?_ w.heap.size ?_ 26 #[.int .i64 s.n, .int .i64 s.d0.kind, .int .i64 s.d0.side, .int .i64 s.d0.step, .int .i64 s.d1.kind, .int .i64 s.d1.side, .int .i64 s.d1.step] _ Qg Try.underlying26 ?_ ?_) <;> first | rfl | exact infoSp)
  (try simp only [Act.put, nz1, nz2, nz3])
  refine tk 14 ⟨some 35, .load 33 (.tmp 6), 33, _, _, _⟩ hHeld ?_ (v := ?vr109_15_14) (hy := ?yr109_15_14)
  case yr109_15_14 => (intro wy hSw; obtain ⟨e0, e1, Qg, Qd, Qe⟩ := hSw; (with_reducible refine pexec_load 33 (.tmp 6) ?_ (w.heap.size + 1) ?_ 33 #[.int .i64 p.a0, .int .i64 p.a1, .int .i64 p.k0.kind, .int .i64 p.k0.len, .int .u64 p.k0.h, .int .u64 p.k0.l, .string ⟨p.k0.path.toArray⟩, .int .i64 p.k1.kind, .int .i64 p.k1.len, .int .u64 p.k1.h, .int .u64 p.k1.l, .string ⟨p.k1.path.toArray⟩] _ Qd Try.underlying33 ?_ ?_) <;> first | rfl | exact infoPx)
  (try simp only [Act.put, nz1, nz2, nz3])
  refine tk 15 ⟨some 36, .fieldAddr 33 (.tmp 7) 0, 0, _, _, _⟩ hHeld ?_
  (try simp only [Act.put, nz1, nz2, nz3])
  refine tk 16 ⟨some 37, .load 27 (.tmp 36), 27, _, _, _⟩ hHeld ?_
  (try simp only [Act.put, nz1, nz2, nz3])
  refine tk 18 ⟨some 39, .load 33 (.tmp 7), 33, _, _, _⟩ hHeld ?_ (v := ?vr109_18_18) (hy := ?yr109_18_18)
  case yr109_18_18 => (intro wy hSw; obtain ⟨e0, e1, Qg, Qd, Qe⟩ := hSw; (with_reducible refine pexec_load 33 (.tmp 7) ?_ (w.heap.size + 1 + 1) ?_ 33 #[.int .i64 q.a0, .int .i64 q.a1, .int .i64 q.k0.kind, .int .i64 q.k0.len, .int .u64 q.k0.h, .int .u64 q.k0.l, .string ⟨q.k0.path.toArray⟩, .int .i64 q.k1.kind, .int .i64 q.k1.len, .int .u64 q.k1.h, .int .u64 q.k1.l, .string ⟨q.k1.path.toArray⟩] _ Qe Try.underlying33 ?_ ?_) <;> first | rfl | exact infoPx)
  (try simp only [Act.put, nz1, nz2, nz3])
  refine wpAnyH_ready (rs := [17]) (by kernel_rfl) (by simp) ?_
  refine AllReadyH.cons (o := ⟨some 38, .call { callee := .value (.func 26), args := #[.tmp 34, .tmp 35, .tmp 37], argTypes := #[26, 33, 27] }, 33, _, _, _⟩) rfl (fun K hK => ?_) AllReadyH.nil
  (go_simp; (refine (H4 _).mono ?_); (rintro e wz ⟨rfl, hb⟩); (replace Rg := Rg.later hb); (replace Rd := Rd.later hb); (replace Re := Re.later hb); (replace Ry := Ry.later hb); (replace Rm := Rm.later hb); (replace hb0 := below_step hb0 hb); go_wp2_with fail)
  refine hK.out _ _ ?hSr109_19_17 (fun hHeld2 => ?_)
  case hSr109_19_17 => (obtain ⟨e0, e1, Qg, Qd, Qe⟩ := hHeld; exact ⟨cell_later hb e0, cell_later hb e1, Qg.later hb, Qd.later hb, Qe.later hb⟩)
  clear hK K hHeld
  have hHeld := hHeld2
  clear hHeld2
  rename World => wq
  (try simp only [Act.put, nz1, nz2, nz3])
  refine tk 19 ⟨some 40, .binOp .eql 33 (.tmp 38) (.tmp 39) 33, 4, _, _, _⟩ hHeld ?_
  (try simp only [Act.put, nz1, nz2, nz3])
  refine tk 20 ⟨some 41, .pick (.tmp 33) (.tmp 40) (.const (.bool false)), 4, _, _, _⟩ hHeld ?_
  (try simp only [Act.put, nz1, nz2, nz3])
  refine tk 21 ⟨some 42, .binOp .neq 4 (.tmp 24) (.tmp 41) 4, 4, _, _, _⟩ hHeld ?_
  (try simp only [Act.put, nz1, nz2, nz3])
  refine wpAnyH_done (by kernel_rfl) ?_ _
  clear hHeld
  rename World => w2
  have lg := Rg.lt
  have ld := Rd.lt
  have le := Re.lt
  have ly := Ry.lt
  have lm := Rm.lt
  (try clear g0 g1 g2 g3 g4 g5 g6); obtain ⟨g0, g1, g2, g3, g4, g5, g6⟩ := row7 Rg
  (try clear d0 d1 d2 d3 d4 d5 d6 d7 d8 d9 d10 d11); obtain ⟨d0, d1, d2, d3, d4, d5, d6, d7, d8, d9, d10, d11⟩ := row12 Rd
  (try clear e0 e1 e2 e3 e4 e5 e6 e7 e8 e9 e10 e11); obtain ⟨e0, e1, e2, e3, e4, e5, e6, e7, e8, e9, e10, e11⟩ := row12 Re
  (try clear y0 y1); obtain ⟨y0, y1⟩ := row2 Ry
  (try clear m0 m1 m2 m3 m4 m5 m6 m7 m8 m9 m10 m11); obtain ⟨m0, m1, m2, m3, m4, m5, m6, m7, m8, m9, m10, m11⟩ := row12 Rm
  go_wp2_with fail
  refine (H5 _).mono ?_
  rintro e w3 ⟨rfl, hb⟩
  replace Rg := Rg.later hb
  replace Rd := Rd.later hb
  replace Re := Re.later hb
  replace Ry := Ry.later hb
  replace Rm := Rm.later hb
  replace hb0 := below_step hb0 hb
  clear hb
  have lg := Rg.lt
  have ld := Rd.lt
  have le := Re.lt
  have ly := Ry.lt
  have lm := Rm.lt
  (try clear g0 g1 g2 g3 g4 g5 g6); obtain ⟨g0, g1, g2, g3, g4, g5, g6⟩ := row7 Rg
  (try clear d0 d1 d2 d3 d4 d5 d6 d7 d8 d9 d10 d11); obtain ⟨d0, d1, d2, d3, d4, d5, d6, d7, d8, d9, d10, d11⟩ := row12 Rd
  (try clear e0 e1 e2 e3 e4 e5 e6 e7 e8 e9 e10 e11); obtain ⟨e0, e1, e2, e3, e4, e5, e6, e7, e8, e9, e10, e11⟩ := row12 Re
  (try clear y0 y1); obtain ⟨y0, y1⟩ := row2 Ry
  (try clear m0 m1 m2 m3 m4 m5 m6 m7 m8 m9 m10 m11); obtain ⟨m0, m1, m2, m3, m4, m5, m6, m7, m8, m9, m10, m11⟩ := row12 Rm
  go_wp2_with fail
  refine (H3 _).mono ?_
  rintro e w4 ⟨rfl, hb⟩
  have nng := Rg.lt
  have nnd := Rd.lt
  have nne := Re.lt
  have nny := Ry.lt
  have nnm := Rm.lt
  replace Rg := (Rg.alloc _).later hb
  replace Rd := (Rd.alloc _).later hb
  replace Re := (Re.alloc _).later hb
  replace Ry := (Ry.alloc _).later hb
  replace Rm := (Rm.alloc _).later hb
  have Rn := Row.later (Row.new _ _ _) hb
  have mn := hb0.size
  replace hb0 := below_step (hb0.alloc hb0.size _) hb
  clear hb
  generalize w3.heap.size = gn at *
  have lg := Rg.lt
  have ld := Rd.lt
  have le := Re.lt
  have ly := Ry.lt
  have lm := Rm.lt
  have ln := Rn.lt
  (try clear g0 g1 g2 g3 g4 g5 g6); obtain ⟨g0, g1, g2, g3, g4, g5, g6⟩ := row7 Rg
  (try clear d0 d1 d2 d3 d4 d5 d6 d7 d8 d9 d10 d11); obtain ⟨d0, d1, d2, d3, d4, d5, d6, d7, d8, d9, d10, d11⟩ := row12 Rd
  (try clear e0 e1 e2 e3 e4 e5 e6 e7 e8 e9 e10 e11); obtain ⟨e0, e1, e2, e3, e4, e5, e6, e7, e8, e9, e10, e11⟩ := row12 Re
  (try clear y0 y1); obtain ⟨y0, y1⟩ := row2 Ry
  (try clear m0 m1 m2 m3 m4 m5 m6 m7 m8 m9 m10 m11); obtain ⟨m0, m1, m2, m3, m4, m5, m6, m7, m8, m9, m10, m11⟩ := row12 Rm
  (try clear n0 n1 n2 n3 n4 n5 n6 n7 n8 n9 n10 n11); obtain ⟨n0, n1, n2, n3, n4, n5, n6, n7, n8, n9, n10, n11⟩ := row12 Rn
  go_wp2_with fail
  refine (HA _).mono ?_
  rintro e w5 ⟨rfl, hb⟩
  replace Rg := Rg.later hb
  replace Rd := Rd.later hb
  replace Re := Re.later hb
  replace Ry := Ry.later hb
  replace Rm := Rm.later hb
  replace Rn := Rn.later hb
  replace hb0 := below_step hb0 hb
  clear hb
  have lg := Rg.lt
  have ld := Rd.lt
  have le := Re.lt
  have ly := Ry.lt
  have lm := Rm.lt
  have ln := Rn.lt
  (try clear g0 g1 g2 g3 g4 g5 g6); obtain ⟨g0, g1, g2, g3, g4, g5, g6⟩ := row7 Rg
  (try clear d0 d1 d2 d3 d4 d5 d6 d7 d8 d9 d10 d11); obtain ⟨d0, d1, d2, d3, d4, d5, d6, d7, d8, d9, d10, d11⟩ := row12 Rd
  (try clear e0 e1 e2 e3 e4 e5 e6 e7 e8 e9 e10 e11); obtain ⟨e0, e1, e2, e3, e4, e5, e6, e7, e8, e9, e10, e11⟩ := row12 Re
  (try clear y0 y1); obtain ⟨y0, y1⟩ := row2 Ry
  (try clear m0 m1 m2 m3 m4 m5 m6 m7 m8 m9 m10 m11); obtain ⟨m0, m1, m2, m3, m4, m5, m6, m7, m8, m9, m10, m11⟩ := row12 Rm
  (try clear n0 n1 n2 n3 n4 n5 n6 n7 n8 n9 n10 n11); obtain ⟨n0, n1, n2, n3, n4, n5, n6, n7, n8, n9, n10, n11⟩ := row12 Rn
  go_wp2
  go_ret
  exact ⟨rfl, hb0⟩
set_option maxRecDepth 100000 in
set_option maxHeartbeats 32000000 in
theorem one_11c (s : Sp) (p q u v t : Px) (i j hu2 hp2 : Int) (b : Bool)
    (H0 : ∀ w, Calls Try.prog 26 #[sv s, pv p, .agg #[.int .i64 i, .int .i64 j]] w fun e w' => e = .returned (pv pz) ∧ Below w.heap.size w w')
    (H1 : ∀ w, Calls Try.prog 28 #[sv s, pv q, pv p] w fun e w' => e = .returned (.bool b) ∧ Below w.heap.size w w')
    (H2 : ∀ w, Calls Try.prog 20 #[sv s, pv q] w fun e w' => e = .returned (.bool true) ∧ Below w.heap.size w w')
    (H3 : ∀ w, Calls Try.prog 20 #[sv s, pv p] w fun e w' => e = .returned (.bool true) ∧ Below w.heap.size w w')
    (H5 : ∀ w, Calls Try.prog 22 #[sv s] w fun e w' => e = .returned (pv t) ∧ Below w.heap.size w w')
    (H4 : ∀ w, Calls Try.prog 26 #[sv s, pv p, .agg #[.int .i64 q.a0, .int .i64 q.a1]] w fun e w' => e = .returned (pv v) ∧ Below w.heap.size w w')
    (hb : decide (v = q) = b)
    (g0 : ¬ i < p.a0) (g1 : ¬ j < p.a1) (g2 : t.a0 < i) (w : World) :
    Calls Try.prog 7 #[sv s, pv p, pv q, .int .i64 i, .int .i64 j] w fun e w' => e = .returned (.bool true) ∧ Below w.heap.size w w' := by
  have HA := alive9_t
  have qe := eql_px pz pz
  rw [decide_eq_true rfl] at qe
  have qv := eql_px v q
  rw [hb] at qv
  clear hb
  have g0' : decide (i < p.a0) = false := decide_eq_false g0
  have g1' : decide (j < p.a1) = false := decide_eq_false g1
  have g2' : decide (t.a0 < i) = true := decide_eq_true g2
  unfold pz kz at *
  unfold sv pv at *
  obtain ⟨Rg, Rd, Re, hb0⟩ := three_rows w #[.int .i64 s.n, .int .i64 s.d0.kind, .int .i64 s.d0.side, .int .i64 s.d0.step, .int .i64 s.d1.kind, .int .i64 s.d1.side, .int .i64 s.d1.step] #[.int .i64 p.a0, .int .i64 p.a1, .int .i64 p.k0.kind, .int .i64 p.k0.len, .int .u64 p.k0.h, .int .u64 p.k0.l, .string ⟨p.k0.path.toArray⟩, .int .i64 p.k1.kind, .int .i64 p.k1.len, .int .u64 p.k1.h, .int .u64 p.k1.l, .string ⟨p.k1.path.toArray⟩] #[.int .i64 q.a0, .int .i64 q.a1, .int .i64 q.k0.kind, .int .i64 q.k0.len, .int .u64 q.k0.h, .int .u64 q.k0.l, .string ⟨q.k0.path.toArray⟩, .int .i64 q.k1.kind, .int .i64 q.k1.len, .int .u64 q.k1.h, .int .u64 q.k1.l, .string ⟨q.k1.path.toArray⟩] 26 33 33
  (try clear g0 g1 g2 g3 g4 g5 g6); obtain ⟨g0, g1, g2, g3, g4, g5, g6⟩ := row7 Rg
  (try clear d0 d1 d2 d3 d4 d5 d6 d7 d8 d9 d10 d11); obtain ⟨d0, d1, d2, d3, d4, d5, d6, d7, d8, d9, d10, d11⟩ := row12 Rd
  (try clear e0 e1 e2 e3 e4 e5 e6 e7 e8 e9 e10 e11); obtain ⟨e0, e1, e2, e3, e4, e5, e6, e7, e8, e9, e10, e11⟩ := row12 Re
  go_enter Try.func7, Try.ntmps7
  go_wp2_with fail
  refine (H0 _).mono ?_
  rintro e w1 ⟨rfl, hb⟩
  replace Rg := (Rg.alloc _).later hb
  replace Rd := (Rd.alloc _).later hb
  replace Re := (Re.alloc _).later hb
  have Ry := Row.later (Row.new _ _ _) hb
  simp only [World.size_alloc] at Ry
  replace hb0 := below_step (hb0.alloc hb0.size _) hb
  clear hb
  have lg := Rg.lt
  have ld := Rd.lt
  have le := Re.lt
  have ly := Ry.lt
  (try clear g0 g1 g2 g3 g4 g5 g6); obtain ⟨g0, g1, g2, g3, g4, g5, g6⟩ := row7 Rg
  (try clear d0 d1 d2 d3 d4 d5 d6 d7 d8 d9 d10 d11); obtain ⟨d0, d1, d2, d3, d4, d5, d6, d7, d8, d9, d10, d11⟩ := row12 Rd
  (try clear e0 e1 e2 e3 e4 e5 e6 e7 e8 e9 e10 e11); obtain ⟨e0, e1, e2, e3, e4, e5, e6, e7, e8, e9, e10, e11⟩ := row12 Re
  (try clear y0 y1); obtain ⟨y0, y1⟩ := row2 Ry
  go_wp2_with fail
  replace Rg := Rg.alloc (.cells #[Value.int .i64 0, Value.int .i64 0, Value.int .i64 0, Value.int .i64 0, Value.int .u64 0, Value.int .u64 0, Value.string ⟨#[]⟩, Value.int .i64 0, Value.int .i64 0, Value.int .u64 0, Value.int .u64 0, Value.string ⟨#[]⟩] 33)
  replace Rd := Rd.alloc (.cells #[Value.int .i64 0, Value.int .i64 0, Value.int .i64 0, Value.int .i64 0, Value.int .u64 0, Value.int .u64 0, Value.string ⟨#[]⟩, Value.int .i64 0, Value.int .i64 0, Value.int .u64 0, Value.int .u64 0, Value.string ⟨#[]⟩] 33)
  replace Re := Re.alloc (.cells #[Value.int .i64 0, Value.int .i64 0, Value.int .i64 0, Value.int .i64 0, Value.int .u64 0, Value.int .u64 0, Value.string ⟨#[]⟩, Value.int .i64 0, Value.int .i64 0, Value.int .u64 0, Value.int .u64 0, Value.string ⟨#[]⟩] 33)
  replace Ry := Ry.alloc (.cells #[Value.int .i64 0, Value.int .i64 0, Value.int .i64 0, Value.int .i64 0, Value.int .u64 0, Value.int .u64 0, Value.string ⟨#[]⟩, Value.int .i64 0, Value.int .i64 0, Value.int .u64 0, Value.int .u64 0, Value.string ⟨#[]⟩] 33)
  have Rm := Row.new w1 #[Value.int .i64 0, Value.int .i64 0, Value.int .i64 0, Value.int .i64 0, Value.int .u64 0, Value.int .u64 0, Value.string ⟨#[]⟩, Value.int .i64 0, Value.int .i64 0, Value.int .u64 0, Value.int .u64 0, Value.string ⟨#[]⟩] 33
  have mm := hb0.size
  replace hb0 := hb0.alloc hb0.size (.cells #[Value.int .i64 0, Value.int .i64 0, Value.int .i64 0, Value.int .i64 0, Value.int .u64 0, Value.int .u64 0, Value.string ⟨#[]⟩, Value.int .i64 0, Value.int .i64 0, Value.int .u64 0, Value.int .u64 0, Value.string ⟨#[]⟩] 33)
  (try clear g0 g1 g2 g3 g4 g5 g6); obtain ⟨g0, g1, g2, g3, g4, g5, g6⟩ := row7 Rg
  (try clear d0 d1 d2 d3 d4 d5 d6 d7 d8 d9 d10 d11); obtain ⟨d0, d1, d2, d3, d4, d5, d6, d7, d8, d9, d10, d11⟩ := row12 Rd
  (try clear e0 e1 e2 e3 e4 e5 e6 e7 e8 e9 e10 e11); obtain ⟨e0, e1, e2, e3, e4, e5, e6, e7, e8, e9, e10, e11⟩ := row12 Re
  (try clear y0 y1); obtain ⟨y0, y1⟩ := row2 Ry
  (try clear m0 m1 m2 m3 m4 m5 m6 m7 m8 m9 m10 m11); obtain ⟨m0, m1, m2, m3, m4, m5, m6, m7, m8, m9, m10, m11⟩ := row12 Rm
  refine wp_region_held_drew (S := (fun w' => w'.cell? ⟨w.heap.size + 1 + 1, 0, none⟩ = some (Value.int .i64 q.a0) ∧ w'.cell? ⟨w.heap.size + 1 + 1, 1, none⟩ = some (Value.int .i64 q.a1) ∧ Row w' w.heap.size #[.int .i64 s.n, .int .i64 s.d0.kind, .int .i64 s.d0.side, .int .i64 s.d0.step, .int .i64 s.d1.kind, .int .i64 s.d1.side, .int .i64 s.d1.step] 26 ∧ Row w' (w.heap.size + 1) #[.int .i64 p.a0, .int .i64 p.a1, .int .i64 p.k0.kind, .int .i64 p.k0.len, .int .u64 p.k0.h, .int .u64 p.k0.l, .string ⟨p.k0.path.toArray⟩, .int .i64 p.k1.kind, .int .i64 p.k1.len, .int .u64 p.k1.h, .int .u64 p.k1.l, .string ⟨p.k1.path.toArray⟩] 33 ∧ Row w' (w.heap.size + 1 + 1) #[.int .i64 q.a0, .int .i64 q.a1, .int .i64 q.k0.kind, .int .i64 q.k0.len, .int .u64 q.k0.h, .int .u64 q.k0.l, .string ⟨q.k0.path.toArray⟩, .int .i64 q.k1.kind, .int .i64 q.k1.len, .int .u64 q.k1.h, .int .u64 q.k1.l, .string ⟨q.k1.path.toArray⟩] 33)) (by kernel_rfl) ?hSr110_ (fun hHeld => ?_)
  case hSr110_ => (exact ⟨e0, e1, Rg.drew, Rd.drew, Re.drew⟩)
  (clear g0 g1 g2 g3 g4 g5 g6 d0 d1 d2 d3 d4 d5 d6 d7 d8 d9 d10 d11 e0 e1 e2 e3 e4 e5 e6 e7 e8 e9 e10 e11 y0 y1 m0 m1 m2 m3 m4 m5 m6 m7 m8 m9 m10 m11; (replace Rg := Rg.drew); (replace Rd := Rd.drew); (replace Re := Re.drew); (replace Ry := Ry.drew); (replace Rm := Rm.drew); (replace hb0 := hb0.drew); (generalize World.drew (World.alloc w1 (.cells #[Value.int .i64 0, Value.int .i64 0, Value.int .i64 0, Value.int .i64 0, Value.int .u64 0, Value.int .u64 0, Value.string ⟨#[]⟩, Value.int .i64 0, Value.int .i64 0, Value.int .u64 0, Value.int .u64 0, Value.string ⟨#[]⟩] 33)) = wq at *))
  refine tk 0 ⟨some 21, .load 26 (.tmp 5), 26, _, _, _⟩ hHeld ?_ (v := ?vr110_1_0) (hy := ?yr110_1_0)
  case yr110_1_0 => (intro wy hSw; obtain ⟨e0, e1, Qg, Qd, Qe⟩ := hSw; (with_reducible refine pexec_load 26 (.tmp 5) ?_ w.heap.size ?_ 26 #[.int .i64 s.n, .int .i64 s.d0.kind, .int .i64 s.d0.side, .int .i64 s.d0.step, .int .i64 s.d1.kind, .int .i64 s.d1.side, .int .i64 s.d1.step] _ Qg Try.underlying26 ?_ ?_) <;> first | rfl | exact infoSp)
  (try simp only [Act.put, nz1, nz2, nz3])
  refine tk 1 ⟨some 22, .load 33 (.tmp 7), 33, _, _, _⟩ hHeld ?_ (v := ?vr110_2_1) (hy := ?yr110_2_1)
  case yr110_2_1 => (intro wy hSw; obtain ⟨e0, e1, Qg, Qd, Qe⟩ := hSw; (with_reducible refine pexec_load 33 (.tmp 7) ?_ (w.heap.size + 1 + 1) ?_ 33 #[.int .i64 q.a0, .int .i64 q.a1, .int .i64 q.k0.kind, .int .i64 q.k0.len, .int .u64 q.k0.h, .int .u64 q.k0.l, .string ⟨q.k0.path.toArray⟩, .int .i64 q.k1.kind, .int .i64 q.k1.len, .int .u64 q.k1.h, .int .u64 q.k1.l, .string ⟨q.k1.path.toArray⟩] _ Qe Try.underlying33 ?_ ?_) <;> first | rfl | exact infoPx)
  (try simp only [Act.put, nz1, nz2, nz3])
  refine tk 2 ⟨some 23, .load 33 (.tmp 6), 33, _, _, _⟩ hHeld ?_ (v := ?vr110_3_2) (hy := ?yr110_3_2)
  case yr110_3_2 => (intro wy hSw; obtain ⟨e0, e1, Qg, Qd, Qe⟩ := hSw; (with_reducible refine pexec_load 33 (.tmp 6) ?_ (w.heap.size + 1) ?_ 33 #[.int .i64 p.a0, .int .i64 p.a1, .int .i64 p.k0.kind, .int .i64 p.k0.len, .int .u64 p.k0.h, .int .u64 p.k0.l, .string ⟨p.k0.path.toArray⟩, .int .i64 p.k1.kind, .int .i64 p.k1.len, .int .u64 p.k1.h, .int .u64 p.k1.l, .string ⟨p.k1.path.toArray⟩] _ Qd Try.underlying33 ?_ ?_) <;> first | rfl | exact infoPx)
  (try simp only [Act.put, nz1, nz2, nz3])
  refine tk 4 ⟨some 25, .load 26 (.tmp 5), 26, _, _, _⟩ hHeld ?_ (v := ?vr110_4_4) (hy := ?yr110_4_4)
  case yr110_4_4 => (intro wy hSw; obtain ⟨e0, e1, Qg, Qd, Qe⟩ := hSw; (with_reducible refine pexec_load 26 (.tmp 5) ?_ w.heap.size ?_ 26 #[.int .i64 s.n, .int .i64 s.d0.kind, .int .i64 s.d0.side, .int .i64 s.d0.step, .int .i64 s.d1.kind, .int .i64 s.d1.side, .int .i64 s.d1.step] _ Qg Try.underlying26 ?_ ?_) <;> first | rfl | exact infoSp)
  (try simp only [Act.put, nz1, nz2, nz3])
  refine tk 5 ⟨some 26, .load 33 (.tmp 7), 33, _, _, _⟩ hHeld ?_ (v := ?vr110_5_5) (hy := ?yr110_5_5)
  case yr110_5_5 => (intro wy hSw; obtain ⟨e0, e1, Qg, Qd, Qe⟩ := hSw; (with_reducible refine pexec_load 33 (.tmp 7) ?_ (w.heap.size + 1 + 1) ?_ 33 #[.int .i64 q.a0, .int .i64 q.a1, .int .i64 q.k0.kind, .int .i64 q.k0.len, .int .u64 q.k0.h, .int .u64 q.k0.l, .string ⟨q.k0.path.toArray⟩, .int .i64 q.k1.kind, .int .i64 q.k1.len, .int .u64 q.k1.h, .int .u64 q.k1.l, .string ⟨q.k1.path.toArray⟩] _ Qe Try.underlying33 ?_ ?_) <;> first | rfl | exact infoPx)
  (try simp only [Act.put, nz1, nz2, nz3])
  refine wpAnyH_ready (rs := [3]) (by kernel_rfl) (by simp) ?_
  refine AllReadyH.cons (o := ⟨some 24, .call { callee := .value (.func 28), args := #[.tmp 21, .tmp 22, .tmp 23], argTypes := #[26, 33, 33] }, 4, _, _, _⟩) rfl (fun K hK => ?_) AllReadyH.nil
  (go_simp; (refine (H1 _).mono ?_); (rintro e wz ⟨rfl, hb⟩); (replace Rg := Rg.later hb); (replace Rd := Rd.later hb); (replace Re := Re.later hb); (replace Ry := Ry.later hb); (replace Rm := Rm.later hb); (replace hb0 := below_step hb0 hb); go_wp2_with fail)
  refine hK.out _ _ ?hSr110_6_3 (fun hHeld2 => ?_)
  case hSr110_6_3 => (obtain ⟨e0, e1, Qg, Qd, Qe⟩ := hHeld; exact ⟨cell_later hb e0, cell_later hb e1, Qg.later hb, Qd.later hb, Qe.later hb⟩)
  clear hK K hHeld
  have hHeld := hHeld2
  clear hHeld2
  rename World => wq
  (try simp only [Act.put, nz1, nz2, nz3])
  refine wpAnyH_ready (rs := [6]) (by kernel_rfl) (by simp) ?_
  refine AllReadyH.cons (o := ⟨some 27, .call { callee := .value (.func 20), args := #[.tmp 25, .tmp 26], argTypes := #[26, 33] }, 4, _, _, _⟩) rfl (fun K hK => ?_) AllReadyH.nil
  (go_simp; (refine (H2 _).mono ?_); (rintro e wz ⟨rfl, hb⟩); (replace Rg := Rg.later hb); (replace Rd := Rd.later hb); (replace Re := Re.later hb); (replace Ry := Ry.later hb); (replace Rm := Rm.later hb); (replace hb0 := below_step hb0 hb); go_wp2_with fail)
  refine hK.out _ _ ?hSr110_7_6 (fun hHeld2 => ?_)
  case hSr110_7_6 => (obtain ⟨e0, e1, Qg, Qd, Qe⟩ := hHeld; exact ⟨cell_later hb e0, cell_later hb e1, Qg.later hb, Qd.later hb, Qe.later hb⟩)
  clear hK K hHeld
  have hHeld := hHeld2
  clear hHeld2
  rename World => wq
  (try simp only [Act.put, nz1, nz2, nz3])
  refine tk 7 ⟨some 28, .move (.tmp 27), 4, _, _, _⟩ hHeld ?_
  (try simp only [Act.put, nz1, nz2, nz3])
  refine tk 8 ⟨some 29, .load 26 (.tmp 5), 26, _, _, _⟩ hHeld ?_ (v := ?vr110_9_8) (hy := ?yr110_9_8)
  case yr110_9_8 => (intro wy hSw; obtain ⟨e0, e1, Qg, Qd, Qe⟩ := hSw; (with_reducible refine pexec_load 26 (.tmp 5) ?_ w.heap.size ?_ 26 #[.int .i64 s.n, .int .i64 s.d0.kind, .int .i64 s.d0.side, .int .i64 s.d0.step, .int .i64 s.d1.kind, .int .i64 s.d1.side, .int .i64 s.d1.step] _ Qg Try.underlying26 ?_ ?_) <;> first | rfl | exact infoSp)
  (try simp only [Act.put, nz1, nz2, nz3])
  refine tk 9 ⟨some 30, .load 33 (.tmp 6), 33, _, _, _⟩ hHeld ?_ (v := ?vr110_10_9) (hy := ?yr110_10_9)
  case yr110_10_9 => (intro wy hSw; obtain ⟨e0, e1, Qg, Qd, Qe⟩ := hSw; (with_reducible refine pexec_load 33 (.tmp 6) ?_ (w.heap.size + 1) ?_ 33 #[.int .i64 p.a0, .int .i64 p.a1, .int .i64 p.k0.kind, .int .i64 p.k0.len, .int .u64 p.k0.h, .int .u64 p.k0.l, .string ⟨p.k0.path.toArray⟩, .int .i64 p.k1.kind, .int .i64 p.k1.len, .int .u64 p.k1.h, .int .u64 p.k1.l, .string ⟨p.k1.path.toArray⟩] _ Qd Try.underlying33 ?_ ?_) <;> first | rfl | exact infoPx)
  (try simp only [Act.put, nz1, nz2, nz3])
  refine wpAnyH_ready (rs := [10]) (by kernel_rfl) (by simp) ?_
  refine AllReadyH.cons (o := ⟨some 31, .call { callee := .value (.func 20), args := #[.tmp 29, .tmp 30], argTypes := #[26, 33] }, 4, _, _, _⟩) rfl (fun K hK => ?_) AllReadyH.nil
  (go_simp; (refine (H3 _).mono ?_); (rintro e wz ⟨rfl, hb⟩); (replace Rg := Rg.later hb); (replace Rd := Rd.later hb); (replace Re := Re.later hb); (replace Ry := Ry.later hb); (replace Rm := Rm.later hb); (replace hb0 := below_step hb0 hb); go_wp2_with fail)
  refine hK.out _ _ ?hSr110_11_10 (fun hHeld2 => ?_)
  case hSr110_11_10 => (obtain ⟨e0, e1, Qg, Qd, Qe⟩ := hHeld; exact ⟨cell_later hb e0, cell_later hb e1, Qg.later hb, Qd.later hb, Qe.later hb⟩)
  clear hK K hHeld
  have hHeld := hHeld2
  clear hHeld2
  rename World => wq
  (try simp only [Act.put, nz1, nz2, nz3])
  refine tk 11 ⟨some 32, .pick (.tmp 28) (.tmp 31) (.const (.bool false)), 4, _, _, _⟩ hHeld ?_
  (try simp only [Act.put, nz1, nz2, nz3])
  refine tk 12 ⟨some 33, .move (.tmp 32), 4, _, _, _⟩ hHeld ?_
  (try simp only [Act.put, nz1, nz2, nz3])
  refine tk 13 ⟨some 34, .load 26 (.tmp 5), 26, _, _, _⟩ hHeld ?_ (v := ?vr110_14_13) (hy := ?yr110_14_13)
  case yr110_14_13 => (intro wy hSw; obtain ⟨e0, e1, Qg, Qd, Qe⟩ := hSw; (with_reducible refine pexec_load 26 (.tmp 5) ?_ w.heap.size ?_ 26 #[.int .i64 s.n, .int .i64 s.d0.kind, .int .i64 s.d0.side, .int .i64 s.d0.step, .int .i64 s.d1.kind, .int .i64 s.d1.side, .int .i64 s.d1.step] _ Qg Try.underlying26 ?_ ?_) <;> first | rfl | exact infoSp)
  (try simp only [Act.put, nz1, nz2, nz3])
  refine tk 14 ⟨some 35, .load 33 (.tmp 6), 33, _, _, _⟩ hHeld ?_ (v := ?vr110_15_14) (hy := ?yr110_15_14)
  case yr110_15_14 => (intro wy hSw; obtain ⟨e0, e1, Qg, Qd, Qe⟩ := hSw; (with_reducible refine pexec_load 33 (.tmp 6) ?_ (w.heap.size + 1) ?_ 33 #[.int .i64 p.a0, .int .i64 p.a1, .int .i64 p.k0.kind, .int .i64 p.k0.len, .int .u64 p.k0.h, .int .u64 p.k0.l, .string ⟨p.k0.path.toArray⟩, .int .i64 p.k1.kind, .int .i64 p.k1.len, .int .u64 p.k1.h, .int .u64 p.k1.l, .string ⟨p.k1.path.toArray⟩] _ Qd Try.underlying33 ?_ ?_) <;> first | rfl | exact infoPx)
  (try simp only [Act.put, nz1, nz2, nz3])
  refine tk 15 ⟨some 36, .fieldAddr 33 (.tmp 7) 0, 0, _, _, _⟩ hHeld ?_
  (try simp only [Act.put, nz1, nz2, nz3])
  refine tk 16 ⟨some 37, .load 27 (.tmp 36), 27, _, _, _⟩ hHeld ?_
  (try simp only [Act.put, nz1, nz2, nz3])
  refine tk 18 ⟨some 39, .load 33 (.tmp 7), 33, _, _, _⟩ hHeld ?_ (v := ?vr110_18_18) (hy := ?yr110_18_18)
  case yr110_18_18 => (intro wy hSw; obtain ⟨e0, e1, Qg, Qd, Qe⟩ := hSw; (with_reducible refine pexec_load 33 (.tmp 7) ?_ (w.heap.size + 1 + 1) ?_ 33 #[.int .i64 q.a0, .int .i64 q.a1, .int .i64 q.k0.kind, .int .i64 q.k0.len, .int .u64 q.k0.h, .int .u64 q.k0.l, .string ⟨q.k0.path.toArray⟩, .int .i64 q.k1.kind, .int .i64 q.k1.len, .int .u64 q.k1.h, .int .u64 q.k1.l, .string ⟨q.k1.path.toArray⟩] _ Qe Try.underlying33 ?_ ?_) <;> first | rfl | exact infoPx)
  (try simp only [Act.put, nz1, nz2, nz3])
  refine wpAnyH_ready (rs := [17]) (by kernel_rfl) (by simp) ?_
  refine AllReadyH.cons (o := ⟨some 38, .call { callee := .value (.func 26), args := #[.tmp 34, .tmp 35, .tmp 37], argTypes := #[26, 33, 27] }, 33, _, _, _⟩) rfl (fun K hK => ?_) AllReadyH.nil
  (go_simp; (refine (H4 _).mono ?_); (rintro e wz ⟨rfl, hb⟩); (replace Rg := Rg.later hb); (replace Rd := Rd.later hb); (replace Re := Re.later hb); (replace Ry := Ry.later hb); (replace Rm := Rm.later hb); (replace hb0 := below_step hb0 hb); go_wp2_with fail)
  refine hK.out _ _ ?hSr110_19_17 (fun hHeld2 => ?_)
  case hSr110_19_17 => (obtain ⟨e0, e1, Qg, Qd, Qe⟩ := hHeld; exact ⟨cell_later hb e0, cell_later hb e1, Qg.later hb, Qd.later hb, Qe.later hb⟩)
  clear hK K hHeld
  have hHeld := hHeld2
  clear hHeld2
  rename World => wq
  (try simp only [Act.put, nz1, nz2, nz3])
  refine tk 19 ⟨some 40, .binOp .eql 33 (.tmp 38) (.tmp 39) 33, 4, _, _, _⟩ hHeld ?_
  (try simp only [Act.put, nz1, nz2, nz3])
  refine tk 20 ⟨some 41, .pick (.tmp 33) (.tmp 40) (.const (.bool false)), 4, _, _, _⟩ hHeld ?_
  (try simp only [Act.put, nz1, nz2, nz3])
  refine tk 21 ⟨some 42, .binOp .neq 4 (.tmp 24) (.tmp 41) 4, 4, _, _, _⟩ hHeld ?_
  (try simp only [Act.put, nz1, nz2, nz3])
  refine wpAnyH_done (by kernel_rfl) ?_ _
  clear hHeld
  rename World => w2
  have lg := Rg.lt
  have ld := Rd.lt
  have le := Re.lt
  have ly := Ry.lt
  have lm := Rm.lt
  (try clear g0 g1 g2 g3 g4 g5 g6); obtain ⟨g0, g1, g2, g3, g4, g5, g6⟩ := row7 Rg
  (try clear d0 d1 d2 d3 d4 d5 d6 d7 d8 d9 d10 d11); obtain ⟨d0, d1, d2, d3, d4, d5, d6, d7, d8, d9, d10, d11⟩ := row12 Rd
  (try clear e0 e1 e2 e3 e4 e5 e6 e7 e8 e9 e10 e11); obtain ⟨e0, e1, e2, e3, e4, e5, e6, e7, e8, e9, e10, e11⟩ := row12 Re
  (try clear y0 y1); obtain ⟨y0, y1⟩ := row2 Ry
  (try clear m0 m1 m2 m3 m4 m5 m6 m7 m8 m9 m10 m11); obtain ⟨m0, m1, m2, m3, m4, m5, m6, m7, m8, m9, m10, m11⟩ := row12 Rm
  go_wp2_with fail
  refine (H5 _).mono ?_
  rintro e w3 ⟨rfl, hb⟩
  replace Rg := Rg.later hb
  replace Rd := Rd.later hb
  replace Re := Re.later hb
  replace Ry := Ry.later hb
  replace Rm := Rm.later hb
  replace hb0 := below_step hb0 hb
  clear hb
  have lg := Rg.lt
  have ld := Rd.lt
  have le := Re.lt
  have ly := Ry.lt
  have lm := Rm.lt
  (try clear g0 g1 g2 g3 g4 g5 g6); obtain ⟨g0, g1, g2, g3, g4, g5, g6⟩ := row7 Rg
  (try clear d0 d1 d2 d3 d4 d5 d6 d7 d8 d9 d10 d11); obtain ⟨d0, d1, d2, d3, d4, d5, d6, d7, d8, d9, d10, d11⟩ := row12 Rd
  (try clear e0 e1 e2 e3 e4 e5 e6 e7 e8 e9 e10 e11); obtain ⟨e0, e1, e2, e3, e4, e5, e6, e7, e8, e9, e10, e11⟩ := row12 Re
  (try clear y0 y1); obtain ⟨y0, y1⟩ := row2 Ry
  (try clear m0 m1 m2 m3 m4 m5 m6 m7 m8 m9 m10 m11); obtain ⟨m0, m1, m2, m3, m4, m5, m6, m7, m8, m9, m10, m11⟩ := row12 Rm
  go_wp2_with fail
  refine (H3 _).mono ?_
  rintro e w4 ⟨rfl, hb⟩
  have nng := Rg.lt
  have nnd := Rd.lt
  have nne := Re.lt
  have nny := Ry.lt
  have nnm := Rm.lt
  replace Rg := (Rg.alloc _).later hb
  replace Rd := (Rd.alloc _).later hb
  replace Re := (Re.alloc _).later hb
  replace Ry := (Ry.alloc _).later hb
  replace Rm := (Rm.alloc _).later hb
  have Rn := Row.later (Row.new _ _ _) hb
  have mn := hb0.size
  replace hb0 := below_step (hb0.alloc hb0.size _) hb
  clear hb
  generalize w3.heap.size = gn at *
  have lg := Rg.lt
  have ld := Rd.lt
  have le := Re.lt
  have ly := Ry.lt
  have lm := Rm.lt
  have ln := Rn.lt
  (try clear g0 g1 g2 g3 g4 g5 g6); obtain ⟨g0, g1, g2, g3, g4, g5, g6⟩ := row7 Rg
  (try clear d0 d1 d2 d3 d4 d5 d6 d7 d8 d9 d10 d11); obtain ⟨d0, d1, d2, d3, d4, d5, d6, d7, d8, d9, d10, d11⟩ := row12 Rd
  (try clear e0 e1 e2 e3 e4 e5 e6 e7 e8 e9 e10 e11); obtain ⟨e0, e1, e2, e3, e4, e5, e6, e7, e8, e9, e10, e11⟩ := row12 Re
  (try clear y0 y1); obtain ⟨y0, y1⟩ := row2 Ry
  (try clear m0 m1 m2 m3 m4 m5 m6 m7 m8 m9 m10 m11); obtain ⟨m0, m1, m2, m3, m4, m5, m6, m7, m8, m9, m10, m11⟩ := row12 Rm
  (try clear n0 n1 n2 n3 n4 n5 n6 n7 n8 n9 n10 n11); obtain ⟨n0, n1, n2, n3, n4, n5, n6, n7, n8, n9, n10, n11⟩ := row12 Rn
  go_wp2_with fail
  refine (HA _).mono ?_
  rintro e w5 ⟨rfl, hb⟩
  replace Rg := Rg.later hb
  replace Rd := Rd.later hb
  replace Re := Re.later hb
  replace Ry := Ry.later hb
  replace Rm := Rm.later hb
  replace Rn := Rn.later hb
  replace hb0 := below_step hb0 hb
  clear hb
  have lg := Rg.lt
  have ld := Rd.lt
  have le := Re.lt
  have ly := Ry.lt
  have lm := Rm.lt
  have ln := Rn.lt
  (try clear g0 g1 g2 g3 g4 g5 g6); obtain ⟨g0, g1, g2, g3, g4, g5, g6⟩ := row7 Rg
  (try clear d0 d1 d2 d3 d4 d5 d6 d7 d8 d9 d10 d11); obtain ⟨d0, d1, d2, d3, d4, d5, d6, d7, d8, d9, d10, d11⟩ := row12 Rd
  (try clear e0 e1 e2 e3 e4 e5 e6 e7 e8 e9 e10 e11); obtain ⟨e0, e1, e2, e3, e4, e5, e6, e7, e8, e9, e10, e11⟩ := row12 Re
  (try clear y0 y1); obtain ⟨y0, y1⟩ := row2 Ry
  (try clear m0 m1 m2 m3 m4 m5 m6 m7 m8 m9 m10 m11); obtain ⟨m0, m1, m2, m3, m4, m5, m6, m7, m8, m9, m10, m11⟩ := row12 Rm
  (try clear n0 n1 n2 n3 n4 n5 n6 n7 n8 n9 n10 n11); obtain ⟨n0, n1, n2, n3, n4, n5, n6, n7, n8, n9, n10, n11⟩ := row12 Rn
  go_wp2
  go_ret
  exact ⟨rfl, hb0⟩
set_option maxRecDepth 100000 in
set_option maxHeartbeats 32000000 in
theorem one_11d (s : Sp) (p q u v t : Px) (i j hu2 hp2 : Int) (b : Bool)
    (H0 : ∀ w, Calls Try.prog 26 #[sv s, pv p, .agg #[.int .i64 i, .int .i64 j]] w fun e w' => e = .returned (pv pz) ∧ Below w.heap.size w w')
    (H1 : ∀ w, Calls Try.prog 28 #[sv s, pv q, pv p] w fun e w' => e = .returned (.bool b) ∧ Below w.heap.size w w')
    (H2 : ∀ w, Calls Try.prog 20 #[sv s, pv q] w fun e w' => e = .returned (.bool true) ∧ Below w.heap.size w w')
    (H3 : ∀ w, Calls Try.prog 20 #[sv s, pv p] w fun e w' => e = .returned (.bool true) ∧ Below w.heap.size w w')
    (H5 : ∀ w, Calls Try.prog 22 #[sv s] w fun e w' => e = .returned (pv t) ∧ Below w.heap.size w w')
    (H4 : ∀ w, Calls Try.prog 26 #[sv s, pv p, .agg #[.int .i64 q.a0, .int .i64 q.a1]] w fun e w' => e = .returned (pv v) ∧ Below w.heap.size w w')
    (hb : decide (v = q) = b)
    (g0 : ¬ i < p.a0) (g1 : ¬ j < p.a1) (g2 : ¬ t.a0 < i) (g3 : t.a1 < j) (w : World) :
    Calls Try.prog 7 #[sv s, pv p, pv q, .int .i64 i, .int .i64 j] w fun e w' => e = .returned (.bool true) ∧ Below w.heap.size w w' := by
  have HA := alive9_t
  have qe := eql_px pz pz
  rw [decide_eq_true rfl] at qe
  have qv := eql_px v q
  rw [hb] at qv
  clear hb
  have g0' : decide (i < p.a0) = false := decide_eq_false g0
  have g1' : decide (j < p.a1) = false := decide_eq_false g1
  have g2' : decide (t.a0 < i) = false := decide_eq_false g2
  have g3' : decide (t.a1 < j) = true := decide_eq_true g3
  unfold pz kz at *
  unfold sv pv at *
  obtain ⟨Rg, Rd, Re, hb0⟩ := three_rows w #[.int .i64 s.n, .int .i64 s.d0.kind, .int .i64 s.d0.side, .int .i64 s.d0.step, .int .i64 s.d1.kind, .int .i64 s.d1.side, .int .i64 s.d1.step] #[.int .i64 p.a0, .int .i64 p.a1, .int .i64 p.k0.kind, .int .i64 p.k0.len, .int .u64 p.k0.h, .int .u64 p.k0.l, .string ⟨p.k0.path.toArray⟩, .int .i64 p.k1.kind, .int .i64 p.k1.len, .int .u64 p.k1.h, .int .u64 p.k1.l, .string ⟨p.k1.path.toArray⟩] #[.int .i64 q.a0, .int .i64 q.a1, .int .i64 q.k0.kind, .int .i64 q.k0.len, .int .u64 q.k0.h, .int .u64 q.k0.l, .string ⟨q.k0.path.toArray⟩, .int .i64 q.k1.kind, .int .i64 q.k1.len, .int .u64 q.k1.h, .int .u64 q.k1.l, .string ⟨q.k1.path.toArray⟩] 26 33 33
  (try clear g0 g1 g2 g3 g4 g5 g6); obtain ⟨g0, g1, g2, g3, g4, g5, g6⟩ := row7 Rg
  (try clear d0 d1 d2 d3 d4 d5 d6 d7 d8 d9 d10 d11); obtain ⟨d0, d1, d2, d3, d4, d5, d6, d7, d8, d9, d10, d11⟩ := row12 Rd
  (try clear e0 e1 e2 e3 e4 e5 e6 e7 e8 e9 e10 e11); obtain ⟨e0, e1, e2, e3, e4, e5, e6, e7, e8, e9, e10, e11⟩ := row12 Re
  go_enter Try.func7, Try.ntmps7
  go_wp2_with fail
  refine (H0 _).mono ?_
  rintro e w1 ⟨rfl, hb⟩
  replace Rg := (Rg.alloc _).later hb
  replace Rd := (Rd.alloc _).later hb
  replace Re := (Re.alloc _).later hb
  have Ry := Row.later (Row.new _ _ _) hb
  simp only [World.size_alloc] at Ry
  replace hb0 := below_step (hb0.alloc hb0.size _) hb
  clear hb
  have lg := Rg.lt
  have ld := Rd.lt
  have le := Re.lt
  have ly := Ry.lt
  (try clear g0 g1 g2 g3 g4 g5 g6); obtain ⟨g0, g1, g2, g3, g4, g5, g6⟩ := row7 Rg
  (try clear d0 d1 d2 d3 d4 d5 d6 d7 d8 d9 d10 d11); obtain ⟨d0, d1, d2, d3, d4, d5, d6, d7, d8, d9, d10, d11⟩ := row12 Rd
  (try clear e0 e1 e2 e3 e4 e5 e6 e7 e8 e9 e10 e11); obtain ⟨e0, e1, e2, e3, e4, e5, e6, e7, e8, e9, e10, e11⟩ := row12 Re
  (try clear y0 y1); obtain ⟨y0, y1⟩ := row2 Ry
  go_wp2_with fail
  replace Rg := Rg.alloc (.cells #[Value.int .i64 0, Value.int .i64 0, Value.int .i64 0, Value.int .i64 0, Value.int .u64 0, Value.int .u64 0, Value.string ⟨#[]⟩, Value.int .i64 0, Value.int .i64 0, Value.int .u64 0, Value.int .u64 0, Value.string ⟨#[]⟩] 33)
  replace Rd := Rd.alloc (.cells #[Value.int .i64 0, Value.int .i64 0, Value.int .i64 0, Value.int .i64 0, Value.int .u64 0, Value.int .u64 0, Value.string ⟨#[]⟩, Value.int .i64 0, Value.int .i64 0, Value.int .u64 0, Value.int .u64 0, Value.string ⟨#[]⟩] 33)
  replace Re := Re.alloc (.cells #[Value.int .i64 0, Value.int .i64 0, Value.int .i64 0, Value.int .i64 0, Value.int .u64 0, Value.int .u64 0, Value.string ⟨#[]⟩, Value.int .i64 0, Value.int .i64 0, Value.int .u64 0, Value.int .u64 0, Value.string ⟨#[]⟩] 33)
  replace Ry := Ry.alloc (.cells #[Value.int .i64 0, Value.int .i64 0, Value.int .i64 0, Value.int .i64 0, Value.int .u64 0, Value.int .u64 0, Value.string ⟨#[]⟩, Value.int .i64 0, Value.int .i64 0, Value.int .u64 0, Value.int .u64 0, Value.string ⟨#[]⟩] 33)
  have Rm := Row.new w1 #[Value.int .i64 0, Value.int .i64 0, Value.int .i64 0, Value.int .i64 0, Value.int .u64 0, Value.int .u64 0, Value.string ⟨#[]⟩, Value.int .i64 0, Value.int .i64 0, Value.int .u64 0, Value.int .u64 0, Value.string ⟨#[]⟩] 33
  have mm := hb0.size
  replace hb0 := hb0.alloc hb0.size (.cells #[Value.int .i64 0, Value.int .i64 0, Value.int .i64 0, Value.int .i64 0, Value.int .u64 0, Value.int .u64 0, Value.string ⟨#[]⟩, Value.int .i64 0, Value.int .i64 0, Value.int .u64 0, Value.int .u64 0, Value.string ⟨#[]⟩] 33)
  (try clear g0 g1 g2 g3 g4 g5 g6); obtain ⟨g0, g1, g2, g3, g4, g5, g6⟩ := row7 Rg
  (try clear d0 d1 d2 d3 d4 d5 d6 d7 d8 d9 d10 d11); obtain ⟨d0, d1, d2, d3, d4, d5, d6, d7, d8, d9, d10, d11⟩ := row12 Rd
  (try clear e0 e1 e2 e3 e4 e5 e6 e7 e8 e9 e10 e11); obtain ⟨e0, e1, e2, e3, e4, e5, e6, e7, e8, e9, e10, e11⟩ := row12 Re
  (try clear y0 y1); obtain ⟨y0, y1⟩ := row2 Ry
  (try clear m0 m1 m2 m3 m4 m5 m6 m7 m8 m9 m10 m11); obtain ⟨m0, m1, m2, m3, m4, m5, m6, m7, m8, m9, m10, m11⟩ := row12 Rm
  refine wp_region_held_drew (S := (fun w' => w'.cell? ⟨w.heap.size + 1 + 1, 0, none⟩ = some (Value.int .i64 q.a0) ∧ w'.cell? ⟨w.heap.size + 1 + 1, 1, none⟩ = some (Value.int .i64 q.a1) ∧ Row w' w.heap.size #[.int .i64 s.n, .int .i64 s.d0.kind, .int .i64 s.d0.side, .int .i64 s.d0.step, .int .i64 s.d1.kind, .int .i64 s.d1.side, .int .i64 s.d1.step] 26 ∧ Row w' (w.heap.size + 1) #[.int .i64 p.a0, .int .i64 p.a1, .int .i64 p.k0.kind, .int .i64 p.k0.len, .int .u64 p.k0.h, .int .u64 p.k0.l, .string ⟨p.k0.path.toArray⟩, .int .i64 p.k1.kind, .int .i64 p.k1.len, .int .u64 p.k1.h, .int .u64 p.k1.l, .string ⟨p.k1.path.toArray⟩] 33 ∧ Row w' (w.heap.size + 1 + 1) #[.int .i64 q.a0, .int .i64 q.a1, .int .i64 q.k0.kind, .int .i64 q.k0.len, .int .u64 q.k0.h, .int .u64 q.k0.l, .string ⟨q.k0.path.toArray⟩, .int .i64 q.k1.kind, .int .i64 q.k1.len, .int .u64 q.k1.h, .int .u64 q.k1.l, .string ⟨q.k1.path.toArray⟩] 33)) (by kernel_rfl) ?hSr111_ (fun hHeld => ?_)
  case hSr111_ => (exact ⟨e0, e1, Rg.drew, Rd.drew, Re.drew⟩)
  (clear g0 g1 g2 g3 g4 g5 g6 d0 d1 d2 d3 d4 d5 d6 d7 d8 d9 d10 d11 e0 e1 e2 e3 e4 e5 e6 e7 e8 e9 e10 e11 y0 y1 m0 m1 m2 m3 m4 m5 m6 m7 m8 m9 m10 m11; (replace Rg := Rg.drew); (replace Rd := Rd.drew); (replace Re := Re.drew); (replace Ry := Ry.drew); (replace Rm := Rm.drew); (replace hb0 := hb0.drew); (generalize World.drew (World.alloc w1 (.cells #[Value.int .i64 0, Value.int .i64 0, Value.int .i64 0, Value.int .i64 0, Value.int .u64 0, Value.int .u64 0, Value.string ⟨#[]⟩, Value.int .i64 0, Value.int .i64 0, Value.int .u64 0, Value.int .u64 0, Value.string ⟨#[]⟩] 33)) = wq at *))
  refine tk 0 ⟨some 21, .load 26 (.tmp 5), 26, _, _, _⟩ hHeld ?_ (v := ?vr111_1_0) (hy := ?yr111_1_0)
  case yr111_1_0 => (intro wy hSw; obtain ⟨e0, e1, Qg, Qd, Qe⟩ := hSw; (with_reducible refine pexec_load 26 (.tmp 5) ?_ w.heap.size ?_ 26 #[.int .i64 s.n, .int .i64 s.d0.kind, .int .i64 s.d0.side, .int .i64 s.d0.step, .int .i64 s.d1.kind, .int .i64 s.d1.side, .int .i64 s.d1.step] _ Qg Try.underlying26 ?_ ?_) <;> first | rfl | exact infoSp)
  (try simp only [Act.put, nz1, nz2, nz3])
  refine tk 1 ⟨some 22, .load 33 (.tmp 7), 33, _, _, _⟩ hHeld ?_ (v := ?vr111_2_1) (hy := ?yr111_2_1)
  case yr111_2_1 => (intro wy hSw; obtain ⟨e0, e1, Qg, Qd, Qe⟩ := hSw; (with_reducible refine pexec_load 33 (.tmp 7) ?_ (w.heap.size + 1 + 1) ?_ 33 #[.int .i64 q.a0, .int .i64 q.a1, .int .i64 q.k0.kind, .int .i64 q.k0.len, .int .u64 q.k0.h, .int .u64 q.k0.l, .string ⟨q.k0.path.toArray⟩, .int .i64 q.k1.kind, .int .i64 q.k1.len, .int .u64 q.k1.h, .int .u64 q.k1.l, .string ⟨q.k1.path.toArray⟩] _ Qe Try.underlying33 ?_ ?_) <;> first | rfl | exact infoPx)
  (try simp only [Act.put, nz1, nz2, nz3])
  refine tk 2 ⟨some 23, .load 33 (.tmp 6), 33, _, _, _⟩ hHeld ?_ (v := ?vr111_3_2) (hy := ?yr111_3_2)
  case yr111_3_2 => (intro wy hSw; obtain ⟨e0, e1, Qg, Qd, Qe⟩ := hSw; (with_reducible refine pexec_load 33 (.tmp 6) ?_ (w.heap.size + 1) ?_ 33 #[.int .i64 p.a0, .int .i64 p.a1, .int .i64 p.k0.kind, .int .i64 p.k0.len, .int .u64 p.k0.h, .int .u64 p.k0.l, .string ⟨p.k0.path.toArray⟩, .int .i64 p.k1.kind, .int .i64 p.k1.len, .int .u64 p.k1.h, .int .u64 p.k1.l, .string ⟨p.k1.path.toArray⟩] _ Qd Try.underlying33 ?_ ?_) <;> first | rfl | exact infoPx)
  (try simp only [Act.put, nz1, nz2, nz3])
  refine tk 4 ⟨some 25, .load 26 (.tmp 5), 26, _, _, _⟩ hHeld ?_ (v := ?vr111_4_4) (hy := ?yr111_4_4)
  case yr111_4_4 => (intro wy hSw; obtain ⟨e0, e1, Qg, Qd, Qe⟩ := hSw; (with_reducible refine pexec_load 26 (.tmp 5) ?_ w.heap.size ?_ 26 #[.int .i64 s.n, .int .i64 s.d0.kind, .int .i64 s.d0.side, .int .i64 s.d0.step, .int .i64 s.d1.kind, .int .i64 s.d1.side, .int .i64 s.d1.step] _ Qg Try.underlying26 ?_ ?_) <;> first | rfl | exact infoSp)
  (try simp only [Act.put, nz1, nz2, nz3])
  refine tk 5 ⟨some 26, .load 33 (.tmp 7), 33, _, _, _⟩ hHeld ?_ (v := ?vr111_5_5) (hy := ?yr111_5_5)
  case yr111_5_5 => (intro wy hSw; obtain ⟨e0, e1, Qg, Qd, Qe⟩ := hSw; (with_reducible refine pexec_load 33 (.tmp 7) ?_ (w.heap.size + 1 + 1) ?_ 33 #[.int .i64 q.a0, .int .i64 q.a1, .int .i64 q.k0.kind, .int .i64 q.k0.len, .int .u64 q.k0.h, .int .u64 q.k0.l, .string ⟨q.k0.path.toArray⟩, .int .i64 q.k1.kind, .int .i64 q.k1.len, .int .u64 q.k1.h, .int .u64 q.k1.l, .string ⟨q.k1.path.toArray⟩] _ Qe Try.underlying33 ?_ ?_) <;> first | rfl | exact infoPx)
  (try simp only [Act.put, nz1, nz2, nz3])
  refine wpAnyH_ready (rs := [3]) (by kernel_rfl) (by simp) ?_
  refine AllReadyH.cons (o := ⟨some 24, .call { callee := .value (.func 28), args := #[.tmp 21, .tmp 22, .tmp 23], argTypes := #[26, 33, 33] }, 4, _, _, _⟩) rfl (fun K hK => ?_) AllReadyH.nil
  (go_simp; (refine (H1 _).mono ?_); (rintro e wz ⟨rfl, hb⟩); (replace Rg := Rg.later hb); (replace Rd := Rd.later hb); (replace Re := Re.later hb); (replace Ry := Ry.later hb); (replace Rm := Rm.later hb); (replace hb0 := below_step hb0 hb); go_wp2_with fail)
  refine hK.out _ _ ?hSr111_6_3 (fun hHeld2 => ?_)
  case hSr111_6_3 => (obtain ⟨e0, e1, Qg, Qd, Qe⟩ := hHeld; exact ⟨cell_later hb e0, cell_later hb e1, Qg.later hb, Qd.later hb, Qe.later hb⟩)
  clear hK K hHeld
  have hHeld := hHeld2
  clear hHeld2
  rename World => wq
  (try simp only [Act.put, nz1, nz2, nz3])
  refine wpAnyH_ready (rs := [6]) (by kernel_rfl) (by simp) ?_
  refine AllReadyH.cons (o := ⟨some 27, .call { callee := .value (.func 20), args := #[.tmp 25, .tmp 26], argTypes := #[26, 33] }, 4, _, _, _⟩) rfl (fun K hK => ?_) AllReadyH.nil
  (go_simp; (refine (H2 _).mono ?_); (rintro e wz ⟨rfl, hb⟩); (replace Rg := Rg.later hb); (replace Rd := Rd.later hb); (replace Re := Re.later hb); (replace Ry := Ry.later hb); (replace Rm := Rm.later hb); (replace hb0 := below_step hb0 hb); go_wp2_with fail)
  refine hK.out _ _ ?hSr111_7_6 (fun hHeld2 => ?_)
  case hSr111_7_6 => (obtain ⟨e0, e1, Qg, Qd, Qe⟩ := hHeld; exact ⟨cell_later hb e0, cell_later hb e1, Qg.later hb, Qd.later hb, Qe.later hb⟩)
  clear hK K hHeld
  have hHeld := hHeld2
  clear hHeld2
  rename World => wq
  (try simp only [Act.put, nz1, nz2, nz3])
  refine tk 7 ⟨some 28, .move (.tmp 27), 4, _, _, _⟩ hHeld ?_
  (try simp only [Act.put, nz1, nz2, nz3])
  refine tk 8 ⟨some 29, .load 26 (.tmp 5), 26, _, _, _⟩ hHeld ?_ (v := ?vr111_9_8) (hy := ?yr111_9_8)
  case yr111_9_8 => (intro wy hSw; obtain ⟨e0, e1, Qg, Qd, Qe⟩ := hSw; (with_reducible refine pexec_load 26 (.tmp 5) ?_ w.heap.size ?_ 26 #[.int .i64 s.n, .int .i64 s.d0.kind, .int .i64 s.d0.side, .int .i64 s.d0.step, .int .i64 s.d1.kind, .int .i64 s.d1.side, .int .i64 s.d1.step] _ Qg Try.underlying26 ?_ ?_) <;> first | rfl | exact infoSp)
  (try simp only [Act.put, nz1, nz2, nz3])
  refine tk 9 ⟨some 30, .load 33 (.tmp 6), 33, _, _, _⟩ hHeld ?_ (v := ?vr111_10_9) (hy := ?yr111_10_9)
  case yr111_10_9 => (intro wy hSw; obtain ⟨e0, e1, Qg, Qd, Qe⟩ := hSw; (with_reducible refine pexec_load 33 (.tmp 6) ?_ (w.heap.size + 1) ?_ 33 #[.int .i64 p.a0, .int .i64 p.a1, .int .i64 p.k0.kind, .int .i64 p.k0.len, .int .u64 p.k0.h, .int .u64 p.k0.l, .string ⟨p.k0.path.toArray⟩, .int .i64 p.k1.kind, .int .i64 p.k1.len, .int .u64 p.k1.h, .int .u64 p.k1.l, .string ⟨p.k1.path.toArray⟩] _ Qd Try.underlying33 ?_ ?_) <;> first | rfl | exact infoPx)
  (try simp only [Act.put, nz1, nz2, nz3])
  refine wpAnyH_ready (rs := [10]) (by kernel_rfl) (by simp) ?_
  refine AllReadyH.cons (o := ⟨some 31, .call { callee := .value (.func 20), args := #[.tmp 29, .tmp 30], argTypes := #[26, 33] }, 4, _, _, _⟩) rfl (fun K hK => ?_) AllReadyH.nil
  (go_simp; (refine (H3 _).mono ?_); (rintro e wz ⟨rfl, hb⟩); (replace Rg := Rg.later hb); (replace Rd := Rd.later hb); (replace Re := Re.later hb); (replace Ry := Ry.later hb); (replace Rm := Rm.later hb); (replace hb0 := below_step hb0 hb); go_wp2_with fail)
  refine hK.out _ _ ?hSr111_11_10 (fun hHeld2 => ?_)
  case hSr111_11_10 => (obtain ⟨e0, e1, Qg, Qd, Qe⟩ := hHeld; exact ⟨cell_later hb e0, cell_later hb e1, Qg.later hb, Qd.later hb, Qe.later hb⟩)
  clear hK K hHeld
  have hHeld := hHeld2
  clear hHeld2
  rename World => wq
  (try simp only [Act.put, nz1, nz2, nz3])
  refine tk 11 ⟨some 32, .pick (.tmp 28) (.tmp 31) (.const (.bool false)), 4, _, _, _⟩ hHeld ?_
  (try simp only [Act.put, nz1, nz2, nz3])
  refine tk 12 ⟨some 33, .move (.tmp 32), 4, _, _, _⟩ hHeld ?_
  (try simp only [Act.put, nz1, nz2, nz3])
  refine tk 13 ⟨some 34, .load 26 (.tmp 5), 26, _, _, _⟩ hHeld ?_ (v := ?vr111_14_13) (hy := ?yr111_14_13)
  case yr111_14_13 => (intro wy hSw; obtain ⟨e0, e1, Qg, Qd, Qe⟩ := hSw; (with_reducible refine pexec_load 26 (.tmp 5) ?_ w.heap.size ?_ 26 #[.int .i64 s.n, .int .i64 s.d0.kind, .int .i64 s.d0.side, .int .i64 s.d0.step, .int .i64 s.d1.kind, .int .i64 s.d1.side, .int .i64 s.d1.step] _ Qg Try.underlying26 ?_ ?_) <;> first | rfl | exact infoSp)
  (try simp only [Act.put, nz1, nz2, nz3])
  refine tk 14 ⟨some 35, .load 33 (.tmp 6), 33, _, _, _⟩ hHeld ?_ (v := ?vr111_15_14) (hy := ?yr111_15_14)
  case yr111_15_14 => (intro wy hSw; obtain ⟨e0, e1, Qg, Qd, Qe⟩ := hSw; (with_reducible refine pexec_load 33 (.tmp 6) ?_ (w.heap.size + 1) ?_ 33 #[.int .i64 p.a0, .int .i64 p.a1, .int .i64 p.k0.kind, .int .i64 p.k0.len, .int .u64 p.k0.h, .int .u64 p.k0.l, .string ⟨p.k0.path.toArray⟩, .int .i64 p.k1.kind, .int .i64 p.k1.len, .int .u64 p.k1.h, .int .u64 p.k1.l, .string ⟨p.k1.path.toArray⟩] _ Qd Try.underlying33 ?_ ?_) <;> first | rfl | exact infoPx)
  (try simp only [Act.put, nz1, nz2, nz3])
  refine tk 15 ⟨some 36, .fieldAddr 33 (.tmp 7) 0, 0, _, _, _⟩ hHeld ?_
  (try simp only [Act.put, nz1, nz2, nz3])
  refine tk 16 ⟨some 37, .load 27 (.tmp 36), 27, _, _, _⟩ hHeld ?_
  (try simp only [Act.put, nz1, nz2, nz3])
  refine tk 18 ⟨some 39, .load 33 (.tmp 7), 33, _, _, _⟩ hHeld ?_ (v := ?vr111_18_18) (hy := ?yr111_18_18)
  case yr111_18_18 => (intro wy hSw; obtain ⟨e0, e1, Qg, Qd, Qe⟩ := hSw; (with_reducible refine pexec_load 33 (.tmp 7) ?_ (w.heap.size + 1 + 1) ?_ 33 #[.int .i64 q.a0, .int .i64 q.a1, .int .i64 q.k0.kind, .int .i64 q.k0.len, .int .u64 q.k0.h, .int .u64 q.k0.l, .string ⟨q.k0.path.toArray⟩, .int .i64 q.k1.kind, .int .i64 q.k1.len, .int .u64 q.k1.h, .int .u64 q.k1.l, .string ⟨q.k1.path.toArray⟩] _ Qe Try.underlying33 ?_ ?_) <;> first | rfl | exact infoPx)
  (try simp only [Act.put, nz1, nz2, nz3])
  refine wpAnyH_ready (rs := [17]) (by kernel_rfl) (by simp) ?_
  refine AllReadyH.cons (o := ⟨some 38, .call { callee := .value (.func 26), args := #[.tmp 34, .tmp 35, .tmp 37], argTypes := #[26, 33, 27] }, 33, _, _, _⟩) rfl (fun K hK => ?_) AllReadyH.nil
  (go_simp; (refine (H4 _).mono ?_); (rintro e wz ⟨rfl, hb⟩); (replace Rg := Rg.later hb); (replace Rd := Rd.later hb); (replace Re := Re.later hb); (replace Ry := Ry.later hb); (replace Rm := Rm.later hb); (replace hb0 := below_step hb0 hb); go_wp2_with fail)
  refine hK.out _ _ ?hSr111_19_17 (fun hHeld2 => ?_)
  case hSr111_19_17 => (obtain ⟨e0, e1, Qg, Qd, Qe⟩ := hHeld; exact ⟨cell_later hb e0, cell_later hb e1, Qg.later hb, Qd.later hb, Qe.later hb⟩)
  clear hK K hHeld
  have hHeld := hHeld2
  clear hHeld2
  rename World => wq
  (try simp only [Act.put, nz1, nz2, nz3])
  refine tk 19 ⟨some 40, .binOp .eql 33 (.tmp 38) (.tmp 39) 33, 4, _, _, _⟩ hHeld ?_
  (try simp only [Act.put, nz1, nz2, nz3])
  refine tk 20 ⟨some 41, .pick (.tmp 33) (.tmp 40) (.const (.bool false)), 4, _, _, _⟩ hHeld ?_
  (try simp only [Act.put, nz1, nz2, nz3])
  refine tk 21 ⟨some 42, .binOp .neq 4 (.tmp 24) (.tmp 41) 4, 4, _, _, _⟩ hHeld ?_
  (try simp only [Act.put, nz1, nz2, nz3])
  refine wpAnyH_done (by kernel_rfl) ?_ _
  clear hHeld
  rename World => w2
  have lg := Rg.lt
  have ld := Rd.lt
  have le := Re.lt
  have ly := Ry.lt
  have lm := Rm.lt
  (try clear g0 g1 g2 g3 g4 g5 g6); obtain ⟨g0, g1, g2, g3, g4, g5, g6⟩ := row7 Rg
  (try clear d0 d1 d2 d3 d4 d5 d6 d7 d8 d9 d10 d11); obtain ⟨d0, d1, d2, d3, d4, d5, d6, d7, d8, d9, d10, d11⟩ := row12 Rd
  (try clear e0 e1 e2 e3 e4 e5 e6 e7 e8 e9 e10 e11); obtain ⟨e0, e1, e2, e3, e4, e5, e6, e7, e8, e9, e10, e11⟩ := row12 Re
  (try clear y0 y1); obtain ⟨y0, y1⟩ := row2 Ry
  (try clear m0 m1 m2 m3 m4 m5 m6 m7 m8 m9 m10 m11); obtain ⟨m0, m1, m2, m3, m4, m5, m6, m7, m8, m9, m10, m11⟩ := row12 Rm
  go_wp2_with fail
  refine (H5 _).mono ?_
  rintro e w3 ⟨rfl, hb⟩
  replace Rg := Rg.later hb
  replace Rd := Rd.later hb
  replace Re := Re.later hb
  replace Ry := Ry.later hb
  replace Rm := Rm.later hb
  replace hb0 := below_step hb0 hb
  clear hb
  have lg := Rg.lt
  have ld := Rd.lt
  have le := Re.lt
  have ly := Ry.lt
  have lm := Rm.lt
  (try clear g0 g1 g2 g3 g4 g5 g6); obtain ⟨g0, g1, g2, g3, g4, g5, g6⟩ := row7 Rg
  (try clear d0 d1 d2 d3 d4 d5 d6 d7 d8 d9 d10 d11); obtain ⟨d0, d1, d2, d3, d4, d5, d6, d7, d8, d9, d10, d11⟩ := row12 Rd
  (try clear e0 e1 e2 e3 e4 e5 e6 e7 e8 e9 e10 e11); obtain ⟨e0, e1, e2, e3, e4, e5, e6, e7, e8, e9, e10, e11⟩ := row12 Re
  (try clear y0 y1); obtain ⟨y0, y1⟩ := row2 Ry
  (try clear m0 m1 m2 m3 m4 m5 m6 m7 m8 m9 m10 m11); obtain ⟨m0, m1, m2, m3, m4, m5, m6, m7, m8, m9, m10, m11⟩ := row12 Rm
  go_wp2_with fail
  refine (H3 _).mono ?_
  rintro e w4 ⟨rfl, hb⟩
  have nng := Rg.lt
  have nnd := Rd.lt
  have nne := Re.lt
  have nny := Ry.lt
  have nnm := Rm.lt
  replace Rg := (Rg.alloc _).later hb
  replace Rd := (Rd.alloc _).later hb
  replace Re := (Re.alloc _).later hb
  replace Ry := (Ry.alloc _).later hb
  replace Rm := (Rm.alloc _).later hb
  have Rn := Row.later (Row.new _ _ _) hb
  have mn := hb0.size
  replace hb0 := below_step (hb0.alloc hb0.size _) hb
  clear hb
  generalize w3.heap.size = gn at *
  have lg := Rg.lt
  have ld := Rd.lt
  have le := Re.lt
  have ly := Ry.lt
  have lm := Rm.lt
  have ln := Rn.lt
  (try clear g0 g1 g2 g3 g4 g5 g6); obtain ⟨g0, g1, g2, g3, g4, g5, g6⟩ := row7 Rg
  (try clear d0 d1 d2 d3 d4 d5 d6 d7 d8 d9 d10 d11); obtain ⟨d0, d1, d2, d3, d4, d5, d6, d7, d8, d9, d10, d11⟩ := row12 Rd
  (try clear e0 e1 e2 e3 e4 e5 e6 e7 e8 e9 e10 e11); obtain ⟨e0, e1, e2, e3, e4, e5, e6, e7, e8, e9, e10, e11⟩ := row12 Re
  (try clear y0 y1); obtain ⟨y0, y1⟩ := row2 Ry
  (try clear m0 m1 m2 m3 m4 m5 m6 m7 m8 m9 m10 m11); obtain ⟨m0, m1, m2, m3, m4, m5, m6, m7, m8, m9, m10, m11⟩ := row12 Rm
  (try clear n0 n1 n2 n3 n4 n5 n6 n7 n8 n9 n10 n11); obtain ⟨n0, n1, n2, n3, n4, n5, n6, n7, n8, n9, n10, n11⟩ := row12 Rn
  go_wp2_with fail
  refine (HA _).mono ?_
  rintro e w5 ⟨rfl, hb⟩
  replace Rg := Rg.later hb
  replace Rd := Rd.later hb
  replace Re := Re.later hb
  replace Ry := Ry.later hb
  replace Rm := Rm.later hb
  replace Rn := Rn.later hb
  replace hb0 := below_step hb0 hb
  clear hb
  have lg := Rg.lt
  have ld := Rd.lt
  have le := Re.lt
  have ly := Ry.lt
  have lm := Rm.lt
  have ln := Rn.lt
  (try clear g0 g1 g2 g3 g4 g5 g6); obtain ⟨g0, g1, g2, g3, g4, g5, g6⟩ := row7 Rg
  (try clear d0 d1 d2 d3 d4 d5 d6 d7 d8 d9 d10 d11); obtain ⟨d0, d1, d2, d3, d4, d5, d6, d7, d8, d9, d10, d11⟩ := row12 Rd
  (try clear e0 e1 e2 e3 e4 e5 e6 e7 e8 e9 e10 e11); obtain ⟨e0, e1, e2, e3, e4, e5, e6, e7, e8, e9, e10, e11⟩ := row12 Re
  (try clear y0 y1); obtain ⟨y0, y1⟩ := row2 Ry
  (try clear m0 m1 m2 m3 m4 m5 m6 m7 m8 m9 m10 m11); obtain ⟨m0, m1, m2, m3, m4, m5, m6, m7, m8, m9, m10, m11⟩ := row12 Rm
  (try clear n0 n1 n2 n3 n4 n5 n6 n7 n8 n9 n10 n11); obtain ⟨n0, n1, n2, n3, n4, n5, n6, n7, n8, n9, n10, n11⟩ := row12 Rn
  go_wp2
  go_ret
  exact ⟨rfl, hb0⟩
set_option maxRecDepth 100000 in
set_option maxHeartbeats 32000000 in
theorem one_11ok (s : Sp) (p q u v t : Px) (i j hu2 hp2 : Int) (b : Bool)
    (H0 : ∀ w, Calls Try.prog 26 #[sv s, pv p, .agg #[.int .i64 i, .int .i64 j]] w fun e w' => e = .returned (pv u) ∧ Below w.heap.size w w')
    (H1 : ∀ w, Calls Try.prog 28 #[sv s, pv q, pv p] w fun e w' => e = .returned (.bool b) ∧ Below w.heap.size w w')
    (H2 : ∀ w, Calls Try.prog 20 #[sv s, pv q] w fun e w' => e = .returned (.bool true) ∧ Below w.heap.size w w')
    (H3 : ∀ w, Calls Try.prog 20 #[sv s, pv p] w fun e w' => e = .returned (.bool true) ∧ Below w.heap.size w w')
    (H5 : ∀ w, Calls Try.prog 22 #[sv s] w fun e w' => e = .returned (pv t) ∧ Below w.heap.size w w')
    (H4 : ∀ w, Calls Try.prog 26 #[sv s, pv p, .agg #[.int .i64 q.a0, .int .i64 q.a1]] w fun e w' => e = .returned (pv v) ∧ Below w.heap.size w w')
    (hb : decide (v = q) = b)
    (g0 : ¬ i < p.a0) (g1 : ¬ j < p.a1) (g2 : ¬ t.a0 < i) (g3 : ¬ t.a1 < j)
    (hu : u.a0 = i ∧ u.a1 = j)
    (H6 : ∀ w, Calls Try.prog 28 #[sv s, pv u, pv p] w fun e w' => e = .returned (.bool true) ∧ Below w.heap.size w w')
    (H7 : ∀ w, Calls Try.prog 25 #[sv s, pv u] w fun e w' => e = .returned (.int .i64 hu2) ∧ Below w.heap.size w w')
    (H8 : ∀ w, Calls Try.prog 25 #[sv s, pv p] w fun e w' => e = .returned (.int .i64 hp2) ∧ Below w.heap.size w w')
    (hh : hp2 ≤ hu2) (w : World) :
    Calls Try.prog 7 #[sv s, pv p, pv q, .int .i64 i, .int .i64 j] w fun e w' => e = .returned (.bool true) ∧ Below w.heap.size w w' := by
  have HA := alive9_t
  have qe := eql_px pz pz
  rw [decide_eq_true rfl] at qe
  have qv := eql_px v q
  rw [hb] at qv
  clear hb
  have g0' : decide (i < p.a0) = false := decide_eq_false g0
  have g1' : decide (j < p.a1) = false := decide_eq_false g1
  have g2' : decide (t.a0 < i) = false := decide_eq_false g2
  have g3' : decide (t.a1 < j) = false := decide_eq_false g3
  have qa := eql_at u.a0 u.a1 i j
  rw [decide_eq_true hu] at qa
  have hh' : decide (hp2 ≤ hu2) = true := decide_eq_true hh
  clear hu
  unfold pz kz at *
  unfold sv pv at *
  obtain ⟨Rg, Rd, Re, hb0⟩ := three_rows w #[.int .i64 s.n, .int .i64 s.d0.kind, .int .i64 s.d0.side, .int .i64 s.d0.step, .int .i64 s.d1.kind, .int .i64 s.d1.side, .int .i64 s.d1.step] #[.int .i64 p.a0, .int .i64 p.a1, .int .i64 p.k0.kind, .int .i64 p.k0.len, .int .u64 p.k0.h, .int .u64 p.k0.l, .string ⟨p.k0.path.toArray⟩, .int .i64 p.k1.kind, .int .i64 p.k1.len, .int .u64 p.k1.h, .int .u64 p.k1.l, .string ⟨p.k1.path.toArray⟩] #[.int .i64 q.a0, .int .i64 q.a1, .int .i64 q.k0.kind, .int .i64 q.k0.len, .int .u64 q.k0.h, .int .u64 q.k0.l, .string ⟨q.k0.path.toArray⟩, .int .i64 q.k1.kind, .int .i64 q.k1.len, .int .u64 q.k1.h, .int .u64 q.k1.l, .string ⟨q.k1.path.toArray⟩] 26 33 33
  (try clear g0 g1 g2 g3 g4 g5 g6); obtain ⟨g0, g1, g2, g3, g4, g5, g6⟩ := row7 Rg
  (try clear d0 d1 d2 d3 d4 d5 d6 d7 d8 d9 d10 d11); obtain ⟨d0, d1, d2, d3, d4, d5, d6, d7, d8, d9, d10, d11⟩ := row12 Rd
  (try clear e0 e1 e2 e3 e4 e5 e6 e7 e8 e9 e10 e11); obtain ⟨e0, e1, e2, e3, e4, e5, e6, e7, e8, e9, e10, e11⟩ := row12 Re
  go_enter Try.func7, Try.ntmps7
  go_wp2_with fail
  refine (H0 _).mono ?_
  rintro e w1 ⟨rfl, hb⟩
  replace Rg := (Rg.alloc _).later hb
  replace Rd := (Rd.alloc _).later hb
  replace Re := (Re.alloc _).later hb
  have Ry := Row.later (Row.new _ _ _) hb
  simp only [World.size_alloc] at Ry
  replace hb0 := below_step (hb0.alloc hb0.size _) hb
  clear hb
  have lg := Rg.lt
  have ld := Rd.lt
  have le := Re.lt
  have ly := Ry.lt
  (try clear g0 g1 g2 g3 g4 g5 g6); obtain ⟨g0, g1, g2, g3, g4, g5, g6⟩ := row7 Rg
  (try clear d0 d1 d2 d3 d4 d5 d6 d7 d8 d9 d10 d11); obtain ⟨d0, d1, d2, d3, d4, d5, d6, d7, d8, d9, d10, d11⟩ := row12 Rd
  (try clear e0 e1 e2 e3 e4 e5 e6 e7 e8 e9 e10 e11); obtain ⟨e0, e1, e2, e3, e4, e5, e6, e7, e8, e9, e10, e11⟩ := row12 Re
  (try clear y0 y1); obtain ⟨y0, y1⟩ := row2 Ry
  go_wp2_with fail
  replace Rg := Rg.alloc (.cells #[Value.int .i64 u.a0, Value.int .i64 u.a1, Value.int .i64 u.k0.kind, Value.int .i64 u.k0.len, Value.int .u64 u.k0.h, Value.int .u64 u.k0.l, Value.string ⟨u.k0.path.toArray⟩, Value.int .i64 u.k1.kind, Value.int .i64 u.k1.len, Value.int .u64 u.k1.h, Value.int .u64 u.k1.l, Value.string ⟨u.k1.path.toArray⟩] 33)
  replace Rd := Rd.alloc (.cells #[Value.int .i64 u.a0, Value.int .i64 u.a1, Value.int .i64 u.k0.kind, Value.int .i64 u.k0.len, Value.int .u64 u.k0.h, Value.int .u64 u.k0.l, Value.string ⟨u.k0.path.toArray⟩, Value.int .i64 u.k1.kind, Value.int .i64 u.k1.len, Value.int .u64 u.k1.h, Value.int .u64 u.k1.l, Value.string ⟨u.k1.path.toArray⟩] 33)
  replace Re := Re.alloc (.cells #[Value.int .i64 u.a0, Value.int .i64 u.a1, Value.int .i64 u.k0.kind, Value.int .i64 u.k0.len, Value.int .u64 u.k0.h, Value.int .u64 u.k0.l, Value.string ⟨u.k0.path.toArray⟩, Value.int .i64 u.k1.kind, Value.int .i64 u.k1.len, Value.int .u64 u.k1.h, Value.int .u64 u.k1.l, Value.string ⟨u.k1.path.toArray⟩] 33)
  replace Ry := Ry.alloc (.cells #[Value.int .i64 u.a0, Value.int .i64 u.a1, Value.int .i64 u.k0.kind, Value.int .i64 u.k0.len, Value.int .u64 u.k0.h, Value.int .u64 u.k0.l, Value.string ⟨u.k0.path.toArray⟩, Value.int .i64 u.k1.kind, Value.int .i64 u.k1.len, Value.int .u64 u.k1.h, Value.int .u64 u.k1.l, Value.string ⟨u.k1.path.toArray⟩] 33)
  have Rm := Row.new w1 #[Value.int .i64 u.a0, Value.int .i64 u.a1, Value.int .i64 u.k0.kind, Value.int .i64 u.k0.len, Value.int .u64 u.k0.h, Value.int .u64 u.k0.l, Value.string ⟨u.k0.path.toArray⟩, Value.int .i64 u.k1.kind, Value.int .i64 u.k1.len, Value.int .u64 u.k1.h, Value.int .u64 u.k1.l, Value.string ⟨u.k1.path.toArray⟩] 33
  have mm := hb0.size
  replace hb0 := hb0.alloc hb0.size (.cells #[Value.int .i64 u.a0, Value.int .i64 u.a1, Value.int .i64 u.k0.kind, Value.int .i64 u.k0.len, Value.int .u64 u.k0.h, Value.int .u64 u.k0.l, Value.string ⟨u.k0.path.toArray⟩, Value.int .i64 u.k1.kind, Value.int .i64 u.k1.len, Value.int .u64 u.k1.h, Value.int .u64 u.k1.l, Value.string ⟨u.k1.path.toArray⟩] 33)
  (try clear g0 g1 g2 g3 g4 g5 g6); obtain ⟨g0, g1, g2, g3, g4, g5, g6⟩ := row7 Rg
  (try clear d0 d1 d2 d3 d4 d5 d6 d7 d8 d9 d10 d11); obtain ⟨d0, d1, d2, d3, d4, d5, d6, d7, d8, d9, d10, d11⟩ := row12 Rd
  (try clear e0 e1 e2 e3 e4 e5 e6 e7 e8 e9 e10 e11); obtain ⟨e0, e1, e2, e3, e4, e5, e6, e7, e8, e9, e10, e11⟩ := row12 Re
  (try clear y0 y1); obtain ⟨y0, y1⟩ := row2 Ry
  (try clear m0 m1 m2 m3 m4 m5 m6 m7 m8 m9 m10 m11); obtain ⟨m0, m1, m2, m3, m4, m5, m6, m7, m8, m9, m10, m11⟩ := row12 Rm
  refine wp_region_held_drew (S := (fun w' => w'.cell? ⟨w.heap.size + 1 + 1, 0, none⟩ = some (Value.int .i64 q.a0) ∧ w'.cell? ⟨w.heap.size + 1 + 1, 1, none⟩ = some (Value.int .i64 q.a1) ∧ Row w' w.heap.size #[.int .i64 s.n, .int .i64 s.d0.kind, .int .i64 s.d0.side, .int .i64 s.d0.step, .int .i64 s.d1.kind, .int .i64 s.d1.side, .int .i64 s.d1.step] 26 ∧ Row w' (w.heap.size + 1) #[.int .i64 p.a0, .int .i64 p.a1, .int .i64 p.k0.kind, .int .i64 p.k0.len, .int .u64 p.k0.h, .int .u64 p.k0.l, .string ⟨p.k0.path.toArray⟩, .int .i64 p.k1.kind, .int .i64 p.k1.len, .int .u64 p.k1.h, .int .u64 p.k1.l, .string ⟨p.k1.path.toArray⟩] 33 ∧ Row w' (w.heap.size + 1 + 1) #[.int .i64 q.a0, .int .i64 q.a1, .int .i64 q.k0.kind, .int .i64 q.k0.len, .int .u64 q.k0.h, .int .u64 q.k0.l, .string ⟨q.k0.path.toArray⟩, .int .i64 q.k1.kind, .int .i64 q.k1.len, .int .u64 q.k1.h, .int .u64 q.k1.l, .string ⟨q.k1.path.toArray⟩] 33)) (by kernel_rfl) ?hSr112_ (fun hHeld => ?_)
  case hSr112_ => (exact ⟨e0, e1, Rg.drew, Rd.drew, Re.drew⟩)
  (clear g0 g1 g2 g3 g4 g5 g6 d0 d1 d2 d3 d4 d5 d6 d7 d8 d9 d10 d11 e0 e1 e2 e3 e4 e5 e6 e7 e8 e9 e10 e11 y0 y1 m0 m1 m2 m3 m4 m5 m6 m7 m8 m9 m10 m11; (replace Rg := Rg.drew); (replace Rd := Rd.drew); (replace Re := Re.drew); (replace Ry := Ry.drew); (replace Rm := Rm.drew); (replace hb0 := hb0.drew); (generalize World.drew (World.alloc w1 (.cells #[Value.int .i64 u.a0, Value.int .i64 u.a1, Value.int .i64 u.k0.kind, Value.int .i64 u.k0.len, Value.int .u64 u.k0.h, Value.int .u64 u.k0.l, Value.string ⟨u.k0.path.toArray⟩, Value.int .i64 u.k1.kind, Value.int .i64 u.k1.len, Value.int .u64 u.k1.h, Value.int .u64 u.k1.l, Value.string ⟨u.k1.path.toArray⟩] 33)) = wq at *))
  refine tk 0 ⟨some 21, .load 26 (.tmp 5), 26, _, _, _⟩ hHeld ?_ (v := ?vr112_1_0) (hy := ?yr112_1_0)
  case yr112_1_0 => (intro wy hSw; obtain ⟨e0, e1, Qg, Qd, Qe⟩ := hSw; (with_reducible refine pexec_load 26 (.tmp 5) ?_ w.heap.size ?_ 26 #[.int .i64 s.n, .int .i64 s.d0.kind, .int .i64 s.d0.side, .int .i64 s.d0.step, .int .i64 s.d1.kind, .int .i64 s.d1.side, .int .i64 s.d1.step] _ Qg Try.underlying26 ?_ ?_) <;> first | rfl | exact infoSp)
  (try simp only [Act.put, nz1, nz2, nz3])
  refine tk 1 ⟨some 22, .load 33 (.tmp 7), 33, _, _, _⟩ hHeld ?_ (v := ?vr112_2_1) (hy := ?yr112_2_1)
  case yr112_2_1 => (intro wy hSw; obtain ⟨e0, e1, Qg, Qd, Qe⟩ := hSw; (with_reducible refine pexec_load 33 (.tmp 7) ?_ (w.heap.size + 1 + 1) ?_ 33 #[.int .i64 q.a0, .int .i64 q.a1, .int .i64 q.k0.kind, .int .i64 q.k0.len, .int .u64 q.k0.h, .int .u64 q.k0.l, .string ⟨q.k0.path.toArray⟩, .int .i64 q.k1.kind, .int .i64 q.k1.len, .int .u64 q.k1.h, .int .u64 q.k1.l, .string ⟨q.k1.path.toArray⟩] _ Qe Try.underlying33 ?_ ?_) <;> first | rfl | exact infoPx)
  (try simp only [Act.put, nz1, nz2, nz3])
  refine tk 2 ⟨some 23, .load 33 (.tmp 6), 33, _, _, _⟩ hHeld ?_ (v := ?vr112_3_2) (hy := ?yr112_3_2)
  case yr112_3_2 => (intro wy hSw; obtain ⟨e0, e1, Qg, Qd, Qe⟩ := hSw; (with_reducible refine pexec_load 33 (.tmp 6) ?_ (w.heap.size + 1) ?_ 33 #[.int .i64 p.a0, .int .i64 p.a1, .int .i64 p.k0.kind, .int .i64 p.k0.len, .int .u64 p.k0.h, .int .u64 p.k0.l, .string ⟨p.k0.path.toArray⟩, .int .i64 p.k1.kind, .int .i64 p.k1.len, .int .u64 p.k1.h, .int .u64 p.k1.l, .string ⟨p.k1.path.toArray⟩] _ Qd Try.underlying33 ?_ ?_) <;> first | rfl | exact infoPx)
  (try simp only [Act.put, nz1, nz2, nz3])
  refine tk 4 ⟨some 25, .load 26 (.tmp 5), 26, _, _, _⟩ hHeld ?_ (v := ?vr112_4_4) (hy := ?yr112_4_4)
  case yr112_4_4 => (intro wy hSw; obtain ⟨e0, e1, Qg, Qd, Qe⟩ := hSw; (with_reducible refine pexec_load 26 (.tmp 5) ?_ w.heap.size ?_ 26 #[.int .i64 s.n, .int .i64 s.d0.kind, .int .i64 s.d0.side, .int .i64 s.d0.step, .int .i64 s.d1.kind, .int .i64 s.d1.side, .int .i64 s.d1.step] _ Qg Try.underlying26 ?_ ?_) <;> first | rfl | exact infoSp)
  (try simp only [Act.put, nz1, nz2, nz3])
  refine tk 5 ⟨some 26, .load 33 (.tmp 7), 33, _, _, _⟩ hHeld ?_ (v := ?vr112_5_5) (hy := ?yr112_5_5)
  case yr112_5_5 => (intro wy hSw; obtain ⟨e0, e1, Qg, Qd, Qe⟩ := hSw; (with_reducible refine pexec_load 33 (.tmp 7) ?_ (w.heap.size + 1 + 1) ?_ 33 #[.int .i64 q.a0, .int .i64 q.a1, .int .i64 q.k0.kind, .int .i64 q.k0.len, .int .u64 q.k0.h, .int .u64 q.k0.l, .string ⟨q.k0.path.toArray⟩, .int .i64 q.k1.kind, .int .i64 q.k1.len, .int .u64 q.k1.h, .int .u64 q.k1.l, .string ⟨q.k1.path.toArray⟩] _ Qe Try.underlying33 ?_ ?_) <;> first | rfl | exact infoPx)
  (try simp only [Act.put, nz1, nz2, nz3])
  refine wpAnyH_ready (rs := [3]) (by kernel_rfl) (by simp) ?_
  refine AllReadyH.cons (o := ⟨some 24, .call { callee := .value (.func 28), args := #[.tmp 21, .tmp 22, .tmp 23], argTypes := #[26, 33, 33] }, 4, _, _, _⟩) rfl (fun K hK => ?_) AllReadyH.nil
  (go_simp; (refine (H1 _).mono ?_); (rintro e wz ⟨rfl, hb⟩); (replace Rg := Rg.later hb); (replace Rd := Rd.later hb); (replace Re := Re.later hb); (replace Ry := Ry.later hb); (replace Rm := Rm.later hb); (replace hb0 := below_step hb0 hb); go_wp2_with fail)
  refine hK.out _ _ ?hSr112_6_3 (fun hHeld2 => ?_)
  case hSr112_6_3 => (obtain ⟨e0, e1, Qg, Qd, Qe⟩ := hHeld; exact ⟨cell_later hb e0, cell_later hb e1, Qg.later hb, Qd.later hb, Qe.later hb⟩)
  clear hK K hHeld
  have hHeld := hHeld2
  clear hHeld2
  rename World => wq
  (try simp only [Act.put, nz1, nz2, nz3])
  refine wpAnyH_ready (rs := [6]) (by kernel_rfl) (by simp) ?_
  refine AllReadyH.cons (o := ⟨some 27, .call { callee := .value (.func 20), args := #[.tmp 25, .tmp 26], argTypes := #[26, 33] }, 4, _, _, _⟩) rfl (fun K hK => ?_) AllReadyH.nil
  (go_simp; (refine (H2 _).mono ?_); (rintro e wz ⟨rfl, hb⟩); (replace Rg := Rg.later hb); (replace Rd := Rd.later hb); (replace Re := Re.later hb); (replace Ry := Ry.later hb); (replace Rm := Rm.later hb); (replace hb0 := below_step hb0 hb); go_wp2_with fail)
  refine hK.out _ _ ?hSr112_7_6 (fun hHeld2 => ?_)
  case hSr112_7_6 => (obtain ⟨e0, e1, Qg, Qd, Qe⟩ := hHeld; exact ⟨cell_later hb e0, cell_later hb e1, Qg.later hb, Qd.later hb, Qe.later hb⟩)
  clear hK K hHeld
  have hHeld := hHeld2
  clear hHeld2
  rename World => wq
  (try simp only [Act.put, nz1, nz2, nz3])
  refine tk 7 ⟨some 28, .move (.tmp 27), 4, _, _, _⟩ hHeld ?_
  (try simp only [Act.put, nz1, nz2, nz3])
  refine tk 8 ⟨some 29, .load 26 (.tmp 5), 26, _, _, _⟩ hHeld ?_ (v := ?vr112_9_8) (hy := ?yr112_9_8)
  case yr112_9_8 => (intro wy hSw; obtain ⟨e0, e1, Qg, Qd, Qe⟩ := hSw; (with_reducible refine pexec_load 26 (.tmp 5) ?_ w.heap.size ?_ 26 #[.int .i64 s.n, .int .i64 s.d0.kind, .int .i64 s.d0.side, .int .i64 s.d0.step, .int .i64 s.d1.kind, .int .i64 s.d1.side, .int .i64 s.d1.step] _ Qg Try.underlying26 ?_ ?_) <;> first | rfl | exact infoSp)
  (try simp only [Act.put, nz1, nz2, nz3])
  refine tk 9 ⟨some 30, .load 33 (.tmp 6), 33, _, _, _⟩ hHeld ?_ (v := ?vr112_10_9) (hy := ?yr112_10_9)
  case yr112_10_9 => (intro wy hSw; obtain ⟨e0, e1, Qg, Qd, Qe⟩ := hSw; (with_reducible refine pexec_load 33 (.tmp 6) ?_ (w.heap.size + 1) ?_ 33 #[.int .i64 p.a0, .int .i64 p.a1, .int .i64 p.k0.kind, .int .i64 p.k0.len, .int .u64 p.k0.h, .int .u64 p.k0.l, .string ⟨p.k0.path.toArray⟩, .int .i64 p.k1.kind, .int .i64 p.k1.len, .int .u64 p.k1.h, .int .u64 p.k1.l, .string ⟨p.k1.path.toArray⟩] _ Qd Try.underlying33 ?_ ?_) <;> first | rfl | exact infoPx)
  (try simp only [Act.put, nz1, nz2, nz3])
  refine wpAnyH_ready (rs := [10]) (by kernel_rfl) (by simp) ?_
  refine AllReadyH.cons (o := ⟨some 31, .call { callee := .value (.func 20), args := #[.tmp 29, .tmp 30], argTypes := #[26, 33] }, 4, _, _, _⟩) rfl (fun K hK => ?_) AllReadyH.nil
  (go_simp; (refine (H3 _).mono ?_); (rintro e wz ⟨rfl, hb⟩); (replace Rg := Rg.later hb); (replace Rd := Rd.later hb); (replace Re := Re.later hb); (replace Ry := Ry.later hb); (replace Rm := Rm.later hb); (replace hb0 := below_step hb0 hb); go_wp2_with fail)
  refine hK.out _ _ ?hSr112_11_10 (fun hHeld2 => ?_)
  case hSr112_11_10 => (obtain ⟨e0, e1, Qg, Qd, Qe⟩ := hHeld; exact ⟨cell_later hb e0, cell_later hb e1, Qg.later hb, Qd.later hb, Qe.later hb⟩)
  clear hK K hHeld
  have hHeld := hHeld2
  clear hHeld2
  rename World => wq
  (try simp only [Act.put, nz1, nz2, nz3])
  refine tk 11 ⟨some 32, .pick (.tmp 28) (.tmp 31) (.const (.bool false)), 4, _, _, _⟩ hHeld ?_
  (try simp only [Act.put, nz1, nz2, nz3])
  refine tk 12 ⟨some 33, .move (.tmp 32), 4, _, _, _⟩ hHeld ?_
  (try simp only [Act.put, nz1, nz2, nz3])
  refine tk 13 ⟨some 34, .load 26 (.tmp 5), 26, _, _, _⟩ hHeld ?_ (v := ?vr112_14_13) (hy := ?yr112_14_13)
  case yr112_14_13 => (intro wy hSw; obtain ⟨e0, e1, Qg, Qd, Qe⟩ := hSw; (with_reducible refine pexec_load 26 (.tmp 5) ?_ w.heap.size ?_ 26 #[.int .i64 s.n, .int .i64 s.d0.kind, .int .i64 s.d0.side, .int .i64 s.d0.step, .int .i64 s.d1.kind, .int .i64 s.d1.side, .int .i64 s.d1.step] _ Qg Try.underlying26 ?_ ?_) <;> first | rfl | exact infoSp)
  (try simp only [Act.put, nz1, nz2, nz3])
  refine tk 14 ⟨some 35, .load 33 (.tmp 6), 33, _, _, _⟩ hHeld ?_ (v := ?vr112_15_14) (hy := ?yr112_15_14)
  case yr112_15_14 => (intro wy hSw; obtain ⟨e0, e1, Qg, Qd, Qe⟩ := hSw; (with_reducible refine pexec_load 33 (.tmp 6) ?_ (w.heap.size + 1) ?_ 33 #[.int .i64 p.a0, .int .i64 p.a1, .int .i64 p.k0.kind, .int .i64 p.k0.len, .int .u64 p.k0.h, .int .u64 p.k0.l, .string ⟨p.k0.path.toArray⟩, .int .i64 p.k1.kind, .int .i64 p.k1.len, .int .u64 p.k1.h, .int .u64 p.k1.l, .string ⟨p.k1.path.toArray⟩] _ Qd Try.underlying33 ?_ ?_) <;> first | rfl | exact infoPx)
  (try simp only [Act.put, nz1, nz2, nz3])
  refine tk 15 ⟨some 36, .fieldAddr 33 (.tmp 7) 0, 0, _, _, _⟩ hHeld ?_
  (try simp only [Act.put, nz1, nz2, nz3])
  refine tk 16 ⟨some 37, .load 27 (.tmp 36), 27, _, _, _⟩ hHeld ?_
  (try simp only [Act.put, nz1, nz2, nz3])
  refine tk 18 ⟨some 39, .load 33 (.tmp 7), 33, _, _, _⟩ hHeld ?_ (v := ?vr112_18_18) (hy := ?yr112_18_18)
  case yr112_18_18 => (intro wy hSw; obtain ⟨e0, e1, Qg, Qd, Qe⟩ := hSw; (with_reducible refine pexec_load 33 (.tmp 7) ?_ (w.heap.size + 1 + 1) ?_ 33 #[.int .i64 q.a0, .int .i64 q.a1, .int .i64 q.k0.kind, .int .i64 q.k0.len, .int .u64 q.k0.h, .int .u64 q.k0.l, .string ⟨q.k0.path.toArray⟩, .int .i64 q.k1.kind, .int .i64 q.k1.len, .int .u64 q.k1.h, .int .u64 q.k1.l, .string ⟨q.k1.path.toArray⟩] _ Qe Try.underlying33 ?_ ?_) <;> first | rfl | exact infoPx)
  (try simp only [Act.put, nz1, nz2, nz3])
  refine wpAnyH_ready (rs := [17]) (by kernel_rfl) (by simp) ?_
  refine AllReadyH.cons (o := ⟨some 38, .call { callee := .value (.func 26), args := #[.tmp 34, .tmp 35, .tmp 37], argTypes := #[26, 33, 27] }, 33, _, _, _⟩) rfl (fun K hK => ?_) AllReadyH.nil
  (go_simp; (refine (H4 _).mono ?_); (rintro e wz ⟨rfl, hb⟩); (replace Rg := Rg.later hb); (replace Rd := Rd.later hb); (replace Re := Re.later hb); (replace Ry := Ry.later hb); (replace Rm := Rm.later hb); (replace hb0 := below_step hb0 hb); go_wp2_with fail)
  refine hK.out _ _ ?hSr112_19_17 (fun hHeld2 => ?_)
  case hSr112_19_17 => (obtain ⟨e0, e1, Qg, Qd, Qe⟩ := hHeld; exact ⟨cell_later hb e0, cell_later hb e1, Qg.later hb, Qd.later hb, Qe.later hb⟩)
  clear hK K hHeld
  have hHeld := hHeld2
  clear hHeld2
  rename World => wq
  (try simp only [Act.put, nz1, nz2, nz3])
  refine tk 19 ⟨some 40, .binOp .eql 33 (.tmp 38) (.tmp 39) 33, 4, _, _, _⟩ hHeld ?_
  (try simp only [Act.put, nz1, nz2, nz3])
  refine tk 20 ⟨some 41, .pick (.tmp 33) (.tmp 40) (.const (.bool false)), 4, _, _, _⟩ hHeld ?_
  (try simp only [Act.put, nz1, nz2, nz3])
  refine tk 21 ⟨some 42, .binOp .neq 4 (.tmp 24) (.tmp 41) 4, 4, _, _, _⟩ hHeld ?_
  (try simp only [Act.put, nz1, nz2, nz3])
  refine wpAnyH_done (by kernel_rfl) ?_ _
  clear hHeld
  rename World => w2
  have lg := Rg.lt
  have ld := Rd.lt
  have le := Re.lt
  have ly := Ry.lt
  have lm := Rm.lt
  (try clear g0 g1 g2 g3 g4 g5 g6); obtain ⟨g0, g1, g2, g3, g4, g5, g6⟩ := row7 Rg
  (try clear d0 d1 d2 d3 d4 d5 d6 d7 d8 d9 d10 d11); obtain ⟨d0, d1, d2, d3, d4, d5, d6, d7, d8, d9, d10, d11⟩ := row12 Rd
  (try clear e0 e1 e2 e3 e4 e5 e6 e7 e8 e9 e10 e11); obtain ⟨e0, e1, e2, e3, e4, e5, e6, e7, e8, e9, e10, e11⟩ := row12 Re
  (try clear y0 y1); obtain ⟨y0, y1⟩ := row2 Ry
  (try clear m0 m1 m2 m3 m4 m5 m6 m7 m8 m9 m10 m11); obtain ⟨m0, m1, m2, m3, m4, m5, m6, m7, m8, m9, m10, m11⟩ := row12 Rm
  go_wp2_with fail
  refine (H5 _).mono ?_
  rintro e w3 ⟨rfl, hb⟩
  replace Rg := Rg.later hb
  replace Rd := Rd.later hb
  replace Re := Re.later hb
  replace Ry := Ry.later hb
  replace Rm := Rm.later hb
  replace hb0 := below_step hb0 hb
  clear hb
  have lg := Rg.lt
  have ld := Rd.lt
  have le := Re.lt
  have ly := Ry.lt
  have lm := Rm.lt
  (try clear g0 g1 g2 g3 g4 g5 g6); obtain ⟨g0, g1, g2, g3, g4, g5, g6⟩ := row7 Rg
  (try clear d0 d1 d2 d3 d4 d5 d6 d7 d8 d9 d10 d11); obtain ⟨d0, d1, d2, d3, d4, d5, d6, d7, d8, d9, d10, d11⟩ := row12 Rd
  (try clear e0 e1 e2 e3 e4 e5 e6 e7 e8 e9 e10 e11); obtain ⟨e0, e1, e2, e3, e4, e5, e6, e7, e8, e9, e10, e11⟩ := row12 Re
  (try clear y0 y1); obtain ⟨y0, y1⟩ := row2 Ry
  (try clear m0 m1 m2 m3 m4 m5 m6 m7 m8 m9 m10 m11); obtain ⟨m0, m1, m2, m3, m4, m5, m6, m7, m8, m9, m10, m11⟩ := row12 Rm
  go_wp2_with fail
  refine (H3 _).mono ?_
  rintro e w4 ⟨rfl, hb⟩
  have nng := Rg.lt
  have nnd := Rd.lt
  have nne := Re.lt
  have nny := Ry.lt
  have nnm := Rm.lt
  replace Rg := (Rg.alloc _).later hb
  replace Rd := (Rd.alloc _).later hb
  replace Re := (Re.alloc _).later hb
  replace Ry := (Ry.alloc _).later hb
  replace Rm := (Rm.alloc _).later hb
  have Rn := Row.later (Row.new _ _ _) hb
  have mn := hb0.size
  replace hb0 := below_step (hb0.alloc hb0.size _) hb
  clear hb
  generalize w3.heap.size = gn at *
  have lg := Rg.lt
  have ld := Rd.lt
  have le := Re.lt
  have ly := Ry.lt
  have lm := Rm.lt
  have ln := Rn.lt
  (try clear g0 g1 g2 g3 g4 g5 g6); obtain ⟨g0, g1, g2, g3, g4, g5, g6⟩ := row7 Rg
  (try clear d0 d1 d2 d3 d4 d5 d6 d7 d8 d9 d10 d11); obtain ⟨d0, d1, d2, d3, d4, d5, d6, d7, d8, d9, d10, d11⟩ := row12 Rd
  (try clear e0 e1 e2 e3 e4 e5 e6 e7 e8 e9 e10 e11); obtain ⟨e0, e1, e2, e3, e4, e5, e6, e7, e8, e9, e10, e11⟩ := row12 Re
  (try clear y0 y1); obtain ⟨y0, y1⟩ := row2 Ry
  (try clear m0 m1 m2 m3 m4 m5 m6 m7 m8 m9 m10 m11); obtain ⟨m0, m1, m2, m3, m4, m5, m6, m7, m8, m9, m10, m11⟩ := row12 Rm
  (try clear n0 n1 n2 n3 n4 n5 n6 n7 n8 n9 n10 n11); obtain ⟨n0, n1, n2, n3, n4, n5, n6, n7, n8, n9, n10, n11⟩ := row12 Rn
  go_wp2_with fail
  refine wp_region_held_drew (S := (fun w' => w'.cell? ⟨w1.heap.size, 0, none⟩ = some (Value.int .i64 u.a0) ∧ w'.cell? ⟨w1.heap.size, 1, none⟩ = some (Value.int .i64 u.a1) ∧ w'.cell? ⟨w.heap.size + 1 + 1 + 1, 0, none⟩ = some (Value.int .i64 i) ∧ w'.cell? ⟨w.heap.size + 1 + 1 + 1, 1, none⟩ = some (Value.int .i64 j) ∧ Row w' w.heap.size #[.int .i64 s.n, .int .i64 s.d0.kind, .int .i64 s.d0.side, .int .i64 s.d0.step, .int .i64 s.d1.kind, .int .i64 s.d1.side, .int .i64 s.d1.step] 26 ∧ Row w' (w.heap.size + 1) #[.int .i64 p.a0, .int .i64 p.a1, .int .i64 p.k0.kind, .int .i64 p.k0.len, .int .u64 p.k0.h, .int .u64 p.k0.l, .string ⟨p.k0.path.toArray⟩, .int .i64 p.k1.kind, .int .i64 p.k1.len, .int .u64 p.k1.h, .int .u64 p.k1.l, .string ⟨p.k1.path.toArray⟩] 33 ∧ Row w' w1.heap.size #[.int .i64 u.a0, .int .i64 u.a1, .int .i64 u.k0.kind, .int .i64 u.k0.len, .int .u64 u.k0.h, .int .u64 u.k0.l, .string ⟨u.k0.path.toArray⟩, .int .i64 u.k1.kind, .int .i64 u.k1.len, .int .u64 u.k1.h, .int .u64 u.k1.l, .string ⟨u.k1.path.toArray⟩] 33)) (by kernel_rfl) ?hSr113_ (fun hHeld => ?_)
  case hSr113_ => (exact ⟨m0, m1, y0, y1, Rg.drew, Rd.drew, Rm.drew⟩)
  (clear g0 g1 g2 g3 g4 g5 g6 d0 d1 d2 d3 d4 d5 d6 d7 d8 d9 d10 d11 e0 e1 e2 e3 e4 e5 e6 e7 e8 e9 e10 e11 y0 y1 m0 m1 m2 m3 m4 m5 m6 m7 m8 m9 m10 m11 n0 n1 n2 n3 n4 n5 n6 n7 n8 n9 n10 n11; (replace Rg := Rg.drew); (replace Rd := Rd.drew); (replace Re := Re.drew); (replace Ry := Ry.drew); (replace Rm := Rm.drew); (replace Rn := Rn.drew); (replace hb0 := hb0.drew); (generalize World.drew w4 = wq at *))
  refine wpAnyH_ready (rs := [0]) (by kernel_rfl) (by simp) ?_
  refine AllReadyH.cons (o := ⟨some 83, .call { callee := .value (.func 24), args := #[], argTypes := #[] }, 4, _, _, _⟩) rfl (fun K hK => ?_) AllReadyH.nil
  (go_simp; (refine (HA _).mono ?_); (rintro e wz ⟨rfl, hb⟩); (replace Rg := Rg.later hb); (replace Rd := Rd.later hb); (replace Re := Re.later hb); (replace Ry := Ry.later hb); (replace Rm := Rm.later hb); (replace Rn := Rn.later hb); (replace hb0 := below_step hb0 hb); go_wp2_with fail)
  refine hK.out _ _ ?hSr113_1_0 (fun hHeld2 => ?_)
  case hSr113_1_0 => (obtain ⟨m0, m1, y0, y1, Qg, Qd, Qm⟩ := hHeld; exact ⟨cell_later hb m0, cell_later hb m1, cell_later hb y0, cell_later hb y1, Qg.later hb, Qd.later hb, Qm.later hb⟩)
  clear hK K hHeld
  have hHeld := hHeld2
  clear hHeld2
  rename World => wq
  (try simp only [Act.put, nz1, nz2, nz3])
  refine tk 1 ⟨some 84, .move (.tmp 83), 4, _, _, _⟩ hHeld ?_
  (try simp only [Act.put, nz1, nz2, nz3])
  refine tk 2 ⟨some 85, .fieldAddr 33 (.tmp 12) 0, 0, _, _, _⟩ hHeld ?_
  (try simp only [Act.put, nz1, nz2, nz3])
  refine tk 3 ⟨some 86, .load 27 (.tmp 85), 27, _, _, _⟩ hHeld ?_
  (try simp only [Act.put, nz1, nz2, nz3])
  refine tk 4 ⟨some 87, .load 27 (.tmp 11), 27, _, _, _⟩ hHeld ?_
  (try simp only [Act.put, nz1, nz2, nz3])
  refine tk 5 ⟨some 88, .binOp .eql 27 (.tmp 86) (.tmp 87) 27, 4, _, _, _⟩ hHeld ?_
  (try simp only [Act.put, nz1, nz2, nz3])
  refine tk 6 ⟨some 89, .pick (.tmp 84) (.tmp 88) (.const (.bool false)), 4, _, _, _⟩ hHeld ?_
  (try simp only [Act.put, nz1, nz2, nz3])
  refine tk 7 ⟨some 90, .move (.tmp 89), 4, _, _, _⟩ hHeld ?_
  (try simp only [Act.put, nz1, nz2, nz3])
  refine tk 8 ⟨some 91, .load 26 (.tmp 5), 26, _, _, _⟩ hHeld ?_ (v := ?vr113_9_8) (hy := ?yr113_9_8)
  case yr113_9_8 => (intro wy hSw; obtain ⟨m0, m1, y0, y1, Qg, Qd, Qm⟩ := hSw; (with_reducible refine pexec_load 26 (.tmp 5) ?_ w.heap.size ?_ 26 #[.int .i64 s.n, .int .i64 s.d0.kind, .int .i64 s.d0.side, .int .i64 s.d0.step, .int .i64 s.d1.kind, .int .i64 s.d1.side, .int .i64 s.d1.step] _ Qg Try.underlying26 ?_ ?_) <;> first | rfl | exact infoSp)
  (try simp only [Act.put, nz1, nz2, nz3])
  refine tk 9 ⟨some 92, .load 33 (.tmp 12), 33, _, _, _⟩ hHeld ?_ (v := ?vr113_10_9) (hy := ?yr113_10_9)
  case yr113_10_9 => (intro wy hSw; obtain ⟨m0, m1, y0, y1, Qg, Qd, Qm⟩ := hSw; (with_reducible refine pexec_load 33 (.tmp 12) ?_ w1.heap.size ?_ 33 #[.int .i64 u.a0, .int .i64 u.a1, .int .i64 u.k0.kind, .int .i64 u.k0.len, .int .u64 u.k0.h, .int .u64 u.k0.l, .string ⟨u.k0.path.toArray⟩, .int .i64 u.k1.kind, .int .i64 u.k1.len, .int .u64 u.k1.h, .int .u64 u.k1.l, .string ⟨u.k1.path.toArray⟩] _ Qm Try.underlying33 ?_ ?_) <;> first | rfl | exact infoPx)
  (try simp only [Act.put, nz1, nz2, nz3])
  refine tk 10 ⟨some 93, .load 33 (.tmp 6), 33, _, _, _⟩ hHeld ?_ (v := ?vr113_11_10) (hy := ?yr113_11_10)
  case yr113_11_10 => (intro wy hSw; obtain ⟨m0, m1, y0, y1, Qg, Qd, Qm⟩ := hSw; (with_reducible refine pexec_load 33 (.tmp 6) ?_ (w.heap.size + 1) ?_ 33 #[.int .i64 p.a0, .int .i64 p.a1, .int .i64 p.k0.kind, .int .i64 p.k0.len, .int .u64 p.k0.h, .int .u64 p.k0.l, .string ⟨p.k0.path.toArray⟩, .int .i64 p.k1.kind, .int .i64 p.k1.len, .int .u64 p.k1.h, .int .u64 p.k1.l, .string ⟨p.k1.path.toArray⟩] _ Qd Try.underlying33 ?_ ?_) <;> first | rfl | exact infoPx)
  (try simp only [Act.put, nz1, nz2, nz3])
  refine wpAnyH_ready (rs := [11]) (by kernel_rfl) (by simp) ?_
  refine AllReadyH.cons (o := ⟨some 94, .call { callee := .value (.func 28), args := #[.tmp 91, .tmp 92, .tmp 93], argTypes := #[26, 33, 33] }, 4, _, _, _⟩) rfl (fun K hK => ?_) AllReadyH.nil
  (go_simp; (refine (H6 _).mono ?_); (rintro e wz ⟨rfl, hb⟩); (replace Rg := Rg.later hb); (replace Rd := Rd.later hb); (replace Re := Re.later hb); (replace Ry := Ry.later hb); (replace Rm := Rm.later hb); (replace Rn := Rn.later hb); (replace hb0 := below_step hb0 hb); go_wp2_with fail)
  refine hK.out _ _ ?hSr113_12_11 (fun hHeld2 => ?_)
  case hSr113_12_11 => (obtain ⟨m0, m1, y0, y1, Qg, Qd, Qm⟩ := hHeld; exact ⟨cell_later hb m0, cell_later hb m1, cell_later hb y0, cell_later hb y1, Qg.later hb, Qd.later hb, Qm.later hb⟩)
  clear hK K hHeld
  have hHeld := hHeld2
  clear hHeld2
  rename World => wq
  (try simp only [Act.put, nz1, nz2, nz3])
  refine tk 12 ⟨some 95, .pick (.tmp 90) (.tmp 94) (.const (.bool false)), 4, _, _, _⟩ hHeld ?_
  (try simp only [Act.put, nz1, nz2, nz3])
  refine tk 13 ⟨some 96, .move (.tmp 95), 4, _, _, _⟩ hHeld ?_
  (try simp only [Act.put, nz1, nz2, nz3])
  refine tk 14 ⟨some 97, .load 26 (.tmp 5), 26, _, _, _⟩ hHeld ?_ (v := ?vr113_15_14) (hy := ?yr113_15_14)
  case yr113_15_14 => (intro wy hSw; obtain ⟨m0, m1, y0, y1, Qg, Qd, Qm⟩ := hSw; (with_reducible refine pexec_load 26 (.tmp 5) ?_ w.heap.size ?_ 26 #[.int .i64 s.n, .int .i64 s.d0.kind, .int .i64 s.d0.side, .int .i64 s.d0.step, .int .i64 s.d1.kind, .int .i64 s.d1.side, .int .i64 s.d1.step] _ Qg Try.underlying26 ?_ ?_) <;> first | rfl | exact infoSp)
  (try simp only [Act.put, nz1, nz2, nz3])
  refine tk 15 ⟨some 98, .load 33 (.tmp 12), 33, _, _, _⟩ hHeld ?_ (v := ?vr113_16_15) (hy := ?yr113_16_15)
  case yr113_16_15 => (intro wy hSw; obtain ⟨m0, m1, y0, y1, Qg, Qd, Qm⟩ := hSw; (with_reducible refine pexec_load 33 (.tmp 12) ?_ w1.heap.size ?_ 33 #[.int .i64 u.a0, .int .i64 u.a1, .int .i64 u.k0.kind, .int .i64 u.k0.len, .int .u64 u.k0.h, .int .u64 u.k0.l, .string ⟨u.k0.path.toArray⟩, .int .i64 u.k1.kind, .int .i64 u.k1.len, .int .u64 u.k1.h, .int .u64 u.k1.l, .string ⟨u.k1.path.toArray⟩] _ Qm Try.underlying33 ?_ ?_) <;> first | rfl | exact infoPx)
  (try simp only [Act.put, nz1, nz2, nz3])
  refine tk 17 ⟨some 100, .load 26 (.tmp 5), 26, _, _, _⟩ hHeld ?_ (v := ?vr113_17_17) (hy := ?yr113_17_17)
  case yr113_17_17 => (intro wy hSw; obtain ⟨m0, m1, y0, y1, Qg, Qd, Qm⟩ := hSw; (with_reducible refine pexec_load 26 (.tmp 5) ?_ w.heap.size ?_ 26 #[.int .i64 s.n, .int .i64 s.d0.kind, .int .i64 s.d0.side, .int .i64 s.d0.step, .int .i64 s.d1.kind, .int .i64 s.d1.side, .int .i64 s.d1.step] _ Qg Try.underlying26 ?_ ?_) <;> first | rfl | exact infoSp)
  (try simp only [Act.put, nz1, nz2, nz3])
  refine tk 18 ⟨some 101, .load 33 (.tmp 6), 33, _, _, _⟩ hHeld ?_ (v := ?vr113_18_18) (hy := ?yr113_18_18)
  case yr113_18_18 => (intro wy hSw; obtain ⟨m0, m1, y0, y1, Qg, Qd, Qm⟩ := hSw; (with_reducible refine pexec_load 33 (.tmp 6) ?_ (w.heap.size + 1) ?_ 33 #[.int .i64 p.a0, .int .i64 p.a1, .int .i64 p.k0.kind, .int .i64 p.k0.len, .int .u64 p.k0.h, .int .u64 p.k0.l, .string ⟨p.k0.path.toArray⟩, .int .i64 p.k1.kind, .int .i64 p.k1.len, .int .u64 p.k1.h, .int .u64 p.k1.l, .string ⟨p.k1.path.toArray⟩] _ Qd Try.underlying33 ?_ ?_) <;> first | rfl | exact infoPx)
  (try simp only [Act.put, nz1, nz2, nz3])
  refine wpAnyH_ready (rs := [16]) (by kernel_rfl) (by simp) ?_
  refine AllReadyH.cons (o := ⟨some 99, .call { callee := .value (.func 25), args := #[.tmp 97, .tmp 98], argTypes := #[26, 33] }, 3, _, _, _⟩) rfl (fun K hK => ?_) AllReadyH.nil
  (go_simp; (refine (H7 _).mono ?_); (rintro e wz ⟨rfl, hb⟩); (replace Rg := Rg.later hb); (replace Rd := Rd.later hb); (replace Re := Re.later hb); (replace Ry := Ry.later hb); (replace Rm := Rm.later hb); (replace Rn := Rn.later hb); (replace hb0 := below_step hb0 hb); go_wp2_with fail)
  refine hK.out _ _ ?hSr113_19_16 (fun hHeld2 => ?_)
  case hSr113_19_16 => (obtain ⟨m0, m1, y0, y1, Qg, Qd, Qm⟩ := hHeld; exact ⟨cell_later hb m0, cell_later hb m1, cell_later hb y0, cell_later hb y1, Qg.later hb, Qd.later hb, Qm.later hb⟩)
  clear hK K hHeld
  have hHeld := hHeld2
  clear hHeld2
  rename World => wq
  (try simp only [Act.put, nz1, nz2, nz3])
  refine wpAnyH_ready (rs := [19]) (by kernel_rfl) (by simp) ?_
  refine AllReadyH.cons (o := ⟨some 102, .call { callee := .value (.func 25), args := #[.tmp 100, .tmp 101], argTypes := #[26, 33] }, 3, _, _, _⟩) rfl (fun K hK => ?_) AllReadyH.nil
  (go_simp; (refine (H8 _).mono ?_); (rintro e wz ⟨rfl, hb⟩); (replace Rg := Rg.later hb); (replace Rd := Rd.later hb); (replace Re := Re.later hb); (replace Ry := Ry.later hb); (replace Rm := Rm.later hb); (replace Rn := Rn.later hb); (replace hb0 := below_step hb0 hb); go_wp2_with fail)
  refine hK.out _ _ ?hSr113_20_19 (fun hHeld2 => ?_)
  case hSr113_20_19 => (obtain ⟨m0, m1, y0, y1, Qg, Qd, Qm⟩ := hHeld; exact ⟨cell_later hb m0, cell_later hb m1, cell_later hb y0, cell_later hb y1, Qg.later hb, Qd.later hb, Qm.later hb⟩)
  clear hK K hHeld
  have hHeld := hHeld2
  clear hHeld2
  rename World => wq
  (try simp only [Act.put, nz1, nz2, nz3])
  refine tk 20 ⟨some 103, .binOp .geq 3 (.tmp 99) (.tmp 102) 3, 4, _, _, _⟩ hHeld ?_
  (try simp only [Act.put, nz1, nz2, nz3])
  refine tk 21 ⟨some 104, .pick (.tmp 96) (.tmp 103) (.const (.bool false)), 4, _, _, _⟩ hHeld ?_
  (try simp only [Act.put, nz1, nz2, nz3])
  refine tk 22 ⟨some 10, .assign (.tmp 104), 4, _, _, _⟩ hHeld ?_
  (try simp only [Act.put, nz1, nz2, nz3])
  refine wpAnyH_done (by kernel_rfl) ?_ _
  clear hHeld
  rename World => w5
  have lg := Rg.lt
  have ld := Rd.lt
  have le := Re.lt
  have ly := Ry.lt
  have lm := Rm.lt
  have ln := Rn.lt
  (try clear g0 g1 g2 g3 g4 g5 g6); obtain ⟨g0, g1, g2, g3, g4, g5, g6⟩ := row7 Rg
  (try clear d0 d1 d2 d3 d4 d5 d6 d7 d8 d9 d10 d11); obtain ⟨d0, d1, d2, d3, d4, d5, d6, d7, d8, d9, d10, d11⟩ := row12 Rd
  (try clear e0 e1 e2 e3 e4 e5 e6 e7 e8 e9 e10 e11); obtain ⟨e0, e1, e2, e3, e4, e5, e6, e7, e8, e9, e10, e11⟩ := row12 Re
  (try clear y0 y1); obtain ⟨y0, y1⟩ := row2 Ry
  (try clear m0 m1 m2 m3 m4 m5 m6 m7 m8 m9 m10 m11); obtain ⟨m0, m1, m2, m3, m4, m5, m6, m7, m8, m9, m10, m11⟩ := row12 Rm
  (try clear n0 n1 n2 n3 n4 n5 n6 n7 n8 n9 n10 n11); obtain ⟨n0, n1, n2, n3, n4, n5, n6, n7, n8, n9, n10, n11⟩ := row12 Rn
  go_wp2
  go_ret
  exact ⟨rfl, hb0⟩
theorem one_any (s : Sp) (p q : Px) (i j : Int) (os : s.ok) (op : p.ok) (oq : q.ok) (i0 : -9223372036854775808 ≤ i) (i1 : i ≤ 9223372036854775807) (j0 : -9223372036854775808 ≤ j) (j1 : j ≤ 9223372036854775807) (w : World) : Calls Try.prog 7 #[sv s, pv p, pv q, .int .i64 i, .int .i64 j] w fun e w' => e = .returned (.bool true) ∧ Below w.heap.size w w' := by
  have ou := upP_ok op s i j i0 i1 j0 j1
  have H0 := up9_t s p op i j
  have H1 := over9_t s q p oq op
  have H2 := right9_t s q oq
  have H3 := right9_t s p op
  have H5 := top9_t s
  have H4 := up9_t s p op q.a0 q.a1
  have H6 := over9_t s (upP s p i j) p ou op
  have H7 := height_t s (upP s p i j) ou
  have H8 := height_t s p op
  rw [over_is_up] at H1
  have hu := @up_on s p i j
  have hub : upB s p i j = (rightP s p && (decide (p.a0 ≤ i) && (decide (i ≤ depthD s.d0) && (decide (p.a1 ≤ j) && decide (j ≤ depthD s.d1))))) := rfl
  have hun : upB s p i j = false → upP s p i j = pz := fun h => by unfold upP; rw [h]; rfl
  have hhp : heightP s p = if rightP s p = true then p.a0 + p.a1 else 0 := rfl
  have htop : rightP s p = true → (topP s).a0 = depthD s.d0 ∧ (topP s).a1 = depthD s.d1 := fun h => by
    unfold topP; rw [if_pos ((right_iff s p).1 h).1]; exact ⟨rfl, rfl⟩
  cases h3 : rightP s p with
  | false =>
    rw [h3] at H3 H1 hub
    rw [Bool.false_and] at hub
    rw [hun hub] at H0
    rw [Bool.false_and, Bool.and_false] at H1
    cases h2 : rightP s q with
    | false => rw [h2] at H2; exact one_00x s p q pz pz _ i j 0 0 false H0 H1 H2 H3 H5 w
    | true => rw [h2] at H2; exact one_10x s p q pz pz _ i j 0 0 false H0 H1 H2 H3 H5 w
  | true =>
    obtain ⟨ht0, ht1⟩ := htop h3
    rw [h3] at H3 H1 hub hhp
    rw [if_pos rfl] at hhp
    rw [Bool.true_and] at hub H1
    rw [← ht0, ← ht1] at hub
    cases h2 : rightP s q with
    | false =>
      rw [h2] at H2 H1
      rw [Bool.false_and] at H1
      by_cases g0 : i < p.a0
      · rw [hun (by rw [hub, decide_eq_false (by omega : ¬ p.a0 ≤ i)]; rfl)] at H0
        exact one_01a s p q pz pz _ i j 0 0 false H0 H1 H2 H3 H5 g0 w
      by_cases g1 : j < p.a1
      · rw [hun (by rw [hub, decide_eq_false (by omega : ¬ p.a1 ≤ j)]; simp)] at H0
        exact one_01b s p q pz pz _ i j 0 0 false H0 H1 H2 H3 H5 g0 g1 w
      by_cases g2 : (topP s).a0 < i
      · rw [hun (by rw [hub, decide_eq_false (by omega : ¬ i ≤ (topP s).a0)]; simp)] at H0
        exact one_01c s p q pz pz _ i j 0 0 false H0 H1 H2 H3 H5 g0 g1 g2 w
      by_cases g3 : (topP s).a1 < j
      · rw [hun (by rw [hub, decide_eq_false (by omega : ¬ j ≤ (topP s).a1)]; simp)] at H0
        exact one_01d s p q pz pz _ i j 0 0 false H0 H1 H2 H3 H5 g0 g1 g2 g3 w
      have hb : upB s p i j = true := by rw [hub]; simp; omega
      obtain ⟨u1, u2, u3⟩ := hu hb
      rw [u1] at H0 H6 H7
      rw [u2] at H6
      have hhu : heightP s (upX s p i j) = i + j := by unfold heightP; rw [if_pos u3]; rfl
      exact one_01ok s p q (upX s p i j) pz _ i j _ _ false H0 H1 H2 H3 H5 g0 g1 g2 g3 ⟨rfl, rfl⟩ H6 H7 H8 (by rw [hhu, hhp]; omega) w
    | true =>
      rw [h2] at H2 H1
      rw [Bool.true_and] at H1
      by_cases g0 : i < p.a0
      · rw [hun (by rw [hub, decide_eq_false (by omega : ¬ p.a0 ≤ i)]; rfl)] at H0
        exact one_11a s p q pz _ _ i j 0 0 _ H0 H1 H2 H3 H5 H4 rfl g0 w
      by_cases g1 : j < p.a1
      · rw [hun (by rw [hub, decide_eq_false (by omega : ¬ p.a1 ≤ j)]; simp)] at H0
        exact one_11b s p q pz _ _ i j 0 0 _ H0 H1 H2 H3 H5 H4 rfl g0 g1 w
      by_cases g2 : (topP s).a0 < i
      · rw [hun (by rw [hub, decide_eq_false (by omega : ¬ i ≤ (topP s).a0)]; simp)] at H0
        exact one_11c s p q pz _ _ i j 0 0 _ H0 H1 H2 H3 H5 H4 rfl g0 g1 g2 w
      by_cases g3 : (topP s).a1 < j
      · rw [hun (by rw [hub, decide_eq_false (by omega : ¬ j ≤ (topP s).a1)]; simp)] at H0
        exact one_11d s p q pz _ _ i j 0 0 _ H0 H1 H2 H3 H5 H4 rfl g0 g1 g2 g3 w
      have hb : upB s p i j = true := by rw [hub]; simp; omega
      obtain ⟨u1, u2, u3⟩ := hu hb
      rw [u1] at H0 H6 H7
      rw [u2] at H6
      have hhu : heightP s (upX s p i j) = i + j := by unfold heightP; rw [if_pos u3]; rfl
      exact one_11ok s p q (upX s p i j) _ _ i j _ _ _ H0 H1 H2 H3 H5 H4 rfl g0 g1 g2 g3 ⟨rfl, rfl⟩ H6 H7 H8 (by rw [hhu, hhp]; omega) w
end Go.Proofs.Ytbekocknfpekoaa
