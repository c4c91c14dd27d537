/- LawPrefixOne: what the theorem needs of these texts. No conditions beyond those that are written. -/
import Derived.Test.YtbekocknfpekoaaJ0
import Derived.Test.YtbekocknfpekoaaJ9
namespace Go.Proofs.Ytbekocknfpekoaa
set_option linter.unusedVariables false
set_option linter.unusedSimpArgs false
open Go.RowKit
theorem eql_at (a0 a1 b0 b1 : Int) (w : World) : (binOp .eql 27 (.agg #[.int .i64 a0, .int .i64 a1]) (.agg #[.int .i64 b0, .int .i64 b1])).run Try.prog w = .ok (.bool (decide (a0 = b0 ∧ a1 = b1))) w := by
  have e := eqIn_at 9998 a0 a1 b0 b1
  simp [go_sem, e]
set_option maxRecDepth 100000 in
set_option maxHeartbeats 32000000 in
theorem one_00x (s : Sp) (p q u v t : Px) (i j hu2 hp2 : Int) (b : Bool)
    (H0 : ∀ w, Calls Try.prog 26 #[sv s, pv p, .agg #[.int .i64 i, .int .i64 j]] w fun e w' => e = .returned (pv pz) ∧ Below w.heap.size w w')
    (H1 : ∀ w, Calls Try.prog 28 #[sv s, pv q, pv p] w fun e w' => e = .returned (.bool false) ∧ Below w.heap.size w w')
    (H2 : ∀ w, Calls Try.prog 20 #[sv s, pv q] w fun e w' => e = .returned (.bool false) ∧ Below w.heap.size w w')
    (H3 : ∀ w, Calls Try.prog 20 #[sv s, pv p] w fun e w' => e = .returned (.bool false) ∧ Below w.heap.size w w')
    (H5 : ∀ w, Calls Try.prog 22 #[sv s] w fun e w' => e = .returned (pv t) ∧ Below w.heap.size w w')
     (w : World) :
    Calls Try.prog 7 #[sv s, pv p, pv q, .int .i64 i, .int .i64 j] w fun e w' => e = .returned (.bool true) ∧ Below w.heap.size w w' := by
  have HA := alive9_t
  have qe := eql_px pz pz
  rw [decide_eq_true rfl] at qe
  unfold pz kz at *
  unfold sv pv at *
  obtain ⟨Rg, Rd, Re, hb0⟩ := three_rows w #[Value.int .i64 s.n, Value.int .i64 s.d0.kind, Value.int .i64 s.d0.side, Value.int .i64 s.d0.step, Value.int .i64 s.d1.kind, Value.int .i64 s.d1.side, Value.int .i64 s.d1.step] #[Value.int .i64 p.a0, Value.int .i64 p.a1, Value.int .i64 p.k0.kind, Value.int .i64 p.k0.len, Value.int .u64 p.k0.h, Value.int .u64 p.k0.l, Value.string ⟨p.k0.path.toArray⟩, Value.int .i64 p.k1.kind, Value.int .i64 p.k1.len, Value.int .u64 p.k1.h, Value.int .u64 p.k1.l, Value.string ⟨p.k1.path.toArray⟩] #[Value.int .i64 q.a0, Value.int .i64 q.a1, Value.int .i64 q.k0.kind, Value.int .i64 q.k0.len, Value.int .u64 q.k0.h, Value.int .u64 q.k0.l, Value.string ⟨q.k0.path.toArray⟩, Value.int .i64 q.k1.kind, Value.int .i64 q.k1.len, Value.int .u64 q.k1.h, Value.int .u64 q.k1.l, Value.string ⟨q.k1.path.toArray⟩] 26 33 33
  (try clear g0 g1 g2 g3 g4 g5 g6); obtain ⟨g0, g1, g2, g3, g4, g5, g6⟩ := row7 Rg
  (try clear d0 d1 d2 d3 d4 d5 d6 d7 d8 d9 d10 d11); obtain ⟨d0, d1, d2, d3, d4, d5, d6, d7, d8, d9, d10, d11⟩ := row12 Rd
  (try clear e0 e1 e2 e3 e4 e5 e6 e7 e8 e9 e10 e11); obtain ⟨e0, e1, e2, e3, e4, e5, e6, e7, e8, e9, e10, e11⟩ := row12 Re
  go_enter Try.func7, Try.ntmps7
  go_wp2_with fail
  refine (H0 _).mono ?_
  rintro e w1 ⟨rfl, hb⟩
  replace Rg := (Rg.alloc _).later hb
  replace Rd := (Rd.alloc _).later hb
  replace Re := (Re.alloc _).later hb
  have Ry := Row.later (Row.new _ _ _) hb
  simp only [World.size_alloc] at Ry
  replace hb0 := below_step (hb0.alloc hb0.size _) hb
  clear hb
  have lg := Rg.lt
  have ld := Rd.lt
  have le := Re.lt
  have ly := Ry.lt
  (try clear g0 g1 g2 g3 g4 g5 g6); obtain ⟨g0, g1, g2, g3, g4, g5, g6⟩ := row7 Rg
  (try clear d0 d1 d2 d3 d4 d5 d6 d7 d8 d9 d10 d11); obtain ⟨d0, d1, d2, d3, d4, d5, d6, d7, d8, d9, d10, d11⟩ := row12 Rd
  (try clear e0 e1 e2 e3 e4 e5 e6 e7 e8 e9 e10 e11); obtain ⟨e0, e1, e2, e3, e4, e5, e6, e7, e8, e9, e10, e11⟩ := row12 Re
  (try clear y0 y1); obtain ⟨y0, y1⟩ := row2 Ry
  go_wp2_with fail
  replace Rg := Rg.alloc (.cells #[Value.int .i64 0, Value.int .i64 0, Value.int .i64 0, Value.int .i64 0, Value.int .u64 0, Value.int .u64 0, Value.string ⟨#[]⟩, Value.int .i64 0, Value.int .i64 0, Value.int .u64 0, Value.int .u64 0, Value.string ⟨#[]⟩] 33)
  replace Rd := Rd.alloc (.cells #[Value.int .i64 0, Value.int .i64 0, Value.int .i64 0, Value.int .i64 0, Value.int .u64 0, Value.int .u64 0, Value.string ⟨#[]⟩, Value.int .i64 0, Value.int .i64 0, Value.int .u64 0, Value.int .u64 0, Value.string ⟨#[]⟩] 33)
  replace Re := Re.alloc (.cells #[Value.int .i64 0, Value.int .i64 0, Value.int .i64 0, Value.int .i64 0, Value.int .u64 0, Value.int .u64 0, Value.string ⟨#[]⟩, Value.int .i64 0, Value.int .i64 0, Value.int .u64 0, Value.int .u64 0, Value.string ⟨#[]⟩] 33)
  replace Ry := Ry.alloc (.cells #[Value.int .i64 0, Value.int .i64 0, Value.int .i64 0, Value.int .i64 0, Value.int .u64 0, Value.int .u64 0, Value.string ⟨#[]⟩, Value.int .i64 0, Value.int .i64 0, Value.int .u64 0, Value.int .u64 0, Value.string ⟨#[]⟩] 33)
  have Rm := Row.new w1 #[Value.int .i64 0, Value.int .i64 0, Value.int .i64 0, Value.int .i64 0, Value.int .u64 0, Value.int .u64 0, Value.string ⟨#[]⟩, Value.int .i64 0, Value.int .i64 0, Value.int .u64 0, Value.int .u64 0, Value.string ⟨#[]⟩] 33
  have mm := hb0.size
  replace hb0 := hb0.alloc hb0.size (.cells #[Value.int .i64 0, Value.int .i64 0, Value.int .i64 0, Value.int .i64 0, Value.int .u64 0, Value.int .u64 0, Value.string ⟨#[]⟩, Value.int .i64 0, Value.int .i64 0, Value.int .u64 0, Value.int .u64 0, Value.string ⟨#[]⟩] 33)
  (try clear g0 g1 g2 g3 g4 g5 g6); obtain ⟨g0, g1, g2, g3, g4, g5, g6⟩ := row7 Rg
  (try clear d0 d1 d2 d3 d4 d5 d6 d7 d8 d9 d10 d11); obtain ⟨d0, d1, d2, d3, d4, d5, d6, d7, d8, d9, d10, d11⟩ := row12 Rd
  (try clear e0 e1 e2 e3 e4 e5 e6 e7 e8 e9 e10 e11); obtain ⟨e0, e1, e2, e3, e4, e5, e6, e7, e8, e9, e10, e11⟩ := row12 Re
  (try clear y0 y1); obtain ⟨y0, y1⟩ := row2 Ry
  (try clear m0 m1 m2 m3 m4 m5 m6 m7 m8 m9 m10 m11); obtain ⟨m0, m1, m2, m3, m4, m5, m6, m7, m8, m9, m10, m11⟩ := row12 Rm
  refine wp_region_held_drew (S := (fun w' => w'.cell? ⟨w.heap.size + 1 + 1, 0, none⟩ = some (Value.int .i64 q.a0) ∧ w'.cell? ⟨w.heap.size + 1 + 1, 1, none⟩ = some (Value.int .i64 q.a1) ∧ Row w' w.heap.size #[Value.int .i64 s.n, Value.int .i64 s.d0.kind, Value.int .i64 s.d0.side, Value.int .i64 s.d0.step, Value.int .i64 s.d1.kind, Value.int .i64 s.d1.side, Value.int .i64 s.d1.step] 26 ∧ Row w' (w.heap.size + 1) #[Value.int .i64 p.a0, Value.int .i64 p.a1, Value.int .i64 p.k0.kind, Value.int .i64 p.k0.len, Value.int .u64 p.k0.h, Value.int .u64 p.k0.l, Value.string ⟨p.k0.path.toArray⟩, Value.int .i64 p.k1.kind, Value.int .i64 p.k1.len, Value.int .u64 p.k1.h, Value.int .u64 p.k1.l, Value.string ⟨p.k1.path.toArray⟩] 33 ∧ Row w' (w.heap.size + 1 + 1) #[Value.int .i64 q.a0, Value.int .i64 q.a1, Value.int .i64 q.k0.kind, Value.int .i64 q.k0.len, Value.int .u64 q.k0.h, Value.int .u64 q.k0.l, Value.string ⟨q.k0.path.toArray⟩, Value.int .i64 q.k1.kind, Value.int .i64 q.k1.len, Value.int .u64 q.k1.h, Value.int .u64 q.k1.l, Value.string ⟨q.k1.path.toArray⟩] 33)) (by kernel_rfl) ?hSr1_ (fun hHeld => ?_)
  case hSr1_ => (exact ⟨e0, e1, Rg.drew, Rd.drew, Re.drew⟩)
  (clear g0 g1 g2 g3 g4 g5 g6 d0 d1 d2 d3 d4 d5 d6 d7 d8 d9 d10 d11 e0 e1 e2 e3 e4 e5 e6 e7 e8 e9 e10 e11 y0 y1 m0 m1 m2 m3 m4 m5 m6 m7 m8 m9 m10 m11; (replace Rg := Rg.drew); (replace Rd := Rd.drew); (replace Re := Re.drew); (replace Ry := Ry.drew); (replace Rm := Rm.drew); (replace hb0 := hb0.drew); (generalize World.drew (World.alloc w1 (.cells #[Value.int .i64 0, Value.int .i64 0, Value.int .i64 0, Value.int .i64 0, Value.int .u64 0, Value.int .u64 0, Value.string ⟨#[]⟩, Value.int .i64 0, Value.int .i64 0, Value.int .u64 0, Value.int .u64 0, Value.string ⟨#[]⟩] 33)) = wq at *))
  refine tk 0 ⟨some 21, .load 26 (.tmp 5), 26, _, #[], none⟩ hHeld ?_ (v := ?vr1_1_0) (hy := ?yr1_1_0)
  case yr1_1_0 => (intro wy hSw; obtain ⟨e0, e1, Qg, Qd, Qe⟩ := hSw; (with_reducible refine pexec_load 26 (.tmp 5) ?_ w.heap.size ?_ 26 #[Value.int .i64 s.n, Value.int .i64 s.d0.kind, Value.int .i64 s.d0.side, Value.int .i64 s.d0.step, Value.int .i64 s.d1.kind, Value.int .i64 s.d1.side, Value.int .i64 s.d1.step] _ Qg Try.underlying26 ?_ ?_) <;> first | rfl | exact infoSp)
  (try simp only [Act.put, nz1, nz2, nz3])
  refine tk 1 ⟨some 22, .load 33 (.tmp 7), 33, _, #[], none⟩ hHeld ?_ (v := ?vr1_2_1) (hy := ?yr1_2_1)
  case yr1_2_1 => (intro wy hSw; obtain ⟨e0, e1, Qg, Qd, Qe⟩ := hSw; (with_reducible refine pexec_load 33 (.tmp 7) ?_ (w.heap.size + 1 + 1) ?_ 33 #[Value.int .i64 q.a0, Value.int .i64 q.a1, Value.int .i64 q.k0.kind, Value.int .i64 q.k0.len, Value.int .u64 q.k0.h, Value.int .u64 q.k0.l, Value.string ⟨q.k0.path.toArray⟩, Value.int .i64 q.k1.kind, Value.int .i64 q.k1.len, Value.int .u64 q.k1.h, Value.int .u64 q.k1.l, Value.string ⟨q.k1.path.toArray⟩] _ Qe Try.underlying33 ?_ ?_) <;> first | rfl | exact infoPx)
  (try simp only [Act.put, nz1, nz2, nz3])
  refine tk 2 ⟨some 23, .load 33 (.tmp 6), 33, _, #[], none⟩ hHeld ?_ (v := ?vr1_3_2) (hy := ?yr1_3_2)
  case yr1_3_2 => (intro wy hSw; obtain ⟨e0, e1, Qg, Qd, Qe⟩ := hSw; (with_reducible refine pexec_load 33 (.tmp 6) ?_ (w.heap.size + 1) ?_ 33 #[Value.int .i64 p.a0, Value.int .i64 p.a1, Value.int .i64 p.k0.kind, Value.int .i64 p.k0.len, Value.int .u64 p.k0.h, Value.int .u64 p.k0.l, Value.string ⟨p.k0.path.toArray⟩, Value.int .i64 p.k1.kind, Value.int .i64 p.k1.len, Value.int .u64 p.k1.h, Value.int .u64 p.k1.l, Value.string ⟨p.k1.path.toArray⟩] _ Qd Try.underlying33 ?_ ?_) <;> first | rfl | exact infoPx)
  (try simp only [Act.put, nz1, nz2, nz3])
  refine tk 4 ⟨some 25, .load 26 (.tmp 5), 26, _, #[], none⟩ hHeld ?_ (v := ?vr1_4_4) (hy := ?yr1_4_4)
  case yr1_4_4 => (intro wy hSw; obtain ⟨e0, e1, Qg, Qd, Qe⟩ := hSw; (with_reducible refine pexec_load 26 (.tmp 5) ?_ w.heap.size ?_ 26 #[Value.int .i64 s.n, Value.int .i64 s.d0.kind, Value.int .i64 s.d0.side, Value.int .i64 s.d0.step, Value.int .i64 s.d1.kind, Value.int .i64 s.d1.side, Value.int .i64 s.d1.step] _ Qg Try.underlying26 ?_ ?_) <;> first | rfl | exact infoSp)
  (try simp only [Act.put, nz1, nz2, nz3])
  refine tk 5 ⟨some 26, .load 33 (.tmp 7), 33, _, #[], none⟩ hHeld ?_ (v := ?vr1_5_5) (hy := ?yr1_5_5)
  case yr1_5_5 => (intro wy hSw; obtain ⟨e0, e1, Qg, Qd, Qe⟩ := hSw; (with_reducible refine pexec_load 33 (.tmp 7) ?_ (w.heap.size + 1 + 1) ?_ 33 #[Value.int .i64 q.a0, Value.int .i64 q.a1, Value.int .i64 q.k0.kind, Value.int .i64 q.k0.len, Value.int .u64 q.k0.h, Value.int .u64 q.k0.l, Value.string ⟨q.k0.path.toArray⟩, Value.int .i64 q.k1.kind, Value.int .i64 q.k1.len, Value.int .u64 q.k1.h, Value.int .u64 q.k1.l, Value.string ⟨q.k1.path.toArray⟩] _ Qe Try.underlying33 ?_ ?_) <;> first | rfl | exact infoPx)
  (try simp only [Act.put, nz1, nz2, nz3])
  refine wpAnyH_ready (rs := [3]) (by kernel_rfl) (by simp) ?_
  refine AllReadyH.cons (o := ⟨some 24, .call { callee := .value (.func 28), args := #[.tmp 21, .tmp 22, .tmp 23], argTypes := #[26, 33, 33] }, 4, _, #[⟨0, .data⟩, ⟨1, .data⟩, ⟨2, .data⟩], none⟩) rfl (fun K hK => ?_) AllReadyH.nil
  (go_simp; (refine (H1 _).mono ?_); (rintro e wz ⟨rfl, hb⟩); (replace Rg := Rg.later hb); (replace Rd := Rd.later hb); (replace Re := Re.later hb); (replace Ry := Ry.later hb); (replace Rm := Rm.later hb); (replace hb0 := below_step hb0 hb); go_wp2_with fail)
  refine hK.out _ _ ?hSr1_6_3 (fun hHeld2 => ?_)
  case hSr1_6_3 => (obtain ⟨e0, e1, Qg, Qd, Qe⟩ := hHeld; exact ⟨cell_later hb e0, cell_later hb e1, Qg.later hb, Qd.later hb, Qe.later hb⟩)
  clear hK K hHeld
  have hHeld := hHeld2
  clear hHeld2
  rename World => wq
  (try simp only [Act.put, nz1, nz2, nz3])
  refine wpAnyH_ready (rs := [6]) (by kernel_rfl) (by simp) ?_
  refine AllReadyH.cons (o := ⟨some 27, .call { callee := .value (.func 20), args := #[.tmp 25, .tmp 26], argTypes := #[26, 33] }, 4, _, #[⟨4, .data⟩, ⟨5, .data⟩, ⟨3, .chain⟩], none⟩) rfl (fun K hK => ?_) AllReadyH.nil
  (go_simp; (refine (H2 _).mono ?_); (rintro e wz ⟨rfl, hb⟩); (replace Rg := Rg.later hb); (replace Rd := Rd.later hb); (replace Re := Re.later hb); (replace Ry := Ry.later hb); (replace Rm := Rm.later hb); (replace hb0 := below_step hb0 hb); go_wp2_with fail)
  refine hK.out _ _ ?hSr1_7_6 (fun hHeld2 => ?_)
  case hSr1_7_6 => (obtain ⟨e0, e1, Qg, Qd, Qe⟩ := hHeld; exact ⟨cell_later hb e0, cell_later hb e1, Qg.later hb, Qd.later hb, Qe.later hb⟩)
  clear hK K hHeld
  have hHeld := hHeld2
  clear hHeld2
  rename World => wq
  (try simp only [Act.put, nz1, nz2, nz3])
  refine tk 7 ⟨some 28, .move (.tmp 27), 4, _, #[⟨6, .data⟩, ⟨6, .chain⟩], none⟩ hHeld ?_
  (try simp only [Act.put, nz1, nz2, nz3])
  refine ts 8 ⟨some 29, .load 26 (.tmp 5), 26, _, #[⟨7, .guard⟩], some (7, true)⟩ hHeld ?_
  (try simp only [Act.put, nz1, nz2, nz3])
  refine ts 9 ⟨some 30, .load 33 (.tmp 6), 33, _, #[⟨7, .guard⟩], some (7, true)⟩ hHeld ?_
  (try simp only [Act.put, nz1, nz2, nz3])
  refine ts 10 ⟨some 31, .call { callee := .value (.func 20), args := #[.tmp 29, .tmp 30], argTypes := #[26, 33] }, 4, _, #[⟨8, .data⟩, ⟨9, .data⟩, ⟨7, .chain⟩, ⟨7, .guard⟩], some (7, true)⟩ hHeld ?_
  (try simp only [Act.put, nz1, nz2, nz3])
  refine tk 11 ⟨some 32, .pick (.tmp 28) (.tmp 31) (.const (.bool false)), 4, _, #[⟨7, .data⟩, ⟨10, .data⟩], none⟩ hHeld ?_
  (try simp only [Act.put, nz1, nz2, nz3])
  refine tk 12 ⟨some 33, .move (.tmp 32), 4, _, #[⟨11, .data⟩, ⟨10, .chain⟩], none⟩ hHeld ?_
  (try simp only [Act.put, nz1, nz2, nz3])
  refine ts 13 ⟨some 34, .load 26 (.tmp 5), 26, _, #[⟨12, .guard⟩], some (12, true)⟩ hHeld ?_
  (try simp only [Act.put, nz1, nz2, nz3])
  refine ts 14 ⟨some 35, .load 33 (.tmp 6), 33, _, #[⟨12, .guard⟩], some (12, true)⟩ hHeld ?_
  (try simp only [Act.put, nz1, nz2, nz3])
  refine ts 15 ⟨some 36, .fieldAddr 33 (.tmp 7) 0, 0, _, #[⟨12, .guard⟩], some (12, true)⟩ hHeld ?_
  (try simp only [Act.put, nz1, nz2, nz3])
  refine ts 16 ⟨some 37, .load 27 (.tmp 36), 27, _, #[⟨15, .data⟩, ⟨12, .guard⟩], some (12, true)⟩ hHeld ?_
  (try simp only [Act.put, nz1, nz2, nz3])
  refine ts 17 ⟨some 38, .call { callee := .value (.func 26), args := #[.tmp 34, .tmp 35, .tmp 37], argTypes := #[26, 33, 27] }, 33, _, #[⟨13, .data⟩, ⟨14, .data⟩, ⟨16, .data⟩, ⟨12, .chain⟩, ⟨12, .guard⟩], some (12, true)⟩ hHeld ?_
  (try simp only [Act.put, nz1, nz2, nz3])
  refine ts 18 ⟨some 39, .load 33 (.tmp 7), 33, _, #[⟨12, .guard⟩], some (12, true)⟩ hHeld ?_
  (try simp only [Act.put, nz1, nz2, nz3])
  refine ts 19 ⟨some 40, .binOp .eql 33 (.tmp 38) (.tmp 39) 33, 4, _, #[⟨17, .data⟩, ⟨18, .data⟩, ⟨12, .guard⟩], some (12, true)⟩ hHeld ?_
  (try simp only [Act.put, nz1, nz2, nz3])
  refine tk 20 ⟨some 41, .pick (.tmp 33) (.tmp 40) (.const (.bool false)), 4, _, #[⟨12, .data⟩, ⟨19, .data⟩], none⟩ hHeld ?_
  (try simp only [Act.put, nz1, nz2, nz3])
  refine tk 21 ⟨some 42, .binOp .neq 4 (.tmp 24) (.tmp 41) 4, 4, _, #[⟨3, .data⟩, ⟨20, .data⟩], none⟩ hHeld ?_
  (try simp only [Act.put, nz1, nz2, nz3])
  refine wpAnyH_done (by kernel_rfl) ?_ _
  clear hHeld
  rename World => w2
  have lg := Rg.lt
  have ld := Rd.lt
  have le := Re.lt
  have ly := Ry.lt
  have lm := Rm.lt
  (try clear g0 g1 g2 g3 g4 g5 g6); obtain ⟨g0, g1, g2, g3, g4, g5, g6⟩ := row7 Rg
  (try clear d0 d1 d2 d3 d4 d5 d6 d7 d8 d9 d10 d11); obtain ⟨d0, d1, d2, d3, d4, d5, d6, d7, d8, d9, d10, d11⟩ := row12 Rd
  (try clear e0 e1 e2 e3 e4 e5 e6 e7 e8 e9 e10 e11); obtain ⟨e0, e1, e2, e3, e4, e5, e6, e7, e8, e9, e10, e11⟩ := row12 Re
  (try clear y0 y1); obtain ⟨y0, y1⟩ := row2 Ry
  (try clear m0 m1 m2 m3 m4 m5 m6 m7 m8 m9 m10 m11); obtain ⟨m0, m1, m2, m3, m4, m5, m6, m7, m8, m9, m10, m11⟩ := row12 Rm
  go_wp2_with fail
  refine (H5 _).mono ?_
  rintro e w3 ⟨rfl, hb⟩
  replace Rg := Rg.later hb
  replace Rd := Rd.later hb
  replace Re := Re.later hb
  replace Ry := Ry.later hb
  replace Rm := Rm.later hb
  replace hb0 := below_step hb0 hb
  clear hb
  have lg := Rg.lt
  have ld := Rd.lt
  have le := Re.lt
  have ly := Ry.lt
  have lm := Rm.lt
  (try clear g0 g1 g2 g3 g4 g5 g6); obtain ⟨g0, g1, g2, g3, g4, g5, g6⟩ := row7 Rg
  (try clear d0 d1 d2 d3 d4 d5 d6 d7 d8 d9 d10 d11); obtain ⟨d0, d1, d2, d3, d4, d5, d6, d7, d8, d9, d10, d11⟩ := row12 Rd
  (try clear e0 e1 e2 e3 e4 e5 e6 e7 e8 e9 e10 e11); obtain ⟨e0, e1, e2, e3, e4, e5, e6, e7, e8, e9, e10, e11⟩ := row12 Re
  (try clear y0 y1); obtain ⟨y0, y1⟩ := row2 Ry
  (try clear m0 m1 m2 m3 m4 m5 m6 m7 m8 m9 m10 m11); obtain ⟨m0, m1, m2, m3, m4, m5, m6, m7, m8, m9, m10, m11⟩ := row12 Rm
  go_wp2_with fail
  refine (H3 _).mono ?_
  rintro e w4 ⟨rfl, hb⟩
  have nng := Rg.lt
  have nnd := Rd.lt
  have nne := Re.lt
  have nny := Ry.lt
  have nnm := Rm.lt
  replace Rg := (Rg.alloc _).later hb
  replace Rd := (Rd.alloc _).later hb
  replace Re := (Re.alloc _).later hb
  replace Ry := (Ry.alloc _).later hb
  replace Rm := (Rm.alloc _).later hb
  have Rn := Row.later (Row.new _ _ _) hb
  have mn := hb0.size
  replace hb0 := below_step (hb0.alloc hb0.size _) hb
  clear hb
  generalize w3.heap.size = gn at *
  have lg := Rg.lt
  have ld := Rd.lt
  have le := Re.lt
  have ly := Ry.lt
  have lm := Rm.lt
  have ln := Rn.lt
  (try clear g0 g1 g2 g3 g4 g5 g6); obtain ⟨g0, g1, g2, g3, g4, g5, g6⟩ := row7 Rg
  (try clear d0 d1 d2 d3 d4 d5 d6 d7 d8 d9 d10 d11); obtain ⟨d0, d1, d2, d3, d4, d5, d6, d7, d8, d9, d10, d11⟩ := row12 Rd
  (try clear e0 e1 e2 e3 e4 e5 e6 e7 e8 e9 e10 e11); obtain ⟨e0, e1, e2, e3, e4, e5, e6, e7, e8, e9, e10, e11⟩ := row12 Re
  (try clear y0 y1); obtain ⟨y0, y1⟩ := row2 Ry
  (try clear m0 m1 m2 m3 m4 m5 m6 m7 m8 m9 m10 m11); obtain ⟨m0, m1, m2, m3, m4, m5, m6, m7, m8, m9, m10, m11⟩ := row12 Rm
  (try clear n0 n1 n2 n3 n4 n5 n6 n7 n8 n9 n10 n11); obtain ⟨n0, n1, n2, n3, n4, n5, n6, n7, n8, n9, n10, n11⟩ := row12 Rn
  go_wp2_with fail
  refine (HA _).mono ?_
  rintro e w5 ⟨rfl, hb⟩
  replace Rg := Rg.later hb
  replace Rd := Rd.later hb
  replace Re := Re.later hb
  replace Ry := Ry.later hb
  replace Rm := Rm.later hb
  replace Rn := Rn.later hb
  replace hb0 := below_step hb0 hb
  clear hb
  have lg := Rg.lt
  have ld := Rd.lt
  have le := Re.lt
  have ly := Ry.lt
  have lm := Rm.lt
  have ln := Rn.lt
  (try clear g0 g1 g2 g3 g4 g5 g6); obtain ⟨g0, g1, g2, g3, g4, g5, g6⟩ := row7 Rg
  (try clear d0 d1 d2 d3 d4 d5 d6 d7 d8 d9 d10 d11); obtain ⟨d0, d1, d2, d3, d4, d5, d6, d7, d8, d9, d10, d11⟩ := row12 Rd
  (try clear e0 e1 e2 e3 e4 e5 e6 e7 e8 e9 e10 e11); obtain ⟨e0, e1, e2, e3, e4, e5, e6, e7, e8, e9, e10, e11⟩ := row12 Re
  (try clear y0 y1); obtain ⟨y0, y1⟩ := row2 Ry
  (try clear m0 m1 m2 m3 m4 m5 m6 m7 m8 m9 m10 m11); obtain ⟨m0, m1, m2, m3, m4, m5, m6, m7, m8, m9, m10, m11⟩ := row12 Rm
  (try clear n0 n1 n2 n3 n4 n5 n6 n7 n8 n9 n10 n11); obtain ⟨n0, n1, n2, n3, n4, n5, n6, n7, n8, n9, n10, n11⟩ := row12 Rn
  go_wp2
  go_ret
  exact ⟨rfl, hb0⟩
set_option maxRecDepth 100000 in
set_option maxHeartbeats 32000000 in
theorem one_01a (s : Sp) (p q u v t : Px) (i j hu2 hp2 : Int) (b : Bool)
    (H0 : ∀ w, Calls Try.prog 26 #[sv s, pv p, .agg #[.int .i64 i, .int .i64 j]] w fun e w' => e = .returned (pv pz) ∧ Below w.heap.size w w')
    (H1 : ∀ w, Calls Try.prog 28 #[sv s, pv q, pv p] w fun e w' => e = .returned (.bool false) ∧ Below w.heap.size w w')
    (H2 : ∀ w, Calls Try.prog 20 #[sv s, pv q] w fun e w' => e = .returned (.bool false) ∧ Below w.heap.size w w')
    (H3 : ∀ w, Calls Try.prog 20 #[sv s, pv p] w fun e w' => e = .returned (.bool true) ∧ Below w.heap.size w w')
    (H5 : ∀ w, Calls Try.prog 22 #[sv s] w fun e w' => e = .returned (pv t) ∧ Below w.heap.size w w')
    (g0 : i < p.a0) (w : World) :
    Calls Try.prog 7 #[sv s, pv p, pv q, .int .i64 i, .int .i64 j] w fun e w' => e = .returned (.bool true) ∧ Below w.heap.size w w' := by
  have HA := alive9_t
  have qe := eql_px pz pz
  rw [decide_eq_true rfl] at qe
  have g0' : decide (i < p.a0) = true := decide_eq_true g0
  unfold pz kz at *
  unfold sv pv at *
  obtain ⟨Rg, Rd, Re, hb0⟩ := three_rows w #[Value.int .i64 s.n, Value.int .i64 s.d0.kind, Value.int .i64 s.d0.side, Value.int .i64 s.d0.step, Value.int .i64 s.d1.kind, Value.int .i64 s.d1.side, Value.int .i64 s.d1.step] #[Value.int .i64 p.a0, Value.int .i64 p.a1, Value.int .i64 p.k0.kind, Value.int .i64 p.k0.len, Value.int .u64 p.k0.h, Value.int .u64 p.k0.l, Value.string ⟨p.k0.path.toArray⟩, Value.int .i64 p.k1.kind, Value.int .i64 p.k1.len, Value.int .u64 p.k1.h, Value.int .u64 p.k1.l, Value.string ⟨p.k1.path.toArray⟩] #[Value.int .i64 q.a0, Value.int .i64 q.a1, Value.int .i64 q.k0.kind, Value.int .i64 q.k0.len, Value.int .u64 q.k0.h, Value.int .u64 q.k0.l, Value.string ⟨q.k0.path.toArray⟩, Value.int .i64 q.k1.kind, Value.int .i64 q.k1.len, Value.int .u64 q.k1.h, Value.int .u64 q.k1.l, Value.string ⟨q.k1.path.toArray⟩] 26 33 33
  (try clear g0 g1 g2 g3 g4 g5 g6); obtain ⟨g0, g1, g2, g3, g4, g5, g6⟩ := row7 Rg
  (try clear d0 d1 d2 d3 d4 d5 d6 d7 d8 d9 d10 d11); obtain ⟨d0, d1, d2, d3, d4, d5, d6, d7, d8, d9, d10, d11⟩ := row12 Rd
  (try clear e0 e1 e2 e3 e4 e5 e6 e7 e8 e9 e10 e11); obtain ⟨e0, e1, e2, e3, e4, e5, e6, e7, e8, e9, e10, e11⟩ := row12 Re
  go_enter Try.func7, Try.ntmps7
  go_wp2_with fail
  refine (H0 _).mono ?_
  rintro e w1 ⟨rfl, hb⟩
  replace Rg := (Rg.alloc _).later hb
  replace Rd := (Rd.alloc _).later hb
  replace Re := (Re.alloc _).later hb
  have Ry := Row.later (Row.new _ _ _) hb
  simp only [World.size_alloc] at Ry
  replace hb0 := below_step (hb0.alloc hb0.size _) hb
  clear hb
  have lg := Rg.lt
  have ld := Rd.lt
  have le := Re.lt
  have ly := Ry.lt
  (try clear g0 g1 g2 g3 g4 g5 g6); obtain ⟨g0, g1, g2, g3, g4, g5, g6⟩ := row7 Rg
  (try clear d0 d1 d2 d3 d4 d5 d6 d7 d8 d9 d10 d11); obtain ⟨d0, d1, d2, d3, d4, d5, d6, d7, d8, d9, d10, d11⟩ := row12 Rd
  (try clear e0 e1 e2 e3 e4 e5 e6 e7 e8 e9 e10 e11); obtain ⟨e0, e1, e2, e3, e4, e5, e6, e7, e8, e9, e10, e11⟩ := row12 Re
  (try clear y0 y1); obtain ⟨y0, y1⟩ := row2 Ry
  go_wp2_with fail
  replace Rg := Rg.alloc (.cells #[Value.int .i64 0, Value.int .i64 0, Value.int .i64 0, Value.int .i64 0, Value.int .u64 0, Value.int .u64 0, Value.string ⟨#[]⟩, Value.int .i64 0, Value.int .i64 0, Value.int .u64 0, Value.int .u64 0, Value.string ⟨#[]⟩] 33)
  replace Rd := Rd.alloc (.cells #[Value.int .i64 0, Value.int .i64 0, Value.int .i64 0, Value.int .i64 0, Value.int .u64 0, Value.int .u64 0, Value.string ⟨#[]⟩, Value.int .i64 0, Value.int .i64 0, Value.int .u64 0, Value.int .u64 0, Value.string ⟨#[]⟩] 33)
  replace Re := Re.alloc (.cells #[Value.int .i64 0, Value.int .i64 0, Value.int .i64 0, Value.int .i64 0, Value.int .u64 0, Value.int .u64 0, Value.string ⟨#[]⟩, Value.int .i64 0, Value.int .i64 0, Value.int .u64 0, Value.int .u64 0, Value.string ⟨#[]⟩] 33)
  replace Ry := Ry.alloc (.cells #[Value.int .i64 0, Value.int .i64 0, Value.int .i64 0, Value.int .i64 0, Value.int .u64 0, Value.int .u64 0, Value.string ⟨#[]⟩, Value.int .i64 0, Value.int .i64 0, Value.int .u64 0, Value.int .u64 0, Value.string ⟨#[]⟩] 33)
  have Rm := Row.new w1 #[Value.int .i64 0, Value.int .i64 0, Value.int .i64 0, Value.int .i64 0, Value.int .u64 0, Value.int .u64 0, Value.string ⟨#[]⟩, Value.int .i64 0, Value.int .i64 0, Value.int .u64 0, Value.int .u64 0, Value.string ⟨#[]⟩] 33
  have mm := hb0.size
  replace hb0 := hb0.alloc hb0.size (.cells #[Value.int .i64 0, Value.int .i64 0, Value.int .i64 0, Value.int .i64 0, Value.int .u64 0, Value.int .u64 0, Value.string ⟨#[]⟩, Value.int .i64 0, Value.int .i64 0, Value.int .u64 0, Value.int .u64 0, Value.string ⟨#[]⟩] 33)
  (try clear g0 g1 g2 g3 g4 g5 g6); obtain ⟨g0, g1, g2, g3, g4, g5, g6⟩ := row7 Rg
  (try clear d0 d1 d2 d3 d4 d5 d6 d7 d8 d9 d10 d11); obtain ⟨d0, d1, d2, d3, d4, d5, d6, d7, d8, d9, d10, d11⟩ := row12 Rd
  (try clear e0 e1 e2 e3 e4 e5 e6 e7 e8 e9 e10 e11); obtain ⟨e0, e1, e2, e3, e4, e5, e6, e7, e8, e9, e10, e11⟩ := row12 Re
  (try clear y0 y1); obtain ⟨y0, y1⟩ := row2 Ry
  (try clear m0 m1 m2 m3 m4 m5 m6 m7 m8 m9 m10 m11); obtain ⟨m0, m1, m2, m3, m4, m5, m6, m7, m8, m9, m10, m11⟩ := row12 Rm
  refine wp_region_held_drew (S := (fun w' => w'.cell? ⟨w.heap.size + 1 + 1, 0, none⟩ = some (Value.int .i64 q.a0) ∧ w'.cell? ⟨w.heap.size + 1 + 1, 1, none⟩ = some (Value.int .i64 q.a1) ∧ Row w' w.heap.size #[Value.int .i64 s.n, Value.int .i64 s.d0.kind, Value.int .i64 s.d0.side, Value.int .i64 s.d0.step, Value.int .i64 s.d1.kind, Value.int .i64 s.d1.side, Value.int .i64 s.d1.step] 26 ∧ Row w' (w.heap.size + 1) #[Value.int .i64 p.a0, Value.int .i64 p.a1, Value.int .i64 p.k0.kind, Value.int .i64 p.k0.len, Value.int .u64 p.k0.h, Value.int .u64 p.k0.l, Value.string ⟨p.k0.path.toArray⟩, Value.int .i64 p.k1.kind, Value.int .i64 p.k1.len, Value.int .u64 p.k1.h, Value.int .u64 p.k1.l, Value.string ⟨p.k1.path.toArray⟩] 33 ∧ Row w' (w.heap.size + 1 + 1) #[Value.int .i64 q.a0, Value.int .i64 q.a1, Value.int .i64 q.k0.kind, Value.int .i64 q.k0.len, Value.int .u64 q.k0.h, Value.int .u64 q.k0.l, Value.string ⟨q.k0.path.toArray⟩, Value.int .i64 q.k1.kind, Value.int .i64 q.k1.len, Value.int .u64 q.k1.h, Value.int .u64 q.k1.l, Value.string ⟨q.k1.path.toArray⟩] 33)) (by kernel_rfl) ?hSr2_ (fun hHeld => ?_)
  case hSr2_ => (exact ⟨e0, e1, Rg.drew, Rd.drew, Re.drew⟩)
  (clear g0 g1 g2 g3 g4 g5 g6 d0 d1 d2 d3 d4 d5 d6 d7 d8 d9 d10 d11 e0 e1 e2 e3 e4 e5 e6 e7 e8 e9 e10 e11 y0 y1 m0 m1 m2 m3 m4 m5 m6 m7 m8 m9 m10 m11; (replace Rg := Rg.drew); (replace Rd := Rd.drew); (replace Re := Re.drew); (replace Ry := Ry.drew); (replace Rm := Rm.drew); (replace hb0 := hb0.drew); (generalize World.drew (World.alloc w1 (.cells #[Value.int .i64 0, Value.int .i64 0, Value.int .i64 0, Value.int .i64 0, Value.int .u64 0, Value.int .u64 0, Value.string ⟨#[]⟩, Value.int .i64 0, Value.int .i64 0, Value.int .u64 0, Value.int .u64 0, Value.string ⟨#[]⟩] 33)) = wq at *))
  refine tk 0 ⟨some 21, .load 26 (.tmp 5), 26, _, #[], none⟩ hHeld ?_ (v := ?vr2_1_0) (hy := ?yr2_1_0)
  case yr2_1_0 => (intro wy hSw; obtain ⟨e0, e1, Qg, Qd, Qe⟩ := hSw; (with_reducible refine pexec_load 26 (.tmp 5) ?_ w.heap.size ?_ 26 #[Value.int .i64 s.n, Value.int .i64 s.d0.kind, Value.int .i64 s.d0.side, Value.int .i64 s.d0.step, Value.int .i64 s.d1.kind, Value.int .i64 s.d1.side, Value.int .i64 s.d1.step] _ Qg Try.underlying26 ?_ ?_) <;> first | rfl | exact infoSp)
  (try simp only [Act.put, nz1, nz2, nz3])
  refine tk 1 ⟨some 22, .load 33 (.tmp 7), 33, _, #[], none⟩ hHeld ?_ (v := ?vr2_2_1) (hy := ?yr2_2_1)
  case yr2_2_1 => (intro wy hSw; obtain ⟨e0, e1, Qg, Qd, Qe⟩ := hSw; (with_reducible refine pexec_load 33 (.tmp 7) ?_ (w.heap.size + 1 + 1) ?_ 33 #[Value.int .i64 q.a0, Value.int .i64 q.a1, Value.int .i64 q.k0.kind, Value.int .i64 q.k0.len, Value.int .u64 q.k0.h, Value.int .u64 q.k0.l, Value.string ⟨q.k0.path.toArray⟩, Value.int .i64 q.k1.kind, Value.int .i64 q.k1.len, Value.int .u64 q.k1.h, Value.int .u64 q.k1.l, Value.string ⟨q.k1.path.toArray⟩] _ Qe Try.underlying33 ?_ ?_) <;> first | rfl | exact infoPx)
  (try simp only [Act.put, nz1, nz2, nz3])
  refine tk 2 ⟨some 23, .load 33 (.tmp 6), 33, _, #[], none⟩ hHeld ?_ (v := ?vr2_3_2) (hy := ?yr2_3_2)
  case yr2_3_2 => (intro wy hSw; obtain ⟨e0, e1, Qg, Qd, Qe⟩ := hSw; (with_reducible refine pexec_load 33 (.tmp 6) ?_ (w.heap.size + 1) ?_ 33 #[Value.int .i64 p.a0, Value.int .i64 p.a1, Value.int .i64 p.k0.kind, Value.int .i64 p.k0.len, Value.int .u64 p.k0.h, Value.int .u64 p.k0.l, Value.string ⟨p.k0.path.toArray⟩, Value.int .i64 p.k1.kind, Value.int .i64 p.k1.len, Value.int .u64 p.k1.h, Value.int .u64 p.k1.l, Value.string ⟨p.k1.path.toArray⟩] _ Qd Try.underlying33 ?_ ?_) <;> first | rfl | exact infoPx)
  (try simp only [Act.put, nz1, nz2, nz3])
  refine tk 4 ⟨some 25, .load 26 (.tmp 5), 26, _, #[], none⟩ hHeld ?_ (v := ?vr2_4_4) (hy := ?yr2_4_4)
  case yr2_4_4 => (intro wy hSw; obtain ⟨e0, e1, Qg, Qd, Qe⟩ := hSw; (with_reducible refine pexec_load 26 (.tmp 5) ?_ w.heap.size ?_ 26 #[Value.int .i64 s.n, Value.int .i64 s.d0.kind, Value.int .i64 s.d0.side, Value.int .i64 s.d0.step, Value.int .i64 s.d1.kind, Value.int .i64 s.d1.side, Value.int .i64 s.d1.step] _ Qg Try.underlying26 ?_ ?_) <;> first | rfl | exact infoSp)
  (try simp only [Act.put, nz1, nz2, nz3])
  refine tk 5 ⟨some 26, .load 33 (.tmp 7), 33, _, #[], none⟩ hHeld ?_ (v := ?vr2_5_5) (hy := ?yr2_5_5)
  case yr2_5_5 => (intro wy hSw; obtain ⟨e0, e1, Qg, Qd, Qe⟩ := hSw; (with_reducible refine pexec_load 33 (.tmp 7) ?_ (w.heap.size + 1 + 1) ?_ 33 #[Value.int .i64 q.a0, Value.int .i64 q.a1, Value.int .i64 q.k0.kind, Value.int .i64 q.k0.len, Value.int .u64 q.k0.h, Value.int .u64 q.k0.l, Value.string ⟨q.k0.path.toArray⟩, Value.int .i64 q.k1.kind, Value.int .i64 q.k1.len, Value.int .u64 q.k1.h, Value.int .u64 q.k1.l, Value.string ⟨q.k1.path.toArray⟩] _ Qe Try.underlying33 ?_ ?_) <;> first | rfl | exact infoPx)
  (try simp only [Act.put, nz1, nz2, nz3])
  refine wpAnyH_ready (rs := [3]) (by kernel_rfl) (by simp) ?_
  refine AllReadyH.cons (o := ⟨some 24, .call { callee := .value (.func 28), args := #[.tmp 21, .tmp 22, .tmp 23], argTypes := #[26, 33, 33] }, 4, _, #[⟨0, .data⟩, ⟨1, .data⟩, ⟨2, .data⟩], none⟩) rfl (fun K hK => ?_) AllReadyH.nil
  (go_simp; (refine (H1 _).mono ?_); (rintro e wz ⟨rfl, hb⟩); (replace Rg := Rg.later hb); (replace Rd := Rd.later hb); (replace Re := Re.later hb); (replace Ry := Ry.later hb); (replace Rm := Rm.later hb); (replace hb0 := below_step hb0 hb); go_wp2_with fail)
  refine hK.out _ _ ?hSr2_6_3 (fun hHeld2 => ?_)
  case hSr2_6_3 => (obtain ⟨e0, e1, Qg, Qd, Qe⟩ := hHeld; exact ⟨cell_later hb e0, cell_later hb e1, Qg.later hb, Qd.later hb, Qe.later hb⟩)
  clear hK K hHeld
  have hHeld := hHeld2
  clear hHeld2
  rename World => wq
  (try simp only [Act.put, nz1, nz2, nz3])
  refine wpAnyH_ready (rs := [6]) (by kernel_rfl) (by simp) ?_
  refine AllReadyH.cons (o := ⟨some 27, .call { callee := .value (.func 20), args := #[.tmp 25, .tmp 26], argTypes := #[26, 33] }, 4, _, #[⟨4, .data⟩, ⟨5, .data⟩, ⟨3, .chain⟩], none⟩) rfl (fun K hK => ?_) AllReadyH.nil
  (go_simp; (refine (H2 _).mono ?_); (rintro e wz ⟨rfl, hb⟩); (replace Rg := Rg.later hb); (replace Rd := Rd.later hb); (replace Re := Re.later hb); (replace Ry := Ry.later hb); (replace Rm := Rm.later hb); (replace hb0 := below_step hb0 hb); go_wp2_with fail)
  refine hK.out _ _ ?hSr2_7_6 (fun hHeld2 => ?_)
  case hSr2_7_6 => (obtain ⟨e0, e1, Qg, Qd, Qe⟩ := hHeld; exact ⟨cell_later hb e0, cell_later hb e1, Qg.later hb, Qd.later hb, Qe.later hb⟩)
  clear hK K hHeld
  have hHeld := hHeld2
  clear hHeld2
  rename World => wq
  (try simp only [Act.put, nz1, nz2, nz3])
  refine tk 7 ⟨some 28, .move (.tmp 27), 4, _, #[⟨6, .data⟩, ⟨6, .chain⟩], none⟩ hHeld ?_
  (try simp only [Act.put, nz1, nz2, nz3])
  refine ts 8 ⟨some 29, .load 26 (.tmp 5), 26, _, #[⟨7, .guard⟩], some (7, true)⟩ hHeld ?_
  (try simp only [Act.put, nz1, nz2, nz3])
  refine ts 9 ⟨some 30, .load 33 (.tmp 6), 33, _, #[⟨7, .guard⟩], some (7, true)⟩ hHeld ?_
  (try simp only [Act.put, nz1, nz2, nz3])
  refine ts 10 ⟨some 31, .call { callee := .value (.func 20), args := #[.tmp 29, .tmp 30], argTypes := #[26, 33] }, 4, _, #[⟨8, .data⟩, ⟨9, .data⟩, ⟨7, .chain⟩, ⟨7, .guard⟩], some (7, true)⟩ hHeld ?_
  (try simp only [Act.put, nz1, nz2, nz3])
  refine tk 11 ⟨some 32, .pick (.tmp 28) (.tmp 31) (.const (.bool false)), 4, _, #[⟨7, .data⟩, ⟨10, .data⟩], none⟩ hHeld ?_
  (try simp only [Act.put, nz1, nz2, nz3])
  refine tk 12 ⟨some 33, .move (.tmp 32), 4, _, #[⟨11, .data⟩, ⟨10, .chain⟩], none⟩ hHeld ?_
  (try simp only [Act.put, nz1, nz2, nz3])
  refine ts 13 ⟨some 34, .load 26 (.tmp 5), 26, _, #[⟨12, .guard⟩], some (12, true)⟩ hHeld ?_
  (try simp only [Act.put, nz1, nz2, nz3])
  refine ts 14 ⟨some 35, .load 33 (.tmp 6), 33, _, #[⟨12, .guard⟩], some (12, true)⟩ hHeld ?_
  (try simp only [Act.put, nz1, nz2, nz3])
  refine ts 15 ⟨some 36, .fieldAddr 33 (.tmp 7) 0, 0, _, #[⟨12, .guard⟩], some (12, true)⟩ hHeld ?_
  (try simp only [Act.put, nz1, nz2, nz3])
  refine ts 16 ⟨some 37, .load 27 (.tmp 36), 27, _, #[⟨15, .data⟩, ⟨12, .guard⟩], some (12, true)⟩ hHeld ?_
  (try simp only [Act.put, nz1, nz2, nz3])
  refine ts 17 ⟨some 38, .call { callee := .value (.func 26), args := #[.tmp 34, .tmp 35, .tmp 37], argTypes := #[26, 33, 27] }, 33, _, #[⟨13, .data⟩, ⟨14, .data⟩, ⟨16, .data⟩, ⟨12, .chain⟩, ⟨12, .guard⟩], some (12, true)⟩ hHeld ?_
  (try simp only [Act.put, nz1, nz2, nz3])
  refine ts 18 ⟨some 39, .load 33 (.tmp 7), 33, _, #[⟨12, .guard⟩], some (12, true)⟩ hHeld ?_
  (try simp only [Act.put, nz1, nz2, nz3])
  refine ts 19 ⟨some 40, .binOp .eql 33 (.tmp 38) (.tmp 39) 33, 4, _, #[⟨17, .data⟩, ⟨18, .data⟩, ⟨12, .guard⟩], some (12, true)⟩ hHeld ?_
  (try simp only [Act.put, nz1, nz2, nz3])
  refine tk 20 ⟨some 41, .pick (.tmp 33) (.tmp 40) (.const (.bool false)), 4, _, #[⟨12, .data⟩, ⟨19, .data⟩], none⟩ hHeld ?_
  (try simp only [Act.put, nz1, nz2, nz3])
  refine tk 21 ⟨some 42, .binOp .neq 4 (.tmp 24) (.tmp 41) 4, 4, _, #[⟨3, .data⟩, ⟨20, .data⟩], none⟩ hHeld ?_
  (try simp only [Act.put, nz1, nz2, nz3])
  refine wpAnyH_done (by kernel_rfl) ?_ _
  clear hHeld
  rename World => w2
  have lg := Rg.lt
  have ld := Rd.lt
  have le := Re.lt
  have ly := Ry.lt
  have lm := Rm.lt
  (try clear g0 g1 g2 g3 g4 g5 g6); obtain ⟨g0, g1, g2, g3, g4, g5, g6⟩ := row7 Rg
  (try clear d0 d1 d2 d3 d4 d5 d6 d7 d8 d9 d10 d11); obtain ⟨d0, d1, d2, d3, d4, d5, d6, d7, d8, d9, d10, d11⟩ := row12 Rd
  (try clear e0 e1 e2 e3 e4 e5 e6 e7 e8 e9 e10 e11); obtain ⟨e0, e1, e2, e3, e4, e5, e6, e7, e8, e9, e10, e11⟩ := row12 Re
  (try clear y0 y1); obtain ⟨y0, y1⟩ := row2 Ry
  (try clear m0 m1 m2 m3 m4 m5 m6 m7 m8 m9 m10 m11); obtain ⟨m0, m1, m2, m3, m4, m5, m6, m7, m8, m9, m10, m11⟩ := row12 Rm
  go_wp2_with fail
  refine (H5 _).mono ?_
  rintro e w3 ⟨rfl, hb⟩
  replace Rg := Rg.later hb
  replace Rd := Rd.later hb
  replace Re := Re.later hb
  replace Ry := Ry.later hb
  replace Rm := Rm.later hb
  replace hb0 := below_step hb0 hb
  clear hb
  have lg := Rg.lt
  have ld := Rd.lt
  have le := Re.lt
  have ly := Ry.lt
  have lm := Rm.lt
  (try clear g0 g1 g2 g3 g4 g5 g6); obtain ⟨g0, g1, g2, g3, g4, g5, g6⟩ := row7 Rg
  (try clear d0 d1 d2 d3 d4 d5 d6 d7 d8 d9 d10 d11); obtain ⟨d0, d1, d2, d3, d4, d5, d6, d7, d8, d9, d10, d11⟩ := row12 Rd
  (try clear e0 e1 e2 e3 e4 e5 e6 e7 e8 e9 e10 e11); obtain ⟨e0, e1, e2, e3, e4, e5, e6, e7, e8, e9, e10, e11⟩ := row12 Re
  (try clear y0 y1); obtain ⟨y0, y1⟩ := row2 Ry
  (try clear m0 m1 m2 m3 m4 m5 m6 m7 m8 m9 m10 m11); obtain ⟨m0, m1, m2, m3, m4, m5, m6, m7, m8, m9, m10, m11⟩ := row12 Rm
  go_wp2_with fail
  refine (H3 _).mono ?_
  rintro e w4 ⟨rfl, hb⟩
  have nng := Rg.lt
  have nnd := Rd.lt
  have nne := Re.lt
  have nny := Ry.lt
  have nnm := Rm.lt
  replace Rg := (Rg.alloc _).later hb
  replace Rd := (Rd.alloc _).later hb
  replace Re := (Re.alloc _).later hb
  replace Ry := (Ry.alloc _).later hb
  replace Rm := (Rm.alloc _).later hb
  have Rn := Row.later (Row.new _ _ _) hb
  have mn := hb0.size
  replace hb0 := below_step (hb0.alloc hb0.size _) hb
  clear hb
  generalize w3.heap.size = gn at *
  have lg := Rg.lt
  have ld := Rd.lt
  have le := Re.lt
  have ly := Ry.lt
  have lm := Rm.lt
  have ln := Rn.lt
  (try clear g0 g1 g2 g3 g4 g5 g6); obtain ⟨g0, g1, g2, g3, g4, g5, g6⟩ := row7 Rg
  (try clear d0 d1 d2 d3 d4 d5 d6 d7 d8 d9 d10 d11); obtain ⟨d0, d1, d2, d3, d4, d5, d6, d7, d8, d9, d10, d11⟩ := row12 Rd
  (try clear e0 e1 e2 e3 e4 e5 e6 e7 e8 e9 e10 e11); obtain ⟨e0, e1, e2, e3, e4, e5, e6, e7, e8, e9, e10, e11⟩ := row12 Re
  (try clear y0 y1); obtain ⟨y0, y1⟩ := row2 Ry
  (try clear m0 m1 m2 m3 m4 m5 m6 m7 m8 m9 m10 m11); obtain ⟨m0, m1, m2, m3, m4, m5, m6, m7, m8, m9, m10, m11⟩ := row12 Rm
  (try clear n0 n1 n2 n3 n4 n5 n6 n7 n8 n9 n10 n11); obtain ⟨n0, n1, n2, n3, n4, n5, n6, n7, n8, n9, n10, n11⟩ := row12 Rn
  go_wp2_with fail
  refine (HA _).mono ?_
  rintro e w5 ⟨rfl, hb⟩
  replace Rg := Rg.later hb
  replace Rd := Rd.later hb
  replace Re := Re.later hb
  replace Ry := Ry.later hb
  replace Rm := Rm.later hb
  replace Rn := Rn.later hb
  replace hb0 := below_step hb0 hb
  clear hb
  have lg := Rg.lt
  have ld := Rd.lt
  have le := Re.lt
  have ly := Ry.lt
  have lm := Rm.lt
  have ln := Rn.lt
  (try clear g0 g1 g2 g3 g4 g5 g6); obtain ⟨g0, g1, g2, g3, g4, g5, g6⟩ := row7 Rg
  (try clear d0 d1 d2 d3 d4 d5 d6 d7 d8 d9 d10 d11); obtain ⟨d0, d1, d2, d3, d4, d5, d6, d7, d8, d9, d10, d11⟩ := row12 Rd
  (try clear e0 e1 e2 e3 e4 e5 e6 e7 e8 e9 e10 e11); obtain ⟨e0, e1, e2, e3, e4, e5, e6, e7, e8, e9, e10, e11⟩ := row12 Re
  (try clear y0 y1); obtain ⟨y0, y1⟩ := row2 Ry
  (try clear m0 m1 m2 m3 m4 m5 m6 m7 m8 m9 m10 m11); obtain ⟨m0, m1, m2, m3, m4, m5, m6, m7, m8, m9, m10, m11⟩ := row12 Rm
  (try clear n0 n1 n2 n3 n4 n5 n6 n7 n8 n9 n10 n11); obtain ⟨n0, n1, n2, n3, n4, n5, n6, n7, n8, n9, n10, n11⟩ := row12 Rn
  go_wp2
  go_ret
  exact ⟨rfl, hb0⟩
set_option maxRecDepth 100000 in
set_option maxHeartbeats 32000000 in
theorem one_01b (s : Sp) (p q u v t : Px) (i j hu2 hp2 : Int) (b : Bool)
    (H0 : ∀ w, Calls Try.prog 26 #[sv s, pv p, .agg #[.int .i64 i, .int .i64 j]] w fun e w' => e = .returned (pv pz) ∧ Below w.heap.size w w')
    (H1 : ∀ w, Calls Try.prog 28 #[sv s, pv q, pv p] w fun e w' => e = .returned (.bool false) ∧ Below w.heap.size w w')
    (H2 : ∀ w, Calls Try.prog 20 #[sv s, pv q] w fun e w' => e = .returned (.bool false) ∧ Below w.heap.size w w')
    (H3 : ∀ w, Calls Try.prog 20 #[sv s, pv p] w fun e w' => e = .returned (.bool true) ∧ Below w.heap.size w w')
    (H5 : ∀ w, Calls Try.prog 22 #[sv s] w fun e w' => e = .returned (pv t) ∧ Below w.heap.size w w')
    (g0 : ¬ i < p.a0) (g1 : j < p.a1) (w : World) :
    Calls Try.prog 7 #[sv s, pv p, pv q, .int .i64 i, .int .i64 j] w fun e w' => e = .returned (.bool true) ∧ Below w.heap.size w w' := by
  have HA := alive9_t
  have qe := eql_px pz pz
  rw [decide_eq_true rfl] at qe
  have g0' : decide (i < p.a0) = false := decide_eq_false g0
  have g1' : decide (j < p.a1) = true := decide_eq_true g1
  unfold pz kz at *
  unfold sv pv at *
  obtain ⟨Rg, Rd, Re, hb0⟩ := three_rows w #[Value.int .i64 s.n, Value.int .i64 s.d0.kind, Value.int .i64 s.d0.side, Value.int .i64 s.d0.step, Value.int .i64 s.d1.kind, Value.int .i64 s.d1.side, Value.int .i64 s.d1.step] #[Value.int .i64 p.a0, Value.int .i64 p.a1, Value.int .i64 p.k0.kind, Value.int .i64 p.k0.len, Value.int .u64 p.k0.h, Value.int .u64 p.k0.l, Value.string ⟨p.k0.path.toArray⟩, Value.int .i64 p.k1.kind, Value.int .i64 p.k1.len, Value.int .u64 p.k1.h, Value.int .u64 p.k1.l, Value.string ⟨p.k1.path.toArray⟩] #[Value.int .i64 q.a0, Value.int .i64 q.a1, Value.int .i64 q.k0.kind, Value.int .i64 q.k0.len, Value.int .u64 q.k0.h, Value.int .u64 q.k0.l, Value.string ⟨q.k0.path.toArray⟩, Value.int .i64 q.k1.kind, Value.int .i64 q.k1.len, Value.int .u64 q.k1.h, Value.int .u64 q.k1.l, Value.string ⟨q.k1.path.toArray⟩] 26 33 33
  (try clear g0 g1 g2 g3 g4 g5 g6); obtain ⟨g0, g1, g2, g3, g4, g5, g6⟩ := row7 Rg
  (try clear d0 d1 d2 d3 d4 d5 d6 d7 d8 d9 d10 d11); obtain ⟨d0, d1, d2, d3, d4, d5, d6, d7, d8, d9, d10, d11⟩ := row12 Rd
  (try clear e0 e1 e2 e3 e4 e5 e6 e7 e8 e9 e10 e11); obtain ⟨e0, e1, e2, e3, e4, e5, e6, e7, e8, e9, e10, e11⟩ := row12 Re
  go_enter Try.func7, Try.ntmps7
  go_wp2_with fail
  refine (H0 _).mono ?_
  rintro e w1 ⟨rfl, hb⟩
  replace Rg := (Rg.alloc _).later hb
  replace Rd := (Rd.alloc _).later hb
  replace Re := (Re.alloc _).later hb
  have Ry := Row.later (Row.new _ _ _) hb
  simp only [World.size_alloc] at Ry
  replace hb0 := below_step (hb0.alloc hb0.size _) hb
  clear hb
  have lg := Rg.lt
  have ld := Rd.lt
  have le := Re.lt
  have ly := Ry.lt
  (try clear g0 g1 g2 g3 g4 g5 g6); obtain ⟨g0, g1, g2, g3, g4, g5, g6⟩ := row7 Rg
  (try clear d0 d1 d2 d3 d4 d5 d6 d7 d8 d9 d10 d11); obtain ⟨d0, d1, d2, d3, d4, d5, d6, d7, d8, d9, d10, d11⟩ := row12 Rd
  (try clear e0 e1 e2 e3 e4 e5 e6 e7 e8 e9 e10 e11); obtain ⟨e0, e1, e2, e3, e4, e5, e6, e7, e8, e9, e10, e11⟩ := row12 Re
  (try clear y0 y1); obtain ⟨y0, y1⟩ := row2 Ry
  go_wp2_with fail
  replace Rg := Rg.alloc (.cells #[Value.int .i64 0, Value.int .i64 0, Value.int .i64 0, Value.int .i64 0, Value.int .u64 0, Value.int .u64 0, Value.string ⟨#[]⟩, Value.int .i64 0, Value.int .i64 0, Value.int .u64 0, Value.int .u64 0, Value.string ⟨#[]⟩] 33)
  replace Rd := Rd.alloc (.cells #[Value.int .i64 0, Value.int .i64 0, Value.int .i64 0, Value.int .i64 0, Value.int .u64 0, Value.int .u64 0, Value.string ⟨#[]⟩, Value.int .i64 0, Value.int .i64 0, Value.int .u64 0, Value.int .u64 0, Value.string ⟨#[]⟩] 33)
  replace Re := Re.alloc (.cells #[Value.int .i64 0, Value.int .i64 0, Value.int .i64 0, Value.int .i64 0, Value.int .u64 0, Value.int .u64 0, Value.string ⟨#[]⟩, Value.int .i64 0, Value.int .i64 0, Value.int .u64 0, Value.int .u64 0, Value.string ⟨#[]⟩] 33)
  replace Ry := Ry.alloc (.cells #[Value.int .i64 0, Value.int .i64 0, Value.int .i64 0, Value.int .i64 0, Value.int .u64 0, Value.int .u64 0, Value.string ⟨#[]⟩, Value.int .i64 0, Value.int .i64 0, Value.int .u64 0, Value.int .u64 0, Value.string ⟨#[]⟩] 33)
  have Rm := Row.new w1 #[Value.int .i64 0, Value.int .i64 0, Value.int .i64 0, Value.int .i64 0, Value.int .u64 0, Value.int .u64 0, Value.string ⟨#[]⟩, Value.int .i64 0, Value.int .i64 0, Value.int .u64 0, Value.int .u64 0, Value.string ⟨#[]⟩] 33
  have mm := hb0.size
  replace hb0 := hb0.alloc hb0.size (.cells #[Value.int .i64 0, Value.int .i64 0, Value.int .i64 0, Value.int .i64 0, Value.int .u64 0, Value.int .u64 0, Value.string ⟨#[]⟩, Value.int .i64 0, Value.int .i64 0, Value.int .u64 0, Value.int .u64 0, Value.string ⟨#[]⟩] 33)
  (try clear g0 g1 g2 g3 g4 g5 g6); obtain ⟨g0, g1, g2, g3, g4, g5, g6⟩ := row7 Rg
  (try clear d0 d1 d2 d3 d4 d5 d6 d7 d8 d9 d10 d11); obtain ⟨d0, d1, d2, d3, d4, d5, d6, d7, d8, d9, d10, d11⟩ := row12 Rd
  (try clear e0 e1 e2 e3 e4 e5 e6 e7 e8 e9 e10 e11); obtain ⟨e0, e1, e2, e3, e4, e5, e6, e7, e8, e9, e10, e11⟩ := row12 Re
  (try clear y0 y1); obtain ⟨y0, y1⟩ := row2 Ry
  (try clear m0 m1 m2 m3 m4 m5 m6 m7 m8 m9 m10 m11); obtain ⟨m0, m1, m2, m3, m4, m5, m6, m7, m8, m9, m10, m11⟩ := row12 Rm
  refine wp_region_held_drew (S := (fun w' => w'.cell? ⟨w.heap.size + 1 + 1, 0, none⟩ = some (Value.int .i64 q.a0) ∧ w'.cell? ⟨w.heap.size + 1 + 1, 1, none⟩ = some (Value.int .i64 q.a1) ∧ Row w' w.heap.size #[Value.int .i64 s.n, Value.int .i64 s.d0.kind, Value.int .i64 s.d0.side, Value.int .i64 s.d0.step, Value.int .i64 s.d1.kind, Value.int .i64 s.d1.side, Value.int .i64 s.d1.step] 26 ∧ Row w' (w.heap.size + 1) #[Value.int .i64 p.a0, Value.int .i64 p.a1, Value.int .i64 p.k0.kind, Value.int .i64 p.k0.len, Value.int .u64 p.k0.h, Value.int .u64 p.k0.l, Value.string ⟨p.k0.path.toArray⟩, Value.int .i64 p.k1.kind, Value.int .i64 p.k1.len, Value.int .u64 p.k1.h, Value.int .u64 p.k1.l, Value.string ⟨p.k1.path.toArray⟩] 33 ∧ Row w' (w.heap.size + 1 + 1) #[Value.int .i64 q.a0, Value.int .i64 q.a1, Value.int .i64 q.k0.kind, Value.int .i64 q.k0.len, Value.int .u64 q.k0.h, Value.int .u64 q.k0.l, Value.string ⟨q.k0.path.toArray⟩, Value.int .i64 q.k1.kind, Value.int .i64 q.k1.len, Value.int .u64 q.k1.h, Value.int .u64 q.k1.l, Value.string ⟨q.k1.path.toArray⟩] 33)) (by kernel_rfl) ?hSr3_ (fun hHeld => ?_)
  case hSr3_ => (exact ⟨e0, e1, Rg.drew, Rd.drew, Re.drew⟩)
  (clear g0 g1 g2 g3 g4 g5 g6 d0 d1 d2 d3 d4 d5 d6 d7 d8 d9 d10 d11 e0 e1 e2 e3 e4 e5 e6 e7 e8 e9 e10 e11 y0 y1 m0 m1 m2 m3 m4 m5 m6 m7 m8 m9 m10 m11; (replace Rg := Rg.drew); (replace Rd := Rd.drew); (replace Re := Re.drew); (replace Ry := Ry.drew); (replace Rm := Rm.drew); (replace hb0 := hb0.drew); (generalize World.drew (World.alloc w1 (.cells #[Value.int .i64 0, Value.int .i64 0, Value.int .i64 0, Value.int .i64 0, Value.int .u64 0, Value.int .u64 0, Value.string ⟨#[]⟩, Value.int .i64 0, Value.int .i64 0, Value.int .u64 0, Value.int .u64 0, Value.string ⟨#[]⟩] 33)) = wq at *))
  refine tk 0 ⟨some 21, .load 26 (.tmp 5), 26, _, #[], none⟩ hHeld ?_ (v := ?vr3_1_0) (hy := ?yr3_1_0)
  case yr3_1_0 => (intro wy hSw; obtain ⟨e0, e1, Qg, Qd, Qe⟩ := hSw; (with_reducible refine pexec_load 26 (.tmp 5) ?_ w.heap.size ?_ 26 #[Value.int .i64 s.n, Value.int .i64 s.d0.kind, Value.int .i64 s.d0.side, Value.int .i64 s.d0.step, Value.int .i64 s.d1.kind, Value.int .i64 s.d1.side, Value.int .i64 s.d1.step] _ Qg Try.underlying26 ?_ ?_) <;> first | rfl | exact infoSp)
  (try simp only [Act.put, nz1, nz2, nz3])
  refine tk 1 ⟨some 22, .load 33 (.tmp 7), 33, _, #[], none⟩ hHeld ?_ (v := ?vr3_2_1) (hy := ?yr3_2_1)
  case yr3_2_1 => (intro wy hSw; obtain ⟨e0, e1, Qg, Qd, Qe⟩ := hSw; (with_reducible refine pexec_load 33 (.tmp 7) ?_ (w.heap.size + 1 + 1) ?_ 33 #[Value.int .i64 q.a0, Value.int .i64 q.a1, Value.int .i64 q.k0.kind, Value.int .i64 q.k0.len, Value.int .u64 q.k0.h, Value.int .u64 q.k0.l, Value.string ⟨q.k0.path.toArray⟩, Value.int .i64 q.k1.kind, Value.int .i64 q.k1.len, Value.int .u64 q.k1.h, Value.int .u64 q.k1.l, Value.string ⟨q.k1.path.toArray⟩] _ Qe Try.underlying33 ?_ ?_) <;> first | rfl | exact infoPx)
  (try simp only [Act.put, nz1, nz2, nz3])
  refine tk 2 ⟨some 23, .load 33 (.tmp 6), 33, _, #[], none⟩ hHeld ?_ (v := ?vr3_3_2) (hy := ?yr3_3_2)
  case yr3_3_2 => (intro wy hSw; obtain ⟨e0, e1, Qg, Qd, Qe⟩ := hSw; (with_reducible refine pexec_load 33 (.tmp 6) ?_ (w.heap.size + 1) ?_ 33 #[Value.int .i64 p.a0, Value.int .i64 p.a1, Value.int .i64 p.k0.kind, Value.int .i64 p.k0.len, Value.int .u64 p.k0.h, Value.int .u64 p.k0.l, Value.string ⟨p.k0.path.toArray⟩, Value.int .i64 p.k1.kind, Value.int .i64 p.k1.len, Value.int .u64 p.k1.h, Value.int .u64 p.k1.l, Value.string ⟨p.k1.path.toArray⟩] _ Qd Try.underlying33 ?_ ?_) <;> first | rfl | exact infoPx)
  (try simp only [Act.put, nz1, nz2, nz3])
  refine tk 4 ⟨some 25, .load 26 (.tmp 5), 26, _, #[], none⟩ hHeld ?_ (v := ?vr3_4_4) (hy := ?yr3_4_4)
  case yr3_4_4 => (intro wy hSw; obtain ⟨e0, e1, Qg, Qd, Qe⟩ := hSw; (with_reducible refine pexec_load 26 (.tmp 5) ?_ w.heap.size ?_ 26 #[Value.int .i64 s.n, Value.int .i64 s.d0.kind, Value.int .i64 s.d0.side, Value.int .i64 s.d0.step, Value.int .i64 s.d1.kind, Value.int .i64 s.d1.side, Value.int .i64 s.d1.step] _ Qg Try.underlying26 ?_ ?_) <;> first | rfl | exact infoSp)
  (try simp only [Act.put, nz1, nz2, nz3])
  refine tk 5 ⟨some 26, .load 33 (.tmp 7), 33, _, #[], none⟩ hHeld ?_ (v := ?vr3_5_5) (hy := ?yr3_5_5)
  case yr3_5_5 => (intro wy hSw; obtain ⟨e0, e1, Qg, Qd, Qe⟩ := hSw; (with_reducible refine pexec_load 33 (.tmp 7) ?_ (w.heap.size + 1 + 1) ?_ 33 #[Value.int .i64 q.a0, Value.int .i64 q.a1, Value.int .i64 q.k0.kind, Value.int .i64 q.k0.len, Value.int .u64 q.k0.h, Value.int .u64 q.k0.l, Value.string ⟨q.k0.path.toArray⟩, Value.int .i64 q.k1.kind, Value.int .i64 q.k1.len, Value.int .u64 q.k1.h, Value.int .u64 q.k1.l, Value.string ⟨q.k1.path.toArray⟩] _ Qe Try.underlying33 ?_ ?_) <;> first | rfl | exact infoPx)
  (try simp only [Act.put, nz1, nz2, nz3])
  refine wpAnyH_ready (rs := [3]) (by kernel_rfl) (by simp) ?_
  refine AllReadyH.cons (o := ⟨some 24, .call { callee := .value (.func 28), args := #[.tmp 21, .tmp 22, .tmp 23], argTypes := #[26, 33, 33] }, 4, _, #[⟨0, .data⟩, ⟨1, .data⟩, ⟨2, .data⟩], none⟩) rfl (fun K hK => ?_) AllReadyH.nil
  (go_simp; (refine (H1 _).mono ?_); (rintro e wz ⟨rfl, hb⟩); (replace Rg := Rg.later hb); (replace Rd := Rd.later hb); (replace Re := Re.later hb); (replace Ry := Ry.later hb); (replace Rm := Rm.later hb); (replace hb0 := below_step hb0 hb); go_wp2_with fail)
  refine hK.out _ _ ?hSr3_6_3 (fun hHeld2 => ?_)
  case hSr3_6_3 => (obtain ⟨e0, e1, Qg, Qd, Qe⟩ := hHeld; exact ⟨cell_later hb e0, cell_later hb e1, Qg.later hb, Qd.later hb, Qe.later hb⟩)
  clear hK K hHeld
  have hHeld := hHeld2
  clear hHeld2
  rename World => wq
  (try simp only [Act.put, nz1, nz2, nz3])
  refine wpAnyH_ready (rs := [6]) (by kernel_rfl) (by simp) ?_
  refine AllReadyH.cons (o := ⟨some 27, .call { callee := .value (.func 20), args := #[.tmp 25, .tmp 26], argTypes := #[26, 33] }, 4, _, #[⟨4, .data⟩, ⟨5, .data⟩, ⟨3, .chain⟩], none⟩) rfl (fun K hK => ?_) AllReadyH.nil
  (go_simp; (refine (H2 _).mono ?_); (rintro e wz ⟨rfl, hb⟩); (replace Rg := Rg.later hb); (replace Rd := Rd.later hb); (replace Re := Re.later hb); (replace Ry := Ry.later hb); (replace Rm := Rm.later hb); (replace hb0 := below_step hb0 hb); go_wp2_with fail)
  refine hK.out _ _ ?hSr3_7_6 (fun hHeld2 => ?_)
  case hSr3_7_6 => (obtain ⟨e0, e1, Qg, Qd, Qe⟩ := hHeld; exact ⟨cell_later hb e0, cell_later hb e1, Qg.later hb, Qd.later hb, Qe.later hb⟩)
  clear hK K hHeld
  have hHeld := hHeld2
  clear hHeld2
  rename World => wq
  (try simp only [Act.put, nz1, nz2, nz3])
  refine tk 7 ⟨some 28, .move (.tmp 27), 4, _, #[⟨6, .data⟩, ⟨6, .chain⟩], none⟩ hHeld ?_
  (try simp only [Act.put, nz1, nz2, nz3])
  refine ts 8 ⟨some 29, .load 26 (.tmp 5), 26, _, #[⟨7, .guard⟩], some (7, true)⟩ hHeld ?_
  (try simp only [Act.put, nz1, nz2, nz3])
  refine ts 9 ⟨some 30, .load 33 (.tmp 6), 33, _, #[⟨7, .guard⟩], some (7, true)⟩ hHeld ?_
  (try simp only [Act.put, nz1, nz2, nz3])
  refine ts 10 ⟨some 31, .call { callee := .value (.func 20), args := #[.tmp 29, .tmp 30], argTypes := #[26, 33] }, 4, _, #[⟨8, .data⟩, ⟨9, .data⟩, ⟨7, .chain⟩, ⟨7, .guard⟩], some (7, true)⟩ hHeld ?_
  (try simp only [Act.put, nz1, nz2, nz3])
  refine tk 11 ⟨some 32, .pick (.tmp 28) (.tmp 31) (.const (.bool false)), 4, _, #[⟨7, .data⟩, ⟨10, .data⟩], none⟩ hHeld ?_
  (try simp only [Act.put, nz1, nz2, nz3])
  refine tk 12 ⟨some 33, .move (.tmp 32), 4, _, #[⟨11, .data⟩, ⟨10, .chain⟩], none⟩ hHeld ?_
  (try simp only [Act.put, nz1, nz2, nz3])
  refine ts 13 ⟨some 34, .load 26 (.tmp 5), 26, _, #[⟨12, .guard⟩], some (12, true)⟩ hHeld ?_
  (try simp only [Act.put, nz1, nz2, nz3])
  refine ts 14 ⟨some 35, .load 33 (.tmp 6), 33, _, #[⟨12, .guard⟩], some (12, true)⟩ hHeld ?_
  (try simp only [Act.put, nz1, nz2, nz3])
  refine ts 15 ⟨some 36, .fieldAddr 33 (.tmp 7) 0, 0, _, #[⟨12, .guard⟩], some (12, true)⟩ hHeld ?_
  (try simp only [Act.put, nz1, nz2, nz3])
  refine ts 16 ⟨some 37, .load 27 (.tmp 36), 27, _, #[⟨15, .data⟩, ⟨12, .guard⟩], some (12, true)⟩ hHeld ?_
  (try simp only [Act.put, nz1, nz2, nz3])
  refine ts 17 ⟨some 38, .call { callee := .value (.func 26), args := #[.tmp 34, .tmp 35, .tmp 37], argTypes := #[26, 33, 27] }, 33, _, #[⟨13, .data⟩, ⟨14, .data⟩, ⟨16, .data⟩, ⟨12, .chain⟩, ⟨12, .guard⟩], some (12, true)⟩ hHeld ?_
  (try simp only [Act.put, nz1, nz2, nz3])
  refine ts 18 ⟨some 39, .load 33 (.tmp 7), 33, _, #[⟨12, .guard⟩], some (12, true)⟩ hHeld ?_
  (try simp only [Act.put, nz1, nz2, nz3])
  refine ts 19 ⟨some 40, .binOp .eql 33 (.tmp 38) (.tmp 39) 33, 4, _, #[⟨17, .data⟩, ⟨18, .data⟩, ⟨12, .guard⟩], some (12, true)⟩ hHeld ?_
  (try simp only [Act.put, nz1, nz2, nz3])
  refine tk 20 ⟨some 41, .pick (.tmp 33) (.tmp 40) (.const (.bool false)), 4, _, #[⟨12, .data⟩, ⟨19, .data⟩], none⟩ hHeld ?_
  (try simp only [Act.put, nz1, nz2, nz3])
  refine tk 21 ⟨some 42, .binOp .neq 4 (.tmp 24) (.tmp 41) 4, 4, _, #[⟨3, .data⟩, ⟨20, .data⟩], none⟩ hHeld ?_
  (try simp only [Act.put, nz1, nz2, nz3])
  refine wpAnyH_done (by kernel_rfl) ?_ _
  clear hHeld
  rename World => w2
  have lg := Rg.lt
  have ld := Rd.lt
  have le := Re.lt
  have ly := Ry.lt
  have lm := Rm.lt
  (try clear g0 g1 g2 g3 g4 g5 g6); obtain ⟨g0, g1, g2, g3, g4, g5, g6⟩ := row7 Rg
  (try clear d0 d1 d2 d3 d4 d5 d6 d7 d8 d9 d10 d11); obtain ⟨d0, d1, d2, d3, d4, d5, d6, d7, d8, d9, d10, d11⟩ := row12 Rd
  (try clear e0 e1 e2 e3 e4 e5 e6 e7 e8 e9 e10 e11); obtain ⟨e0, e1, e2, e3, e4, e5, e6, e7, e8, e9, e10, e11⟩ := row12 Re
  (try clear y0 y1); obtain ⟨y0, y1⟩ := row2 Ry
  (try clear m0 m1 m2 m3 m4 m5 m6 m7 m8 m9 m10 m11); obtain ⟨m0, m1, m2, m3, m4, m5, m6, m7, m8, m9, m10, m11⟩ := row12 Rm
  go_wp2_with fail
  refine (H5 _).mono ?_
  rintro e w3 ⟨rfl, hb⟩
  replace Rg := Rg.later hb
  replace Rd := Rd.later hb
  replace Re := Re.later hb
  replace Ry := Ry.later hb
  replace Rm := Rm.later hb
  replace hb0 := below_step hb0 hb
  clear hb
  have lg := Rg.lt
  have ld := Rd.lt
  have le := Re.lt
  have ly := Ry.lt
  have lm := Rm.lt
  (try clear g0 g1 g2 g3 g4 g5 g6); obtain ⟨g0, g1, g2, g3, g4, g5, g6⟩ := row7 Rg
  (try clear d0 d1 d2 d3 d4 d5 d6 d7 d8 d9 d10 d11); obtain ⟨d0, d1, d2, d3, d4, d5, d6, d7, d8, d9, d10, d11⟩ := row12 Rd
  (try clear e0 e1 e2 e3 e4 e5 e6 e7 e8 e9 e10 e11); obtain ⟨e0, e1, e2, e3, e4, e5, e6, e7, e8, e9, e10, e11⟩ := row12 Re
  (try clear y0 y1); obtain ⟨y0, y1⟩ := row2 Ry
  (try clear m0 m1 m2 m3 m4 m5 m6 m7 m8 m9 m10 m11); obtain ⟨m0, m1, m2, m3, m4, m5, m6, m7, m8, m9, m10, m11⟩ := row12 Rm
  go_wp2_with fail
  refine (H3 _).mono ?_
  rintro e w4 ⟨rfl, hb⟩
  have nng := Rg.lt
  have nnd := Rd.lt
  have nne := Re.lt
  have nny := Ry.lt
  have nnm := Rm.lt
  replace Rg := (Rg.alloc _).later hb
  replace Rd := (Rd.alloc _).later hb
  replace Re := (Re.alloc _).later hb
  replace Ry := (Ry.alloc _).later hb
  replace Rm := (Rm.alloc _).later hb
  have Rn := Row.later (Row.new _ _ _) hb
  have mn := hb0.size
  replace hb0 := below_step (hb0.alloc hb0.size _) hb
  clear hb
  generalize w3.heap.size = gn at *
  have lg := Rg.lt
  have ld := Rd.lt
  have le := Re.lt
  have ly := Ry.lt
  have lm := Rm.lt
  have ln := Rn.lt
  (try clear g0 g1 g2 g3 g4 g5 g6); obtain ⟨g0, g1, g2, g3, g4, g5, g6⟩ := row7 Rg
  (try clear d0 d1 d2 d3 d4 d5 d6 d7 d8 d9 d10 d11); obtain ⟨d0, d1, d2, d3, d4, d5, d6, d7, d8, d9, d10, d11⟩ := row12 Rd
  (try clear e0 e1 e2 e3 e4 e5 e6 e7 e8 e9 e10 e11); obtain ⟨e0, e1, e2, e3, e4, e5, e6, e7, e8, e9, e10, e11⟩ := row12 Re
  (try clear y0 y1); obtain ⟨y0, y1⟩ := row2 Ry
  (try clear m0 m1 m2 m3 m4 m5 m6 m7 m8 m9 m10 m11); obtain ⟨m0, m1, m2, m3, m4, m5, m6, m7, m8, m9, m10, m11⟩ := row12 Rm
  (try clear n0 n1 n2 n3 n4 n5 n6 n7 n8 n9 n10 n11); obtain ⟨n0, n1, n2, n3, n4, n5, n6, n7, n8, n9, n10, n11⟩ := row12 Rn
  go_wp2_with fail
  refine (HA _).mono ?_
  rintro e w5 ⟨rfl, hb⟩
  replace Rg := Rg.later hb
  replace Rd := Rd.later hb
  replace Re := Re.later hb
  replace Ry := Ry.later hb
  replace Rm := Rm.later hb
  replace Rn := Rn.later hb
  replace hb0 := below_step hb0 hb
  clear hb
  have lg := Rg.lt
  have ld := Rd.lt
  have le := Re.lt
  have ly := Ry.lt
  have lm := Rm.lt
  have ln := Rn.lt
  (try clear g0 g1 g2 g3 g4 g5 g6); obtain ⟨g0, g1, g2, g3, g4, g5, g6⟩ := row7 Rg
  (try clear d0 d1 d2 d3 d4 d5 d6 d7 d8 d9 d10 d11); obtain ⟨d0, d1, d2, d3, d4, d5, d6, d7, d8, d9, d10, d11⟩ := row12 Rd
  (try clear e0 e1 e2 e3 e4 e5 e6 e7 e8 e9 e10 e11); obtain ⟨e0, e1, e2, e3, e4, e5, e6, e7, e8, e9, e10, e11⟩ := row12 Re
  (try clear y0 y1); obtain ⟨y0, y1⟩ := row2 Ry
  (try clear m0 m1 m2 m3 m4 m5 m6 m7 m8 m9 m10 m11); obtain ⟨m0, m1, m2, m3, m4, m5, m6, m7, m8, m9, m10, m11⟩ := row12 Rm
  (try clear n0 n1 n2 n3 n4 n5 n6 n7 n8 n9 n10 n11); obtain ⟨n0, n1, n2, n3, n4, n5, n6, n7, n8, n9, n10, n11⟩ := row12 Rn
  go_wp2
  go_ret
  exact ⟨rfl, hb0⟩
set_option maxRecDepth 100000 in
set_option maxHeartbeats 32000000 in
theorem one_01c (s : Sp) (p q u v t : Px) (i j hu2 hp2 : Int) (b : Bool)
    (H0 : ∀ w, Calls Try.prog 26 #[sv s, pv p, .agg #[.int .i64 i, .int .i64 j]] w fun e w' => e = .returned (pv pz) ∧ Below w.heap.size w w')
    (H1 : ∀ w, Calls Try.prog 28 #[sv s, pv q, pv p] w fun e w' => e = .returned (.bool false) ∧ Below w.heap.size w w')
    (H2 : ∀ w, Calls Try.prog 20 #[sv s, pv q] w fun e w' => e = .returned (.bool false) ∧ Below w.heap.size w w')
    (H3 : ∀ w, Calls Try.prog 20 #[sv s, pv p] w fun e w' => e = .returned (.bool true) ∧ Below w.heap.size w w')
    (H5 : ∀ w, Calls Try.prog 22 #[sv s] w fun e w' => e = .returned (pv t) ∧ Below w.heap.size w w')
    (g0 : ¬ i < p.a0) (g1 : ¬ j < p.a1) (g2 : t.a0 < i) (w : World) :
    Calls Try.prog 7 #[sv s, pv p, pv q, .int .i64 i, .int .i64 j] w fun e w' => e = .returned (.bool true) ∧ Below w.heap.size w w' := by
  have HA := alive9_t
  have qe := eql_px pz pz
  rw [decide_eq_true rfl] at qe
  have g0' : decide (i < p.a0) = false := decide_eq_false g0
  have g1' : decide (j < p.a1) = false := decide_eq_false g1
  have g2' : decide (t.a0 < i) = true := decide_eq_true g2
  unfold pz kz at *
  unfold sv pv at *
  obtain ⟨Rg, Rd, Re, hb0⟩ := three_rows w #[Value.int .i64 s.n, Value.int .i64 s.d0.kind, Value.int .i64 s.d0.side, Value.int .i64 s.d0.step, Value.int .i64 s.d1.kind, Value.int .i64 s.d1.side, Value.int .i64 s.d1.step] #[Value.int .i64 p.a0, Value.int .i64 p.a1, Value.int .i64 p.k0.kind, Value.int .i64 p.k0.len, Value.int .u64 p.k0.h, Value.int .u64 p.k0.l, Value.string ⟨p.k0.path.toArray⟩, Value.int .i64 p.k1.kind, Value.int .i64 p.k1.len, Value.int .u64 p.k1.h, Value.int .u64 p.k1.l, Value.string ⟨p.k1.path.toArray⟩] #[Value.int .i64 q.a0, Value.int .i64 q.a1, Value.int .i64 q.k0.kind, Value.int .i64 q.k0.len, Value.int .u64 q.k0.h, Value.int .u64 q.k0.l, Value.string ⟨q.k0.path.toArray⟩, Value.int .i64 q.k1.kind, Value.int .i64 q.k1.len, Value.int .u64 q.k1.h, Value.int .u64 q.k1.l, Value.string ⟨q.k1.path.toArray⟩] 26 33 33
  (try clear g0 g1 g2 g3 g4 g5 g6); obtain ⟨g0, g1, g2, g3, g4, g5, g6⟩ := row7 Rg
  (try clear d0 d1 d2 d3 d4 d5 d6 d7 d8 d9 d10 d11); obtain ⟨d0, d1, d2, d3, d4, d5, d6, d7, d8, d9, d10, d11⟩ := row12 Rd
  (try clear e0 e1 e2 e3 e4 e5 e6 e7 e8 e9 e10 e11); obtain ⟨e0, e1, e2, e3, e4, e5, e6, e7, e8, e9, e10, e11⟩ := row12 Re
  go_enter Try.func7, Try.ntmps7
  go_wp2_with fail
  refine (H0 _).mono ?_
  rintro e w1 ⟨rfl, hb⟩
  replace Rg := (Rg.alloc _).later hb
  replace Rd := (Rd.alloc _).later hb
  replace Re := (Re.alloc _).later hb
  have Ry := Row.later (Row.new _ _ _) hb
  simp only [World.size_alloc] at Ry
  replace hb0 := below_step (hb0.alloc hb0.size _) hb
  clear hb
  have lg := Rg.lt
  have ld := Rd.lt
  have le := Re.lt
  have ly := Ry.lt
  (try clear g0 g1 g2 g3 g4 g5 g6); obtain ⟨g0, g1, g2, g3, g4, g5, g6⟩ := row7 Rg
  (try clear d0 d1 d2 d3 d4 d5 d6 d7 d8 d9 d10 d11); obtain ⟨d0, d1, d2, d3, d4, d5, d6, d7, d8, d9, d10, d11⟩ := row12 Rd
  (try clear e0 e1 e2 e3 e4 e5 e6 e7 e8 e9 e10 e11); obtain ⟨e0, e1, e2, e3, e4, e5, e6, e7, e8, e9, e10, e11⟩ := row12 Re
  (try clear y0 y1); obtain ⟨y0, y1⟩ := row2 Ry
  go_wp2_with fail
  replace Rg := Rg.alloc (.cells #[Value.int .i64 0, Value.int .i64 0, Value.int .i64 0, Value.int .i64 0, Value.int .u64 0, Value.int .u64 0, Value.string ⟨#[]⟩, Value.int .i64 0, Value.int .i64 0, Value.int .u64 0, Value.int .u64 0, Value.string ⟨#[]⟩] 33)
  replace Rd := Rd.alloc (.cells #[Value.int .i64 0, Value.int .i64 0, Value.int .i64 0, Value.int .i64 0, Value.int .u64 0, Value.int .u64 0, Value.string ⟨#[]⟩, Value.int .i64 0, Value.int .i64 0, Value.int .u64 0, Value.int .u64 0, Value.string ⟨#[]⟩] 33)
  replace Re := Re.alloc (.cells #[Value.int .i64 0, Value.int .i64 0, Value.int .i64 0, Value.int .i64 0, Value.int .u64 0, Value.int .u64 0, Value.string ⟨#[]⟩, Value.int .i64 0, Value.int .i64 0, Value.int .u64 0, Value.int .u64 0, Value.string ⟨#[]⟩] 33)
  replace Ry := Ry.alloc (.cells #[Value.int .i64 0, Value.int .i64 0, Value.int .i64 0, Value.int .i64 0, Value.int .u64 0, Value.int .u64 0, Value.string ⟨#[]⟩, Value.int .i64 0, Value.int .i64 0, Value.int .u64 0, Value.int .u64 0, Value.string ⟨#[]⟩] 33)
  have Rm := Row.new w1 #[Value.int .i64 0, Value.int .i64 0, Value.int .i64 0, Value.int .i64 0, Value.int .u64 0, Value.int .u64 0, Value.string ⟨#[]⟩, Value.int .i64 0, Value.int .i64 0, Value.int .u64 0, Value.int .u64 0, Value.string ⟨#[]⟩] 33
  have mm := hb0.size
  replace hb0 := hb0.alloc hb0.size (.cells #[Value.int .i64 0, Value.int .i64 0, Value.int .i64 0, Value.int .i64 0, Value.int .u64 0, Value.int .u64 0, Value.string ⟨#[]⟩, Value.int .i64 0, Value.int .i64 0, Value.int .u64 0, Value.int .u64 0, Value.string ⟨#[]⟩] 33)
  (try clear g0 g1 g2 g3 g4 g5 g6); obtain ⟨g0, g1, g2, g3, g4, g5, g6⟩ := row7 Rg
  (try clear d0 d1 d2 d3 d4 d5 d6 d7 d8 d9 d10 d11); obtain ⟨d0, d1, d2, d3, d4, d5, d6, d7, d8, d9, d10, d11⟩ := row12 Rd
  (try clear e0 e1 e2 e3 e4 e5 e6 e7 e8 e9 e10 e11); obtain ⟨e0, e1, e2, e3, e4, e5, e6, e7, e8, e9, e10, e11⟩ := row12 Re
  (try clear y0 y1); obtain ⟨y0, y1⟩ := row2 Ry
  (try clear m0 m1 m2 m3 m4 m5 m6 m7 m8 m9 m10 m11); obtain ⟨m0, m1, m2, m3, m4, m5, m6, m7, m8, m9, m10, m11⟩ := row12 Rm
  refine wp_region_held_drew (S := (fun w' => w'.cell? ⟨w.heap.size + 1 + 1, 0, none⟩ = some (Value.int .i64 q.a0) ∧ w'.cell? ⟨w.heap.size + 1 + 1, 1, none⟩ = some (Value.int .i64 q.a1) ∧ Row w' w.heap.size #[Value.int .i64 s.n, Value.int .i64 s.d0.kind, Value.int .i64 s.d0.side, Value.int .i64 s.d0.step, Value.int .i64 s.d1.kind, Value.int .i64 s.d1.side, Value.int .i64 s.d1.step] 26 ∧ Row w' (w.heap.size + 1) #[Value.int .i64 p.a0, Value.int .i64 p.a1, Value.int .i64 p.k0.kind, Value.int .i64 p.k0.len, Value.int .u64 p.k0.h, Value.int .u64 p.k0.l, Value.string ⟨p.k0.path.toArray⟩, Value.int .i64 p.k1.kind, Value.int .i64 p.k1.len, Value.int .u64 p.k1.h, Value.int .u64 p.k1.l, Value.string ⟨p.k1.path.toArray⟩] 33 ∧ Row w' (w.heap.size + 1 + 1) #[Value.int .i64 q.a0, Value.int .i64 q.a1, Value.int .i64 q.k0.kind, Value.int .i64 q.k0.len, Value.int .u64 q.k0.h, Value.int .u64 q.k0.l, Value.string ⟨q.k0.path.toArray⟩, Value.int .i64 q.k1.kind, Value.int .i64 q.k1.len, Value.int .u64 q.k1.h, Value.int .u64 q.k1.l, Value.string ⟨q.k1.path.toArray⟩] 33)) (by kernel_rfl) ?hSr4_ (fun hHeld => ?_)
  case hSr4_ => (exact ⟨e0, e1, Rg.drew, Rd.drew, Re.drew⟩)
  (clear g0 g1 g2 g3 g4 g5 g6 d0 d1 d2 d3 d4 d5 d6 d7 d8 d9 d10 d11 e0 e1 e2 e3 e4 e5 e6 e7 e8 e9 e10 e11 y0 y1 m0 m1 m2 m3 m4 m5 m6 m7 m8 m9 m10 m11; (replace Rg := Rg.drew); (replace Rd := Rd.drew); (replace Re := Re.drew); (replace Ry := Ry.drew); (replace Rm := Rm.drew); (replace hb0 := hb0.drew); (generalize World.drew (World.alloc w1 (.cells #[Value.int .i64 0, Value.int .i64 0, Value.int .i64 0, Value.int .i64 0, Value.int .u64 0, Value.int .u64 0, Value.string ⟨#[]⟩, Value.int .i64 0, Value.int .i64 0, Value.int .u64 0, Value.int .u64 0, Value.string ⟨#[]⟩] 33)) = wq at *))
  refine tk 0 ⟨some 21, .load 26 (.tmp 5), 26, _, #[], none⟩ hHeld ?_ (v := ?vr4_1_0) (hy := ?yr4_1_0)
  case yr4_1_0 => (intro wy hSw; obtain ⟨e0, e1, Qg, Qd, Qe⟩ := hSw; (with_reducible refine pexec_load 26 (.tmp 5) ?_ w.heap.size ?_ 26 #[Value.int .i64 s.n, Value.int .i64 s.d0.kind, Value.int .i64 s.d0.side, Value.int .i64 s.d0.step, Value.int .i64 s.d1.kind, Value.int .i64 s.d1.side, Value.int .i64 s.d1.step] _ Qg Try.underlying26 ?_ ?_) <;> first | rfl | exact infoSp)
  (try simp only [Act.put, nz1, nz2, nz3])
  refine tk 1 ⟨some 22, .load 33 (.tmp 7), 33, _, #[], none⟩ hHeld ?_ (v := ?vr4_2_1) (hy := ?yr4_2_1)
  case yr4_2_1 => (intro wy hSw; obtain ⟨e0, e1, Qg, Qd, Qe⟩ := hSw; (with_reducible refine pexec_load 33 (.tmp 7) ?_ (w.heap.size + 1 + 1) ?_ 33 #[Value.int .i64 q.a0, Value.int .i64 q.a1, Value.int .i64 q.k0.kind, Value.int .i64 q.k0.len, Value.int .u64 q.k0.h, Value.int .u64 q.k0.l, Value.string ⟨q.k0.path.toArray⟩, Value.int .i64 q.k1.kind, Value.int .i64 q.k1.len, Value.int .u64 q.k1.h, Value.int .u64 q.k1.l, Value.string ⟨q.k1.path.toArray⟩] _ Qe Try.underlying33 ?_ ?_) <;> first | rfl | exact infoPx)
  (try simp only [Act.put, nz1, nz2, nz3])
  refine tk 2 ⟨some 23, .load 33 (.tmp 6), 33, _, #[], none⟩ hHeld ?_ (v := ?vr4_3_2) (hy := ?yr4_3_2)
  case yr4_3_2 => (intro wy hSw; obtain ⟨e0, e1, Qg, Qd, Qe⟩ := hSw; (with_reducible refine pexec_load 33 (.tmp 6) ?_ (w.heap.size + 1) ?_ 33 #[Value.int .i64 p.a0, Value.int .i64 p.a1, Value.int .i64 p.k0.kind, Value.int .i64 p.k0.len, Value.int .u64 p.k0.h, Value.int .u64 p.k0.l, Value.string ⟨p.k0.path.toArray⟩, Value.int .i64 p.k1.kind, Value.int .i64 p.k1.len, Value.int .u64 p.k1.h, Value.int .u64 p.k1.l, Value.string ⟨p.k1.path.toArray⟩] _ Qd Try.underlying33 ?_ ?_) <;> first | rfl | exact infoPx)
  (try simp only [Act.put, nz1, nz2, nz3])
  refine tk 4 ⟨some 25, .load 26 (.tmp 5), 26, _, #[], none⟩ hHeld ?_ (v := ?vr4_4_4) (hy := ?yr4_4_4)
  case yr4_4_4 => (intro wy hSw; obtain ⟨e0, e1, Qg, Qd, Qe⟩ := hSw; (with_reducible refine pexec_load 26 (.tmp 5) ?_ w.heap.size ?_ 26 #[Value.int .i64 s.n, Value.int .i64 s.d0.kind, Value.int .i64 s.d0.side, Value.int .i64 s.d0.step, Value.int .i64 s.d1.kind, Value.int .i64 s.d1.side, Value.int .i64 s.d1.step] _ Qg Try.underlying26 ?_ ?_) <;> first | rfl | exact infoSp)
  (try simp only [Act.put, nz1, nz2, nz3])
  refine tk 5 ⟨some 26, .load 33 (.tmp 7), 33, _, #[], none⟩ hHeld ?_ (v := ?vr4_5_5) (hy := ?yr4_5_5)
  case yr4_5_5 => (intro wy hSw; obtain ⟨e0, e1, Qg, Qd, Qe⟩ := hSw; (with_reducible refine pexec_load 33 (.tmp 7) ?_ (w.heap.size + 1 + 1) ?_ 33 #[Value.int .i64 q.a0, Value.int .i64 q.a1, Value.int .i64 q.k0.kind, Value.int .i64 q.k0.len, Value.int .u64 q.k0.h, Value.int .u64 q.k0.l, Value.string ⟨q.k0.path.toArray⟩, Value.int .i64 q.k1.kind, Value.int .i64 q.k1.len, Value.int .u64 q.k1.h, Value.int .u64 q.k1.l, Value.string ⟨q.k1.path.toArray⟩] _ Qe Try.underlying33 ?_ ?_) <;> first | rfl | exact infoPx)
  (try simp only [Act.put, nz1, nz2, nz3])
  refine wpAnyH_ready (rs := [3]) (by kernel_rfl) (by simp) ?_
  refine AllReadyH.cons (o := ⟨some 24, .call { callee := .value (.func 28), args := #[.tmp 21, .tmp 22, .tmp 23], argTypes := #[26, 33, 33] }, 4, _, #[⟨0, .data⟩, ⟨1, .data⟩, ⟨2, .data⟩], none⟩) rfl (fun K hK => ?_) AllReadyH.nil
  (go_simp; (refine (H1 _).mono ?_); (rintro e wz ⟨rfl, hb⟩); (replace Rg := Rg.later hb); (replace Rd := Rd.later hb); (replace Re := Re.later hb); (replace Ry := Ry.later hb); (replace Rm := Rm.later hb); (replace hb0 := below_step hb0 hb); go_wp2_with fail)
  refine hK.out _ _ ?hSr4_6_3 (fun hHeld2 => ?_)
  case hSr4_6_3 => (obtain ⟨e0, e1, Qg, Qd, Qe⟩ := hHeld; exact ⟨cell_later hb e0, cell_later hb e1, Qg.later hb, Qd.later hb, Qe.later hb⟩)
  clear hK K hHeld
  have hHeld := hHeld2
  clear hHeld2
  rename World => wq
  (try simp only [Act.put, nz1, nz2, nz3])
  refine wpAnyH_ready (rs := [6]) (by kernel_rfl) (by simp) ?_
  refine AllReadyH.cons (o := ⟨some 27, .call { callee := .value (.func 20), args := #[.tmp 25, .tmp 26], argTypes := #[26, 33] }, 4, _, #[⟨4, .data⟩, ⟨5, .data⟩, ⟨3, .chain⟩], none⟩) rfl (fun K hK => ?_) AllReadyH.nil
  (go_simp; (refine (H2 _).mono ?_); (rintro e wz ⟨rfl, hb⟩); (replace Rg := Rg.later hb); (replace Rd := Rd.later hb); (replace Re := Re.later hb); (replace Ry := Ry.later hb); (replace Rm := Rm.later hb); (replace hb0 := below_step hb0 hb); go_wp2_with fail)
  refine hK.out _ _ ?hSr4_7_6 (fun hHeld2 => ?_)
  case hSr4_7_6 => (obtain ⟨e0, e1, Qg, Qd, Qe⟩ := hHeld; exact ⟨cell_later hb e0, cell_later hb e1, Qg.later hb, Qd.later hb, Qe.later hb⟩)
  clear hK K hHeld
  have hHeld := hHeld2
  clear hHeld2
  rename World => wq
  (try simp only [Act.put, nz1, nz2, nz3])
  refine tk 7 ⟨some 28, .move (.tmp 27), 4, _, #[⟨6, .data⟩, ⟨6, .chain⟩], none⟩ hHeld ?_
  (try simp only [Act.put, nz1, nz2, nz3])
  refine ts 8 ⟨some 29, .load 26 (.tmp 5), 26, _, #[⟨7, .guard⟩], some (7, true)⟩ hHeld ?_
  (try simp only [Act.put, nz1, nz2, nz3])
  refine ts 9 ⟨some 30, .load 33 (.tmp 6), 33, _, #[⟨7, .guard⟩], some (7, true)⟩ hHeld ?_
  (try simp only [Act.put, nz1, nz2, nz3])
  refine ts 10 ⟨some 31, .call { callee := .value (.func 20), args := #[.tmp 29, .tmp 30], argTypes := #[26, 33] }, 4, _, #[⟨8, .data⟩, ⟨9, .data⟩, ⟨7, .chain⟩, ⟨7, .guard⟩], some (7, true)⟩ hHeld ?_
  (try simp only [Act.put, nz1, nz2, nz3])
  refine tk 11 ⟨some 32, .pick (.tmp 28) (.tmp 31) (.const (.bool false)), 4, _, #[⟨7, .data⟩, ⟨10, .data⟩], none⟩ hHeld ?_
  (try simp only [Act.put, nz1, nz2, nz3])
  refine tk 12 ⟨some 33, .move (.tmp 32), 4, _, #[⟨11, .data⟩, ⟨10, .chain⟩], none⟩ hHeld ?_
  (try simp only [Act.put, nz1, nz2, nz3])
  refine ts 13 ⟨some 34, .load 26 (.tmp 5), 26, _, #[⟨12, .guard⟩], some (12, true)⟩ hHeld ?_
  (try simp only [Act.put, nz1, nz2, nz3])
  refine ts 14 ⟨some 35, .load 33 (.tmp 6), 33, _, #[⟨12, .guard⟩], some (12, true)⟩ hHeld ?_
  (try simp only [Act.put, nz1, nz2, nz3])
  refine ts 15 ⟨some 36, .fieldAddr 33 (.tmp 7) 0, 0, _, #[⟨12, .guard⟩], some (12, true)⟩ hHeld ?_
  (try simp only [Act.put, nz1, nz2, nz3])
  refine ts 16 ⟨some 37, .load 27 (.tmp 36), 27, _, #[⟨15, .data⟩, ⟨12, .guard⟩], some (12, true)⟩ hHeld ?_
  (try simp only [Act.put, nz1, nz2, nz3])
  refine ts 17 ⟨some 38, .call { callee := .value (.func 26), args := #[.tmp 34, .tmp 35, .tmp 37], argTypes := #[26, 33, 27] }, 33, _, #[⟨13, .data⟩, ⟨14, .data⟩, ⟨16, .data⟩, ⟨12, .chain⟩, ⟨12, .guard⟩], some (12, true)⟩ hHeld ?_
  (try simp only [Act.put, nz1, nz2, nz3])
  refine ts 18 ⟨some 39, .load 33 (.tmp 7), 33, _, #[⟨12, .guard⟩], some (12, true)⟩ hHeld ?_
  (try simp only [Act.put, nz1, nz2, nz3])
  refine ts 19 ⟨some 40, .binOp .eql 33 (.tmp 38) (.tmp 39) 33, 4, _, #[⟨17, .data⟩, ⟨18, .data⟩, ⟨12, .guard⟩], some (12, true)⟩ hHeld ?_
  (try simp only [Act.put, nz1, nz2, nz3])
  refine tk 20 ⟨some 41, .pick (.tmp 33) (.tmp 40) (.const (.bool false)), 4, _, #[⟨12, .data⟩, ⟨19, .data⟩], none⟩ hHeld ?_
  (try simp only [Act.put, nz1, nz2, nz3])
  refine tk 21 ⟨some 42, .binOp .neq 4 (.tmp 24) (.tmp 41) 4, 4, _, #[⟨3, .data⟩, ⟨20, .data⟩], none⟩ hHeld ?_
  (try simp only [Act.put, nz1, nz2, nz3])
  refine wpAnyH_done (by kernel_rfl) ?_ _
  clear hHeld
  rename World => w2
  have lg := Rg.lt
  have ld := Rd.lt
  have le := Re.lt
  have ly := Ry.lt
  have lm := Rm.lt
  (try clear g0 g1 g2 g3 g4 g5 g6); obtain ⟨g0, g1, g2, g3, g4, g5, g6⟩ := row7 Rg
  (try clear d0 d1 d2 d3 d4 d5 d6 d7 d8 d9 d10 d11); obtain ⟨d0, d1, d2, d3, d4, d5, d6, d7, d8, d9, d10, d11⟩ := row12 Rd
  (try clear e0 e1 e2 e3 e4 e5 e6 e7 e8 e9 e10 e11); obtain ⟨e0, e1, e2, e3, e4, e5, e6, e7, e8, e9, e10, e11⟩ := row12 Re
  (try clear y0 y1); obtain ⟨y0, y1⟩ := row2 Ry
  (try clear m0 m1 m2 m3 m4 m5 m6 m7 m8 m9 m10 m11); obtain ⟨m0, m1, m2, m3, m4, m5, m6, m7, m8, m9, m10, m11⟩ := row12 Rm
  go_wp2_with fail
  refine (H5 _).mono ?_
  rintro e w3 ⟨rfl, hb⟩
  replace Rg := Rg.later hb
  replace Rd := Rd.later hb
  replace Re := Re.later hb
  replace Ry := Ry.later hb
  replace Rm := Rm.later hb
  replace hb0 := below_step hb0 hb
  clear hb
  have lg := Rg.lt
  have ld := Rd.lt
  have le := Re.lt
  have ly := Ry.lt
  have lm := Rm.lt
  (try clear g0 g1 g2 g3 g4 g5 g6); obtain ⟨g0, g1, g2, g3, g4, g5, g6⟩ := row7 Rg
  (try clear d0 d1 d2 d3 d4 d5 d6 d7 d8 d9 d10 d11); obtain ⟨d0, d1, d2, d3, d4, d5, d6, d7, d8, d9, d10, d11⟩ := row12 Rd
  (try clear e0 e1 e2 e3 e4 e5 e6 e7 e8 e9 e10 e11); obtain ⟨e0, e1, e2, e3, e4, e5, e6, e7, e8, e9, e10, e11⟩ := row12 Re
  (try clear y0 y1); obtain ⟨y0, y1⟩ := row2 Ry
  (try clear m0 m1 m2 m3 m4 m5 m6 m7 m8 m9 m10 m11); obtain ⟨m0, m1, m2, m3, m4, m5, m6, m7, m8, m9, m10, m11⟩ := row12 Rm
  go_wp2_with fail
  refine (H3 _).mono ?_
  rintro e w4 ⟨rfl, hb⟩
  have nng := Rg.lt
  have nnd := Rd.lt
  have nne := Re.lt
  have nny := Ry.lt
  have nnm := Rm.lt
  replace Rg := (Rg.alloc _).later hb
  replace Rd := (Rd.alloc _).later hb
  replace Re := (Re.alloc _).later hb
  replace Ry := (Ry.alloc _).later hb
  replace Rm := (Rm.alloc _).later hb
  have Rn := Row.later (Row.new _ _ _) hb
  have mn := hb0.size
  replace hb0 := below_step (hb0.alloc hb0.size _) hb
  clear hb
  generalize w3.heap.size = gn at *
  have lg := Rg.lt
  have ld := Rd.lt
  have le := Re.lt
  have ly := Ry.lt
  have lm := Rm.lt
  have ln := Rn.lt
  (try clear g0 g1 g2 g3 g4 g5 g6); obtain ⟨g0, g1, g2, g3, g4, g5, g6⟩ := row7 Rg
  (try clear d0 d1 d2 d3 d4 d5 d6 d7 d8 d9 d10 d11); obtain ⟨d0, d1, d2, d3, d4, d5, d6, d7, d8, d9, d10, d11⟩ := row12 Rd
  (try clear e0 e1 e2 e3 e4 e5 e6 e7 e8 e9 e10 e11); obtain ⟨e0, e1, e2, e3, e4, e5, e6, e7, e8, e9, e10, e11⟩ := row12 Re
  (try clear y0 y1); obtain ⟨y0, y1⟩ := row2 Ry
  (try clear m0 m1 m2 m3 m4 m5 m6 m7 m8 m9 m10 m11); obtain ⟨m0, m1, m2, m3, m4, m5, m6, m7, m8, m9, m10, m11⟩ := row12 Rm
  (try clear n0 n1 n2 n3 n4 n5 n6 n7 n8 n9 n10 n11); obtain ⟨n0, n1, n2, n3, n4, n5, n6, n7, n8, n9, n10, n11⟩ := row12 Rn
  go_wp2_with fail
  refine (HA _).mono ?_
  rintro e w5 ⟨rfl, hb⟩
  replace Rg := Rg.later hb
  replace Rd := Rd.later hb
  replace Re := Re.later hb
  replace Ry := Ry.later hb
  replace Rm := Rm.later hb
  replace Rn := Rn.later hb
  replace hb0 := below_step hb0 hb
  clear hb
  have lg := Rg.lt
  have ld := Rd.lt
  have le := Re.lt
  have ly := Ry.lt
  have lm := Rm.lt
  have ln := Rn.lt
  (try clear g0 g1 g2 g3 g4 g5 g6); obtain ⟨g0, g1, g2, g3, g4, g5, g6⟩ := row7 Rg
  (try clear d0 d1 d2 d3 d4 d5 d6 d7 d8 d9 d10 d11); obtain ⟨d0, d1, d2, d3, d4, d5, d6, d7, d8, d9, d10, d11⟩ := row12 Rd
  (try clear e0 e1 e2 e3 e4 e5 e6 e7 e8 e9 e10 e11); obtain ⟨e0, e1, e2, e3, e4, e5, e6, e7, e8, e9, e10, e11⟩ := row12 Re
  (try clear y0 y1); obtain ⟨y0, y1⟩ := row2 Ry
  (try clear m0 m1 m2 m3 m4 m5 m6 m7 m8 m9 m10 m11); obtain ⟨m0, m1, m2, m3, m4, m5, m6, m7, m8, m9, m10, m11⟩ := row12 Rm
  (try clear n0 n1 n2 n3 n4 n5 n6 n7 n8 n9 n10 n11); obtain ⟨n0, n1, n2, n3, n4, n5, n6, n7, n8, n9, n10, n11⟩ := row12 Rn
  go_wp2
  go_ret
  exact ⟨rfl, hb0⟩
set_option maxRecDepth 100000 in
set_option maxHeartbeats 32000000 in
theorem one_01d (s : Sp) (p q u v t : Px) (i j hu2 hp2 : Int) (b : Bool)
    (H0 : ∀ w, Calls Try.prog 26 #[sv s, pv p, .agg #[.int .i64 i, .int .i64 j]] w fun e w' => e = .returned (pv pz) ∧ Below w.heap.size w w')
    (H1 : ∀ w, Calls Try.prog 28 #[sv s, pv q, pv p] w fun e w' => e = .returned (.bool false) ∧ Below w.heap.size w w')
    (H2 : ∀ w, Calls Try.prog 20 #[sv s, pv q] w fun e w' => e = .returned (.bool false) ∧ Below w.heap.size w w')
    (H3 : ∀ w, Calls Try.prog 20 #[sv s, pv p] w fun e w' => e = .returned (.bool true) ∧ Below w.heap.size w w')
    (H5 : ∀ w, Calls Try.prog 22 #[sv s] w fun e w' => e = .returned (pv t) ∧ Below w.heap.size w w')
    (g0 : ¬ i < p.a0) (g1 : ¬ j < p.a1) (g2 : ¬ t.a0 < i) (g3 : t.a1 < j) (w : World) :
    Calls Try.prog 7 #[sv s, pv p, pv q, .int .i64 i, .int .i64 j] w fun e w' => e = .returned (.bool true) ∧ Below w.heap.size w w' := by
  have HA := alive9_t
  have qe := eql_px pz pz
  rw [decide_eq_true rfl] at qe
  have g0' : decide (i < p.a0) = false := decide_eq_false g0
  have g1' : decide (j < p.a1) = false := decide_eq_false g1
  have g2' : decide (t.a0 < i) = false := decide_eq_false g2
  have g3' : decide (t.a1 < j) = true := decide_eq_true g3
  unfold pz kz at *
  unfold sv pv at *
  obtain ⟨Rg, Rd, Re, hb0⟩ := three_rows w #[Value.int .i64 s.n, Value.int .i64 s.d0.kind, Value.int .i64 s.d0.side, Value.int .i64 s.d0.step, Value.int .i64 s.d1.kind, Value.int .i64 s.d1.side, Value.int .i64 s.d1.step] #[Value.int .i64 p.a0, Value.int .i64 p.a1, Value.int .i64 p.k0.kind, Value.int .i64 p.k0.len, Value.int .u64 p.k0.h, Value.int .u64 p.k0.l, Value.string ⟨p.k0.path.toArray⟩, Value.int .i64 p.k1.kind, Value.int .i64 p.k1.len, Value.int .u64 p.k1.h, Value.int .u64 p.k1.l, Value.string ⟨p.k1.path.toArray⟩] #[Value.int .i64 q.a0, Value.int .i64 q.a1, Value.int .i64 q.k0.kind, Value.int .i64 q.k0.len, Value.int .u64 q.k0.h, Value.int .u64 q.k0.l, Value.string ⟨q.k0.path.toArray⟩, Value.int .i64 q.k1.kind, Value.int .i64 q.k1.len, Value.int .u64 q.k1.h, Value.int .u64 q.k1.l, Value.string ⟨q.k1.path.toArray⟩] 26 33 33
  (try clear g0 g1 g2 g3 g4 g5 g6); obtain ⟨g0, g1, g2, g3, g4, g5, g6⟩ := row7 Rg
  (try clear d0 d1 d2 d3 d4 d5 d6 d7 d8 d9 d10 d11); obtain ⟨d0, d1, d2, d3, d4, d5, d6, d7, d8, d9, d10, d11⟩ := row12 Rd
  (try clear e0 e1 e2 e3 e4 e5 e6 e7 e8 e9 e10 e11); obtain ⟨e0, e1, e2, e3, e4, e5, e6, e7, e8, e9, e10, e11⟩ := row12 Re
  go_enter Try.func7, Try.ntmps7
  go_wp2_with fail
  refine (H0 _).mono ?_
  rintro e w1 ⟨rfl, hb⟩
  replace Rg := (Rg.alloc _).later hb
  replace Rd := (Rd.alloc _).later hb
  replace Re := (Re.alloc _).later hb
  have Ry := Row.later (Row.new _ _ _) hb
  simp only [World.size_alloc] at Ry
  replace hb0 := below_step (hb0.alloc hb0.size _) hb
  clear hb
  have lg := Rg.lt
  have ld := Rd.lt
  have le := Re.lt
  have ly := Ry.lt
  (try clear g0 g1 g2 g3 g4 g5 g6); obtain ⟨g0, g1, g2, g3, g4, g5, g6⟩ := row7 Rg
  (try clear d0 d1 d2 d3 d4 d5 d6 d7 d8 d9 d10 d11); obtain ⟨d0, d1, d2, d3, d4, d5, d6, d7, d8, d9, d10, d11⟩ := row12 Rd
  (try clear e0 e1 e2 e3 e4 e5 e6 e7 e8 e9 e10 e11); obtain ⟨e0, e1, e2, e3, e4, e5, e6, e7, e8, e9, e10, e11⟩ := row12 Re
  (try clear y0 y1); obtain ⟨y0, y1⟩ := row2 Ry
  go_wp2_with fail
  replace Rg := Rg.alloc (.cells #[Value.int .i64 0, Value.int .i64 0, Value.int .i64 0, Value.int .i64 0, Value.int .u64 0, Value.int .u64 0, Value.string ⟨#[]⟩, Value.int .i64 0, Value.int .i64 0, Value.int .u64 0, Value.int .u64 0, Value.string ⟨#[]⟩] 33)
  replace Rd := Rd.alloc (.cells #[Value.int .i64 0, Value.int .i64 0, Value.int .i64 0, Value.int .i64 0, Value.int .u64 0, Value.int .u64 0, Value.string ⟨#[]⟩, Value.int .i64 0, Value.int .i64 0, Value.int .u64 0, Value.int .u64 0, Value.string ⟨#[]⟩] 33)
  replace Re := Re.alloc (.cells #[Value.int .i64 0, Value.int .i64 0, Value.int .i64 0, Value.int .i64 0, Value.int .u64 0, Value.int .u64 0, Value.string ⟨#[]⟩, Value.int .i64 0, Value.int .i64 0, Value.int .u64 0, Value.int .u64 0, Value.string ⟨#[]⟩] 33)
  replace Ry := Ry.alloc (.cells #[Value.int .i64 0, Value.int .i64 0, Value.int .i64 0, Value.int .i64 0, Value.int .u64 0, Value.int .u64 0, Value.string ⟨#[]⟩, Value.int .i64 0, Value.int .i64 0, Value.int .u64 0, Value.int .u64 0, Value.string ⟨#[]⟩] 33)
  have Rm := Row.new w1 #[Value.int .i64 0, Value.int .i64 0, Value.int .i64 0, Value.int .i64 0, Value.int .u64 0, Value.int .u64 0, Value.string ⟨#[]⟩, Value.int .i64 0, Value.int .i64 0, Value.int .u64 0, Value.int .u64 0, Value.string ⟨#[]⟩] 33
  have mm := hb0.size
  replace hb0 := hb0.alloc hb0.size (.cells #[Value.int .i64 0, Value.int .i64 0, Value.int .i64 0, Value.int .i64 0, Value.int .u64 0, Value.int .u64 0, Value.string ⟨#[]⟩, Value.int .i64 0, Value.int .i64 0, Value.int .u64 0, Value.int .u64 0, Value.string ⟨#[]⟩] 33)
  (try clear g0 g1 g2 g3 g4 g5 g6); obtain ⟨g0, g1, g2, g3, g4, g5, g6⟩ := row7 Rg
  (try clear d0 d1 d2 d3 d4 d5 d6 d7 d8 d9 d10 d11); obtain ⟨d0, d1, d2, d3, d4, d5, d6, d7, d8, d9, d10, d11⟩ := row12 Rd
  (try clear e0 e1 e2 e3 e4 e5 e6 e7 e8 e9 e10 e11); obtain ⟨e0, e1, e2, e3, e4, e5, e6, e7, e8, e9, e10, e11⟩ := row12 Re
  (try clear y0 y1); obtain ⟨y0, y1⟩ := row2 Ry
  (try clear m0 m1 m2 m3 m4 m5 m6 m7 m8 m9 m10 m11); obtain ⟨m0, m1, m2, m3, m4, m5, m6, m7, m8, m9, m10, m11⟩ := row12 Rm
  refine wp_region_held_drew (S := (fun w' => w'.cell? ⟨w.heap.size + 1 + 1, 0, none⟩ = some (Value.int .i64 q.a0) ∧ w'.cell? ⟨w.heap.size + 1 + 1, 1, none⟩ = some (Value.int .i64 q.a1) ∧ Row w' w.heap.size #[Value.int .i64 s.n, Value.int .i64 s.d0.kind, Value.int .i64 s.d0.side, Value.int .i64 s.d0.step, Value.int .i64 s.d1.kind, Value.int .i64 s.d1.side, Value.int .i64 s.d1.step] 26 ∧ Row w' (w.heap.size + 1) #[Value.int .i64 p.a0, Value.int .i64 p.a1, Value.int .i64 p.k0.kind, Value.int .i64 p.k0.len, Value.int .u64 p.k0.h, Value.int .u64 p.k0.l, Value.string ⟨p.k0.path.toArray⟩, Value.int .i64 p.k1.kind, Value.int .i64 p.k1.len, Value.int .u64 p.k1.h, Value.int .u64 p.k1.l, Value.string ⟨p.k1.path.toArray⟩] 33 ∧ Row w' (w.heap.size + 1 + 1) #[Value.int .i64 q.a0, Value.int .i64 q.a1, Value.int .i64 q.k0.kind, Value.int .i64 q.k0.len, Value.int .u64 q.k0.h, Value.int .u64 q.k0.l, Value.string ⟨q.k0.path.toArray⟩, Value.int .i64 q.k1.kind, Value.int .i64 q.k1.len, Value.int .u64 q.k1.h, Value.int .u64 q.k1.l, Value.string ⟨q.k1.path.toArray⟩] 33)) (by kernel_rfl) ?hSr5_ (fun hHeld => ?_)
  case hSr5_ => (exact ⟨e0, e1, Rg.drew, Rd.drew, Re.drew⟩)
  (clear g0 g1 g2 g3 g4 g5 g6 d0 d1 d2 d3 d4 d5 d6 d7 d8 d9 d10 d11 e0 e1 e2 e3 e4 e5 e6 e7 e8 e9 e10 e11 y0 y1 m0 m1 m2 m3 m4 m5 m6 m7 m8 m9 m10 m11; (replace Rg := Rg.drew); (replace Rd := Rd.drew); (replace Re := Re.drew); (replace Ry := Ry.drew); (replace Rm := Rm.drew); (replace hb0 := hb0.drew); (generalize World.drew (World.alloc w1 (.cells #[Value.int .i64 0, Value.int .i64 0, Value.int .i64 0, Value.int .i64 0, Value.int .u64 0, Value.int .u64 0, Value.string ⟨#[]⟩, Value.int .i64 0, Value.int .i64 0, Value.int .u64 0, Value.int .u64 0, Value.string ⟨#[]⟩] 33)) = wq at *))
  refine tk 0 ⟨some 21, .load 26 (.tmp 5), 26, _, #[], none⟩ hHeld ?_ (v := ?vr5_1_0) (hy := ?yr5_1_0)
  case yr5_1_0 => (intro wy hSw; obtain ⟨e0, e1, Qg, Qd, Qe⟩ := hSw; (with_reducible refine pexec_load 26 (.tmp 5) ?_ w.heap.size ?_ 26 #[Value.int .i64 s.n, Value.int .i64 s.d0.kind, Value.int .i64 s.d0.side, Value.int .i64 s.d0.step, Value.int .i64 s.d1.kind, Value.int .i64 s.d1.side, Value.int .i64 s.d1.step] _ Qg Try.underlying26 ?_ ?_) <;> first | rfl | exact infoSp)
  (try simp only [Act.put, nz1, nz2, nz3])
  refine tk 1 ⟨some 22, .load 33 (.tmp 7), 33, _, #[], none⟩ hHeld ?_ (v := ?vr5_2_1) (hy := ?yr5_2_1)
  case yr5_2_1 => (intro wy hSw; obtain ⟨e0, e1, Qg, Qd, Qe⟩ := hSw; (with_reducible refine pexec_load 33 (.tmp 7) ?_ (w.heap.size + 1 + 1) ?_ 33 #[Value.int .i64 q.a0, Value.int .i64 q.a1, Value.int .i64 q.k0.kind, Value.int .i64 q.k0.len, Value.int .u64 q.k0.h, Value.int .u64 q.k0.l, Value.string ⟨q.k0.path.toArray⟩, Value.int .i64 q.k1.kind, Value.int .i64 q.k1.len, Value.int .u64 q.k1.h, Value.int .u64 q.k1.l, Value.string ⟨q.k1.path.toArray⟩] _ Qe Try.underlying33 ?_ ?_) <;> first | rfl | exact infoPx)
  (try simp only [Act.put, nz1, nz2, nz3])
  refine tk 2 ⟨some 23, .load 33 (.tmp 6), 33, _, #[], none⟩ hHeld ?_ (v := ?vr5_3_2) (hy := ?yr5_3_2)
  case yr5_3_2 => (intro wy hSw; obtain ⟨e0, e1, Qg, Qd, Qe⟩ := hSw; (with_reducible refine pexec_load 33 (.tmp 6) ?_ (w.heap.size + 1) ?_ 33 #[Value.int .i64 p.a0, Value.int .i64 p.a1, Value.int .i64 p.k0.kind, Value.int .i64 p.k0.len, Value.int .u64 p.k0.h, Value.int .u64 p.k0.l, Value.string ⟨p.k0.path.toArray⟩, Value.int .i64 p.k1.kind, Value.int .i64 p.k1.len, Value.int .u64 p.k1.h, Value.int .u64 p.k1.l, Value.string ⟨p.k1.path.toArray⟩] _ Qd Try.underlying33 ?_ ?_) <;> first | rfl | exact infoPx)
  (try simp only [Act.put, nz1, nz2, nz3])
  refine tk 4 ⟨some 25, .load 26 (.tmp 5), 26, _, #[], none⟩ hHeld ?_ (v := ?vr5_4_4) (hy := ?yr5_4_4)
  case yr5_4_4 => (intro wy hSw; obtain ⟨e0, e1, Qg, Qd, Qe⟩ := hSw; (with_reducible refine pexec_load 26 (.tmp 5) ?_ w.heap.size ?_ 26 #[Value.int .i64 s.n, Value.int .i64 s.d0.kind, Value.int .i64 s.d0.side, Value.int .i64 s.d0.step, Value.int .i64 s.d1.kind, Value.int .i64 s.d1.side, Value.int .i64 s.d1.step] _ Qg Try.underlying26 ?_ ?_) <;> first | rfl | exact infoSp)
  (try simp only [Act.put, nz1, nz2, nz3])
  refine tk 5 ⟨some 26, .load 33 (.tmp 7), 33, _, #[], none⟩ hHeld ?_ (v := ?vr5_5_5) (hy := ?yr5_5_5)
  case yr5_5_5 => (intro wy hSw; obtain ⟨e0, e1, Qg, Qd, Qe⟩ := hSw; (with_reducible refine pexec_load 33 (.tmp 7) ?_ (w.heap.size + 1 + 1) ?_ 33 #[Value.int .i64 q.a0, Value.int .i64 q.a1, Value.int .i64 q.k0.kind, Value.int .i64 q.k0.len, Value.int .u64 q.k0.h, Value.int .u64 q.k0.l, Value.string ⟨q.k0.path.toArray⟩, Value.int .i64 q.k1.kind, Value.int .i64 q.k1.len, Value.int .u64 q.k1.h, Value.int .u64 q.k1.l, Value.string ⟨q.k1.path.toArray⟩] _ Qe Try.underlying33 ?_ ?_) <;> first | rfl | exact infoPx)
  (try simp only [Act.put, nz1, nz2, nz3])
  refine wpAnyH_ready (rs := [3]) (by kernel_rfl) (by simp) ?_
  refine AllReadyH.cons (o := ⟨some 24, .call { callee := .value (.func 28), args := #[.tmp 21, .tmp 22, .tmp 23], argTypes := #[26, 33, 33] }, 4, _, #[⟨0, .data⟩, ⟨1, .data⟩, ⟨2, .data⟩], none⟩) rfl (fun K hK => ?_) AllReadyH.nil
  (go_simp; (refine (H1 _).mono ?_); (rintro e wz ⟨rfl, hb⟩); (replace Rg := Rg.later hb); (replace Rd := Rd.later hb); (replace Re := Re.later hb); (replace Ry := Ry.later hb); (replace Rm := Rm.later hb); (replace hb0 := below_step hb0 hb); go_wp2_with fail)
  refine hK.out _ _ ?hSr5_6_3 (fun hHeld2 => ?_)
  case hSr5_6_3 => (obtain ⟨e0, e1, Qg, Qd, Qe⟩ := hHeld; exact ⟨cell_later hb e0, cell_later hb e1, Qg.later hb, Qd.later hb, Qe.later hb⟩)
  clear hK K hHeld
  have hHeld := hHeld2
  clear hHeld2
  rename World => wq
  (try simp only [Act.put, nz1, nz2, nz3])
  refine wpAnyH_ready (rs := [6]) (by kernel_rfl) (by simp) ?_
  refine AllReadyH.cons (o := ⟨some 27, .call { callee := .value (.func 20), args := #[.tmp 25, .tmp 26], argTypes := #[26, 33] }, 4, _, #[⟨4, .data⟩, ⟨5, .data⟩, ⟨3, .chain⟩], none⟩) rfl (fun K hK => ?_) AllReadyH.nil
  (go_simp; (refine (H2 _).mono ?_); (rintro e wz ⟨rfl, hb⟩); (replace Rg := Rg.later hb); (replace Rd := Rd.later hb); (replace Re := Re.later hb); (replace Ry := Ry.later hb); (replace Rm := Rm.later hb); (replace hb0 := below_step hb0 hb); go_wp2_with fail)
  refine hK.out _ _ ?hSr5_7_6 (fun hHeld2 => ?_)
  case hSr5_7_6 => (obtain ⟨e0, e1, Qg, Qd, Qe⟩ := hHeld; exact ⟨cell_later hb e0, cell_later hb e1, Qg.later hb, Qd.later hb, Qe.later hb⟩)
  clear hK K hHeld
  have hHeld := hHeld2
  clear hHeld2
  rename World => wq
  (try simp only [Act.put, nz1, nz2, nz3])
  refine tk 7 ⟨some 28, .move (.tmp 27), 4, _, #[⟨6, .data⟩, ⟨6, .chain⟩], none⟩ hHeld ?_
  (try simp only [Act.put, nz1, nz2, nz3])
  refine ts 8 ⟨some 29, .load 26 (.tmp 5), 26, _, #[⟨7, .guard⟩], some (7, true)⟩ hHeld ?_
  (try simp only [Act.put, nz1, nz2, nz3])
  refine ts 9 ⟨some 30, .load 33 (.tmp 6), 33, _, #[⟨7, .guard⟩], some (7, true)⟩ hHeld ?_
  (try simp only [Act.put, nz1, nz2, nz3])
  refine ts 10 ⟨some 31, .call { callee := .value (.func 20), args := #[.tmp 29, .tmp 30], argTypes := #[26, 33] }, 4, _, #[⟨8, .data⟩, ⟨9, .data⟩, ⟨7, .chain⟩, ⟨7, .guard⟩], some (7, true)⟩ hHeld ?_
  (try simp only [Act.put, nz1, nz2, nz3])
  refine tk 11 ⟨some 32, .pick (.tmp 28) (.tmp 31) (.const (.bool false)), 4, _, #[⟨7, .data⟩, ⟨10, .data⟩], none⟩ hHeld ?_
  (try simp only [Act.put, nz1, nz2, nz3])
  refine tk 12 ⟨some 33, .move (.tmp 32), 4, _, #[⟨11, .data⟩, ⟨10, .chain⟩], none⟩ hHeld ?_
  (try simp only [Act.put, nz1, nz2, nz3])
  refine ts 13 ⟨some 34, .load 26 (.tmp 5), 26, _, #[⟨12, .guard⟩], some (12, true)⟩ hHeld ?_
  (try simp only [Act.put, nz1, nz2, nz3])
  refine ts 14 ⟨some 35, .load 33 (.tmp 6), 33, _, #[⟨12, .guard⟩], some (12, true)⟩ hHeld ?_
  (try simp only [Act.put, nz1, nz2, nz3])
  refine ts 15 ⟨some 36, .fieldAddr 33 (.tmp 7) 0, 0, _, #[⟨12, .guard⟩], some (12, true)⟩ hHeld ?_
  (try simp only [Act.put, nz1, nz2, nz3])
  refine ts 16 ⟨some 37, .load 27 (.tmp 36), 27, _, #[⟨15, .data⟩, ⟨12, .guard⟩], some (12, true)⟩ hHeld ?_
  (try simp only [Act.put, nz1, nz2, nz3])
  refine ts 17 ⟨some 38, .call { callee := .value (.func 26), args := #[.tmp 34, .tmp 35, .tmp 37], argTypes := #[26, 33, 27] }, 33, _, #[⟨13, .data⟩, ⟨14, .data⟩, ⟨16, .data⟩, ⟨12, .chain⟩, ⟨12, .guard⟩], some (12, true)⟩ hHeld ?_
  (try simp only [Act.put, nz1, nz2, nz3])
  refine ts 18 ⟨some 39, .load 33 (.tmp 7), 33, _, #[⟨12, .guard⟩], some (12, true)⟩ hHeld ?_
  (try simp only [Act.put, nz1, nz2, nz3])
  refine ts 19 ⟨some 40, .binOp .eql 33 (.tmp 38) (.tmp 39) 33, 4, _, #[⟨17, .data⟩, ⟨18, .data⟩, ⟨12, .guard⟩], some (12, true)⟩ hHeld ?_
  (try simp only [Act.put, nz1, nz2, nz3])
  refine tk 20 ⟨some 41, .pick (.tmp 33) (.tmp 40) (.const (.bool false)), 4, _, #[⟨12, .data⟩, ⟨19, .data⟩], none⟩ hHeld ?_
  (try simp only [Act.put, nz1, nz2, nz3])
  refine tk 21 ⟨some 42, .binOp .neq 4 (.tmp 24) (.tmp 41) 4, 4, _, #[⟨3, .data⟩, ⟨20, .data⟩], none⟩ hHeld ?_
  (try simp only [Act.put, nz1, nz2, nz3])
  refine wpAnyH_done (by kernel_rfl) ?_ _
  clear hHeld
  rename World => w2
  have lg := Rg.lt
  have ld := Rd.lt
  have le := Re.lt
  have ly := Ry.lt
  have lm := Rm.lt
  (try clear g0 g1 g2 g3 g4 g5 g6); obtain ⟨g0, g1, g2, g3, g4, g5, g6⟩ := row7 Rg
  (try clear d0 d1 d2 d3 d4 d5 d6 d7 d8 d9 d10 d11); obtain ⟨d0, d1, d2, d3, d4, d5, d6, d7, d8, d9, d10, d11⟩ := row12 Rd
  (try clear e0 e1 e2 e3 e4 e5 e6 e7 e8 e9 e10 e11); obtain ⟨e0, e1, e2, e3, e4, e5, e6, e7, e8, e9, e10, e11⟩ := row12 Re
  (try clear y0 y1); obtain ⟨y0, y1⟩ := row2 Ry
  (try clear m0 m1 m2 m3 m4 m5 m6 m7 m8 m9 m10 m11); obtain ⟨m0, m1, m2, m3, m4, m5, m6, m7, m8, m9, m10, m11⟩ := row12 Rm
  go_wp2_with fail
  refine (H5 _).mono ?_
  rintro e w3 ⟨rfl, hb⟩
  replace Rg := Rg.later hb
  replace Rd := Rd.later hb
  replace Re := Re.later hb
  replace Ry := Ry.later hb
  replace Rm := Rm.later hb
  replace hb0 := below_step hb0 hb
  clear hb
  have lg := Rg.lt
  have ld := Rd.lt
  have le := Re.lt
  have ly := Ry.lt
  have lm := Rm.lt
  (try clear g0 g1 g2 g3 g4 g5 g6); obtain ⟨g0, g1, g2, g3, g4, g5, g6⟩ := row7 Rg
  (try clear d0 d1 d2 d3 d4 d5 d6 d7 d8 d9 d10 d11); obtain ⟨d0, d1, d2, d3, d4, d5, d6, d7, d8, d9, d10, d11⟩ := row12 Rd
  (try clear e0 e1 e2 e3 e4 e5 e6 e7 e8 e9 e10 e11); obtain ⟨e0, e1, e2, e3, e4, e5, e6, e7, e8, e9, e10, e11⟩ := row12 Re
  (try clear y0 y1); obtain ⟨y0, y1⟩ := row2 Ry
  (try clear m0 m1 m2 m3 m4 m5 m6 m7 m8 m9 m10 m11); obtain ⟨m0, m1, m2, m3, m4, m5, m6, m7, m8, m9, m10, m11⟩ := row12 Rm
  go_wp2_with fail
  refine (H3 _).mono ?_
  rintro e w4 ⟨rfl, hb⟩
  have nng := Rg.lt
  have nnd := Rd.lt
  have nne := Re.lt
  have nny := Ry.lt
  have nnm := Rm.lt
  replace Rg := (Rg.alloc _).later hb
  replace Rd := (Rd.alloc _).later hb
  replace Re := (Re.alloc _).later hb
  replace Ry := (Ry.alloc _).later hb
  replace Rm := (Rm.alloc _).later hb
  have Rn := Row.later (Row.new _ _ _) hb
  have mn := hb0.size
  replace hb0 := below_step (hb0.alloc hb0.size _) hb
  clear hb
  generalize w3.heap.size = gn at *
  have lg := Rg.lt
  have ld := Rd.lt
  have le := Re.lt
  have ly := Ry.lt
  have lm := Rm.lt
  have ln := Rn.lt
  (try clear g0 g1 g2 g3 g4 g5 g6); obtain ⟨g0, g1, g2, g3, g4, g5, g6⟩ := row7 Rg
  (try clear d0 d1 d2 d3 d4 d5 d6 d7 d8 d9 d10 d11); obtain ⟨d0, d1, d2, d3, d4, d5, d6, d7, d8, d9, d10, d11⟩ := row12 Rd
  (try clear e0 e1 e2 e3 e4 e5 e6 e7 e8 e9 e10 e11); obtain ⟨e0, e1, e2, e3, e4, e5, e6, e7, e8, e9, e10, e11⟩ := row12 Re
  (try clear y0 y1); obtain ⟨y0, y1⟩ := row2 Ry
  (try clear m0 m1 m2 m3 m4 m5 m6 m7 m8 m9 m10 m11); obtain ⟨m0, m1, m2, m3, m4, m5, m6, m7, m8, m9, m10, m11⟩ := row12 Rm
  (try clear n0 n1 n2 n3 n4 n5 n6 n7 n8 n9 n10 n11); obtain ⟨n0, n1, n2, n3, n4, n5, n6, n7, n8, n9, n10, n11⟩ := row12 Rn
  go_wp2_with fail
  refine (HA _).mono ?_
  rintro e w5 ⟨rfl, hb⟩
  replace Rg := Rg.later hb
  replace Rd := Rd.later hb
  replace Re := Re.later hb
  replace Ry := Ry.later hb
  replace Rm := Rm.later hb
  replace Rn := Rn.later hb
  replace hb0 := below_step hb0 hb
  clear hb
  have lg := Rg.lt
  have ld := Rd.lt
  have le := Re.lt
  have ly := Ry.lt
  have lm := Rm.lt
  have ln := Rn.lt
  (try clear g0 g1 g2 g3 g4 g5 g6); obtain ⟨g0, g1, g2, g3, g4, g5, g6⟩ := row7 Rg
  (try clear d0 d1 d2 d3 d4 d5 d6 d7 d8 d9 d10 d11); obtain ⟨d0, d1, d2, d3, d4, d5, d6, d7, d8, d9, d10, d11⟩ := row12 Rd
  (try clear e0 e1 e2 e3 e4 e5 e6 e7 e8 e9 e10 e11); obtain ⟨e0, e1, e2, e3, e4, e5, e6, e7, e8, e9, e10, e11⟩ := row12 Re
  (try clear y0 y1); obtain ⟨y0, y1⟩ := row2 Ry
  (try clear m0 m1 m2 m3 m4 m5 m6 m7 m8 m9 m10 m11); obtain ⟨m0, m1, m2, m3, m4, m5, m6, m7, m8, m9, m10, m11⟩ := row12 Rm
  (try clear n0 n1 n2 n3 n4 n5 n6 n7 n8 n9 n10 n11); obtain ⟨n0, n1, n2, n3, n4, n5, n6, n7, n8, n9, n10, n11⟩ := row12 Rn
  go_wp2
  go_ret
  exact ⟨rfl, hb0⟩
set_option maxRecDepth 100000 in
set_option maxHeartbeats 32000000 in
theorem one_01ok (s : Sp) (p q u v t : Px) (i j hu2 hp2 : Int) (b : Bool)
    (H0 : ∀ w, Calls Try.prog 26 #[sv s, pv p, .agg #[.int .i64 i, .int .i64 j]] w fun e w' => e = .returned (pv u) ∧ Below w.heap.size w w')
    (H1 : ∀ w, Calls Try.prog 28 #[sv s, pv q, pv p] w fun e w' => e = .returned (.bool false) ∧ Below w.heap.size w w')
    (H2 : ∀ w, Calls Try.prog 20 #[sv s, pv q] w fun e w' => e = .returned (.bool false) ∧ Below w.heap.size w w')
    (H3 : ∀ w, Calls Try.prog 20 #[sv s, pv p] w fun e w' => e = .returned (.bool true) ∧ Below w.heap.size w w')
    (H5 : ∀ w, Calls Try.prog 22 #[sv s] w fun e w' => e = .returned (pv t) ∧ Below w.heap.size w w')
    (g0 : ¬ i < p.a0) (g1 : ¬ j < p.a1) (g2 : ¬ t.a0 < i) (g3 : ¬ t.a1 < j)
    (hu : u.a0 = i ∧ u.a1 = j)
    (H6 : ∀ w, Calls Try.prog 28 #[sv s, pv u, pv p] w fun e w' => e = .returned (.bool true) ∧ Below w.heap.size w w')
    (H7 : ∀ w, Calls Try.prog 25 #[sv s, pv u] w fun e w' => e = .returned (.int .i64 hu2) ∧ Below w.heap.size w w')
    (H8 : ∀ w, Calls Try.prog 25 #[sv s, pv p] w fun e w' => e = .returned (.int .i64 hp2) ∧ Below w.heap.size w w')
    (hh : hp2 ≤ hu2) (w : World) :
    Calls Try.prog 7 #[sv s, pv p, pv q, .int .i64 i, .int .i64 j] w fun e w' => e = .returned (.bool true) ∧ Below w.heap.size w w' := by
  have HA := alive9_t
  have qe := eql_px pz pz
  rw [decide_eq_true rfl] at qe
  have g0' : decide (i < p.a0) = false := decide_eq_false g0
  have g1' : decide (j < p.a1) = false := decide_eq_false g1
  have g2' : decide (t.a0 < i) = false := decide_eq_false g2
  have g3' : decide (t.a1 < j) = false := decide_eq_false g3
  have qa := eql_at u.a0 u.a1 i j
  rw [decide_eq_true hu] at qa
  have hh' : decide (hp2 ≤ hu2) = true := decide_eq_true hh
  clear hu
  unfold pz kz at *
  unfold sv pv at *
  obtain ⟨Rg, Rd, Re, hb0⟩ := three_rows w #[Value.int .i64 s.n, Value.int .i64 s.d0.kind, Value.int .i64 s.d0.side, Value.int .i64 s.d0.step, Value.int .i64 s.d1.kind, Value.int .i64 s.d1.side, Value.int .i64 s.d1.step] #[Value.int .i64 p.a0, Value.int .i64 p.a1, Value.int .i64 p.k0.kind, Value.int .i64 p.k0.len, Value.int .u64 p.k0.h, Value.int .u64 p.k0.l, Value.string ⟨p.k0.path.toArray⟩, Value.int .i64 p.k1.kind, Value.int .i64 p.k1.len, Value.int .u64 p.k1.h, Value.int .u64 p.k1.l, Value.string ⟨p.k1.path.toArray⟩] #[Value.int .i64 q.a0, Value.int .i64 q.a1, Value.int .i64 q.k0.kind, Value.int .i64 q.k0.len, Value.int .u64 q.k0.h, Value.int .u64 q.k0.l, Value.string ⟨q.k0.path.toArray⟩, Value.int .i64 q.k1.kind, Value.int .i64 q.k1.len, Value.int .u64 q.k1.h, Value.int .u64 q.k1.l, Value.string ⟨q.k1.path.toArray⟩] 26 33 33
  (try clear g0 g1 g2 g3 g4 g5 g6); obtain ⟨g0, g1, g2, g3, g4, g5, g6⟩ := row7 Rg
  (try clear d0 d1 d2 d3 d4 d5 d6 d7 d8 d9 d10 d11); obtain ⟨d0, d1, d2, d3, d4, d5, d6, d7, d8, d9, d10, d11⟩ := row12 Rd
  (try clear e0 e1 e2 e3 e4 e5 e6 e7 e8 e9 e10 e11); obtain ⟨e0, e1, e2, e3, e4, e5, e6, e7, e8, e9, e10, e11⟩ := row12 Re
  go_enter Try.func7, Try.ntmps7
  go_wp2_with fail
  refine (H0 _).mono ?_
  rintro e w1 ⟨rfl, hb⟩
  replace Rg := (Rg.alloc _).later hb
  replace Rd := (Rd.alloc _).later hb
  replace Re := (Re.alloc _).later hb
  have Ry := Row.later (Row.new _ _ _) hb
  simp only [World.size_alloc] at Ry
  replace hb0 := below_step (hb0.alloc hb0.size _) hb
  clear hb
  have lg := Rg.lt
  have ld := Rd.lt
  have le := Re.lt
  have ly := Ry.lt
  (try clear g0 g1 g2 g3 g4 g5 g6); obtain ⟨g0, g1, g2, g3, g4, g5, g6⟩ := row7 Rg
  (try clear d0 d1 d2 d3 d4 d5 d6 d7 d8 d9 d10 d11); obtain ⟨d0, d1, d2, d3, d4, d5, d6, d7, d8, d9, d10, d11⟩ := row12 Rd
  (try clear e0 e1 e2 e3 e4 e5 e6 e7 e8 e9 e10 e11); obtain ⟨e0, e1, e2, e3, e4, e5, e6, e7, e8, e9, e10, e11⟩ := row12 Re
  (try clear y0 y1); obtain ⟨y0, y1⟩ := row2 Ry
  go_wp2_with fail
  replace Rg := Rg.alloc (.cells #[Value.int .i64 u.a0, Value.int .i64 u.a1, Value.int .i64 u.k0.kind, Value.int .i64 u.k0.len, Value.int .u64 u.k0.h, Value.int .u64 u.k0.l, Value.string ⟨u.k0.path.toArray⟩, Value.int .i64 u.k1.kind, Value.int .i64 u.k1.len, Value.int .u64 u.k1.h, Value.int .u64 u.k1.l, Value.string ⟨u.k1.path.toArray⟩] 33)
  replace Rd := Rd.alloc (.cells #[Value.int .i64 u.a0, Value.int .i64 u.a1, Value.int .i64 u.k0.kind, Value.int .i64 u.k0.len, Value.int .u64 u.k0.h, Value.int .u64 u.k0.l, Value.string ⟨u.k0.path.toArray⟩, Value.int .i64 u.k1.kind, Value.int .i64 u.k1.len, Value.int .u64 u.k1.h, Value.int .u64 u.k1.l, Value.string ⟨u.k1.path.toArray⟩] 33)
  replace Re := Re.alloc (.cells #[Value.int .i64 u.a0, Value.int .i64 u.a1, Value.int .i64 u.k0.kind, Value.int .i64 u.k0.len, Value.int .u64 u.k0.h, Value.int .u64 u.k0.l, Value.string ⟨u.k0.path.toArray⟩, Value.int .i64 u.k1.kind, Value.int .i64 u.k1.len, Value.int .u64 u.k1.h, Value.int .u64 u.k1.l, Value.string ⟨u.k1.path.toArray⟩] 33)
  replace Ry := Ry.alloc (.cells #[Value.int .i64 u.a0, Value.int .i64 u.a1, Value.int .i64 u.k0.kind, Value.int .i64 u.k0.len, Value.int .u64 u.k0.h, Value.int .u64 u.k0.l, Value.string ⟨u.k0.path.toArray⟩, Value.int .i64 u.k1.kind, Value.int .i64 u.k1.len, Value.int .u64 u.k1.h, Value.int .u64 u.k1.l, Value.string ⟨u.k1.path.toArray⟩] 33)
  have Rm := Row.new w1 #[Value.int .i64 u.a0, Value.int .i64 u.a1, Value.int .i64 u.k0.kind, Value.int .i64 u.k0.len, Value.int .u64 u.k0.h, Value.int .u64 u.k0.l, Value.string ⟨u.k0.path.toArray⟩, Value.int .i64 u.k1.kind, Value.int .i64 u.k1.len, Value.int .u64 u.k1.h, Value.int .u64 u.k1.l, Value.string ⟨u.k1.path.toArray⟩] 33
  have mm := hb0.size
  replace hb0 := hb0.alloc hb0.size (.cells #[Value.int .i64 u.a0, Value.int .i64 u.a1, Value.int .i64 u.k0.kind, Value.int .i64 u.k0.len, Value.int .u64 u.k0.h, Value.int .u64 u.k0.l, Value.string ⟨u.k0.path.toArray⟩, Value.int .i64 u.k1.kind, Value.int .i64 u.k1.len, Value.int .u64 u.k1.h, Value.int .u64 u.k1.l, Value.string ⟨u.k1.path.toArray⟩] 33)
  (try clear g0 g1 g2 g3 g4 g5 g6); obtain ⟨g0, g1, g2, g3, g4, g5, g6⟩ := row7 Rg
  (try clear d0 d1 d2 d3 d4 d5 d6 d7 d8 d9 d10 d11); obtain ⟨d0, d1, d2, d3, d4, d5, d6, d7, d8, d9, d10, d11⟩ := row12 Rd
  (try clear e0 e1 e2 e3 e4 e5 e6 e7 e8 e9 e10 e11); obtain ⟨e0, e1, e2, e3, e4, e5, e6, e7, e8, e9, e10, e11⟩ := row12 Re
  (try clear y0 y1); obtain ⟨y0, y1⟩ := row2 Ry
  (try clear m0 m1 m2 m3 m4 m5 m6 m7 m8 m9 m10 m11); obtain ⟨m0, m1, m2, m3, m4, m5, m6, m7, m8, m9, m10, m11⟩ := row12 Rm
  refine wp_region_held_drew (S := (fun w' => w'.cell? ⟨w.heap.size + 1 + 1, 0, none⟩ = some (Value.int .i64 q.a0) ∧ w'.cell? ⟨w.heap.size + 1 + 1, 1, none⟩ = some (Value.int .i64 q.a1) ∧ Row w' w.heap.size #[Value.int .i64 s.n, Value.int .i64 s.d0.kind, Value.int .i64 s.d0.side, Value.int .i64 s.d0.step, Value.int .i64 s.d1.kind, Value.int .i64 s.d1.side, Value.int .i64 s.d1.step] 26 ∧ Row w' (w.heap.size + 1) #[Value.int .i64 p.a0, Value.int .i64 p.a1, Value.int .i64 p.k0.kind, Value.int .i64 p.k0.len, Value.int .u64 p.k0.h, Value.int .u64 p.k0.l, Value.string ⟨p.k0.path.toArray⟩, Value.int .i64 p.k1.kind, Value.int .i64 p.k1.len, Value.int .u64 p.k1.h, Value.int .u64 p.k1.l, Value.string ⟨p.k1.path.toArray⟩] 33 ∧ Row w' (w.heap.size + 1 + 1) #[Value.int .i64 q.a0, Value.int .i64 q.a1, Value.int .i64 q.k0.kind, Value.int .i64 q.k0.len, Value.int .u64 q.k0.h, Value.int .u64 q.k0.l, Value.string ⟨q.k0.path.toArray⟩, Value.int .i64 q.k1.kind, Value.int .i64 q.k1.len, Value.int .u64 q.k1.h, Value.int .u64 q.k1.l, Value.string ⟨q.k1.path.toArray⟩] 33)) (by kernel_rfl) ?hSr6_ (fun hHeld => ?_)
  case hSr6_ => (exact ⟨e0, e1, Rg.drew, Rd.drew, Re.drew⟩)
  (clear g0 g1 g2 g3 g4 g5 g6 d0 d1 d2 d3 d4 d5 d6 d7 d8 d9 d10 d11 e0 e1 e2 e3 e4 e5 e6 e7 e8 e9 e10 e11 y0 y1 m0 m1 m2 m3 m4 m5 m6 m7 m8 m9 m10 m11; (replace Rg := Rg.drew); (replace Rd := Rd.drew); (replace Re := Re.drew); (replace Ry := Ry.drew); (replace Rm := Rm.drew); (replace hb0 := hb0.drew); (generalize World.drew (World.alloc w1 (.cells #[Value.int .i64 u.a0, Value.int .i64 u.a1, Value.int .i64 u.k0.kind, Value.int .i64 u.k0.len, Value.int .u64 u.k0.h, Value.int .u64 u.k0.l, Value.string ⟨u.k0.path.toArray⟩, Value.int .i64 u.k1.kind, Value.int .i64 u.k1.len, Value.int .u64 u.k1.h, Value.int .u64 u.k1.l, Value.string ⟨u.k1.path.toArray⟩] 33)) = wq at *))
  refine tk 0 ⟨some 21, .load 26 (.tmp 5), 26, _, #[], none⟩ hHeld ?_ (v := ?vr6_1_0) (hy := ?yr6_1_0)
  case yr6_1_0 => (intro wy hSw; obtain ⟨e0, e1, Qg, Qd, Qe⟩ := hSw; (with_reducible refine pexec_load 26 (.tmp 5) ?_ w.heap.size ?_ 26 #[Value.int .i64 s.n, Value.int .i64 s.d0.kind, Value.int .i64 s.d0.side, Value.int .i64 s.d0.step, Value.int .i64 s.d1.kind, Value.int .i64 s.d1.side, Value.int .i64 s.d1.step] _ Qg Try.underlying26 ?_ ?_) <;> first | rfl | exact infoSp)
  (try simp only [Act.put, nz1, nz2, nz3])
  refine tk 1 ⟨some 22, .load 33 (.tmp 7), 33, _, #[], none⟩ hHeld ?_ (v := ?vr6_2_1) (hy := ?yr6_2_1)
  case yr6_2_1 => (intro wy hSw; obtain ⟨e0, e1, Qg, Qd, Qe⟩ := hSw; (with_reducible refine pexec_load 33 (.tmp 7) ?_ (w.heap.size + 1 + 1) ?_ 33 #[Value.int .i64 q.a0, Value.int .i64 q.a1, Value.int .i64 q.k0.kind, Value.int .i64 q.k0.len, Value.int .u64 q.k0.h, Value.int .u64 q.k0.l, Value.string ⟨q.k0.path.toArray⟩, Value.int .i64 q.k1.kind, Value.int .i64 q.k1.len, Value.int .u64 q.k1.h, Value.int .u64 q.k1.l, Value.string ⟨q.k1.path.toArray⟩] _ Qe Try.underlying33 ?_ ?_) <;> first | rfl | exact infoPx)
  (try simp only [Act.put, nz1, nz2, nz3])
  refine tk 2 ⟨some 23, .load 33 (.tmp 6), 33, _, #[], none⟩ hHeld ?_ (v := ?vr6_3_2) (hy := ?yr6_3_2)
  case yr6_3_2 => (intro wy hSw; obtain ⟨e0, e1, Qg, Qd, Qe⟩ := hSw; (with_reducible refine pexec_load 33 (.tmp 6) ?_ (w.heap.size + 1) ?_ 33 #[Value.int .i64 p.a0, Value.int .i64 p.a1, Value.int .i64 p.k0.kind, Value.int .i64 p.k0.len, Value.int .u64 p.k0.h, Value.int .u64 p.k0.l, Value.string ⟨p.k0.path.toArray⟩, Value.int .i64 p.k1.kind, Value.int .i64 p.k1.len, Value.int .u64 p.k1.h, Value.int .u64 p.k1.l, Value.string ⟨p.k1.path.toArray⟩] _ Qd Try.underlying33 ?_ ?_) <;> first | rfl | exact infoPx)
  (try simp only [Act.put, nz1, nz2, nz3])
  refine tk 4 ⟨some 25, .load 26 (.tmp 5), 26, _, #[], none⟩ hHeld ?_ (v := ?vr6_4_4) (hy := ?yr6_4_4)
  case yr6_4_4 => (intro wy hSw; obtain ⟨e0, e1, Qg, Qd, Qe⟩ := hSw; (with_reducible refine pexec_load 26 (.tmp 5) ?_ w.heap.size ?_ 26 #[Value.int .i64 s.n, Value.int .i64 s.d0.kind, Value.int .i64 s.d0.side, Value.int .i64 s.d0.step, Value.int .i64 s.d1.kind, Value.int .i64 s.d1.side, Value.int .i64 s.d1.step] _ Qg Try.underlying26 ?_ ?_) <;> first | rfl | exact infoSp)
  (try simp only [Act.put, nz1, nz2, nz3])
  refine tk 5 ⟨some 26, .load 33 (.tmp 7), 33, _, #[], none⟩ hHeld ?_ (v := ?vr6_5_5) (hy := ?yr6_5_5)
  case yr6_5_5 => (intro wy hSw; obtain ⟨e0, e1, Qg, Qd, Qe⟩ := hSw; (with_reducible refine pexec_load 33 (.tmp 7) ?_ (w.heap.size + 1 + 1) ?_ 33 #[Value.int .i64 q.a0, Value.int .i64 q.a1, Value.int .i64 q.k0.kind, Value.int .i64 q.k0.len, Value.int .u64 q.k0.h, Value.int .u64 q.k0.l, Value.string ⟨q.k0.path.toArray⟩, Value.int .i64 q.k1.kind, Value.int .i64 q.k1.len, Value.int .u64 q.k1.h, Value.int .u64 q.k1.l, Value.string ⟨q.k1.path.toArray⟩] _ Qe Try.underlying33 ?_ ?_) <;> first | rfl | exact infoPx)
  (try simp only [Act.put, nz1, nz2, nz3])
  refine wpAnyH_ready (rs := [3]) (by kernel_rfl) (by simp) ?_
  refine AllReadyH.cons (o := ⟨some 24, .call { callee := .value (.func 28), args := #[.tmp 21, .tmp 22, .tmp 23], argTypes := #[26, 33, 33] }, 4, _, #[⟨0, .data⟩, ⟨1, .data⟩, ⟨2, .data⟩], none⟩) rfl (fun K hK => ?_) AllReadyH.nil
  (go_simp; (refine (H1 _).mono ?_); (rintro e wz ⟨rfl, hb⟩); (replace Rg := Rg.later hb); (replace Rd := Rd.later hb); (replace Re := Re.later hb); (replace Ry := Ry.later hb); (replace Rm := Rm.later hb); (replace hb0 := below_step hb0 hb); go_wp2_with fail)
  refine hK.out _ _ ?hSr6_6_3 (fun hHeld2 => ?_)
  case hSr6_6_3 => (obtain ⟨e0, e1, Qg, Qd, Qe⟩ := hHeld; exact ⟨cell_later hb e0, cell_later hb e1, Qg.later hb, Qd.later hb, Qe.later hb⟩)
  clear hK K hHeld
  have hHeld := hHeld2
  clear hHeld2
  rename World => wq
  (try simp only [Act.put, nz1, nz2, nz3])
  refine wpAnyH_ready (rs := [6]) (by kernel_rfl) (by simp) ?_
  refine AllReadyH.cons (o := ⟨some 27, .call { callee := .value (.func 20), args := #[.tmp 25, .tmp 26], argTypes := #[26, 33] }, 4, _, #[⟨4, .data⟩, ⟨5, .data⟩, ⟨3, .chain⟩], none⟩) rfl (fun K hK => ?_) AllReadyH.nil
  (go_simp; (refine (H2 _).mono ?_); (rintro e wz ⟨rfl, hb⟩); (replace Rg := Rg.later hb); (replace Rd := Rd.later hb); (replace Re := Re.later hb); (replace Ry := Ry.later hb); (replace Rm := Rm.later hb); (replace hb0 := below_step hb0 hb); go_wp2_with fail)
  refine hK.out _ _ ?hSr6_7_6 (fun hHeld2 => ?_)
  case hSr6_7_6 => (obtain ⟨e0, e1, Qg, Qd, Qe⟩ := hHeld; exact ⟨cell_later hb e0, cell_later hb e1, Qg.later hb, Qd.later hb, Qe.later hb⟩)
  clear hK K hHeld
  have hHeld := hHeld2
  clear hHeld2
  rename World => wq
  (try simp only [Act.put, nz1, nz2, nz3])
  refine tk 7 ⟨some 28, .move (.tmp 27), 4, _, #[⟨6, .data⟩, ⟨6, .chain⟩], none⟩ hHeld ?_
  (try simp only [Act.put, nz1, nz2, nz3])
  refine ts 8 ⟨some 29, .load 26 (.tmp 5), 26, _, #[⟨7, .guard⟩], some (7, true)⟩ hHeld ?_
  (try simp only [Act.put, nz1, nz2, nz3])
  refine ts 9 ⟨some 30, .load 33 (.tmp 6), 33, _, #[⟨7, .guard⟩], some (7, true)⟩ hHeld ?_
  (try simp only [Act.put, nz1, nz2, nz3])
  refine ts 10 ⟨some 31, .call { callee := .value (.func 20), args := #[.tmp 29, .tmp 30], argTypes := #[26, 33] }, 4, _, #[⟨8, .data⟩, ⟨9, .data⟩, ⟨7, .chain⟩, ⟨7, .guard⟩], some (7, true)⟩ hHeld ?_
  (try simp only [Act.put, nz1, nz2, nz3])
  refine tk 11 ⟨some 32, .pick (.tmp 28) (.tmp 31) (.const (.bool false)), 4, _, #[⟨7, .data⟩, ⟨10, .data⟩], none⟩ hHeld ?_
  (try simp only [Act.put, nz1, nz2, nz3])
  refine tk 12 ⟨some 33, .move (.tmp 32), 4, _, #[⟨11, .data⟩, ⟨10, .chain⟩], none⟩ hHeld ?_
  (try simp only [Act.put, nz1, nz2, nz3])
  refine ts 13 ⟨some 34, .load 26 (.tmp 5), 26, _, #[⟨12, .guard⟩], some (12, true)⟩ hHeld ?_
  (try simp only [Act.put, nz1, nz2, nz3])
  refine ts 14 ⟨some 35, .load 33 (.tmp 6), 33, _, #[⟨12, .guard⟩], some (12, true)⟩ hHeld ?_
  (try simp only [Act.put, nz1, nz2, nz3])
  refine ts 15 ⟨some 36, .fieldAddr 33 (.tmp 7) 0, 0, _, #[⟨12, .guard⟩], some (12, true)⟩ hHeld ?_
  (try simp only [Act.put, nz1, nz2, nz3])
  refine ts 16 ⟨some 37, .load 27 (.tmp 36), 27, _, #[⟨15, .data⟩, ⟨12, .guard⟩], some (12, true)⟩ hHeld ?_
  (try simp only [Act.put, nz1, nz2, nz3])
  refine ts 17 ⟨some 38, .call { callee := .value (.func 26), args := #[.tmp 34, .tmp 35, .tmp 37], argTypes := #[26, 33, 27] }, 33, _, #[⟨13, .data⟩, ⟨14, .data⟩, ⟨16, .data⟩, ⟨12, .chain⟩, ⟨12, .guard⟩], some (12, true)⟩ hHeld ?_
  (try simp only [Act.put, nz1, nz2, nz3])
  refine ts 18 ⟨some 39, .load 33 (.tmp 7), 33, _, #[⟨12, .guard⟩], some (12, true)⟩ hHeld ?_
  (try simp only [Act.put, nz1, nz2, nz3])
  refine ts 19 ⟨some 40, .binOp .eql 33 (.tmp 38) (.tmp 39) 33, 4, _, #[⟨17, .data⟩, ⟨18, .data⟩, ⟨12, .guard⟩], some (12, true)⟩ hHeld ?_
  (try simp only [Act.put, nz1, nz2, nz3])
  refine tk 20 ⟨some 41, .pick (.tmp 33) (.tmp 40) (.const (.bool false)), 4, _, #[⟨12, .data⟩, ⟨19, .data⟩], none⟩ hHeld ?_
  (try simp only [Act.put, nz1, nz2, nz3])
  refine tk 21 ⟨some 42, .binOp .neq 4 (.tmp 24) (.tmp 41) 4, 4, _, #[⟨3, .data⟩, ⟨20, .data⟩], none⟩ hHeld ?_
  (try simp only [Act.put, nz1, nz2, nz3])
  refine wpAnyH_done (by kernel_rfl) ?_ _
  clear hHeld
  rename World => w2
  have lg := Rg.lt
  have ld := Rd.lt
  have le := Re.lt
  have ly := Ry.lt
  have lm := Rm.lt
  (try clear g0 g1 g2 g3 g4 g5 g6); obtain ⟨g0, g1, g2, g3, g4, g5, g6⟩ := row7 Rg
  (try clear d0 d1 d2 d3 d4 d5 d6 d7 d8 d9 d10 d11); obtain ⟨d0, d1, d2, d3, d4, d5, d6, d7, d8, d9, d10, d11⟩ := row12 Rd
  (try clear e0 e1 e2 e3 e4 e5 e6 e7 e8 e9 e10 e11); obtain ⟨e0, e1, e2, e3, e4, e5, e6, e7, e8, e9, e10, e11⟩ := row12 Re
  (try clear y0 y1); obtain ⟨y0, y1⟩ := row2 Ry
  (try clear m0 m1 m2 m3 m4 m5 m6 m7 m8 m9 m10 m11); obtain ⟨m0, m1, m2, m3, m4, m5, m6, m7, m8, m9, m10, m11⟩ := row12 Rm
  go_wp2_with fail
  refine (H5 _).mono ?_
  rintro e w3 ⟨rfl, hb⟩
  replace Rg := Rg.later hb
  replace Rd := Rd.later hb
  replace Re := Re.later hb
  replace Ry := Ry.later hb
  replace Rm := Rm.later hb
  replace hb0 := below_step hb0 hb
  clear hb
  have lg := Rg.lt
  have ld := Rd.lt
  have le := Re.lt
  have ly := Ry.lt
  have lm := Rm.lt
  (try clear g0 g1 g2 g3 g4 g5 g6); obtain ⟨g0, g1, g2, g3, g4, g5, g6⟩ := row7 Rg
  (try clear d0 d1 d2 d3 d4 d5 d6 d7 d8 d9 d10 d11); obtain ⟨d0, d1, d2, d3, d4, d5, d6, d7, d8, d9, d10, d11⟩ := row12 Rd
  (try clear e0 e1 e2 e3 e4 e5 e6 e7 e8 e9 e10 e11); obtain ⟨e0, e1, e2, e3, e4, e5, e6, e7, e8, e9, e10, e11⟩ := row12 Re
  (try clear y0 y1); obtain ⟨y0, y1⟩ := row2 Ry
  (try clear m0 m1 m2 m3 m4 m5 m6 m7 m8 m9 m10 m11); obtain ⟨m0, m1, m2, m3, m4, m5, m6, m7, m8, m9, m10, m11⟩ := row12 Rm
  go_wp2_with fail
  refine (H3 _).mono ?_
  rintro e w4 ⟨rfl, hb⟩
  have nng := Rg.lt
  have nnd := Rd.lt
  have nne := Re.lt
  have nny := Ry.lt
  have nnm := Rm.lt
  replace Rg := (Rg.alloc _).later hb
  replace Rd := (Rd.alloc _).later hb
  replace Re := (Re.alloc _).later hb
  replace Ry := (Ry.alloc _).later hb
  replace Rm := (Rm.alloc _).later hb
  have Rn := Row.later (Row.new _ _ _) hb
  have mn := hb0.size
  replace hb0 := below_step (hb0.alloc hb0.size _) hb
  clear hb
  generalize w3.heap.size = gn at *
  have lg := Rg.lt
  have ld := Rd.lt
  have le := Re.lt
  have ly := Ry.lt
  have lm := Rm.lt
  have ln := Rn.lt
  (try clear g0 g1 g2 g3 g4 g5 g6); obtain ⟨g0, g1, g2, g3, g4, g5, g6⟩ := row7 Rg
  (try clear d0 d1 d2 d3 d4 d5 d6 d7 d8 d9 d10 d11); obtain ⟨d0, d1, d2, d3, d4, d5, d6, d7, d8, d9, d10, d11⟩ := row12 Rd
  (try clear e0 e1 e2 e3 e4 e5 e6 e7 e8 e9 e10 e11); obtain ⟨e0, e1, e2, e3, e4, e5, e6, e7, e8, e9, e10, e11⟩ := row12 Re
  (try clear y0 y1); obtain ⟨y0, y1⟩ := row2 Ry
  (try clear m0 m1 m2 m3 m4 m5 m6 m7 m8 m9 m10 m11); obtain ⟨m0, m1, m2, m3, m4, m5, m6, m7, m8, m9, m10, m11⟩ := row12 Rm
  (try clear n0 n1 n2 n3 n4 n5 n6 n7 n8 n9 n10 n11); obtain ⟨n0, n1, n2, n3, n4, n5, n6, n7, n8, n9, n10, n11⟩ := row12 Rn
  go_wp2_with fail
  refine wp_region_held_drew (S := (fun w' => w'.cell? ⟨w1.heap.size, 0, none⟩ = some (Value.int .i64 u.a0) ∧ w'.cell? ⟨w1.heap.size, 1, none⟩ = some (Value.int .i64 u.a1) ∧ w'.cell? ⟨w.heap.size + 1 + 1 + 1, 0, none⟩ = some (Value.int .i64 i) ∧ w'.cell? ⟨w.heap.size + 1 + 1 + 1, 1, none⟩ = some (Value.int .i64 j) ∧ Row w' w.heap.size #[Value.int .i64 s.n, Value.int .i64 s.d0.kind, Value.int .i64 s.d0.side, Value.int .i64 s.d0.step, Value.int .i64 s.d1.kind, Value.int .i64 s.d1.side, Value.int .i64 s.d1.step] 26 ∧ Row w' (w.heap.size + 1) #[Value.int .i64 p.a0, Value.int .i64 p.a1, Value.int .i64 p.k0.kind, Value.int .i64 p.k0.len, Value.int .u64 p.k0.h, Value.int .u64 p.k0.l, Value.string ⟨p.k0.path.toArray⟩, Value.int .i64 p.k1.kind, Value.int .i64 p.k1.len, Value.int .u64 p.k1.h, Value.int .u64 p.k1.l, Value.string ⟨p.k1.path.toArray⟩] 33 ∧ Row w' w1.heap.size #[Value.int .i64 u.a0, Value.int .i64 u.a1, Value.int .i64 u.k0.kind, Value.int .i64 u.k0.len, Value.int .u64 u.k0.h, Value.int .u64 u.k0.l, Value.string ⟨u.k0.path.toArray⟩, Value.int .i64 u.k1.kind, Value.int .i64 u.k1.len, Value.int .u64 u.k1.h, Value.int .u64 u.k1.l, Value.string ⟨u.k1.path.toArray⟩] 33)) (by kernel_rfl) ?hSr7_ (fun hHeld => ?_)
  case hSr7_ => (exact ⟨m0, m1, y0, y1, Rg.drew, Rd.drew, Rm.drew⟩)
  (clear g0 g1 g2 g3 g4 g5 g6 d0 d1 d2 d3 d4 d5 d6 d7 d8 d9 d10 d11 e0 e1 e2 e3 e4 e5 e6 e7 e8 e9 e10 e11 y0 y1 m0 m1 m2 m3 m4 m5 m6 m7 m8 m9 m10 m11 n0 n1 n2 n3 n4 n5 n6 n7 n8 n9 n10 n11; (replace Rg := Rg.drew); (replace Rd := Rd.drew); (replace Re := Re.drew); (replace Ry := Ry.drew); (replace Rm := Rm.drew); (replace Rn := Rn.drew); (replace hb0 := hb0.drew); (generalize World.drew w4 = wq at *))
  refine wpAnyH_ready (rs := [0]) (by kernel_rfl) (by simp) ?_
  refine AllReadyH.cons (o := ⟨some 83, .call { callee := .value (.func 24), args := #[], argTypes := #[] }, 4, _, #[], none⟩) rfl (fun K hK => ?_) AllReadyH.nil
  (go_simp; (refine (HA _).mono ?_); (rintro e wz ⟨rfl, hb⟩); (replace Rg := Rg.later hb); (replace Rd := Rd.later hb); (replace Re := Re.later hb); (replace Ry := Ry.later hb); (replace Rm := Rm.later hb); (replace Rn := Rn.later hb); (replace hb0 := below_step hb0 hb); go_wp2_with fail)
  refine hK.out _ _ ?hSr7_1_0 (fun hHeld2 => ?_)
  case hSr7_1_0 => (obtain ⟨m0, m1, y0, y1, Qg, Qd, Qm⟩ := hHeld; exact ⟨cell_later hb m0, cell_later hb m1, cell_later hb y0, cell_later hb y1, Qg.later hb, Qd.later hb, Qm.later hb⟩)
  clear hK K hHeld
  have hHeld := hHeld2
  clear hHeld2
  rename World => wq
  (try simp only [Act.put, nz1, nz2, nz3])
  refine tk 1 ⟨some 84, .move (.tmp 83), 4, _, #[⟨0, .data⟩, ⟨0, .chain⟩], none⟩ hHeld ?_
  (try simp only [Act.put, nz1, nz2, nz3])
  refine tk 2 ⟨some 85, .fieldAddr 33 (.tmp 12) 0, 0, _, #[⟨1, .guard⟩], some (1, true)⟩ hHeld ?_
  (try simp only [Act.put, nz1, nz2, nz3])
  refine tk 3 ⟨some 86, .load 27 (.tmp 85), 27, _, #[⟨2, .data⟩, ⟨1, .guard⟩], some (1, true)⟩ hHeld ?_
  (try simp only [Act.put, nz1, nz2, nz3])
  refine tk 4 ⟨some 87, .load 27 (.tmp 11), 27, _, #[⟨1, .guard⟩], some (1, true)⟩ hHeld ?_
  (try simp only [Act.put, nz1, nz2, nz3])
  refine tk 5 ⟨some 88, .binOp .eql 27 (.tmp 86) (.tmp 87) 27, 4, _, #[⟨3, .data⟩, ⟨4, .data⟩, ⟨1, .guard⟩], some (1, true)⟩ hHeld ?_
  (try simp only [Act.put, nz1, nz2, nz3])
  refine tk 6 ⟨some 89, .pick (.tmp 84) (.tmp 88) (.const (.bool false)), 4, _, #[⟨1, .data⟩, ⟨5, .data⟩], none⟩ hHeld ?_
  (try simp only [Act.put, nz1, nz2, nz3])
  refine tk 7 ⟨some 90, .move (.tmp 89), 4, _, #[⟨6, .data⟩, ⟨1, .chain⟩], none⟩ hHeld ?_
  (try simp only [Act.put, nz1, nz2, nz3])
  refine tk 8 ⟨some 91, .load 26 (.tmp 5), 26, _, #[⟨7, .guard⟩], some (7, true)⟩ hHeld ?_ (v := ?vr7_9_8) (hy := ?yr7_9_8)
  case yr7_9_8 => (intro wy hSw; obtain ⟨m0, m1, y0, y1, Qg, Qd, Qm⟩ := hSw; (with_reducible refine pexec_load 26 (.tmp 5) ?_ w.heap.size ?_ 26 #[Value.int .i64 s.n, Value.int .i64 s.d0.kind, Value.int .i64 s.d0.side, Value.int .i64 s.d0.step, Value.int .i64 s.d1.kind, Value.int .i64 s.d1.side, Value.int .i64 s.d1.step] _ Qg Try.underlying26 ?_ ?_) <;> first | rfl | exact infoSp)
  (try simp only [Act.put, nz1, nz2, nz3])
  refine tk 9 ⟨some 92, .load 33 (.tmp 12), 33, _, #[⟨7, .guard⟩], some (7, true)⟩ hHeld ?_ (v := ?vr7_10_9) (hy := ?yr7_10_9)
  case yr7_10_9 => (intro wy hSw; obtain ⟨m0, m1, y0, y1, Qg, Qd, Qm⟩ := hSw; (with_reducible refine pexec_load 33 (.tmp 12) ?_ w1.heap.size ?_ 33 #[Value.int .i64 u.a0, Value.int .i64 u.a1, Value.int .i64 u.k0.kind, Value.int .i64 u.k0.len, Value.int .u64 u.k0.h, Value.int .u64 u.k0.l, Value.string ⟨u.k0.path.toArray⟩, Value.int .i64 u.k1.kind, Value.int .i64 u.k1.len, Value.int .u64 u.k1.h, Value.int .u64 u.k1.l, Value.string ⟨u.k1.path.toArray⟩] _ Qm Try.underlying33 ?_ ?_) <;> first | rfl | exact infoPx)
  (try simp only [Act.put, nz1, nz2, nz3])
  refine tk 10 ⟨some 93, .load 33 (.tmp 6), 33, _, #[⟨7, .guard⟩], some (7, true)⟩ hHeld ?_ (v := ?vr7_11_10) (hy := ?yr7_11_10)
  case yr7_11_10 => (intro wy hSw; obtain ⟨m0, m1, y0, y1, Qg, Qd, Qm⟩ := hSw; (with_reducible refine pexec_load 33 (.tmp 6) ?_ (w.heap.size + 1) ?_ 33 #[Value.int .i64 p.a0, Value.int .i64 p.a1, Value.int .i64 p.k0.kind, Value.int .i64 p.k0.len, Value.int .u64 p.k0.h, Value.int .u64 p.k0.l, Value.string ⟨p.k0.path.toArray⟩, Value.int .i64 p.k1.kind, Value.int .i64 p.k1.len, Value.int .u64 p.k1.h, Value.int .u64 p.k1.l, Value.string ⟨p.k1.path.toArray⟩] _ Qd Try.underlying33 ?_ ?_) <;> first | rfl | exact infoPx)
  (try simp only [Act.put, nz1, nz2, nz3])
  refine wpAnyH_ready (rs := [11]) (by kernel_rfl) (by simp) ?_
  refine AllReadyH.cons (o := ⟨some 94, .call { callee := .value (.func 28), args := #[.tmp 91, .tmp 92, .tmp 93], argTypes := #[26, 33, 33] }, 4, _, #[⟨8, .data⟩, ⟨9, .data⟩, ⟨10, .data⟩, ⟨7, .chain⟩, ⟨7, .guard⟩], some (7, true)⟩) rfl (fun K hK => ?_) AllReadyH.nil
  (go_simp; (refine (H6 _).mono ?_); (rintro e wz ⟨rfl, hb⟩); (replace Rg := Rg.later hb); (replace Rd := Rd.later hb); (replace Re := Re.later hb); (replace Ry := Ry.later hb); (replace Rm := Rm.later hb); (replace Rn := Rn.later hb); (replace hb0 := below_step hb0 hb); go_wp2_with fail)
  refine hK.out _ _ ?hSr7_12_11 (fun hHeld2 => ?_)
  case hSr7_12_11 => (obtain ⟨m0, m1, y0, y1, Qg, Qd, Qm⟩ := hHeld; exact ⟨cell_later hb m0, cell_later hb m1, cell_later hb y0, cell_later hb y1, Qg.later hb, Qd.later hb, Qm.later hb⟩)
  clear hK K hHeld
  have hHeld := hHeld2
  clear hHeld2
  rename World => wq
  (try simp only [Act.put, nz1, nz2, nz3])
  refine tk 12 ⟨some 95, .pick (.tmp 90) (.tmp 94) (.const (.bool false)), 4, _, #[⟨7, .data⟩, ⟨11, .data⟩], none⟩ hHeld ?_
  (try simp only [Act.put, nz1, nz2, nz3])
  refine tk 13 ⟨some 96, .move (.tmp 95), 4, _, #[⟨12, .data⟩, ⟨11, .chain⟩], none⟩ hHeld ?_
  (try simp only [Act.put, nz1, nz2, nz3])
  refine tk 14 ⟨some 97, .load 26 (.tmp 5), 26, _, #[⟨13, .guard⟩], some (13, true)⟩ hHeld ?_ (v := ?vr7_15_14) (hy := ?yr7_15_14)
  case yr7_15_14 => (intro wy hSw; obtain ⟨m0, m1, y0, y1, Qg, Qd, Qm⟩ := hSw; (with_reducible refine pexec_load 26 (.tmp 5) ?_ w.heap.size ?_ 26 #[Value.int .i64 s.n, Value.int .i64 s.d0.kind, Value.int .i64 s.d0.side, Value.int .i64 s.d0.step, Value.int .i64 s.d1.kind, Value.int .i64 s.d1.side, Value.int .i64 s.d1.step] _ Qg Try.underlying26 ?_ ?_) <;> first | rfl | exact infoSp)
  (try simp only [Act.put, nz1, nz2, nz3])
  refine tk 15 ⟨some 98, .load 33 (.tmp 12), 33, _, #[⟨13, .guard⟩], some (13, true)⟩ hHeld ?_ (v := ?vr7_16_15) (hy := ?yr7_16_15)
  case yr7_16_15 => (intro wy hSw; obtain ⟨m0, m1, y0, y1, Qg, Qd, Qm⟩ := hSw; (with_reducible refine pexec_load 33 (.tmp 12) ?_ w1.heap.size ?_ 33 #[Value.int .i64 u.a0, Value.int .i64 u.a1, Value.int .i64 u.k0.kind, Value.int .i64 u.k0.len, Value.int .u64 u.k0.h, Value.int .u64 u.k0.l, Value.string ⟨u.k0.path.toArray⟩, Value.int .i64 u.k1.kind, Value.int .i64 u.k1.len, Value.int .u64 u.k1.h, Value.int .u64 u.k1.l, Value.string ⟨u.k1.path.toArray⟩] _ Qm Try.underlying33 ?_ ?_) <;> first | rfl | exact infoPx)
  (try simp only [Act.put, nz1, nz2, nz3])
  refine tk 17 ⟨some 100, .load 26 (.tmp 5), 26, _, #[⟨13, .guard⟩], some (13, true)⟩ hHeld ?_ (v := ?vr7_17_17) (hy := ?yr7_17_17)
  case yr7_17_17 => (intro wy hSw; obtain ⟨m0, m1, y0, y1, Qg, Qd, Qm⟩ := hSw; (with_reducible refine pexec_load 26 (.tmp 5) ?_ w.heap.size ?_ 26 #[Value.int .i64 s.n, Value.int .i64 s.d0.kind, Value.int .i64 s.d0.side, Value.int .i64 s.d0.step, Value.int .i64 s.d1.kind, Value.int .i64 s.d1.side, Value.int .i64 s.d1.step] _ Qg Try.underlying26 ?_ ?_) <;> first | rfl | exact infoSp)
  (try simp only [Act.put, nz1, nz2, nz3])
  refine tk 18 ⟨some 101, .load 33 (.tmp 6), 33, _, #[⟨13, .guard⟩], some (13, true)⟩ hHeld ?_ (v := ?vr7_18_18) (hy := ?yr7_18_18)
  case yr7_18_18 => (intro wy hSw; obtain ⟨m0, m1, y0, y1, Qg, Qd, Qm⟩ := hSw; (with_reducible refine pexec_load 33 (.tmp 6) ?_ (w.heap.size + 1) ?_ 33 #[Value.int .i64 p.a0, Value.int .i64 p.a1, Value.int .i64 p.k0.kind, Value.int .i64 p.k0.len, Value.int .u64 p.k0.h, Value.int .u64 p.k0.l, Value.string ⟨p.k0.path.toArray⟩, Value.int .i64 p.k1.kind, Value.int .i64 p.k1.len, Value.int .u64 p.k1.h, Value.int .u64 p.k1.l, Value.string ⟨p.k1.path.toArray⟩] _ Qd Try.underlying33 ?_ ?_) <;> first | rfl | exact infoPx)
  (try simp only [Act.put, nz1, nz2, nz3])
  refine wpAnyH_ready (rs := [16]) (by kernel_rfl) (by simp) ?_
  refine AllReadyH.cons (o := ⟨some 99, .call { callee := .value (.func 25), args := #[.tmp 97, .tmp 98], argTypes := #[26, 33] }, 3, _, #[⟨14, .data⟩, ⟨15, .data⟩, ⟨13, .chain⟩, ⟨13, .guard⟩], some (13, true)⟩) rfl (fun K hK => ?_) AllReadyH.nil
  (go_simp; (refine (H7 _).mono ?_); (rintro e wz ⟨rfl, hb⟩); (replace Rg := Rg.later hb); (replace Rd := Rd.later hb); (replace Re := Re.later hb); (replace Ry := Ry.later hb); (replace Rm := Rm.later hb); (replace Rn := Rn.later hb); (replace hb0 := below_step hb0 hb); go_wp2_with fail)
  refine hK.out _ _ ?hSr7_19_16 (fun hHeld2 => ?_)
  case hSr7_19_16 => (obtain ⟨m0, m1, y0, y1, Qg, Qd, Qm⟩ := hHeld; exact ⟨cell_later hb m0, cell_later hb m1, cell_later hb y0, cell_later hb y1, Qg.later hb, Qd.later hb, Qm.later hb⟩)
  clear hK K hHeld
  have hHeld := hHeld2
  clear hHeld2
  rename World => wq
  (try simp only [Act.put, nz1, nz2, nz3])
  refine wpAnyH_ready (rs := [19]) (by kernel_rfl) (by simp) ?_
  refine AllReadyH.cons (o := ⟨some 102, .call { callee := .value (.func 25), args := #[.tmp 100, .tmp 101], argTypes := #[26, 33] }, 3, _, #[⟨17, .data⟩, ⟨18, .data⟩, ⟨16, .chain⟩, ⟨13, .guard⟩], some (13, true)⟩) rfl (fun K hK => ?_) AllReadyH.nil
  (go_simp; (refine (H8 _).mono ?_); (rintro e wz ⟨rfl, hb⟩); (replace Rg := Rg.later hb); (replace Rd := Rd.later hb); (replace Re := Re.later hb); (replace Ry := Ry.later hb); (replace Rm := Rm.later hb); (replace Rn := Rn.later hb); (replace hb0 := below_step hb0 hb); go_wp2_with fail)
  refine hK.out _ _ ?hSr7_20_19 (fun hHeld2 => ?_)
  case hSr7_20_19 => (obtain ⟨m0, m1, y0, y1, Qg, Qd, Qm⟩ := hHeld; exact ⟨cell_later hb m0, cell_later hb m1, cell_later hb y0, cell_later hb y1, Qg.later hb, Qd.later hb, Qm.later hb⟩)
  clear hK K hHeld
  have hHeld := hHeld2
  clear hHeld2
  rename World => wq
  (try simp only [Act.put, nz1, nz2, nz3])
  refine tk 20 ⟨some 103, .binOp .geq 3 (.tmp 99) (.tmp 102) 3, 4, _, #[⟨16, .data⟩, ⟨19, .data⟩, ⟨13, .guard⟩], some (13, true)⟩ hHeld ?_
  (try simp only [Act.put, nz1, nz2, nz3])
  refine tk 21 ⟨some 104, .pick (.tmp 96) (.tmp 103) (.const (.bool false)), 4, _, #[⟨13, .data⟩, ⟨20, .data⟩], none⟩ hHeld ?_
  (try simp only [Act.put, nz1, nz2, nz3])
  refine tk 22 ⟨some 10, .assign (.tmp 104), 4, _, #[⟨21, .data⟩, ⟨19, .chain⟩, ⟨0, .phase⟩, ⟨1, .phase⟩, ⟨2, .phase⟩, ⟨3, .phase⟩, ⟨4, .phase⟩, ⟨5, .phase⟩, ⟨6, .phase⟩, ⟨7, .phase⟩, ⟨8, .phase⟩, ⟨9, .phase⟩, ⟨10, .phase⟩, ⟨11, .phase⟩, ⟨12, .phase⟩, ⟨13, .phase⟩, ⟨14, .phase⟩, ⟨15, .phase⟩, ⟨16, .phase⟩, ⟨17, .phase⟩, ⟨18, .phase⟩, ⟨19, .phase⟩, ⟨20, .phase⟩, ⟨21, .phase⟩], none⟩ hHeld ?_
  (try simp only [Act.put, nz1, nz2, nz3])
  refine wpAnyH_done (by kernel_rfl) ?_ _
  clear hHeld
  rename World => w5
  have lg := Rg.lt
  have ld := Rd.lt
  have le := Re.lt
  have ly := Ry.lt
  have lm := Rm.lt
  have ln := Rn.lt
  (try clear g0 g1 g2 g3 g4 g5 g6); obtain ⟨g0, g1, g2, g3, g4, g5, g6⟩ := row7 Rg
  (try clear d0 d1 d2 d3 d4 d5 d6 d7 d8 d9 d10 d11); obtain ⟨d0, d1, d2, d3, d4, d5, d6, d7, d8, d9, d10, d11⟩ := row12 Rd
  (try clear e0 e1 e2 e3 e4 e5 e6 e7 e8 e9 e10 e11); obtain ⟨e0, e1, e2, e3, e4, e5, e6, e7, e8, e9, e10, e11⟩ := row12 Re
  (try clear y0 y1); obtain ⟨y0, y1⟩ := row2 Ry
  (try clear m0 m1 m2 m3 m4 m5 m6 m7 m8 m9 m10 m11); obtain ⟨m0, m1, m2, m3, m4, m5, m6, m7, m8, m9, m10, m11⟩ := row12 Rm
  (try clear n0 n1 n2 n3 n4 n5 n6 n7 n8 n9 n10 n11); obtain ⟨n0, n1, n2, n3, n4, n5, n6, n7, n8, n9, n10, n11⟩ := row12 Rn
  go_wp2
  go_ret
  exact ⟨rfl, hb0⟩
set_option maxRecDepth 100000 in
set_option maxHeartbeats 32000000 in
theorem one_10x (s : Sp) (p q u v t : Px) (i j hu2 hp2 : Int) (b : Bool)
    (H0 : ∀ w, Calls Try.prog 26 #[sv s, pv p, .agg #[.int .i64 i, .int .i64 j]] w fun e w' => e = .returned (pv pz) ∧ Below w.heap.size w w')
    (H1 : ∀ w, Calls Try.prog 28 #[sv s, pv q, pv p] w fun e w' => e = .returned (.bool false) ∧ Below w.heap.size w w')
    (H2 : ∀ w, Calls Try.prog 20 #[sv s, pv q] w fun e w' => e = .returned (.bool true) ∧ Below w.heap.size w w')
    (H3 : ∀ w, Calls Try.prog 20 #[sv s, pv p] w fun e w' => e = .returned (.bool false) ∧ Below w.heap.size w w')
    (H5 : ∀ w, Calls Try.prog 22 #[sv s] w fun e w' => e = .returned (pv t) ∧ Below w.heap.size w w')
     (w : World) :
    Calls Try.prog 7 #[sv s, pv p, pv q, .int .i64 i, .int .i64 j] w fun e w' => e = .returned (.bool true) ∧ Below w.heap.size w w' := by
  have HA := alive9_t
  have qe := eql_px pz pz
  rw [decide_eq_true rfl] at qe
  unfold pz kz at *
  unfold sv pv at *
  obtain ⟨Rg, Rd, Re, hb0⟩ := three_rows w #[Value.int .i64 s.n, Value.int .i64 s.d0.kind, Value.int .i64 s.d0.side, Value.int .i64 s.d0.step, Value.int .i64 s.d1.kind, Value.int .i64 s.d1.side, Value.int .i64 s.d1.step] #[Value.int .i64 p.a0, Value.int .i64 p.a1, Value.int .i64 p.k0.kind, Value.int .i64 p.k0.len, Value.int .u64 p.k0.h, Value.int .u64 p.k0.l, Value.string ⟨p.k0.path.toArray⟩, Value.int .i64 p.k1.kind, Value.int .i64 p.k1.len, Value.int .u64 p.k1.h, Value.int .u64 p.k1.l, Value.string ⟨p.k1.path.toArray⟩] #[Value.int .i64 q.a0, Value.int .i64 q.a1, Value.int .i64 q.k0.kind, Value.int .i64 q.k0.len, Value.int .u64 q.k0.h, Value.int .u64 q.k0.l, Value.string ⟨q.k0.path.toArray⟩, Value.int .i64 q.k1.kind, Value.int .i64 q.k1.len, Value.int .u64 q.k1.h, Value.int .u64 q.k1.l, Value.string ⟨q.k1.path.toArray⟩] 26 33 33
  (try clear g0 g1 g2 g3 g4 g5 g6); obtain ⟨g0, g1, g2, g3, g4, g5, g6⟩ := row7 Rg
  (try clear d0 d1 d2 d3 d4 d5 d6 d7 d8 d9 d10 d11); obtain ⟨d0, d1, d2, d3, d4, d5, d6, d7, d8, d9, d10, d11⟩ := row12 Rd
  (try clear e0 e1 e2 e3 e4 e5 e6 e7 e8 e9 e10 e11); obtain ⟨e0, e1, e2, e3, e4, e5, e6, e7, e8, e9, e10, e11⟩ := row12 Re
  go_enter Try.func7, Try.ntmps7
  go_wp2_with fail
  refine (H0 _).mono ?_
  rintro e w1 ⟨rfl, hb⟩
  replace Rg := (Rg.alloc _).later hb
  replace Rd := (Rd.alloc _).later hb
  replace Re := (Re.alloc _).later hb
  have Ry := Row.later (Row.new _ _ _) hb
  simp only [World.size_alloc] at Ry
  replace hb0 := below_step (hb0.alloc hb0.size _) hb
  clear hb
  have lg := Rg.lt
  have ld := Rd.lt
  have le := Re.lt
  have ly := Ry.lt
  (try clear g0 g1 g2 g3 g4 g5 g6); obtain ⟨g0, g1, g2, g3, g4, g5, g6⟩ := row7 Rg
  (try clear d0 d1 d2 d3 d4 d5 d6 d7 d8 d9 d10 d11); obtain ⟨d0, d1, d2, d3, d4, d5, d6, d7, d8, d9, d10, d11⟩ := row12 Rd
  (try clear e0 e1 e2 e3 e4 e5 e6 e7 e8 e9 e10 e11); obtain ⟨e0, e1, e2, e3, e4, e5, e6, e7, e8, e9, e10, e11⟩ := row12 Re
  (try clear y0 y1); obtain ⟨y0, y1⟩ := row2 Ry
  go_wp2_with fail
  replace Rg := Rg.alloc (.cells #[Value.int .i64 0, Value.int .i64 0, Value.int .i64 0, Value.int .i64 0, Value.int .u64 0, Value.int .u64 0, Value.string ⟨#[]⟩, Value.int .i64 0, Value.int .i64 0, Value.int .u64 0, Value.int .u64 0, Value.string ⟨#[]⟩] 33)
  replace Rd := Rd.alloc (.cells #[Value.int .i64 0, Value.int .i64 0, Value.int .i64 0, Value.int .i64 0, Value.int .u64 0, Value.int .u64 0, Value.string ⟨#[]⟩, Value.int .i64 0, Value.int .i64 0, Value.int .u64 0, Value.int .u64 0, Value.string ⟨#[]⟩] 33)
  replace Re := Re.alloc (.cells #[Value.int .i64 0, Value.int .i64 0, Value.int .i64 0, Value.int .i64 0, Value.int .u64 0, Value.int .u64 0, Value.string ⟨#[]⟩, Value.int .i64 0, Value.int .i64 0, Value.int .u64 0, Value.int .u64 0, Value.string ⟨#[]⟩] 33)
  replace Ry := Ry.alloc (.cells #[Value.int .i64 0, Value.int .i64 0, Value.int .i64 0, Value.int .i64 0, Value.int .u64 0, Value.int .u64 0, Value.string ⟨#[]⟩, Value.int .i64 0, Value.int .i64 0, Value.int .u64 0, Value.int .u64 0, Value.string ⟨#[]⟩] 33)
  have Rm := Row.new w1 #[Value.int .i64 0, Value.int .i64 0, Value.int .i64 0, Value.int .i64 0, Value.int .u64 0, Value.int .u64 0, Value.string ⟨#[]⟩, Value.int .i64 0, Value.int .i64 0, Value.int .u64 0, Value.int .u64 0, Value.string ⟨#[]⟩] 33
  have mm := hb0.size
  replace hb0 := hb0.alloc hb0.size (.cells #[Value.int .i64 0, Value.int .i64 0, Value.int .i64 0, Value.int .i64 0, Value.int .u64 0, Value.int .u64 0, Value.string ⟨#[]⟩, Value.int .i64 0, Value.int .i64 0, Value.int .u64 0, Value.int .u64 0, Value.string ⟨#[]⟩] 33)
  (try clear g0 g1 g2 g3 g4 g5 g6); obtain ⟨g0, g1, g2, g3, g4, g5, g6⟩ := row7 Rg
  (try clear d0 d1 d2 d3 d4 d5 d6 d7 d8 d9 d10 d11); obtain ⟨d0, d1, d2, d3, d4, d5, d6, d7, d8, d9, d10, d11⟩ := row12 Rd
  (try clear e0 e1 e2 e3 e4 e5 e6 e7 e8 e9 e10 e11); obtain ⟨e0, e1, e2, e3, e4, e5, e6, e7, e8, e9, e10, e11⟩ := row12 Re
  (try clear y0 y1); obtain ⟨y0, y1⟩ := row2 Ry
  (try clear m0 m1 m2 m3 m4 m5 m6 m7 m8 m9 m10 m11); obtain ⟨m0, m1, m2, m3, m4, m5, m6, m7, m8, m9, m10, m11⟩ := row12 Rm
  refine wp_region_held_drew (S := (fun w' => w'.cell? ⟨w.heap.size + 1 + 1, 0, none⟩ = some (Value.int .i64 q.a0) ∧ w'.cell? ⟨w.heap.size + 1 + 1, 1, none⟩ = some (Value.int .i64 q.a1) ∧ Row w' w.heap.size #[Value.int .i64 s.n, Value.int .i64 s.d0.kind, Value.int .i64 s.d0.side, Value.int .i64 s.d0.step, Value.int .i64 s.d1.kind, Value.int .i64 s.d1.side, Value.int .i64 s.d1.step] 26 ∧ Row w' (w.heap.size + 1) #[Value.int .i64 p.a0, Value.int .i64 p.a1, Value.int .i64 p.k0.kind, Value.int .i64 p.k0.len, Value.int .u64 p.k0.h, Value.int .u64 p.k0.l, Value.string ⟨p.k0.path.toArray⟩, Value.int .i64 p.k1.kind, Value.int .i64 p.k1.len, Value.int .u64 p.k1.h, Value.int .u64 p.k1.l, Value.string ⟨p.k1.path.toArray⟩] 33 ∧ Row w' (w.heap.size + 1 + 1) #[Value.int .i64 q.a0, Value.int .i64 q.a1, Value.int .i64 q.k0.kind, Value.int .i64 q.k0.len, Value.int .u64 q.k0.h, Value.int .u64 q.k0.l, Value.string ⟨q.k0.path.toArray⟩, Value.int .i64 q.k1.kind, Value.int .i64 q.k1.len, Value.int .u64 q.k1.h, Value.int .u64 q.k1.l, Value.string ⟨q.k1.path.toArray⟩] 33)) (by kernel_rfl) ?hSr8_ (fun hHeld => ?_)
  case hSr8_ => (exact ⟨e0, e1, Rg.drew, Rd.drew, Re.drew⟩)
  (clear g0 g1 g2 g3 g4 g5 g6 d0 d1 d2 d3 d4 d5 d6 d7 d8 d9 d10 d11 e0 e1 e2 e3 e4 e5 e6 e7 e8 e9 e10 e11 y0 y1 m0 m1 m2 m3 m4 m5 m6 m7 m8 m9 m10 m11; (replace Rg := Rg.drew); (replace Rd := Rd.drew); (replace Re := Re.drew); (replace Ry := Ry.drew); (replace Rm := Rm.drew); (replace hb0 := hb0.drew); (generalize World.drew (World.alloc w1 (.cells #[Value.int .i64 0, Value.int .i64 0, Value.int .i64 0, Value.int .i64 0, Value.int .u64 0, Value.int .u64 0, Value.string ⟨#[]⟩, Value.int .i64 0, Value.int .i64 0, Value.int .u64 0, Value.int .u64 0, Value.string ⟨#[]⟩] 33)) = wq at *))
  refine tk 0 ⟨some 21, .load 26 (.tmp 5), 26, _, #[], none⟩ hHeld ?_ (v := ?vr8_1_0) (hy := ?yr8_1_0)
  case yr8_1_0 => (intro wy hSw; obtain ⟨e0, e1, Qg, Qd, Qe⟩ := hSw; (with_reducible refine pexec_load 26 (.tmp 5) ?_ w.heap.size ?_ 26 #[Value.int .i64 s.n, Value.int .i64 s.d0.kind, Value.int .i64 s.d0.side, Value.int .i64 s.d0.step, Value.int .i64 s.d1.kind, Value.int .i64 s.d1.side, Value.int .i64 s.d1.step] _ Qg Try.underlying26 ?_ ?_) <;> first | rfl | exact infoSp)
  (try simp only [Act.put, nz1, nz2, nz3])
  refine tk 1 ⟨some 22, .load 33 (.tmp 7), 33, _, #[], none⟩ hHeld ?_ (v := ?vr8_2_1) (hy := ?yr8_2_1)
  case yr8_2_1 => (intro wy hSw; obtain ⟨e0, e1, Qg, Qd, Qe⟩ := hSw; (with_reducible refine pexec_load 33 (.tmp 7) ?_ (w.heap.size + 1 + 1) ?_ 33 #[Value.int .i64 q.a0, Value.int .i64 q.a1, Value.int .i64 q.k0.kind, Value.int .i64 q.k0.len, Value.int .u64 q.k0.h, Value.int .u64 q.k0.l, Value.string ⟨q.k0.path.toArray⟩, Value.int .i64 q.k1.kind, Value.int .i64 q.k1.len, Value.int .u64 q.k1.h, Value.int .u64 q.k1.l, Value.string ⟨q.k1.path.toArray⟩] _ Qe Try.underlying33 ?_ ?_) <;> first | rfl | exact infoPx)
  (try simp only [Act.put, nz1, nz2, nz3])
  refine tk 2 ⟨some 23, .load 33 (.tmp 6), 33, _, #[], none⟩ hHeld ?_ (v := ?vr8_3_2) (hy := ?yr8_3_2)
  case yr8_3_2 => (intro wy hSw; obtain ⟨e0, e1, Qg, Qd, Qe⟩ := hSw; (with_reducible refine pexec_load 33 (.tmp 6) ?_ (w.heap.size + 1) ?_ 33 #[Value.int .i64 p.a0, Value.int .i64 p.a1, Value.int .i64 p.k0.kind, Value.int .i64 p.k0.len, Value.int .u64 p.k0.h, Value.int .u64 p.k0.l, Value.string ⟨p.k0.path.toArray⟩, Value.int .i64 p.k1.kind, Value.int .i64 p.k1.len, Value.int .u64 p.k1.h, Value.int .u64 p.k1.l, Value.string ⟨p.k1.path.toArray⟩] _ Qd Try.underlying33 ?_ ?_) <;> first | rfl | exact infoPx)
  (try simp only [Act.put, nz1, nz2, nz3])
  refine tk 4 ⟨some 25, .load 26 (.tmp 5), 26, _, #[], none⟩ hHeld ?_ (v := ?vr8_4_4) (hy := ?yr8_4_4)
  case yr8_4_4 => (intro wy hSw; obtain ⟨e0, e1, Qg, Qd, Qe⟩ := hSw; (with_reducible refine pexec_load 26 (.tmp 5) ?_ w.heap.size ?_ 26 #[Value.int .i64 s.n, Value.int .i64 s.d0.kind, Value.int .i64 s.d0.side, Value.int .i64 s.d0.step, Value.int .i64 s.d1.kind, Value.int .i64 s.d1.side, Value.int .i64 s.d1.step] _ Qg Try.underlying26 ?_ ?_) <;> first | rfl | exact infoSp)
  (try simp only [Act.put, nz1, nz2, nz3])
  refine tk 5 ⟨some 26, .load 33 (.tmp 7), 33, _, #[], none⟩ hHeld ?_ (v := ?vr8_5_5) (hy := ?yr8_5_5)
  case yr8_5_5 => (intro wy hSw; obtain ⟨e0, e1, Qg, Qd, Qe⟩ := hSw; (with_reducible refine pexec_load 33 (.tmp 7) ?_ (w.heap.size + 1 + 1) ?_ 33 #[Value.int .i64 q.a0, Value.int .i64 q.a1, Value.int .i64 q.k0.kind, Value.int .i64 q.k0.len, Value.int .u64 q.k0.h, Value.int .u64 q.k0.l, Value.string ⟨q.k0.path.toArray⟩, Value.int .i64 q.k1.kind, Value.int .i64 q.k1.len, Value.int .u64 q.k1.h, Value.int .u64 q.k1.l, Value.string ⟨q.k1.path.toArray⟩] _ Qe Try.underlying33 ?_ ?_) <;> first | rfl | exact infoPx)
  (try simp only [Act.put, nz1, nz2, nz3])
  refine wpAnyH_ready (rs := [3]) (by kernel_rfl) (by simp) ?_
  refine AllReadyH.cons (o := ⟨some 24, .call { callee := .value (.func 28), args := #[.tmp 21, .tmp 22, .tmp 23], argTypes := #[26, 33, 33] }, 4, _, #[⟨0, .data⟩, ⟨1, .data⟩, ⟨2, .data⟩], none⟩) rfl (fun K hK => ?_) AllReadyH.nil
  (go_simp; (refine (H1 _).mono ?_); (rintro e wz ⟨rfl, hb⟩); (replace Rg := Rg.later hb); (replace Rd := Rd.later hb); (replace Re := Re.later hb); (replace Ry := Ry.later hb); (replace Rm := Rm.later hb); (replace hb0 := below_step hb0 hb); go_wp2_with fail)
  refine hK.out _ _ ?hSr8_6_3 (fun hHeld2 => ?_)
  case hSr8_6_3 => (obtain ⟨e0, e1, Qg, Qd, Qe⟩ := hHeld; exact ⟨cell_later hb e0, cell_later hb e1, Qg.later hb, Qd.later hb, Qe.later hb⟩)
  clear hK K hHeld
  have hHeld := hHeld2
  clear hHeld2
  rename World => wq
  (try simp only [Act.put, nz1, nz2, nz3])
  refine wpAnyH_ready (rs := [6]) (by kernel_rfl) (by simp) ?_
  refine AllReadyH.cons (o := ⟨some 27, .call { callee := .value (.func 20), args := #[.tmp 25, .tmp 26], argTypes := #[26, 33] }, 4, _, #[⟨4, .data⟩, ⟨5, .data⟩, ⟨3, .chain⟩], none⟩) rfl (fun K hK => ?_) AllReadyH.nil
  (go_simp; (refine (H2 _).mono ?_); (rintro e wz ⟨rfl, hb⟩); (replace Rg := Rg.later hb); (replace Rd := Rd.later hb); (replace Re := Re.later hb); (replace Ry := Ry.later hb); (replace Rm := Rm.later hb); (replace hb0 := below_step hb0 hb); go_wp2_with fail)
  refine hK.out _ _ ?hSr8_7_6 (fun hHeld2 => ?_)
  case hSr8_7_6 => (obtain ⟨e0, e1, Qg, Qd, Qe⟩ := hHeld; exact ⟨cell_later hb e0, cell_later hb e1, Qg.later hb, Qd.later hb, Qe.later hb⟩)
  clear hK K hHeld
  have hHeld := hHeld2
  clear hHeld2
  rename World => wq
  (try simp only [Act.put, nz1, nz2, nz3])
  refine tk 7 ⟨some 28, .move (.tmp 27), 4, _, #[⟨6, .data⟩, ⟨6, .chain⟩], none⟩ hHeld ?_
  (try simp only [Act.put, nz1, nz2, nz3])
  refine tk 8 ⟨some 29, .load 26 (.tmp 5), 26, _, #[⟨7, .guard⟩], some (7, true)⟩ hHeld ?_ (v := ?vr8_9_8) (hy := ?yr8_9_8)
  case yr8_9_8 => (intro wy hSw; obtain ⟨e0, e1, Qg, Qd, Qe⟩ := hSw; (with_reducible refine pexec_load 26 (.tmp 5) ?_ w.heap.size ?_ 26 #[Value.int .i64 s.n, Value.int .i64 s.d0.kind, Value.int .i64 s.d0.side, Value.int .i64 s.d0.step, Value.int .i64 s.d1.kind, Value.int .i64 s.d1.side, Value.int .i64 s.d1.step] _ Qg Try.underlying26 ?_ ?_) <;> first | rfl | exact infoSp)
  (try simp only [Act.put, nz1, nz2, nz3])
  refine tk 9 ⟨some 30, .load 33 (.tmp 6), 33, _, #[⟨7, .guard⟩], some (7, true)⟩ hHeld ?_ (v := ?vr8_10_9) (hy := ?yr8_10_9)
  case yr8_10_9 => (intro wy hSw; obtain ⟨e0, e1, Qg, Qd, Qe⟩ := hSw; (with_reducible refine pexec_load 33 (.tmp 6) ?_ (w.heap.size + 1) ?_ 33 #[Value.int .i64 p.a0, Value.int .i64 p.a1, Value.int .i64 p.k0.kind, Value.int .i64 p.k0.len, Value.int .u64 p.k0.h, Value.int .u64 p.k0.l, Value.string ⟨p.k0.path.toArray⟩, Value.int .i64 p.k1.kind, Value.int .i64 p.k1.len, Value.int .u64 p.k1.h, Value.int .u64 p.k1.l, Value.string ⟨p.k1.path.toArray⟩] _ Qd Try.underlying33 ?_ ?_) <;> first | rfl | exact infoPx)
  (try simp only [Act.put, nz1, nz2, nz3])
  refine wpAnyH_ready (rs := [10]) (by kernel_rfl) (by simp) ?_
  refine AllReadyH.cons (o := ⟨some 31, .call { callee := .value (.func 20), args := #[.tmp 29, .tmp 30], argTypes := #[26, 33] }, 4, _, #[⟨8, .data⟩, ⟨9, .data⟩, ⟨7, .chain⟩, ⟨7, .guard⟩], some (7, true)⟩) rfl (fun K hK => ?_) AllReadyH.nil
  (go_simp; (refine (H3 _).mono ?_); (rintro e wz ⟨rfl, hb⟩); (replace Rg := Rg.later hb); (replace Rd := Rd.later hb); (replace Re := Re.later hb); (replace Ry := Ry.later hb); (replace Rm := Rm.later hb); (replace hb0 := below_step hb0 hb); go_wp2_with fail)
  refine hK.out _ _ ?hSr8_11_10 (fun hHeld2 => ?_)
  case hSr8_11_10 => (obtain ⟨e0, e1, Qg, Qd, Qe⟩ := hHeld; exact ⟨cell_later hb e0, cell_later hb e1, Qg.later hb, Qd.later hb, Qe.later hb⟩)
  clear hK K hHeld
  have hHeld := hHeld2
  clear hHeld2
  rename World => wq
  (try simp only [Act.put, nz1, nz2, nz3])
  refine tk 11 ⟨some 32, .pick (.tmp 28) (.tmp 31) (.const (.bool false)), 4, _, #[⟨7, .data⟩, ⟨10, .data⟩], none⟩ hHeld ?_
  (try simp only [Act.put, nz1, nz2, nz3])
  refine tk 12 ⟨some 33, .move (.tmp 32), 4, _, #[⟨11, .data⟩, ⟨10, .chain⟩], none⟩ hHeld ?_
  (try simp only [Act.put, nz1, nz2, nz3])
  refine ts 13 ⟨some 34, .load 26 (.tmp 5), 26, _, #[⟨12, .guard⟩], some (12, true)⟩ hHeld ?_
  (try simp only [Act.put, nz1, nz2, nz3])
  refine ts 14 ⟨some 35, .load 33 (.tmp 6), 33, _, #[⟨12, .guard⟩], some (12, true)⟩ hHeld ?_
  (try simp only [Act.put, nz1, nz2, nz3])
  refine ts 15 ⟨some 36, .fieldAddr 33 (.tmp 7) 0, 0, _, #[⟨12, .guard⟩], some (12, true)⟩ hHeld ?_
  (try simp only [Act.put, nz1, nz2, nz3])
  refine ts 16 ⟨some 37, .load 27 (.tmp 36), 27, _, #[⟨15, .data⟩, ⟨12, .guard⟩], some (12, true)⟩ hHeld ?_
  (try simp only [Act.put, nz1, nz2, nz3])
  refine ts 17 ⟨some 38, .call { callee := .value (.func 26), args := #[.tmp 34, .tmp 35, .tmp 37], argTypes := #[26, 33, 27] }, 33, _, #[⟨13, .data⟩, ⟨14, .data⟩, ⟨16, .data⟩, ⟨12, .chain⟩, ⟨12, .guard⟩], some (12, true)⟩ hHeld ?_
  (try simp only [Act.put, nz1, nz2, nz3])
  refine ts 18 ⟨some 39, .load 33 (.tmp 7), 33, _, #[⟨12, .guard⟩], some (12, true)⟩ hHeld ?_
  (try simp only [Act.put, nz1, nz2, nz3])
  refine ts 19 ⟨some 40, .binOp .eql 33 (.tmp 38) (.tmp 39) 33, 4, _, #[⟨17, .data⟩, ⟨18, .data⟩, ⟨12, .guard⟩], some (12, true)⟩ hHeld ?_
  (try simp only [Act.put, nz1, nz2, nz3])
  refine tk 20 ⟨some 41, .pick (.tmp 33) (.tmp 40) (.const (.bool false)), 4, _, #[⟨12, .data⟩, ⟨19, .data⟩], none⟩ hHeld ?_
  (try simp only [Act.put, nz1, nz2, nz3])
  refine tk 21 ⟨some 42, .binOp .neq 4 (.tmp 24) (.tmp 41) 4, 4, _, #[⟨3, .data⟩, ⟨20, .data⟩], none⟩ hHeld ?_
  (try simp only [Act.put, nz1, nz2, nz3])
  refine wpAnyH_done (by kernel_rfl) ?_ _
  clear hHeld
  rename World => w2
  have lg := Rg.lt
  have ld := Rd.lt
  have le := Re.lt
  have ly := Ry.lt
  have lm := Rm.lt
  (try clear g0 g1 g2 g3 g4 g5 g6); obtain ⟨g0, g1, g2, g3, g4, g5, g6⟩ := row7 Rg
  (try clear d0 d1 d2 d3 d4 d5 d6 d7 d8 d9 d10 d11); obtain ⟨d0, d1, d2, d3, d4, d5, d6, d7, d8, d9, d10, d11⟩ := row12 Rd
  (try clear e0 e1 e2 e3 e4 e5 e6 e7 e8 e9 e10 e11); obtain ⟨e0, e1, e2, e3, e4, e5, e6, e7, e8, e9, e10, e11⟩ := row12 Re
  (try clear y0 y1); obtain ⟨y0, y1⟩ := row2 Ry
  (try clear m0 m1 m2 m3 m4 m5 m6 m7 m8 m9 m10 m11); obtain ⟨m0, m1, m2, m3, m4, m5, m6, m7, m8, m9, m10, m11⟩ := row12 Rm
  go_wp2_with fail
  refine (H5 _).mono ?_
  rintro e w3 ⟨rfl, hb⟩
  replace Rg := Rg.later hb
  replace Rd := Rd.later hb
  replace Re := Re.later hb
  replace Ry := Ry.later hb
  replace Rm := Rm.later hb
  replace hb0 := below_step hb0 hb
  clear hb
  have lg := Rg.lt
  have ld := Rd.lt
  have le := Re.lt
  have ly := Ry.lt
  have lm := Rm.lt
  (try clear g0 g1 g2 g3 g4 g5 g6); obtain ⟨g0, g1, g2, g3, g4, g5, g6⟩ := row7 Rg
  (try clear d0 d1 d2 d3 d4 d5 d6 d7 d8 d9 d10 d11); obtain ⟨d0, d1, d2, d3, d4, d5, d6, d7, d8, d9, d10, d11⟩ := row12 Rd
  (try clear e0 e1 e2 e3 e4 e5 e6 e7 e8 e9 e10 e11); obtain ⟨e0, e1, e2, e3, e4, e5, e6, e7, e8, e9, e10, e11⟩ := row12 Re
  (try clear y0 y1); obtain ⟨y0, y1⟩ := row2 Ry
  (try clear m0 m1 m2 m3 m4 m5 m6 m7 m8 m9 m10 m11); obtain ⟨m0, m1, m2, m3, m4, m5, m6, m7, m8, m9, m10, m11⟩ := row12 Rm
  go_wp2_with fail
  refine (H3 _).mono ?_
  rintro e w4 ⟨rfl, hb⟩
  have nng := Rg.lt
  have nnd := Rd.lt
  have nne := Re.lt
  have nny := Ry.lt
  have nnm := Rm.lt
  replace Rg := (Rg.alloc _).later hb
  replace Rd := (Rd.alloc _).later hb
  replace Re := (Re.alloc _).later hb
  replace Ry := (Ry.alloc _).later hb
  replace Rm := (Rm.alloc _).later hb
  have Rn := Row.later (Row.new _ _ _) hb
  have mn := hb0.size
  replace hb0 := below_step (hb0.alloc hb0.size _) hb
  clear hb
  generalize w3.heap.size = gn at *
  have lg := Rg.lt
  have ld := Rd.lt
  have le := Re.lt
  have ly := Ry.lt
  have lm := Rm.lt
  have ln := Rn.lt
  (try clear g0 g1 g2 g3 g4 g5 g6); obtain ⟨g0, g1, g2, g3, g4, g5, g6⟩ := row7 Rg
  (try clear d0 d1 d2 d3 d4 d5 d6 d7 d8 d9 d10 d11); obtain ⟨d0, d1, d2, d3, d4, d5, d6, d7, d8, d9, d10, d11⟩ := row12 Rd
  (try clear e0 e1 e2 e3 e4 e5 e6 e7 e8 e9 e10 e11); obtain ⟨e0, e1, e2, e3, e4, e5, e6, e7, e8, e9, e10, e11⟩ := row12 Re
  (try clear y0 y1); obtain ⟨y0, y1⟩ := row2 Ry
  (try clear m0 m1 m2 m3 m4 m5 m6 m7 m8 m9 m10 m11); obtain ⟨m0, m1, m2, m3, m4, m5, m6, m7, m8, m9, m10, m11⟩ := row12 Rm
  (try clear n0 n1 n2 n3 n4 n5 n6 n7 n8 n9 n10 n11); obtain ⟨n0, n1, n2, n3, n4, n5, n6, n7, n8, n9, n10, n11⟩ := row12 Rn
  go_wp2_with fail
  refine (HA _).mono ?_
  rintro e w5 ⟨rfl, hb⟩
  replace Rg := Rg.later hb
  replace Rd := Rd.later hb
  replace Re := Re.later hb
  replace Ry := Ry.later hb
  replace Rm := Rm.later hb
  replace Rn := Rn.later hb
  replace hb0 := below_step hb0 hb
  clear hb
  have lg := Rg.lt
  have ld := Rd.lt
  have le := Re.lt
  have ly := Ry.lt
  have lm := Rm.lt
  have ln := Rn.lt
  (try clear g0 g1 g2 g3 g4 g5 g6); obtain ⟨g0, g1, g2, g3, g4, g5, g6⟩ := row7 Rg
  (try clear d0 d1 d2 d3 d4 d5 d6 d7 d8 d9 d10 d11); obtain ⟨d0, d1, d2, d3, d4, d5, d6, d7, d8, d9, d10, d11⟩ := row12 Rd
  (try clear e0 e1 e2 e3 e4 e5 e6 e7 e8 e9 e10 e11); obtain ⟨e0, e1, e2, e3, e4, e5, e6, e7, e8, e9, e10, e11⟩ := row12 Re
  (try clear y0 y1); obtain ⟨y0, y1⟩ := row2 Ry
  (try clear m0 m1 m2 m3 m4 m5 m6 m7 m8 m9 m10 m11); obtain ⟨m0, m1, m2, m3, m4, m5, m6, m7, m8, m9, m10, m11⟩ := row12 Rm
  (try clear n0 n1 n2 n3 n4 n5 n6 n7 n8 n9 n10 n11); obtain ⟨n0, n1, n2, n3, n4, n5, n6, n7, n8, n9, n10, n11⟩ := row12 Rn
  go_wp2
  go_ret
  exact ⟨rfl, hb0⟩
set_option maxRecDepth 100000 in
set_option maxHeartbeats 32000000 in
theorem one_11a (s : Sp) (p q u v t : Px) (i j hu2 hp2 : Int) (b : Bool)
    (H0 : ∀ w, Calls Try.prog 26 #[sv s, pv p, .agg #[.int .i64 i, .int .i64 j]] w fun e w' => e = .returned (pv pz) ∧ Below w.heap.size w w')
    (H1 : ∀ w, Calls Try.prog 28 #[sv s, pv q, pv p] w fun e w' => e = .returned (.bool b) ∧ Below w.heap.size w w')
    (H2 : ∀ w, Calls Try.prog 20 #[sv s, pv q] w fun e w' => e = .returned (.bool true) ∧ Below w.heap.size w w')
    (H3 : ∀ w, Calls Try.prog 20 #[sv s, pv p] w fun e w' => e = .returned (.bool true) ∧ Below w.heap.size w w')
    (H5 : ∀ w, Calls Try.prog 22 #[sv s] w fun e w' => e = .returned (pv t) ∧ Below w.heap.size w w')
    (H4 : ∀ w, Calls Try.prog 26 #[sv s, pv p, .agg #[.int .i64 q.a0, .int .i64 q.a1]] w fun e w' => e = .returned (pv v) ∧ Below w.heap.size w w')
    (hb : decide (v = q) = b)
    (g0 : i < p.a0) (w : World) :
    Calls Try.prog 7 #[sv s, pv p, pv q, .int .i64 i, .int .i64 j] w fun e w' => e = .returned (.bool true) ∧ Below w.heap.size w w' := by
  have HA := alive9_t
  have qe := eql_px pz pz
  rw [decide_eq_true rfl] at qe
  have qv := eql_px v q
  rw [hb] at qv
  clear hb
  have g0' : decide (i < p.a0) = true := decide_eq_true g0
  unfold pz kz at *
  unfold sv pv at *
  obtain ⟨Rg, Rd, Re, hb0⟩ := three_rows w #[Value.int .i64 s.n, Value.int .i64 s.d0.kind, Value.int .i64 s.d0.side, Value.int .i64 s.d0.step, Value.int .i64 s.d1.kind, Value.int .i64 s.d1.side, Value.int .i64 s.d1.step] #[Value.int .i64 p.a0, Value.int .i64 p.a1, Value.int .i64 p.k0.kind, Value.int .i64 p.k0.len, Value.int .u64 p.k0.h, Value.int .u64 p.k0.l, Value.string ⟨p.k0.path.toArray⟩, Value.int .i64 p.k1.kind, Value.int .i64 p.k1.len, Value.int .u64 p.k1.h, Value.int .u64 p.k1.l, Value.string ⟨p.k1.path.toArray⟩] #[Value.int .i64 q.a0, Value.int .i64 q.a1, Value.int .i64 q.k0.kind, Value.int .i64 q.k0.len, Value.int .u64 q.k0.h, Value.int .u64 q.k0.l, Value.string ⟨q.k0.path.toArray⟩, Value.int .i64 q.k1.kind, Value.int .i64 q.k1.len, Value.int .u64 q.k1.h, Value.int .u64 q.k1.l, Value.string ⟨q.k1.path.toArray⟩] 26 33 33
  (try clear g0 g1 g2 g3 g4 g5 g6); obtain ⟨g0, g1, g2, g3, g4, g5, g6⟩ := row7 Rg
  (try clear d0 d1 d2 d3 d4 d5 d6 d7 d8 d9 d10 d11); obtain ⟨d0, d1, d2, d3, d4, d5, d6, d7, d8, d9, d10, d11⟩ := row12 Rd
  (try clear e0 e1 e2 e3 e4 e5 e6 e7 e8 e9 e10 e11); obtain ⟨e0, e1, e2, e3, e4, e5, e6, e7, e8, e9, e10, e11⟩ := row12 Re
  go_enter Try.func7, Try.ntmps7
  go_wp2_with fail
  refine (H0 _).mono ?_
  rintro e w1 ⟨rfl, hb⟩
  replace Rg := (Rg.alloc _).later hb
  replace Rd := (Rd.alloc _).later hb
  replace Re := (Re.alloc _).later hb
  have Ry := Row.later (Row.new _ _ _) hb
  simp only [World.size_alloc] at Ry
  replace hb0 := below_step (hb0.alloc hb0.size _) hb
  clear hb
  have lg := Rg.lt
  have ld := Rd.lt
  have le := Re.lt
  have ly := Ry.lt
  (try clear g0 g1 g2 g3 g4 g5 g6); obtain ⟨g0, g1, g2, g3, g4, g5, g6⟩ := row7 Rg
  (try clear d0 d1 d2 d3 d4 d5 d6 d7 d8 d9 d10 d11); obtain ⟨d0, d1, d2, d3, d4, d5, d6, d7, d8, d9, d10, d11⟩ := row12 Rd
  (try clear e0 e1 e2 e3 e4 e5 e6 e7 e8 e9 e10 e11); obtain ⟨e0, e1, e2, e3, e4, e5, e6, e7, e8, e9, e10, e11⟩ := row12 Re
  (try clear y0 y1); obtain ⟨y0, y1⟩ := row2 Ry
  go_wp2_with fail
  replace Rg := Rg.alloc (.cells #[Value.int .i64 0, Value.int .i64 0, Value.int .i64 0, Value.int .i64 0, Value.int .u64 0, Value.int .u64 0, Value.string ⟨#[]⟩, Value.int .i64 0, Value.int .i64 0, Value.int .u64 0, Value.int .u64 0, Value.string ⟨#[]⟩] 33)
  replace Rd := Rd.alloc (.cells #[Value.int .i64 0, Value.int .i64 0, Value.int .i64 0, Value.int .i64 0, Value.int .u64 0, Value.int .u64 0, Value.string ⟨#[]⟩, Value.int .i64 0, Value.int .i64 0, Value.int .u64 0, Value.int .u64 0, Value.string ⟨#[]⟩] 33)
  replace Re := Re.alloc (.cells #[Value.int .i64 0, Value.int .i64 0, Value.int .i64 0, Value.int .i64 0, Value.int .u64 0, Value.int .u64 0, Value.string ⟨#[]⟩, Value.int .i64 0, Value.int .i64 0, Value.int .u64 0, Value.int .u64 0, Value.string ⟨#[]⟩] 33)
  replace Ry := Ry.alloc (.cells #[Value.int .i64 0, Value.int .i64 0, Value.int .i64 0, Value.int .i64 0, Value.int .u64 0, Value.int .u64 0, Value.string ⟨#[]⟩, Value.int .i64 0, Value.int .i64 0, Value.int .u64 0, Value.int .u64 0, Value.string ⟨#[]⟩] 33)
  have Rm := Row.new w1 #[Value.int .i64 0, Value.int .i64 0, Value.int .i64 0, Value.int .i64 0, Value.int .u64 0, Value.int .u64 0, Value.string ⟨#[]⟩, Value.int .i64 0, Value.int .i64 0, Value.int .u64 0, Value.int .u64 0, Value.string ⟨#[]⟩] 33
  have mm := hb0.size
  replace hb0 := hb0.alloc hb0.size (.cells #[Value.int .i64 0, Value.int .i64 0, Value.int .i64 0, Value.int .i64 0, Value.int .u64 0, Value.int .u64 0, Value.string ⟨#[]⟩, Value.int .i64 0, Value.int .i64 0, Value.int .u64 0, Value.int .u64 0, Value.string ⟨#[]⟩] 33)
  (try clear g0 g1 g2 g3 g4 g5 g6); obtain ⟨g0, g1, g2, g3, g4, g5, g6⟩ := row7 Rg
  (try clear d0 d1 d2 d3 d4 d5 d6 d7 d8 d9 d10 d11); obtain ⟨d0, d1, d2, d3, d4, d5, d6, d7, d8, d9, d10, d11⟩ := row12 Rd
  (try clear e0 e1 e2 e3 e4 e5 e6 e7 e8 e9 e10 e11); obtain ⟨e0, e1, e2, e3, e4, e5, e6, e7, e8, e9, e10, e11⟩ := row12 Re
  (try clear y0 y1); obtain ⟨y0, y1⟩ := row2 Ry
  (try clear m0 m1 m2 m3 m4 m5 m6 m7 m8 m9 m10 m11); obtain ⟨m0, m1, m2, m3, m4, m5, m6, m7, m8, m9, m10, m11⟩ := row12 Rm
  refine wp_region_held_drew (S := (fun w' => w'.cell? ⟨w.heap.size + 1 + 1, 0, none⟩ = some (Value.int .i64 q.a0) ∧ w'.cell? ⟨w.heap.size + 1 + 1, 1, none⟩ = some (Value.int .i64 q.a1) ∧ Row w' w.heap.size #[Value.int .i64 s.n, Value.int .i64 s.d0.kind, Value.int .i64 s.d0.side, Value.int .i64 s.d0.step, Value.int .i64 s.d1.kind, Value.int .i64 s.d1.side, Value.int .i64 s.d1.step] 26 ∧ Row w' (w.heap.size + 1) #[Value.int .i64 p.a0, Value.int .i64 p.a1, Value.int .i64 p.k0.kind, Value.int .i64 p.k0.len, Value.int .u64 p.k0.h, Value.int .u64 p.k0.l, Value.string ⟨p.k0.path.toArray⟩, Value.int .i64 p.k1.kind, Value.int .i64 p.k1.len, Value.int .u64 p.k1.h, Value.int .u64 p.k1.l, Value.string ⟨p.k1.path.toArray⟩] 33 ∧ Row w' (w.heap.size + 1 + 1) #[Value.int .i64 q.a0, Value.int .i64 q.a1, Value.int .i64 q.k0.kind, Value.int .i64 q.k0.len, Value.int .u64 q.k0.h, Value.int .u64 q.k0.l, Value.string ⟨q.k0.path.toArray⟩, Value.int .i64 q.k1.kind, Value.int .i64 q.k1.len, Value.int .u64 q.k1.h, Value.int .u64 q.k1.l, Value.string ⟨q.k1.path.toArray⟩] 33)) (by kernel_rfl) ?hSr9_ (fun hHeld => ?_)
  case hSr9_ => (exact ⟨e0, e1, Rg.drew, Rd.drew, Re.drew⟩)
  (clear g0 g1 g2 g3 g4 g5 g6 d0 d1 d2 d3 d4 d5 d6 d7 d8 d9 d10 d11 e0 e1 e2 e3 e4 e5 e6 e7 e8 e9 e10 e11 y0 y1 m0 m1 m2 m3 m4 m5 m6 m7 m8 m9 m10 m11; (replace Rg := Rg.drew); (replace Rd := Rd.drew); (replace Re := Re.drew); (replace Ry := Ry.drew); (replace Rm := Rm.drew); (replace hb0 := hb0.drew); (generalize World.drew (World.alloc w1 (.cells #[Value.int .i64 0, Value.int .i64 0, Value.int .i64 0, Value.int .i64 0, Value.int .u64 0, Value.int .u64 0, Value.string ⟨#[]⟩, Value.int .i64 0, Value.int .i64 0, Value.int .u64 0, Value.int .u64 0, Value.string ⟨#[]⟩] 33)) = wq at *))
  refine tk 0 ⟨some 21, .load 26 (.tmp 5), 26, _, #[], none⟩ hHeld ?_ (v := ?vr9_1_0) (hy := ?yr9_1_0)
  case yr9_1_0 => (intro wy hSw; obtain ⟨e0, e1, Qg, Qd, Qe⟩ := hSw; (with_reducible refine pexec_load 26 (.tmp 5) ?_ w.heap.size ?_ 26 #[Value.int .i64 s.n, Value.int .i64 s.d0.kind, Value.int .i64 s.d0.side, Value.int .i64 s.d0.step, Value.int .i64 s.d1.kind, Value.int .i64 s.d1.side, Value.int .i64 s.d1.step] _ Qg Try.underlying26 ?_ ?_) <;> first | rfl | exact infoSp)
  (try simp only [Act.put, nz1, nz2, nz3])
  refine tk 1 ⟨some 22, .load 33 (.tmp 7), 33, _, #[], none⟩ hHeld ?_ (v := ?vr9_2_1) (hy := ?yr9_2_1)
  case yr9_2_1 => (intro wy hSw; obtain ⟨e0, e1, Qg, Qd, Qe⟩ := hSw; (with_reducible refine pexec_load 33 (.tmp 7) ?_ (w.heap.size + 1 + 1) ?_ 33 #[Value.int .i64 q.a0, Value.int .i64 q.a1, Value.int .i64 q.k0.kind, Value.int .i64 q.k0.len, Value.int .u64 q.k0.h, Value.int .u64 q.k0.l, Value.string ⟨q.k0.path.toArray⟩, Value.int .i64 q.k1.kind, Value.int .i64 q.k1.len, Value.int .u64 q.k1.h, Value.int .u64 q.k1.l, Value.string ⟨q.k1.path.toArray⟩] _ Qe Try.underlying33 ?_ ?_) <;> first | rfl | exact infoPx)
  (try simp only [Act.put, nz1, nz2, nz3])
  refine tk 2 ⟨some 23, .load 33 (.tmp 6), 33, _, #[], none⟩ hHeld ?_ (v := ?vr9_3_2) (hy := ?yr9_3_2)
  case yr9_3_2 => (intro wy hSw; obtain ⟨e0, e1, Qg, Qd, Qe⟩ := hSw; (with_reducible refine pexec_load 33 (.tmp 6) ?_ (w.heap.size + 1) ?_ 33 #[Value.int .i64 p.a0, Value.int .i64 p.a1, Value.int .i64 p.k0.kind, Value.int .i64 p.k0.len, Value.int .u64 p.k0.h, Value.int .u64 p.k0.l, Value.string ⟨p.k0.path.toArray⟩, Value.int .i64 p.k1.kind, Value.int .i64 p.k1.len, Value.int .u64 p.k1.h, Value.int .u64 p.k1.l, Value.string ⟨p.k1.path.toArray⟩] _ Qd Try.underlying33 ?_ ?_) <;> first | rfl | exact infoPx)
  (try simp only [Act.put, nz1, nz2, nz3])
  refine tk 4 ⟨some 25, .load 26 (.tmp 5), 26, _, #[], none⟩ hHeld ?_ (v := ?vr9_4_4) (hy := ?yr9_4_4)
  case yr9_4_4 => (intro wy hSw; obtain ⟨e0, e1, Qg, Qd, Qe⟩ := hSw; (with_reducible refine pexec_load 26 (.tmp 5) ?_ w.heap.size ?_ 26 #[Value.int .i64 s.n, Value.int .i64 s.d0.kind, Value.int .i64 s.d0.side, Value.int .i64 s.d0.step, Value.int .i64 s.d1.kind, Value.int .i64 s.d1.side, Value.int .i64 s.d1.step] _ Qg Try.underlying26 ?_ ?_) <;> first | rfl | exact infoSp)
  (try simp only [Act.put, nz1, nz2, nz3])
  refine tk 5 ⟨some 26, .load 33 (.tmp 7), 33, _, #[], none⟩ hHeld ?_ (v := ?vr9_5_5) (hy := ?yr9_5_5)
  case yr9_5_5 => (intro wy hSw; obtain ⟨e0, e1, Qg, Qd, Qe⟩ := hSw; (with_reducible refine pexec_load 33 (.tmp 7) ?_ (w.heap.size + 1 + 1) ?_ 33 #[Value.int .i64 q.a0, Value.int .i64 q.a1, Value.int .i64 q.k0.kind, Value.int .i64 q.k0.len, Value.int .u64 q.k0.h, Value.int .u64 q.k0.l, Value.string ⟨q.k0.path.toArray⟩, Value.int .i64 q.k1.kind, Value.int .i64 q.k1.len, Value.int .u64 q.k1.h, Value.int .u64 q.k1.l, Value.string ⟨q.k1.path.toArray⟩] _ Qe Try.underlying33 ?_ ?_) <;> first | rfl | exact infoPx)
  (try simp only [Act.put, nz1, nz2, nz3])
  refine wpAnyH_ready (rs := [3]) (by kernel_rfl) (by simp) ?_
  refine AllReadyH.cons (o := ⟨some 24, .call { callee := .value (.func 28), args := #[.tmp 21, .tmp 22, .tmp 23], argTypes := #[26, 33, 33] }, 4, _, #[⟨0, .data⟩, ⟨1, .data⟩, ⟨2, .data⟩], none⟩) rfl (fun K hK => ?_) AllReadyH.nil
  (go_simp; (refine (H1 _).mono ?_); (rintro e wz ⟨rfl, hb⟩); (replace Rg := Rg.later hb); (replace Rd := Rd.later hb); (replace Re := Re.later hb); (replace Ry := Ry.later hb); (replace Rm := Rm.later hb); (replace hb0 := below_step hb0 hb); go_wp2_with fail)
  refine hK.out _ _ ?hSr9_6_3 (fun hHeld2 => ?_)
  case hSr9_6_3 => (obtain ⟨e0, e1, Qg, Qd, Qe⟩ := hHeld; exact ⟨cell_later hb e0, cell_later hb e1, Qg.later hb, Qd.later hb, Qe.later hb⟩)
  clear hK K hHeld
  have hHeld := hHeld2
  clear hHeld2
  rename World => wq
  (try simp only [Act.put, nz1, nz2, nz3])
  refine wpAnyH_ready (rs := [6]) (by kernel_rfl) (by simp) ?_
  refine AllReadyH.cons (o := ⟨some 27, .call { callee := .value (.func 20), args := #[.tmp 25, .tmp 26], argTypes := #[26, 33] }, 4, _, #[⟨4, .data⟩, ⟨5, .data⟩, ⟨3, .chain⟩], none⟩) rfl (fun K hK => ?_) AllReadyH.nil
  (go_simp; (refine (H2 _).mono ?_); (rintro e wz ⟨rfl, hb⟩); (replace Rg := Rg.later hb); (replace Rd := Rd.later hb); (replace Re := Re.later hb); (replace Ry := Ry.later hb); (replace Rm := Rm.later hb); (replace hb0 := below_step hb0 hb); go_wp2_with fail)
  refine hK.out _ _ ?hSr9_7_6 (fun hHeld2 => ?_)
  case hSr9_7_6 => (obtain ⟨e0, e1, Qg, Qd, Qe⟩ := hHeld; exact ⟨cell_later hb e0, cell_later hb e1, Qg.later hb, Qd.later hb, Qe.later hb⟩)
  clear hK K hHeld
  have hHeld := hHeld2
  clear hHeld2
  rename World => wq
  (try simp only [Act.put, nz1, nz2, nz3])
  refine tk 7 ⟨some 28, .move (.tmp 27), 4, _, #[⟨6, .data⟩, ⟨6, .chain⟩], none⟩ hHeld ?_
  (try simp only [Act.put, nz1, nz2, nz3])
  refine tk 8 ⟨some 29, .load 26 (.tmp 5), 26, _, #[⟨7, .guard⟩], some (7, true)⟩ hHeld ?_ (v := ?vr9_9_8) (hy := ?yr9_9_8)
  case yr9_9_8 => (intro wy hSw; obtain ⟨e0, e1, Qg, Qd, Qe⟩ := hSw; (with_reducible refine pexec_load 26 (.tmp 5) ?_ w.heap.size ?_ 26 #[Value.int .i64 s.n, Value.int .i64 s.d0.kind, Value.int .i64 s.d0.side, Value.int .i64 s.d0.step, Value.int .i64 s.d1.kind, Value.int .i64 s.d1.side, Value.int .i64 s.d1.step] _ Qg Try.underlying26 ?_ ?_) <;> first | rfl | exact infoSp)
  (try simp only [Act.put, nz1, nz2, nz3])
  refine tk 9 ⟨some 30, .load 33 (.tmp 6), 33, _, #[⟨7, .guard⟩], some (7, true)⟩ hHeld ?_ (v := ?vr9_10_9) (hy := ?yr9_10_9)
  case yr9_10_9 => (intro wy hSw; obtain ⟨e0, e1, Qg, Qd, Qe⟩ := hSw; (with_reducible refine pexec_load 33 (.tmp 6) ?_ (w.heap.size + 1) ?_ 33 #[Value.int .i64 p.a0, Value.int .i64 p.a1, Value.int .i64 p.k0.kind, Value.int .i64 p.k0.len, Value.int .u64 p.k0.h, Value.int .u64 p.k0.l, Value.string ⟨p.k0.path.toArray⟩, Value.int .i64 p.k1.kind, Value.int .i64 p.k1.len, Value.int .u64 p.k1.h, Value.int .u64 p.k1.l, Value.string ⟨p.k1.path.toArray⟩] _ Qd Try.underlying33 ?_ ?_) <;> first | rfl | exact infoPx)
  (try simp only [Act.put, nz1, nz2, nz3])
  refine wpAnyH_ready (rs := [10]) (by kernel_rfl) (by simp) ?_
  refine AllReadyH.cons (o := ⟨some 31, .call { callee := .value (.func 20), args := #[.tmp 29, .tmp 30], argTypes := #[26, 33] }, 4, _, #[⟨8, .data⟩, ⟨9, .data⟩, ⟨7, .chain⟩, ⟨7, .guard⟩], some (7, true)⟩) rfl (fun K hK => ?_) AllReadyH.nil
  (go_simp; (refine (H3 _).mono ?_); (rintro e wz ⟨rfl, hb⟩); (replace Rg := Rg.later hb); (replace Rd := Rd.later hb); (replace Re := Re.later hb); (replace Ry := Ry.later hb); (replace Rm := Rm.later hb); (replace hb0 := below_step hb0 hb); go_wp2_with fail)
  refine hK.out _ _ ?hSr9_11_10 (fun hHeld2 => ?_)
  case hSr9_11_10 => (obtain ⟨e0, e1, Qg, Qd, Qe⟩ := hHeld; exact ⟨cell_later hb e0, cell_later hb e1, Qg.later hb, Qd.later hb, Qe.later hb⟩)
  clear hK K hHeld
  have hHeld := hHeld2
  clear hHeld2
  rename World => wq
  (try simp only [Act.put, nz1, nz2, nz3])
  refine tk 11 ⟨some 32, .pick (.tmp 28) (.tmp 31) (.const (.bool false)), 4, _, #[⟨7, .data⟩, ⟨10, .data⟩], none⟩ hHeld ?_
  (try simp only [Act.put, nz1, nz2, nz3])
  refine tk 12 ⟨some 33, .move (.tmp 32), 4, _, #[⟨11, .data⟩, ⟨10, .chain⟩], none⟩ hHeld ?_
  (try simp only [Act.put, nz1, nz2, nz3])
  refine tk 13 ⟨some 34, .load 26 (.tmp 5), 26, _, #[⟨12, .guard⟩], some (12, true)⟩ hHeld ?_ (v := ?vr9_14_13) (hy := ?yr9_14_13)
  case yr9_14_13 => (intro wy hSw; obtain ⟨e0, e1, Qg, Qd, Qe⟩ := hSw; (with_reducible refine pexec_load 26 (.tmp 5) ?_ w.heap.size ?_ 26 #[Value.int .i64 s.n, Value.int .i64 s.d0.kind, Value.int .i64 s.d0.side, Value.int .i64 s.d0.step, Value.int .i64 s.d1.kind, Value.int .i64 s.d1.side, Value.int .i64 s.d1.step] _ Qg Try.underlying26 ?_ ?_) <;> first | rfl | exact infoSp)
  (try simp only [Act.put, nz1, nz2, nz3])
  refine tk 14 ⟨some 35, .load 33 (.tmp 6), 33, _, #[⟨12, .guard⟩], some (12, true)⟩ hHeld ?_ (v := ?vr9_15_14) (hy := ?yr9_15_14)
  case yr9_15_14 => (intro wy hSw; obtain ⟨e0, e1, Qg, Qd, Qe⟩ := hSw; (with_reducible refine pexec_load 33 (.tmp 6) ?_ (w.heap.size + 1) ?_ 33 #[Value.int .i64 p.a0, Value.int .i64 p.a1, Value.int .i64 p.k0.kind, Value.int .i64 p.k0.len, Value.int .u64 p.k0.h, Value.int .u64 p.k0.l, Value.string ⟨p.k0.path.toArray⟩, Value.int .i64 p.k1.kind, Value.int .i64 p.k1.len, Value.int .u64 p.k1.h, Value.int .u64 p.k1.l, Value.string ⟨p.k1.path.toArray⟩] _ Qd Try.underlying33 ?_ ?_) <;> first | rfl | exact infoPx)
  (try simp only [Act.put, nz1, nz2, nz3])
  refine tk 15 ⟨some 36, .fieldAddr 33 (.tmp 7) 0, 0, _, #[⟨12, .guard⟩], some (12, true)⟩ hHeld ?_
  (try simp only [Act.put, nz1, nz2, nz3])
  refine tk 16 ⟨some 37, .load 27 (.tmp 36), 27, _, #[⟨15, .data⟩, ⟨12, .guard⟩], some (12, true)⟩ hHeld ?_
  (try simp only [Act.put, nz1, nz2, nz3])
  refine tk 18 ⟨some 39, .load 33 (.tmp 7), 33, _, #[⟨12, .guard⟩], some (12, true)⟩ hHeld ?_ (v := ?vr9_18_18) (hy := ?yr9_18_18)
  case yr9_18_18 => (intro wy hSw; obtain ⟨e0, e1, Qg, Qd, Qe⟩ := hSw; (with_reducible refine pexec_load 33 (.tmp 7) ?_ (w.heap.size + 1 + 1) ?_ 33 #[Value.int .i64 q.a0, Value.int .i64 q.a1, Value.int .i64 q.k0.kind, Value.int .i64 q.k0.len, Value.int .u64 q.k0.h, Value.int .u64 q.k0.l, Value.string ⟨q.k0.path.toArray⟩, Value.int .i64 q.k1.kind, Value.int .i64 q.k1.len, Value.int .u64 q.k1.h, Value.int .u64 q.k1.l, Value.string ⟨q.k1.path.toArray⟩] _ Qe Try.underlying33 ?_ ?_) <;> first | rfl | exact infoPx)
  (try simp only [Act.put, nz1, nz2, nz3])
  refine wpAnyH_ready (rs := [17]) (by kernel_rfl) (by simp) ?_
  refine AllReadyH.cons (o := ⟨some 38, .call { callee := .value (.func 26), args := #[.tmp 34, .tmp 35, .tmp 37], argTypes := #[26, 33, 27] }, 33, _, #[⟨13, .data⟩, ⟨14, .data⟩, ⟨16, .data⟩, ⟨12, .chain⟩, ⟨12, .guard⟩], some (12, true)⟩) rfl (fun K hK => ?_) AllReadyH.nil
  (go_simp; (refine (H4 _).mono ?_); (rintro e wz ⟨rfl, hb⟩); (replace Rg := Rg.later hb); (replace Rd := Rd.later hb); (replace Re := Re.later hb); (replace Ry := Ry.later hb); (replace Rm := Rm.later hb); (replace hb0 := below_step hb0 hb); go_wp2_with fail)
  refine hK.out _ _ ?hSr9_19_17 (fun hHeld2 => ?_)
  case hSr9_19_17 => (obtain ⟨e0, e1, Qg, Qd, Qe⟩ := hHeld; exact ⟨cell_later hb e0, cell_later hb e1, Qg.later hb, Qd.later hb, Qe.later hb⟩)
  clear hK K hHeld
  have hHeld := hHeld2
  clear hHeld2
  rename World => wq
  (try simp only [Act.put, nz1, nz2, nz3])
  refine tk 19 ⟨some 40, .binOp .eql 33 (.tmp 38) (.tmp 39) 33, 4, _, #[⟨17, .data⟩, ⟨18, .data⟩, ⟨12, .guard⟩], some (12, true)⟩ hHeld ?_
  (try simp only [Act.put, nz1, nz2, nz3])
  refine tk 20 ⟨some 41, .pick (.tmp 33) (.tmp 40) (.const (.bool false)), 4, _, #[⟨12, .data⟩, ⟨19, .data⟩], none⟩ hHeld ?_
  (try simp only [Act.put, nz1, nz2, nz3])
  refine tk 21 ⟨some 42, .binOp .neq 4 (.tmp 24) (.tmp 41) 4, 4, _, #[⟨3, .data⟩, ⟨20, .data⟩], none⟩ hHeld ?_
  (try simp only [Act.put, nz1, nz2, nz3])
  refine wpAnyH_done (by kernel_rfl) ?_ _
  clear hHeld
  rename World => w2
  have lg := Rg.lt
  have ld := Rd.lt
  have le := Re.lt
  have ly := Ry.lt
  have lm := Rm.lt
  (try clear g0 g1 g2 g3 g4 g5 g6); obtain ⟨g0, g1, g2, g3, g4, g5, g6⟩ := row7 Rg
  (try clear d0 d1 d2 d3 d4 d5 d6 d7 d8 d9 d10 d11); obtain ⟨d0, d1, d2, d3, d4, d5, d6, d7, d8, d9, d10, d11⟩ := row12 Rd
  (try clear e0 e1 e2 e3 e4 e5 e6 e7 e8 e9 e10 e11); obtain ⟨e0, e1, e2, e3, e4, e5, e6, e7, e8, e9, e10, e11⟩ := row12 Re
  (try clear y0 y1); obtain ⟨y0, y1⟩ := row2 Ry
  (try clear m0 m1 m2 m3 m4 m5 m6 m7 m8 m9 m10 m11); obtain ⟨m0, m1, m2, m3, m4, m5, m6, m7, m8, m9, m10, m11⟩ := row12 Rm
  go_wp2_with fail
  refine (H5 _).mono ?_
  rintro e w3 ⟨rfl, hb⟩
  replace Rg := Rg.later hb
  replace Rd := Rd.later hb
  replace Re := Re.later hb
  replace Ry := Ry.later hb
  replace Rm := Rm.later hb
  replace hb0 := below_step hb0 hb
  clear hb
  have lg := Rg.lt
  have ld := Rd.lt
  have le := Re.lt
  have ly := Ry.lt
  have lm := Rm.lt
  (try clear g0 g1 g2 g3 g4 g5 g6); obtain ⟨g0, g1, g2, g3, g4, g5, g6⟩ := row7 Rg
  (try clear d0 d1 d2 d3 d4 d5 d6 d7 d8 d9 d10 d11); obtain ⟨d0, d1, d2, d3, d4, d5, d6, d7, d8, d9, d10, d11⟩ := row12 Rd
  (try clear e0 e1 e2 e3 e4 e5 e6 e7 e8 e9 e10 e11); obtain ⟨e0, e1, e2, e3, e4, e5, e6, e7, e8, e9, e10, e11⟩ := row12 Re
  (try clear y0 y1); obtain ⟨y0, y1⟩ := row2 Ry
  (try clear m0 m1 m2 m3 m4 m5 m6 m7 m8 m9 m10 m11); obtain ⟨m0, m1, m2, m3, m4, m5, m6, m7, m8, m9, m10, m11⟩ := row12 Rm
  go_wp2_with fail
  refine (H3 _).mono ?_
  rintro e w4 ⟨rfl, hb⟩
  have nng := Rg.lt
  have nnd := Rd.lt
  have nne := Re.lt
  have nny := Ry.lt
  have nnm := Rm.lt
  replace Rg := (Rg.alloc _).later hb
  replace Rd := (Rd.alloc _).later hb
  replace Re := (Re.alloc _).later hb
  replace Ry := (Ry.alloc _).later hb
  replace Rm := (Rm.alloc _).later hb
  have Rn := Row.later (Row.new _ _ _) hb
  have mn := hb0.size
  replace hb0 := below_step (hb0.alloc hb0.size _) hb
  clear hb
  generalize w3.heap.size = gn at *
  have lg := Rg.lt
  have ld := Rd.lt
  have le := Re.lt
  have ly := Ry.lt
  have lm := Rm.lt
  have ln := Rn.lt
  (try clear g0 g1 g2 g3 g4 g5 g6); obtain ⟨g0, g1, g2, g3, g4, g5, g6⟩ := row7 Rg
  (try clear d0 d1 d2 d3 d4 d5 d6 d7 d8 d9 d10 d11); obtain ⟨d0, d1, d2, d3, d4, d5, d6, d7, d8, d9, d10, d11⟩ := row12 Rd
  (try clear e0 e1 e2 e3 e4 e5 e6 e7 e8 e9 e10 e11); obtain ⟨e0, e1, e2, e3, e4, e5, e6, e7, e8, e9, e10, e11⟩ := row12 Re
  (try clear y0 y1); obtain ⟨y0, y1⟩ := row2 Ry
  (try clear m0 m1 m2 m3 m4 m5 m6 m7 m8 m9 m10 m11); obtain ⟨m0, m1, m2, m3, m4, m5, m6, m7, m8, m9, m10, m11⟩ := row12 Rm
  (try clear n0 n1 n2 n3 n4 n5 n6 n7 n8 n9 n10 n11); obtain ⟨n0, n1, n2, n3, n4, n5, n6, n7, n8, n9, n10, n11⟩ := row12 Rn
  go_wp2_with fail
  refine (HA _).mono ?_
  rintro e w5 ⟨rfl, hb⟩
  replace Rg := Rg.later hb
  replace Rd := Rd.later hb
  replace Re := Re.later hb
  replace Ry := Ry.later hb
  replace Rm := Rm.later hb
  replace Rn := Rn.later hb
  replace hb0 := below_step hb0 hb
  clear hb
  have lg := Rg.lt
  have ld := Rd.lt
  have le := Re.lt
  have ly := Ry.lt
  have lm := Rm.lt
  have ln := Rn.lt
  (try clear g0 g1 g2 g3 g4 g5 g6); obtain ⟨g0, g1, g2, g3, g4, g5, g6⟩ := row7 Rg
  (try clear d0 d1 d2 d3 d4 d5 d6 d7 d8 d9 d10 d11); obtain ⟨d0, d1, d2, d3, d4, d5, d6, d7, d8, d9, d10, d11⟩ := row12 Rd
  (try clear e0 e1 e2 e3 e4 e5 e6 e7 e8 e9 e10 e11); obtain ⟨e0, e1, e2, e3, e4, e5, e6, e7, e8, e9, e10, e11⟩ := row12 Re
  (try clear y0 y1); obtain ⟨y0, y1⟩ := row2 Ry
  (try clear m0 m1 m2 m3 m4 m5 m6 m7 m8 m9 m10 m11); obtain ⟨m0, m1, m2, m3, m4, m5, m6, m7, m8, m9, m10, m11⟩ := row12 Rm
  (try clear n0 n1 n2 n3 n4 n5 n6 n7 n8 n9 n10 n11); obtain ⟨n0, n1, n2, n3, n4, n5, n6, n7, n8, n9, n10, n11⟩ := row12 Rn
  go_wp2
  go_ret
  exact ⟨rfl, hb0⟩
set_option maxRecDepth 100000 in
set_option maxHeartbeats 32000000 in
theorem one_11b (s : Sp) (p q u v t : Px) (i j hu2 hp2 : Int) (b : Bool)
    (H0 : ∀ w, Calls Try.prog 26 #[sv s, pv p, .agg #[.int .i64 i, .int .i64 j]] w fun e w' => e = .returned (pv pz) ∧ Below w.heap.size w w')
    (H1 : ∀ w, Calls Try.prog 28 #[sv s, pv q, pv p] w fun e w' => e = .returned (.bool b) ∧ Below w.heap.size w w')
    (H2 : ∀ w, Calls Try.prog 20 #[sv s, pv q] w fun e w' => e = .returned (.bool true) ∧ Below w.heap.size w w')
    (H3 : ∀ w, Calls Try.prog 20 #[sv s, pv p] w fun e w' => e = .returned (.bool true) ∧ Below w.heap.size w w')
    (H5 : ∀ w, Calls Try.prog 22 #[sv s] w fun e w' => e = .returned (pv t) ∧ Below w.heap.size w w')
    (H4 : ∀ w, Calls Try.prog 26 #[sv s, pv p, .agg #[.int .i64 q.a0, .int .i64 q.a1]] w fun e w' => e = .returned (pv v) ∧ Below w.heap.size w w')
    (hb : decide (v = q) = b)
    (g0 : ¬ i < p.a0) (g1 : j < p.a1) (w : World) :
    Calls Try.prog 7 #[sv s, pv p, pv q, .int .i64 i, .int .i64 j] w fun e w' => e = .returned (.bool true) ∧ Below w.heap.size w w' := by
  have HA := alive9_t
  have qe := eql_px pz pz
  rw [decide_eq_true rfl] at qe
  have qv := eql_px v q
  rw [hb] at qv
  clear hb
  have g0' : decide (i < p.a0) = false := decide_eq_false g0
  have g1' : decide (j < p.a1) = true := decide_eq_true g1
  unfold pz kz at *
  unfold sv pv at *
  obtain ⟨Rg, Rd, Re, hb0⟩ := three_rows w #[Value.int .i64 s.n, Value.int .i64 s.d0.kind, Value.int .i64 s.d0.side, Value.int .i64 s.d0.step, Value.int .i64 s.d1.kind, Value.int .i64 s.d1.side, Value.int .i64 s.d1.step] #[Value.int .i64 p.a0, Value.int .i64 p.a1, Value.int .i64 p.k0.kind, Value.int .i64 p.k0.len, Value.int .u64 p.k0.h, Value.int .u64 p.k0.l, Value.string ⟨p.k0.path.toArray⟩, Value.int .i64 p.k1.kind, Value.int .i64 p.k1.len, Value.int .u64 p.k1.h, Value.int .u64 p.k1.l, Value.string ⟨p.k1.path.toArray⟩] #[Value.int .i64 q.a0, Value.int .i64 q.a1, Value.int .i64 q.k0.kind, Value.int .i64 q.k0.len, Value.int .u64 q.k0.h, Value.int .u64 q.k0.l, Value.string ⟨q.k0.path.toArray⟩, Value.int .i64 q.k1.kind, Value.int .i64 q.k1.len, Value.int .u64 q.k1.h, Value.int .u64 q.k1.l, Value.string ⟨q.k1.path.toArray⟩] 26 33 33
  (try clear g0 g1 g2 g3 g4 g5 g6); obtain ⟨g0, g1, g2, g3, g4, g5, g6⟩ := row7 Rg
  (try clear d0 d1 d2 d3 d4 d5 d6 d7 d8 d9 d10 d11); obtain ⟨d0, d1, d2, d3, d4, d5, d6, d7, d8, d9, d10, d11⟩ := row12 Rd
  (try clear e0 e1 e2 e3 e4 e5 e6 e7 e8 e9 e10 e11); obtain ⟨e0, e1, e2, e3, e4, e5, e6, e7, e8, e9, e10, e11⟩ := row12 Re
  go_enter Try.func7, Try.ntmps7
  go_wp2_with fail
  refine (H0 _).mono ?_
  rintro e w1 ⟨rfl, hb⟩
  replace Rg := (Rg.alloc _).later hb
  replace Rd := (Rd.alloc _).later hb
  replace Re := (Re.alloc _).later hb
  have Ry := Row.later (Row.new _ _ _) hb
  simp only [World.size_alloc] at Ry
  replace hb0 := below_step (hb0.alloc hb0.size _) hb
  clear hb
  have lg := Rg.lt
  have ld := Rd.lt
  have le := Re.lt
  have ly := Ry.lt
  (try clear g0 g1 g2 g3 g4 g5 g6); obtain ⟨g0, g1, g2, g3, g4, g5, g6⟩ := row7 Rg
  (try clear d0 d1 d2 d3 d4 d5 d6 d7 d8 d9 d10 d11); obtain ⟨d0, d1, d2, d3, d4, d5, d6, d7, d8, d9, d10, d11⟩ := row12 Rd
  (try clear e0 e1 e2 e3 e4 e5 e6 e7 e8 e9 e10 e11); obtain ⟨e0, e1, e2, e3, e4, e5, e6, e7, e8, e9, e10, e11⟩ := row12 Re
  (try clear y0 y1); obtain ⟨y0, y1⟩ := row2 Ry
  go_wp2_with fail
  replace Rg := Rg.alloc (.cells #[Value.int .i64 0, Value.int .i64 0, Value.int .i64 0, Value.int .i64 0, Value.int .u64 0, Value.int .u64 0, Value.string ⟨#[]⟩, Value.int .i64 0, Value.int .i64 0, Value.int .u64 0, Value.int .u64 0, Value.string ⟨#[]⟩] 33)
  replace Rd := Rd.alloc (.cells #[Value.int .i64 0, Value.int .i64 0, Value.int .i64 0, Value.int .i64 0, Value.int .u64 0, Value.int .u64 0, Value.string ⟨#[]⟩, Value.int .i64 0, Value.int .i64 0, Value.int .u64 0, Value.int .u64 0, Value.string ⟨#[]⟩] 33)
  replace Re := Re.alloc (.cells #[Value.int .i64 0, Value.int .i64 0, Value.int .i64 0, Value.int .i64 0, Value.int .u64 0, Value.int .u64 0, Value.string ⟨#[]⟩, Value.int .i64 0, Value.int .i64 0, Value.int .u64 0, Value.int .u64 0, Value.string ⟨#[]⟩] 33)
  replace Ry := Ry.alloc (.cells #[Value.int .i64 0, Value.int .i64 0, Value.int .i64 0, Value.int .i64 0, Value.int .u64 0, Value.int .u64 0, Value.string ⟨#[]⟩, Value.int .i64 0, Value.int .i64 0, Value.int .u64 0, Value.int .u64 0, Value.string ⟨#[]⟩] 33)
  have Rm := Row.new w1 #[Value.int .i64 0, Value.int .i64 0, Value.int .i64 0, Value.int .i64 0, Value.int .u64 0, Value.int .u64 0, Value.string ⟨#[]⟩, Value.int .i64 0, Value.int .i64 0, Value.int .u64 0, Value.int .u64 0, Value.string ⟨#[]⟩] 33
  have mm := hb0.size
  replace hb0 := hb0.alloc hb0.size (.cells #[Value.int .i64 0, Value.int .i64 0, Value.int .i64 0, Value.int .i64 0, Value.int .u64 0, Value.int .u64 0, Value.string ⟨#[]⟩, Value.int .i64 0, Value.int .i64 0, Value.int .u64 0, Value.int .u64 0, Value.string ⟨#[]⟩] 33)
  (try clear g0 g1 g2 g3 g4 g5 g6); obtain ⟨g0, g1, g2, g3, g4, g5, g6⟩ := row7 Rg
  (try clear d0 d1 d2 d3 d4 d5 d6 d7 d8 d9 d10 d11); obtain ⟨d0, d1, d2, d3, d4, d5, d6, d7, d8, d9, d10, d11⟩ := row12 Rd
  (try clear e0 e1 e2 e3 e4 e5 e6 e7 e8 e9 e10 e11); obtain ⟨e0, e1, e2, e3, e4, e5, e6, e7, e8, e9, e10, e11⟩ := row12 Re
  (try clear y0 y1); obtain ⟨y0, y1⟩ := row2 Ry
  (try clear m0 m1 m2 m3 m4 m5 m6 m7 m8 m9 m10 m11); obtain ⟨m0, m1, m2, m3, m4, m5, m6, m7, m8, m9, m10, m11⟩ := row12 Rm
  refine wp_region_held_drew (S := (fun w' => w'.cell? ⟨w.heap.size + 1 + 1, 0, none⟩ = some (Value.int .i64 q.a0) ∧ w'.cell? ⟨w.heap.size + 1 + 1, 1, none⟩ = some (Value.int .i64 q.a1) ∧ Row w' w.heap.size #[Value.int .i64 s.n, Value.int .i64 s.d0.kind, Value.int .i64 s.d0.side, Value.int .i64 s.d0.step, Value.int .i64 s.d1.kind, Value.int .i64 s.d1.side, Value.int .i64 s.d1.step] 26 ∧ Row w' (w.heap.size + 1) #[Value.int .i64 p.a0, Value.int .i64 p.a1, Value.int .i64 p.k0.kind, Value.int .i64 p.k0.len, Value.int .u64 p.k0.h, Value.int .u64 p.k0.l, Value.string ⟨p.k0.path.toArray⟩, Value.int .i64 p.k1.kind, Value.int .i64 p.k1.len, Value.int .u64 p.k1.h, Value.int .u64 p.k1.l, Value.string ⟨p.k1.path.toArray⟩] 33 ∧ Row w' (w.heap.size + 1 + 1) #[Value.int .i64 q.a0, Value.int .i64 q.a1, Value.int .i64 q.k0.kind, Value.int .i64 q.k0.len, Value.int .u64 q.k0.h, Value.int .u64 q.k0.l, Value.string ⟨q.k0.path.toArray⟩, Value.int .i64 q.k1.kind, Value.int .i64 q.k1.len, Value.int .u64 q.k1.h, Value.int .u64 q.k1.l, Value.string ⟨q.k1.path.toArray⟩] 33)) (by kernel_rfl) ?hSr10_ (fun hHeld => ?_)
  case hSr10_ => (exact ⟨e0, e1, Rg.drew, Rd.drew, Re.drew⟩)
  (clear g0 g1 g2 g3 g4 g5 g6 d0 d1 d2 d3 d4 d5 d6 d7 d8 d9 d10 d11 e0 e1 e2 e3 e4 e5 e6 e7 e8 e9 e10 e11 y0 y1 m0 m1 m2 m3 m4 m5 m6 m7 m8 m9 m10 m11; (replace Rg := Rg.drew); (replace Rd := Rd.drew); (replace Re := Re.drew); (replace Ry := Ry.drew); (replace Rm := Rm.drew); (replace hb0 := hb0.drew); (generalize World.drew (World.alloc w1 (.cells #[Value.int .i64 0, Value.int .i64 0, Value.int .i64 0, Value.int .i64 0, Value.int .u64 0, Value.int .u64 0, Value.string ⟨#[]⟩, Value.int .i64 0, Value.int .i64 0, Value.int .u64 0, Value.int .u64 0, Value.string ⟨#[]⟩] 33)) = wq at *))
  refine tk 0 ⟨some 21, .load 26 (.tmp 5), 26, _, #[], none⟩ hHeld ?_ (v := ?vr10_1_0) (hy := ?yr10_1_0)
  case yr10_1_0 => (intro wy hSw; obtain ⟨e0, e1, Qg, Qd, Qe⟩ := hSw; (with_reducible refine pexec_load 26 (.tmp 5) ?_ w.heap.size ?_ 26 #[Value.int .i64 s.n, Value.int .i64 s.d0.kind, Value.int .i64 s.d0.side, Value.int .i64 s.d0.step, Value.int .i64 s.d1.kind, Value.int .i64 s.d1.side, Value.int .i64 s.d1.step] _ Qg Try.underlying26 ?_ ?_) <;> first | rfl | exact infoSp)
  (try simp only [Act.put, nz1, nz2, nz3])
  refine tk 1 ⟨some 22, .load 33 (.tmp 7), 33, _, #[], none⟩ hHeld ?_ (v := ?vr10_2_1) (hy := ?yr10_2_1)
  case yr10_2_1 => (intro wy hSw; obtain ⟨e0, e1, Qg, Qd, Qe⟩ := hSw; (with_reducible refine pexec_load 33 (.tmp 7) ?_ (w.heap.size + 1 + 1) ?_ 33 #[Value.int .i64 q.a0, Value.int .i64 q.a1, Value.int .i64 q.k0.kind, Value.int .i64 q.k0.len, Value.int .u64 q.k0.h, Value.int .u64 q.k0.l, Value.string ⟨q.k0.path.toArray⟩, Value.int .i64 q.k1.kind, Value.int .i64 q.k1.len, Value.int .u64 q.k1.h, Value.int .u64 q.k1.l, Value.string ⟨q.k1.path.toArray⟩] _ Qe Try.underlying33 ?_ ?_) <;> first | rfl | exact infoPx)
  (try simp only [Act.put, nz1, nz2, nz3])
  refine tk 2 ⟨some 23, .load 33 (.tmp 6), 33, _, #[], none⟩ hHeld ?_ (v := ?vr10_3_2) (hy := ?yr10_3_2)
  case yr10_3_2 => (intro wy hSw; obtain ⟨e0, e1, Qg, Qd, Qe⟩ := hSw; (with_reducible refine pexec_load 33 (.tmp 6) ?_ (w.heap.size + 1) ?_ 33 #[Value.int .i64 p.a0, Value.int .i64 p.a1, Value.int .i64 p.k0.kind, Value.int .i64 p.k0.len, Value.int .u64 p.k0.h, Value.int .u64 p.k0.l, Value.string ⟨p.k0.path.toArray⟩, Value.int .i64 p.k1.kind, Value.int .i64 p.k1.len, Value.int .u64 p.k1.h, Value.int .u64 p.k1.l, Value.string ⟨p.k1.path.toArray⟩] _ Qd Try.underlying33 ?_ ?_) <;> first | rfl | exact infoPx)
  (try simp only [Act.put, nz1, nz2, nz3])
  refine tk 4 ⟨some 25, .load 26 (.tmp 5), 26, _, #[], none⟩ hHeld ?_ (v := ?vr10_4_4) (hy := ?yr10_4_4)
  case yr10_4_4 => (intro wy hSw; obtain ⟨e0, e1, Qg, Qd, Qe⟩ := hSw; (with_reducible refine pexec_load 26 (.tmp 5) ?_ w.heap.size ?_ 26 #[Value.int .i64 s.n, Value.int .i64 s.d0.kind, Value.int .i64 s.d0.side, Value.int .i64 s.d0.step, Value.int .i64 s.d1.kind, Value.int .i64 s.d1.side, Value.int .i64 s.d1.step] _ Qg Try.underlying26 ?_ ?_) <;> first | rfl | exact infoSp)
  (try simp only [Act.put, nz1, nz2, nz3])
  refine tk 5 ⟨some 26, .load 33 (.tmp 7), 33, _, #[], none⟩ hHeld ?_ (v := ?vr10_5_5) (hy := ?yr10_5_5)
  case yr10_5_5 => (intro wy hSw; obtain ⟨e0, e1, Qg, Qd, Qe⟩ := hSw; (with_reducible refine pexec_load 33 (.tmp 7) ?_ (w.heap.size + 1 + 1) ?_ 33 #[Value.int .i64 q.a0, Value.int .i64 q.a1, Value.int .i64 q.k0.kind, Value.int .i64 q.k0.len, Value.int .u64 q.k0.h, Value.int .u64 q.k0.l, Value.string ⟨q.k0.path.toArray⟩, Value.int .i64 q.k1.kind, Value.int .i64 q.k1.len, Value.int .u64 q.k1.h, Value.int .u64 q.k1.l, Value.string ⟨q.k1.path.toArray⟩] _ Qe Try.underlying33 ?_ ?_) <;> first | rfl | exact infoPx)
  (try simp only [Act.put, nz1, nz2, nz3])
  refine wpAnyH_ready (rs := [3]) (by kernel_rfl) (by simp) ?_
  refine AllReadyH.cons (o := ⟨some 24, .call { callee := .value (.func 28), args := #[.tmp 21, .tmp 22, .tmp 23], argTypes := #[26, 33, 33] }, 4, _, #[⟨0, .data⟩, ⟨1, .data⟩, ⟨2, .data⟩], none⟩) rfl (fun K hK => ?_) AllReadyH.nil
  (go_simp; (refine (H1 _).mono ?_); (rintro e wz ⟨rfl, hb⟩); (replace Rg := Rg.later hb); (replace Rd := Rd.later hb); (replace Re := Re.later hb); (replace Ry := Ry.later hb); (replace Rm := Rm.later hb); (replace hb0 := below_step hb0 hb); go_wp2_with fail)
  refine hK.out _ _ ?hSr10_6_3 (fun hHeld2 => ?_)
  case hSr10_6_3 => (obtain ⟨e0, e1, Qg, Qd, Qe⟩ := hHeld; exact ⟨cell_later hb e0, cell_later hb e1, Qg.later hb, Qd.later hb, Qe.later hb⟩)
  clear hK K hHeld
  have hHeld := hHeld2
  clear hHeld2
  rename World => wq
  (try simp only [Act.put, nz1, nz2, nz3])
  refine wpAnyH_ready (rs := [6]) (by kernel_rfl) (by simp) ?_
  refine AllReadyH.cons (o := ⟨some 27, .call { callee := .value (.func 20), args := #[.tmp 25, .tmp 26], argTypes := #[26, 33] }, 4, _, #[⟨4, .data⟩, ⟨5, .data⟩, ⟨3, .chain⟩], none⟩) rfl (fun K hK => ?_) AllReadyH.nil
  (go_simp; (refine (H2 _).mono ?_); (rintro e wz ⟨rfl, hb⟩); (replace Rg := Rg.later hb); (replace Rd := Rd.later hb); (replace Re := Re.later hb); (replace Ry := Ry.later hb); (replace Rm := Rm.later hb); (replace hb0 := below_step hb0 hb); go_wp2_with fail)
  refine hK.out _ _ ?hSr10_7_6 (fun hHeld2 => ?_)
  case hSr10_7_6 => (obtain ⟨e0, e1, Qg, Qd, Qe⟩ := hHeld; exact ⟨cell_later hb e0, cell_later hb e1, Qg.later hb, Qd.later hb, Qe.later hb⟩)
  clear hK K hHeld
  have hHeld := hHeld2
  clear hHeld2
  rename World => wq
  (try simp only [Act.put, nz1, nz2, nz3])
  refine tk 7 ⟨some 28, .move (.tmp 27), 4, _, #[⟨6, .data⟩, ⟨6, .chain⟩], none⟩ hHeld ?_
  (try simp only [Act.put, nz1, nz2, nz3])
  refine tk 8 ⟨some 29, .load 26 (.tmp 5), 26, _, #[⟨7, .guard⟩], some (7, true)⟩ hHeld ?_ (v := ?vr10_9_8) (hy := ?yr10_9_8)
  case yr10_9_8 => (intro wy hSw; obtain ⟨e0, e1, Qg, Qd, Qe⟩ := hSw; (with_reducible refine pexec_load 26 (.tmp 5) ?_ w.heap.size ?_ 26 #[Value.int .i64 s.n, Value.int .i64 s.d0.kind, Value.int .i64 s.d0.side, Value.int .i64 s.d0.step, Value.int .i64 s.d1.kind, Value.int .i64 s.d1.side, Value.int .i64 s.d1.step] _ Qg Try.underlying26 ?_ ?_) <;> first | rfl | exact infoSp)
  (try simp only [Act.put, nz1, nz2, nz3])
  refine tk 9 ⟨some 30, .load 33 (.tmp 6), 33, _, #[⟨7, .guard⟩], some (7, true)⟩ hHeld ?_ (v := ?vr10_10_9) (hy := ?yr10_10_9)
  case yr10_10_9 => (intro wy hSw; obtain ⟨e0, e1, Qg, Qd, Qe⟩ := hSw; (with_reducible refine pexec_load 33 (.tmp 6) ?_ (w.heap.size + 1) ?_ 33 #[Value.int .i64 p.a0, Value.int .i64 p.a1, Value.int .i64 p.k0.kind, Value.int .i64 p.k0.len, Value.int .u64 p.k0.h, Value.int .u64 p.k0.l, Value.string ⟨p.k0.path.toArray⟩, Value.int .i64 p.k1.kind, Value.int .i64 p.k1.len, Value.int .u64 p.k1.h, Value.int .u64 p.k1.l, Value.string ⟨p.k1.path.toArray⟩] _ Qd Try.underlying33 ?_ ?_) <;> first | rfl | exact infoPx)
  (try simp only [Act.put, nz1, nz2, nz3])
  refine wpAnyH_ready (rs := [10]) (by kernel_rfl) (by simp) ?_
  refine AllReadyH.cons (o := ⟨some 31, .call { callee := .value (.func 20), args := #[.tmp 29, .tmp 30], argTypes := #[26, 33] }, 4, _, #[⟨8, .data⟩, ⟨9, .data⟩, ⟨7, .chain⟩, ⟨7, .guard⟩], some (7, true)⟩) rfl (fun K hK => ?_) AllReadyH.nil
  (go_simp; (refine (H3 _).mono ?_); (rintro e wz ⟨rfl, hb⟩); (replace Rg := Rg.later hb); (replace Rd := Rd.later hb); (replace Re := Re.later hb); (replace Ry := Ry.later hb); (replace Rm := Rm.later hb); (replace hb0 := below_step hb0 hb); go_wp2_with fail)
  refine hK.out _ _ ?hSr10_11_10 (fun hHeld2 => ?_)
  case hSr10_11_10 => (obtain ⟨e0, e1, Qg, Qd, Qe⟩ := hHeld; exact ⟨cell_later hb e0, cell_later hb e1, Qg.later hb, Qd.later hb, Qe.later hb⟩)
  clear hK K hHeld
  have hHeld := hHeld2
  clear hHeld2
  rename World => wq
  (try simp only [Act.put, nz1, nz2, nz3])
  refine tk 11 ⟨some 32, .pick (.tmp 28) (.tmp 31) (.const (.bool false)), 4, _, #[⟨7, .data⟩, ⟨10, .data⟩], none⟩ hHeld ?_
  (try simp only [Act.put, nz1, nz2, nz3])
  refine tk 12 ⟨some 33, .move (.tmp 32), 4, _, #[⟨11, .data⟩, ⟨10, .chain⟩], none⟩ hHeld ?_
  (try simp only [Act.put, nz1, nz2, nz3])
  refine tk 13 ⟨some 34, .load 26 (.tmp 5), 26, _, #[⟨12, .guard⟩], some (12, true)⟩ hHeld ?_ (v := ?vr10_14_13) (hy := ?yr10_14_13)
  case yr10_14_13 => (intro wy hSw; obtain ⟨e0, e1, Qg, Qd, Qe⟩ := hSw; (with_reducible refine pexec_load 26 (.tmp 5) ?_ w.heap.size ?_ 26 #[Value.int .i64 s.n, Value.int .i64 s.d0.kind, Value.int .i64 s.d0.side, Value.int .i64 s.d0.step, Value.int .i64 s.d1.kind, Value.int .i64 s.d1.side, Value.int .i64 s.d1.step] _ Qg Try.underlying26 ?_ ?_) <;> first | rfl | exact infoSp)
  (try simp only [Act.put, nz1, nz2, nz3])
  refine tk 14 ⟨some 35, .load 33 (.tmp 6), 33, _, #[⟨12, .guard⟩], some (12, true)⟩ hHeld ?_ (v := ?vr10_15_14) (hy := ?yr10_15_14)
  case yr10_15_14 => (intro wy hSw; obtain ⟨e0, e1, Qg, Qd, Qe⟩ := hSw; (with_reducible refine pexec_load 33 (.tmp 6) ?_ (w.heap.size + 1) ?_ 33 #[Value.int .i64 p.a0, Value.int .i64 p.a1, Value.int .i64 p.k0.kind, Value.int .i64 p.k0.len, Value.int .u64 p.k0.h, Value.int .u64 p.k0.l, Value.string ⟨p.k0.path.toArray⟩, Value.int .i64 p.k1.kind, Value.int .i64 p.k1.len, Value.int .u64 p.k1.h, Value.int .u64 p.k1.l, Value.string ⟨p.k1.path.toArray⟩] _ Qd Try.underlying33 ?_ ?_) <;> first | rfl | exact infoPx)
  (try simp only [Act.put, nz1, nz2, nz3])
  refine tk 15 ⟨some 36, .fieldAddr 33 (.tmp 7) 0, 0, _, #[⟨12, .guard⟩], some (12, true)⟩ hHeld ?_
  (try simp only [Act.put, nz1, nz2, nz3])
  refine tk 16 ⟨some 37, .load 27 (.tmp 36), 27, _, #[⟨15, .data⟩, ⟨12, .guard⟩], some (12, true)⟩ hHeld ?_
  (try simp only [Act.put, nz1, nz2, nz3])
  refine tk 18 ⟨some 39, .load 33 (.tmp 7), 33, _, #[⟨12, .guard⟩], some (12, true)⟩ hHeld ?_ (v := ?vr10_18_18) (hy := ?yr10_18_18)
  case yr10_18_18 => (intro wy hSw; obtain ⟨e0, e1, Qg, Qd, Qe⟩ := hSw; (with_reducible refine pexec_load 33 (.tmp 7) ?_ (w.heap.size + 1 + 1) ?_ 33 #[Value.int .i64 q.a0, Value.int .i64 q.a1, Value.int .i64 q.k0.kind, Value.int .i64 q.k0.len, Value.int .u64 q.k0.h, Value.int .u64 q.k0.l, Value.string ⟨q.k0.path.toArray⟩, Value.int .i64 q.k1.kind, Value.int .i64 q.k1.len, Value.int .u64 q.k1.h, Value.int .u64 q.k1.l, Value.string ⟨q.k1.path.toArray⟩] _ Qe Try.underlying33 ?_ ?_) <;> first | rfl | exact infoPx)
  (try simp only [Act.put, nz1, nz2, nz3])
  refine wpAnyH_ready (rs := [17]) (by kernel_rfl) (by simp) ?_
  refine AllReadyH.cons (o := ⟨some 38, .call { callee := .value (.func 26), args := #[.tmp 34, .tmp 35, .tmp 37], argTypes := #[26, 33, 27] }, 33, _, #[⟨13, .data⟩, ⟨14, .data⟩, ⟨16, .data⟩, ⟨12, .chain⟩, ⟨12, .guard⟩], some (12, true)⟩) rfl (fun K hK => ?_) AllReadyH.nil
  (go_simp; (refine (H4 _).mono ?_); (rintro e wz ⟨rfl, hb⟩); (replace Rg := Rg.later hb); (replace Rd := Rd.later hb); (replace Re := Re.later hb); (replace Ry := Ry.later hb); (replace Rm := Rm.later hb); (replace hb0 := below_step hb0 hb); go_wp2_with fail)
  refine hK.out _ _ ?hSr10_19_17 (fun hHeld2 => ?_)
  case hSr10_19_17 => (obtain ⟨e0, e1, Qg, Qd, Qe⟩ := hHeld; exact ⟨cell_later hb e0, cell_later hb e1, Qg.later hb, Qd.later hb, Qe.later hb⟩)
  clear hK K hHeld
  have hHeld := hHeld2
  clear hHeld2
  rename World => wq
  (try simp only [Act.put, nz1, nz2, nz3])
  refine tk 19 ⟨some 40, .binOp .eql 33 (.tmp 38) (.tmp 39) 33, 4, _, #[⟨17, .data⟩, ⟨18, .data⟩, ⟨12, .guard⟩], some (12, true)⟩ hHeld ?_
  (try simp only [Act.put, nz1, nz2, nz3])
  refine tk 20 ⟨some 41, .pick (.tmp 33) (.tmp 40) (.const (.bool false)), 4, _, #[⟨12, .data⟩, ⟨19, .data⟩], none⟩ hHeld ?_
  (try simp only [Act.put, nz1, nz2, nz3])
  refine tk 21 ⟨some 42, .binOp .neq 4 (.tmp 24) (.tmp 41) 4, 4, _, #[⟨3, .data⟩, ⟨20, .data⟩], none⟩ hHeld ?_
  (try simp only [Act.put, nz1, nz2, nz3])
  refine wpAnyH_done (by kernel_rfl) ?_ _
  clear hHeld
  rename World => w2
  have lg := Rg.lt
  have ld := Rd.lt
  have le := Re.lt
  have ly := Ry.lt
  have lm := Rm.lt
  (try clear g0 g1 g2 g3 g4 g5 g6); obtain ⟨g0, g1, g2, g3, g4, g5, g6⟩ := row7 Rg
  (try clear d0 d1 d2 d3 d4 d5 d6 d7 d8 d9 d10 d11); obtain ⟨d0, d1, d2, d3, d4, d5, d6, d7, d8, d9, d10, d11⟩ := row12 Rd
  (try clear e0 e1 e2 e3 e4 e5 e6 e7 e8 e9 e10 e11); obtain ⟨e0, e1, e2, e3, e4, e5, e6, e7, e8, e9, e10, e11⟩ := row12 Re
  (try clear y0 y1); obtain ⟨y0, y1⟩ := row2 Ry
  (try clear m0 m1 m2 m3 m4 m5 m6 m7 m8 m9 m10 m11); obtain ⟨m0, m1, m2, m3, m4, m5, m6, m7, m8, m9, m10, m11⟩ := row12 Rm
  go_wp2_with fail
  refine (H5 _).mono ?_
  rintro e w3 ⟨rfl, hb⟩
  replace Rg := Rg.later hb
  replace Rd := Rd.later hb
  replace Re := Re.later hb
  replace Ry := Ry.later hb
  replace Rm := Rm.later hb
  replace hb0 := below_step hb0 hb
  clear hb
  have lg := Rg.lt
  have ld := Rd.lt
  have le := Re.lt
  have ly := Ry.lt
  have lm := Rm.lt
  (try clear g0 g1 g2 g3 g4 g5 g6); obtain ⟨g0, g1, g2, g3, g4, g5, g6⟩ := row7 Rg
  (try clear d0 d1 d2 d3 d4 d5 d6 d7 d8 d9 d10 d11); obtain ⟨d0, d1, d2, d3, d4, d5, d6, d7, d8, d9, d10, d11⟩ := row12 Rd
  (try clear e0 e1 e2 e3 e4 e5 e6 e7 e8 e9 e10 e11); obtain ⟨e0, e1, e2, e3, e4, e5, e6, e7, e8, e9, e10, e11⟩ := row12 Re
  (try clear y0 y1); obtain ⟨y0, y1⟩ := row2 Ry
  (try clear m0 m1 m2 m3 m4 m5 m6 m7 m8 m9 m10 m11); obtain ⟨m0, m1, m2, m3, m4, m5, m6, m7, m8, m9, m10, m11⟩ := row12 Rm
  go_wp2_with fail
  refine (H3 _).mono ?_
  rintro e w4 ⟨rfl, hb⟩
  have nng := Rg.lt
  have nnd := Rd.lt
  have nne := Re.lt
  have nny := Ry.lt
  have nnm := Rm.lt
  replace Rg := (Rg.alloc _).later hb
  replace Rd := (Rd.alloc _).later hb
  replace Re := (Re.alloc _).later hb
  replace Ry := (Ry.alloc _).later hb
  replace Rm := (Rm.alloc _).later hb
  have Rn := Row.later (Row.new _ _ _) hb
  have mn := hb0.size
  replace hb0 := below_step (hb0.alloc hb0.size _) hb
  clear hb
  generalize w3.heap.size = gn at *
  have lg := Rg.lt
  have ld := Rd.lt
  have le := Re.lt
  have ly := Ry.lt
  have lm := Rm.lt
  have ln := Rn.lt
  (try clear g0 g1 g2 g3 g4 g5 g6); obtain ⟨g0, g1, g2, g3, g4, g5, g6⟩ := row7 Rg
  (try clear d0 d1 d2 d3 d4 d5 d6 d7 d8 d9 d10 d11); obtain ⟨d0, d1, d2, d3, d4, d5, d6, d7, d8, d9, d10, d11⟩ := row12 Rd
  (try clear e0 e1 e2 e3 e4 e5 e6 e7 e8 e9 e10 e11); obtain ⟨e0, e1, e2, e3, e4, e5, e6, e7, e8, e9, e10, e11⟩ := row12 Re
  (try clear y0 y1); obtain ⟨y0, y1⟩ := row2 Ry
  (try clear m0 m1 m2 m3 m4 m5 m6 m7 m8 m9 m10 m11); obtain ⟨m0, m1, m2, m3, m4, m5, m6, m7, m8, m9, m10, m11⟩ := row12 Rm
  (try clear n0 n1 n2 n3 n4 n5 n6 n7 n8 n9 n10 n11); obtain ⟨n0, n1, n2, n3, n4, n5, n6, n7, n8, n9, n10, n11⟩ := row12 Rn
  go_wp2_with fail
  refine (HA _).mono ?_
  rintro e w5 ⟨rfl, hb⟩
  replace Rg := Rg.later hb
  replace Rd := Rd.later hb
  replace Re := Re.later hb
  replace Ry := Ry.later hb
  replace Rm := Rm.later hb
  replace Rn := Rn.later hb
  replace hb0 := below_step hb0 hb
  clear hb
  have lg := Rg.lt
  have ld := Rd.lt
  have le := Re.lt
  have ly := Ry.lt
  have lm := Rm.lt
  have ln := Rn.lt
  (try clear g0 g1 g2 g3 g4 g5 g6); obtain ⟨g0, g1, g2, g3, g4, g5, g6⟩ := row7 Rg
  (try clear d0 d1 d2 d3 d4 d5 d6 d7 d8 d9 d10 d11); obtain ⟨d0, d1, d2, d3, d4, d5, d6, d7, d8, d9, d10, d11⟩ := row12 Rd
  (try clear e0 e1 e2 e3 e4 e5 e6 e7 e8 e9 e10 e11); obtain ⟨e0, e1, e2, e3, e4, e5, e6, e7, e8, e9, e10, e11⟩ := row12 Re
  (try clear y0 y1); obtain ⟨y0, y1⟩ := row2 Ry
  (try clear m0 m1 m2 m3 m4 m5 m6 m7 m8 m9 m10 m11); obtain ⟨m0, m1, m2, m3, m4, m5, m6, m7, m8, m9, m10, m11⟩ := row12 Rm
  (try clear n0 n1 n2 n3 n4 n5 n6 n7 n8 n9 n10 n11); obtain ⟨n0, n1, n2, n3, n4, n5, n6, n7, n8, n9, n10, n11⟩ := row12 Rn
  go_wp2
  go_ret
  exact ⟨rfl, hb0⟩
set_option maxRecDepth 100000 in
set_option maxHeartbeats 32000000 in
theorem one_11c (s : Sp) (p q u v t : Px) (i j hu2 hp2 : Int) (b : Bool)
    (H0 : ∀ w, Calls Try.prog 26 #[sv s, pv p, .agg #[.int .i64 i, .int .i64 j]] w fun e w' => e = .returned (pv pz) ∧ Below w.heap.size w w')
    (H1 : ∀ w, Calls Try.prog 28 #[sv s, pv q, pv p] w fun e w' => e = .returned (.bool b) ∧ Below w.heap.size w w')
    (H2 : ∀ w, Calls Try.prog 20 #[sv s, pv q] w fun e w' => e = .returned (.bool true) ∧ Below w.heap.size w w')
    (H3 : ∀ w, Calls Try.prog 20 #[sv s, pv p] w fun e w' => e = .returned (.bool true) ∧ Below w.heap.size w w')
    (H5 : ∀ w, Calls Try.prog 22 #[sv s] w fun e w' => e = .returned (pv t) ∧ Below w.heap.size w w')
    (H4 : ∀ w, Calls Try.prog 26 #[sv s, pv p, .agg #[.int .i64 q.a0, .int .i64 q.a1]] w fun e w' => e = .returned (pv v) ∧ Below w.heap.size w w')
    (hb : decide (v = q) = b)
    (g0 : ¬ i < p.a0) (g1 : ¬ j < p.a1) (g2 : t.a0 < i) (w : World) :
    Calls Try.prog 7 #[sv s, pv p, pv q, .int .i64 i, .int .i64 j] w fun e w' => e = .returned (.bool true) ∧ Below w.heap.size w w' := by
  have HA := alive9_t
  have qe := eql_px pz pz
  rw [decide_eq_true rfl] at qe
  have qv := eql_px v q
  rw [hb] at qv
  clear hb
  have g0' : decide (i < p.a0) = false := decide_eq_false g0
  have g1' : decide (j < p.a1) = false := decide_eq_false g1
  have g2' : decide (t.a0 < i) = true := decide_eq_true g2
  unfold pz kz at *
  unfold sv pv at *
  obtain ⟨Rg, Rd, Re, hb0⟩ := three_rows w #[Value.int .i64 s.n, Value.int .i64 s.d0.kind, Value.int .i64 s.d0.side, Value.int .i64 s.d0.step, Value.int .i64 s.d1.kind, Value.int .i64 s.d1.side, Value.int .i64 s.d1.step] #[Value.int .i64 p.a0, Value.int .i64 p.a1, Value.int .i64 p.k0.kind, Value.int .i64 p.k0.len, Value.int .u64 p.k0.h, Value.int .u64 p.k0.l, Value.string ⟨p.k0.path.toArray⟩, Value.int .i64 p.k1.kind, Value.int .i64 p.k1.len, Value.int .u64 p.k1.h, Value.int .u64 p.k1.l, Value.string ⟨p.k1.path.toArray⟩] #[Value.int .i64 q.a0, Value.int .i64 q.a1, Value.int .i64 q.k0.kind, Value.int .i64 q.k0.len, Value.int .u64 q.k0.h, Value.int .u64 q.k0.l, Value.string ⟨q.k0.path.toArray⟩, Value.int .i64 q.k1.kind, Value.int .i64 q.k1.len, Value.int .u64 q.k1.h, Value.int .u64 q.k1.l, Value.string ⟨q.k1.path.toArray⟩] 26 33 33
  (try clear g0 g1 g2 g3 g4 g5 g6); obtain ⟨g0, g1, g2, g3, g4, g5, g6⟩ := row7 Rg
  (try clear d0 d1 d2 d3 d4 d5 d6 d7 d8 d9 d10 d11); obtain ⟨d0, d1, d2, d3, d4, d5, d6, d7, d8, d9, d10, d11⟩ := row12 Rd
  (try clear e0 e1 e2 e3 e4 e5 e6 e7 e8 e9 e10 e11); obtain ⟨e0, e1, e2, e3, e4, e5, e6, e7, e8, e9, e10, e11⟩ := row12 Re
  go_enter Try.func7, Try.ntmps7
  go_wp2_with fail
  refine (H0 _).mono ?_
  rintro e w1 ⟨rfl, hb⟩
  replace Rg := (Rg.alloc _).later hb
  replace Rd := (Rd.alloc _).later hb
  replace Re := (Re.alloc _).later hb
  have Ry := Row.later (Row.new _ _ _) hb
  simp only [World.size_alloc] at Ry
  replace hb0 := below_step (hb0.alloc hb0.size _) hb
  clear hb
  have lg := Rg.lt
  have ld := Rd.lt
  have le := Re.lt
  have ly := Ry.lt
  (try clear g0 g1 g2 g3 g4 g5 g6); obtain ⟨g0, g1, g2, g3, g4, g5, g6⟩ := row7 Rg
  (try clear d0 d1 d2 d3 d4 d5 d6 d7 d8 d9 d10 d11); obtain ⟨d0, d1, d2, d3, d4, d5, d6, d7, d8, d9, d10, d11⟩ := row12 Rd
  (try clear e0 e1 e2 e3 e4 e5 e6 e7 e8 e9 e10 e11); obtain ⟨e0, e1, e2, e3, e4, e5, e6, e7, e8, e9, e10, e11⟩ := row12 Re
  (try clear y0 y1); obtain ⟨y0, y1⟩ := row2 Ry
  go_wp2_with fail
  replace Rg := Rg.alloc (.cells #[Value.int .i64 0, Value.int .i64 0, Value.int .i64 0, Value.int .i64 0, Value.int .u64 0, Value.int .u64 0, Value.string ⟨#[]⟩, Value.int .i64 0, Value.int .i64 0, Value.int .u64 0, Value.int .u64 0, Value.string ⟨#[]⟩] 33)
  replace Rd := Rd.alloc (.cells #[Value.int .i64 0, Value.int .i64 0, Value.int .i64 0, Value.int .i64 0, Value.int .u64 0, Value.int .u64 0, Value.string ⟨#[]⟩, Value.int .i64 0, Value.int .i64 0, Value.int .u64 0, Value.int .u64 0, Value.string ⟨#[]⟩] 33)
  replace Re := Re.alloc (.cells #[Value.int .i64 0, Value.int .i64 0, Value.int .i64 0, Value.int .i64 0, Value.int .u64 0, Value.int .u64 0, Value.string ⟨#[]⟩, Value.int .i64 0, Value.int .i64 0, Value.int .u64 0, Value.int .u64 0, Value.string ⟨#[]⟩] 33)
  replace Ry := Ry.alloc (.cells #[Value.int .i64 0, Value.int .i64 0, Value.int .i64 0, Value.int .i64 0, Value.int .u64 0, Value.int .u64 0, Value.string ⟨#[]⟩, Value.int .i64 0, Value.int .i64 0, Value.int .u64 0, Value.int .u64 0, Value.string ⟨#[]⟩] 33)
  have Rm := Row.new w1 #[Value.int .i64 0, Value.int .i64 0, Value.int .i64 0, Value.int .i64 0, Value.int .u64 0, Value.int .u64 0, Value.string ⟨#[]⟩, Value.int .i64 0, Value.int .i64 0, Value.int .u64 0, Value.int .u64 0, Value.string ⟨#[]⟩] 33
  have mm := hb0.size
  replace hb0 := hb0.alloc hb0.size (.cells #[Value.int .i64 0, Value.int .i64 0, Value.int .i64 0, Value.int .i64 0, Value.int .u64 0, Value.int .u64 0, Value.string ⟨#[]⟩, Value.int .i64 0, Value.int .i64 0, Value.int .u64 0, Value.int .u64 0, Value.string ⟨#[]⟩] 33)
  (try clear g0 g1 g2 g3 g4 g5 g6); obtain ⟨g0, g1, g2, g3, g4, g5, g6⟩ := row7 Rg
  (try clear d0 d1 d2 d3 d4 d5 d6 d7 d8 d9 d10 d11); obtain ⟨d0, d1, d2, d3, d4, d5, d6, d7, d8, d9, d10, d11⟩ := row12 Rd
  (try clear e0 e1 e2 e3 e4 e5 e6 e7 e8 e9 e10 e11); obtain ⟨e0, e1, e2, e3, e4, e5, e6, e7, e8, e9, e10, e11⟩ := row12 Re
  (try clear y0 y1); obtain ⟨y0, y1⟩ := row2 Ry
  (try clear m0 m1 m2 m3 m4 m5 m6 m7 m8 m9 m10 m11); obtain ⟨m0, m1, m2, m3, m4, m5, m6, m7, m8, m9, m10, m11⟩ := row12 Rm
  refine wp_region_held_drew (S := (fun w' => w'.cell? ⟨w.heap.size + 1 + 1, 0, none⟩ = some (Value.int .i64 q.a0) ∧ w'.cell? ⟨w.heap.size + 1 + 1, 1, none⟩ = some (Value.int .i64 q.a1) ∧ Row w' w.heap.size #[Value.int .i64 s.n, Value.int .i64 s.d0.kind, Value.int .i64 s.d0.side, Value.int .i64 s.d0.step, Value.int .i64 s.d1.kind, Value.int .i64 s.d1.side, Value.int .i64 s.d1.step] 26 ∧ Row w' (w.heap.size + 1) #[Value.int .i64 p.a0, Value.int .i64 p.a1, Value.int .i64 p.k0.kind, Value.int .i64 p.k0.len, Value.int .u64 p.k0.h, Value.int .u64 p.k0.l, Value.string ⟨p.k0.path.toArray⟩, Value.int .i64 p.k1.kind, Value.int .i64 p.k1.len, Value.int .u64 p.k1.h, Value.int .u64 p.k1.l, Value.string ⟨p.k1.path.toArray⟩] 33 ∧ Row w' (w.heap.size + 1 + 1) #[Value.int .i64 q.a0, Value.int .i64 q.a1, Value.int .i64 q.k0.kind, Value.int .i64 q.k0.len, Value.int .u64 q.k0.h, Value.int .u64 q.k0.l, Value.string ⟨q.k0.path.toArray⟩, Value.int .i64 q.k1.kind, Value.int .i64 q.k1.len, Value.int .u64 q.k1.h, Value.int .u64 q.k1.l, Value.string ⟨q.k1.path.toArray⟩] 33)) (by kernel_rfl) ?hSr11_ (fun hHeld => ?_)
  case hSr11_ => (exact ⟨e0, e1, Rg.drew, Rd.drew, Re.drew⟩)
  (clear g0 g1 g2 g3 g4 g5 g6 d0 d1 d2 d3 d4 d5 d6 d7 d8 d9 d10 d11 e0 e1 e2 e3 e4 e5 e6 e7 e8 e9 e10 e11 y0 y1 m0 m1 m2 m3 m4 m5 m6 m7 m8 m9 m10 m11; (replace Rg := Rg.drew); (replace Rd := Rd.drew); (replace Re := Re.drew); (replace Ry := Ry.drew); (replace Rm := Rm.drew); (replace hb0 := hb0.drew); (generalize World.drew (World.alloc w1 (.cells #[Value.int .i64 0, Value.int .i64 0, Value.int .i64 0, Value.int .i64 0, Value.int .u64 0, Value.int .u64 0, Value.string ⟨#[]⟩, Value.int .i64 0, Value.int .i64 0, Value.int .u64 0, Value.int .u64 0, Value.string ⟨#[]⟩] 33)) = wq at *))
  refine tk 0 ⟨some 21, .load 26 (.tmp 5), 26, _, #[], none⟩ hHeld ?_ (v := ?vr11_1_0) (hy := ?yr11_1_0)
  case yr11_1_0 => (intro wy hSw; obtain ⟨e0, e1, Qg, Qd, Qe⟩ := hSw; (with_reducible refine pexec_load 26 (.tmp 5) ?_ w.heap.size ?_ 26 #[Value.int .i64 s.n, Value.int .i64 s.d0.kind, Value.int .i64 s.d0.side, Value.int .i64 s.d0.step, Value.int .i64 s.d1.kind, Value.int .i64 s.d1.side, Value.int .i64 s.d1.step] _ Qg Try.underlying26 ?_ ?_) <;> first | rfl | exact infoSp)
  (try simp only [Act.put, nz1, nz2, nz3])
  refine tk 1 ⟨some 22, .load 33 (.tmp 7), 33, _, #[], none⟩ hHeld ?_ (v := ?vr11_2_1) (hy := ?yr11_2_1)
  case yr11_2_1 => (intro wy hSw; obtain ⟨e0, e1, Qg, Qd, Qe⟩ := hSw; (with_reducible refine pexec_load 33 (.tmp 7) ?_ (w.heap.size + 1 + 1) ?_ 33 #[Value.int .i64 q.a0, Value.int .i64 q.a1, Value.int .i64 q.k0.kind, Value.int .i64 q.k0.len, Value.int .u64 q.k0.h, Value.int .u64 q.k0.l, Value.string ⟨q.k0.path.toArray⟩, Value.int .i64 q.k1.kind, Value.int .i64 q.k1.len, Value.int .u64 q.k1.h, Value.int .u64 q.k1.l, Value.string ⟨q.k1.path.toArray⟩] _ Qe Try.underlying33 ?_ ?_) <;> first | rfl | exact infoPx)
  (try simp only [Act.put, nz1, nz2, nz3])
  refine tk 2 ⟨some 23, .load 33 (.tmp 6), 33, _, #[], none⟩ hHeld ?_ (v := ?vr11_3_2) (hy := ?yr11_3_2)
  case yr11_3_2 => (intro wy hSw; obtain ⟨e0, e1, Qg, Qd, Qe⟩ := hSw; (with_reducible refine pexec_load 33 (.tmp 6) ?_ (w.heap.size + 1) ?_ 33 #[Value.int .i64 p.a0, Value.int .i64 p.a1, Value.int .i64 p.k0.kind, Value.int .i64 p.k0.len, Value.int .u64 p.k0.h, Value.int .u64 p.k0.l, Value.string ⟨p.k0.path.toArray⟩, Value.int .i64 p.k1.kind, Value.int .i64 p.k1.len, Value.int .u64 p.k1.h, Value.int .u64 p.k1.l, Value.string ⟨p.k1.path.toArray⟩] _ Qd Try.underlying33 ?_ ?_) <;> first | rfl | exact infoPx)
  (try simp only [Act.put, nz1, nz2, nz3])
  refine tk 4 ⟨some 25, .load 26 (.tmp 5), 26, _, #[], none⟩ hHeld ?_ (v := ?vr11_4_4) (hy := ?yr11_4_4)
  case yr11_4_4 => (intro wy hSw; obtain ⟨e0, e1, Qg, Qd, Qe⟩ := hSw; (with_reducible refine pexec_load 26 (.tmp 5) ?_ w.heap.size ?_ 26 #[Value.int .i64 s.n, Value.int .i64 s.d0.kind, Value.int .i64 s.d0.side, Value.int .i64 s.d0.step, Value.int .i64 s.d1.kind, Value.int .i64 s.d1.side, Value.int .i64 s.d1.step] _ Qg Try.underlying26 ?_ ?_) <;> first | rfl | exact infoSp)
  (try simp only [Act.put, nz1, nz2, nz3])
  refine tk 5 ⟨some 26, .load 33 (.tmp 7), 33, _, #[], none⟩ hHeld ?_ (v := ?vr11_5_5) (hy := ?yr11_5_5)
  case yr11_5_5 => (intro wy hSw; obtain ⟨e0, e1, Qg, Qd, Qe⟩ := hSw; (with_reducible refine pexec_load 33 (.tmp 7) ?_ (w.heap.size + 1 + 1) ?_ 33 #[Value.int .i64 q.a0, Value.int .i64 q.a1, Value.int .i64 q.k0.kind, Value.int .i64 q.k0.len, Value.int .u64 q.k0.h, Value.int .u64 q.k0.l, Value.string ⟨q.k0.path.toArray⟩, Value.int .i64 q.k1.kind, Value.int .i64 q.k1.len, Value.int .u64 q.k1.h, Value.int .u64 q.k1.l, Value.string ⟨q.k1.path.toArray⟩] _ Qe Try.underlying33 ?_ ?_) <;> first | rfl | exact infoPx)
  (try simp only [Act.put, nz1, nz2, nz3])
  refine wpAnyH_ready (rs := [3]) (by kernel_rfl) (by simp) ?_
  refine AllReadyH.cons (o := ⟨some 24, .call { callee := .value (.func 28), args := #[.tmp 21, .tmp 22, .tmp 23], argTypes := #[26, 33, 33] }, 4, _, #[⟨0, .data⟩, ⟨1, .data⟩, ⟨2, .data⟩], none⟩) rfl (fun K hK => ?_) AllReadyH.nil
  (go_simp; (refine (H1 _).mono ?_); (rintro e wz ⟨rfl, hb⟩); (replace Rg := Rg.later hb); (replace Rd := Rd.later hb); (replace Re := Re.later hb); (replace Ry := Ry.later hb); (replace Rm := Rm.later hb); (replace hb0 := below_step hb0 hb); go_wp2_with fail)
  refine hK.out _ _ ?hSr11_6_3 (fun hHeld2 => ?_)
  case hSr11_6_3 => (obtain ⟨e0, e1, Qg, Qd, Qe⟩ := hHeld; exact ⟨cell_later hb e0, cell_later hb e1, Qg.later hb, Qd.later hb, Qe.later hb⟩)
  clear hK K hHeld
  have hHeld := hHeld2
  clear hHeld2
  rename World => wq
  (try simp only [Act.put, nz1, nz2, nz3])
  refine wpAnyH_ready (rs := [6]) (by kernel_rfl) (by simp) ?_
  refine AllReadyH.cons (o := ⟨some 27, .call { callee := .value (.func 20), args := #[.tmp 25, .tmp 26], argTypes := #[26, 33] }, 4, _, #[⟨4, .data⟩, ⟨5, .data⟩, ⟨3, .chain⟩], none⟩) rfl (fun K hK => ?_) AllReadyH.nil
  (go_simp; (refine (H2 _).mono ?_); (rintro e wz ⟨rfl, hb⟩); (replace Rg := Rg.later hb); (replace Rd := Rd.later hb); (replace Re := Re.later hb); (replace Ry := Ry.later hb); (replace Rm := Rm.later hb); (replace hb0 := below_step hb0 hb); go_wp2_with fail)
  refine hK.out _ _ ?hSr11_7_6 (fun hHeld2 => ?_)
  case hSr11_7_6 => (obtain ⟨e0, e1, Qg, Qd, Qe⟩ := hHeld; exact ⟨cell_later hb e0, cell_later hb e1, Qg.later hb, Qd.later hb, Qe.later hb⟩)
  clear hK K hHeld
  have hHeld := hHeld2
  clear hHeld2
  rename World => wq
  (try simp only [Act.put, nz1, nz2, nz3])
  refine tk 7 ⟨some 28, .move (.tmp 27), 4, _, #[⟨6, .data⟩, ⟨6, .chain⟩], none⟩ hHeld ?_
  (try simp only [Act.put, nz1, nz2, nz3])
  refine tk 8 ⟨some 29, .load 26 (.tmp 5), 26, _, #[⟨7, .guard⟩], some (7, true)⟩ hHeld ?_ (v := ?vr11_9_8) (hy := ?yr11_9_8)
  case yr11_9_8 => (intro wy hSw; obtain ⟨e0, e1, Qg, Qd, Qe⟩ := hSw; (with_reducible refine pexec_load 26 (.tmp 5) ?_ w.heap.size ?_ 26 #[Value.int .i64 s.n, Value.int .i64 s.d0.kind, Value.int .i64 s.d0.side, Value.int .i64 s.d0.step, Value.int .i64 s.d1.kind, Value.int .i64 s.d1.side, Value.int .i64 s.d1.step] _ Qg Try.underlying26 ?_ ?_) <;> first | rfl | exact infoSp)
  (try simp only [Act.put, nz1, nz2, nz3])
  refine tk 9 ⟨some 30, .load 33 (.tmp 6), 33, _, #[⟨7, .guard⟩], some (7, true)⟩ hHeld ?_ (v := ?vr11_10_9) (hy := ?yr11_10_9)
  case yr11_10_9 => (intro wy hSw; obtain ⟨e0, e1, Qg, Qd, Qe⟩ := hSw; (with_reducible refine pexec_load 33 (.tmp 6) ?_ (w.heap.size + 1) ?_ 33 #[Value.int .i64 p.a0, Value.int .i64 p.a1, Value.int .i64 p.k0.kind, Value.int .i64 p.k0.len, Value.int .u64 p.k0.h, Value.int .u64 p.k0.l, Value.string ⟨p.k0.path.toArray⟩, Value.int .i64 p.k1.kind, Value.int .i64 p.k1.len, Value.int .u64 p.k1.h, Value.int .u64 p.k1.l, Value.string ⟨p.k1.path.toArray⟩] _ Qd Try.underlying33 ?_ ?_) <;> first | rfl | exact infoPx)
  (try simp only [Act.put, nz1, nz2, nz3])
  refine wpAnyH_ready (rs := [10]) (by kernel_rfl) (by simp) ?_
  refine AllReadyH.cons (o := ⟨some 31, .call { callee := .value (.func 20), args := #[.tmp 29, .tmp 30], argTypes := #[26, 33] }, 4, _, #[⟨8, .data⟩, ⟨9, .data⟩, ⟨7, .chain⟩, ⟨7, .guard⟩], some (7, true)⟩) rfl (fun K hK => ?_) AllReadyH.nil
  (go_simp; (refine (H3 _).mono ?_); (rintro e wz ⟨rfl, hb⟩); (replace Rg := Rg.later hb); (replace Rd := Rd.later hb); (replace Re := Re.later hb); (replace Ry := Ry.later hb); (replace Rm := Rm.later hb); (replace hb0 := below_step hb0 hb); go_wp2_with fail)
  refine hK.out _ _ ?hSr11_11_10 (fun hHeld2 => ?_)
  case hSr11_11_10 => (obtain ⟨e0, e1, Qg, Qd, Qe⟩ := hHeld; exact ⟨cell_later hb e0, cell_later hb e1, Qg.later hb, Qd.later hb, Qe.later hb⟩)
  clear hK K hHeld
  have hHeld := hHeld2
  clear hHeld2
  rename World => wq
  (try simp only [Act.put, nz1, nz2, nz3])
  refine tk 11 ⟨some 32, .pick (.tmp 28) (.tmp 31) (.const (.bool false)), 4, _, #[⟨7, .data⟩, ⟨10, .data⟩], none⟩ hHeld ?_
  (try simp only [Act.put, nz1, nz2, nz3])
  refine tk 12 ⟨some 33, .move (.tmp 32), 4, _, #[⟨11, .data⟩, ⟨10, .chain⟩], none⟩ hHeld ?_
  (try simp only [Act.put, nz1, nz2, nz3])
  refine tk 13 ⟨some 34, .load 26 (.tmp 5), 26, _, #[⟨12, .guard⟩], some (12, true)⟩ hHeld ?_ (v := ?vr11_14_13) (hy := ?yr11_14_13)
  case yr11_14_13 => (intro wy hSw; obtain ⟨e0, e1, Qg, Qd, Qe⟩ := hSw; (with_reducible refine pexec_load 26 (.tmp 5) ?_ w.heap.size ?_ 26 #[Value.int .i64 s.n, Value.int .i64 s.d0.kind, Value.int .i64 s.d0.side, Value.int .i64 s.d0.step, Value.int .i64 s.d1.kind, Value.int .i64 s.d1.side, Value.int .i64 s.d1.step] _ Qg Try.underlying26 ?_ ?_) <;> first | rfl | exact infoSp)
  (try simp only [Act.put, nz1, nz2, nz3])
  refine tk 14 ⟨some 35, .load 33 (.tmp 6), 33, _, #[⟨12, .guard⟩], some (12, true)⟩ hHeld ?_ (v := ?vr11_15_14) (hy := ?yr11_15_14)
  case yr11_15_14 => (intro wy hSw; obtain ⟨e0, e1, Qg, Qd, Qe⟩ := hSw; (with_reducible refine pexec_load 33 (.tmp 6) ?_ (w.heap.size + 1) ?_ 33 #[Value.int .i64 p.a0, Value.int .i64 p.a1, Value.int .i64 p.k0.kind, Value.int .i64 p.k0.len, Value.int .u64 p.k0.h, Value.int .u64 p.k0.l, Value.string ⟨p.k0.path.toArray⟩, Value.int .i64 p.k1.kind, Value.int .i64 p.k1.len, Value.int .u64 p.k1.h, Value.int .u64 p.k1.l, Value.string ⟨p.k1.path.toArray⟩] _ Qd Try.underlying33 ?_ ?_) <;> first | rfl | exact infoPx)
  (try simp only [Act.put, nz1, nz2, nz3])
  refine tk 15 ⟨some 36, .fieldAddr 33 (.tmp 7) 0, 0, _, #[⟨12, .guard⟩], some (12, true)⟩ hHeld ?_
  (try simp only [Act.put, nz1, nz2, nz3])
  refine tk 16 ⟨some 37, .load 27 (.tmp 36), 27, _, #[⟨15, .data⟩, ⟨12, .guard⟩], some (12, true)⟩ hHeld ?_
  (try simp only [Act.put, nz1, nz2, nz3])
  refine tk 18 ⟨some 39, .load 33 (.tmp 7), 33, _, #[⟨12, .guard⟩], some (12, true)⟩ hHeld ?_ (v := ?vr11_18_18) (hy := ?yr11_18_18)
  case yr11_18_18 => (intro wy hSw; obtain ⟨e0, e1, Qg, Qd, Qe⟩ := hSw; (with_reducible refine pexec_load 33 (.tmp 7) ?_ (w.heap.size + 1 + 1) ?_ 33 #[Value.int .i64 q.a0, Value.int .i64 q.a1, Value.int .i64 q.k0.kind, Value.int .i64 q.k0.len, Value.int .u64 q.k0.h, Value.int .u64 q.k0.l, Value.string ⟨q.k0.path.toArray⟩, Value.int .i64 q.k1.kind, Value.int .i64 q.k1.len, Value.int .u64 q.k1.h, Value.int .u64 q.k1.l, Value.string ⟨q.k1.path.toArray⟩] _ Qe Try.underlying33 ?_ ?_) <;> first | rfl | exact infoPx)
  (try simp only [Act.put, nz1, nz2, nz3])
  refine wpAnyH_ready (rs := [17]) (by kernel_rfl) (by simp) ?_
  refine AllReadyH.cons (o := ⟨some 38, .call { callee := .value (.func 26), args := #[.tmp 34, .tmp 35, .tmp 37], argTypes := #[26, 33, 27] }, 33, _, #[⟨13, .data⟩, ⟨14, .data⟩, ⟨16, .data⟩, ⟨12, .chain⟩, ⟨12, .guard⟩], some (12, true)⟩) rfl (fun K hK => ?_) AllReadyH.nil
  (go_simp; (refine (H4 _).mono ?_); (rintro e wz ⟨rfl, hb⟩); (replace Rg := Rg.later hb); (replace Rd := Rd.later hb); (replace Re := Re.later hb); (replace Ry := Ry.later hb); (replace Rm := Rm.later hb); (replace hb0 := below_step hb0 hb); go_wp2_with fail)
  refine hK.out _ _ ?hSr11_19_17 (fun hHeld2 => ?_)
  case hSr11_19_17 => (obtain ⟨e0, e1, Qg, Qd, Qe⟩ := hHeld; exact ⟨cell_later hb e0, cell_later hb e1, Qg.later hb, Qd.later hb, Qe.later hb⟩)
  clear hK K hHeld
  have hHeld := hHeld2
  clear hHeld2
  rename World => wq
  (try simp only [Act.put, nz1, nz2, nz3])
  refine tk 19 ⟨some 40, .binOp .eql 33 (.tmp 38) (.tmp 39) 33, 4, _, #[⟨17, .data⟩, ⟨18, .data⟩, ⟨12, .guard⟩], some (12, true)⟩ hHeld ?_
  (try simp only [Act.put, nz1, nz2, nz3])
  refine tk 20 ⟨some 41, .pick (.tmp 33) (.tmp 40) (.const (.bool false)), 4, _, #[⟨12, .data⟩, ⟨19, .data⟩], none⟩ hHeld ?_
  (try simp only [Act.put, nz1, nz2, nz3])
  refine tk 21 ⟨some 42, .binOp .neq 4 (.tmp 24) (.tmp 41) 4, 4, _, #[⟨3, .data⟩, ⟨20, .data⟩], none⟩ hHeld ?_
  (try simp only [Act.put, nz1, nz2, nz3])
  refine wpAnyH_done (by kernel_rfl) ?_ _
  clear hHeld
  rename World => w2
  have lg := Rg.lt
  have ld := Rd.lt
  have le := Re.lt
  have ly := Ry.lt
  have lm := Rm.lt
  (try clear g0 g1 g2 g3 g4 g5 g6); obtain ⟨g0, g1, g2, g3, g4, g5, g6⟩ := row7 Rg
  (try clear d0 d1 d2 d3 d4 d5 d6 d7 d8 d9 d10 d11); obtain ⟨d0, d1, d2, d3, d4, d5, d6, d7, d8, d9, d10, d11⟩ := row12 Rd
  (try clear e0 e1 e2 e3 e4 e5 e6 e7 e8 e9 e10 e11); obtain ⟨e0, e1, e2, e3, e4, e5, e6, e7, e8, e9, e10, e11⟩ := row12 Re
  (try clear y0 y1); obtain ⟨y0, y1⟩ := row2 Ry
  (try clear m0 m1 m2 m3 m4 m5 m6 m7 m8 m9 m10 m11); obtain ⟨m0, m1, m2, m3, m4, m5, m6, m7, m8, m9, m10, m11⟩ := row12 Rm
  go_wp2_with fail
  refine (H5 _).mono ?_
  rintro e w3 ⟨rfl, hb⟩
  replace Rg := Rg.later hb
  replace Rd := Rd.later hb
  replace Re := Re.later hb
  replace Ry := Ry.later hb
  replace Rm := Rm.later hb
  replace hb0 := below_step hb0 hb
  clear hb
  have lg := Rg.lt
  have ld := Rd.lt
  have le := Re.lt
  have ly := Ry.lt
  have lm := Rm.lt
  (try clear g0 g1 g2 g3 g4 g5 g6); obtain ⟨g0, g1, g2, g3, g4, g5, g6⟩ := row7 Rg
  (try clear d0 d1 d2 d3 d4 d5 d6 d7 d8 d9 d10 d11); obtain ⟨d0, d1, d2, d3, d4, d5, d6, d7, d8, d9, d10, d11⟩ := row12 Rd
  (try clear e0 e1 e2 e3 e4 e5 e6 e7 e8 e9 e10 e11); obtain ⟨e0, e1, e2, e3, e4, e5, e6, e7, e8, e9, e10, e11⟩ := row12 Re
  (try clear y0 y1); obtain ⟨y0, y1⟩ := row2 Ry
  (try clear m0 m1 m2 m3 m4 m5 m6 m7 m8 m9 m10 m11); obtain ⟨m0, m1, m2, m3, m4, m5, m6, m7, m8, m9, m10, m11⟩ := row12 Rm
  go_wp2_with fail
  refine (H3 _).mono ?_
  rintro e w4 ⟨rfl, hb⟩
  have nng := Rg.lt
  have nnd := Rd.lt
  have nne := Re.lt
  have nny := Ry.lt
  have nnm := Rm.lt
  replace Rg := (Rg.alloc _).later hb
  replace Rd := (Rd.alloc _).later hb
  replace Re := (Re.alloc _).later hb
  replace Ry := (Ry.alloc _).later hb
  replace Rm := (Rm.alloc _).later hb
  have Rn := Row.later (Row.new _ _ _) hb
  have mn := hb0.size
  replace hb0 := below_step (hb0.alloc hb0.size _) hb
  clear hb
  generalize w3.heap.size = gn at *
  have lg := Rg.lt
  have ld := Rd.lt
  have le := Re.lt
  have ly := Ry.lt
  have lm := Rm.lt
  have ln := Rn.lt
  (try clear g0 g1 g2 g3 g4 g5 g6); obtain ⟨g0, g1, g2, g3, g4, g5, g6⟩ := row7 Rg
  (try clear d0 d1 d2 d3 d4 d5 d6 d7 d8 d9 d10 d11); obtain ⟨d0, d1, d2, d3, d4, d5, d6, d7, d8, d9, d10, d11⟩ := row12 Rd
  (try clear e0 e1 e2 e3 e4 e5 e6 e7 e8 e9 e10 e11); obtain ⟨e0, e1, e2, e3, e4, e5, e6, e7, e8, e9, e10, e11⟩ := row12 Re
  (try clear y0 y1); obtain ⟨y0, y1⟩ := row2 Ry
  (try clear m0 m1 m2 m3 m4 m5 m6 m7 m8 m9 m10 m11); obtain ⟨m0, m1, m2, m3, m4, m5, m6, m7, m8, m9, m10, m11⟩ := row12 Rm
  (try clear n0 n1 n2 n3 n4 n5 n6 n7 n8 n9 n10 n11); obtain ⟨n0, n1, n2, n3, n4, n5, n6, n7, n8, n9, n10, n11⟩ := row12 Rn
  go_wp2_with fail
  refine (HA _).mono ?_
  rintro e w5 ⟨rfl, hb⟩
  replace Rg := Rg.later hb
  replace Rd := Rd.later hb
  replace Re := Re.later hb
  replace Ry := Ry.later hb
  replace Rm := Rm.later hb
  replace Rn := Rn.later hb
  replace hb0 := below_step hb0 hb
  clear hb
  have lg := Rg.lt
  have ld := Rd.lt
  have le := Re.lt
  have ly := Ry.lt
  have lm := Rm.lt
  have ln := Rn.lt
  (try clear g0 g1 g2 g3 g4 g5 g6); obtain ⟨g0, g1, g2, g3, g4, g5, g6⟩ := row7 Rg
  (try clear d0 d1 d2 d3 d4 d5 d6 d7 d8 d9 d10 d11); obtain ⟨d0, d1, d2, d3, d4, d5, d6, d7, d8, d9, d10, d11⟩ := row12 Rd
  (try clear e0 e1 e2 e3 e4 e5 e6 e7 e8 e9 e10 e11); obtain ⟨e0, e1, e2, e3, e4, e5, e6, e7, e8, e9, e10, e11⟩ := row12 Re
  (try clear y0 y1); obtain ⟨y0, y1⟩ := row2 Ry
  (try clear m0 m1 m2 m3 m4 m5 m6 m7 m8 m9 m10 m11); obtain ⟨m0, m1, m2, m3, m4, m5, m6, m7, m8, m9, m10, m11⟩ := row12 Rm
  (try clear n0 n1 n2 n3 n4 n5 n6 n7 n8 n9 n10 n11); obtain ⟨n0, n1, n2, n3, n4, n5, n6, n7, n8, n9, n10, n11⟩ := row12 Rn
  go_wp2
  go_ret
  exact ⟨rfl, hb0⟩
set_option maxRecDepth 100000 in
set_option maxHeartbeats 32000000 in
theorem one_11d (s : Sp) (p q u v t : Px) (i j hu2 hp2 : Int) (b : Bool)
    (H0 : ∀ w, Calls Try.prog 26 #[sv s, pv p, .agg #[.int .i64 i, .int .i64 j]] w fun e w' => e = .returned (pv pz) ∧ Below w.heap.size w w')
    (H1 : ∀ w, Calls Try.prog 28 #[sv s, pv q, pv p] w fun e w' => e = .returned (.bool b) ∧ Below w.heap.size w w')
    (H2 : ∀ w, Calls Try.prog 20 #[sv s, pv q] w fun e w' => e = .returned (.bool true) ∧ Below w.heap.size w w')
    (H3 : ∀ w, Calls Try.prog 20 #[sv s, pv p] w fun e w' => e = .returned (.bool true) ∧ Below w.heap.size w w')
    (H5 : ∀ w, Calls Try.prog 22 #[sv s] w fun e w' => e = .returned (pv t) ∧ Below w.heap.size w w')
    (H4 : ∀ w, Calls Try.prog 26 #[sv s, pv p, .agg #[.int .i64 q.a0, .int .i64 q.a1]] w fun e w' => e = .returned (pv v) ∧ Below w.heap.size w w')
    (hb : decide (v = q) = b)
    (g0 : ¬ i < p.a0) (g1 : ¬ j < p.a1) (g2 : ¬ t.a0 < i) (g3 : t.a1 < j) (w : World) :
    Calls Try.prog 7 #[sv s, pv p, pv q, .int .i64 i, .int .i64 j] w fun e w' => e = .returned (.bool true) ∧ Below w.heap.size w w' := by
  have HA := alive9_t
  have qe := eql_px pz pz
  rw [decide_eq_true rfl] at qe
  have qv := eql_px v q
  rw [hb] at qv
  clear hb
  have g0' : decide (i < p.a0) = false := decide_eq_false g0
  have g1' : decide (j < p.a1) = false := decide_eq_false g1
  have g2' : decide (t.a0 < i) = false := decide_eq_false g2
  have g3' : decide (t.a1 < j) = true := decide_eq_true g3
  unfold pz kz at *
  unfold sv pv at *
  obtain ⟨Rg, Rd, Re, hb0⟩ := three_rows w #[Value.int .i64 s.n, Value.int .i64 s.d0.kind, Value.int .i64 s.d0.side, Value.int .i64 s.d0.step, Value.int .i64 s.d1.kind, Value.int .i64 s.d1.side, Value.int .i64 s.d1.step] #[Value.int .i64 p.a0, Value.int .i64 p.a1, Value.int .i64 p.k0.kind, Value.int .i64 p.k0.len, Value.int .u64 p.k0.h, Value.int .u64 p.k0.l, Value.string ⟨p.k0.path.toArray⟩, Value.int .i64 p.k1.kind, Value.int .i64 p.k1.len, Value.int .u64 p.k1.h, Value.int .u64 p.k1.l, Value.string ⟨p.k1.path.toArray⟩] #[Value.int .i64 q.a0, Value.int .i64 q.a1, Value.int .i64 q.k0.kind, Value.int .i64 q.k0.len, Value.int .u64 q.k0.h, Value.int .u64 q.k0.l, Value.string ⟨q.k0.path.toArray⟩, Value.int .i64 q.k1.kind, Value.int .i64 q.k1.len, Value.int .u64 q.k1.h, Value.int .u64 q.k1.l, Value.string ⟨q.k1.path.toArray⟩] 26 33 33
  (try clear g0 g1 g2 g3 g4 g5 g6); obtain ⟨g0, g1, g2, g3, g4, g5, g6⟩ := row7 Rg
  (try clear d0 d1 d2 d3 d4 d5 d6 d7 d8 d9 d10 d11); obtain ⟨d0, d1, d2, d3, d4, d5, d6, d7, d8, d9, d10, d11⟩ := row12 Rd
  (try clear e0 e1 e2 e3 e4 e5 e6 e7 e8 e9 e10 e11); obtain ⟨e0, e1, e2, e3, e4, e5, e6, e7, e8, e9, e10, e11⟩ := row12 Re
  go_enter Try.func7, Try.ntmps7
  go_wp2_with fail
  refine (H0 _).mono ?_
  rintro e w1 ⟨rfl, hb⟩
  replace Rg := (Rg.alloc _).later hb
  replace Rd := (Rd.alloc _).later hb
  replace Re := (Re.alloc _).later hb
  have Ry := Row.later (Row.new _ _ _) hb
  simp only [World.size_alloc] at Ry
  replace hb0 := below_step (hb0.alloc hb0.size _) hb
  clear hb
  have lg := Rg.lt
  have ld := Rd.lt
  have le := Re.lt
  have ly := Ry.lt
  (try clear g0 g1 g2 g3 g4 g5 g6); obtain ⟨g0, g1, g2, g3, g4, g5, g6⟩ := row7 Rg
  (try clear d0 d1 d2 d3 d4 d5 d6 d7 d8 d9 d10 d11); obtain ⟨d0, d1, d2, d3, d4, d5, d6, d7, d8, d9, d10, d11⟩ := row12 Rd
  (try clear e0 e1 e2 e3 e4 e5 e6 e7 e8 e9 e10 e11); obtain ⟨e0, e1, e2, e3, e4, e5, e6, e7, e8, e9, e10, e11⟩ := row12 Re
  (try clear y0 y1); obtain ⟨y0, y1⟩ := row2 Ry
  go_wp2_with fail
  replace Rg := Rg.alloc (.cells #[Value.int .i64 0, Value.int .i64 0, Value.int .i64 0, Value.int .i64 0, Value.int .u64 0, Value.int .u64 0, Value.string ⟨#[]⟩, Value.int .i64 0, Value.int .i64 0, Value.int .u64 0, Value.int .u64 0, Value.string ⟨#[]⟩] 33)
  replace Rd := Rd.alloc (.cells #[Value.int .i64 0, Value.int .i64 0, Value.int .i64 0, Value.int .i64 0, Value.int .u64 0, Value.int .u64 0, Value.string ⟨#[]⟩, Value.int .i64 0, Value.int .i64 0, Value.int .u64 0, Value.int .u64 0, Value.string ⟨#[]⟩] 33)
  replace Re := Re.alloc (.cells #[Value.int .i64 0, Value.int .i64 0, Value.int .i64 0, Value.int .i64 0, Value.int .u64 0, Value.int .u64 0, Value.string ⟨#[]⟩, Value.int .i64 0, Value.int .i64 0, Value.int .u64 0, Value.int .u64 0, Value.string ⟨#[]⟩] 33)
  replace Ry := Ry.alloc (.cells #[Value.int .i64 0, Value.int .i64 0, Value.int .i64 0, Value.int .i64 0, Value.int .u64 0, Value.int .u64 0, Value.string ⟨#[]⟩, Value.int .i64 0, Value.int .i64 0, Value.int .u64 0, Value.int .u64 0, Value.string ⟨#[]⟩] 33)
  have Rm := Row.new w1 #[Value.int .i64 0, Value.int .i64 0, Value.int .i64 0, Value.int .i64 0, Value.int .u64 0, Value.int .u64 0, Value.string ⟨#[]⟩, Value.int .i64 0, Value.int .i64 0, Value.int .u64 0, Value.int .u64 0, Value.string ⟨#[]⟩] 33
  have mm := hb0.size
  replace hb0 := hb0.alloc hb0.size (.cells #[Value.int .i64 0, Value.int .i64 0, Value.int .i64 0, Value.int .i64 0, Value.int .u64 0, Value.int .u64 0, Value.string ⟨#[]⟩, Value.int .i64 0, Value.int .i64 0, Value.int .u64 0, Value.int .u64 0, Value.string ⟨#[]⟩] 33)
  (try clear g0 g1 g2 g3 g4 g5 g6); obtain ⟨g0, g1, g2, g3, g4, g5, g6⟩ := row7 Rg
  (try clear d0 d1 d2 d3 d4 d5 d6 d7 d8 d9 d10 d11); obtain ⟨d0, d1, d2, d3, d4, d5, d6, d7, d8, d9, d10, d11⟩ := row12 Rd
  (try clear e0 e1 e2 e3 e4 e5 e6 e7 e8 e9 e10 e11); obtain ⟨e0, e1, e2, e3, e4, e5, e6, e7, e8, e9, e10, e11⟩ := row12 Re
  (try clear y0 y1); obtain ⟨y0, y1⟩ := row2 Ry
  (try clear m0 m1 m2 m3 m4 m5 m6 m7 m8 m9 m10 m11); obtain ⟨m0, m1, m2, m3, m4, m5, m6, m7, m8, m9, m10, m11⟩ := row12 Rm
  refine wp_region_held_drew (S := (fun w' => w'.cell? ⟨w.heap.size + 1 + 1, 0, none⟩ = some (Value.int .i64 q.a0) ∧ w'.cell? ⟨w.heap.size + 1 + 1, 1, none⟩ = some (Value.int .i64 q.a1) ∧ Row w' w.heap.size #[Value.int .i64 s.n, Value.int .i64 s.d0.kind, Value.int .i64 s.d0.side, Value.int .i64 s.d0.step, Value.int .i64 s.d1.kind, Value.int .i64 s.d1.side, Value.int .i64 s.d1.step] 26 ∧ Row w' (w.heap.size + 1) #[Value.int .i64 p.a0, Value.int .i64 p.a1, Value.int .i64 p.k0.kind, Value.int .i64 p.k0.len, Value.int .u64 p.k0.h, Value.int .u64 p.k0.l, Value.string ⟨p.k0.path.toArray⟩, Value.int .i64 p.k1.kind, Value.int .i64 p.k1.len, Value.int .u64 p.k1.h, Value.int .u64 p.k1.l, Value.string ⟨p.k1.path.toArray⟩] 33 ∧ Row w' (w.heap.size + 1 + 1) #[Value.int .i64 q.a0, Value.int .i64 q.a1, Value.int .i64 q.k0.kind, Value.int .i64 q.k0.len, Value.int .u64 q.k0.h, Value.int .u64 q.k0.l, Value.string ⟨q.k0.path.toArray⟩, Value.int .i64 q.k1.kind, Value.int .i64 q.k1.len, Value.int .u64 q.k1.h, Value.int .u64 q.k1.l, Value.string ⟨q.k1.path.toArray⟩] 33)) (by kernel_rfl) ?hSr12_ (fun hHeld => ?_)
  case hSr12_ => (exact ⟨e0, e1, Rg.drew, Rd.drew, Re.drew⟩)
  (clear g0 g1 g2 g3 g4 g5 g6 d0 d1 d2 d3 d4 d5 d6 d7 d8 d9 d10 d11 e0 e1 e2 e3 e4 e5 e6 e7 e8 e9 e10 e11 y0 y1 m0 m1 m2 m3 m4 m5 m6 m7 m8 m9 m10 m11; (replace Rg := Rg.drew); (replace Rd := Rd.drew); (replace Re := Re.drew); (replace Ry := Ry.drew); (replace Rm := Rm.drew); (replace hb0 := hb0.drew); (generalize World.drew (World.alloc w1 (.cells #[Value.int .i64 0, Value.int .i64 0, Value.int .i64 0, Value.int .i64 0, Value.int .u64 0, Value.int .u64 0, Value.string ⟨#[]⟩, Value.int .i64 0, Value.int .i64 0, Value.int .u64 0, Value.int .u64 0, Value.string ⟨#[]⟩] 33)) = wq at *))
  refine tk 0 ⟨some 21, .load 26 (.tmp 5), 26, _, #[], none⟩ hHeld ?_ (v := ?vr12_1_0) (hy := ?yr12_1_0)
  case yr12_1_0 => (intro wy hSw; obtain ⟨e0, e1, Qg, Qd, Qe⟩ := hSw; (with_reducible refine pexec_load 26 (.tmp 5) ?_ w.heap.size ?_ 26 #[Value.int .i64 s.n, Value.int .i64 s.d0.kind, Value.int .i64 s.d0.side, Value.int .i64 s.d0.step, Value.int .i64 s.d1.kind, Value.int .i64 s.d1.side, Value.int .i64 s.d1.step] _ Qg Try.underlying26 ?_ ?_) <;> first | rfl | exact infoSp)
  (try simp only [Act.put, nz1, nz2, nz3])
  refine tk 1 ⟨some 22, .load 33 (.tmp 7), 33, _, #[], none⟩ hHeld ?_ (v := ?vr12_2_1) (hy := ?yr12_2_1)
  case yr12_2_1 => (intro wy hSw; obtain ⟨e0, e1, Qg, Qd, Qe⟩ := hSw; (with_reducible refine pexec_load 33 (.tmp 7) ?_ (w.heap.size + 1 + 1) ?_ 33 #[Value.int .i64 q.a0, Value.int .i64 q.a1, Value.int .i64 q.k0.kind, Value.int .i64 q.k0.len, Value.int .u64 q.k0.h, Value.int .u64 q.k0.l, Value.string ⟨q.k0.path.toArray⟩, Value.int .i64 q.k1.kind, Value.int .i64 q.k1.len, Value.int .u64 q.k1.h, Value.int .u64 q.k1.l, Value.string ⟨q.k1.path.toArray⟩] _ Qe Try.underlying33 ?_ ?_) <;> first | rfl | exact infoPx)
  (try simp only [Act.put, nz1, nz2, nz3])
  refine tk 2 ⟨some 23, .load 33 (.tmp 6), 33, _, #[], none⟩ hHeld ?_ (v := ?vr12_3_2) (hy := ?yr12_3_2)
  case yr12_3_2 => (intro wy hSw; obtain ⟨e0, e1, Qg, Qd, Qe⟩ := hSw; (with_reducible refine pexec_load 33 (.tmp 6) ?_ (w.heap.size + 1) ?_ 33 #[Value.int .i64 p.a0, Value.int .i64 p.a1, Value.int .i64 p.k0.kind, Value.int .i64 p.k0.len, Value.int .u64 p.k0.h, Value.int .u64 p.k0.l, Value.string ⟨p.k0.path.toArray⟩, Value.int .i64 p.k1.kind, Value.int .i64 p.k1.len, Value.int .u64 p.k1.h, Value.int .u64 p.k1.l, Value.string ⟨p.k1.path.toArray⟩] _ Qd Try.underlying33 ?_ ?_) <;> first | rfl | exact infoPx)
  (try simp only [Act.put, nz1, nz2, nz3])
  refine tk 4 ⟨some 25, .load 26 (.tmp 5), 26, _, #[], none⟩ hHeld ?_ (v := ?vr12_4_4) (hy := ?yr12_4_4)
  case yr12_4_4 => (intro wy hSw; obtain ⟨e0, e1, Qg, Qd, Qe⟩ := hSw; (with_reducible refine pexec_load 26 (.tmp 5) ?_ w.heap.size ?_ 26 #[Value.int .i64 s.n, Value.int .i64 s.d0.kind, Value.int .i64 s.d0.side, Value.int .i64 s.d0.step, Value.int .i64 s.d1.kind, Value.int .i64 s.d1.side, Value.int .i64 s.d1.step] _ Qg Try.underlying26 ?_ ?_) <;> first | rfl | exact infoSp)
  (try simp only [Act.put, nz1, nz2, nz3])
  refine tk 5 ⟨some 26, .load 33 (.tmp 7), 33, _, #[], none⟩ hHeld ?_ (v := ?vr12_5_5) (hy := ?yr12_5_5)
  case yr12_5_5 => (intro wy hSw; obtain ⟨e0, e1, Qg, Qd, Qe⟩ := hSw; (with_reducible refine pexec_load 33 (.tmp 7) ?_ (w.heap.size + 1 + 1) ?_ 33 #[Value.int .i64 q.a0, Value.int .i64 q.a1, Value.int .i64 q.k0.kind, Value.int .i64 q.k0.len, Value.int .u64 q.k0.h, Value.int .u64 q.k0.l, Value.string ⟨q.k0.path.toArray⟩, Value.int .i64 q.k1.kind, Value.int .i64 q.k1.len, Value.int .u64 q.k1.h, Value.int .u64 q.k1.l, Value.string ⟨q.k1.path.toArray⟩] _ Qe Try.underlying33 ?_ ?_) <;> first | rfl | exact infoPx)
  (try simp only [Act.put, nz1, nz2, nz3])
  refine wpAnyH_ready (rs := [3]) (by kernel_rfl) (by simp) ?_
  refine AllReadyH.cons (o := ⟨some 24, .call { callee := .value (.func 28), args := #[.tmp 21, .tmp 22, .tmp 23], argTypes := #[26, 33, 33] }, 4, _, #[⟨0, .data⟩, ⟨1, .data⟩, ⟨2, .data⟩], none⟩) rfl (fun K hK => ?_) AllReadyH.nil
  (go_simp; (refine (H1 _).mono ?_); (rintro e wz ⟨rfl, hb⟩); (replace Rg := Rg.later hb); (replace Rd := Rd.later hb); (replace Re := Re.later hb); (replace Ry := Ry.later hb); (replace Rm := Rm.later hb); (replace hb0 := below_step hb0 hb); go_wp2_with fail)
  refine hK.out _ _ ?hSr12_6_3 (fun hHeld2 => ?_)
  case hSr12_6_3 => (obtain ⟨e0, e1, Qg, Qd, Qe⟩ := hHeld; exact ⟨cell_later hb e0, cell_later hb e1, Qg.later hb, Qd.later hb, Qe.later hb⟩)
  clear hK K hHeld
  have hHeld := hHeld2
  clear hHeld2
  rename World => wq
  (try simp only [Act.put, nz1, nz2, nz3])
  refine wpAnyH_ready (rs := [6]) (by kernel_rfl) (by simp) ?_
  refine AllReadyH.cons (o := ⟨some 27, .call { callee := .value (.func 20), args := #[.tmp 25, .tmp 26], argTypes := #[26, 33] }, 4, _, #[⟨4, .data⟩, ⟨5, .data⟩, ⟨3, .chain⟩], none⟩) rfl (fun K hK => ?_) AllReadyH.nil
  (go_simp; (refine (H2 _).mono ?_); (rintro e wz ⟨rfl, hb⟩); (replace Rg := Rg.later hb); (replace Rd := Rd.later hb); (replace Re := Re.later hb); (replace Ry := Ry.later hb); (replace Rm := Rm.later hb); (replace hb0 := below_step hb0 hb); go_wp2_with fail)
  refine hK.out _ _ ?hSr12_7_6 (fun hHeld2 => ?_)
  case hSr12_7_6 => (obtain ⟨e0, e1, Qg, Qd, Qe⟩ := hHeld; exact ⟨cell_later hb e0, cell_later hb e1, Qg.later hb, Qd.later hb, Qe.later hb⟩)
  clear hK K hHeld
  have hHeld := hHeld2
  clear hHeld2
  rename World => wq
  (try simp only [Act.put, nz1, nz2, nz3])
  refine tk 7 ⟨some 28, .move (.tmp 27), 4, _, #[⟨6, .data⟩, ⟨6, .chain⟩], none⟩ hHeld ?_
  (try simp only [Act.put, nz1, nz2, nz3])
  refine tk 8 ⟨some 29, .load 26 (.tmp 5), 26, _, #[⟨7, .guard⟩], some (7, true)⟩ hHeld ?_ (v := ?vr12_9_8) (hy := ?yr12_9_8)
  case yr12_9_8 => (intro wy hSw; obtain ⟨e0, e1, Qg, Qd, Qe⟩ := hSw; (with_reducible refine pexec_load 26 (.tmp 5) ?_ w.heap.size ?_ 26 #[Value.int .i64 s.n, Value.int .i64 s.d0.kind, Value.int .i64 s.d0.side, Value.int .i64 s.d0.step, Value.int .i64 s.d1.kind, Value.int .i64 s.d1.side, Value.int .i64 s.d1.step] _ Qg Try.underlying26 ?_ ?_) <;> first | rfl | exact infoSp)
  (try simp only [Act.put, nz1, nz2, nz3])
  refine tk 9 ⟨some 30, .load 33 (.tmp 6), 33, _, #[⟨7, .guard⟩], some (7, true)⟩ hHeld ?_ (v := ?vr12_10_9) (hy := ?yr12_10_9)
  case yr12_10_9 => (intro wy hSw; obtain ⟨e0, e1, Qg, Qd, Qe⟩ := hSw; (with_reducible refine pexec_load 33 (.tmp 6) ?_ (w.heap.size + 1) ?_ 33 #[Value.int .i64 p.a0, Value.int .i64 p.a1, Value.int .i64 p.k0.kind, Value.int .i64 p.k0.len, Value.int .u64 p.k0.h, Value.int .u64 p.k0.l, Value.string ⟨p.k0.path.toArray⟩, Value.int .i64 p.k1.kind, Value.int .i64 p.k1.len, Value.int .u64 p.k1.h, Value.int .u64 p.k1.l, Value.string ⟨p.k1.path.toArray⟩] _ Qd Try.underlying33 ?_ ?_) <;> first | rfl | exact infoPx)
  (try simp only [Act.put, nz1, nz2, nz3])
  refine wpAnyH_ready (rs := [10]) (by kernel_rfl) (by simp) ?_
  refine AllReadyH.cons (o := ⟨some 31, .call { callee := .value (.func 20), args := #[.tmp 29, .tmp 30], argTypes := #[26, 33] }, 4, _, #[⟨8, .data⟩, ⟨9, .data⟩, ⟨7, .chain⟩, ⟨7, .guard⟩], some (7, true)⟩) rfl (fun K hK => ?_) AllReadyH.nil
  (go_simp; (refine (H3 _).mono ?_); (rintro e wz ⟨rfl, hb⟩); (replace Rg := Rg.later hb); (replace Rd := Rd.later hb); (replace Re := Re.later hb); (replace Ry := Ry.later hb); (replace Rm := Rm.later hb); (replace hb0 := below_step hb0 hb); go_wp2_with fail)
  refine hK.out _ _ ?hSr12_11_10 (fun hHeld2 => ?_)
  case hSr12_11_10 => (obtain ⟨e0, e1, Qg, Qd, Qe⟩ := hHeld; exact ⟨cell_later hb e0, cell_later hb e1, Qg.later hb, Qd.later hb, Qe.later hb⟩)
  clear hK K hHeld
  have hHeld := hHeld2
  clear hHeld2
  rename World => wq
  (try simp only [Act.put, nz1, nz2, nz3])
  refine tk 11 ⟨some 32, .pick (.tmp 28) (.tmp 31) (.const (.bool false)), 4, _, #[⟨7, .data⟩, ⟨10, .data⟩], none⟩ hHeld ?_
  (try simp only [Act.put, nz1, nz2, nz3])
  refine tk 12 ⟨some 33, .move (.tmp 32), 4, _, #[⟨11, .data⟩, ⟨10, .chain⟩], none⟩ hHeld ?_
  (try simp only [Act.put, nz1, nz2, nz3])
  refine tk 13 ⟨some 34, .load 26 (.tmp 5), 26, _, #[⟨12, .guard⟩], some (12, true)⟩ hHeld ?_ (v := ?vr12_14_13) (hy := ?yr12_14_13)
  case yr12_14_13 => (intro wy hSw; obtain ⟨e0, e1, Qg, Qd, Qe⟩ := hSw; (with_reducible refine pexec_load 26 (.tmp 5) ?_ w.heap.size ?_ 26 #[Value.int .i64 s.n, Value.int .i64 s.d0.kind, Value.int .i64 s.d0.side, Value.int .i64 s.d0.step, Value.int .i64 s.d1.kind, Value.int .i64 s.d1.side, Value.int .i64 s.d1.step] _ Qg Try.underlying26 ?_ ?_) <;> first | rfl | exact infoSp)
  (try simp only [Act.put, nz1, nz2, nz3])
  refine tk 14 ⟨some 35, .load 33 (.tmp 6), 33, _, #[⟨12, .guard⟩], some (12, true)⟩ hHeld ?_ (v := ?vr12_15_14) (hy := ?yr12_15_14)
  case yr12_15_14 => (intro wy hSw; obtain ⟨e0, e1, Qg, Qd, Qe⟩ := hSw; (with_reducible refine pexec_load 33 (.tmp 6) ?_ (w.heap.size + 1) ?_ 33 #[Value.int .i64 p.a0, Value.int .i64 p.a1, Value.int .i64 p.k0.kind, Value.int .i64 p.k0.len, Value.int .u64 p.k0.h, Value.int .u64 p.k0.l, Value.string ⟨p.k0.path.toArray⟩, Value.int .i64 p.k1.kind, Value.int .i64 p.k1.len, Value.int .u64 p.k1.h, Value.int .u64 p.k1.l, Value.string ⟨p.k1.path.toArray⟩] _ Qd Try.underlying33 ?_ ?_) <;> first | rfl | exact infoPx)
  (try simp only [Act.put, nz1, nz2, nz3])
  refine tk 15 ⟨some 36, .fieldAddr 33 (.tmp 7) 0, 0, _, #[⟨12, .guard⟩], some (12, true)⟩ hHeld ?_
  (try simp only [Act.put, nz1, nz2, nz3])
  refine tk 16 ⟨some 37, .load 27 (.tmp 36), 27, _, #[⟨15, .data⟩, ⟨12, .guard⟩], some (12, true)⟩ hHeld ?_
  (try simp only [Act.put, nz1, nz2, nz3])
  refine tk 18 ⟨some 39, .load 33 (.tmp 7), 33, _, #[⟨12, .guard⟩], some (12, true)⟩ hHeld ?_ (v := ?vr12_18_18) (hy := ?yr12_18_18)
  case yr12_18_18 => (intro wy hSw; obtain ⟨e0, e1, Qg, Qd, Qe⟩ := hSw; (with_reducible refine pexec_load 33 (.tmp 7) ?_ (w.heap.size + 1 + 1) ?_ 33 #[Value.int .i64 q.a0, Value.int .i64 q.a1, Value.int .i64 q.k0.kind, Value.int .i64 q.k0.len, Value.int .u64 q.k0.h, Value.int .u64 q.k0.l, Value.string ⟨q.k0.path.toArray⟩, Value.int .i64 q.k1.kind, Value.int .i64 q.k1.len, Value.int .u64 q.k1.h, Value.int .u64 q.k1.l, Value.string ⟨q.k1.path.toArray⟩] _ Qe Try.underlying33 ?_ ?_) <;> first | rfl | exact infoPx)
  (try simp only [Act.put, nz1, nz2, nz3])
  refine wpAnyH_ready (rs := [17]) (by kernel_rfl) (by simp) ?_
  refine AllReadyH.cons (o := ⟨some 38, .call { callee := .value (.func 26), args := #[.tmp 34, .tmp 35, .tmp 37], argTypes := #[26, 33, 27] }, 33, _, #[⟨13, .data⟩, ⟨14, .data⟩, ⟨16, .data⟩, ⟨12, .chain⟩, ⟨12, .guard⟩], some (12, true)⟩) rfl (fun K hK => ?_) AllReadyH.nil
  (go_simp; (refine (H4 _).mono ?_); (rintro e wz ⟨rfl, hb⟩); (replace Rg := Rg.later hb); (replace Rd := Rd.later hb); (replace Re := Re.later hb); (replace Ry := Ry.later hb); (replace Rm := Rm.later hb); (replace hb0 := below_step hb0 hb); go_wp2_with fail)
  refine hK.out _ _ ?hSr12_19_17 (fun hHeld2 => ?_)
  case hSr12_19_17 => (obtain ⟨e0, e1, Qg, Qd, Qe⟩ := hHeld; exact ⟨cell_later hb e0, cell_later hb e1, Qg.later hb, Qd.later hb, Qe.later hb⟩)
  clear hK K hHeld
  have hHeld := hHeld2
  clear hHeld2
  rename World => wq
  (try simp only [Act.put, nz1, nz2, nz3])
  refine tk 19 ⟨some 40, .binOp .eql 33 (.tmp 38) (.tmp 39) 33, 4, _, #[⟨17, .data⟩, ⟨18, .data⟩, ⟨12, .guard⟩], some (12, true)⟩ hHeld ?_
  (try simp only [Act.put, nz1, nz2, nz3])
  refine tk 20 ⟨some 41, .pick (.tmp 33) (.tmp 40) (.const (.bool false)), 4, _, #[⟨12, .data⟩, ⟨19, .data⟩], none⟩ hHeld ?_
  (try simp only [Act.put, nz1, nz2, nz3])
  refine tk 21 ⟨some 42, .binOp .neq 4 (.tmp 24) (.tmp 41) 4, 4, _, #[⟨3, .data⟩, ⟨20, .data⟩], none⟩ hHeld ?_
  (try simp only [Act.put, nz1, nz2, nz3])
  refine wpAnyH_done (by kernel_rfl) ?_ _
  clear hHeld
  rename World => w2
  have lg := Rg.lt
  have ld := Rd.lt
  have le := Re.lt
  have ly := Ry.lt
  have lm := Rm.lt
  (try clear g0 g1 g2 g3 g4 g5 g6); obtain ⟨g0, g1, g2, g3, g4, g5, g6⟩ := row7 Rg
  (try clear d0 d1 d2 d3 d4 d5 d6 d7 d8 d9 d10 d11); obtain ⟨d0, d1, d2, d3, d4, d5, d6, d7, d8, d9, d10, d11⟩ := row12 Rd
  (try clear e0 e1 e2 e3 e4 e5 e6 e7 e8 e9 e10 e11); obtain ⟨e0, e1, e2, e3, e4, e5, e6, e7, e8, e9, e10, e11⟩ := row12 Re
  (try clear y0 y1); obtain ⟨y0, y1⟩ := row2 Ry
  (try clear m0 m1 m2 m3 m4 m5 m6 m7 m8 m9 m10 m11); obtain ⟨m0, m1, m2, m3, m4, m5, m6, m7, m8, m9, m10, m11⟩ := row12 Rm
  go_wp2_with fail
  refine (H5 _).mono ?_
  rintro e w3 ⟨rfl, hb⟩
  replace Rg := Rg.later hb
  replace Rd := Rd.later hb
  replace Re := Re.later hb
  replace Ry := Ry.later hb
  replace Rm := Rm.later hb
  replace hb0 := below_step hb0 hb
  clear hb
  have lg := Rg.lt
  have ld := Rd.lt
  have le := Re.lt
  have ly := Ry.lt
  have lm := Rm.lt
  (try clear g0 g1 g2 g3 g4 g5 g6); obtain ⟨g0, g1, g2, g3, g4, g5, g6⟩ := row7 Rg
  (try clear d0 d1 d2 d3 d4 d5 d6 d7 d8 d9 d10 d11); obtain ⟨d0, d1, d2, d3, d4, d5, d6, d7, d8, d9, d10, d11⟩ := row12 Rd
  (try clear e0 e1 e2 e3 e4 e5 e6 e7 e8 e9 e10 e11); obtain ⟨e0, e1, e2, e3, e4, e5, e6, e7, e8, e9, e10, e11⟩ := row12 Re
  (try clear y0 y1); obtain ⟨y0, y1⟩ := row2 Ry
  (try clear m0 m1 m2 m3 m4 m5 m6 m7 m8 m9 m10 m11); obtain ⟨m0, m1, m2, m3, m4, m5, m6, m7, m8, m9, m10, m11⟩ := row12 Rm
  go_wp2_with fail
  refine (H3 _).mono ?_
  rintro e w4 ⟨rfl, hb⟩
  have nng := Rg.lt
  have nnd := Rd.lt
  have nne := Re.lt
  have nny := Ry.lt
  have nnm := Rm.lt
  replace Rg := (Rg.alloc _).later hb
  replace Rd := (Rd.alloc _).later hb
  replace Re := (Re.alloc _).later hb
  replace Ry := (Ry.alloc _).later hb
  replace Rm := (Rm.alloc _).later hb
  have Rn := Row.later (Row.new _ _ _) hb
  have mn := hb0.size
  replace hb0 := below_step (hb0.alloc hb0.size _) hb
  clear hb
  generalize w3.heap.size = gn at *
  have lg := Rg.lt
  have ld := Rd.lt
  have le := Re.lt
  have ly := Ry.lt
  have lm := Rm.lt
  have ln := Rn.lt
  (try clear g0 g1 g2 g3 g4 g5 g6); obtain ⟨g0, g1, g2, g3, g4, g5, g6⟩ := row7 Rg
  (try clear d0 d1 d2 d3 d4 d5 d6 d7 d8 d9 d10 d11); obtain ⟨d0, d1, d2, d3, d4, d5, d6, d7, d8, d9, d10, d11⟩ := row12 Rd
  (try clear e0 e1 e2 e3 e4 e5 e6 e7 e8 e9 e10 e11); obtain ⟨e0, e1, e2, e3, e4, e5, e6, e7, e8, e9, e10, e11⟩ := row12 Re
  (try clear y0 y1); obtain ⟨y0, y1⟩ := row2 Ry
  (try clear m0 m1 m2 m3 m4 m5 m6 m7 m8 m9 m10 m11); obtain ⟨m0, m1, m2, m3, m4, m5, m6, m7, m8, m9, m10, m11⟩ := row12 Rm
  (try clear n0 n1 n2 n3 n4 n5 n6 n7 n8 n9 n10 n11); obtain ⟨n0, n1, n2, n3, n4, n5, n6, n7, n8, n9, n10, n11⟩ := row12 Rn
  go_wp2_with fail
  refine (HA _).mono ?_
  rintro e w5 ⟨rfl, hb⟩
  replace Rg := Rg.later hb
  replace Rd := Rd.later hb
  replace Re := Re.later hb
  replace Ry := Ry.later hb
  replace Rm := Rm.later hb
  replace Rn := Rn.later hb
  replace hb0 := below_step hb0 hb
  clear hb
  have lg := Rg.lt
  have ld := Rd.lt
  have le := Re.lt
  have ly := Ry.lt
  have lm := Rm.lt
  have ln := Rn.lt
  (try clear g0 g1 g2 g3 g4 g5 g6); obtain ⟨g0, g1, g2, g3, g4, g5, g6⟩ := row7 Rg
  (try clear d0 d1 d2 d3 d4 d5 d6 d7 d8 d9 d10 d11); obtain ⟨d0, d1, d2, d3, d4, d5, d6, d7, d8, d9, d10, d11⟩ := row12 Rd
  (try clear e0 e1 e2 e3 e4 e5 e6 e7 e8 e9 e10 e11); obtain ⟨e0, e1, e2, e3, e4, e5, e6, e7, e8, e9, e10, e11⟩ := row12 Re
  (try clear y0 y1); obtain ⟨y0, y1⟩ := row2 Ry
  (try clear m0 m1 m2 m3 m4 m5 m6 m7 m8 m9 m10 m11); obtain ⟨m0, m1, m2, m3, m4, m5, m6, m7, m8, m9, m10, m11⟩ := row12 Rm
  (try clear n0 n1 n2 n3 n4 n5 n6 n7 n8 n9 n10 n11); obtain ⟨n0, n1, n2, n3, n4, n5, n6, n7, n8, n9, n10, n11⟩ := row12 Rn
  go_wp2
  go_ret
  exact ⟨rfl, hb0⟩
set_option maxRecDepth 100000 in
set_option maxHeartbeats 32000000 in
theorem one_11ok (s : Sp) (p q u v t : Px) (i j hu2 hp2 : Int) (b : Bool)
    (H0 : ∀ w, Calls Try.prog 26 #[sv s, pv p, .agg #[.int .i64 i, .int .i64 j]] w fun e w' => e = .returned (pv u) ∧ Below w.heap.size w w')
    (H1 : ∀ w, Calls Try.prog 28 #[sv s, pv q, pv p] w fun e w' => e = .returned (.bool b) ∧ Below w.heap.size w w')
    (H2 : ∀ w, Calls Try.prog 20 #[sv s, pv q] w fun e w' => e = .returned (.bool true) ∧ Below w.heap.size w w')
    (H3 : ∀ w, Calls Try.prog 20 #[sv s, pv p] w fun e w' => e = .returned (.bool true) ∧ Below w.heap.size w w')
    (H5 : ∀ w, Calls Try.prog 22 #[sv s] w fun e w' => e = .returned (pv t) ∧ Below w.heap.size w w')
    (H4 : ∀ w, Calls Try.prog 26 #[sv s, pv p, .agg #[.int .i64 q.a0, .int .i64 q.a1]] w fun e w' => e = .returned (pv v) ∧ Below w.heap.size w w')
    (hb : decide (v = q) = b)
    (g0 : ¬ i < p.a0) (g1 : ¬ j < p.a1) (g2 : ¬ t.a0 < i) (g3 : ¬ t.a1 < j)
    (hu : u.a0 = i ∧ u.a1 = j)
    (H6 : ∀ w, Calls Try.prog 28 #[sv s, pv u, pv p] w fun e w' => e = .returned (.bool true) ∧ Below w.heap.size w w')
    (H7 : ∀ w, Calls Try.prog 25 #[sv s, pv u] w fun e w' => e = .returned (.int .i64 hu2) ∧ Below w.heap.size w w')
    (H8 : ∀ w, Calls Try.prog 25 #[sv s, pv p] w fun e w' => e = .returned (.int .i64 hp2) ∧ Below w.heap.size w w')
    (hh : hp2 ≤ hu2) (w : World) :
    Calls Try.prog 7 #[sv s, pv p, pv q, .int .i64 i, .int .i64 j] w fun e w' => e = .returned (.bool true) ∧ Below w.heap.size w w' := by
  have HA := alive9_t
  have qe := eql_px pz pz
  rw [decide_eq_true rfl] at qe
  have qv := eql_px v q
  rw [hb] at qv
  clear hb
  have g0' : decide (i < p.a0) = false := decide_eq_false g0
  have g1' : decide (j < p.a1) = false := decide_eq_false g1
  have g2' : decide (t.a0 < i) = false := decide_eq_false g2
  have g3' : decide (t.a1 < j) = false := decide_eq_false g3
  have qa := eql_at u.a0 u.a1 i j
  rw [decide_eq_true hu] at qa
  have hh' : decide (hp2 ≤ hu2) = true := decide_eq_true hh
  clear hu
  unfold pz kz at *
  unfold sv pv at *
  obtain ⟨Rg, Rd, Re, hb0⟩ := three_rows w #[Value.int .i64 s.n, Value.int .i64 s.d0.kind, Value.int .i64 s.d0.side, Value.int .i64 s.d0.step, Value.int .i64 s.d1.kind, Value.int .i64 s.d1.side, Value.int .i64 s.d1.step] #[Value.int .i64 p.a0, Value.int .i64 p.a1, Value.int .i64 p.k0.kind, Value.int .i64 p.k0.len, Value.int .u64 p.k0.h, Value.int .u64 p.k0.l, Value.string ⟨p.k0.path.toArray⟩, Value.int .i64 p.k1.kind, Value.int .i64 p.k1.len, Value.int .u64 p.k1.h, Value.int .u64 p.k1.l, Value.string ⟨p.k1.path.toArray⟩] #[Value.int .i64 q.a0, Value.int .i64 q.a1, Value.int .i64 q.k0.kind, Value.int .i64 q.k0.len, Value.int .u64 q.k0.h, Value.int .u64 q.k0.l, Value.string ⟨q.k0.path.toArray⟩, Value.int .i64 q.k1.kind, Value.int .i64 q.k1.len, Value.int .u64 q.k1.h, Value.int .u64 q.k1.l, Value.string ⟨q.k1.path.toArray⟩] 26 33 33
  (try clear g0 g1 g2 g3 g4 g5 g6); obtain ⟨g0, g1, g2, g3, g4, g5, g6⟩ := row7 Rg
  (try clear d0 d1 d2 d3 d4 d5 d6 d7 d8 d9 d10 d11); obtain ⟨d0, d1, d2, d3, d4, d5, d6, d7, d8, d9, d10, d11⟩ := row12 Rd
  (try clear e0 e1 e2 e3 e4 e5 e6 e7 e8 e9 e10 e11); obtain ⟨e0, e1, e2, e3, e4, e5, e6, e7, e8, e9, e10, e11⟩ := row12 Re
  go_enter Try.func7, Try.ntmps7
  go_wp2_with fail
  refine (H0 _).mono ?_
  rintro e w1 ⟨rfl, hb⟩
  replace Rg := (Rg.alloc _).later hb
  replace Rd := (Rd.alloc _).later hb
  replace Re := (Re.alloc _).later hb
  have Ry := Row.later (Row.new _ _ _) hb
  simp only [World.size_alloc] at Ry
  replace hb0 := below_step (hb0.alloc hb0.size _) hb
  clear hb
  have lg := Rg.lt
  have ld := Rd.lt
  have le := Re.lt
  have ly := Ry.lt
  (try clear g0 g1 g2 g3 g4 g5 g6); obtain ⟨g0, g1, g2, g3, g4, g5, g6⟩ := row7 Rg
  (try clear d0 d1 d2 d3 d4 d5 d6 d7 d8 d9 d10 d11); obtain ⟨d0, d1, d2, d3, d4, d5, d6, d7, d8, d9, d10, d11⟩ := row12 Rd
  (try clear e0 e1 e2 e3 e4 e5 e6 e7 e8 e9 e10 e11); obtain ⟨e0, e1, e2, e3, e4, e5, e6, e7, e8, e9, e10, e11⟩ := row12 Re
  (try clear y0 y1); obtain ⟨y0, y1⟩ := row2 Ry
  go_wp2_with fail
  replace Rg := Rg.alloc (.cells #[Value.int .i64 u.a0, Value.int .i64 u.a1, Value.int .i64 u.k0.kind, Value.int .i64 u.k0.len, Value.int .u64 u.k0.h, Value.int .u64 u.k0.l, Value.string ⟨u.k0.path.toArray⟩, Value.int .i64 u.k1.kind, Value.int .i64 u.k1.len, Value.int .u64 u.k1.h, Value.int .u64 u.k1.l, Value.string ⟨u.k1.path.toArray⟩] 33)
  replace Rd := Rd.alloc (.cells #[Value.int .i64 u.a0, Value.int .i64 u.a1, Value.int .i64 u.k0.kind, Value.int .i64 u.k0.len, Value.int .u64 u.k0.h, Value.int .u64 u.k0.l, Value.string ⟨u.k0.path.toArray⟩, Value.int .i64 u.k1.kind, Value.int .i64 u.k1.len, Value.int .u64 u.k1.h, Value.int .u64 u.k1.l, Value.string ⟨u.k1.path.toArray⟩] 33)
  replace Re := Re.alloc (.cells #[Value.int .i64 u.a0, Value.int .i64 u.a1, Value.int .i64 u.k0.kind, Value.int .i64 u.k0.len, Value.int .u64 u.k0.h, Value.int .u64 u.k0.l, Value.string ⟨u.k0.path.toArray⟩, Value.int .i64 u.k1.kind, Value.int .i64 u.k1.len, Value.int .u64 u.k1.h, Value.int .u64 u.k1.l, Value.string ⟨u.k1.path.toArray⟩] 33)
  replace Ry := Ry.alloc (.cells #[Value.int .i64 u.a0, Value.int .i64 u.a1, Value.int .i64 u.k0.kind, Value.int .i64 u.k0.len, Value.int .u64 u.k0.h, Value.int .u64 u.k0.l, Value.string ⟨u.k0.path.toArray⟩, Value.int .i64 u.k1.kind, Value.int .i64 u.k1.len, Value.int .u64 u.k1.h, Value.int .u64 u.k1.l, Value.string ⟨u.k1.path.toArray⟩] 33)
  have Rm := Row.new w1 #[Value.int .i64 u.a0, Value.int .i64 u.a1, Value.int .i64 u.k0.kind, Value.int .i64 u.k0.len, Value.int .u64 u.k0.h, Value.int .u64 u.k0.l, Value.string ⟨u.k0.path.toArray⟩, Value.int .i64 u.k1.kind, Value.int .i64 u.k1.len, Value.int .u64 u.k1.h, Value.int .u64 u.k1.l, Value.string ⟨u.k1.path.toArray⟩] 33
  have mm := hb0.size
  replace hb0 := hb0.alloc hb0.size (.cells #[Value.int .i64 u.a0, Value.int .i64 u.a1, Value.int .i64 u.k0.kind, Value.int .i64 u.k0.len, Value.int .u64 u.k0.h, Value.int .u64 u.k0.l, Value.string ⟨u.k0.path.toArray⟩, Value.int .i64 u.k1.kind, Value.int .i64 u.k1.len, Value.int .u64 u.k1.h, Value.int .u64 u.k1.l, Value.string ⟨u.k1.path.toArray⟩] 33)
  (try clear g0 g1 g2 g3 g4 g5 g6); obtain ⟨g0, g1, g2, g3, g4, g5, g6⟩ := row7 Rg
  (try clear d0 d1 d2 d3 d4 d5 d6 d7 d8 d9 d10 d11); obtain ⟨d0, d1, d2, d3, d4, d5, d6, d7, d8, d9, d10, d11⟩ := row12 Rd
  (try clear e0 e1 e2 e3 e4 e5 e6 e7 e8 e9 e10 e11); obtain ⟨e0, e1, e2, e3, e4, e5, e6, e7, e8, e9, e10, e11⟩ := row12 Re
  (try clear y0 y1); obtain ⟨y0, y1⟩ := row2 Ry
  (try clear m0 m1 m2 m3 m4 m5 m6 m7 m8 m9 m10 m11); obtain ⟨m0, m1, m2, m3, m4, m5, m6, m7, m8, m9, m10, m11⟩ := row12 Rm
  refine wp_region_held_drew (S := (fun w' => w'.cell? ⟨w.heap.size + 1 + 1, 0, none⟩ = some (Value.int .i64 q.a0) ∧ w'.cell? ⟨w.heap.size + 1 + 1, 1, none⟩ = some (Value.int .i64 q.a1) ∧ Row w' w.heap.size #[Value.int .i64 s.n, Value.int .i64 s.d0.kind, Value.int .i64 s.d0.side, Value.int .i64 s.d0.step, Value.int .i64 s.d1.kind, Value.int .i64 s.d1.side, Value.int .i64 s.d1.step] 26 ∧ Row w' (w.heap.size + 1) #[Value.int .i64 p.a0, Value.int .i64 p.a1, Value.int .i64 p.k0.kind, Value.int .i64 p.k0.len, Value.int .u64 p.k0.h, Value.int .u64 p.k0.l, Value.string ⟨p.k0.path.toArray⟩, Value.int .i64 p.k1.kind, Value.int .i64 p.k1.len, Value.int .u64 p.k1.h, Value.int .u64 p.k1.l, Value.string ⟨p.k1.path.toArray⟩] 33 ∧ Row w' (w.heap.size + 1 + 1) #[Value.int .i64 q.a0, Value.int .i64 q.a1, Value.int .i64 q.k0.kind, Value.int .i64 q.k0.len, Value.int .u64 q.k0.h, Value.int .u64 q.k0.l, Value.string ⟨q.k0.path.toArray⟩, Value.int .i64 q.k1.kind, Value.int .i64 q.k1.len, Value.int .u64 q.k1.h, Value.int .u64 q.k1.l, Value.string ⟨q.k1.path.toArray⟩] 33)) (by kernel_rfl) ?hSr13_ (fun hHeld => ?_)
  case hSr13_ => (exact ⟨e0, e1, Rg.drew, Rd.drew, Re.drew⟩)
  (clear g0 g1 g2 g3 g4 g5 g6 d0 d1 d2 d3 d4 d5 d6 d7 d8 d9 d10 d11 e0 e1 e2 e3 e4 e5 e6 e7 e8 e9 e10 e11 y0 y1 m0 m1 m2 m3 m4 m5 m6 m7 m8 m9 m10 m11; (replace Rg := Rg.drew); (replace Rd := Rd.drew); (replace Re := Re.drew); (replace Ry := Ry.drew); (replace Rm := Rm.drew); (replace hb0 := hb0.drew); (generalize World.drew (World.alloc w1 (.cells #[Value.int .i64 u.a0, Value.int .i64 u.a1, Value.int .i64 u.k0.kind, Value.int .i64 u.k0.len, Value.int .u64 u.k0.h, Value.int .u64 u.k0.l, Value.string ⟨u.k0.path.toArray⟩, Value.int .i64 u.k1.kind, Value.int .i64 u.k1.len, Value.int .u64 u.k1.h, Value.int .u64 u.k1.l, Value.string ⟨u.k1.path.toArray⟩] 33)) = wq at *))
  refine tk 0 ⟨some 21, .load 26 (.tmp 5), 26, _, #[], none⟩ hHeld ?_ (v := ?vr13_1_0) (hy := ?yr13_1_0)
  case yr13_1_0 => (intro wy hSw; obtain ⟨e0, e1, Qg, Qd, Qe⟩ := hSw; (with_reducible refine pexec_load 26 (.tmp 5) ?_ w.heap.size ?_ 26 #[Value.int .i64 s.n, Value.int .i64 s.d0.kind, Value.int .i64 s.d0.side, Value.int .i64 s.d0.step, Value.int .i64 s.d1.kind, Value.int .i64 s.d1.side, Value.int .i64 s.d1.step] _ Qg Try.underlying26 ?_ ?_) <;> first | rfl | exact infoSp)
  (try simp only [Act.put, nz1, nz2, nz3])
  refine tk 1 ⟨some 22, .load 33 (.tmp 7), 33, _, #[], none⟩ hHeld ?_ (v := ?vr13_2_1) (hy := ?yr13_2_1)
  case yr13_2_1 => (intro wy hSw; obtain ⟨e0, e1, Qg, Qd, Qe⟩ := hSw; (with_reducible refine pexec_load 33 (.tmp 7) ?_ (w.heap.size + 1 + 1) ?_ 33 #[Value.int .i64 q.a0, Value.int .i64 q.a1, Value.int .i64 q.k0.kind, Value.int .i64 q.k0.len, Value.int .u64 q.k0.h, Value.int .u64 q.k0.l, Value.string ⟨q.k0.path.toArray⟩, Value.int .i64 q.k1.kind, Value.int .i64 q.k1.len, Value.int .u64 q.k1.h, Value.int .u64 q.k1.l, Value.string ⟨q.k1.path.toArray⟩] _ Qe Try.underlying33 ?_ ?_) <;> first | rfl | exact infoPx)
  (try simp only [Act.put, nz1, nz2, nz3])
  refine tk 2 ⟨some 23, .load 33 (.tmp 6), 33, _, #[], none⟩ hHeld ?_ (v := ?vr13_3_2) (hy := ?yr13_3_2)
  case yr13_3_2 => (intro wy hSw; obtain ⟨e0, e1, Qg, Qd, Qe⟩ := hSw; (with_reducible refine pexec_load 33 (.tmp 6) ?_ (w.heap.size + 1) ?_ 33 #[Value.int .i64 p.a0, Value.int .i64 p.a1, Value.int .i64 p.k0.kind, Value.int .i64 p.k0.len, Value.int .u64 p.k0.h, Value.int .u64 p.k0.l, Value.string ⟨p.k0.path.toArray⟩, Value.int .i64 p.k1.kind, Value.int .i64 p.k1.len, Value.int .u64 p.k1.h, Value.int .u64 p.k1.l, Value.string ⟨p.k1.path.toArray⟩] _ Qd Try.underlying33 ?_ ?_) <;> first | rfl | exact infoPx)
  (try simp only [Act.put, nz1, nz2, nz3])
  refine tk 4 ⟨some 25, .load 26 (.tmp 5), 26, _, #[], none⟩ hHeld ?_ (v := ?vr13_4_4) (hy := ?yr13_4_4)
  case yr13_4_4 => (intro wy hSw; obtain ⟨e0, e1, Qg, Qd, Qe⟩ := hSw; (with_reducible refine pexec_load 26 (.tmp 5) ?_ w.heap.size ?_ 26 #[Value.int .i64 s.n, Value.int .i64 s.d0.kind, Value.int .i64 s.d0.side, Value.int .i64 s.d0.step, Value.int .i64 s.d1.kind, Value.int .i64 s.d1.side, Value.int .i64 s.d1.step] _ Qg Try.underlying26 ?_ ?_) <;> first | rfl | exact infoSp)
  (try simp only [Act.put, nz1, nz2, nz3])
  refine tk 5 ⟨some 26, .load 33 (.tmp 7), 33, _, #[], none⟩ hHeld ?_ (v := ?vr13_5_5) (hy := ?yr13_5_5)
  case yr13_5_5 => (intro wy hSw; obtain ⟨e0, e1, Qg, Qd, Qe⟩ := hSw; (with_reducible refine pexec_load 33 (.tmp 7) ?_ (w.heap.size + 1 + 1) ?_ 33 #[Value.int .i64 q.a0, Value.int .i64 q.a1, Value.int .i64 q.k0.kind, Value.int .i64 q.k0.len, Value.int .u64 q.k0.h, Value.int .u64 q.k0.l, Value.string ⟨q.k0.path.toArray⟩, Value.int .i64 q.k1.kind, Value.int .i64 q.k1.len, Value.int .u64 q.k1.h, Value.int .u64 q.k1.l, Value.string ⟨q.k1.path.toArray⟩] _ Qe Try.underlying33 ?_ ?_) <;> first | rfl | exact infoPx)
  (try simp only [Act.put, nz1, nz2, nz3])
  refine wpAnyH_ready (rs := [3]) (by kernel_rfl) (by simp) ?_
  refine AllReadyH.cons (o := ⟨some 24, .call { callee := .value (.func 28), args := #[.tmp 21, .tmp 22, .tmp 23], argTypes := #[26, 33, 33] }, 4, _, #[⟨0, .data⟩, ⟨1, .data⟩, ⟨2, .data⟩], none⟩) rfl (fun K hK => ?_) AllReadyH.nil
  (go_simp; (refine (H1 _).mono ?_); (rintro e wz ⟨rfl, hb⟩); (replace Rg := Rg.later hb); (replace Rd := Rd.later hb); (replace Re := Re.later hb); (replace Ry := Ry.later hb); (replace Rm := Rm.later hb); (replace hb0 := below_step hb0 hb); go_wp2_with fail)
  refine hK.out _ _ ?hSr13_6_3 (fun hHeld2 => ?_)
  case hSr13_6_3 => (obtain ⟨e0, e1, Qg, Qd, Qe⟩ := hHeld; exact ⟨cell_later hb e0, cell_later hb e1, Qg.later hb, Qd.later hb, Qe.later hb⟩)
  clear hK K hHeld
  have hHeld := hHeld2
  clear hHeld2
  rename World => wq
  (try simp only [Act.put, nz1, nz2, nz3])
  refine wpAnyH_ready (rs := [6]) (by kernel_rfl) (by simp) ?_
  refine AllReadyH.cons (o := ⟨some 27, .call { callee := .value (.func 20), args := #[.tmp 25, .tmp 26], argTypes := #[26, 33] }, 4, _, #[⟨4, .data⟩, ⟨5, .data⟩, ⟨3, .chain⟩], none⟩) rfl (fun K hK => ?_) AllReadyH.nil
  (go_simp; (refine (H2 _).mono ?_); (rintro e wz ⟨rfl, hb⟩); (replace Rg := Rg.later hb); (replace Rd := Rd.later hb); (replace Re := Re.later hb); (replace Ry := Ry.later hb); (replace Rm := Rm.later hb); (replace hb0 := below_step hb0 hb); go_wp2_with fail)
  refine hK.out _ _ ?hSr13_7_6 (fun hHeld2 => ?_)
  case hSr13_7_6 => (obtain ⟨e0, e1, Qg, Qd, Qe⟩ := hHeld; exact ⟨cell_later hb e0, cell_later hb e1, Qg.later hb, Qd.later hb, Qe.later hb⟩)
  clear hK K hHeld
  have hHeld := hHeld2
  clear hHeld2
  rename World => wq
  (try simp only [Act.put, nz1, nz2, nz3])
  refine tk 7 ⟨some 28, .move (.tmp 27), 4, _, #[⟨6, .data⟩, ⟨6, .chain⟩], none⟩ hHeld ?_
  (try simp only [Act.put, nz1, nz2, nz3])
  refine tk 8 ⟨some 29, .load 26 (.tmp 5), 26, _, #[⟨7, .guard⟩], some (7, true)⟩ hHeld ?_ (v := ?vr13_9_8) (hy := ?yr13_9_8)
  case yr13_9_8 => (intro wy hSw; obtain ⟨e0, e1, Qg, Qd, Qe⟩ := hSw; (with_reducible refine pexec_load 26 (.tmp 5) ?_ w.heap.size ?_ 26 #[Value.int .i64 s.n, Value.int .i64 s.d0.kind, Value.int .i64 s.d0.side, Value.int .i64 s.d0.step, Value.int .i64 s.d1.kind, Value.int .i64 s.d1.side, Value.int .i64 s.d1.step] _ Qg Try.underlying26 ?_ ?_) <;> first | rfl | exact infoSp)
  (try simp only [Act.put, nz1, nz2, nz3])
  refine tk 9 ⟨some 30, .load 33 (.tmp 6), 33, _, #[⟨7, .guard⟩], some (7, true)⟩ hHeld ?_ (v := ?vr13_10_9) (hy := ?yr13_10_9)
  case yr13_10_9 => (intro wy hSw; obtain ⟨e0, e1, Qg, Qd, Qe⟩ := hSw; (with_reducible refine pexec_load 33 (.tmp 6) ?_ (w.heap.size + 1) ?_ 33 #[Value.int .i64 p.a0, Value.int .i64 p.a1, Value.int .i64 p.k0.kind, Value.int .i64 p.k0.len, Value.int .u64 p.k0.h, Value.int .u64 p.k0.l, Value.string ⟨p.k0.path.toArray⟩, Value.int .i64 p.k1.kind, Value.int .i64 p.k1.len, Value.int .u64 p.k1.h, Value.int .u64 p.k1.l, Value.string ⟨p.k1.path.toArray⟩] _ Qd Try.underlying33 ?_ ?_) <;> first | rfl | exact infoPx)
  (try simp only [Act.put, nz1, nz2, nz3])
  refine wpAnyH_ready (rs := [10]) (by kernel_rfl) (by simp) ?_
  refine AllReadyH.cons (o := ⟨some 31, .call { callee := .value (.func 20), args := #[.tmp 29, .tmp 30], argTypes := #[26, 33] }, 4, _, #[⟨8, .data⟩, ⟨9, .data⟩, ⟨7, .chain⟩, ⟨7, .guard⟩], some (7, true)⟩) rfl (fun K hK => ?_) AllReadyH.nil
  (go_simp; (refine (H3 _).mono ?_); (rintro e wz ⟨rfl, hb⟩); (replace Rg := Rg.later hb); (replace Rd := Rd.later hb); (replace Re := Re.later hb); (replace Ry := Ry.later hb); (replace Rm := Rm.later hb); (replace hb0 := below_step hb0 hb); go_wp2_with fail)
  refine hK.out _ _ ?hSr13_11_10 (fun hHeld2 => ?_)
  case hSr13_11_10 => (obtain ⟨e0, e1, Qg, Qd, Qe⟩ := hHeld; exact ⟨cell_later hb e0, cell_later hb e1, Qg.later hb, Qd.later hb, Qe.later hb⟩)
  clear hK K hHeld
  have hHeld := hHeld2
  clear hHeld2
  rename World => wq
  (try simp only [Act.put, nz1, nz2, nz3])
  refine tk 11 ⟨some 32, .pick (.tmp 28) (.tmp 31) (.const (.bool false)), 4, _, #[⟨7, .data⟩, ⟨10, .data⟩], none⟩ hHeld ?_
  (try simp only [Act.put, nz1, nz2, nz3])
  refine tk 12 ⟨some 33, .move (.tmp 32), 4, _, #[⟨11, .data⟩, ⟨10, .chain⟩], none⟩ hHeld ?_
  (try simp only [Act.put, nz1, nz2, nz3])
  refine tk 13 ⟨some 34, .load 26 (.tmp 5), 26, _, #[⟨12, .guard⟩], some (12, true)⟩ hHeld ?_ (v := ?vr13_14_13) (hy := ?yr13_14_13)
  case yr13_14_13 => (intro wy hSw; obtain ⟨e0, e1, Qg, Qd, Qe⟩ := hSw; (with_reducible refine pexec_load 26 (.tmp 5) ?_ w.heap.size ?_ 26 #[Value.int .i64 s.n, Value.int .i64 s.d0.kind, Value.int .i64 s.d0.side, Value.int .i64 s.d0.step, Value.int .i64 s.d1.kind, Value.int .i64 s.d1.side, Value.int .i64 s.d1.step] _ Qg Try.underlying26 ?_ ?_) <;> first | rfl | exact infoSp)
  (try simp only [Act.put, nz1, nz2, nz3])
  refine tk 14 ⟨some 35, .load 33 (.tmp 6), 33, _, #[⟨12, .guard⟩], some (12, true)⟩ hHeld ?_ (v := ?vr13_15_14) (hy := ?yr13_15_14)
  case yr13_15_14 => (intro wy hSw; obtain ⟨e0, e1, Qg, Qd, Qe⟩ := hSw; (with_reducible refine pexec_load 33 (.tmp 6) ?_ (w.heap.size + 1) ?_ 33 #[Value.int .i64 p.a0, Value.int .i64 p.a1, Value.int .i64 p.k0.kind, Value.int .i64 p.k0.len, Value.int .u64 p.k0.h, Value.int .u64 p.k0.l, Value.string ⟨p.k0.path.toArray⟩, Value.int .i64 p.k1.kind, Value.int .i64 p.k1.len, Value.int .u64 p.k1.h, Value.int .u64 p.k1.l, Value.string ⟨p.k1.path.toArray⟩] _ Qd Try.underlying33 ?_ ?_) <;> first | rfl | exact infoPx)
  (try simp only [Act.put, nz1, nz2, nz3])
  refine tk 15 ⟨some 36, .fieldAddr 33 (.tmp 7) 0, 0, _, #[⟨12, .guard⟩], some (12, true)⟩ hHeld ?_
  (try simp only [Act.put, nz1, nz2, nz3])
  refine tk 16 ⟨some 37, .load 27 (.tmp 36), 27, _, #[⟨15, .data⟩, ⟨12, .guard⟩], some (12, true)⟩ hHeld ?_
  (try simp only [Act.put, nz1, nz2, nz3])
  refine tk 18 ⟨some 39, .load 33 (.tmp 7), 33, _, #[⟨12, .guard⟩], some (12, true)⟩ hHeld ?_ (v := ?vr13_18_18) (hy := ?yr13_18_18)
  case yr13_18_18 => (intro wy hSw; obtain ⟨e0, e1, Qg, Qd, Qe⟩ := hSw; (with_reducible refine pexec_load 33 (.tmp 7) ?_ (w.heap.size + 1 + 1) ?_ 33 #[Value.int .i64 q.a0, Value.int .i64 q.a1, Value.int .i64 q.k0.kind, Value.int .i64 q.k0.len, Value.int .u64 q.k0.h, Value.int .u64 q.k0.l, Value.string ⟨q.k0.path.toArray⟩, Value.int .i64 q.k1.kind, Value.int .i64 q.k1.len, Value.int .u64 q.k1.h, Value.int .u64 q.k1.l, Value.string ⟨q.k1.path.toArray⟩] _ Qe Try.underlying33 ?_ ?_) <;> first | rfl | exact infoPx)
  (try simp only [Act.put, nz1, nz2, nz3])
  refine wpAnyH_ready (rs := [17]) (by kernel_rfl) (by simp) ?_
  refine AllReadyH.cons (o := ⟨some 38, .call { callee := .value (.func 26), args := #[.tmp 34, .tmp 35, .tmp 37], argTypes := #[26, 33, 27] }, 33, _, #[⟨13, .data⟩, ⟨14, .data⟩, ⟨16, .data⟩, ⟨12, .chain⟩, ⟨12, .guard⟩], some (12, true)⟩) rfl (fun K hK => ?_) AllReadyH.nil
  (go_simp; (refine (H4 _).mono ?_); (rintro e wz ⟨rfl, hb⟩); (replace Rg := Rg.later hb); (replace Rd := Rd.later hb); (replace Re := Re.later hb); (replace Ry := Ry.later hb); (replace Rm := Rm.later hb); (replace hb0 := below_step hb0 hb); go_wp2_with fail)
  refine hK.out _ _ ?hSr13_19_17 (fun hHeld2 => ?_)
  case hSr13_19_17 => (obtain ⟨e0, e1, Qg, Qd, Qe⟩ := hHeld; exact ⟨cell_later hb e0, cell_later hb e1, Qg.later hb, Qd.later hb, Qe.later hb⟩)
  clear hK K hHeld
  have hHeld := hHeld2
  clear hHeld2
  rename World => wq
  (try simp only [Act.put, nz1, nz2, nz3])
  refine tk 19 ⟨some 40, .binOp .eql 33 (.tmp 38) (.tmp 39) 33, 4, _, #[⟨17, .data⟩, ⟨18, .data⟩, ⟨12, .guard⟩], some (12, true)⟩ hHeld ?_
  (try simp only [Act.put, nz1, nz2, nz3])
  refine tk 20 ⟨some 41, .pick (.tmp 33) (.tmp 40) (.const (.bool false)), 4, _, #[⟨12, .data⟩, ⟨19, .data⟩], none⟩ hHeld ?_
  (try simp only [Act.put, nz1, nz2, nz3])
  refine tk 21 ⟨some 42, .binOp .neq 4 (.tmp 24) (.tmp 41) 4, 4, _, #[⟨3, .data⟩, ⟨20, .data⟩], none⟩ hHeld ?_
  (try simp only [Act.put, nz1, nz2, nz3])
  refine wpAnyH_done (by kernel_rfl) ?_ _
  clear hHeld
  rename World => w2
  have lg := Rg.lt
  have ld := Rd.lt
  have le := Re.lt
  have ly := Ry.lt
  have lm := Rm.lt
  (try clear g0 g1 g2 g3 g4 g5 g6); obtain ⟨g0, g1, g2, g3, g4, g5, g6⟩ := row7 Rg
  (try clear d0 d1 d2 d3 d4 d5 d6 d7 d8 d9 d10 d11); obtain ⟨d0, d1, d2, d3, d4, d5, d6, d7, d8, d9, d10, d11⟩ := row12 Rd
  (try clear e0 e1 e2 e3 e4 e5 e6 e7 e8 e9 e10 e11); obtain ⟨e0, e1, e2, e3, e4, e5, e6, e7, e8, e9, e10, e11⟩ := row12 Re
  (try clear y0 y1); obtain ⟨y0, y1⟩ := row2 Ry
  (try clear m0 m1 m2 m3 m4 m5 m6 m7 m8 m9 m10 m11); obtain ⟨m0, m1, m2, m3, m4, m5, m6, m7, m8, m9, m10, m11⟩ := row12 Rm
  go_wp2_with fail
  refine (H5 _).mono ?_
  rintro e w3 ⟨rfl, hb⟩
  replace Rg := Rg.later hb
  replace Rd := Rd.later hb
  replace Re := Re.later hb
  replace Ry := Ry.later hb
  replace Rm := Rm.later hb
  replace hb0 := below_step hb0 hb
  clear hb
  have lg := Rg.lt
  have ld := Rd.lt
  have le := Re.lt
  have ly := Ry.lt
  have lm := Rm.lt
  (try clear g0 g1 g2 g3 g4 g5 g6); obtain ⟨g0, g1, g2, g3, g4, g5, g6⟩ := row7 Rg
  (try clear d0 d1 d2 d3 d4 d5 d6 d7 d8 d9 d10 d11); obtain ⟨d0, d1, d2, d3, d4, d5, d6, d7, d8, d9, d10, d11⟩ := row12 Rd
  (try clear e0 e1 e2 e3 e4 e5 e6 e7 e8 e9 e10 e11); obtain ⟨e0, e1, e2, e3, e4, e5, e6, e7, e8, e9, e10, e11⟩ := row12 Re
  (try clear y0 y1); obtain ⟨y0, y1⟩ := row2 Ry
  (try clear m0 m1 m2 m3 m4 m5 m6 m7 m8 m9 m10 m11); obtain ⟨m0, m1, m2, m3, m4, m5, m6, m7, m8, m9, m10, m11⟩ := row12 Rm
  go_wp2_with fail
  refine (H3 _).mono ?_
  rintro e w4 ⟨rfl, hb⟩
  have nng := Rg.lt
  have nnd := Rd.lt
  have nne := Re.lt
  have nny := Ry.lt
  have nnm := Rm.lt
  replace Rg := (Rg.alloc _).later hb
  replace Rd := (Rd.alloc _).later hb
  replace Re := (Re.alloc _).later hb
  replace Ry := (Ry.alloc _).later hb
  replace Rm := (Rm.alloc _).later hb
  have Rn := Row.later (Row.new _ _ _) hb
  have mn := hb0.size
  replace hb0 := below_step (hb0.alloc hb0.size _) hb
  clear hb
  generalize w3.heap.size = gn at *
  have lg := Rg.lt
  have ld := Rd.lt
  have le := Re.lt
  have ly := Ry.lt
  have lm := Rm.lt
  have ln := Rn.lt
  (try clear g0 g1 g2 g3 g4 g5 g6); obtain ⟨g0, g1, g2, g3, g4, g5, g6⟩ := row7 Rg
  (try clear d0 d1 d2 d3 d4 d5 d6 d7 d8 d9 d10 d11); obtain ⟨d0, d1, d2, d3, d4, d5, d6, d7, d8, d9, d10, d11⟩ := row12 Rd
  (try clear e0 e1 e2 e3 e4 e5 e6 e7 e8 e9 e10 e11); obtain ⟨e0, e1, e2, e3, e4, e5, e6, e7, e8, e9, e10, e11⟩ := row12 Re
  (try clear y0 y1); obtain ⟨y0, y1⟩ := row2 Ry
  (try clear m0 m1 m2 m3 m4 m5 m6 m7 m8 m9 m10 m11); obtain ⟨m0, m1, m2, m3, m4, m5, m6, m7, m8, m9, m10, m11⟩ := row12 Rm
  (try clear n0 n1 n2 n3 n4 n5 n6 n7 n8 n9 n10 n11); obtain ⟨n0, n1, n2, n3, n4, n5, n6, n7, n8, n9, n10, n11⟩ := row12 Rn
  go_wp2_with fail
  refine wp_region_held_drew (S := (fun w' => w'.cell? ⟨w1.heap.size, 0, none⟩ = some (Value.int .i64 u.a0) ∧ w'.cell? ⟨w1.heap.size, 1, none⟩ = some (Value.int .i64 u.a1) ∧ w'.cell? ⟨w.heap.size + 1 + 1 + 1, 0, none⟩ = some (Value.int .i64 i) ∧ w'.cell? ⟨w.heap.size + 1 + 1 + 1, 1, none⟩ = some (Value.int .i64 j) ∧ Row w' w.heap.size #[Value.int .i64 s.n, Value.int .i64 s.d0.kind, Value.int .i64 s.d0.side, Value.int .i64 s.d0.step, Value.int .i64 s.d1.kind, Value.int .i64 s.d1.side, Value.int .i64 s.d1.step] 26 ∧ Row w' (w.heap.size + 1) #[Value.int .i64 p.a0, Value.int .i64 p.a1, Value.int .i64 p.k0.kind, Value.int .i64 p.k0.len, Value.int .u64 p.k0.h, Value.int .u64 p.k0.l, Value.string ⟨p.k0.path.toArray⟩, Value.int .i64 p.k1.kind, Value.int .i64 p.k1.len, Value.int .u64 p.k1.h, Value.int .u64 p.k1.l, Value.string ⟨p.k1.path.toArray⟩] 33 ∧ Row w' w1.heap.size #[Value.int .i64 u.a0, Value.int .i64 u.a1, Value.int .i64 u.k0.kind, Value.int .i64 u.k0.len, Value.int .u64 u.k0.h, Value.int .u64 u.k0.l, Value.string ⟨u.k0.path.toArray⟩, Value.int .i64 u.k1.kind, Value.int .i64 u.k1.len, Value.int .u64 u.k1.h, Value.int .u64 u.k1.l, Value.string ⟨u.k1.path.toArray⟩] 33)) (by kernel_rfl) ?hSr14_ (fun hHeld => ?_)
  case hSr14_ => (exact ⟨m0, m1, y0, y1, Rg.drew, Rd.drew, Rm.drew⟩)
  (clear g0 g1 g2 g3 g4 g5 g6 d0 d1 d2 d3 d4 d5 d6 d7 d8 d9 d10 d11 e0 e1 e2 e3 e4 e5 e6 e7 e8 e9 e10 e11 y0 y1 m0 m1 m2 m3 m4 m5 m6 m7 m8 m9 m10 m11 n0 n1 n2 n3 n4 n5 n6 n7 n8 n9 n10 n11; (replace Rg := Rg.drew); (replace Rd := Rd.drew); (replace Re := Re.drew); (replace Ry := Ry.drew); (replace Rm := Rm.drew); (replace Rn := Rn.drew); (replace hb0 := hb0.drew); (generalize World.drew w4 = wq at *))
  refine wpAnyH_ready (rs := [0]) (by kernel_rfl) (by simp) ?_
  refine AllReadyH.cons (o := ⟨some 83, .call { callee := .value (.func 24), args := #[], argTypes := #[] }, 4, _, #[], none⟩) rfl (fun K hK => ?_) AllReadyH.nil
  (go_simp; (refine (HA _).mono ?_); (rintro e wz ⟨rfl, hb⟩); (replace Rg := Rg.later hb); (replace Rd := Rd.later hb); (replace Re := Re.later hb); (replace Ry := Ry.later hb); (replace Rm := Rm.later hb); (replace Rn := Rn.later hb); (replace hb0 := below_step hb0 hb); go_wp2_with fail)
  refine hK.out _ _ ?hSr14_1_0 (fun hHeld2 => ?_)
  case hSr14_1_0 => (obtain ⟨m0, m1, y0, y1, Qg, Qd, Qm⟩ := hHeld; exact ⟨cell_later hb m0, cell_later hb m1, cell_later hb y0, cell_later hb y1, Qg.later hb, Qd.later hb, Qm.later hb⟩)
  clear hK K hHeld
  have hHeld := hHeld2
  clear hHeld2
  rename World => wq
  (try simp only [Act.put, nz1, nz2, nz3])
  refine tk 1 ⟨some 84, .move (.tmp 83), 4, _, #[⟨0, .data⟩, ⟨0, .chain⟩], none⟩ hHeld ?_
  (try simp only [Act.put, nz1, nz2, nz3])
  refine tk 2 ⟨some 85, .fieldAddr 33 (.tmp 12) 0, 0, _, #[⟨1, .guard⟩], some (1, true)⟩ hHeld ?_
  (try simp only [Act.put, nz1, nz2, nz3])
  refine tk 3 ⟨some 86, .load 27 (.tmp 85), 27, _, #[⟨2, .data⟩, ⟨1, .guard⟩], some (1, true)⟩ hHeld ?_
  (try simp only [Act.put, nz1, nz2, nz3])
  refine tk 4 ⟨some 87, .load 27 (.tmp 11), 27, _, #[⟨1, .guard⟩], some (1, true)⟩ hHeld ?_
  (try simp only [Act.put, nz1, nz2, nz3])
  refine tk 5 ⟨some 88, .binOp .eql 27 (.tmp 86) (.tmp 87) 27, 4, _, #[⟨3, .data⟩, ⟨4, .data⟩, ⟨1, .guard⟩], some (1, true)⟩ hHeld ?_
  (try simp only [Act.put, nz1, nz2, nz3])
  refine tk 6 ⟨some 89, .pick (.tmp 84) (.tmp 88) (.const (.bool false)), 4, _, #[⟨1, .data⟩, ⟨5, .data⟩], none⟩ hHeld ?_
  (try simp only [Act.put, nz1, nz2, nz3])
  refine tk 7 ⟨some 90, .move (.tmp 89), 4, _, #[⟨6, .data⟩, ⟨1, .chain⟩], none⟩ hHeld ?_
  (try simp only [Act.put, nz1, nz2, nz3])
  refine tk 8 ⟨some 91, .load 26 (.tmp 5), 26, _, #[⟨7, .guard⟩], some (7, true)⟩ hHeld ?_ (v := ?vr14_9_8) (hy := ?yr14_9_8)
  case yr14_9_8 => (intro wy hSw; obtain ⟨m0, m1, y0, y1, Qg, Qd, Qm⟩ := hSw; (with_reducible refine pexec_load 26 (.tmp 5) ?_ w.heap.size ?_ 26 #[Value.int .i64 s.n, Value.int .i64 s.d0.kind, Value.int .i64 s.d0.side, Value.int .i64 s.d0.step, Value.int .i64 s.d1.kind, Value.int .i64 s.d1.side, Value.int .i64 s.d1.step] _ Qg Try.underlying26 ?_ ?_) <;> first | rfl | exact infoSp)
  (try simp only [Act.put, nz1, nz2, nz3])
  refine tk 9 ⟨some 92, .load 33 (.tmp 12), 33, _, #[⟨7, .guard⟩], some (7, true)⟩ hHeld ?_ (v := ?vr14_10_9) (hy := ?yr14_10_9)
  case yr14_10_9 => (intro wy hSw; obtain ⟨m0, m1, y0, y1, Qg, Qd, Qm⟩ := hSw; (with_reducible refine pexec_load 33 (.tmp 12) ?_ w1.heap.size ?_ 33 #[Value.int .i64 u.a0, Value.int .i64 u.a1, Value.int .i64 u.k0.kind, Value.int .i64 u.k0.len, Value.int .u64 u.k0.h, Value.int .u64 u.k0.l, Value.string ⟨u.k0.path.toArray⟩, Value.int .i64 u.k1.kind, Value.int .i64 u.k1.len, Value.int .u64 u.k1.h, Value.int .u64 u.k1.l, Value.string ⟨u.k1.path.toArray⟩] _ Qm Try.underlying33 ?_ ?_) <;> first | rfl | exact infoPx)
  (try simp only [Act.put, nz1, nz2, nz3])
  refine tk 10 ⟨some 93, .load 33 (.tmp 6), 33, _, #[⟨7, .guard⟩], some (7, true)⟩ hHeld ?_ (v := ?vr14_11_10) (hy := ?yr14_11_10)
  case yr14_11_10 => (intro wy hSw; obtain ⟨m0, m1, y0, y1, Qg, Qd, Qm⟩ := hSw; (with_reducible refine pexec_load 33 (.tmp 6) ?_ (w.heap.size + 1) ?_ 33 #[Value.int .i64 p.a0, Value.int .i64 p.a1, Value.int .i64 p.k0.kind, Value.int .i64 p.k0.len, Value.int .u64 p.k0.h, Value.int .u64 p.k0.l, Value.string ⟨p.k0.path.toArray⟩, Value.int .i64 p.k1.kind, Value.int .i64 p.k1.len, Value.int .u64 p.k1.h, Value.int .u64 p.k1.l, Value.string ⟨p.k1.path.toArray⟩] _ Qd Try.underlying33 ?_ ?_) <;> first | rfl | exact infoPx)
  (try simp only [Act.put, nz1, nz2, nz3])
  refine wpAnyH_ready (rs := [11]) (by kernel_rfl) (by simp) ?_
  refine AllReadyH.cons (o := ⟨some 94, .call { callee := .value (.func 28), args := #[.tmp 91, .tmp 92, .tmp 93], argTypes := #[26, 33, 33] }, 4, _, #[⟨8, .data⟩, ⟨9, .data⟩, ⟨10, .data⟩, ⟨7, .chain⟩, ⟨7, .guard⟩], some (7, true)⟩) rfl (fun K hK => ?_) AllReadyH.nil
  (go_simp; (refine (H6 _).mono ?_); (rintro e wz ⟨rfl, hb⟩); (replace Rg := Rg.later hb); (replace Rd := Rd.later hb); (replace Re := Re.later hb); (replace Ry := Ry.later hb); (replace Rm := Rm.later hb); (replace Rn := Rn.later hb); (replace hb0 := below_step hb0 hb); go_wp2_with fail)
  refine hK.out _ _ ?hSr14_12_11 (fun hHeld2 => ?_)
  case hSr14_12_11 => (obtain ⟨m0, m1, y0, y1, Qg, Qd, Qm⟩ := hHeld; exact ⟨cell_later hb m0, cell_later hb m1, cell_later hb y0, cell_later hb y1, Qg.later hb, Qd.later hb, Qm.later hb⟩)
  clear hK K hHeld
  have hHeld := hHeld2
  clear hHeld2
  rename World => wq
  (try simp only [Act.put, nz1, nz2, nz3])
  refine tk 12 ⟨some 95, .pick (.tmp 90) (.tmp 94) (.const (.bool false)), 4, _, #[⟨7, .data⟩, ⟨11, .data⟩], none⟩ hHeld ?_
  (try simp only [Act.put, nz1, nz2, nz3])
  refine tk 13 ⟨some 96, .move (.tmp 95), 4, _, #[⟨12, .data⟩, ⟨11, .chain⟩], none⟩ hHeld ?_
  (try simp only [Act.put, nz1, nz2, nz3])
  refine tk 14 ⟨some 97, .load 26 (.tmp 5), 26, _, #[⟨13, .guard⟩], some (13, true)⟩ hHeld ?_ (v := ?vr14_15_14) (hy := ?yr14_15_14)
  case yr14_15_14 => (intro wy hSw; obtain ⟨m0, m1, y0, y1, Qg, Qd, Qm⟩ := hSw; (with_reducible refine pexec_load 26 (.tmp 5) ?_ w.heap.size ?_ 26 #[Value.int .i64 s.n, Value.int .i64 s.d0.kind, Value.int .i64 s.d0.side, Value.int .i64 s.d0.step, Value.int .i64 s.d1.kind, Value.int .i64 s.d1.side, Value.int .i64 s.d1.step] _ Qg Try.underlying26 ?_ ?_) <;> first | rfl | exact infoSp)
  (try simp only [Act.put, nz1, nz2, nz3])
  refine tk 15 ⟨some 98, .load 33 (.tmp 12), 33, _, #[⟨13, .guard⟩], some (13, true)⟩ hHeld ?_ (v := ?vr14_16_15) (hy := ?yr14_16_15)
  case yr14_16_15 => (intro wy hSw; obtain ⟨m0, m1, y0, y1, Qg, Qd, Qm⟩ := hSw; (with_reducible refine pexec_load 33 (.tmp 12) ?_ w1.heap.size ?_ 33 #[Value.int .i64 u.a0, Value.int .i64 u.a1, Value.int .i64 u.k0.kind, Value.int .i64 u.k0.len, Value.int .u64 u.k0.h, Value.int .u64 u.k0.l, Value.string ⟨u.k0.path.toArray⟩, Value.int .i64 u.k1.kind, Value.int .i64 u.k1.len, Value.int .u64 u.k1.h, Value.int .u64 u.k1.l, Value.string ⟨u.k1.path.toArray⟩] _ Qm Try.underlying33 ?_ ?_) <;> first | rfl | exact infoPx)
  (try simp only [Act.put, nz1, nz2, nz3])
  refine tk 17 ⟨some 100, .load 26 (.tmp 5), 26, _, #[⟨13, .guard⟩], some (13, true)⟩ hHeld ?_ (v := ?vr14_17_17) (hy := ?yr14_17_17)
  case yr14_17_17 => (intro wy hSw; obtain ⟨m0, m1, y0, y1, Qg, Qd, Qm⟩ := hSw; (with_reducible refine pexec_load 26 (.tmp 5) ?_ w.heap.size ?_ 26 #[Value.int .i64 s.n, Value.int .i64 s.d0.kind, Value.int .i64 s.d0.side, Value.int .i64 s.d0.step, Value.int .i64 s.d1.kind, Value.int .i64 s.d1.side, Value.int .i64 s.d1.step] _ Qg Try.underlying26 ?_ ?_) <;> first | rfl | exact infoSp)
  (try simp only [Act.put, nz1, nz2, nz3])
  refine tk 18 ⟨some 101, .load 33 (.tmp 6), 33, _, #[⟨13, .guard⟩], some (13, true)⟩ hHeld ?_ (v := ?vr14_18_18) (hy := ?yr14_18_18)
  case yr14_18_18 => (intro wy hSw; obtain ⟨m0, m1, y0, y1, Qg, Qd, Qm⟩ := hSw; (with_reducible refine pexec_load 33 (.tmp 6) ?_ (w.heap.size + 1) ?_ 33 #[Value.int .i64 p.a0, Value.int .i64 p.a1, Value.int .i64 p.k0.kind, Value.int .i64 p.k0.len, Value.int .u64 p.k0.h, Value.int .u64 p.k0.l, Value.string ⟨p.k0.path.toArray⟩, Value.int .i64 p.k1.kind, Value.int .i64 p.k1.len, Value.int .u64 p.k1.h, Value.int .u64 p.k1.l, Value.string ⟨p.k1.path.toArray⟩] _ Qd Try.underlying33 ?_ ?_) <;> first | rfl | exact infoPx)
  (try simp only [Act.put, nz1, nz2, nz3])
  refine wpAnyH_ready (rs := [16]) (by kernel_rfl) (by simp) ?_
  refine AllReadyH.cons (o := ⟨some 99, .call { callee := .value (.func 25), args := #[.tmp 97, .tmp 98], argTypes := #[26, 33] }, 3, _, #[⟨14, .data⟩, ⟨15, .data⟩, ⟨13, .chain⟩, ⟨13, .guard⟩], some (13, true)⟩) rfl (fun K hK => ?_) AllReadyH.nil
  (go_simp; (refine (H7 _).mono ?_); (rintro e wz ⟨rfl, hb⟩); (replace Rg := Rg.later hb); (replace Rd := Rd.later hb); (replace Re := Re.later hb); (replace Ry := Ry.later hb); (replace Rm := Rm.later hb); (replace Rn := Rn.later hb); (replace hb0 := below_step hb0 hb); go_wp2_with fail)
  refine hK.out _ _ ?hSr14_19_16 (fun hHeld2 => ?_)
  case hSr14_19_16 => (obtain ⟨m0, m1, y0, y1, Qg, Qd, Qm⟩ := hHeld; exact ⟨cell_later hb m0, cell_later hb m1, cell_later hb y0, cell_later hb y1, Qg.later hb, Qd.later hb, Qm.later hb⟩)
  clear hK K hHeld
  have hHeld := hHeld2
  clear hHeld2
  rename World => wq
  (try simp only [Act.put, nz1, nz2, nz3])
  refine wpAnyH_ready (rs := [19]) (by kernel_rfl) (by simp) ?_
  refine AllReadyH.cons (o := ⟨some 102, .call { callee := .value (.func 25), args := #[.tmp 100, .tmp 101], argTypes := #[26, 33] }, 3, _, #[⟨17, .data⟩, ⟨18, .data⟩, ⟨16, .chain⟩, ⟨13, .guard⟩], some (13, true)⟩) rfl (fun K hK => ?_) AllReadyH.nil
  (go_simp; (refine (H8 _).mono ?_); (rintro e wz ⟨rfl, hb⟩); (replace Rg := Rg.later hb); (replace Rd := Rd.later hb); (replace Re := Re.later hb); (replace Ry := Ry.later hb); (replace Rm := Rm.later hb); (replace Rn := Rn.later hb); (replace hb0 := below_step hb0 hb); go_wp2_with fail)
  refine hK.out _ _ ?hSr14_20_19 (fun hHeld2 => ?_)
  case hSr14_20_19 => (obtain ⟨m0, m1, y0, y1, Qg, Qd, Qm⟩ := hHeld; exact ⟨cell_later hb m0, cell_later hb m1, cell_later hb y0, cell_later hb y1, Qg.later hb, Qd.later hb, Qm.later hb⟩)
  clear hK K hHeld
  have hHeld := hHeld2
  clear hHeld2
  rename World => wq
  (try simp only [Act.put, nz1, nz2, nz3])
  refine tk 20 ⟨some 103, .binOp .geq 3 (.tmp 99) (.tmp 102) 3, 4, _, #[⟨16, .data⟩, ⟨19, .data⟩, ⟨13, .guard⟩], some (13, true)⟩ hHeld ?_
  (try simp only [Act.put, nz1, nz2, nz3])
  refine tk 21 ⟨some 104, .pick (.tmp 96) (.tmp 103) (.const (.bool false)), 4, _, #[⟨13, .data⟩, ⟨20, .data⟩], none⟩ hHeld ?_
  (try simp only [Act.put, nz1, nz2, nz3])
  refine tk 22 ⟨some 10, .assign (.tmp 104), 4, _, #[⟨21, .data⟩, ⟨19, .chain⟩, ⟨0, .phase⟩, ⟨1, .phase⟩, ⟨2, .phase⟩, ⟨3, .phase⟩, ⟨4, .phase⟩, ⟨5, .phase⟩, ⟨6, .phase⟩, ⟨7, .phase⟩, ⟨8, .phase⟩, ⟨9, .phase⟩, ⟨10, .phase⟩, ⟨11, .phase⟩, ⟨12, .phase⟩, ⟨13, .phase⟩, ⟨14, .phase⟩, ⟨15, .phase⟩, ⟨16, .phase⟩, ⟨17, .phase⟩, ⟨18, .phase⟩, ⟨19, .phase⟩, ⟨20, .phase⟩, ⟨21, .phase⟩], none⟩ hHeld ?_
  (try simp only [Act.put, nz1, nz2, nz3])
  refine wpAnyH_done (by kernel_rfl) ?_ _
  clear hHeld
  rename World => w5
  have lg := Rg.lt
  have ld := Rd.lt
  have le := Re.lt
  have ly := Ry.lt
  have lm := Rm.lt
  have ln := Rn.lt
  (try clear g0 g1 g2 g3 g4 g5 g6); obtain ⟨g0, g1, g2, g3, g4, g5, g6⟩ := row7 Rg
  (try clear d0 d1 d2 d3 d4 d5 d6 d7 d8 d9 d10 d11); obtain ⟨d0, d1, d2, d3, d4, d5, d6, d7, d8, d9, d10, d11⟩ := row12 Rd
  (try clear e0 e1 e2 e3 e4 e5 e6 e7 e8 e9 e10 e11); obtain ⟨e0, e1, e2, e3, e4, e5, e6, e7, e8, e9, e10, e11⟩ := row12 Re
  (try clear y0 y1); obtain ⟨y0, y1⟩ := row2 Ry
  (try clear m0 m1 m2 m3 m4 m5 m6 m7 m8 m9 m10 m11); obtain ⟨m0, m1, m2, m3, m4, m5, m6, m7, m8, m9, m10, m11⟩ := row12 Rm
  (try clear n0 n1 n2 n3 n4 n5 n6 n7 n8 n9 n10 n11); obtain ⟨n0, n1, n2, n3, n4, n5, n6, n7, n8, n9, n10, n11⟩ := row12 Rn
  go_wp2
  go_ret
  exact ⟨rfl, hb0⟩
theorem one_any (s : Sp) (p q : Px) (i j : Int) (os : s.ok) (op : p.ok) (oq : q.ok) (i0 : -9223372036854775808 ≤ i) (i1 : i ≤ 9223372036854775807) (j0 : -9223372036854775808 ≤ j) (j1 : j ≤ 9223372036854775807) (w : World) : Calls Try.prog 7 #[sv s, pv p, pv q, .int .i64 i, .int .i64 j] w fun e w' => e = .returned (.bool true) ∧ Below w.heap.size w w' := by
  have ou := upP_ok op s i j i0 i1 j0 j1
  have H0 := up9_t s p op i j
  have H1 := over9_t s q p oq op
  have H2 := right9_t s q oq
  have H3 := right9_t s p op
  have H5 := top9_t s
  have H4 := up9_t s p op q.a0 q.a1
  have H6 := over9_t s (upP s p i j) p ou op
  have H7 := height_t s (upP s p i j) ou
  have H8 := height_t s p op
  rw [over_is_up] at H1
  have hu := @up_on s p i j
  have hub : upB s p i j = (rightP s p && (decide (p.a0 ≤ i) && (decide (i ≤ depthD s.d0) && (decide (p.a1 ≤ j) && decide (j ≤ depthD s.d1))))) := rfl
  have hun : upB s p i j = false → upP s p i j = pz := fun h => by unfold upP; rw [h]; rfl
  have hhp : heightP s p = if rightP s p = true then p.a0 + p.a1 else 0 := rfl
  have htop : rightP s p = true → (topP s).a0 = depthD s.d0 ∧ (topP s).a1 = depthD s.d1 := fun h => by
    unfold topP; rw [if_pos ((right_iff s p).1 h).1]; exact ⟨rfl, rfl⟩
  cases h3 : rightP s p with
  | false =>
    rw [h3] at H3 H1 hub
    rw [Bool.false_and] at hub
    rw [hun hub] at H0
    rw [Bool.false_and, Bool.and_false] at H1
    cases h2 : rightP s q with
    | false => rw [h2] at H2; exact one_00x s p q pz pz _ i j 0 0 false H0 H1 H2 H3 H5 w
    | true => rw [h2] at H2; exact one_10x s p q pz pz _ i j 0 0 false H0 H1 H2 H3 H5 w
  | true =>
    obtain ⟨ht0, ht1⟩ := htop h3
    rw [h3] at H3 H1 hub hhp
    rw [if_pos rfl] at hhp
    rw [Bool.true_and] at hub H1
    rw [← ht0, ← ht1] at hub
    cases h2 : rightP s q with
    | false =>
      rw [h2] at H2 H1
      rw [Bool.false_and] at H1
      by_cases g0 : i < p.a0
      · rw [hun (by rw [hub, decide_eq_false (by omega : ¬ p.a0 ≤ i)]; rfl)] at H0
        exact one_01a s p q pz pz _ i j 0 0 false H0 H1 H2 H3 H5 g0 w
      by_cases g1 : j < p.a1
      · rw [hun (by rw [hub, decide_eq_false (by omega : ¬ p.a1 ≤ j)]; simp)] at H0
        exact one_01b s p q pz pz _ i j 0 0 false H0 H1 H2 H3 H5 g0 g1 w
      by_cases g2 : (topP s).a0 < i
      · rw [hun (by rw [hub, decide_eq_false (by omega : ¬ i ≤ (topP s).a0)]; simp)] at H0
        exact one_01c s p q pz pz _ i j 0 0 false H0 H1 H2 H3 H5 g0 g1 g2 w
      by_cases g3 : (topP s).a1 < j
      · rw [hun (by rw [hub, decide_eq_false (by omega : ¬ j ≤ (topP s).a1)]; simp)] at H0
        exact one_01d s p q pz pz _ i j 0 0 false H0 H1 H2 H3 H5 g0 g1 g2 g3 w
      have hb : upB s p i j = true := by rw [hub]; simp; omega
      obtain ⟨u1, u2, u3⟩ := hu hb
      rw [u1] at H0 H6 H7
      rw [u2] at H6
      have hhu : heightP s (upX s p i j) = i + j := by unfold heightP; rw [if_pos u3]; rfl
      exact one_01ok s p q (upX s p i j) pz _ i j _ _ false H0 H1 H2 H3 H5 g0 g1 g2 g3 ⟨rfl, rfl⟩ H6 H7 H8 (by rw [hhu, hhp]; omega) w
    | true =>
      rw [h2] at H2 H1
      rw [Bool.true_and] at H1
      by_cases g0 : i < p.a0
      · rw [hun (by rw [hub, decide_eq_false (by omega : ¬ p.a0 ≤ i)]; rfl)] at H0
        exact one_11a s p q pz _ _ i j 0 0 _ H0 H1 H2 H3 H5 H4 rfl g0 w
      by_cases g1 : j < p.a1
      · rw [hun (by rw [hub, decide_eq_false (by omega : ¬ p.a1 ≤ j)]; simp)] at H0
        exact one_11b s p q pz _ _ i j 0 0 _ H0 H1 H2 H3 H5 H4 rfl g0 g1 w
      by_cases g2 : (topP s).a0 < i
      · rw [hun (by rw [hub, decide_eq_false (by omega : ¬ i ≤ (topP s).a0)]; simp)] at H0
        exact one_11c s p q pz _ _ i j 0 0 _ H0 H1 H2 H3 H5 H4 rfl g0 g1 g2 w
      by_cases g3 : (topP s).a1 < j
      · rw [hun (by rw [hub, decide_eq_false (by omega : ¬ j ≤ (topP s).a1)]; simp)] at H0
        exact one_11d s p q pz _ _ i j 0 0 _ H0 H1 H2 H3 H5 H4 rfl g0 g1 g2 g3 w
      have hb : upB s p i j = true := by rw [hub]; simp; omega
      obtain ⟨u1, u2, u3⟩ := hu hb
      rw [u1] at H0 H6 H7
      rw [u2] at H6
      have hhu : heightP s (upX s p i j) = i + j := by unfold heightP; rw [if_pos u3]; rfl
      exact one_11ok s p q (upX s p i j) _ _ i j _ _ _ H0 H1 H2 H3 H5 H4 rfl g0 g1 g2 g3 ⟨rfl, rfl⟩ H6 H7 H8 (by rw [hhu, hhp]; omega) w
end Go.Proofs.Ytbekocknfpekoaa
