/- LawTextBack: what the theorem needs of these texts. No conditions beyond those that are written. -/
import Derived.Test.YtboinifeemghaaaGreatDoorALawTextPrints
set_option linter.unusedSimpArgs false
set_option linter.unusedVariables false
set_option maxHeartbeats 1600000
set_option maxRecDepth 100000
namespace Go.Proofs.YtboinifeemghaaaGreatDoor
open Go.RowKit
theorem lback_no (s : Sp) (p q : Px) (w : World)
  (HA : ∀ w', Below w.heap.size w w' → Calls Tryz.prog 10 #[] w' fun e w'' => e = .returned (.bool true) ∧ Below w'.heap.size w' w'')
  (H1 : ∀ w', Below w.heap.size w w' → Calls Tryz.prog 15 #[sv s, pv p] w' fun e w'' => e = .returned (.string ⟨#[]⟩) ∧ Below w'.heap.size w' w'')
  (H2 : ∀ w', Below w.heap.size w w' → Calls Tryz.prog 19 #[sv s, pv p] w' fun e w'' => e = .returned (.bool false) ∧ Below w'.heap.size w' w'')
  : Calls Tryz.prog 6 #[sv s, pv p, pv q] w fun e w' => e = .returned (.bool true) ∧ Below w.heap.size w w' := by
 unfold sv pv at *
 obtain ⟨Rc, Rd, Re, hb0⟩ := three_rows w #[.int .i64 s.n, .int .i64 s.d0.kind, .int .i64 s.d0.side, .int .i64 s.d0.step, .int .i64 s.d1.kind, .int .i64 s.d1.side, .int .i64 s.d1.step] #[.int .i64 p.a0, .int .i64 p.a1, .int .i64 p.k0.kind, .int .i64 p.k0.len, .int .u64 p.k0.h, .int .u64 p.k0.l, .string ⟨p.k0.path.toArray⟩, .int .i64 p.k1.kind, .int .i64 p.k1.len, .int .u64 p.k1.h, .int .u64 p.k1.l, .string ⟨p.k1.path.toArray⟩] #[.int .i64 q.a0, .int .i64 q.a1, .int .i64 q.k0.kind, .int .i64 q.k0.len, .int .u64 q.k0.h, .int .u64 q.k0.l, .string ⟨q.k0.path.toArray⟩, .int .i64 q.k1.kind, .int .i64 q.k1.len, .int .u64 q.k1.h, .int .u64 q.k1.l, .string ⟨q.k1.path.toArray⟩] 36 40 40
 (try clear c0 c1 c2 c3 c4 c5 c6); obtain ⟨c0, c1, c2, c3, c4, c5, c6⟩ := row7 Rc
 (try clear d0 d1 d2 d3 d4 d5 d6 d7 d8 d9 d10 d11); obtain ⟨d0, d1, d2, d3, d4, d5, d6, d7, d8, d9, d10, d11⟩ := row12 Rd
 (try clear e0 e1 e2 e3 e4 e5 e6 e7 e8 e9 e10 e11); obtain ⟨e0, e1, e2, e3, e4, e5, e6, e7, e8, e9, e10, e11⟩ := row12 Re
 go_enter Tryz.func6, Tryz.ntmps6
 go_wp2_with fail
 refine (H1 _ hb0).mono ?_
 rintro e w1 ⟨rfl, hb⟩
 replace Rc := Rc.later hb
 replace Rd := Rd.later hb
 replace Re := Re.later hb
 replace hb0 := below_step hb0 hb
 clear hb
 have lc := Rc.lt
 have ld := Rd.lt
 have le := Re.lt
 (try clear c0 c1 c2 c3 c4 c5 c6); obtain ⟨c0, c1, c2, c3, c4, c5, c6⟩ := row7 Rc
 (try clear d0 d1 d2 d3 d4 d5 d6 d7 d8 d9 d10 d11); obtain ⟨d0, d1, d2, d3, d4, d5, d6, d7, d8, d9, d10, d11⟩ := row12 Rd
 (try clear e0 e1 e2 e3 e4 e5 e6 e7 e8 e9 e10 e11); obtain ⟨e0, e1, e2, e3, e4, e5, e6, e7, e8, e9, e10, e11⟩ := row12 Re
 go_wp2_with fail
 refine (H2 _ hb0).mono ?_
 rintro e w2 ⟨rfl, hb⟩
 replace Rc := Rc.later hb
 replace Rd := Rd.later hb
 replace Re := Re.later hb
 replace hb0 := below_step hb0 hb
 clear hb
 have lc := Rc.lt
 have ld := Rd.lt
 have le := Re.lt
 (try clear c0 c1 c2 c3 c4 c5 c6); obtain ⟨c0, c1, c2, c3, c4, c5, c6⟩ := row7 Rc
 (try clear d0 d1 d2 d3 d4 d5 d6 d7 d8 d9 d10 d11); obtain ⟨d0, d1, d2, d3, d4, d5, d6, d7, d8, d9, d10, d11⟩ := row12 Rd
 (try clear e0 e1 e2 e3 e4 e5 e6 e7 e8 e9 e10 e11); obtain ⟨e0, e1, e2, e3, e4, e5, e6, e7, e8, e9, e10, e11⟩ := row12 Re
 go_wp2_with fail
 refine (HA _ hb0).mono ?_
 rintro e w3 ⟨rfl, hb⟩
 replace Rc := Rc.later hb
 replace Rd := Rd.later hb
 replace Re := Re.later hb
 replace hb0 := below_step hb0 hb
 clear hb
 have lc := Rc.lt
 have ld := Rd.lt
 have le := Re.lt
 (try clear c0 c1 c2 c3 c4 c5 c6); obtain ⟨c0, c1, c2, c3, c4, c5, c6⟩ := row7 Rc
 (try clear d0 d1 d2 d3 d4 d5 d6 d7 d8 d9 d10 d11); obtain ⟨d0, d1, d2, d3, d4, d5, d6, d7, d8, d9, d10, d11⟩ := row12 Rd
 (try clear e0 e1 e2 e3 e4 e5 e6 e7 e8 e9 e10 e11); obtain ⟨e0, e1, e2, e3, e4, e5, e6, e7, e8, e9, e10, e11⟩ := row12 Re
 go_wp2
 exact bodyPost_ret (v := .bool true) (by simp [results, Tryz.results6, go_sem]) rfl ⟨rfl, hb0⟩
theorem lback_n (s : Sp) (p q : Px) (T : ByteArray) (w : World)
  (HA : ∀ w', Below w.heap.size w w' → Calls Tryz.prog 10 #[] w' fun e w'' => e = .returned (.bool true) ∧ Below w'.heap.size w' w'')
  (H1 : ∀ w', Below w.heap.size w w' → Calls Tryz.prog 15 #[sv s, pv p] w' fun e w'' => e = .returned (.string T) ∧ Below w'.heap.size w' w'')
  (H2 : ∀ w', Below w.heap.size w w' → Calls Tryz.prog 19 #[sv s, pv p] w' fun e w'' => e = .returned (.bool true) ∧ Below w'.heap.size w' w'')
  (H3 : ∀ w', Below w.heap.size w w' → Calls Tryz.prog 17 #[sv s, .string T] w' fun e w'' => e = .returned (.tuple #[pv p, .int .i64 0]) ∧ Below w'.heap.size w' w'')
  (H4 : ∀ w', Below w.heap.size w w' → Calls Tryz.prog 19 #[sv s, pv q] w' fun e w'' => e = .returned (.bool false) ∧ Below w'.heap.size w' w'')
  : Calls Tryz.prog 6 #[sv s, pv p, pv q] w fun e w' => e = .returned (.bool true) ∧ Below w.heap.size w w' := by
 have qp := eql_px_self p
 unfold sv pv at *
 obtain ⟨Rc, Rd, Re, hb0⟩ := three_rows w #[.int .i64 s.n, .int .i64 s.d0.kind, .int .i64 s.d0.side, .int .i64 s.d0.step, .int .i64 s.d1.kind, .int .i64 s.d1.side, .int .i64 s.d1.step] #[.int .i64 p.a0, .int .i64 p.a1, .int .i64 p.k0.kind, .int .i64 p.k0.len, .int .u64 p.k0.h, .int .u64 p.k0.l, .string ⟨p.k0.path.toArray⟩, .int .i64 p.k1.kind, .int .i64 p.k1.len, .int .u64 p.k1.h, .int .u64 p.k1.l, .string ⟨p.k1.path.toArray⟩] #[.int .i64 q.a0, .int .i64 q.a1, .int .i64 q.k0.kind, .int .i64 q.k0.len, .int .u64 q.k0.h, .int .u64 q.k0.l, .string ⟨q.k0.path.toArray⟩, .int .i64 q.k1.kind, .int .i64 q.k1.len, .int .u64 q.k1.h, .int .u64 q.k1.l, .string ⟨q.k1.path.toArray⟩] 36 40 40
 (try clear c0 c1 c2 c3 c4 c5 c6); obtain ⟨c0, c1, c2, c3, c4, c5, c6⟩ := row7 Rc
 (try clear d0 d1 d2 d3 d4 d5 d6 d7 d8 d9 d10 d11); obtain ⟨d0, d1, d2, d3, d4, d5, d6, d7, d8, d9, d10, d11⟩ := row12 Rd
 (try clear e0 e1 e2 e3 e4 e5 e6 e7 e8 e9 e10 e11); obtain ⟨e0, e1, e2, e3, e4, e5, e6, e7, e8, e9, e10, e11⟩ := row12 Re
 go_enter Tryz.func6, Tryz.ntmps6
 go_wp2_with fail
 refine (H1 _ hb0).mono ?_
 rintro e w1 ⟨rfl, hb⟩
 replace Rc := Rc.later hb
 replace Rd := Rd.later hb
 replace Re := Re.later hb
 replace hb0 := below_step hb0 hb
 clear hb
 have lc := Rc.lt
 have ld := Rd.lt
 have le := Re.lt
 (try clear c0 c1 c2 c3 c4 c5 c6); obtain ⟨c0, c1, c2, c3, c4, c5, c6⟩ := row7 Rc
 (try clear d0 d1 d2 d3 d4 d5 d6 d7 d8 d9 d10 d11); obtain ⟨d0, d1, d2, d3, d4, d5, d6, d7, d8, d9, d10, d11⟩ := row12 Rd
 (try clear e0 e1 e2 e3 e4 e5 e6 e7 e8 e9 e10 e11); obtain ⟨e0, e1, e2, e3, e4, e5, e6, e7, e8, e9, e10, e11⟩ := row12 Re
 go_wp2_with fail
 refine (H2 _ hb0).mono ?_
 rintro e w2 ⟨rfl, hb⟩
 replace Rc := Rc.later hb
 replace Rd := Rd.later hb
 replace Re := Re.later hb
 replace hb0 := below_step hb0 hb
 clear hb
 have lc := Rc.lt
 have ld := Rd.lt
 have le := Re.lt
 (try clear c0 c1 c2 c3 c4 c5 c6); obtain ⟨c0, c1, c2, c3, c4, c5, c6⟩ := row7 Rc
 (try clear d0 d1 d2 d3 d4 d5 d6 d7 d8 d9 d10 d11); obtain ⟨d0, d1, d2, d3, d4, d5, d6, d7, d8, d9, d10, d11⟩ := row12 Rd
 (try clear e0 e1 e2 e3 e4 e5 e6 e7 e8 e9 e10 e11); obtain ⟨e0, e1, e2, e3, e4, e5, e6, e7, e8, e9, e10, e11⟩ := row12 Re
 go_wp2_with fail
 refine (H3 _ hb0).mono ?_
 rintro e w3 ⟨rfl, hb⟩
 replace Rc := Rc.later hb
 replace Rd := Rd.later hb
 replace Re := Re.later hb
 replace hb0 := below_step hb0 hb
 clear hb
 have lc := Rc.lt
 have ld := Rd.lt
 have le := Re.lt
 (try clear c0 c1 c2 c3 c4 c5 c6); obtain ⟨c0, c1, c2, c3, c4, c5, c6⟩ := row7 Rc
 (try clear d0 d1 d2 d3 d4 d5 d6 d7 d8 d9 d10 d11); obtain ⟨d0, d1, d2, d3, d4, d5, d6, d7, d8, d9, d10, d11⟩ := row12 Rd
 (try clear e0 e1 e2 e3 e4 e5 e6 e7 e8 e9 e10 e11); obtain ⟨e0, e1, e2, e3, e4, e5, e6, e7, e8, e9, e10, e11⟩ := row12 Re
 go_wp2_with fail
 have nxc := Rc.lt
 have nxd := Rd.lt
 have nxe := Re.lt
 replace Rc := Rc.alloc (.cells #[.int .i64 p.a0, .int .i64 p.a1, .int .i64 p.k0.kind, .int .i64 p.k0.len, .int .u64 p.k0.h, .int .u64 p.k0.l, .string ⟨p.k0.path.toArray⟩, .int .i64 p.k1.kind, .int .i64 p.k1.len, .int .u64 p.k1.h, .int .u64 p.k1.l, .string ⟨p.k1.path.toArray⟩] 40)
 replace Rd := Rd.alloc (.cells #[.int .i64 p.a0, .int .i64 p.a1, .int .i64 p.k0.kind, .int .i64 p.k0.len, .int .u64 p.k0.h, .int .u64 p.k0.l, .string ⟨p.k0.path.toArray⟩, .int .i64 p.k1.kind, .int .i64 p.k1.len, .int .u64 p.k1.h, .int .u64 p.k1.l, .string ⟨p.k1.path.toArray⟩] 40)
 replace Re := Re.alloc (.cells #[.int .i64 p.a0, .int .i64 p.a1, .int .i64 p.k0.kind, .int .i64 p.k0.len, .int .u64 p.k0.h, .int .u64 p.k0.l, .string ⟨p.k0.path.toArray⟩, .int .i64 p.k1.kind, .int .i64 p.k1.len, .int .u64 p.k1.h, .int .u64 p.k1.l, .string ⟨p.k1.path.toArray⟩] 40)
 have Rx := Row.new w3 #[Value.int .i64 p.a0, Value.int .i64 p.a1, Value.int .i64 p.k0.kind, Value.int .i64 p.k0.len, Value.int .u64 p.k0.h, Value.int .u64 p.k0.l, Value.string ⟨p.k0.path.toArray⟩, Value.int .i64 p.k1.kind, Value.int .i64 p.k1.len, Value.int .u64 p.k1.h, Value.int .u64 p.k1.l, Value.string ⟨p.k1.path.toArray⟩] 40
 have mx := hb0.size
 replace hb0 := hb0.alloc hb0.size (.cells #[.int .i64 p.a0, .int .i64 p.a1, .int .i64 p.k0.kind, .int .i64 p.k0.len, .int .u64 p.k0.h, .int .u64 p.k0.l, .string ⟨p.k0.path.toArray⟩, .int .i64 p.k1.kind, .int .i64 p.k1.len, .int .u64 p.k1.h, .int .u64 p.k1.l, .string ⟨p.k1.path.toArray⟩] 40)
 (try clear c0 c1 c2 c3 c4 c5 c6); obtain ⟨c0, c1, c2, c3, c4, c5, c6⟩ := row7 Rc
 (try clear d0 d1 d2 d3 d4 d5 d6 d7 d8 d9 d10 d11); obtain ⟨d0, d1, d2, d3, d4, d5, d6, d7, d8, d9, d10, d11⟩ := row12 Rd
 (try clear e0 e1 e2 e3 e4 e5 e6 e7 e8 e9 e10 e11); obtain ⟨e0, e1, e2, e3, e4, e5, e6, e7, e8, e9, e10, e11⟩ := row12 Re
 (try clear x0 x1 x2 x3 x4 x5 x6 x7 x8 x9 x10 x11); obtain ⟨x0, x1, x2, x3, x4, x5, x6, x7, x8, x9, x10, x11⟩ := row12 Rx
 generalize (World.alloc w3 (.cells #[.int .i64 p.a0, .int .i64 p.a1, .int .i64 p.k0.kind, .int .i64 p.k0.len, .int .u64 p.k0.h, .int .u64 p.k0.l, .string ⟨p.k0.path.toArray⟩, .int .i64 p.k1.kind, .int .i64 p.k1.len, .int .u64 p.k1.h, .int .u64 p.k1.l, .string ⟨p.k1.path.toArray⟩] 40)) = w4 at *
 refine wp_region_held_drew (S := (fun w' => Row w' w.heap.size #[.int .i64 s.n, .int .i64 s.d0.kind, .int .i64 s.d0.side, .int .i64 s.d0.step, .int .i64 s.d1.kind, .int .i64 s.d1.side, .int .i64 s.d1.step] 36 ∧ Row w' (w.heap.size + 1) #[.int .i64 p.a0, .int .i64 p.a1, .int .i64 p.k0.kind, .int .i64 p.k0.len, .int .u64 p.k0.h, .int .u64 p.k0.l, .string ⟨p.k0.path.toArray⟩, .int .i64 p.k1.kind, .int .i64 p.k1.len, .int .u64 p.k1.h, .int .u64 p.k1.l, .string ⟨p.k1.path.toArray⟩] 40 ∧ Row w' (w.heap.size + 1 + 1) #[.int .i64 q.a0, .int .i64 q.a1, .int .i64 q.k0.kind, .int .i64 q.k0.len, .int .u64 q.k0.h, .int .u64 q.k0.l, .string ⟨q.k0.path.toArray⟩, .int .i64 q.k1.kind, .int .i64 q.k1.len, .int .u64 q.k1.h, .int .u64 q.k1.l, .string ⟨q.k1.path.toArray⟩] 40 ∧ Row w' w3.heap.size #[.int .i64 p.a0, .int .i64 p.a1, .int .i64 p.k0.kind, .int .i64 p.k0.len, .int .u64 p.k0.h, .int .u64 p.k0.l, .string ⟨p.k0.path.toArray⟩, .int .i64 p.k1.kind, .int .i64 p.k1.len, .int .u64 p.k1.h, .int .u64 p.k1.l, .string ⟨p.k1.path.toArray⟩] 40)) (by kernel_rfl) ?hSr1_ (fun hH => ?_)
 case hSr1_ => (exact ⟨Rc.drew, Rd.drew, Re.drew, Rx.drew⟩)
 (clear c0 c1 c2 c3 c4 c5 c6 d0 d1 d2 d3 d4 d5 d6 d7 d8 d9 d10 d11 e0 e1 e2 e3 e4 e5 e6 e7 e8 e9 e10 e11 x0 x1 x2 x3 x4 x5 x6 x7 x8 x9 x10 x11; (replace Rc := Rc.drew); (replace Rd := Rd.drew); (replace Re := Re.drew); (replace Rx := Rx.drew); (replace hb0 := hb0.drew); (generalize World.drew w4 = wq at *))
 refine wpAnyH_ready (rs := [0]) (by kernel_rfl) (by simp) ?_
 refine AllReadyH.cons (o := ⟨some 28, .call { callee := .value (.func 10), args := #[], argTypes := #[] }, 4, _, _, _⟩) rfl (fun K hK => ?_) AllReadyH.nil
 (go_simp; (refine (HA _ hb0).mono ?_); (rintro e wz ⟨rfl, hb⟩); (replace Rc := Rc.later hb); (replace Rd := Rd.later hb); (replace Re := Re.later hb); (replace Rx := Rx.later hb); (replace hb0 := below_step hb0 hb); go_wp2_with fail)
 refine hK.out _ _ ?hSr1_1_0 fun _ => ?_
 case hSr1_1_0 => (exact kr hb (kr hb (kr hb ((·.later hb)))) hH)
 clear hK K hH; rename_i hH
 rename World => wq
 (try simp only [Act.put, nz1, nz2, nz3])
 refine tk 1 ⟨some 29, .move (.tmp 28), 4, _, _, _⟩ hH ?_
 refine tk 2 ⟨some 30, .move (.tmp 9), 27, _, _, _⟩ hH ?_
 refine tk 3 ⟨some 31, .binOp .eql 27 (.tmp 30) (.const (.int .i64 0)) 27, 4, _, _, _⟩ hH ?_
 refine tk 4 ⟨some 32, .pick (.tmp 29) (.tmp 31) (.const (.bool false)), 4, _, _, _⟩ hH ?_
 refine tk 5 ⟨some 33, .move (.tmp 32), 4, _, _, _⟩ hH ?_
 refine tk 6 ⟨some 34, .load 40 (.tmp 8), 40, _, _, _⟩ hH ?_ (v := ?vr1_7_6) (hy := ?yr1_7_6)
 case yr1_7_6 => (intro wy hSw; obtain ⟨Qc, Qd, Qe, Qx⟩ := hSw; (with_reducible refine pexec_load 40 (.tmp 8) ?_ w3.heap.size ?_ 40 #[.int .i64 p.a0, .int .i64 p.a1, .int .i64 p.k0.kind, .int .i64 p.k0.len, .int .u64 p.k0.h, .int .u64 p.k0.l, .string ⟨p.k0.path.toArray⟩, .int .i64 p.k1.kind, .int .i64 p.k1.len, .int .u64 p.k1.h, .int .u64 p.k1.l, .string ⟨p.k1.path.toArray⟩] _ Qx Tryz.underlying40 ?_ ?_) <;> first | rfl | exact infoPx)
 refine tk 7 ⟨some 35, .load 40 (.tmp 4), 40, _, _, _⟩ hH ?_ (v := ?vr1_8_7) (hy := ?yr1_8_7)
 case yr1_8_7 => (intro wy hSw; obtain ⟨Qc, Qd, Qe, Qx⟩ := hSw; (with_reducible refine pexec_load 40 (.tmp 4) ?_ (w.heap.size + 1) ?_ 40 #[.int .i64 p.a0, .int .i64 p.a1, .int .i64 p.k0.kind, .int .i64 p.k0.len, .int .u64 p.k0.h, .int .u64 p.k0.l, .string ⟨p.k0.path.toArray⟩, .int .i64 p.k1.kind, .int .i64 p.k1.len, .int .u64 p.k1.h, .int .u64 p.k1.l, .string ⟨p.k1.path.toArray⟩] _ Qd Tryz.underlying40 ?_ ?_) <;> first | rfl | exact infoPx)
 refine tk 8 ⟨some 36, .binOp .eql 40 (.tmp 34) (.tmp 35) 40, 4, _, _, _⟩ hH ?_
 refine tk 9 ⟨some 37, .pick (.tmp 33) (.tmp 36) (.const (.bool false)), 4, _, _, _⟩ hH ?_
 refine tk 10 ⟨some 38, .move (.tmp 37), 4, _, _, _⟩ hH ?_
 refine tk 11 ⟨some 39, .load 36 (.tmp 3), 36, _, _, _⟩ hH ?_ (v := ?vr1_12_11) (hy := ?yr1_12_11)
 case yr1_12_11 => (intro wy hSw; obtain ⟨Qc, Qd, Qe, Qx⟩ := hSw; (with_reducible refine pexec_load 36 (.tmp 3) ?_ w.heap.size ?_ 36 #[.int .i64 s.n, .int .i64 s.d0.kind, .int .i64 s.d0.side, .int .i64 s.d0.step, .int .i64 s.d1.kind, .int .i64 s.d1.side, .int .i64 s.d1.step] _ Qc Tryz.underlying36 ?_ ?_) <;> first | rfl | exact infoSp)
 refine tk 12 ⟨some 40, .load 40 (.tmp 5), 40, _, _, _⟩ hH ?_ (v := ?vr1_13_12) (hy := ?yr1_13_12)
 case yr1_13_12 => (intro wy hSw; obtain ⟨Qc, Qd, Qe, Qx⟩ := hSw; (with_reducible refine pexec_load 40 (.tmp 5) ?_ (w.heap.size + 1 + 1) ?_ 40 #[.int .i64 q.a0, .int .i64 q.a1, .int .i64 q.k0.kind, .int .i64 q.k0.len, .int .u64 q.k0.h, .int .u64 q.k0.l, .string ⟨q.k0.path.toArray⟩, .int .i64 q.k1.kind, .int .i64 q.k1.len, .int .u64 q.k1.h, .int .u64 q.k1.l, .string ⟨q.k1.path.toArray⟩] _ Qe Tryz.underlying40 ?_ ?_) <;> first | rfl | exact infoPx)
 refine wpAnyH_ready (rs := [13]) (by kernel_rfl) (by simp) ?_
 refine AllReadyH.cons (o := ⟨some 41, .call { callee := .value (.func 19), args := #[.tmp 39, .tmp 40], argTypes := #[36, 40] }, 4, _, _, _⟩) rfl (fun K hK => ?_) AllReadyH.nil
 (go_simp; (refine (H4 _ hb0).mono ?_); (rintro e wz ⟨rfl, hb⟩); (replace Rc := Rc.later hb); (replace Rd := Rd.later hb); (replace Re := Re.later hb); (replace Rx := Rx.later hb); (replace hb0 := below_step hb0 hb); go_wp2_with fail)
 refine hK.out _ _ ?hSr1_14_13 fun _ => ?_
 case hSr1_14_13 => (exact kr hb (kr hb (kr hb ((·.later hb)))) hH)
 clear hK K hH; rename_i hH
 rename World => wq
 (try simp only [Act.put, nz1, nz2, nz3])
 refine tk 14 ⟨some 42, .unOp .not 4 (.tmp 41), 4, _, _, _⟩ hH ?_
 refine tk 15 ⟨some 43, .move (.tmp 42), 4, _, _, _⟩ hH ?_
 refine ts 16 ⟨some 44, .move (.tmp 7), 9, _, _, _⟩ hH ?_
 refine ts 17 ⟨some 45, .load 36 (.tmp 3), 36, _, _, _⟩ hH ?_
 refine ts 18 ⟨some 46, .load 40 (.tmp 5), 40, _, _, _⟩ hH ?_
 refine ts 19 ⟨some 47, .call { callee := .value (.func 15), args := #[.tmp 45, .tmp 46], argTypes := #[36, 40] }, 9, _, _, _⟩ hH ?_
 refine ts 20 ⟨some 48, .binOp .eql 9 (.tmp 44) (.tmp 47) 9, 4, _, _, _⟩ hH ?_
 refine ts 21 ⟨some 49, .load 40 (.tmp 4), 40, _, _, _⟩ hH ?_
 refine ts 22 ⟨some 50, .load 40 (.tmp 5), 40, _, _, _⟩ hH ?_
 refine ts 23 ⟨some 51, .binOp .eql 40 (.tmp 49) (.tmp 50) 40, 4, _, _, _⟩ hH ?_
 refine ts 24 ⟨some 52, .binOp .eql 4 (.tmp 48) (.tmp 51) 4, 4, _, _, _⟩ hH ?_
 refine tk 25 ⟨some 53, .pick (.tmp 43) (.const (.bool true)) (.tmp 52), 4, _, _, _⟩ hH ?_
 refine tk 26 ⟨some 54, .pick (.tmp 38) (.tmp 53) (.const (.bool false)), 4, _, _, _⟩ hH ?_
 refine tk 27 ⟨some 6, .assign (.tmp 54), 4, _, _, _⟩ hH ?_
 refine wpAnyH_done (by kernel_rfl) ?_ _
 clear hH
 rename World => w5
 have lc := Rc.lt
 have ld := Rd.lt
 have le := Re.lt
 have lx := Rx.lt
 (try clear c0 c1 c2 c3 c4 c5 c6); obtain ⟨c0, c1, c2, c3, c4, c5, c6⟩ := row7 Rc
 (try clear d0 d1 d2 d3 d4 d5 d6 d7 d8 d9 d10 d11); obtain ⟨d0, d1, d2, d3, d4, d5, d6, d7, d8, d9, d10, d11⟩ := row12 Rd
 (try clear e0 e1 e2 e3 e4 e5 e6 e7 e8 e9 e10 e11); obtain ⟨e0, e1, e2, e3, e4, e5, e6, e7, e8, e9, e10, e11⟩ := row12 Re
 (try clear x0 x1 x2 x3 x4 x5 x6 x7 x8 x9 x10 x11); obtain ⟨x0, x1, x2, x3, x4, x5, x6, x7, x8, x9, x10, x11⟩ := row12 Rx
 go_wp2
 exact bodyPost_ret (v := .bool true) (by simp [results, Tryz.results6, go_sem]) rfl ⟨rfl, hb0⟩
theorem lback_s (s : Sp) (p : Px) (T : ByteArray) (w : World)
  (HA : ∀ w', Below w.heap.size w w' → Calls Tryz.prog 10 #[] w' fun e w'' => e = .returned (.bool true) ∧ Below w'.heap.size w' w'')
  (H1 : ∀ w', Below w.heap.size w w' → Calls Tryz.prog 15 #[sv s, pv p] w' fun e w'' => e = .returned (.string T) ∧ Below w'.heap.size w' w'')
  (H2 : ∀ w', Below w.heap.size w w' → Calls Tryz.prog 19 #[sv s, pv p] w' fun e w'' => e = .returned (.bool true) ∧ Below w'.heap.size w' w'')
  (H3 : ∀ w', Below w.heap.size w w' → Calls Tryz.prog 17 #[sv s, .string T] w' fun e w'' => e = .returned (.tuple #[pv p, .int .i64 0]) ∧ Below w'.heap.size w' w'')
  (H4 : ∀ w', Below w.heap.size w w' → Calls Tryz.prog 19 #[sv s, pv p] w' fun e w'' => e = .returned (.bool true) ∧ Below w'.heap.size w' w'')
  (H5 : ∀ w', Below w.heap.size w w' → Calls Tryz.prog 15 #[sv s, pv p] w' fun e w'' => e = .returned (.string T) ∧ Below w'.heap.size w' w'')
  : Calls Tryz.prog 6 #[sv s, pv p, pv p] w fun e w' => e = .returned (.bool true) ∧ Below w.heap.size w w' := by
 have qp := eql_px_self p
 unfold sv pv at *
 obtain ⟨Rc, Rd, Re, hb0⟩ := three_rows w #[.int .i64 s.n, .int .i64 s.d0.kind, .int .i64 s.d0.side, .int .i64 s.d0.step, .int .i64 s.d1.kind, .int .i64 s.d1.side, .int .i64 s.d1.step] #[.int .i64 p.a0, .int .i64 p.a1, .int .i64 p.k0.kind, .int .i64 p.k0.len, .int .u64 p.k0.h, .int .u64 p.k0.l, .string ⟨p.k0.path.toArray⟩, .int .i64 p.k1.kind, .int .i64 p.k1.len, .int .u64 p.k1.h, .int .u64 p.k1.l, .string ⟨p.k1.path.toArray⟩] #[.int .i64 p.a0, .int .i64 p.a1, .int .i64 p.k0.kind, .int .i64 p.k0.len, .int .u64 p.k0.h, .int .u64 p.k0.l, .string ⟨p.k0.path.toArray⟩, .int .i64 p.k1.kind, .int .i64 p.k1.len, .int .u64 p.k1.h, .int .u64 p.k1.l, .string ⟨p.k1.path.toArray⟩] 36 40 40
 (try clear c0 c1 c2 c3 c4 c5 c6); obtain ⟨c0, c1, c2, c3, c4, c5, c6⟩ := row7 Rc
 (try clear d0 d1 d2 d3 d4 d5 d6 d7 d8 d9 d10 d11); obtain ⟨d0, d1, d2, d3, d4, d5, d6, d7, d8, d9, d10, d11⟩ := row12 Rd
 (try clear e0 e1 e2 e3 e4 e5 e6 e7 e8 e9 e10 e11); obtain ⟨e0, e1, e2, e3, e4, e5, e6, e7, e8, e9, e10, e11⟩ := row12 Re
 go_enter Tryz.func6, Tryz.ntmps6
 go_wp2_with fail
 refine (H1 _ hb0).mono ?_
 rintro e w1 ⟨rfl, hb⟩
 replace Rc := Rc.later hb
 replace Rd := Rd.later hb
 replace Re := Re.later hb
 replace hb0 := below_step hb0 hb
 clear hb
 have lc := Rc.lt
 have ld := Rd.lt
 have le := Re.lt
 (try clear c0 c1 c2 c3 c4 c5 c6); obtain ⟨c0, c1, c2, c3, c4, c5, c6⟩ := row7 Rc
 (try clear d0 d1 d2 d3 d4 d5 d6 d7 d8 d9 d10 d11); obtain ⟨d0, d1, d2, d3, d4, d5, d6, d7, d8, d9, d10, d11⟩ := row12 Rd
 (try clear e0 e1 e2 e3 e4 e5 e6 e7 e8 e9 e10 e11); obtain ⟨e0, e1, e2, e3, e4, e5, e6, e7, e8, e9, e10, e11⟩ := row12 Re
 go_wp2_with fail
 refine (H2 _ hb0).mono ?_
 rintro e w2 ⟨rfl, hb⟩
 replace Rc := Rc.later hb
 replace Rd := Rd.later hb
 replace Re := Re.later hb
 replace hb0 := below_step hb0 hb
 clear hb
 have lc := Rc.lt
 have ld := Rd.lt
 have le := Re.lt
 (try clear c0 c1 c2 c3 c4 c5 c6); obtain ⟨c0, c1, c2, c3, c4, c5, c6⟩ := row7 Rc
 (try clear d0 d1 d2 d3 d4 d5 d6 d7 d8 d9 d10 d11); obtain ⟨d0, d1, d2, d3, d4, d5, d6, d7, d8, d9, d10, d11⟩ := row12 Rd
 (try clear e0 e1 e2 e3 e4 e5 e6 e7 e8 e9 e10 e11); obtain ⟨e0, e1, e2, e3, e4, e5, e6, e7, e8, e9, e10, e11⟩ := row12 Re
 go_wp2_with fail
 refine (H3 _ hb0).mono ?_
 rintro e w3 ⟨rfl, hb⟩
 replace Rc := Rc.later hb
 replace Rd := Rd.later hb
 replace Re := Re.later hb
 replace hb0 := below_step hb0 hb
 clear hb
 have lc := Rc.lt
 have ld := Rd.lt
 have le := Re.lt
 (try clear c0 c1 c2 c3 c4 c5 c6); obtain ⟨c0, c1, c2, c3, c4, c5, c6⟩ := row7 Rc
 (try clear d0 d1 d2 d3 d4 d5 d6 d7 d8 d9 d10 d11); obtain ⟨d0, d1, d2, d3, d4, d5, d6, d7, d8, d9, d10, d11⟩ := row12 Rd
 (try clear e0 e1 e2 e3 e4 e5 e6 e7 e8 e9 e10 e11); obtain ⟨e0, e1, e2, e3, e4, e5, e6, e7, e8, e9, e10, e11⟩ := row12 Re
 go_wp2_with fail
 have nxc := Rc.lt
 have nxd := Rd.lt
 have nxe := Re.lt
 replace Rc := Rc.alloc (.cells #[.int .i64 p.a0, .int .i64 p.a1, .int .i64 p.k0.kind, .int .i64 p.k0.len, .int .u64 p.k0.h, .int .u64 p.k0.l, .string ⟨p.k0.path.toArray⟩, .int .i64 p.k1.kind, .int .i64 p.k1.len, .int .u64 p.k1.h, .int .u64 p.k1.l, .string ⟨p.k1.path.toArray⟩] 40)
 replace Rd := Rd.alloc (.cells #[.int .i64 p.a0, .int .i64 p.a1, .int .i64 p.k0.kind, .int .i64 p.k0.len, .int .u64 p.k0.h, .int .u64 p.k0.l, .string ⟨p.k0.path.toArray⟩, .int .i64 p.k1.kind, .int .i64 p.k1.len, .int .u64 p.k1.h, .int .u64 p.k1.l, .string ⟨p.k1.path.toArray⟩] 40)
 replace Re := Re.alloc (.cells #[.int .i64 p.a0, .int .i64 p.a1, .int .i64 p.k0.kind, .int .i64 p.k0.len, .int .u64 p.k0.h, .int .u64 p.k0.l, .string ⟨p.k0.path.toArray⟩, .int .i64 p.k1.kind, .int .i64 p.k1.len, .int .u64 p.k1.h, .int .u64 p.k1.l, .string ⟨p.k1.path.toArray⟩] 40)
 have Rx := Row.new w3 #[Value.int .i64 p.a0, Value.int .i64 p.a1, Value.int .i64 p.k0.kind, Value.int .i64 p.k0.len, Value.int .u64 p.k0.h, Value.int .u64 p.k0.l, Value.string ⟨p.k0.path.toArray⟩, Value.int .i64 p.k1.kind, Value.int .i64 p.k1.len, Value.int .u64 p.k1.h, Value.int .u64 p.k1.l, Value.string ⟨p.k1.path.toArray⟩] 40
 have mx := hb0.size
 replace hb0 := hb0.alloc hb0.size (.cells #[.int .i64 p.a0, .int .i64 p.a1, .int .i64 p.k0.kind, .int .i64 p.k0.len, .int .u64 p.k0.h, .int .u64 p.k0.l, .string ⟨p.k0.path.toArray⟩, .int .i64 p.k1.kind, .int .i64 p.k1.len, .int .u64 p.k1.h, .int .u64 p.k1.l, .string ⟨p.k1.path.toArray⟩] 40)
 (try clear c0 c1 c2 c3 c4 c5 c6); obtain ⟨c0, c1, c2, c3, c4, c5, c6⟩ := row7 Rc
 (try clear d0 d1 d2 d3 d4 d5 d6 d7 d8 d9 d10 d11); obtain ⟨d0, d1, d2, d3, d4, d5, d6, d7, d8, d9, d10, d11⟩ := row12 Rd
 (try clear e0 e1 e2 e3 e4 e5 e6 e7 e8 e9 e10 e11); obtain ⟨e0, e1, e2, e3, e4, e5, e6, e7, e8, e9, e10, e11⟩ := row12 Re
 (try clear x0 x1 x2 x3 x4 x5 x6 x7 x8 x9 x10 x11); obtain ⟨x0, x1, x2, x3, x4, x5, x6, x7, x8, x9, x10, x11⟩ := row12 Rx
 generalize (World.alloc w3 (.cells #[.int .i64 p.a0, .int .i64 p.a1, .int .i64 p.k0.kind, .int .i64 p.k0.len, .int .u64 p.k0.h, .int .u64 p.k0.l, .string ⟨p.k0.path.toArray⟩, .int .i64 p.k1.kind, .int .i64 p.k1.len, .int .u64 p.k1.h, .int .u64 p.k1.l, .string ⟨p.k1.path.toArray⟩] 40)) = w4 at *
 refine wp_region_held_drew (S := (fun w' => Row w' w.heap.size #[.int .i64 s.n, .int .i64 s.d0.kind, .int .i64 s.d0.side, .int .i64 s.d0.step, .int .i64 s.d1.kind, .int .i64 s.d1.side, .int .i64 s.d1.step] 36 ∧ Row w' (w.heap.size + 1) #[.int .i64 p.a0, .int .i64 p.a1, .int .i64 p.k0.kind, .int .i64 p.k0.len, .int .u64 p.k0.h, .int .u64 p.k0.l, .string ⟨p.k0.path.toArray⟩, .int .i64 p.k1.kind, .int .i64 p.k1.len, .int .u64 p.k1.h, .int .u64 p.k1.l, .string ⟨p.k1.path.toArray⟩] 40 ∧ Row w' (w.heap.size + 1 + 1) #[.int .i64 p.a0, .int .i64 p.a1, .int .i64 p.k0.kind, .int .i64 p.k0.len, .int .u64 p.k0.h, .int .u64 p.k0.l, .string ⟨p.k0.path.toArray⟩, .int .i64 p.k1.kind, .int .i64 p.k1.len, .int .u64 p.k1.h, .int .u64 p.k1.l, .string ⟨p.k1.path.toArray⟩] 40 ∧ Row w' w3.heap.size #[.int .i64 p.a0, .int .i64 p.a1, .int .i64 p.k0.kind, .int .i64 p.k0.len, .int .u64 p.k0.h, .int .u64 p.k0.l, .string ⟨p.k0.path.toArray⟩, .int .i64 p.k1.kind, .int .i64 p.k1.len, .int .u64 p.k1.h, .int .u64 p.k1.l, .string ⟨p.k1.path.toArray⟩] 40)) (by kernel_rfl) ?hSr2_ (fun hH => ?_)
 case hSr2_ => (exact ⟨Rc.drew, Rd.drew, Re.drew, Rx.drew⟩)
 (clear c0 c1 c2 c3 c4 c5 c6 d0 d1 d2 d3 d4 d5 d6 d7 d8 d9 d10 d11 e0 e1 e2 e3 e4 e5 e6 e7 e8 e9 e10 e11 x0 x1 x2 x3 x4 x5 x6 x7 x8 x9 x10 x11; (replace Rc := Rc.drew); (replace Rd := Rd.drew); (replace Re := Re.drew); (replace Rx := Rx.drew); (replace hb0 := hb0.drew); (generalize World.drew w4 = wq at *))
 refine wpAnyH_ready (rs := [0]) (by kernel_rfl) (by simp) ?_
 refine AllReadyH.cons (o := ⟨some 28, .call { callee := .value (.func 10), args := #[], argTypes := #[] }, 4, _, _, _⟩) rfl (fun K hK => ?_) AllReadyH.nil
 (go_simp; (refine (HA _ hb0).mono ?_); (rintro e wz ⟨rfl, hb⟩); (replace Rc := Rc.later hb); (replace Rd := Rd.later hb); (replace Re := Re.later hb); (replace Rx := Rx.later hb); (replace hb0 := below_step hb0 hb); go_wp2_with fail)
 refine hK.out _ _ ?hSr2_1_0 fun _ => ?_
 case hSr2_1_0 => (exact kr hb (kr hb (kr hb ((·.later hb)))) hH)
 clear hK K hH; rename_i hH
 rename World => wq
 (try simp only [Act.put, nz1, nz2, nz3])
 refine tk 1 ⟨some 29, .move (.tmp 28), 4, _, _, _⟩ hH ?_
 refine tk 2 ⟨some 30, .move (.tmp 9), 27, _, _, _⟩ hH ?_
 refine tk 3 ⟨some 31, .binOp .eql 27 (.tmp 30) (.const (.int .i64 0)) 27, 4, _, _, _⟩ hH ?_
 refine tk 4 ⟨some 32, .pick (.tmp 29) (.tmp 31) (.const (.bool false)), 4, _, _, _⟩ hH ?_
 refine tk 5 ⟨some 33, .move (.tmp 32), 4, _, _, _⟩ hH ?_
 refine tk 6 ⟨some 34, .load 40 (.tmp 8), 40, _, _, _⟩ hH ?_ (v := ?vr2_7_6) (hy := ?yr2_7_6)
 case yr2_7_6 => (intro wy hSw; obtain ⟨Qc, Qd, Qe, Qx⟩ := hSw; (with_reducible refine pexec_load 40 (.tmp 8) ?_ w3.heap.size ?_ 40 #[.int .i64 p.a0, .int .i64 p.a1, .int .i64 p.k0.kind, .int .i64 p.k0.len, .int .u64 p.k0.h, .int .u64 p.k0.l, .string ⟨p.k0.path.toArray⟩, .int .i64 p.k1.kind, .int .i64 p.k1.len, .int .u64 p.k1.h, .int .u64 p.k1.l, .string ⟨p.k1.path.toArray⟩] _ Qx Tryz.underlying40 ?_ ?_) <;> first | rfl | exact infoPx)
 refine tk 7 ⟨some 35, .load 40 (.tmp 4), 40, _, _, _⟩ hH ?_ (v := ?vr2_8_7) (hy := ?yr2_8_7)
 case yr2_8_7 => (intro wy hSw; obtain ⟨Qc, Qd, Qe, Qx⟩ := hSw; (with_reducible refine pexec_load 40 (.tmp 4) ?_ (w.heap.size + 1) ?_ 40 #[.int .i64 p.a0, .int .i64 p.a1, .int .i64 p.k0.kind, .int .i64 p.k0.len, .int .u64 p.k0.h, .int .u64 p.k0.l, .string ⟨p.k0.path.toArray⟩, .int .i64 p.k1.kind, .int .i64 p.k1.len, .int .u64 p.k1.h, .int .u64 p.k1.l, .string ⟨p.k1.path.toArray⟩] _ Qd Tryz.underlying40 ?_ ?_) <;> first | rfl | exact infoPx)
 refine tk 8 ⟨some 36, .binOp .eql 40 (.tmp 34) (.tmp 35) 40, 4, _, _, _⟩ hH ?_
 refine tk 9 ⟨some 37, .pick (.tmp 33) (.tmp 36) (.const (.bool false)), 4, _, _, _⟩ hH ?_
 refine tk 10 ⟨some 38, .move (.tmp 37), 4, _, _, _⟩ hH ?_
 refine tk 11 ⟨some 39, .load 36 (.tmp 3), 36, _, _, _⟩ hH ?_ (v := ?vr2_12_11) (hy := ?yr2_12_11)
 case yr2_12_11 => (intro wy hSw; obtain ⟨Qc, Qd, Qe, Qx⟩ := hSw; (with_reducible refine pexec_load 36 (.tmp 3) ?_ w.heap.size ?_ 36 #[.int .i64 s.n, .int .i64 s.d0.kind, .int .i64 s.d0.side, .int .i64 s.d0.step, .int .i64 s.d1.kind, .int .i64 s.d1.side, .int .i64 s.d1.step] _ Qc Tryz.underlying36 ?_ ?_) <;> first | rfl | exact infoSp)
 refine tk 12 ⟨some 40, .load 40 (.tmp 5), 40, _, _, _⟩ hH ?_ (v := ?vr2_13_12) (hy := ?yr2_13_12)
 case yr2_13_12 => (intro wy hSw; obtain ⟨Qc, Qd, Qe, Qx⟩ := hSw; (with_reducible refine pexec_load 40 (.tmp 5) ?_ (w.heap.size + 1 + 1) ?_ 40 #[.int .i64 p.a0, .int .i64 p.a1, .int .i64 p.k0.kind, .int .i64 p.k0.len, .int .u64 p.k0.h, .int .u64 p.k0.l, .string ⟨p.k0.path.toArray⟩, .int .i64 p.k1.kind, .int .i64 p.k1.len, .int .u64 p.k1.h, .int .u64 p.k1.l, .string ⟨p.k1.path.toArray⟩] _ Qe Tryz.underlying40 ?_ ?_) <;> first | rfl | exact infoPx)
 refine wpAnyH_ready (rs := [13]) (by kernel_rfl) (by simp) ?_
 refine AllReadyH.cons (o := ⟨some 41, .call { callee := .value (.func 19), args := #[.tmp 39, .tmp 40], argTypes := #[36, 40] }, 4, _, _, _⟩) rfl (fun K hK => ?_) AllReadyH.nil
 (go_simp; (refine (H4 _ hb0).mono ?_); (rintro e wz ⟨rfl, hb⟩); (replace Rc := Rc.later hb); (replace Rd := Rd.later hb); (replace Re := Re.later hb); (replace Rx := Rx.later hb); (replace hb0 := below_step hb0 hb); go_wp2_with fail)
 refine hK.out _ _ ?hSr2_14_13 fun _ => ?_
 case hSr2_14_13 => (exact kr hb (kr hb (kr hb ((·.later hb)))) hH)
 clear hK K hH; rename_i hH
 rename World => wq
 (try simp only [Act.put, nz1, nz2, nz3])
 refine tk 14 ⟨some 42, .unOp .not 4 (.tmp 41), 4, _, _, _⟩ hH ?_
 refine tk 15 ⟨some 43, .move (.tmp 42), 4, _, _, _⟩ hH ?_
 refine tk 16 ⟨some 44, .move (.tmp 7), 9, _, _, _⟩ hH ?_
 refine tk 17 ⟨some 45, .load 36 (.tmp 3), 36, _, _, _⟩ hH ?_ (v := ?vr2_18_17) (hy := ?yr2_18_17)
 case yr2_18_17 => (intro wy hSw; obtain ⟨Qc, Qd, Qe, Qx⟩ := hSw; (with_reducible refine pexec_load 36 (.tmp 3) ?_ w.heap.size ?_ 36 #[.int .i64 s.n, .int .i64 s.d0.kind, .int .i64 s.d0.side, .int .i64 s.d0.step, .int .i64 s.d1.kind, .int .i64 s.d1.side, .int .i64 s.d1.step] _ Qc Tryz.underlying36 ?_ ?_) <;> first | rfl | exact infoSp)
 refine tk 18 ⟨some 46, .load 40 (.tmp 5), 40, _, _, _⟩ hH ?_ (v := ?vr2_19_18) (hy := ?yr2_19_18)
 case yr2_19_18 => (intro wy hSw; obtain ⟨Qc, Qd, Qe, Qx⟩ := hSw; (with_reducible refine pexec_load 40 (.tmp 5) ?_ (w.heap.size + 1 + 1) ?_ 40 #[.int .i64 p.a0, .int .i64 p.a1, .int .i64 p.k0.kind, .int .i64 p.k0.len, .int .u64 p.k0.h, .int .u64 p.k0.l, .string ⟨p.k0.path.toArray⟩, .int .i64 p.k1.kind, .int .i64 p.k1.len, .int .u64 p.k1.h, .int .u64 p.k1.l, .string ⟨p.k1.path.toArray⟩] _ Qe Tryz.underlying40 ?_ ?_) <;> first | rfl | exact infoPx)
 refine tk 21 ⟨some 49, .load 40 (.tmp 4), 40, _, _, _⟩ hH ?_ (v := ?vr2_20_21) (hy := ?yr2_20_21)
 case yr2_20_21 => (intro wy hSw; obtain ⟨Qc, Qd, Qe, Qx⟩ := hSw; (with_reducible refine pexec_load 40 (.tmp 4) ?_ (w.heap.size + 1) ?_ 40 #[.int .i64 p.a0, .int .i64 p.a1, .int .i64 p.k0.kind, .int .i64 p.k0.len, .int .u64 p.k0.h, .int .u64 p.k0.l, .string ⟨p.k0.path.toArray⟩, .int .i64 p.k1.kind, .int .i64 p.k1.len, .int .u64 p.k1.h, .int .u64 p.k1.l, .string ⟨p.k1.path.toArray⟩] _ Qd Tryz.underlying40 ?_ ?_) <;> first | rfl | exact infoPx)
 refine tk 22 ⟨some 50, .load 40 (.tmp 5), 40, _, _, _⟩ hH ?_ (v := ?vr2_21_22) (hy := ?yr2_21_22)
 case yr2_21_22 => (intro wy hSw; obtain ⟨Qc, Qd, Qe, Qx⟩ := hSw; (with_reducible refine pexec_load 40 (.tmp 5) ?_ (w.heap.size + 1 + 1) ?_ 40 #[.int .i64 p.a0, .int .i64 p.a1, .int .i64 p.k0.kind, .int .i64 p.k0.len, .int .u64 p.k0.h, .int .u64 p.k0.l, .string ⟨p.k0.path.toArray⟩, .int .i64 p.k1.kind, .int .i64 p.k1.len, .int .u64 p.k1.h, .int .u64 p.k1.l, .string ⟨p.k1.path.toArray⟩] _ Qe Tryz.underlying40 ?_ ?_) <;> first | rfl | exact infoPx)
 refine tk 23 ⟨some 51, .binOp .eql 40 (.tmp 49) (.tmp 50) 40, 4, _, _, _⟩ hH ?_
 refine wpAnyH_ready (rs := [19]) (by kernel_rfl) (by simp) ?_
 refine AllReadyH.cons (o := ⟨some 47, .call { callee := .value (.func 15), args := #[.tmp 45, .tmp 46], argTypes := #[36, 40] }, 9, _, _, _⟩) rfl (fun K hK => ?_) AllReadyH.nil
 (go_simp; (refine (H5 _ hb0).mono ?_); (rintro e wz ⟨rfl, hb⟩); (replace Rc := Rc.later hb); (replace Rd := Rd.later hb); (replace Re := Re.later hb); (replace Rx := Rx.later hb); (replace hb0 := below_step hb0 hb); go_wp2_with fail)
 refine hK.out _ _ ?hSr2_23_19 fun _ => ?_
 case hSr2_23_19 => (exact kr hb (kr hb (kr hb ((·.later hb)))) hH)
 clear hK K hH; rename_i hH
 rename World => wq
 (try simp only [Act.put, nz1, nz2, nz3])
 refine tk 20 ⟨some 48, .binOp .eql 9 (.tmp 44) (.tmp 47) 9, 4, _, _, _⟩ hH ?_
 refine tk 24 ⟨some 52, .binOp .eql 4 (.tmp 48) (.tmp 51) 4, 4, _, _, _⟩ hH ?_
 refine tk 25 ⟨some 53, .pick (.tmp 43) (.const (.bool true)) (.tmp 52), 4, _, _, _⟩ hH ?_
 refine tk 26 ⟨some 54, .pick (.tmp 38) (.tmp 53) (.const (.bool false)), 4, _, _, _⟩ hH ?_
 refine tk 27 ⟨some 6, .assign (.tmp 54), 4, _, _, _⟩ hH ?_
 refine wpAnyH_done (by kernel_rfl) ?_ _
 clear hH
 rename World => w5
 have lc := Rc.lt
 have ld := Rd.lt
 have le := Re.lt
 have lx := Rx.lt
 (try clear c0 c1 c2 c3 c4 c5 c6); obtain ⟨c0, c1, c2, c3, c4, c5, c6⟩ := row7 Rc
 (try clear d0 d1 d2 d3 d4 d5 d6 d7 d8 d9 d10 d11); obtain ⟨d0, d1, d2, d3, d4, d5, d6, d7, d8, d9, d10, d11⟩ := row12 Rd
 (try clear e0 e1 e2 e3 e4 e5 e6 e7 e8 e9 e10 e11); obtain ⟨e0, e1, e2, e3, e4, e5, e6, e7, e8, e9, e10, e11⟩ := row12 Re
 (try clear x0 x1 x2 x3 x4 x5 x6 x7 x8 x9 x10 x11); obtain ⟨x0, x1, x2, x3, x4, x5, x6, x7, x8, x9, x10, x11⟩ := row12 Rx
 go_wp2
 exact bodyPost_ret (v := .bool true) (by simp [results, Tryz.results6, go_sem]) rfl ⟨rfl, hb0⟩
theorem lback_d (s : Sp) (p q : Px) (T U : ByteArray) (hpq : ¬ p = q) (hTU : ¬ T = U) (w : World)
  (HA : ∀ w', Below w.heap.size w w' → Calls Tryz.prog 10 #[] w' fun e w'' => e = .returned (.bool true) ∧ Below w'.heap.size w' w'')
  (H1 : ∀ w', Below w.heap.size w w' → Calls Tryz.prog 15 #[sv s, pv p] w' fun e w'' => e = .returned (.string T) ∧ Below w'.heap.size w' w'')
  (H2 : ∀ w', Below w.heap.size w w' → Calls Tryz.prog 19 #[sv s, pv p] w' fun e w'' => e = .returned (.bool true) ∧ Below w'.heap.size w' w'')
  (H3 : ∀ w', Below w.heap.size w w' → Calls Tryz.prog 17 #[sv s, .string T] w' fun e w'' => e = .returned (.tuple #[pv p, .int .i64 0]) ∧ Below w'.heap.size w' w'')
  (H4 : ∀ w', Below w.heap.size w w' → Calls Tryz.prog 19 #[sv s, pv q] w' fun e w'' => e = .returned (.bool true) ∧ Below w'.heap.size w' w'')
  (H5 : ∀ w', Below w.heap.size w w' → Calls Tryz.prog 15 #[sv s, pv q] w' fun e w'' => e = .returned (.string U) ∧ Below w'.heap.size w' w'')
  : Calls Tryz.prog 6 #[sv s, pv p, pv q] w fun e w' => e = .returned (.bool true) ∧ Below w.heap.size w w' := by
 have qp := eql_px_self p
 have qd := eql_px p q
 rw [decide_eq_false hpq] at qd
 have hTb : (T.toList == U.toList) = false := beq_eq_false_iff_ne.2 (ba_ne hTU)
 have hTd : decide (T = U) = false := decide_eq_false hTU
 unfold sv pv at *
 obtain ⟨Rc, Rd, Re, hb0⟩ := three_rows w #[.int .i64 s.n, .int .i64 s.d0.kind, .int .i64 s.d0.side, .int .i64 s.d0.step, .int .i64 s.d1.kind, .int .i64 s.d1.side, .int .i64 s.d1.step] #[.int .i64 p.a0, .int .i64 p.a1, .int .i64 p.k0.kind, .int .i64 p.k0.len, .int .u64 p.k0.h, .int .u64 p.k0.l, .string ⟨p.k0.path.toArray⟩, .int .i64 p.k1.kind, .int .i64 p.k1.len, .int .u64 p.k1.h, .int .u64 p.k1.l, .string ⟨p.k1.path.toArray⟩] #[.int .i64 q.a0, .int .i64 q.a1, .int .i64 q.k0.kind, .int .i64 q.k0.len, .int .u64 q.k0.h, .int .u64 q.k0.l, .string ⟨q.k0.path.toArray⟩, .int .i64 q.k1.kind, .int .i64 q.k1.len, .int .u64 q.k1.h, .int .u64 q.k1.l, .string ⟨q.k1.path.toArray⟩] 36 40 40
 (try clear c0 c1 c2 c3 c4 c5 c6); obtain ⟨c0, c1, c2, c3, c4, c5, c6⟩ := row7 Rc
 (try clear d0 d1 d2 d3 d4 d5 d6 d7 d8 d9 d10 d11); obtain ⟨d0, d1, d2, d3, d4, d5, d6, d7, d8, d9, d10, d11⟩ := row12 Rd
 (try clear e0 e1 e2 e3 e4 e5 e6 e7 e8 e9 e10 e11); obtain ⟨e0, e1, e2, e3, e4, e5, e6, e7, e8, e9, e10, e11⟩ := row12 Re
 go_enter Tryz.func6, Tryz.ntmps6
 go_wp2_with fail
 refine (H1 _ hb0).mono ?_
 rintro e w1 ⟨rfl, hb⟩
 replace Rc := Rc.later hb
 replace Rd := Rd.later hb
 replace Re := Re.later hb
 replace hb0 := below_step hb0 hb
 clear hb
 have lc := Rc.lt
 have ld := Rd.lt
 have le := Re.lt
 (try clear c0 c1 c2 c3 c4 c5 c6); obtain ⟨c0, c1, c2, c3, c4, c5, c6⟩ := row7 Rc
 (try clear d0 d1 d2 d3 d4 d5 d6 d7 d8 d9 d10 d11); obtain ⟨d0, d1, d2, d3, d4, d5, d6, d7, d8, d9, d10, d11⟩ := row12 Rd
 (try clear e0 e1 e2 e3 e4 e5 e6 e7 e8 e9 e10 e11); obtain ⟨e0, e1, e2, e3, e4, e5, e6, e7, e8, e9, e10, e11⟩ := row12 Re
 go_wp2_with fail
 refine (H2 _ hb0).mono ?_
 rintro e w2 ⟨rfl, hb⟩
 replace Rc := Rc.later hb
 replace Rd := Rd.later hb
 replace Re := Re.later hb
 replace hb0 := below_step hb0 hb
 clear hb
 have lc := Rc.lt
 have ld := Rd.lt
 have le := Re.lt
 (try clear c0 c1 c2 c3 c4 c5 c6); obtain ⟨c0, c1, c2, c3, c4, c5, c6⟩ := row7 Rc
 (try clear d0 d1 d2 d3 d4 d5 d6 d7 d8 d9 d10 d11); obtain ⟨d0, d1, d2, d3, d4, d5, d6, d7, d8, d9, d10, d11⟩ := row12 Rd
 (try clear e0 e1 e2 e3 e4 e5 e6 e7 e8 e9 e10 e11); obtain ⟨e0, e1, e2, e3, e4, e5, e6, e7, e8, e9, e10, e11⟩ := row12 Re
 go_wp2_with fail
 refine (H3 _ hb0).mono ?_
 rintro e w3 ⟨rfl, hb⟩
 replace Rc := Rc.later hb
 replace Rd := Rd.later hb
 replace Re := Re.later hb
 replace hb0 := below_step hb0 hb
 clear hb
 have lc := Rc.lt
 have ld := Rd.lt
 have le := Re.lt
 (try clear c0 c1 c2 c3 c4 c5 c6); obtain ⟨c0, c1, c2, c3, c4, c5, c6⟩ := row7 Rc
 (try clear d0 d1 d2 d3 d4 d5 d6 d7 d8 d9 d10 d11); obtain ⟨d0, d1, d2, d3, d4, d5, d6, d7, d8, d9, d10, d11⟩ := row12 Rd
 (try clear e0 e1 e2 e3 e4 e5 e6 e7 e8 e9 e10 e11); obtain ⟨e0, e1, e2, e3, e4, e5, e6, e7, e8, e9, e10, e11⟩ := row12 Re
 go_wp2_with fail
 have nxc := Rc.lt
 have nxd := Rd.lt
 have nxe := Re.lt
 replace Rc := Rc.alloc (.cells #[.int .i64 p.a0, .int .i64 p.a1, .int .i64 p.k0.kind, .int .i64 p.k0.len, .int .u64 p.k0.h, .int .u64 p.k0.l, .string ⟨p.k0.path.toArray⟩, .int .i64 p.k1.kind, .int .i64 p.k1.len, .int .u64 p.k1.h, .int .u64 p.k1.l, .string ⟨p.k1.path.toArray⟩] 40)
 replace Rd := Rd.alloc (.cells #[.int .i64 p.a0, .int .i64 p.a1, .int .i64 p.k0.kind, .int .i64 p.k0.len, .int .u64 p.k0.h, .int .u64 p.k0.l, .string ⟨p.k0.path.toArray⟩, .int .i64 p.k1.kind, .int .i64 p.k1.len, .int .u64 p.k1.h, .int .u64 p.k1.l, .string ⟨p.k1.path.toArray⟩] 40)
 replace Re := Re.alloc (.cells #[.int .i64 p.a0, .int .i64 p.a1, .int .i64 p.k0.kind, .int .i64 p.k0.len, .int .u64 p.k0.h, .int .u64 p.k0.l, .string ⟨p.k0.path.toArray⟩, .int .i64 p.k1.kind, .int .i64 p.k1.len, .int .u64 p.k1.h, .int .u64 p.k1.l, .string ⟨p.k1.path.toArray⟩] 40)
 have Rx := Row.new w3 #[Value.int .i64 p.a0, Value.int .i64 p.a1, Value.int .i64 p.k0.kind, Value.int .i64 p.k0.len, Value.int .u64 p.k0.h, Value.int .u64 p.k0.l, Value.string ⟨p.k0.path.toArray⟩, Value.int .i64 p.k1.kind, Value.int .i64 p.k1.len, Value.int .u64 p.k1.h, Value.int .u64 p.k1.l, Value.string ⟨p.k1.path.toArray⟩] 40
 have mx := hb0.size
 replace hb0 := hb0.alloc hb0.size (.cells #[.int .i64 p.a0, .int .i64 p.a1, .int .i64 p.k0.kind, .int .i64 p.k0.len, .int .u64 p.k0.h, .int .u64 p.k0.l, .string ⟨p.k0.path.toArray⟩, .int .i64 p.k1.kind, .int .i64 p.k1.len, .int .u64 p.k1.h, .int .u64 p.k1.l, .string ⟨p.k1.path.toArray⟩] 40)
 (try clear c0 c1 c2 c3 c4 c5 c6); obtain ⟨c0, c1, c2, c3, c4, c5, c6⟩ := row7 Rc
 (try clear d0 d1 d2 d3 d4 d5 d6 d7 d8 d9 d10 d11); obtain ⟨d0, d1, d2, d3, d4, d5, d6, d7, d8, d9, d10, d11⟩ := row12 Rd
 (try clear e0 e1 e2 e3 e4 e5 e6 e7 e8 e9 e10 e11); obtain ⟨e0, e1, e2, e3, e4, e5, e6, e7, e8, e9, e10, e11⟩ := row12 Re
 (try clear x0 x1 x2 x3 x4 x5 x6 x7 x8 x9 x10 x11); obtain ⟨x0, x1, x2, x3, x4, x5, x6, x7, x8, x9, x10, x11⟩ := row12 Rx
 generalize (World.alloc w3 (.cells #[.int .i64 p.a0, .int .i64 p.a1, .int .i64 p.k0.kind, .int .i64 p.k0.len, .int .u64 p.k0.h, .int .u64 p.k0.l, .string ⟨p.k0.path.toArray⟩, .int .i64 p.k1.kind, .int .i64 p.k1.len, .int .u64 p.k1.h, .int .u64 p.k1.l, .string ⟨p.k1.path.toArray⟩] 40)) = w4 at *
 refine wp_region_held_drew (S := (fun w' => Row w' w.heap.size #[.int .i64 s.n, .int .i64 s.d0.kind, .int .i64 s.d0.side, .int .i64 s.d0.step, .int .i64 s.d1.kind, .int .i64 s.d1.side, .int .i64 s.d1.step] 36 ∧ Row w' (w.heap.size + 1) #[.int .i64 p.a0, .int .i64 p.a1, .int .i64 p.k0.kind, .int .i64 p.k0.len, .int .u64 p.k0.h, .int .u64 p.k0.l, .string ⟨p.k0.path.toArray⟩, .int .i64 p.k1.kind, .int .i64 p.k1.len, .int .u64 p.k1.h, .int .u64 p.k1.l, .string ⟨p.k1.path.toArray⟩] 40 ∧ Row w' (w.heap.size + 1 + 1) #[.int .i64 q.a0, .int .i64 q.a1, .int .i64 q.k0.kind, .int .i64 q.k0.len, .int .u64 q.k0.h, .int .u64 q.k0.l, .string ⟨q.k0.path.toArray⟩, .int .i64 q.k1.kind, .int .i64 q.k1.len, .int .u64 q.k1.h, .int .u64 q.k1.l, .string ⟨q.k1.path.toArray⟩] 40 ∧ Row w' w3.heap.size #[.int .i64 p.a0, .int .i64 p.a1, .int .i64 p.k0.kind, .int .i64 p.k0.len, .int .u64 p.k0.h, .int .u64 p.k0.l, .string ⟨p.k0.path.toArray⟩, .int .i64 p.k1.kind, .int .i64 p.k1.len, .int .u64 p.k1.h, .int .u64 p.k1.l, .string ⟨p.k1.path.toArray⟩] 40)) (by kernel_rfl) ?hSr3_ (fun hH => ?_)
 case hSr3_ => (exact ⟨Rc.drew, Rd.drew, Re.drew, Rx.drew⟩)
 (clear c0 c1 c2 c3 c4 c5 c6 d0 d1 d2 d3 d4 d5 d6 d7 d8 d9 d10 d11 e0 e1 e2 e3 e4 e5 e6 e7 e8 e9 e10 e11 x0 x1 x2 x3 x4 x5 x6 x7 x8 x9 x10 x11; (replace Rc := Rc.drew); (replace Rd := Rd.drew); (replace Re := Re.drew); (replace Rx := Rx.drew); (replace hb0 := hb0.drew); (generalize World.drew w4 = wq at *))
 refine wpAnyH_ready (rs := [0]) (by kernel_rfl) (by simp) ?_
 refine AllReadyH.cons (o := ⟨some 28, .call { callee := .value (.func 10), args := #[], argTypes := #[] }, 4, _, _, _⟩) rfl (fun K hK => ?_) AllReadyH.nil
 (go_simp; (refine (HA _ hb0).mono ?_); (rintro e wz ⟨rfl, hb⟩); (replace Rc := Rc.later hb); (replace Rd := Rd.later hb); (replace Re := Re.later hb); (replace Rx := Rx.later hb); (replace hb0 := below_step hb0 hb); go_wp2_with fail)
 refine hK.out _ _ ?hSr3_1_0 fun _ => ?_
 case hSr3_1_0 => (exact kr hb (kr hb (kr hb ((·.later hb)))) hH)
 clear hK K hH; rename_i hH
 rename World => wq
 (try simp only [Act.put, nz1, nz2, nz3])
 refine tk 1 ⟨some 29, .move (.tmp 28), 4, _, _, _⟩ hH ?_
 refine tk 2 ⟨some 30, .move (.tmp 9), 27, _, _, _⟩ hH ?_
 refine tk 3 ⟨some 31, .binOp .eql 27 (.tmp 30) (.const (.int .i64 0)) 27, 4, _, _, _⟩ hH ?_
 refine tk 4 ⟨some 32, .pick (.tmp 29) (.tmp 31) (.const (.bool false)), 4, _, _, _⟩ hH ?_
 refine tk 5 ⟨some 33, .move (.tmp 32), 4, _, _, _⟩ hH ?_
 refine tk 6 ⟨some 34, .load 40 (.tmp 8), 40, _, _, _⟩ hH ?_ (v := ?vr3_7_6) (hy := ?yr3_7_6)
 case yr3_7_6 => (intro wy hSw; obtain ⟨Qc, Qd, Qe, Qx⟩ := hSw; (with_reducible refine pexec_load 40 (.tmp 8) ?_ w3.heap.size ?_ 40 #[.int .i64 p.a0, .int .i64 p.a1, .int .i64 p.k0.kind, .int .i64 p.k0.len, .int .u64 p.k0.h, .int .u64 p.k0.l, .string ⟨p.k0.path.toArray⟩, .int .i64 p.k1.kind, .int .i64 p.k1.len, .int .u64 p.k1.h, .int .u64 p.k1.l, .string ⟨p.k1.path.toArray⟩] _ Qx Tryz.underlying40 ?_ ?_) <;> first | rfl | exact infoPx)
 refine tk 7 ⟨some 35, .load 40 (.tmp 4), 40, _, _, _⟩ hH ?_ (v := ?vr3_8_7) (hy := ?yr3_8_7)
 case yr3_8_7 => (intro wy hSw; obtain ⟨Qc, Qd, Qe, Qx⟩ := hSw; (with_reducible refine pexec_load 40 (.tmp 4) ?_ (w.heap.size + 1) ?_ 40 #[.int .i64 p.a0, .int .i64 p.a1, .int .i64 p.k0.kind, .int .i64 p.k0.len, .int .u64 p.k0.h, .int .u64 p.k0.l, .string ⟨p.k0.path.toArray⟩, .int .i64 p.k1.kind, .int .i64 p.k1.len, .int .u64 p.k1.h, .int .u64 p.k1.l, .string ⟨p.k1.path.toArray⟩] _ Qd Tryz.underlying40 ?_ ?_) <;> first | rfl | exact infoPx)
 refine tk 8 ⟨some 36, .binOp .eql 40 (.tmp 34) (.tmp 35) 40, 4, _, _, _⟩ hH ?_
 refine tk 9 ⟨some 37, .pick (.tmp 33) (.tmp 36) (.const (.bool false)), 4, _, _, _⟩ hH ?_
 refine tk 10 ⟨some 38, .move (.tmp 37), 4, _, _, _⟩ hH ?_
 refine tk 11 ⟨some 39, .load 36 (.tmp 3), 36, _, _, _⟩ hH ?_ (v := ?vr3_12_11) (hy := ?yr3_12_11)
 case yr3_12_11 => (intro wy hSw; obtain ⟨Qc, Qd, Qe, Qx⟩ := hSw; (with_reducible refine pexec_load 36 (.tmp 3) ?_ w.heap.size ?_ 36 #[.int .i64 s.n, .int .i64 s.d0.kind, .int .i64 s.d0.side, .int .i64 s.d0.step, .int .i64 s.d1.kind, .int .i64 s.d1.side, .int .i64 s.d1.step] _ Qc Tryz.underlying36 ?_ ?_) <;> first | rfl | exact infoSp)
 refine tk 12 ⟨some 40, .load 40 (.tmp 5), 40, _, _, _⟩ hH ?_ (v := ?vr3_13_12) (hy := ?yr3_13_12)
 case yr3_13_12 => (intro wy hSw; obtain ⟨Qc, Qd, Qe, Qx⟩ := hSw; (with_reducible refine pexec_load 40 (.tmp 5) ?_ (w.heap.size + 1 + 1) ?_ 40 #[.int .i64 q.a0, .int .i64 q.a1, .int .i64 q.k0.kind, .int .i64 q.k0.len, .int .u64 q.k0.h, .int .u64 q.k0.l, .string ⟨q.k0.path.toArray⟩, .int .i64 q.k1.kind, .int .i64 q.k1.len, .int .u64 q.k1.h, .int .u64 q.k1.l, .string ⟨q.k1.path.toArray⟩] _ Qe Tryz.underlying40 ?_ ?_) <;> first | rfl | exact infoPx)
 refine wpAnyH_ready (rs := [13]) (by kernel_rfl) (by simp) ?_
 refine AllReadyH.cons (o := ⟨some 41, .call { callee := .value (.func 19), args := #[.tmp 39, .tmp 40], argTypes := #[36, 40] }, 4, _, _, _⟩) rfl (fun K hK => ?_) AllReadyH.nil
 (go_simp; (refine (H4 _ hb0).mono ?_); (rintro e wz ⟨rfl, hb⟩); (replace Rc := Rc.later hb); (replace Rd := Rd.later hb); (replace Re := Re.later hb); (replace Rx := Rx.later hb); (replace hb0 := below_step hb0 hb); go_wp2_with fail)
 refine hK.out _ _ ?hSr3_14_13 fun _ => ?_
 case hSr3_14_13 => (exact kr hb (kr hb (kr hb ((·.later hb)))) hH)
 clear hK K hH; rename_i hH
 rename World => wq
 (try simp only [Act.put, nz1, nz2, nz3])
 refine tk 14 ⟨some 42, .unOp .not 4 (.tmp 41), 4, _, _, _⟩ hH ?_
 refine tk 15 ⟨some 43, .move (.tmp 42), 4, _, _, _⟩ hH ?_
 refine tk 16 ⟨some 44, .move (.tmp 7), 9, _, _, _⟩ hH ?_
 refine tk 17 ⟨some 45, .load 36 (.tmp 3), 36, _, _, _⟩ hH ?_ (v := ?vr3_18_17) (hy := ?yr3_18_17)
 case yr3_18_17 => (intro wy hSw; obtain ⟨Qc, Qd, Qe, Qx⟩ := hSw; (with_reducible refine pexec_load 36 (.tmp 3) ?_ w.heap.size ?_ 36 #[.int .i64 s.n, .int .i64 s.d0.kind, .int .i64 s.d0.side, .int .i64 s.d0.step, .int .i64 s.d1.kind, .int .i64 s.d1.side, .int .i64 s.d1.step] _ Qc Tryz.underlying36 ?_ ?_) <;> first | rfl | exact infoSp)
 refine tk 18 ⟨some 46, .load 40 (.tmp 5), 40, _, _, _⟩ hH ?_ (v := ?vr3_19_18) (hy := ?yr3_19_18)
 case yr3_19_18 => (intro wy hSw; obtain ⟨Qc, Qd, Qe, Qx⟩ := hSw; (with_reducible refine pexec_load 40 (.tmp 5) ?_ (w.heap.size + 1 + 1) ?_ 40 #[.int .i64 q.a0, .int .i64 q.a1, .int .i64 q.k0.kind, .int .i64 q.k0.len, .int .u64 q.k0.h, .int .u64 q.k0.l, .string ⟨q.k0.path.toArray⟩, .int .i64 q.k1.kind, .int .i64 q.k1.len, .int .u64 q.k1.h, .int .u64 q.k1.l, .string ⟨q.k1.path.toArray⟩] _ Qe Tryz.underlying40 ?_ ?_) <;> first | rfl | exact infoPx)
 refine tk 21 ⟨some 49, .load 40 (.tmp 4), 40, _, _, _⟩ hH ?_ (v := ?vr3_20_21) (hy := ?yr3_20_21)
 case yr3_20_21 => (intro wy hSw; obtain ⟨Qc, Qd, Qe, Qx⟩ := hSw; (with_reducible refine pexec_load 40 (.tmp 4) ?_ (w.heap.size + 1) ?_ 40 #[.int .i64 p.a0, .int .i64 p.a1, .int .i64 p.k0.kind, .int .i64 p.k0.len, .int .u64 p.k0.h, .int .u64 p.k0.l, .string ⟨p.k0.path.toArray⟩, .int .i64 p.k1.kind, .int .i64 p.k1.len, .int .u64 p.k1.h, .int .u64 p.k1.l, .string ⟨p.k1.path.toArray⟩] _ Qd Tryz.underlying40 ?_ ?_) <;> first | rfl | exact infoPx)
 refine tk 22 ⟨some 50, .load 40 (.tmp 5), 40, _, _, _⟩ hH ?_ (v := ?vr3_21_22) (hy := ?yr3_21_22)
 case yr3_21_22 => (intro wy hSw; obtain ⟨Qc, Qd, Qe, Qx⟩ := hSw; (with_reducible refine pexec_load 40 (.tmp 5) ?_ (w.heap.size + 1 + 1) ?_ 40 #[.int .i64 q.a0, .int .i64 q.a1, .int .i64 q.k0.kind, .int .i64 q.k0.len, .int .u64 q.k0.h, .int .u64 q.k0.l, .string ⟨q.k0.path.toArray⟩, .int .i64 q.k1.kind, .int .i64 q.k1.len, .int .u64 q.k1.h, .int .u64 q.k1.l, .string ⟨q.k1.path.toArray⟩] _ Qe Tryz.underlying40 ?_ ?_) <;> first | rfl | exact infoPx)
 refine tk 23 ⟨some 51, .binOp .eql 40 (.tmp 49) (.tmp 50) 40, 4, _, _, _⟩ hH ?_
 refine wpAnyH_ready (rs := [19]) (by kernel_rfl) (by simp) ?_
 refine AllReadyH.cons (o := ⟨some 47, .call { callee := .value (.func 15), args := #[.tmp 45, .tmp 46], argTypes := #[36, 40] }, 9, _, _, _⟩) rfl (fun K hK => ?_) AllReadyH.nil
 (go_simp; (refine (H5 _ hb0).mono ?_); (rintro e wz ⟨rfl, hb⟩); (replace Rc := Rc.later hb); (replace Rd := Rd.later hb); (replace Re := Re.later hb); (replace Rx := Rx.later hb); (replace hb0 := below_step hb0 hb); go_wp2_with fail)
 refine hK.out _ _ ?hSr3_23_19 fun _ => ?_
 case hSr3_23_19 => (exact kr hb (kr hb (kr hb ((·.later hb)))) hH)
 clear hK K hH; rename_i hH
 rename World => wq
 (try simp only [Act.put, nz1, nz2, nz3])
 refine tk 20 ⟨some 48, .binOp .eql 9 (.tmp 44) (.tmp 47) 9, 4, _, _, _⟩ hH ?_
 refine tk 24 ⟨some 52, .binOp .eql 4 (.tmp 48) (.tmp 51) 4, 4, _, _, _⟩ hH ?_
 refine tk 25 ⟨some 53, .pick (.tmp 43) (.const (.bool true)) (.tmp 52), 4, _, _, _⟩ hH ?_
 refine tk 26 ⟨some 54, .pick (.tmp 38) (.tmp 53) (.const (.bool false)), 4, _, _, _⟩ hH ?_
 refine tk 27 ⟨some 6, .assign (.tmp 54), 4, _, _, _⟩ hH ?_
 refine wpAnyH_done (by kernel_rfl) ?_ _
 clear hH
 rename World => w5
 have lc := Rc.lt
 have ld := Rd.lt
 have le := Re.lt
 have lx := Rx.lt
 (try clear c0 c1 c2 c3 c4 c5 c6); obtain ⟨c0, c1, c2, c3, c4, c5, c6⟩ := row7 Rc
 (try clear d0 d1 d2 d3 d4 d5 d6 d7 d8 d9 d10 d11); obtain ⟨d0, d1, d2, d3, d4, d5, d6, d7, d8, d9, d10, d11⟩ := row12 Rd
 (try clear e0 e1 e2 e3 e4 e5 e6 e7 e8 e9 e10 e11); obtain ⟨e0, e1, e2, e3, e4, e5, e6, e7, e8, e9, e10, e11⟩ := row12 Re
 (try clear x0 x1 x2 x3 x4 x5 x6 x7 x8 x9 x10 x11); obtain ⟨x0, x1, x2, x3, x4, x5, x6, x7, x8, x9, x10, x11⟩ := row12 Rx
 go_wp2
 exact bodyPost_ret (v := .bool true) (by simp [results, Tryz.results6, go_sem]) rfl ⟨rfl, hb0⟩
theorem lawTextBack (s : Sp) (p q : Px) (op : p.ok) (oq : q.ok) (w : World) (hE : Env6 w) : Calls Tryz.prog 6 #[sv s, pv p, pv q] w fun e w' => e = .returned (.bool true) ∧ Below w.heap.size w w' := by
 have HA : ∀ w', Below w.heap.size w w' → Calls Tryz.prog 10 #[] w' fun e w'' => e = .returned (.bool true) ∧ Below w'.heap.size w' w'' := fun w' hb => alive11_t w' (hE.later hb)
 have H1 := fun (w' : World) (hb : Below w.heap.size w w') => print_t s p op w' (hE.later hb)
 have H2 := fun (w' : World) (_ : Below w.heap.size w w') => right9_t s p op w'
 have H4 := fun (w' : World) (_ : Below w.heap.size w w') => right9_t s q oq w'
 have H5 := fun (w' : World) (hb : Below w.heap.size w w') => print_t s q oq w' (hE.later hb)
 cases hp : rightP s p with
 | false =>
  simp only [hp] at H2
  rw [print_bad hp] at H1
  exact lback_no s p q w HA H1 H2
 | true =>
  simp only [hp] at H2
  have H3 := fun (w' : World) (hb : Below w.heap.size w w') => tparse_t s (printS s p) (by have := printS_small s p; omega) w' (hE.e.later hb)
  rw [print_back hp] at H3
  cases hq : rightP s q with
  | false =>
   simp only [hq] at H4
   exact lback_n s p q _ w HA H1 H2 H3 H4
  | true =>
   simp only [hq] at H4
   by_cases e : p = q
   ·subst e
    exact lback_s s p _ w HA H1 H2 H3 H4 H1
   ·refine lback_d s p q _ _ e (fun h => e ?_) w HA H1 H2 H3 H4 H5
    have h2 : printS s p = printS s q := by
     have := congrArg (fun z : ByteArray => z.data.toList) h
     simpa using this
    have h3 := print_inj hp hq
    rw [decide_eq_true h2] at h3
    exact of_decide_eq_true h3.symm
end Go.Proofs.YtboinifeemghaaaGreatDoor
