/- LawTextThere: what the theorem needs of these texts. No conditions beyond those that are written. -/
import Derived.Test.YtboinifeemghaaaGreatDoorALawTextPrints
import Derived.Test.YtboinifeemghaaaGreatDoorAK9
set_option linter.unusedSimpArgs false
set_option linter.unusedVariables false
set_option maxHeartbeats 1600000
set_option maxRecDepth 100000
namespace Go.Proofs.YtboinifeemghaaaGreatDoor
open Go.RowKit
theorem right_okK {k : Ke} (h : rightK k = true) : k.ok := by
 rcases right_kind h with hk | hk
 ·obtain ⟨_, a0, a1, ap, ah, al, _⟩ := adr_of_right h hk
  have hw := wid_range k.kind
  exact ok_small k ah al (by omega) ⟨a0, by omega⟩ (by rw [ap]; simp)
 ·have h1 := h
  unfold rightK at h1
  rw [if_neg (by omega), if_pos hk] at h1
  simp only [Bool.and_eq_true, decide_eq_true_eq] at h1
  have hp := path_len h1.1
  have h8 := labsL_len k.path
  rw [h1.2]
  refine ok_small _ (show Word (0 : Int) by unfold Word; decide) (show Word (0 : Int) by unfold Word; decide) (show 0 ≤ (3 : Int) ∧ (3 : Int) ≤ 3 by decide) ⟨?_, ?_⟩ (by unfold pathK; dsimp only; omega)
  ·unfold pathK; dsimp only; omega
  ·unfold pathK; dsimp only; omega
theorem on_ok {d : Dm} {a : Int} {k : Ke} (h : onD d a k = true) : k.ok ∧ 0 ≤ a ∧ a ≤ 128 := by
 obtain ⟨h0, _, hr, _⟩ := (onD_iff d a k).1 h
 obtain ⟨_, a0, a1⟩ := lenD_there h0
 have := depthD_range d
 exact ⟨right_okK hr, a0, by omega⟩
theorem right_okP {s : Sp} {p : Px} (h : rightP s p = true) : p.ok := by
 obtain ⟨_, h0, h1⟩ := right_dims h
 obtain ⟨k0, a0, b0⟩ := on_ok h0
 rcases h1 with ⟨_, _, ha, hk⟩ | ⟨_, _, h1⟩
 ·exact ⟨k0, by rw [hk]; exact kz_ok, by omega, by omega, by omega, by omega⟩
 ·obtain ⟨k1, a1, b1⟩ := on_ok h1
  exact ⟨k0, k1, by omega, by omega, by omega, by omega⟩
theorem lthere_bad (s : Sp) (t : ByteArray) (er : Int) (he : ¬ er = 0) (w : World)
  (HA : ∀ w', Below w.heap.size w w' → Calls Tryz.prog 10 #[] w' fun e w'' => e = .returned (.bool true) ∧ Below w'.heap.size w' w'')
  (H1 : ∀ w', Below w.heap.size w w' → Calls Tryz.prog 17 #[sv s, .string t] w' fun e w'' => e = .returned (.tuple #[pv pz, .int .i64 er]) ∧ Below w'.heap.size w' w'')
  : Calls Tryz.prog 7 #[sv s, .string t] w fun e w' => e = .returned (.bool true) ∧ Below w.heap.size w w' := by
 have heb : (er == 0) = false := by simpa using he
 have hen : (er != 0) = true := by simpa using he
 have qz := eql_px_self pz
 unfold sv pv pz kz at *
 dsimp only at *
 obtain ⟨Rc, hb0⟩ := one_row w #[.int .i64 s.n, .int .i64 s.d0.kind, .int .i64 s.d0.side, .int .i64 s.d0.step, .int .i64 s.d1.kind, .int .i64 s.d1.side, .int .i64 s.d1.step] 36
 (try clear c0 c1 c2 c3 c4 c5 c6); obtain ⟨c0, c1, c2, c3, c4, c5, c6⟩ := row7 Rc
 go_enter Tryz.func7, Tryz.ntmps7
 go_wp2_with fail
 refine (H1 _ hb0).mono ?_
 rintro e w1 ⟨rfl, hb⟩
 replace Rc := Rc.later hb
 replace hb0 := below_step hb0 hb
 clear hb
 have lc := Rc.lt
 (try clear c0 c1 c2 c3 c4 c5 c6); obtain ⟨c0, c1, c2, c3, c4, c5, c6⟩ := row7 Rc
 go_wp2_with fail
 refine (HA _ (hb0.alloc hb0.size _)).mono ?_
 rintro e w2 ⟨rfl, hb⟩
 have npc := Rc.lt
 replace Rc := (Rc.alloc _).later hb
 have Rp := Row.later (Row.new _ _ _) hb
 have mp := hb0.size
 replace hb0 := below_step (hb0.alloc hb0.size _) hb
 clear hb
 generalize w1.heap.size = gp at *
 have lc := Rc.lt
 have lp := Rp.lt
 (try clear c0 c1 c2 c3 c4 c5 c6); obtain ⟨c0, c1, c2, c3, c4, c5, c6⟩ := row7 Rc
 (try clear p0 p1 p2 p3 p4 p5 p6 p7 p8 p9 p10 p11); obtain ⟨p0, p1, p2, p3, p4, p5, p6, p7, p8, p9, p10, p11⟩ := row12 Rp
 go_wp2
 exact bodyPost_ret (v := .bool true) (by simp [results, Tryz.results7, go_sem]) rfl ⟨rfl, hb0⟩
theorem lthere_0 (s : Sp) (t U : ByteArray) (x : Px) (w : World)
  (HA : ∀ w', Below w.heap.size w w' → Calls Tryz.prog 10 #[] w' fun e w'' => e = .returned (.bool true) ∧ Below w'.heap.size w' w'')
  (H1 : ∀ w', Below w.heap.size w w' → Calls Tryz.prog 17 #[.agg #[.int .i64 s.n, .int .i64 2, .int .i64 s.d0.side, .int .i64 s.d0.step, .int .i64 s.d1.kind, .int .i64 s.d1.side, .int .i64 s.d1.step], .string t] w' fun e w'' => e = .returned (.tuple #[pv x, .int .i64 0]) ∧ Below w'.heap.size w' w'')
  (H2 : ∀ w', Below w.heap.size w w' → Calls Tryz.prog 15 #[.agg #[.int .i64 s.n, .int .i64 2, .int .i64 s.d0.side, .int .i64 s.d0.step, .int .i64 s.d1.kind, .int .i64 s.d1.side, .int .i64 s.d1.step], pv x] w' fun e w'' => e = .returned (.string U) ∧ Below w'.heap.size w' w'')
  (H3 : ∀ w', Below w.heap.size w w' → Calls Tryz.prog 17 #[.agg #[.int .i64 s.n, .int .i64 2, .int .i64 s.d0.side, .int .i64 s.d0.step, .int .i64 s.d1.kind, .int .i64 s.d1.side, .int .i64 s.d1.step], .string U] w' fun e w'' => e = .returned (.tuple #[pv x, .int .i64 0]) ∧ Below w'.heap.size w' w'')
  (H4 : ∀ w', Below w.heap.size w w' → Calls Tryz.prog 19 #[.agg #[.int .i64 s.n, .int .i64 2, .int .i64 s.d0.side, .int .i64 s.d0.step, .int .i64 s.d1.kind, .int .i64 s.d1.side, .int .i64 s.d1.step], pv x] w' fun e w'' => e = .returned (.bool true) ∧ Below w'.heap.size w' w'')
  : Calls Tryz.prog 7 #[.agg #[.int .i64 s.n, .int .i64 2, .int .i64 s.d0.side, .int .i64 s.d0.step, .int .i64 s.d1.kind, .int .i64 s.d1.side, .int .i64 s.d1.step], .string t] w fun e w' => e = .returned (.bool true) ∧ Below w.heap.size w w' := by
 have qx := eql_px_self x
 have nx := neq_px_self x
 unfold pv at *
 obtain ⟨Rc, hb0⟩ := one_row w #[.int .i64 s.n, .int .i64 2, .int .i64 s.d0.side, .int .i64 s.d0.step, .int .i64 s.d1.kind, .int .i64 s.d1.side, .int .i64 s.d1.step] 36
 (try clear c0 c1 c2 c3 c4 c5 c6); obtain ⟨c0, c1, c2, c3, c4, c5, c6⟩ := row7 Rc
 go_enter Tryz.func7, Tryz.ntmps7
 go_wp2_with fail
 refine (H1 _ hb0).mono ?_
 rintro e w1 ⟨rfl, hb⟩
 replace Rc := Rc.later hb
 replace hb0 := below_step hb0 hb
 clear hb
 have lc := Rc.lt
 (try clear c0 c1 c2 c3 c4 c5 c6); obtain ⟨c0, c1, c2, c3, c4, c5, c6⟩ := row7 Rc
 go_wp2_with fail
 refine (H2 _ (hb0.alloc hb0.size _)).mono ?_
 rintro e w2 ⟨rfl, hb⟩
 have npc := Rc.lt
 replace Rc := (Rc.alloc _).later hb
 have Rp := Row.later (Row.new _ _ _) hb
 have mp := hb0.size
 replace hb0 := below_step (hb0.alloc hb0.size _) hb
 clear hb
 generalize w1.heap.size = gp at *
 have lc := Rc.lt
 have lp := Rp.lt
 (try clear c0 c1 c2 c3 c4 c5 c6); obtain ⟨c0, c1, c2, c3, c4, c5, c6⟩ := row7 Rc
 (try clear p0 p1 p2 p3 p4 p5 p6 p7 p8 p9 p10 p11); obtain ⟨p0, p1, p2, p3, p4, p5, p6, p7, p8, p9, p10, p11⟩ := row12 Rp
 go_wp2_with fail
 refine (H3 _ hb0).mono ?_
 rintro e w3 ⟨rfl, hb⟩
 replace Rc := Rc.later hb
 replace Rp := Rp.later hb
 replace hb0 := below_step hb0 hb
 clear hb
 have lc := Rc.lt
 have lp := Rp.lt
 (try clear c0 c1 c2 c3 c4 c5 c6); obtain ⟨c0, c1, c2, c3, c4, c5, c6⟩ := row7 Rc
 (try clear p0 p1 p2 p3 p4 p5 p6 p7 p8 p9 p10 p11); obtain ⟨p0, p1, p2, p3, p4, p5, p6, p7, p8, p9, p10, p11⟩ := row12 Rp
 go_wp2_with fail
 refine (H4 _ (hb0.alloc hb0.size _)).mono ?_
 rintro e w4 ⟨rfl, hb⟩
 have nqc := Rc.lt
 have nqp := Rp.lt
 replace Rc := (Rc.alloc _).later hb
 replace Rp := (Rp.alloc _).later hb
 have Rq := Row.later (Row.new _ _ _) hb
 have mq := hb0.size
 replace hb0 := below_step (hb0.alloc hb0.size _) hb
 clear hb
 generalize w3.heap.size = gq at *
 have lc := Rc.lt
 have lp := Rp.lt
 have lq := Rq.lt
 (try clear c0 c1 c2 c3 c4 c5 c6); obtain ⟨c0, c1, c2, c3, c4, c5, c6⟩ := row7 Rc
 (try clear p0 p1 p2 p3 p4 p5 p6 p7 p8 p9 p10 p11); obtain ⟨p0, p1, p2, p3, p4, p5, p6, p7, p8, p9, p10, p11⟩ := row12 Rp
 (try clear q0 q1 q2 q3 q4 q5 q6 q7 q8 q9 q10 q11); obtain ⟨q0, q1, q2, q3, q4, q5, q6, q7, q8, q9, q10, q11⟩ := row12 Rq
 go_wp2_with fail
 refine (HA _ hb0).mono ?_
 rintro e w5 ⟨rfl, hb⟩
 replace Rc := Rc.later hb
 replace Rp := Rp.later hb
 replace Rq := Rq.later hb
 replace hb0 := below_step hb0 hb
 clear hb
 have lc := Rc.lt
 have lp := Rp.lt
 have lq := Rq.lt
 (try clear c0 c1 c2 c3 c4 c5 c6); obtain ⟨c0, c1, c2, c3, c4, c5, c6⟩ := row7 Rc
 (try clear p0 p1 p2 p3 p4 p5 p6 p7 p8 p9 p10 p11); obtain ⟨p0, p1, p2, p3, p4, p5, p6, p7, p8, p9, p10, p11⟩ := row12 Rp
 (try clear q0 q1 q2 q3 q4 q5 q6 q7 q8 q9 q10 q11); obtain ⟨q0, q1, q2, q3, q4, q5, q6, q7, q8, q9, q10, q11⟩ := row12 Rq
 go_wp2
 exact bodyPost_ret (v := .bool true) (by simp [results, Tryz.results7, go_sem]) rfl ⟨rfl, hb0⟩
theorem lthere_1 (s : Sp) (t U : ByteArray) (x : Px) (h0 : ¬ s.d0.kind = 2) (w : World)
  (HA : ∀ w', Below w.heap.size w w' → Calls Tryz.prog 10 #[] w' fun e w'' => e = .returned (.bool true) ∧ Below w'.heap.size w' w'')
  (H1 : ∀ w', Below w.heap.size w w' → Calls Tryz.prog 17 #[.agg #[.int .i64 s.n, .int .i64 s.d0.kind, .int .i64 s.d0.side, .int .i64 s.d0.step, .int .i64 2, .int .i64 s.d1.side, .int .i64 s.d1.step], .string t] w' fun e w'' => e = .returned (.tuple #[pv x, .int .i64 0]) ∧ Below w'.heap.size w' w'')
  (H2 : ∀ w', Below w.heap.size w w' → Calls Tryz.prog 15 #[.agg #[.int .i64 s.n, .int .i64 s.d0.kind, .int .i64 s.d0.side, .int .i64 s.d0.step, .int .i64 2, .int .i64 s.d1.side, .int .i64 s.d1.step], pv x] w' fun e w'' => e = .returned (.string U) ∧ Below w'.heap.size w' w'')
  (H3 : ∀ w', Below w.heap.size w w' → Calls Tryz.prog 17 #[.agg #[.int .i64 s.n, .int .i64 s.d0.kind, .int .i64 s.d0.side, .int .i64 s.d0.step, .int .i64 2, .int .i64 s.d1.side, .int .i64 s.d1.step], .string U] w' fun e w'' => e = .returned (.tuple #[pv x, .int .i64 0]) ∧ Below w'.heap.size w' w'')
  (H4 : ∀ w', Below w.heap.size w w' → Calls Tryz.prog 19 #[.agg #[.int .i64 s.n, .int .i64 s.d0.kind, .int .i64 s.d0.side, .int .i64 s.d0.step, .int .i64 2, .int .i64 s.d1.side, .int .i64 s.d1.step], pv x] w' fun e w'' => e = .returned (.bool true) ∧ Below w'.heap.size w' w'')
  : Calls Tryz.prog 7 #[.agg #[.int .i64 s.n, .int .i64 s.d0.kind, .int .i64 s.d0.side, .int .i64 s.d0.step, .int .i64 2, .int .i64 s.d1.side, .int .i64 s.d1.step], .string t] w fun e w' => e = .returned (.bool true) ∧ Below w.heap.size w w' := by
 have qx := eql_px_self x
 have nx := neq_px_self x
 have k0 : (s.d0.kind == 2) = false := by simpa using h0
 unfold pv at *
 obtain ⟨Rc, hb0⟩ := one_row w #[.int .i64 s.n, .int .i64 s.d0.kind, .int .i64 s.d0.side, .int .i64 s.d0.step, .int .i64 2, .int .i64 s.d1.side, .int .i64 s.d1.step] 36
 (try clear c0 c1 c2 c3 c4 c5 c6); obtain ⟨c0, c1, c2, c3, c4, c5, c6⟩ := row7 Rc
 go_enter Tryz.func7, Tryz.ntmps7
 go_wp2_with fail
 refine (H1 _ hb0).mono ?_
 rintro e w1 ⟨rfl, hb⟩
 replace Rc := Rc.later hb
 replace hb0 := below_step hb0 hb
 clear hb
 have lc := Rc.lt
 (try clear c0 c1 c2 c3 c4 c5 c6); obtain ⟨c0, c1, c2, c3, c4, c5, c6⟩ := row7 Rc
 go_wp2_with fail
 refine (H2 _ (hb0.alloc hb0.size _)).mono ?_
 rintro e w2 ⟨rfl, hb⟩
 have npc := Rc.lt
 replace Rc := (Rc.alloc _).later hb
 have Rp := Row.later (Row.new _ _ _) hb
 have mp := hb0.size
 replace hb0 := below_step (hb0.alloc hb0.size _) hb
 clear hb
 generalize w1.heap.size = gp at *
 have lc := Rc.lt
 have lp := Rp.lt
 (try clear c0 c1 c2 c3 c4 c5 c6); obtain ⟨c0, c1, c2, c3, c4, c5, c6⟩ := row7 Rc
 (try clear p0 p1 p2 p3 p4 p5 p6 p7 p8 p9 p10 p11); obtain ⟨p0, p1, p2, p3, p4, p5, p6, p7, p8, p9, p10, p11⟩ := row12 Rp
 go_wp2_with fail
 refine (H3 _ hb0).mono ?_
 rintro e w3 ⟨rfl, hb⟩
 replace Rc := Rc.later hb
 replace Rp := Rp.later hb
 replace hb0 := below_step hb0 hb
 clear hb
 have lc := Rc.lt
 have lp := Rp.lt
 (try clear c0 c1 c2 c3 c4 c5 c6); obtain ⟨c0, c1, c2, c3, c4, c5, c6⟩ := row7 Rc
 (try clear p0 p1 p2 p3 p4 p5 p6 p7 p8 p9 p10 p11); obtain ⟨p0, p1, p2, p3, p4, p5, p6, p7, p8, p9, p10, p11⟩ := row12 Rp
 go_wp2_with fail
 refine (H4 _ (hb0.alloc hb0.size _)).mono ?_
 rintro e w4 ⟨rfl, hb⟩
 have nqc := Rc.lt
 have nqp := Rp.lt
 replace Rc := (Rc.alloc _).later hb
 replace Rp := (Rp.alloc _).later hb
 have Rq := Row.later (Row.new _ _ _) hb
 have mq := hb0.size
 replace hb0 := below_step (hb0.alloc hb0.size _) hb
 clear hb
 generalize w3.heap.size = gq at *
 have lc := Rc.lt
 have lp := Rp.lt
 have lq := Rq.lt
 (try clear c0 c1 c2 c3 c4 c5 c6); obtain ⟨c0, c1, c2, c3, c4, c5, c6⟩ := row7 Rc
 (try clear p0 p1 p2 p3 p4 p5 p6 p7 p8 p9 p10 p11); obtain ⟨p0, p1, p2, p3, p4, p5, p6, p7, p8, p9, p10, p11⟩ := row12 Rp
 (try clear q0 q1 q2 q3 q4 q5 q6 q7 q8 q9 q10 q11); obtain ⟨q0, q1, q2, q3, q4, q5, q6, q7, q8, q9, q10, q11⟩ := row12 Rq
 go_wp2_with fail
 refine (HA _ hb0).mono ?_
 rintro e w5 ⟨rfl, hb⟩
 replace Rc := Rc.later hb
 replace Rp := Rp.later hb
 replace Rq := Rq.later hb
 replace hb0 := below_step hb0 hb
 clear hb
 have lc := Rc.lt
 have lp := Rp.lt
 have lq := Rq.lt
 (try clear c0 c1 c2 c3 c4 c5 c6); obtain ⟨c0, c1, c2, c3, c4, c5, c6⟩ := row7 Rc
 (try clear p0 p1 p2 p3 p4 p5 p6 p7 p8 p9 p10 p11); obtain ⟨p0, p1, p2, p3, p4, p5, p6, p7, p8, p9, p10, p11⟩ := row12 Rp
 (try clear q0 q1 q2 q3 q4 q5 q6 q7 q8 q9 q10 q11); obtain ⟨q0, q1, q2, q3, q4, q5, q6, q7, q8, q9, q10, q11⟩ := row12 Rq
 go_wp2
 exact bodyPost_ret (v := .bool true) (by simp [results, Tryz.results7, go_sem]) rfl ⟨rfl, hb0⟩
theorem lthere_t (s : Sp) (t : ByteArray) (x : Px) (h0 : ¬ s.d0.kind = 2) (h1 : ¬ s.d1.kind = 2) (w : World)
  (HA : ∀ w', Below w.heap.size w w' → Calls Tryz.prog 10 #[] w' fun e w'' => e = .returned (.bool true) ∧ Below w'.heap.size w' w'')
  (H1 : ∀ w', Below w.heap.size w w' → Calls Tryz.prog 17 #[.agg #[.int .i64 s.n, .int .i64 s.d0.kind, .int .i64 s.d0.side, .int .i64 s.d0.step, .int .i64 s.d1.kind, .int .i64 s.d1.side, .int .i64 s.d1.step], .string t] w' fun e w'' => e = .returned (.tuple #[pv x, .int .i64 0]) ∧ Below w'.heap.size w' w'')
  (H2 : ∀ w', Below w.heap.size w w' → Calls Tryz.prog 15 #[.agg #[.int .i64 s.n, .int .i64 s.d0.kind, .int .i64 s.d0.side, .int .i64 s.d0.step, .int .i64 s.d1.kind, .int .i64 s.d1.side, .int .i64 s.d1.step], pv x] w' fun e w'' => e = .returned (.string t) ∧ Below w'.heap.size w' w'')
  (H3 : ∀ w', Below w.heap.size w w' → Calls Tryz.prog 17 #[.agg #[.int .i64 s.n, .int .i64 s.d0.kind, .int .i64 s.d0.side, .int .i64 s.d0.step, .int .i64 s.d1.kind, .int .i64 s.d1.side, .int .i64 s.d1.step], .string t] w' fun e w'' => e = .returned (.tuple #[pv x, .int .i64 0]) ∧ Below w'.heap.size w' w'')
  (H4 : ∀ w', Below w.heap.size w w' → Calls Tryz.prog 19 #[.agg #[.int .i64 s.n, .int .i64 s.d0.kind, .int .i64 s.d0.side, .int .i64 s.d0.step, .int .i64 s.d1.kind, .int .i64 s.d1.side, .int .i64 s.d1.step], pv x] w' fun e w'' => e = .returned (.bool true) ∧ Below w'.heap.size w' w'')
  : Calls Tryz.prog 7 #[.agg #[.int .i64 s.n, .int .i64 s.d0.kind, .int .i64 s.d0.side, .int .i64 s.d0.step, .int .i64 s.d1.kind, .int .i64 s.d1.side, .int .i64 s.d1.step], .string t] w fun e w' => e = .returned (.bool true) ∧ Below w.heap.size w w' := by
 have qx := eql_px_self x
 have nx := neq_px_self x
 have k0 : (s.d0.kind == 2) = false := by simpa using h0
 have k1 : (s.d1.kind == 2) = false := by simpa using h1
 unfold pv at *
 obtain ⟨Rc, hb0⟩ := one_row w #[.int .i64 s.n, .int .i64 s.d0.kind, .int .i64 s.d0.side, .int .i64 s.d0.step, .int .i64 s.d1.kind, .int .i64 s.d1.side, .int .i64 s.d1.step] 36
 (try clear c0 c1 c2 c3 c4 c5 c6); obtain ⟨c0, c1, c2, c3, c4, c5, c6⟩ := row7 Rc
 go_enter Tryz.func7, Tryz.ntmps7
 go_wp2_with fail
 refine (H1 _ hb0).mono ?_
 rintro e w1 ⟨rfl, hb⟩
 replace Rc := Rc.later hb
 replace hb0 := below_step hb0 hb
 clear hb
 have lc := Rc.lt
 (try clear c0 c1 c2 c3 c4 c5 c6); obtain ⟨c0, c1, c2, c3, c4, c5, c6⟩ := row7 Rc
 go_wp2_with fail
 refine (H2 _ (hb0.alloc hb0.size _)).mono ?_
 rintro e w2 ⟨rfl, hb⟩
 have npc := Rc.lt
 replace Rc := (Rc.alloc _).later hb
 have Rp := Row.later (Row.new _ _ _) hb
 have mp := hb0.size
 replace hb0 := below_step (hb0.alloc hb0.size _) hb
 clear hb
 generalize w1.heap.size = gp at *
 have lc := Rc.lt
 have lp := Rp.lt
 (try clear c0 c1 c2 c3 c4 c5 c6); obtain ⟨c0, c1, c2, c3, c4, c5, c6⟩ := row7 Rc
 (try clear p0 p1 p2 p3 p4 p5 p6 p7 p8 p9 p10 p11); obtain ⟨p0, p1, p2, p3, p4, p5, p6, p7, p8, p9, p10, p11⟩ := row12 Rp
 go_wp2_with fail
 refine (H3 _ hb0).mono ?_
 rintro e w3 ⟨rfl, hb⟩
 replace Rc := Rc.later hb
 replace Rp := Rp.later hb
 replace hb0 := below_step hb0 hb
 clear hb
 have lc := Rc.lt
 have lp := Rp.lt
 (try clear c0 c1 c2 c3 c4 c5 c6); obtain ⟨c0, c1, c2, c3, c4, c5, c6⟩ := row7 Rc
 (try clear p0 p1 p2 p3 p4 p5 p6 p7 p8 p9 p10 p11); obtain ⟨p0, p1, p2, p3, p4, p5, p6, p7, p8, p9, p10, p11⟩ := row12 Rp
 go_wp2_with fail
 refine (H4 _ (hb0.alloc hb0.size _)).mono ?_
 rintro e w4 ⟨rfl, hb⟩
 have nqc := Rc.lt
 have nqp := Rp.lt
 replace Rc := (Rc.alloc _).later hb
 replace Rp := (Rp.alloc _).later hb
 have Rq := Row.later (Row.new _ _ _) hb
 have mq := hb0.size
 replace hb0 := below_step (hb0.alloc hb0.size _) hb
 clear hb
 generalize w3.heap.size = gq at *
 have lc := Rc.lt
 have lp := Rp.lt
 have lq := Rq.lt
 (try clear c0 c1 c2 c3 c4 c5 c6); obtain ⟨c0, c1, c2, c3, c4, c5, c6⟩ := row7 Rc
 (try clear p0 p1 p2 p3 p4 p5 p6 p7 p8 p9 p10 p11); obtain ⟨p0, p1, p2, p3, p4, p5, p6, p7, p8, p9, p10, p11⟩ := row12 Rp
 (try clear q0 q1 q2 q3 q4 q5 q6 q7 q8 q9 q10 q11); obtain ⟨q0, q1, q2, q3, q4, q5, q6, q7, q8, q9, q10, q11⟩ := row12 Rq
 go_wp2_with fail
 refine (HA _ hb0).mono ?_
 rintro e w5 ⟨rfl, hb⟩
 replace Rc := Rc.later hb
 replace Rp := Rp.later hb
 replace Rq := Rq.later hb
 replace hb0 := below_step hb0 hb
 clear hb
 have lc := Rc.lt
 have lp := Rp.lt
 have lq := Rq.lt
 (try clear c0 c1 c2 c3 c4 c5 c6); obtain ⟨c0, c1, c2, c3, c4, c5, c6⟩ := row7 Rc
 (try clear p0 p1 p2 p3 p4 p5 p6 p7 p8 p9 p10 p11); obtain ⟨p0, p1, p2, p3, p4, p5, p6, p7, p8, p9, p10, p11⟩ := row12 Rp
 (try clear q0 q1 q2 q3 q4 q5 q6 q7 q8 q9 q10 q11); obtain ⟨q0, q1, q2, q3, q4, q5, q6, q7, q8, q9, q10, q11⟩ := row12 Rq
 go_wp2
 exact bodyPost_ret (v := .bool true) (by simp [results, Tryz.results7, go_sem]) rfl ⟨rfl, hb0⟩
theorem lawTextThere (s : Sp) (t : List UInt8) (hl : t.length ≤ 2000000) (w : World) (hE : Env6 w) : Calls Tryz.prog 7 #[sv s, .string ⟨t.toArray⟩] w fun e w' => e = .returned (.bool true) ∧ Below w.heap.size w w' := by
 have HA : ∀ w', Below w.heap.size w w' → Calls Tryz.prog 10 #[] w' fun e w'' => e = .returned (.bool true) ∧ Below w'.heap.size w' w'' := fun w' hb => alive11_t w' (hE.later hb)
 have H1 := fun (w' : World) (hb : Below w.heap.size w w') => tparse_t s t hl w' (hE.e.later hb)
 by_cases h0 : (parseS s t).2 = 0
 ·obtain ⟨hr, hb⟩ := parse_there h0
  have ok := right_okP hr
  have H2 := fun (w' : World) (hb : Below w.heap.size w w') => print_t s (parseS s t).1 ok w' (hE.later hb)
  have H3 := fun (w' : World) (hb : Below w.heap.size w w') => tparse_t s (printS s (parseS s t).1) (by have := printS_small s (parseS s t).1; omega) w' (hE.e.later hb)
  rw [print_back hr] at H3
  have H4 := fun (w' : World) (_ : Below w.heap.size w w') => right9_t s (parseS s t).1 ok w'
  simp only [hr] at H4
  rw [h0] at H1
  generalize (parseS s t).1 = x at *
  obtain ⟨n, ⟨k0, sd0, st0⟩, ⟨k1, sd1, st1⟩⟩ := s
  by_cases e0 : k0 = 2
  ·subst e0
   exact lthere_0 ⟨n, ⟨2, sd0, st0⟩, ⟨k1, sd1, st1⟩⟩ _ _ x w HA H1 H2 H3 H4
  ·by_cases e1 : k1 = 2
   ·subst e1
    exact lthere_1 ⟨n, ⟨k0, sd0, st0⟩, ⟨2, sd1, st1⟩⟩ _ _ x e0 w HA H1 H2 H3 H4
   ·rw [hb e0 e1] at H2 H3
    exact lthere_t ⟨n, ⟨k0, sd0, st0⟩, ⟨k1, sd1, st1⟩⟩ _ x e0 e1 w HA H1 H2 H3 H4
 ·rw [parse_bad h0] at H1
  exact lthere_bad s _ _ h0 w HA H1
end Go.Proofs.YtboinifeemghaaaGreatDoor
