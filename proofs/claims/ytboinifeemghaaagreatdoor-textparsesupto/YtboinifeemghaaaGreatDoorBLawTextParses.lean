/- LawTextParses: what the theorem needs of these texts. No conditions beyond those that are written. -/
import Derived.Test.YtboinifeemghaaaGreatDoorBJTR7
import Derived.Test.YtboinifeemghaaaGreatDoorBLawTextPrints
set_option linter.unusedSimpArgs false
set_option linter.unusedVariables false
set_option maxHeartbeats 1600000
set_option maxRecDepth 100000
namespace Go.Proofs.YtboinifeemghaaaGreatDoor
open Go.RowKit
theorem lparses (s : Sp) (t : ByteArray) (x : Px) (er : Int) (w : World)
  (HA : ∀ w', Below w.heap.size w w' → Calls Tryz.prog 10 #[] w' fun e w'' => e = .returned (.bool true) ∧ Below w'.heap.size w' w'')
  (H1 : ∀ w', Below w.heap.size w w' → Calls Tryz.prog 17 #[sv s, .string t] w' fun e w'' => e = .returned (.tuple #[pv x, .int .i64 er]) ∧ Below w'.heap.size w' w'')
  (H2 : ∀ w', Below w.heap.size w w' → Calls Tryz.prog 18 #[sv s, .string t] w' fun e w'' => e = .returned (.tuple #[pv x, .int .i64 er]) ∧ Below w'.heap.size w' w'')
  : Calls Tryz.prog 5 #[sv s, .string t] w fun e w' => e = .returned (.bool true) ∧ Below w.heap.size w w' := by
 have qx := eql_px_self x
 unfold sv pv at *
 obtain ⟨Rc, hb0⟩ := one_row w #[.int .i64 s.n, .int .i64 s.d0.kind, .int .i64 s.d0.side, .int .i64 s.d0.step, .int .i64 s.d1.kind, .int .i64 s.d1.side, .int .i64 s.d1.step] 36
 (try clear c0 c1 c2 c3 c4 c5 c6); obtain ⟨c0, c1, c2, c3, c4, c5, c6⟩ := row7 Rc
 go_enter Tryz.func5, Tryz.ntmps5
 go_wp2_with fail
 refine (H1 _ hb0).mono ?_
 rintro e w1 ⟨rfl, hb⟩
 replace Rc := Rc.later hb
 replace hb0 := below_step hb0 hb
 clear hb
 have lc := Rc.lt
 (try clear c0 c1 c2 c3 c4 c5 c6); obtain ⟨c0, c1, c2, c3, c4, c5, c6⟩ := row7 Rc
 go_wp2_with fail
 refine (H2 _ (hb0.alloc hb0.size _)).mono ?_
 rintro e w2 ⟨rfl, hb⟩
 have npc := Rc.lt
 replace Rc := (Rc.alloc _).later hb
 have Rp := Row.later (Row.new _ _ _) hb
 have mp := hb0.size
 replace hb0 := below_step (hb0.alloc hb0.size _) hb
 clear hb
 generalize w1.heap.size = gp at *
 have lc := Rc.lt
 have lp := Rp.lt
 (try clear c0 c1 c2 c3 c4 c5 c6); obtain ⟨c0, c1, c2, c3, c4, c5, c6⟩ := row7 Rc
 (try clear p0 p1 p2 p3 p4 p5 p6 p7 p8 p9 p10 p11); obtain ⟨p0, p1, p2, p3, p4, p5, p6, p7, p8, p9, p10, p11⟩ := row12 Rp
 go_wp2_with fail
 refine (HA _ (hb0.alloc hb0.size _)).mono ?_
 rintro e w3 ⟨rfl, hb⟩
 have nqc := Rc.lt
 have nqp := Rp.lt
 replace Rc := (Rc.alloc _).later hb
 replace Rp := (Rp.alloc _).later hb
 have Rq := Row.later (Row.new _ _ _) hb
 have mq := hb0.size
 replace hb0 := below_step (hb0.alloc hb0.size _) hb
 clear hb
 generalize w2.heap.size = gq at *
 have lc := Rc.lt
 have lp := Rp.lt
 have lq := Rq.lt
 (try clear c0 c1 c2 c3 c4 c5 c6); obtain ⟨c0, c1, c2, c3, c4, c5, c6⟩ := row7 Rc
 (try clear p0 p1 p2 p3 p4 p5 p6 p7 p8 p9 p10 p11); obtain ⟨p0, p1, p2, p3, p4, p5, p6, p7, p8, p9, p10, p11⟩ := row12 Rp
 (try clear q0 q1 q2 q3 q4 q5 q6 q7 q8 q9 q10 q11); obtain ⟨q0, q1, q2, q3, q4, q5, q6, q7, q8, q9, q10, q11⟩ := row12 Rq
 go_wp2
 exact bodyPost_ret (v := .bool true) (by simp [results, Tryz.results5, go_sem]) rfl ⟨rfl, hb0⟩
theorem lawTextParses (s : Sp) (t : List UInt8) (hl : t.length ≤ 2000000) (w : World) (hE : Env6 w) : Calls Tryz.prog 5 #[sv s, .string ⟨t.toArray⟩] w fun e w' => e = .returned (.bool true) ∧ Below w.heap.size w w' :=
 lparses s _ _ _ w (fun w' hb => alive11_t w' (hE.later hb)) (fun w' hb => tparse_t s t hl w' (hE.e.later hb)) (fun w' _ => rparse11_t s t hl w')
end Go.Proofs.YtboinifeemghaaaGreatDoor
