/- LawGridPlaces: what the theorem needs of these texts. No conditions beyond those that are written. -/
import Derived.Test.YtbekocknfpekoaaGA
namespace Go.Proofs.Ytbekocknfpekoaa
set_option linter.unusedVariables false
set_option linter.unusedSimpArgs false
open Go.RowKit
theorem fdAt (a b c d e f g h i j k l : Value) (w : World) : (Instr.field 33 (.agg #[a, b, c, d, e, f, g, h, i, j, k, l]) 0).run Try.prog w = .ok (.agg #[a, b]) w := by kernel_rfl
set_option maxRecDepth 100000 in
set_option maxHeartbeats 64000000 in
theorem gp_bad_neg (s : Sp) (place i j q : Int) (t : Px) (L : List (Int × Int))
    (HN : ∀ w, Calls Try.prog 38 #[sv s] w fun e w' => ∃ p c, e = .returned (.slice p 0 c) ∧ TS w' (.slice p 0 c) L ∧ Below w.heap.size w w')
    (HC : ∀ w, Calls Try.prog 35 #[sv s] w fun e w' => e = .returned (.int .i64 0) ∧ Below w.heap.size w w')
    (HSd : ∀ w, Calls Try.prog 18 #[sv s] w fun e w' => e = .returned (.bool false) ∧ Below w.heap.size w w')
    (HQ : ∀ w, Calls Try.prog 43 #[sv s, rv i j] w fun e w' => e = .returned (.int .i64 q) ∧ Below w.heap.size w w')
    (HT : ∀ w, Calls Try.prog 22 #[sv s] w fun e w' => e = .returned (pv t) ∧ Below w.heap.size w w')
    (g0 : place < 0) (hq : q = -1) (w : World) :
    Calls Try.prog 13 #[sv s, .int .i64 place, .int .i64 i, .int .i64 j] w fun e w' => e = .returned (.bool true) ∧ Below w.heap.size w w' := by
  have jf := fdAt
  have HA := alive10_t
  subst hq
  have g1 : ¬ 0 ≤ place := by omega
  have g1' : decide (0 ≤ place) = false := decide_eq_false g1
  unfold sv pv rv at *
  obtain ⟨Rs, hb0⟩ := one_row w #[.int .i64 s.n, .int .i64 s.d0.kind, .int .i64 s.d0.side, .int .i64 s.d0.step, .int .i64 s.d1.kind, .int .i64 s.d1.side, .int .i64 s.d1.step] 26
  (try clear s0 s1 s2 s3 s4 s5 s6); obtain ⟨s0, s1, s2, s3, s4, s5, s6⟩ := row7 Rs
  go_enter Try.func13, Try.ntmps13
  go_wp2_with fail
  refine (HN _).mono ?_
  rintro e wN ⟨pa, ca, rfl, T, hb⟩
  have HBo := Lib.hid (below_step hb0 hb)
  replace Rs := Rs.later hb
  clear hb hb0 s0 s1 s2 s3 s4 s5 s6 HN
  have hb0 := Below.refl wN.heap.size wN
  (try clear s0 s1 s2 s3 s4 s5 s6); obtain ⟨s0, s1, s2, s3, s4, s5, s6⟩ := row7 Rs
  have ls := Rs.lt
  go_wp2_with fail
  refine (HC _).mono ?_
  rintro e w1 ⟨rfl, hb⟩
  replace Rs := Rs.later hb
  replace hb0 := below_step hb0 hb
  clear hb
  have ls := Rs.lt
  (try clear s0 s1 s2 s3 s4 s5 s6); obtain ⟨s0, s1, s2, s3, s4, s5, s6⟩ := row7 Rs
  go_wp2_with fail
  refine (HSd _).mono ?_
  rintro e w2 ⟨rfl, hb⟩
  replace Rs := Rs.later hb
  replace hb0 := below_step hb0 hb
  clear hb
  have ls := Rs.lt
  (try clear s0 s1 s2 s3 s4 s5 s6); obtain ⟨s0, s1, s2, s3, s4, s5, s6⟩ := row7 Rs
  go_wp2_with fail
  refine wp_region_held_drew (S := (fun w' => Row w' w.heap.size #[.int .i64 s.n, .int .i64 s.d0.kind, .int .i64 s.d0.side, .int .i64 s.d0.step, .int .i64 s.d1.kind, .int .i64 s.d1.side, .int .i64 s.d1.step] 26)) (by kernel_rfl) ?hSr1_ (fun hHeld => ?_)
  case hSr1_ => (exact Rs.drew)
  (clear s0 s1 s2 s3 s4 s5 s6; (replace Rs := Rs.drew); (replace hb0 := hb0.drew); (generalize World.drew w2 = wq at *))
  refine tk 0 ⟨some 27, .move (.tmp 1), 3, _, _, _⟩ hHeld ?_
  (try simp only [Act.put, nz1, nz2, nz3])
  refine tk 1 ⟨some 28, .binOp .geq 3 (.tmp 27) (.const (.int .i64 0)) 3, 4, _, _, _⟩ hHeld ?_
  (try simp only [Act.put, nz1, nz2, nz3])
  refine tk 2 ⟨some 29, .move (.tmp 28), 4, _, _, _⟩ hHeld ?_
  (try simp only [Act.put, nz1, nz2, nz3])
  refine ts 3 ⟨some 30, .move (.tmp 1), 3, _, _, _⟩ hHeld ?_
  (try simp only [Act.put, nz1, nz2, nz3])
  refine ts 4 ⟨some 31, .move (.tmp 9), 49, _, _, _⟩ hHeld ?_
  (try simp only [Act.put, nz1, nz2, nz3])
  refine ts 5 ⟨some 32, .call { callee := .builtin .len, args := #[.tmp 31], argTypes := #[49] }, 3, _, _, _⟩ hHeld ?_
  (try simp only [Act.put, nz1, nz2, nz3])
  refine ts 6 ⟨some 33, .binOp .lss 3 (.tmp 30) (.tmp 32) 3, 4, _, _, _⟩ hHeld ?_
  (try simp only [Act.put, nz1, nz2, nz3])
  refine tk 7 ⟨some 34, .pick (.tmp 29) (.tmp 33) (.const (.bool false)), 4, _, _, _⟩ hHeld ?_
  (try simp only [Act.put, nz1, nz2, nz3])
  refine tk 8 ⟨some 35, .move (.tmp 34), 4, _, _, _⟩ hHeld ?_
  (try simp only [Act.put, nz1, nz2, nz3])
  refine ts 9 ⟨some 36, .load 26 (.tmp 4), 26, _, _, _⟩ hHeld ?_
  (try simp only [Act.put, nz1, nz2, nz3])
  refine ts 10 ⟨some 37, .move (.tmp 9), 49, _, _, _⟩ hHeld ?_
  (try simp only [Act.put, nz1, nz2, nz3])
  refine ts 11 ⟨some 38, .move (.tmp 1), 3, _, _, _⟩ hHeld ?_
  (try simp only [Act.put, nz1, nz2, nz3])
  refine ts 12 ⟨some 39, .indexAddr 49 (.tmp 37) (.tmp 38), 0, _, _, _⟩ hHeld ?_
  (try simp only [Act.put, nz1, nz2, nz3])
  refine ts 13 ⟨some 40, .load 27 (.tmp 39), 27, _, _, _⟩ hHeld ?_
  (try simp only [Act.put, nz1, nz2, nz3])
  refine ts 14 ⟨some 41, .call { callee := .value (.func 43), args := #[.tmp 36, .tmp 40], argTypes := #[26, 27] }, 3, _, _, _⟩ hHeld ?_
  (try simp only [Act.put, nz1, nz2, nz3])
  refine ts 15 ⟨some 42, .move (.tmp 1), 3, _, _, _⟩ hHeld ?_
  (try simp only [Act.put, nz1, nz2, nz3])
  refine ts 16 ⟨some 43, .binOp .neq 3 (.tmp 41) (.tmp 42) 3, 4, _, _, _⟩ hHeld ?_
  (try simp only [Act.put, nz1, nz2, nz3])
  refine tk 17 ⟨some 44, .pick (.tmp 35) (.tmp 43) (.const (.bool false)), 4, _, _, _⟩ hHeld ?_
  (try simp only [Act.put, nz1, nz2, nz3])
  refine wpAnyH_done (by kernel_rfl) ?_ _
  clear hHeld
  rename World => w3
  have ls := Rs.lt
  (try clear s0 s1 s2 s3 s4 s5 s6); obtain ⟨s0, s1, s2, s3, s4, s5, s6⟩ := row7 Rs
  go_wp2_with fail
  refine (HQ _).mono ?_
  rintro e w4 ⟨rfl, hb⟩
  replace Rs := Rs.later hb
  replace hb0 := below_step hb0 hb
  clear hb
  have ls := Rs.lt
  (try clear s0 s1 s2 s3 s4 s5 s6); obtain ⟨s0, s1, s2, s3, s4, s5, s6⟩ := row7 Rs
  go_wp2_with fail
  refine (HT _).mono ?_
  rintro e w5 ⟨rfl, hb⟩
  replace Rs := Rs.later hb
  replace hb0 := below_step hb0 hb
  clear hb
  have ls := Rs.lt
  (try clear s0 s1 s2 s3 s4 s5 s6); obtain ⟨s0, s1, s2, s3, s4, s5, s6⟩ := row7 Rs
  go_wp2_with fail
  have nys := Rs.lt
  replace Rs := Rs.alloc (.cells #[Value.int .i64 t.a0, Value.int .i64 t.a1] 27)
  have Ry := Row.new w5 #[Value.int .i64 t.a0, Value.int .i64 t.a1] 27
  have my := hb0.size
  replace hb0 := hb0.alloc hb0.size (.cells #[Value.int .i64 t.a0, Value.int .i64 t.a1] 27)
  (try clear s0 s1 s2 s3 s4 s5 s6); obtain ⟨s0, s1, s2, s3, s4, s5, s6⟩ := row7 Rs
  (try clear y0 y1); obtain ⟨y0, y1⟩ := row2 Ry
  generalize (World.alloc w5 (.cells #[Value.int .i64 t.a0, Value.int .i64 t.a1] 27)) = w6 at *
  go_wp2_with fail
  refine (HSd _).mono ?_
  rintro e w7 ⟨rfl, hb⟩
  replace Rs := Rs.later hb
  replace Ry := Ry.later hb
  replace hb0 := below_step hb0 hb
  clear hb
  have ls := Rs.lt
  have ly := Ry.lt
  (try clear s0 s1 s2 s3 s4 s5 s6); obtain ⟨s0, s1, s2, s3, s4, s5, s6⟩ := row7 Rs
  (try clear y0 y1); obtain ⟨y0, y1⟩ := row2 Ry
  go_wp2_with fail
  refine (HA _).mono ?_
  rintro e w8 ⟨rfl, hb⟩
  replace Rs := Rs.later hb
  replace Ry := Ry.later hb
  replace hb0 := below_step hb0 hb
  clear hb
  have ls := Rs.lt
  have ly := Ry.lt
  (try clear s0 s1 s2 s3 s4 s5 s6); obtain ⟨s0, s1, s2, s3, s4, s5, s6⟩ := row7 Rs
  (try clear y0 y1); obtain ⟨y0, y1⟩ := row2 Ry
  go_wp2
  go_ret
  exact ⟨rfl, below_step HBo.out hb0⟩
set_option maxRecDepth 100000 in
set_option maxHeartbeats 64000000 in
theorem gp_bad_pos (s : Sp) (place i j q : Int) (t : Px) (L : List (Int × Int))
    (HN : ∀ w, Calls Try.prog 38 #[sv s] w fun e w' => ∃ p c, e = .returned (.slice p 0 c) ∧ TS w' (.slice p 0 c) L ∧ Below w.heap.size w w')
    (HC : ∀ w, Calls Try.prog 35 #[sv s] w fun e w' => e = .returned (.int .i64 0) ∧ Below w.heap.size w w')
    (HSd : ∀ w, Calls Try.prog 18 #[sv s] w fun e w' => e = .returned (.bool false) ∧ Below w.heap.size w w')
    (HQ : ∀ w, Calls Try.prog 43 #[sv s, rv i j] w fun e w' => e = .returned (.int .i64 q) ∧ Below w.heap.size w w')
    (HT : ∀ w, Calls Try.prog 22 #[sv s] w fun e w' => e = .returned (pv t) ∧ Below w.heap.size w w')
    (g0 : ¬ place < 0) (hq : q = -1) (w : World) :
    Calls Try.prog 13 #[sv s, .int .i64 place, .int .i64 i, .int .i64 j] w fun e w' => e = .returned (.bool true) ∧ Below w.heap.size w w' := by
  have jf := fdAt
  have HA := alive10_t
  subst hq
  have g1 : 0 ≤ place := by omega
  have g1' : decide (0 ≤ place) = true := decide_eq_true g1
  have g2 : ¬ place < 0 := g0
  have g2' : decide (place < 0) = false := decide_eq_false g2
  unfold sv pv rv at *
  obtain ⟨Rs, hb0⟩ := one_row w #[.int .i64 s.n, .int .i64 s.d0.kind, .int .i64 s.d0.side, .int .i64 s.d0.step, .int .i64 s.d1.kind, .int .i64 s.d1.side, .int .i64 s.d1.step] 26
  (try clear s0 s1 s2 s3 s4 s5 s6); obtain ⟨s0, s1, s2, s3, s4, s5, s6⟩ := row7 Rs
  go_enter Try.func13, Try.ntmps13
  go_wp2_with fail
  refine (HN _).mono ?_
  rintro e wN ⟨pa, ca, rfl, T, hb⟩
  have HBo := Lib.hid (below_step hb0 hb)
  replace Rs := Rs.later hb
  clear hb hb0 s0 s1 s2 s3 s4 s5 s6 HN
  have hb0 := Below.refl wN.heap.size wN
  (try clear s0 s1 s2 s3 s4 s5 s6); obtain ⟨s0, s1, s2, s3, s4, s5, s6⟩ := row7 Rs
  have ls := Rs.lt
  go_wp2_with fail
  refine (HC _).mono ?_
  rintro e w1 ⟨rfl, hb⟩
  replace Rs := Rs.later hb
  replace hb0 := below_step hb0 hb
  clear hb
  have ls := Rs.lt
  (try clear s0 s1 s2 s3 s4 s5 s6); obtain ⟨s0, s1, s2, s3, s4, s5, s6⟩ := row7 Rs
  go_wp2_with fail
  refine (HSd _).mono ?_
  rintro e w2 ⟨rfl, hb⟩
  replace Rs := Rs.later hb
  replace hb0 := below_step hb0 hb
  clear hb
  have ls := Rs.lt
  (try clear s0 s1 s2 s3 s4 s5 s6); obtain ⟨s0, s1, s2, s3, s4, s5, s6⟩ := row7 Rs
  go_wp2_with fail
  refine wp_region_held_drew (S := (fun w' => Row w' w.heap.size #[.int .i64 s.n, .int .i64 s.d0.kind, .int .i64 s.d0.side, .int .i64 s.d0.step, .int .i64 s.d1.kind, .int .i64 s.d1.side, .int .i64 s.d1.step] 26)) (by kernel_rfl) ?hSr2_ (fun hHeld => ?_)
  case hSr2_ => (exact Rs.drew)
  (clear s0 s1 s2 s3 s4 s5 s6; (replace Rs := Rs.drew); (replace hb0 := hb0.drew); (generalize World.drew w2 = wq at *))
  refine tk 0 ⟨some 27, .move (.tmp 1), 3, _, _, _⟩ hHeld ?_
  (try simp only [Act.put, nz1, nz2, nz3])
  refine tk 1 ⟨some 28, .binOp .geq 3 (.tmp 27) (.const (.int .i64 0)) 3, 4, _, _, _⟩ hHeld ?_
  (try simp only [Act.put, nz1, nz2, nz3])
  refine tk 2 ⟨some 29, .move (.tmp 28), 4, _, _, _⟩ hHeld ?_
  (try simp only [Act.put, nz1, nz2, nz3])
  refine tk 3 ⟨some 30, .move (.tmp 1), 3, _, _, _⟩ hHeld ?_
  (try simp only [Act.put, nz1, nz2, nz3])
  refine tk 4 ⟨some 31, .move (.tmp 9), 49, _, _, _⟩ hHeld ?_
  (try simp only [Act.put, nz1, nz2, nz3])
  refine tk 5 ⟨some 32, .call { callee := .builtin .len, args := #[.tmp 31], argTypes := #[49] }, 3, _, _, _⟩ hHeld ?_
  (try simp only [Act.put, nz1, nz2, nz3])
  refine tk 6 ⟨some 33, .binOp .lss 3 (.tmp 30) (.tmp 32) 3, 4, _, _, _⟩ hHeld ?_
  (try simp only [Act.put, nz1, nz2, nz3])
  refine tk 7 ⟨some 34, .pick (.tmp 29) (.tmp 33) (.const (.bool false)), 4, _, _, _⟩ hHeld ?_
  (try simp only [Act.put, nz1, nz2, nz3])
  refine tk 8 ⟨some 35, .move (.tmp 34), 4, _, _, _⟩ hHeld ?_
  (try simp only [Act.put, nz1, nz2, nz3])
  refine ts 9 ⟨some 36, .load 26 (.tmp 4), 26, _, _, _⟩ hHeld ?_
  (try simp only [Act.put, nz1, nz2, nz3])
  refine ts 10 ⟨some 37, .move (.tmp 9), 49, _, _, _⟩ hHeld ?_
  (try simp only [Act.put, nz1, nz2, nz3])
  refine ts 11 ⟨some 38, .move (.tmp 1), 3, _, _, _⟩ hHeld ?_
  (try simp only [Act.put, nz1, nz2, nz3])
  refine ts 12 ⟨some 39, .indexAddr 49 (.tmp 37) (.tmp 38), 0, _, _, _⟩ hHeld ?_
  (try simp only [Act.put, nz1, nz2, nz3])
  refine ts 13 ⟨some 40, .load 27 (.tmp 39), 27, _, _, _⟩ hHeld ?_
  (try simp only [Act.put, nz1, nz2, nz3])
  refine ts 14 ⟨some 41, .call { callee := .value (.func 43), args := #[.tmp 36, .tmp 40], argTypes := #[26, 27] }, 3, _, _, _⟩ hHeld ?_
  (try simp only [Act.put, nz1, nz2, nz3])
  refine ts 15 ⟨some 42, .move (.tmp 1), 3, _, _, _⟩ hHeld ?_
  (try simp only [Act.put, nz1, nz2, nz3])
  refine ts 16 ⟨some 43, .binOp .neq 3 (.tmp 41) (.tmp 42) 3, 4, _, _, _⟩ hHeld ?_
  (try simp only [Act.put, nz1, nz2, nz3])
  refine tk 17 ⟨some 44, .pick (.tmp 35) (.tmp 43) (.const (.bool false)), 4, _, _, _⟩ hHeld ?_
  (try simp only [Act.put, nz1, nz2, nz3])
  refine wpAnyH_done (by kernel_rfl) ?_ _
  clear hHeld
  rename World => w3
  have ls := Rs.lt
  (try clear s0 s1 s2 s3 s4 s5 s6); obtain ⟨s0, s1, s2, s3, s4, s5, s6⟩ := row7 Rs
  go_wp2_with fail
  refine (HQ _).mono ?_
  rintro e w4 ⟨rfl, hb⟩
  replace Rs := Rs.later hb
  replace hb0 := below_step hb0 hb
  clear hb
  have ls := Rs.lt
  (try clear s0 s1 s2 s3 s4 s5 s6); obtain ⟨s0, s1, s2, s3, s4, s5, s6⟩ := row7 Rs
  go_wp2_with fail
  refine (HT _).mono ?_
  rintro e w5 ⟨rfl, hb⟩
  replace Rs := Rs.later hb
  replace hb0 := below_step hb0 hb
  clear hb
  have ls := Rs.lt
  (try clear s0 s1 s2 s3 s4 s5 s6); obtain ⟨s0, s1, s2, s3, s4, s5, s6⟩ := row7 Rs
  go_wp2_with fail
  have nys := Rs.lt
  replace Rs := Rs.alloc (.cells #[Value.int .i64 t.a0, Value.int .i64 t.a1] 27)
  have Ry := Row.new w5 #[Value.int .i64 t.a0, Value.int .i64 t.a1] 27
  have my := hb0.size
  replace hb0 := hb0.alloc hb0.size (.cells #[Value.int .i64 t.a0, Value.int .i64 t.a1] 27)
  (try clear s0 s1 s2 s3 s4 s5 s6); obtain ⟨s0, s1, s2, s3, s4, s5, s6⟩ := row7 Rs
  (try clear y0 y1); obtain ⟨y0, y1⟩ := row2 Ry
  generalize (World.alloc w5 (.cells #[Value.int .i64 t.a0, Value.int .i64 t.a1] 27)) = w6 at *
  go_wp2_with fail
  refine (HSd _).mono ?_
  rintro e w7 ⟨rfl, hb⟩
  replace Rs := Rs.later hb
  replace Ry := Ry.later hb
  replace hb0 := below_step hb0 hb
  clear hb
  have ls := Rs.lt
  have ly := Ry.lt
  (try clear s0 s1 s2 s3 s4 s5 s6); obtain ⟨s0, s1, s2, s3, s4, s5, s6⟩ := row7 Rs
  (try clear y0 y1); obtain ⟨y0, y1⟩ := row2 Ry
  go_wp2_with fail
  refine (HA _).mono ?_
  rintro e w8 ⟨rfl, hb⟩
  replace Rs := Rs.later hb
  replace Ry := Ry.later hb
  replace hb0 := below_step hb0 hb
  clear hb
  have ls := Rs.lt
  have ly := Ry.lt
  (try clear s0 s1 s2 s3 s4 s5 s6); obtain ⟨s0, s1, s2, s3, s4, s5, s6⟩ := row7 Rs
  (try clear y0 y1); obtain ⟨y0, y1⟩ := row2 Ry
  go_wp2
  go_ret
  exact ⟨rfl, below_step HBo.out hb0⟩
set_option maxRecDepth 100000 in
set_option maxHeartbeats 64000000 in
theorem gp_a (s : Sp) (place i j q : Int) (t : Px) (N : Nat) (L : List (Int × Int))
    (HN : ∀ w, Calls Try.prog 38 #[sv s] w fun e w' => ∃ p c, e = .returned (.slice p N c) ∧ TS w' (.slice p N c) L ∧ Below w.heap.size w w')
    (HC : ∀ w, Calls Try.prog 35 #[sv s] w fun e w' => e = .returned (.int .i64 (N : Int)) ∧ Below w.heap.size w w')
    (HSd : ∀ w, Calls Try.prog 18 #[sv s] w fun e w' => e = .returned (.bool true) ∧ Below w.heap.size w w')
    (HQ : ∀ w, Calls Try.prog 43 #[sv s, rv i j] w fun e w' => e = .returned (.int .i64 q) ∧ Below w.heap.size w w')
    (HT : ∀ w, Calls Try.prog 22 #[sv s] w fun e w' => e = .returned (pv t) ∧ Below w.heap.size w w')
    (hN : L.length = N) (hN0 : 0 < N) (hN6 : N ≤ 16641)
    (HPl : ∀ (k : Nat) x y, L[k]? = some (x, y) → ∀ w, Calls Try.prog 43 #[sv s, rv x y] w fun e w' => e = .returned (.int .i64 (k : Int)) ∧ Below w.heap.size w w')
    (g0 : i < 0)
    (hq : q = -1) (w : World) :
    Calls Try.prog 13 #[sv s, .int .i64 place, .int .i64 i, .int .i64 j] w fun e w' => e = .returned (.bool true) ∧ Below w.heap.size w w' := by
  have jf := fdAt
  have HA := alive10_t
  subst hq
  have c0x : ¬ 0 ≤ i := by omega
  have c0y : decide (0 ≤ i) = false := decide_eq_false c0x
  have hn1 : (0 : Int) < (N : Int) := by omega
  have hn1' : decide ((0 : Int) < (N : Int)) = true := decide_eq_true hn1
  have HPx := Lib.hid HPl
  have HLn := Lib.hid hN
  clear HPl hN 
  unfold sv pv rv at *
  obtain ⟨Rs, hb0⟩ := one_row w #[.int .i64 s.n, .int .i64 s.d0.kind, .int .i64 s.d0.side, .int .i64 s.d0.step, .int .i64 s.d1.kind, .int .i64 s.d1.side, .int .i64 s.d1.step] 26
  (try clear s0 s1 s2 s3 s4 s5 s6); obtain ⟨s0, s1, s2, s3, s4, s5, s6⟩ := row7 Rs
  go_enter Try.func13, Try.ntmps13
  go_wp2_with fail
  refine (HN _).mono ?_
  rintro e wN ⟨pa, ca, rfl, T, hb⟩
  have HBo := Lib.hid (below_step hb0 hb)
  replace Rs := Rs.later hb
  clear hb hb0 s0 s1 s2 s3 s4 s5 s6 HN
  have hb0 := Below.refl wN.heap.size wN
  (try clear s0 s1 s2 s3 s4 s5 s6); obtain ⟨s0, s1, s2, s3, s4, s5, s6⟩ := row7 Rs
  have ls := Rs.lt
  go_wp2_with fail
  refine (HC _).mono ?_
  rintro e w1 ⟨rfl, hb⟩
  replace Rs := Rs.later hb
  replace hb0 := below_step hb0 hb
  clear hb
  have ls := Rs.lt
  (try clear s0 s1 s2 s3 s4 s5 s6); obtain ⟨s0, s1, s2, s3, s4, s5, s6⟩ := row7 Rs
  go_wp2_with fail
  refine (HSd _).mono ?_
  rintro e w2 ⟨rfl, hb⟩
  replace Rs := Rs.later hb
  replace hb0 := below_step hb0 hb
  clear hb
  have ls := Rs.lt
  (try clear s0 s1 s2 s3 s4 s5 s6); obtain ⟨s0, s1, s2, s3, s4, s5, s6⟩ := row7 Rs
  go_upto_region 4 with fail
  have HB4 := Lib.hid (below_step HBo.out hb0)
  have T4 := Lib.hid (T.later hb0)
  clear HBo T hb0
  go_cut [44] (fun s44 wx => s44 = .bool false ∧ TS wx (.slice pa N ca) L ∧ Row wx w.heap.size #[.int .i64 s.n, .int .i64 s.d0.kind, .int .i64 s.d0.side, .int .i64 s.d0.step, .int .i64 s.d1.kind, .int .i64 s.d1.side, .int .i64 s.d1.step] 26 ∧ Below w.heap.size w wx)
  case first =>
    have hb0 := Below.refl w2.heap.size w2
    by_cases p0 : place < 0
    · have p1 : ¬ 0 ≤ place := by omega
      have p1' : decide (0 ≤ place) = false := decide_eq_false p1
      refine wp_region_held_drew (S := (fun w' => Row w' w.heap.size #[.int .i64 s.n, .int .i64 s.d0.kind, .int .i64 s.d0.side, .int .i64 s.d0.step, .int .i64 s.d1.kind, .int .i64 s.d1.side, .int .i64 s.d1.step] 26)) (by kernel_rfl) ?hSr3_ (fun hHeld => ?_)
      case hSr3_ => (exact Rs.drew)
      (clear s0 s1 s2 s3 s4 s5 s6; (replace Rs := Rs.drew); (replace hb0 := hb0.drew); (generalize World.drew w2 = wq at *))
      refine tk 0 ⟨some 27, .move (.tmp 1), 3, _, _, _⟩ hHeld ?_
      (try simp only [Act.put, nz1, nz2, nz3])
      refine tk 1 ⟨some 28, .binOp .geq 3 (.tmp 27) (.const (.int .i64 0)) 3, 4, _, _, _⟩ hHeld ?_
      (try simp only [Act.put, nz1, nz2, nz3])
      refine tk 2 ⟨some 29, .move (.tmp 28), 4, _, _, _⟩ hHeld ?_
      (try simp only [Act.put, nz1, nz2, nz3])
      refine ts 3 ⟨some 30, .move (.tmp 1), 3, _, _, _⟩ hHeld ?_
      (try simp only [Act.put, nz1, nz2, nz3])
      refine ts 4 ⟨some 31, .move (.tmp 9), 49, _, _, _⟩ hHeld ?_
      (try simp only [Act.put, nz1, nz2, nz3])
      refine ts 5 ⟨some 32, .call { callee := .builtin .len, args := #[.tmp 31], argTypes := #[49] }, 3, _, _, _⟩ hHeld ?_
      (try simp only [Act.put, nz1, nz2, nz3])
      refine ts 6 ⟨some 33, .binOp .lss 3 (.tmp 30) (.tmp 32) 3, 4, _, _, _⟩ hHeld ?_
      (try simp only [Act.put, nz1, nz2, nz3])
      refine tk 7 ⟨some 34, .pick (.tmp 29) (.tmp 33) (.const (.bool false)), 4, _, _, _⟩ hHeld ?_
      (try simp only [Act.put, nz1, nz2, nz3])
      refine tk 8 ⟨some 35, .move (.tmp 34), 4, _, _, _⟩ hHeld ?_
      (try simp only [Act.put, nz1, nz2, nz3])
      refine ts 9 ⟨some 36, .load 26 (.tmp 4), 26, _, _, _⟩ hHeld ?_
      (try simp only [Act.put, nz1, nz2, nz3])
      refine ts 10 ⟨some 37, .move (.tmp 9), 49, _, _, _⟩ hHeld ?_
      (try simp only [Act.put, nz1, nz2, nz3])
      refine ts 11 ⟨some 38, .move (.tmp 1), 3, _, _, _⟩ hHeld ?_
      (try simp only [Act.put, nz1, nz2, nz3])
      refine ts 12 ⟨some 39, .indexAddr 49 (.tmp 37) (.tmp 38), 0, _, _, _⟩ hHeld ?_
      (try simp only [Act.put, nz1, nz2, nz3])
      refine ts 13 ⟨some 40, .load 27 (.tmp 39), 27, _, _, _⟩ hHeld ?_
      (try simp only [Act.put, nz1, nz2, nz3])
      refine ts 14 ⟨some 41, .call { callee := .value (.func 43), args := #[.tmp 36, .tmp 40], argTypes := #[26, 27] }, 3, _, _, _⟩ hHeld ?_
      (try simp only [Act.put, nz1, nz2, nz3])
      refine ts 15 ⟨some 42, .move (.tmp 1), 3, _, _, _⟩ hHeld ?_
      (try simp only [Act.put, nz1, nz2, nz3])
      refine ts 16 ⟨some 43, .binOp .neq 3 (.tmp 41) (.tmp 42) 3, 4, _, _, _⟩ hHeld ?_
      (try simp only [Act.put, nz1, nz2, nz3])
      refine tk 17 ⟨some 44, .pick (.tmp 35) (.tmp 43) (.const (.bool false)), 4, _, _, _⟩ hHeld ?_
      (try simp only [Act.put, nz1, nz2, nz3])
      refine wpAnyH_done (by kernel_rfl) ?_ _
      (go_wp2_with fail; go_meet; exact ⟨rfl, T4.out.later hb0, Rs, below_step HB4.out hb0⟩)
    · obtain ⟨pn, rfl⟩ : ∃ pn : Nat, place = (pn : Int) := ⟨place.toNat, by omega⟩
      by_cases p2 : pn < N
      · have p2x : (pn : Int) < (N : Int) := by omega
        obtain ⟨_, _, ez, _, hz⟩ := ts_read T4.out
        rw [HLn.out] at ez
        cases ez
        obtain ⟨zg, zo, rfl, zlt, zcell⟩ := hz (by rw [HLn.out]; omega)
        obtain ⟨⟨xi, yi⟩, hL⟩ : ∃ q', L[pn]? = some q' := ⟨_, List.getElem?_eq_getElem (by rw [HLn.out]; omega)⟩
        obtain ⟨z0, z1⟩ := zcell pn xi yi hL
        have HPp := HPx.out pn xi yi hL
        clear hz zcell hL
        refine wp_region_held_drew (S := (fun w' => w'.cell? ⟨zg, zo + pn * 2, none⟩ = some (Value.int .i64 xi) ∧ w'.cell? ⟨zg, zo + pn * 2 + 1, none⟩ = some (Value.int .i64 yi) ∧ Row w' w.heap.size #[.int .i64 s.n, .int .i64 s.d0.kind, .int .i64 s.d0.side, .int .i64 s.d0.step, .int .i64 s.d1.kind, .int .i64 s.d1.side, .int .i64 s.d1.step] 26)) (by kernel_rfl) ?hSr4_ (fun hHeld => ?_)
        case hSr4_ => (exact ⟨z0, z1, Rs.drew⟩)
        (clear s0 s1 s2 s3 s4 s5 s6; (replace Rs := Rs.drew); (replace hb0 := hb0.drew); (generalize World.drew w2 = wq at *))
        refine tk 0 ⟨some 27, .move (.tmp 1), 3, _, _, _⟩ hHeld ?_
        (try simp only [Act.put, nz1, nz2, nz3])
        refine tk 1 ⟨some 28, .binOp .geq 3 (.tmp 27) (.const (.int .i64 0)) 3, 4, _, _, _⟩ hHeld ?_
        (try simp only [Act.put, nz1, nz2, nz3])
        refine tk 2 ⟨some 29, .move (.tmp 28), 4, _, _, _⟩ hHeld ?_
        (try simp only [Act.put, nz1, nz2, nz3])
        refine tk 3 ⟨some 30, .move (.tmp 1), 3, _, _, _⟩ hHeld ?_
        (try simp only [Act.put, nz1, nz2, nz3])
        refine tk 4 ⟨some 31, .move (.tmp 9), 49, _, _, _⟩ hHeld ?_
        (try simp only [Act.put, nz1, nz2, nz3])
        refine tk 5 ⟨some 32, .call { callee := .builtin .len, args := #[.tmp 31], argTypes := #[49] }, 3, _, _, _⟩ hHeld ?_
        (try simp only [Act.put, nz1, nz2, nz3])
        refine tk 6 ⟨some 33, .binOp .lss 3 (.tmp 30) (.tmp 32) 3, 4, _, _, _⟩ hHeld ?_
        (try simp only [Act.put, nz1, nz2, nz3])
        refine tk 7 ⟨some 34, .pick (.tmp 29) (.tmp 33) (.const (.bool false)), 4, _, _, _⟩ hHeld ?_
        (try simp only [Act.put, nz1, nz2, nz3])
        refine tk 8 ⟨some 35, .move (.tmp 34), 4, _, _, _⟩ hHeld ?_
        (try simp only [Act.put, nz1, nz2, nz3])
        refine tk 9 ⟨some 36, .load 26 (.tmp 4), 26, _, _, _⟩ hHeld ?_ (v := ?vr4_10_9) (hy := ?yr4_10_9)
        case yr4_10_9 => (intro wy hSw; obtain ⟨z0, z1, Qs⟩ := hSw; (with_reducible refine pexec_load 26 (.tmp 4) ?_ w.heap.size ?_ 26 #[.int .i64 s.n, .int .i64 s.d0.kind, .int .i64 s.d0.side, .int .i64 s.d0.step, .int .i64 s.d1.kind, .int .i64 s.d1.side, .int .i64 s.d1.step] _ Qs Try.underlying26 ?_ ?_) <;> first | rfl | exact infoSp)
        (try simp only [Act.put, nz1, nz2, nz3])
        refine tk 10 ⟨some 37, .move (.tmp 9), 49, _, _, _⟩ hHeld ?_
        (try simp only [Act.put, nz1, nz2, nz3])
        refine tk 11 ⟨some 38, .move (.tmp 1), 3, _, _, _⟩ hHeld ?_
        (try simp only [Act.put, nz1, nz2, nz3])
        refine tk 12 ⟨some 39, .indexAddr 49 (.tmp 37) (.tmp 38), 0, _, _, _⟩ hHeld ?_
        (try simp only [Act.put, nz1, nz2, nz3])
        refine tk 13 ⟨some 40, .load 27 (.tmp 39), 27, _, _, _⟩ hHeld ?_
        (try simp only [Act.put, nz1, nz2, nz3])
        refine tk 15 ⟨some 42, .move (.tmp 1), 3, _, _, _⟩ hHeld ?_
        (try simp only [Act.put, nz1, nz2, nz3])
        refine wpAnyH_ready (rs := [14]) (by kernel_rfl) (by simp) ?_
        refine AllReadyH.cons (o := ⟨some 41, .call { callee := .value (.func 43), args := #[.tmp 36, .tmp 40], argTypes := #[26, 27] }, 3, _, _, _⟩) rfl (fun K hK => ?_) AllReadyH.nil
        (go_simp; (refine (HPp _).mono ?_); (rintro e wz ⟨rfl, hb⟩); (replace Rs := Rs.later hb); (replace hb0 := below_step hb0 hb); go_wp2_with fail)
        refine hK.out _ _ ?hSr4_16_14 (fun hHeld2 => ?_)
        case hSr4_16_14 => (obtain ⟨z0, z1, Qs⟩ := hHeld; exact ⟨cell_later hb z0, cell_later hb z1, Qs.later hb⟩)
        clear hK K hHeld
        have hHeld := hHeld2
        clear hHeld2
        rename World => wq
        (try simp only [Act.put, nz1, nz2, nz3])
        refine tk 16 ⟨some 43, .binOp .neq 3 (.tmp 41) (.tmp 42) 3, 4, _, _, _⟩ hHeld ?_
        (try simp only [Act.put, nz1, nz2, nz3])
        refine tk 17 ⟨some 44, .pick (.tmp 35) (.tmp 43) (.const (.bool false)), 4, _, _, _⟩ hHeld ?_
        (try simp only [Act.put, nz1, nz2, nz3])
        refine wpAnyH_done (by kernel_rfl) ?_ _
        (go_wp2_with fail; go_meet; exact ⟨rfl, T4.out.later hb0, Rs, below_step HB4.out hb0⟩)
      · have p2x : ¬ (pn : Int) < (N : Int) := by omega
        have p2y : decide ((pn : Int) < (N : Int)) = false := decide_eq_false p2x
        have p3x : (0 : Int) ≤ (pn : Int) := by omega
        refine wp_region_held_drew (S := (fun w' => Row w' w.heap.size #[.int .i64 s.n, .int .i64 s.d0.kind, .int .i64 s.d0.side, .int .i64 s.d0.step, .int .i64 s.d1.kind, .int .i64 s.d1.side, .int .i64 s.d1.step] 26)) (by kernel_rfl) ?hSr5_ (fun hHeld => ?_)
        case hSr5_ => (exact Rs.drew)
        (clear s0 s1 s2 s3 s4 s5 s6; (replace Rs := Rs.drew); (replace hb0 := hb0.drew); (generalize World.drew w2 = wq at *))
        refine tk 0 ⟨some 27, .move (.tmp 1), 3, _, _, _⟩ hHeld ?_
        (try simp only [Act.put, nz1, nz2, nz3])
        refine tk 1 ⟨some 28, .binOp .geq 3 (.tmp 27) (.const (.int .i64 0)) 3, 4, _, _, _⟩ hHeld ?_
        (try simp only [Act.put, nz1, nz2, nz3])
        refine tk 2 ⟨some 29, .move (.tmp 28), 4, _, _, _⟩ hHeld ?_
        (try simp only [Act.put, nz1, nz2, nz3])
        refine tk 3 ⟨some 30, .move (.tmp 1), 3, _, _, _⟩ hHeld ?_
        (try simp only [Act.put, nz1, nz2, nz3])
        refine tk 4 ⟨some 31, .move (.tmp 9), 49, _, _, _⟩ hHeld ?_
        (try simp only [Act.put, nz1, nz2, nz3])
        refine tk 5 ⟨some 32, .call { callee := .builtin .len, args := #[.tmp 31], argTypes := #[49] }, 3, _, _, _⟩ hHeld ?_
        (try simp only [Act.put, nz1, nz2, nz3])
        refine tk 6 ⟨some 33, .binOp .lss 3 (.tmp 30) (.tmp 32) 3, 4, _, _, _⟩ hHeld ?_
        (try simp only [Act.put, nz1, nz2, nz3])
        refine tk 7 ⟨some 34, .pick (.tmp 29) (.tmp 33) (.const (.bool false)), 4, _, _, _⟩ hHeld ?_
        (try simp only [Act.put, nz1, nz2, nz3])
        refine tk 8 ⟨some 35, .move (.tmp 34), 4, _, _, _⟩ hHeld ?_
        (try simp only [Act.put, nz1, nz2, nz3])
        refine ts 9 ⟨some 36, .load 26 (.tmp 4), 26, _, _, _⟩ hHeld ?_
        (try simp only [Act.put, nz1, nz2, nz3])
        refine ts 10 ⟨some 37, .move (.tmp 9), 49, _, _, _⟩ hHeld ?_
        (try simp only [Act.put, nz1, nz2, nz3])
        refine ts 11 ⟨some 38, .move (.tmp 1), 3, _, _, _⟩ hHeld ?_
        (try simp only [Act.put, nz1, nz2, nz3])
        refine ts 12 ⟨some 39, .indexAddr 49 (.tmp 37) (.tmp 38), 0, _, _, _⟩ hHeld ?_
        (try simp only [Act.put, nz1, nz2, nz3])
        refine ts 13 ⟨some 40, .load 27 (.tmp 39), 27, _, _, _⟩ hHeld ?_
        (try simp only [Act.put, nz1, nz2, nz3])
        refine ts 14 ⟨some 41, .call { callee := .value (.func 43), args := #[.tmp 36, .tmp 40], argTypes := #[26, 27] }, 3, _, _, _⟩ hHeld ?_
        (try simp only [Act.put, nz1, nz2, nz3])
        refine ts 15 ⟨some 42, .move (.tmp 1), 3, _, _, _⟩ hHeld ?_
        (try simp only [Act.put, nz1, nz2, nz3])
        refine ts 16 ⟨some 43, .binOp .neq 3 (.tmp 41) (.tmp 42) 3, 4, _, _, _⟩ hHeld ?_
        (try simp only [Act.put, nz1, nz2, nz3])
        refine tk 17 ⟨some 44, .pick (.tmp 35) (.tmp 43) (.const (.bool false)), 4, _, _, _⟩ hHeld ?_
        (try simp only [Act.put, nz1, nz2, nz3])
        refine wpAnyH_done (by kernel_rfl) ?_ _
        (go_wp2_with fail; go_meet; exact ⟨rfl, T4.out.later hb0, Rs, below_step HB4.out hb0⟩)
  case rest =>
    clear T4 HB4 Rs s0 s1 s2 s3 s4 s5 s6
    obtain ⟨rfl, T4, Rs, hbK⟩ := hcut
    rename World => wK
    have HBo := Lib.hid hbK
    have hb0 := Below.refl wK.heap.size wK
    clear hbK
    (try clear s0 s1 s2 s3 s4 s5 s6); obtain ⟨s0, s1, s2, s3, s4, s5, s6⟩ := row7 Rs
    have ls := Rs.lt
    go_wp2_with fail
    refine (HQ _).mono ?_
    rintro e w3 ⟨rfl, hb⟩
    replace Rs := Rs.later hb
    replace hb0 := below_step hb0 hb
    clear hb
    have ls := Rs.lt
    (try clear s0 s1 s2 s3 s4 s5 s6); obtain ⟨s0, s1, s2, s3, s4, s5, s6⟩ := row7 Rs
    go_wp2_with fail
    refine (HT _).mono ?_
    rintro e w4 ⟨rfl, hb⟩
    replace Rs := Rs.later hb
    replace hb0 := below_step hb0 hb
    clear hb
    have ls := Rs.lt
    (try clear s0 s1 s2 s3 s4 s5 s6); obtain ⟨s0, s1, s2, s3, s4, s5, s6⟩ := row7 Rs
    go_wp2_with fail
    have nys := Rs.lt
    replace Rs := Rs.alloc (.cells #[Value.int .i64 t.a0, Value.int .i64 t.a1] 27)
    have Ry := Row.new w4 #[Value.int .i64 t.a0, Value.int .i64 t.a1] 27
    have my := hb0.size
    replace hb0 := hb0.alloc hb0.size (.cells #[Value.int .i64 t.a0, Value.int .i64 t.a1] 27)
    (try clear s0 s1 s2 s3 s4 s5 s6); obtain ⟨s0, s1, s2, s3, s4, s5, s6⟩ := row7 Rs
    (try clear y0 y1); obtain ⟨y0, y1⟩ := row2 Ry
    generalize (World.alloc w4 (.cells #[Value.int .i64 t.a0, Value.int .i64 t.a1] 27)) = w5 at *
    go_wp2_with fail
    refine (HSd _).mono ?_
    rintro e w6 ⟨rfl, hb⟩
    replace Rs := Rs.later hb
    replace Ry := Ry.later hb
    replace hb0 := below_step hb0 hb
    clear hb
    have ls := Rs.lt
    have ly := Ry.lt
    (try clear s0 s1 s2 s3 s4 s5 s6); obtain ⟨s0, s1, s2, s3, s4, s5, s6⟩ := row7 Rs
    (try clear y0 y1); obtain ⟨y0, y1⟩ := row2 Ry
    go_wp2_with fail
    refine (HA _).mono ?_
    rintro e w7 ⟨rfl, hb⟩
    replace Rs := Rs.later hb
    replace Ry := Ry.later hb
    replace hb0 := below_step hb0 hb
    clear hb
    have ls := Rs.lt
    have ly := Ry.lt
    (try clear s0 s1 s2 s3 s4 s5 s6); obtain ⟨s0, s1, s2, s3, s4, s5, s6⟩ := row7 Rs
    (try clear y0 y1); obtain ⟨y0, y1⟩ := row2 Ry
    go_wp2
    go_ret
    exact ⟨rfl, below_step HBo.out hb0⟩
set_option maxRecDepth 100000 in
set_option maxHeartbeats 64000000 in
theorem gp_b (s : Sp) (place i j q : Int) (t : Px) (N : Nat) (L : List (Int × Int))
    (HN : ∀ w, Calls Try.prog 38 #[sv s] w fun e w' => ∃ p c, e = .returned (.slice p N c) ∧ TS w' (.slice p N c) L ∧ Below w.heap.size w w')
    (HC : ∀ w, Calls Try.prog 35 #[sv s] w fun e w' => e = .returned (.int .i64 (N : Int)) ∧ Below w.heap.size w w')
    (HSd : ∀ w, Calls Try.prog 18 #[sv s] w fun e w' => e = .returned (.bool true) ∧ Below w.heap.size w w')
    (HQ : ∀ w, Calls Try.prog 43 #[sv s, rv i j] w fun e w' => e = .returned (.int .i64 q) ∧ Below w.heap.size w w')
    (HT : ∀ w, Calls Try.prog 22 #[sv s] w fun e w' => e = .returned (pv t) ∧ Below w.heap.size w w')
    (hN : L.length = N) (hN0 : 0 < N) (hN6 : N ≤ 16641)
    (HPl : ∀ (k : Nat) x y, L[k]? = some (x, y) → ∀ w, Calls Try.prog 43 #[sv s, rv x y] w fun e w' => e = .returned (.int .i64 (k : Int)) ∧ Below w.heap.size w w')
    (g0 : ¬ i < 0) (g1 : t.a0 < i)
    (hq : q = -1) (w : World) :
    Calls Try.prog 13 #[sv s, .int .i64 place, .int .i64 i, .int .i64 j] w fun e w' => e = .returned (.bool true) ∧ Below w.heap.size w w' := by
  have jf := fdAt
  have HA := alive10_t
  subst hq
  have c0x : 0 ≤ i := by omega
  have c0y : decide (0 ≤ i) = true := decide_eq_true c0x
  have c1x : ¬ i ≤ t.a0 := by omega
  have c1y : decide (i ≤ t.a0) = false := decide_eq_false c1x
  have hn1 : (0 : Int) < (N : Int) := by omega
  have hn1' : decide ((0 : Int) < (N : Int)) = true := decide_eq_true hn1
  have HPx := Lib.hid HPl
  have HLn := Lib.hid hN
  clear HPl hN 
  unfold sv pv rv at *
  obtain ⟨Rs, hb0⟩ := one_row w #[.int .i64 s.n, .int .i64 s.d0.kind, .int .i64 s.d0.side, .int .i64 s.d0.step, .int .i64 s.d1.kind, .int .i64 s.d1.side, .int .i64 s.d1.step] 26
  (try clear s0 s1 s2 s3 s4 s5 s6); obtain ⟨s0, s1, s2, s3, s4, s5, s6⟩ := row7 Rs
  go_enter Try.func13, Try.ntmps13
  go_wp2_with fail
  refine (HN _).mono ?_
  rintro e wN ⟨pa, ca, rfl, T, hb⟩
  have HBo := Lib.hid (below_step hb0 hb)
  replace Rs := Rs.later hb
  clear hb hb0 s0 s1 s2 s3 s4 s5 s6 HN
  have hb0 := Below.refl wN.heap.size wN
  (try clear s0 s1 s2 s3 s4 s5 s6); obtain ⟨s0, s1, s2, s3, s4, s5, s6⟩ := row7 Rs
  have ls := Rs.lt
  go_wp2_with fail
  refine (HC _).mono ?_
  rintro e w1 ⟨rfl, hb⟩
  replace Rs := Rs.later hb
  replace hb0 := below_step hb0 hb
  clear hb
  have ls := Rs.lt
  (try clear s0 s1 s2 s3 s4 s5 s6); obtain ⟨s0, s1, s2, s3, s4, s5, s6⟩ := row7 Rs
  go_wp2_with fail
  refine (HSd _).mono ?_
  rintro e w2 ⟨rfl, hb⟩
  replace Rs := Rs.later hb
  replace hb0 := below_step hb0 hb
  clear hb
  have ls := Rs.lt
  (try clear s0 s1 s2 s3 s4 s5 s6); obtain ⟨s0, s1, s2, s3, s4, s5, s6⟩ := row7 Rs
  go_upto_region 4 with fail
  have HB4 := Lib.hid (below_step HBo.out hb0)
  have T4 := Lib.hid (T.later hb0)
  clear HBo T hb0
  go_cut [44] (fun s44 wx => s44 = .bool false ∧ TS wx (.slice pa N ca) L ∧ Row wx w.heap.size #[.int .i64 s.n, .int .i64 s.d0.kind, .int .i64 s.d0.side, .int .i64 s.d0.step, .int .i64 s.d1.kind, .int .i64 s.d1.side, .int .i64 s.d1.step] 26 ∧ Below w.heap.size w wx)
  case first =>
    have hb0 := Below.refl w2.heap.size w2
    by_cases p0 : place < 0
    · have p1 : ¬ 0 ≤ place := by omega
      have p1' : decide (0 ≤ place) = false := decide_eq_false p1
      refine wp_region_held_drew (S := (fun w' => Row w' w.heap.size #[.int .i64 s.n, .int .i64 s.d0.kind, .int .i64 s.d0.side, .int .i64 s.d0.step, .int .i64 s.d1.kind, .int .i64 s.d1.side, .int .i64 s.d1.step] 26)) (by kernel_rfl) ?hSr6_ (fun hHeld => ?_)
      case hSr6_ => (exact Rs.drew)
      (clear s0 s1 s2 s3 s4 s5 s6; (replace Rs := Rs.drew); (replace hb0 := hb0.drew); (generalize World.drew w2 = wq at *))
      refine tk 0 ⟨some 27, .move (.tmp 1), 3, _, _, _⟩ hHeld ?_
      (try simp only [Act.put, nz1, nz2, nz3])
      refine tk 1 ⟨some 28, .binOp .geq 3 (.tmp 27) (.const (.int .i64 0)) 3, 4, _, _, _⟩ hHeld ?_
      (try simp only [Act.put, nz1, nz2, nz3])
      refine tk 2 ⟨some 29, .move (.tmp 28), 4, _, _, _⟩ hHeld ?_
      (try simp only [Act.put, nz1, nz2, nz3])
      refine ts 3 ⟨some 30, .move (.tmp 1), 3, _, _, _⟩ hHeld ?_
      (try simp only [Act.put, nz1, nz2, nz3])
      refine ts 4 ⟨some 31, .move (.tmp 9), 49, _, _, _⟩ hHeld ?_
      (try simp only [Act.put, nz1, nz2, nz3])
      refine ts 5 ⟨some 32, .call { callee := .builtin .len, args := #[.tmp 31], argTypes := #[49] }, 3, _, _, _⟩ hHeld ?_
      (try simp only [Act.put, nz1, nz2, nz3])
      refine ts 6 ⟨some 33, .binOp .lss 3 (.tmp 30) (.tmp 32) 3, 4, _, _, _⟩ hHeld ?_
      (try simp only [Act.put, nz1, nz2, nz3])
      refine tk 7 ⟨some 34, .pick (.tmp 29) (.tmp 33) (.const (.bool false)), 4, _, _, _⟩ hHeld ?_
      (try simp only [Act.put, nz1, nz2, nz3])
      refine tk 8 ⟨some 35, .move (.tmp 34), 4, _, _, _⟩ hHeld ?_
      (try simp only [Act.put, nz1, nz2, nz3])
      refine ts 9 ⟨some 36, .load 26 (.tmp 4), 26, _, _, _⟩ hHeld ?_
      (try simp only [Act.put, nz1, nz2, nz3])
      refine ts 10 ⟨some 37, .move (.tmp 9), 49, _, _, _⟩ hHeld ?_
      (try simp only [Act.put, nz1, nz2, nz3])
      refine ts 11 ⟨some 38, .move (.tmp 1), 3, _, _, _⟩ hHeld ?_
      (try simp only [Act.put, nz1, nz2, nz3])
      refine ts 12 ⟨some 39, .indexAddr 49 (.tmp 37) (.tmp 38), 0, _, _, _⟩ hHeld ?_
      (try simp only [Act.put, nz1, nz2, nz3])
      refine ts 13 ⟨some 40, .load 27 (.tmp 39), 27, _, _, _⟩ hHeld ?_
      (try simp only [Act.put, nz1, nz2, nz3])
      refine ts 14 ⟨some 41, .call { callee := .value (.func 43), args := #[.tmp 36, .tmp 40], argTypes := #[26, 27] }, 3, _, _, _⟩ hHeld ?_
      (try simp only [Act.put, nz1, nz2, nz3])
      refine ts 15 ⟨some 42, .move (.tmp 1), 3, _, _, _⟩ hHeld ?_
      (try simp only [Act.put, nz1, nz2, nz3])
      refine ts 16 ⟨some 43, .binOp .neq 3 (.tmp 41) (.tmp 42) 3, 4, _, _, _⟩ hHeld ?_
      (try simp only [Act.put, nz1, nz2, nz3])
      refine tk 17 ⟨some 44, .pick (.tmp 35) (.tmp 43) (.const (.bool false)), 4, _, _, _⟩ hHeld ?_
      (try simp only [Act.put, nz1, nz2, nz3])
      refine wpAnyH_done (by kernel_rfl) ?_ _
      (go_wp2_with fail; go_meet; exact ⟨rfl, T4.out.later hb0, Rs, below_step HB4.out hb0⟩)
    · obtain ⟨pn, rfl⟩ : ∃ pn : Nat, place = (pn : Int) := ⟨place.toNat, by omega⟩
      by_cases p2 : pn < N
      · have p2x : (pn : Int) < (N : Int) := by omega
        obtain ⟨_, _, ez, _, hz⟩ := ts_read T4.out
        rw [HLn.out] at ez
        cases ez
        obtain ⟨zg, zo, rfl, zlt, zcell⟩ := hz (by rw [HLn.out]; omega)
        obtain ⟨⟨xi, yi⟩, hL⟩ : ∃ q', L[pn]? = some q' := ⟨_, List.getElem?_eq_getElem (by rw [HLn.out]; omega)⟩
        obtain ⟨z0, z1⟩ := zcell pn xi yi hL
        have HPp := HPx.out pn xi yi hL
        clear hz zcell hL
        refine wp_region_held_drew (S := (fun w' => w'.cell? ⟨zg, zo + pn * 2, none⟩ = some (Value.int .i64 xi) ∧ w'.cell? ⟨zg, zo + pn * 2 + 1, none⟩ = some (Value.int .i64 yi) ∧ Row w' w.heap.size #[.int .i64 s.n, .int .i64 s.d0.kind, .int .i64 s.d0.side, .int .i64 s.d0.step, .int .i64 s.d1.kind, .int .i64 s.d1.side, .int .i64 s.d1.step] 26)) (by kernel_rfl) ?hSr7_ (fun hHeld => ?_)
        case hSr7_ => (exact ⟨z0, z1, Rs.drew⟩)
        (clear s0 s1 s2 s3 s4 s5 s6; (replace Rs := Rs.drew); (replace hb0 := hb0.drew); (generalize World.drew w2 = wq at *))
        refine tk 0 ⟨some 27, .move (.tmp 1), 3, _, _, _⟩ hHeld ?_
        (try simp only [Act.put, nz1, nz2, nz3])
        refine tk 1 ⟨some 28, .binOp .geq 3 (.tmp 27) (.const (.int .i64 0)) 3, 4, _, _, _⟩ hHeld ?_
        (try simp only [Act.put, nz1, nz2, nz3])
        refine tk 2 ⟨some 29, .move (.tmp 28), 4, _, _, _⟩ hHeld ?_
        (try simp only [Act.put, nz1, nz2, nz3])
        refine tk 3 ⟨some 30, .move (.tmp 1), 3, _, _, _⟩ hHeld ?_
        (try simp only [Act.put, nz1, nz2, nz3])
        refine tk 4 ⟨some 31, .move (.tmp 9), 49, _, _, _⟩ hHeld ?_
        (try simp only [Act.put, nz1, nz2, nz3])
        refine tk 5 ⟨some 32, .call { callee := .builtin .len, args := #[.tmp 31], argTypes := #[49] }, 3, _, _, _⟩ hHeld ?_
        (try simp only [Act.put, nz1, nz2, nz3])
        refine tk 6 ⟨some 33, .binOp .lss 3 (.tmp 30) (.tmp 32) 3, 4, _, _, _⟩ hHeld ?_
        (try simp only [Act.put, nz1, nz2, nz3])
        refine tk 7 ⟨some 34, .pick (.tmp 29) (.tmp 33) (.const (.bool false)), 4, _, _, _⟩ hHeld ?_
        (try simp only [Act.put, nz1, nz2, nz3])
        refine tk 8 ⟨some 35, .move (.tmp 34), 4, _, _, _⟩ hHeld ?_
        (try simp only [Act.put, nz1, nz2, nz3])
        refine tk 9 ⟨some 36, .load 26 (.tmp 4), 26, _, _, _⟩ hHeld ?_ (v := ?vr7_10_9) (hy := ?yr7_10_9)
        case yr7_10_9 => (intro wy hSw; obtain ⟨z0, z1, Qs⟩ := hSw; (with_reducible refine pexec_load 26 (.tmp 4) ?_ w.heap.size ?_ 26 #[.int .i64 s.n, .int .i64 s.d0.kind, .int .i64 s.d0.side, .int .i64 s.d0.step, .int .i64 s.d1.kind, .int .i64 s.d1.side, .int .i64 s.d1.step] _ Qs Try.underlying26 ?_ ?_) <;> first | rfl | exact infoSp)
        (try simp only [Act.put, nz1, nz2, nz3])
        refine tk 10 ⟨some 37, .move (.tmp 9), 49, _, _, _⟩ hHeld ?_
        (try simp only [Act.put, nz1, nz2, nz3])
        refine tk 11 ⟨some 38, .move (.tmp 1), 3, _, _, _⟩ hHeld ?_
        (try simp only [Act.put, nz1, nz2, nz3])
        refine tk 12 ⟨some 39, .indexAddr 49 (.tmp 37) (.tmp 38), 0, _, _, _⟩ hHeld ?_
        (try simp only [Act.put, nz1, nz2, nz3])
        refine tk 13 ⟨some 40, .load 27 (.tmp 39), 27, _, _, _⟩ hHeld ?_
        (try simp only [Act.put, nz1, nz2, nz3])
        refine tk 15 ⟨some 42, .move (.tmp 1), 3, _, _, _⟩ hHeld ?_
        (try simp only [Act.put, nz1, nz2, nz3])
        refine wpAnyH_ready (rs := [14]) (by kernel_rfl) (by simp) ?_
        refine AllReadyH.cons (o := ⟨some 41, .call { callee := .value (.func 43), args := #[.tmp 36, .tmp 40], argTypes := #[26, 27] }, 3, _, _, _⟩) rfl (fun K hK => ?_) AllReadyH.nil
        (go_simp; (refine (HPp _).mono ?_); (rintro e wz ⟨rfl, hb⟩); (replace Rs := Rs.later hb); (replace hb0 := below_step hb0 hb); go_wp2_with fail)
        refine hK.out _ _ ?hSr7_16_14 (fun hHeld2 => ?_)
        case hSr7_16_14 => (obtain ⟨z0, z1, Qs⟩ := hHeld; exact ⟨cell_later hb z0, cell_later hb z1, Qs.later hb⟩)
        clear hK K hHeld
        have hHeld := hHeld2
        clear hHeld2
        rename World => wq
        (try simp only [Act.put, nz1, nz2, nz3])
        refine tk 16 ⟨some 43, .binOp .neq 3 (.tmp 41) (.tmp 42) 3, 4, _, _, _⟩ hHeld ?_
        (try simp only [Act.put, nz1, nz2, nz3])
        refine tk 17 ⟨some 44, .pick (.tmp 35) (.tmp 43) (.const (.bool false)), 4, _, _, _⟩ hHeld ?_
        (try simp only [Act.put, nz1, nz2, nz3])
        refine wpAnyH_done (by kernel_rfl) ?_ _
        (go_wp2_with fail; go_meet; exact ⟨rfl, T4.out.later hb0, Rs, below_step HB4.out hb0⟩)
      · have p2x : ¬ (pn : Int) < (N : Int) := by omega
        have p2y : decide ((pn : Int) < (N : Int)) = false := decide_eq_false p2x
        have p3x : (0 : Int) ≤ (pn : Int) := by omega
        refine wp_region_held_drew (S := (fun w' => Row w' w.heap.size #[.int .i64 s.n, .int .i64 s.d0.kind, .int .i64 s.d0.side, .int .i64 s.d0.step, .int .i64 s.d1.kind, .int .i64 s.d1.side, .int .i64 s.d1.step] 26)) (by kernel_rfl) ?hSr8_ (fun hHeld => ?_)
        case hSr8_ => (exact Rs.drew)
        (clear s0 s1 s2 s3 s4 s5 s6; (replace Rs := Rs.drew); (replace hb0 := hb0.drew); (generalize World.drew w2 = wq at *))
        refine tk 0 ⟨some 27, .move (.tmp 1), 3, _, _, _⟩ hHeld ?_
        (try simp only [Act.put, nz1, nz2, nz3])
        refine tk 1 ⟨some 28, .binOp .geq 3 (.tmp 27) (.const (.int .i64 0)) 3, 4, _, _, _⟩ hHeld ?_
        (try simp only [Act.put, nz1, nz2, nz3])
        refine tk 2 ⟨some 29, .move (.tmp 28), 4, _, _, _⟩ hHeld ?_
        (try simp only [Act.put, nz1, nz2, nz3])
        refine tk 3 ⟨some 30, .move (.tmp 1), 3, _, _, _⟩ hHeld ?_
        (try simp only [Act.put, nz1, nz2, nz3])
        refine tk 4 ⟨some 31, .move (.tmp 9), 49, _, _, _⟩ hHeld ?_
        (try simp only [Act.put, nz1, nz2, nz3])
        refine tk 5 ⟨some 32, .call { callee := .builtin .len, args := #[.tmp 31], argTypes := #[49] }, 3, _, _, _⟩ hHeld ?_
        (try simp only [Act.put, nz1, nz2, nz3])
        refine tk 6 ⟨some 33, .binOp .lss 3 (.tmp 30) (.tmp 32) 3, 4, _, _, _⟩ hHeld ?_
        (try simp only [Act.put, nz1, nz2, nz3])
        refine tk 7 ⟨some 34, .pick (.tmp 29) (.tmp 33) (.const (.bool false)), 4, _, _, _⟩ hHeld ?_
        (try simp only [Act.put, nz1, nz2, nz3])
        refine tk 8 ⟨some 35, .move (.tmp 34), 4, _, _, _⟩ hHeld ?_
        (try simp only [Act.put, nz1, nz2, nz3])
        refine ts 9 ⟨some 36, .load 26 (.tmp 4), 26, _, _, _⟩ hHeld ?_
        (try simp only [Act.put, nz1, nz2, nz3])
        refine ts 10 ⟨some 37, .move (.tmp 9), 49, _, _, _⟩ hHeld ?_
        (try simp only [Act.put, nz1, nz2, nz3])
        refine ts 11 ⟨some 38, .move (.tmp 1), 3, _, _, _⟩ hHeld ?_
        (try simp only [Act.put, nz1, nz2, nz3])
        refine ts 12 ⟨some 39, .indexAddr 49 (.tmp 37) (.tmp 38), 0, _, _, _⟩ hHeld ?_
        (try simp only [Act.put, nz1, nz2, nz3])
        refine ts 13 ⟨some 40, .load 27 (.tmp 39), 27, _, _, _⟩ hHeld ?_
        (try simp only [Act.put, nz1, nz2, nz3])
        refine ts 14 ⟨some 41, .call { callee := .value (.func 43), args := #[.tmp 36, .tmp 40], argTypes := #[26, 27] }, 3, _, _, _⟩ hHeld ?_
        (try simp only [Act.put, nz1, nz2, nz3])
        refine ts 15 ⟨some 42, .move (.tmp 1), 3, _, _, _⟩ hHeld ?_
        (try simp only [Act.put, nz1, nz2, nz3])
        refine ts 16 ⟨some 43, .binOp .neq 3 (.tmp 41) (.tmp 42) 3, 4, _, _, _⟩ hHeld ?_
        (try simp only [Act.put, nz1, nz2, nz3])
        refine tk 17 ⟨some 44, .pick (.tmp 35) (.tmp 43) (.const (.bool false)), 4, _, _, _⟩ hHeld ?_
        (try simp only [Act.put, nz1, nz2, nz3])
        refine wpAnyH_done (by kernel_rfl) ?_ _
        (go_wp2_with fail; go_meet; exact ⟨rfl, T4.out.later hb0, Rs, below_step HB4.out hb0⟩)
  case rest =>
    clear T4 HB4 Rs s0 s1 s2 s3 s4 s5 s6
    obtain ⟨rfl, T4, Rs, hbK⟩ := hcut
    rename World => wK
    have HBo := Lib.hid hbK
    have hb0 := Below.refl wK.heap.size wK
    clear hbK
    (try clear s0 s1 s2 s3 s4 s5 s6); obtain ⟨s0, s1, s2, s3, s4, s5, s6⟩ := row7 Rs
    have ls := Rs.lt
    go_wp2_with fail
    refine (HQ _).mono ?_
    rintro e w3 ⟨rfl, hb⟩
    replace Rs := Rs.later hb
    replace hb0 := below_step hb0 hb
    clear hb
    have ls := Rs.lt
    (try clear s0 s1 s2 s3 s4 s5 s6); obtain ⟨s0, s1, s2, s3, s4, s5, s6⟩ := row7 Rs
    go_wp2_with fail
    refine (HT _).mono ?_
    rintro e w4 ⟨rfl, hb⟩
    replace Rs := Rs.later hb
    replace hb0 := below_step hb0 hb
    clear hb
    have ls := Rs.lt
    (try clear s0 s1 s2 s3 s4 s5 s6); obtain ⟨s0, s1, s2, s3, s4, s5, s6⟩ := row7 Rs
    go_wp2_with fail
    have nys := Rs.lt
    replace Rs := Rs.alloc (.cells #[Value.int .i64 t.a0, Value.int .i64 t.a1] 27)
    have Ry := Row.new w4 #[Value.int .i64 t.a0, Value.int .i64 t.a1] 27
    have my := hb0.size
    replace hb0 := hb0.alloc hb0.size (.cells #[Value.int .i64 t.a0, Value.int .i64 t.a1] 27)
    (try clear s0 s1 s2 s3 s4 s5 s6); obtain ⟨s0, s1, s2, s3, s4, s5, s6⟩ := row7 Rs
    (try clear y0 y1); obtain ⟨y0, y1⟩ := row2 Ry
    generalize (World.alloc w4 (.cells #[Value.int .i64 t.a0, Value.int .i64 t.a1] 27)) = w5 at *
    go_wp2_with fail
    refine (HSd _).mono ?_
    rintro e w6 ⟨rfl, hb⟩
    replace Rs := Rs.later hb
    replace Ry := Ry.later hb
    replace hb0 := below_step hb0 hb
    clear hb
    have ls := Rs.lt
    have ly := Ry.lt
    (try clear s0 s1 s2 s3 s4 s5 s6); obtain ⟨s0, s1, s2, s3, s4, s5, s6⟩ := row7 Rs
    (try clear y0 y1); obtain ⟨y0, y1⟩ := row2 Ry
    go_wp2_with fail
    refine (HA _).mono ?_
    rintro e w7 ⟨rfl, hb⟩
    replace Rs := Rs.later hb
    replace Ry := Ry.later hb
    replace hb0 := below_step hb0 hb
    clear hb
    have ls := Rs.lt
    have ly := Ry.lt
    (try clear s0 s1 s2 s3 s4 s5 s6); obtain ⟨s0, s1, s2, s3, s4, s5, s6⟩ := row7 Rs
    (try clear y0 y1); obtain ⟨y0, y1⟩ := row2 Ry
    go_wp2
    go_ret
    exact ⟨rfl, below_step HBo.out hb0⟩
set_option maxRecDepth 100000 in
set_option maxHeartbeats 64000000 in
theorem gp_c (s : Sp) (place i j q : Int) (t : Px) (N : Nat) (L : List (Int × Int))
    (HN : ∀ w, Calls Try.prog 38 #[sv s] w fun e w' => ∃ p c, e = .returned (.slice p N c) ∧ TS w' (.slice p N c) L ∧ Below w.heap.size w w')
    (HC : ∀ w, Calls Try.prog 35 #[sv s] w fun e w' => e = .returned (.int .i64 (N : Int)) ∧ Below w.heap.size w w')
    (HSd : ∀ w, Calls Try.prog 18 #[sv s] w fun e w' => e = .returned (.bool true) ∧ Below w.heap.size w w')
    (HQ : ∀ w, Calls Try.prog 43 #[sv s, rv i j] w fun e w' => e = .returned (.int .i64 q) ∧ Below w.heap.size w w')
    (HT : ∀ w, Calls Try.prog 22 #[sv s] w fun e w' => e = .returned (pv t) ∧ Below w.heap.size w w')
    (hN : L.length = N) (hN0 : 0 < N) (hN6 : N ≤ 16641)
    (HPl : ∀ (k : Nat) x y, L[k]? = some (x, y) → ∀ w, Calls Try.prog 43 #[sv s, rv x y] w fun e w' => e = .returned (.int .i64 (k : Int)) ∧ Below w.heap.size w w')
    (g0 : ¬ i < 0) (g1 : ¬ t.a0 < i) (g2 : j < 0)
    (hq : q = -1) (w : World) :
    Calls Try.prog 13 #[sv s, .int .i64 place, .int .i64 i, .int .i64 j] w fun e w' => e = .returned (.bool true) ∧ Below w.heap.size w w' := by
  have jf := fdAt
  have HA := alive10_t
  subst hq
  have c0x : 0 ≤ i := by omega
  have c0y : decide (0 ≤ i) = true := decide_eq_true c0x
  have c1x : i ≤ t.a0 := by omega
  have c1y : decide (i ≤ t.a0) = true := decide_eq_true c1x
  have c2x : ¬ 0 ≤ j := by omega
  have c2y : decide (0 ≤ j) = false := decide_eq_false c2x
  have hn1 : (0 : Int) < (N : Int) := by omega
  have hn1' : decide ((0 : Int) < (N : Int)) = true := decide_eq_true hn1
  have HPx := Lib.hid HPl
  have HLn := Lib.hid hN
  clear HPl hN 
  unfold sv pv rv at *
  obtain ⟨Rs, hb0⟩ := one_row w #[.int .i64 s.n, .int .i64 s.d0.kind, .int .i64 s.d0.side, .int .i64 s.d0.step, .int .i64 s.d1.kind, .int .i64 s.d1.side, .int .i64 s.d1.step] 26
  (try clear s0 s1 s2 s3 s4 s5 s6); obtain ⟨s0, s1, s2, s3, s4, s5, s6⟩ := row7 Rs
  go_enter Try.func13, Try.ntmps13
  go_wp2_with fail
  refine (HN _).mono ?_
  rintro e wN ⟨pa, ca, rfl, T, hb⟩
  have HBo := Lib.hid (below_step hb0 hb)
  replace Rs := Rs.later hb
  clear hb hb0 s0 s1 s2 s3 s4 s5 s6 HN
  have hb0 := Below.refl wN.heap.size wN
  (try clear s0 s1 s2 s3 s4 s5 s6); obtain ⟨s0, s1, s2, s3, s4, s5, s6⟩ := row7 Rs
  have ls := Rs.lt
  go_wp2_with fail
  refine (HC _).mono ?_
  rintro e w1 ⟨rfl, hb⟩
  replace Rs := Rs.later hb
  replace hb0 := below_step hb0 hb
  clear hb
  have ls := Rs.lt
  (try clear s0 s1 s2 s3 s4 s5 s6); obtain ⟨s0, s1, s2, s3, s4, s5, s6⟩ := row7 Rs
  go_wp2_with fail
  refine (HSd _).mono ?_
  rintro e w2 ⟨rfl, hb⟩
  replace Rs := Rs.later hb
  replace hb0 := below_step hb0 hb
  clear hb
  have ls := Rs.lt
  (try clear s0 s1 s2 s3 s4 s5 s6); obtain ⟨s0, s1, s2, s3, s4, s5, s6⟩ := row7 Rs
  go_upto_region 4 with fail
  have HB4 := Lib.hid (below_step HBo.out hb0)
  have T4 := Lib.hid (T.later hb0)
  clear HBo T hb0
  go_cut [44] (fun s44 wx => s44 = .bool false ∧ TS wx (.slice pa N ca) L ∧ Row wx w.heap.size #[.int .i64 s.n, .int .i64 s.d0.kind, .int .i64 s.d0.side, .int .i64 s.d0.step, .int .i64 s.d1.kind, .int .i64 s.d1.side, .int .i64 s.d1.step] 26 ∧ Below w.heap.size w wx)
  case first =>
    have hb0 := Below.refl w2.heap.size w2
    by_cases p0 : place < 0
    · have p1 : ¬ 0 ≤ place := by omega
      have p1' : decide (0 ≤ place) = false := decide_eq_false p1
      refine wp_region_held_drew (S := (fun w' => Row w' w.heap.size #[.int .i64 s.n, .int .i64 s.d0.kind, .int .i64 s.d0.side, .int .i64 s.d0.step, .int .i64 s.d1.kind, .int .i64 s.d1.side, .int .i64 s.d1.step] 26)) (by kernel_rfl) ?hSr9_ (fun hHeld => ?_)
      case hSr9_ => (exact Rs.drew)
      (clear s0 s1 s2 s3 s4 s5 s6; (replace Rs := Rs.drew); (replace hb0 := hb0.drew); (generalize World.drew w2 = wq at *))
      refine tk 0 ⟨some 27, .move (.tmp 1), 3, _, _, _⟩ hHeld ?_
      (try simp only [Act.put, nz1, nz2, nz3])
      refine tk 1 ⟨some 28, .binOp .geq 3 (.tmp 27) (.const (.int .i64 0)) 3, 4, _, _, _⟩ hHeld ?_
      (try simp only [Act.put, nz1, nz2, nz3])
      refine tk 2 ⟨some 29, .move (.tmp 28), 4, _, _, _⟩ hHeld ?_
      (try simp only [Act.put, nz1, nz2, nz3])
      refine ts 3 ⟨some 30, .move (.tmp 1), 3, _, _, _⟩ hHeld ?_
      (try simp only [Act.put, nz1, nz2, nz3])
      refine ts 4 ⟨some 31, .move (.tmp 9), 49, _, _, _⟩ hHeld ?_
      (try simp only [Act.put, nz1, nz2, nz3])
      refine ts 5 ⟨some 32, .call { callee := .builtin .len, args := #[.tmp 31], argTypes := #[49] }, 3, _, _, _⟩ hHeld ?_
      (try simp only [Act.put, nz1, nz2, nz3])
      refine ts 6 ⟨some 33, .binOp .lss 3 (.tmp 30) (.tmp 32) 3, 4, _, _, _⟩ hHeld ?_
      (try simp only [Act.put, nz1, nz2, nz3])
      refine tk 7 ⟨some 34, .pick (.tmp 29) (.tmp 33) (.const (.bool false)), 4, _, _, _⟩ hHeld ?_
      (try simp only [Act.put, nz1, nz2, nz3])
      refine tk 8 ⟨some 35, .move (.tmp 34), 4, _, _, _⟩ hHeld ?_
      (try simp only [Act.put, nz1, nz2, nz3])
      refine ts 9 ⟨some 36, .load 26 (.tmp 4), 26, _, _, _⟩ hHeld ?_
      (try simp only [Act.put, nz1, nz2, nz3])
      refine ts 10 ⟨some 37, .move (.tmp 9), 49, _, _, _⟩ hHeld ?_
      (try simp only [Act.put, nz1, nz2, nz3])
      refine ts 11 ⟨some 38, .move (.tmp 1), 3, _, _, _⟩ hHeld ?_
      (try simp only [Act.put, nz1, nz2, nz3])
      refine ts 12 ⟨some 39, .indexAddr 49 (.tmp 37) (.tmp 38), 0, _, _, _⟩ hHeld ?_
      (try simp only [Act.put, nz1, nz2, nz3])
      refine ts 13 ⟨some 40, .load 27 (.tmp 39), 27, _, _, _⟩ hHeld ?_
      (try simp only [Act.put, nz1, nz2, nz3])
      refine ts 14 ⟨some 41, .call { callee := .value (.func 43), args := #[.tmp 36, .tmp 40], argTypes := #[26, 27] }, 3, _, _, _⟩ hHeld ?_
      (try simp only [Act.put, nz1, nz2, nz3])
      refine ts 15 ⟨some 42, .move (.tmp 1), 3, _, _, _⟩ hHeld ?_
      (try simp only [Act.put, nz1, nz2, nz3])
      refine ts 16 ⟨some 43, .binOp .neq 3 (.tmp 41) (.tmp 42) 3, 4, _, _, _⟩ hHeld ?_
      (try simp only [Act.put, nz1, nz2, nz3])
      refine tk 17 ⟨some 44, .pick (.tmp 35) (.tmp 43) (.const (.bool false)), 4, _, _, _⟩ hHeld ?_
      (try simp only [Act.put, nz1, nz2, nz3])
      refine wpAnyH_done (by kernel_rfl) ?_ _
      (go_wp2_with fail; go_meet; exact ⟨rfl, T4.out.later hb0, Rs, below_step HB4.out hb0⟩)
    · obtain ⟨pn, rfl⟩ : ∃ pn : Nat, place = (pn : Int) := ⟨place.toNat, by omega⟩
      by_cases p2 : pn < N
      · have p2x : (pn : Int) < (N : Int) := by omega
        obtain ⟨_, _, ez, _, hz⟩ := ts_read T4.out
        rw [HLn.out] at ez
        cases ez
        obtain ⟨zg, zo, rfl, zlt, zcell⟩ := hz (by rw [HLn.out]; omega)
        obtain ⟨⟨xi, yi⟩, hL⟩ : ∃ q', L[pn]? = some q' := ⟨_, List.getElem?_eq_getElem (by rw [HLn.out]; omega)⟩
        obtain ⟨z0, z1⟩ := zcell pn xi yi hL
        have HPp := HPx.out pn xi yi hL
        clear hz zcell hL
        refine wp_region_held_drew (S := (fun w' => w'.cell? ⟨zg, zo + pn * 2, none⟩ = some (Value.int .i64 xi) ∧ w'.cell? ⟨zg, zo + pn * 2 + 1, none⟩ = some (Value.int .i64 yi) ∧ Row w' w.heap.size #[.int .i64 s.n, .int .i64 s.d0.kind, .int .i64 s.d0.side, .int .i64 s.d0.step, .int .i64 s.d1.kind, .int .i64 s.d1.side, .int .i64 s.d1.step] 26)) (by kernel_rfl) ?hSr10_ (fun hHeld => ?_)
        case hSr10_ => (exact ⟨z0, z1, Rs.drew⟩)
        (clear s0 s1 s2 s3 s4 s5 s6; (replace Rs := Rs.drew); (replace hb0 := hb0.drew); (generalize World.drew w2 = wq at *))
        refine tk 0 ⟨some 27, .move (.tmp 1), 3, _, _, _⟩ hHeld ?_
        (try simp only [Act.put, nz1, nz2, nz3])
        refine tk 1 ⟨some 28, .binOp .geq 3 (.tmp 27) (.const (.int .i64 0)) 3, 4, _, _, _⟩ hHeld ?_
        (try simp only [Act.put, nz1, nz2, nz3])
        refine tk 2 ⟨some 29, .move (.tmp 28), 4, _, _, _⟩ hHeld ?_
        (try simp only [Act.put, nz1, nz2, nz3])
        refine tk 3 ⟨some 30, .move (.tmp 1), 3, _, _, _⟩ hHeld ?_
        (try simp only [Act.put, nz1, nz2, nz3])
        refine tk 4 ⟨some 31, .move (.tmp 9), 49, _, _, _⟩ hHeld ?_
        (try simp only [Act.put, nz1, nz2, nz3])
        refine tk 5 ⟨some 32, .call { callee := .builtin .len, args := #[.tmp 31], argTypes := #[49] }, 3, _, _, _⟩ hHeld ?_
        (try simp only [Act.put, nz1, nz2, nz3])
        refine tk 6 ⟨some 33, .binOp .lss 3 (.tmp 30) (.tmp 32) 3, 4, _, _, _⟩ hHeld ?_
        (try simp only [Act.put, nz1, nz2, nz3])
        refine tk 7 ⟨some 34, .pick (.tmp 29) (.tmp 33) (.const (.bool false)), 4, _, _, _⟩ hHeld ?_
        (try simp only [Act.put, nz1, nz2, nz3])
        refine tk 8 ⟨some 35, .move (.tmp 34), 4, _, _, _⟩ hHeld ?_
        (try simp only [Act.put, nz1, nz2, nz3])
        refine tk 9 ⟨some 36, .load 26 (.tmp 4), 26, _, _, _⟩ hHeld ?_ (v := ?vr10_10_9) (hy := ?yr10_10_9)
        case yr10_10_9 => (intro wy hSw; obtain ⟨z0, z1, Qs⟩ := hSw; (with_reducible refine pexec_load 26 (.tmp 4) ?_ w.heap.size ?_ 26 #[.int .i64 s.n, .int .i64 s.d0.kind, .int .i64 s.d0.side, .int .i64 s.d0.step, .int .i64 s.d1.kind, .int .i64 s.d1.side, .int .i64 s.d1.step] _ Qs Try.underlying26 ?_ ?_) <;> first | rfl | exact infoSp)
        (try simp only [Act.put, nz1, nz2, nz3])
        refine tk 10 ⟨some 37, .move (.tmp 9), 49, _, _, _⟩ hHeld ?_
        (try simp only [Act.put, nz1, nz2, nz3])
        refine tk 11 ⟨some 38, .move (.tmp 1), 3, _, _, _⟩ hHeld ?_
        (try simp only [Act.put, nz1, nz2, nz3])
        refine tk 12 ⟨some 39, .indexAddr 49 (.tmp 37) (.tmp 38), 0, _, _, _⟩ hHeld ?_
        (try simp only [Act.put, nz1, nz2, nz3])
        refine tk 13 ⟨some 40, .load 27 (.tmp 39), 27, _, _, _⟩ hHeld ?_
        (try simp only [Act.put, nz1, nz2, nz3])
        refine tk 15 ⟨some 42, .move (.tmp 1), 3, _, _, _⟩ hHeld ?_
        (try simp only [Act.put, nz1, nz2, nz3])
        refine wpAnyH_ready (rs := [14]) (by kernel_rfl) (by simp) ?_
        refine AllReadyH.cons (o := ⟨some 41, .call { callee := .value (.func 43), args := #[.tmp 36, .tmp 40], argTypes := #[26, 27] }, 3, _, _, _⟩) rfl (fun K hK => ?_) AllReadyH.nil
        (go_simp; (refine (HPp _).mono ?_); (rintro e wz ⟨rfl, hb⟩); (replace Rs := Rs.later hb); (replace hb0 := below_step hb0 hb); go_wp2_with fail)
        refine hK.out _ _ ?hSr10_16_14 (fun hHeld2 => ?_)
        case hSr10_16_14 => (obtain ⟨z0, z1, Qs⟩ := hHeld; exact ⟨cell_later hb z0, cell_later hb z1, Qs.later hb⟩)
        clear hK K hHeld
        have hHeld := hHeld2
        clear hHeld2
        rename World => wq
        (try simp only [Act.put, nz1, nz2, nz3])
        refine tk 16 ⟨some 43, .binOp .neq 3 (.tmp 41) (.tmp 42) 3, 4, _, _, _⟩ hHeld ?_
        (try simp only [Act.put, nz1, nz2, nz3])
        refine tk 17 ⟨some 44, .pick (.tmp 35) (.tmp 43) (.const (.bool false)), 4, _, _, _⟩ hHeld ?_
        (try simp only [Act.put, nz1, nz2, nz3])
        refine wpAnyH_done (by kernel_rfl) ?_ _
        (go_wp2_with fail; go_meet; exact ⟨rfl, T4.out.later hb0, Rs, below_step HB4.out hb0⟩)
      · have p2x : ¬ (pn : Int) < (N : Int) := by omega
        have p2y : decide ((pn : Int) < (N : Int)) = false := decide_eq_false p2x
        have p3x : (0 : Int) ≤ (pn : Int) := by omega
        refine wp_region_held_drew (S := (fun w' => Row w' w.heap.size #[.int .i64 s.n, .int .i64 s.d0.kind, .int .i64 s.d0.side, .int .i64 s.d0.step, .int .i64 s.d1.kind, .int .i64 s.d1.side, .int .i64 s.d1.step] 26)) (by kernel_rfl) ?hSr11_ (fun hHeld => ?_)
        case hSr11_ => (exact Rs.drew)
        (clear s0 s1 s2 s3 s4 s5 s6; (replace Rs := Rs.drew); (replace hb0 := hb0.drew); (generalize World.drew w2 = wq at *))
        refine tk 0 ⟨some 27, .move (.tmp 1), 3, _, _, _⟩ hHeld ?_
        (try simp only [Act.put, nz1, nz2, nz3])
        refine tk 1 ⟨some 28, .binOp .geq 3 (.tmp 27) (.const (.int .i64 0)) 3, 4, _, _, _⟩ hHeld ?_
        (try simp only [Act.put, nz1, nz2, nz3])
        refine tk 2 ⟨some 29, .move (.tmp 28), 4, _, _, _⟩ hHeld ?_
        (try simp only [Act.put, nz1, nz2, nz3])
        refine tk 3 ⟨some 30, .move (.tmp 1), 3, _, _, _⟩ hHeld ?_
        (try simp only [Act.put, nz1, nz2, nz3])
        refine tk 4 ⟨some 31, .move (.tmp 9), 49, _, _, _⟩ hHeld ?_
        (try simp only [Act.put, nz1, nz2, nz3])
        refine tk 5 ⟨some 32, .call { callee := .builtin .len, args := #[.tmp 31], argTypes := #[49] }, 3, _, _, _⟩ hHeld ?_
        (try simp only [Act.put, nz1, nz2, nz3])
        refine tk 6 ⟨some 33, .binOp .lss 3 (.tmp 30) (.tmp 32) 3, 4, _, _, _⟩ hHeld ?_
        (try simp only [Act.put, nz1, nz2, nz3])
        refine tk 7 ⟨some 34, .pick (.tmp 29) (.tmp 33) (.const (.bool false)), 4, _, _, _⟩ hHeld ?_
        (try simp only [Act.put, nz1, nz2, nz3])
        refine tk 8 ⟨some 35, .move (.tmp 34), 4, _, _, _⟩ hHeld ?_
        (try simp only [Act.put, nz1, nz2, nz3])
        refine ts 9 ⟨some 36, .load 26 (.tmp 4), 26, _, _, _⟩ hHeld ?_
        (try simp only [Act.put, nz1, nz2, nz3])
        refine ts 10 ⟨some 37, .move (.tmp 9), 49, _, _, _⟩ hHeld ?_
        (try simp only [Act.put, nz1, nz2, nz3])
        refine ts 11 ⟨some 38, .move (.tmp 1), 3, _, _, _⟩ hHeld ?_
        (try simp only [Act.put, nz1, nz2, nz3])
        refine ts 12 ⟨some 39, .indexAddr 49 (.tmp 37) (.tmp 38), 0, _, _, _⟩ hHeld ?_
        (try simp only [Act.put, nz1, nz2, nz3])
        refine ts 13 ⟨some 40, .load 27 (.tmp 39), 27, _, _, _⟩ hHeld ?_
        (try simp only [Act.put, nz1, nz2, nz3])
        refine ts 14 ⟨some 41, .call { callee := .value (.func 43), args := #[.tmp 36, .tmp 40], argTypes := #[26, 27] }, 3, _, _, _⟩ hHeld ?_
        (try simp only [Act.put, nz1, nz2, nz3])
        refine ts 15 ⟨some 42, .move (.tmp 1), 3, _, _, _⟩ hHeld ?_
        (try simp only [Act.put, nz1, nz2, nz3])
        refine ts 16 ⟨some 43, .binOp .neq 3 (.tmp 41) (.tmp 42) 3, 4, _, _, _⟩ hHeld ?_
        (try simp only [Act.put, nz1, nz2, nz3])
        refine tk 17 ⟨some 44, .pick (.tmp 35) (.tmp 43) (.const (.bool false)), 4, _, _, _⟩ hHeld ?_
        (try simp only [Act.put, nz1, nz2, nz3])
        refine wpAnyH_done (by kernel_rfl) ?_ _
        (go_wp2_with fail; go_meet; exact ⟨rfl, T4.out.later hb0, Rs, below_step HB4.out hb0⟩)
  case rest =>
    clear T4 HB4 Rs s0 s1 s2 s3 s4 s5 s6
    obtain ⟨rfl, T4, Rs, hbK⟩ := hcut
    rename World => wK
    have HBo := Lib.hid hbK
    have hb0 := Below.refl wK.heap.size wK
    clear hbK
    (try clear s0 s1 s2 s3 s4 s5 s6); obtain ⟨s0, s1, s2, s3, s4, s5, s6⟩ := row7 Rs
    have ls := Rs.lt
    go_wp2_with fail
    refine (HQ _).mono ?_
    rintro e w3 ⟨rfl, hb⟩
    replace Rs := Rs.later hb
    replace hb0 := below_step hb0 hb
    clear hb
    have ls := Rs.lt
    (try clear s0 s1 s2 s3 s4 s5 s6); obtain ⟨s0, s1, s2, s3, s4, s5, s6⟩ := row7 Rs
    go_wp2_with fail
    refine (HT _).mono ?_
    rintro e w4 ⟨rfl, hb⟩
    replace Rs := Rs.later hb
    replace hb0 := below_step hb0 hb
    clear hb
    have ls := Rs.lt
    (try clear s0 s1 s2 s3 s4 s5 s6); obtain ⟨s0, s1, s2, s3, s4, s5, s6⟩ := row7 Rs
    go_wp2_with fail
    have nys := Rs.lt
    replace Rs := Rs.alloc (.cells #[Value.int .i64 t.a0, Value.int .i64 t.a1] 27)
    have Ry := Row.new w4 #[Value.int .i64 t.a0, Value.int .i64 t.a1] 27
    have my := hb0.size
    replace hb0 := hb0.alloc hb0.size (.cells #[Value.int .i64 t.a0, Value.int .i64 t.a1] 27)
    (try clear s0 s1 s2 s3 s4 s5 s6); obtain ⟨s0, s1, s2, s3, s4, s5, s6⟩ := row7 Rs
    (try clear y0 y1); obtain ⟨y0, y1⟩ := row2 Ry
    generalize (World.alloc w4 (.cells #[Value.int .i64 t.a0, Value.int .i64 t.a1] 27)) = w5 at *
    go_wp2_with fail
    refine (HSd _).mono ?_
    rintro e w6 ⟨rfl, hb⟩
    replace Rs := Rs.later hb
    replace Ry := Ry.later hb
    replace hb0 := below_step hb0 hb
    clear hb
    have ls := Rs.lt
    have ly := Ry.lt
    (try clear s0 s1 s2 s3 s4 s5 s6); obtain ⟨s0, s1, s2, s3, s4, s5, s6⟩ := row7 Rs
    (try clear y0 y1); obtain ⟨y0, y1⟩ := row2 Ry
    go_wp2_with fail
    refine (HA _).mono ?_
    rintro e w7 ⟨rfl, hb⟩
    replace Rs := Rs.later hb
    replace Ry := Ry.later hb
    replace hb0 := below_step hb0 hb
    clear hb
    have ls := Rs.lt
    have ly := Ry.lt
    (try clear s0 s1 s2 s3 s4 s5 s6); obtain ⟨s0, s1, s2, s3, s4, s5, s6⟩ := row7 Rs
    (try clear y0 y1); obtain ⟨y0, y1⟩ := row2 Ry
    go_wp2
    go_ret
    exact ⟨rfl, below_step HBo.out hb0⟩
set_option maxRecDepth 100000 in
set_option maxHeartbeats 64000000 in
theorem gp_d (s : Sp) (place i j q : Int) (t : Px) (N : Nat) (L : List (Int × Int))
    (HN : ∀ w, Calls Try.prog 38 #[sv s] w fun e w' => ∃ p c, e = .returned (.slice p N c) ∧ TS w' (.slice p N c) L ∧ Below w.heap.size w w')
    (HC : ∀ w, Calls Try.prog 35 #[sv s] w fun e w' => e = .returned (.int .i64 (N : Int)) ∧ Below w.heap.size w w')
    (HSd : ∀ w, Calls Try.prog 18 #[sv s] w fun e w' => e = .returned (.bool true) ∧ Below w.heap.size w w')
    (HQ : ∀ w, Calls Try.prog 43 #[sv s, rv i j] w fun e w' => e = .returned (.int .i64 q) ∧ Below w.heap.size w w')
    (HT : ∀ w, Calls Try.prog 22 #[sv s] w fun e w' => e = .returned (pv t) ∧ Below w.heap.size w w')
    (hN : L.length = N) (hN0 : 0 < N) (hN6 : N ≤ 16641)
    (HPl : ∀ (k : Nat) x y, L[k]? = some (x, y) → ∀ w, Calls Try.prog 43 #[sv s, rv x y] w fun e w' => e = .returned (.int .i64 (k : Int)) ∧ Below w.heap.size w w')
    (g0 : ¬ i < 0) (g1 : ¬ t.a0 < i) (g2 : ¬ j < 0) (g3 : t.a1 < j)
    (hq : q = -1) (w : World) :
    Calls Try.prog 13 #[sv s, .int .i64 place, .int .i64 i, .int .i64 j] w fun e w' => e = .returned (.bool true) ∧ Below w.heap.size w w' := by
  have jf := fdAt
  have HA := alive10_t
  subst hq
  have c0x : 0 ≤ i := by omega
  have c0y : decide (0 ≤ i) = true := decide_eq_true c0x
  have c1x : i ≤ t.a0 := by omega
  have c1y : decide (i ≤ t.a0) = true := decide_eq_true c1x
  have c2x : 0 ≤ j := by omega
  have c2y : decide (0 ≤ j) = true := decide_eq_true c2x
  have c3x : ¬ j ≤ t.a1 := by omega
  have c3y : decide (j ≤ t.a1) = false := decide_eq_false c3x
  have hn1 : (0 : Int) < (N : Int) := by omega
  have hn1' : decide ((0 : Int) < (N : Int)) = true := decide_eq_true hn1
  have HPx := Lib.hid HPl
  have HLn := Lib.hid hN
  clear HPl hN 
  unfold sv pv rv at *
  obtain ⟨Rs, hb0⟩ := one_row w #[.int .i64 s.n, .int .i64 s.d0.kind, .int .i64 s.d0.side, .int .i64 s.d0.step, .int .i64 s.d1.kind, .int .i64 s.d1.side, .int .i64 s.d1.step] 26
  (try clear s0 s1 s2 s3 s4 s5 s6); obtain ⟨s0, s1, s2, s3, s4, s5, s6⟩ := row7 Rs
  go_enter Try.func13, Try.ntmps13
  go_wp2_with fail
  refine (HN _).mono ?_
  rintro e wN ⟨pa, ca, rfl, T, hb⟩
  have HBo := Lib.hid (below_step hb0 hb)
  replace Rs := Rs.later hb
  clear hb hb0 s0 s1 s2 s3 s4 s5 s6 HN
  have hb0 := Below.refl wN.heap.size wN
  (try clear s0 s1 s2 s3 s4 s5 s6); obtain ⟨s0, s1, s2, s3, s4, s5, s6⟩ := row7 Rs
  have ls := Rs.lt
  go_wp2_with fail
  refine (HC _).mono ?_
  rintro e w1 ⟨rfl, hb⟩
  replace Rs := Rs.later hb
  replace hb0 := below_step hb0 hb
  clear hb
  have ls := Rs.lt
  (try clear s0 s1 s2 s3 s4 s5 s6); obtain ⟨s0, s1, s2, s3, s4, s5, s6⟩ := row7 Rs
  go_wp2_with fail
  refine (HSd _).mono ?_
  rintro e w2 ⟨rfl, hb⟩
  replace Rs := Rs.later hb
  replace hb0 := below_step hb0 hb
  clear hb
  have ls := Rs.lt
  (try clear s0 s1 s2 s3 s4 s5 s6); obtain ⟨s0, s1, s2, s3, s4, s5, s6⟩ := row7 Rs
  go_upto_region 4 with fail
  have HB4 := Lib.hid (below_step HBo.out hb0)
  have T4 := Lib.hid (T.later hb0)
  clear HBo T hb0
  go_cut [44] (fun s44 wx => s44 = .bool false ∧ TS wx (.slice pa N ca) L ∧ Row wx w.heap.size #[.int .i64 s.n, .int .i64 s.d0.kind, .int .i64 s.d0.side, .int .i64 s.d0.step, .int .i64 s.d1.kind, .int .i64 s.d1.side, .int .i64 s.d1.step] 26 ∧ Below w.heap.size w wx)
  case first =>
    have hb0 := Below.refl w2.heap.size w2
    by_cases p0 : place < 0
    · have p1 : ¬ 0 ≤ place := by omega
      have p1' : decide (0 ≤ place) = false := decide_eq_false p1
      refine wp_region_held_drew (S := (fun w' => Row w' w.heap.size #[.int .i64 s.n, .int .i64 s.d0.kind, .int .i64 s.d0.side, .int .i64 s.d0.step, .int .i64 s.d1.kind, .int .i64 s.d1.side, .int .i64 s.d1.step] 26)) (by kernel_rfl) ?hSr12_ (fun hHeld => ?_)
      case hSr12_ => (exact Rs.drew)
      (clear s0 s1 s2 s3 s4 s5 s6; (replace Rs := Rs.drew); (replace hb0 := hb0.drew); (generalize World.drew w2 = wq at *))
      refine tk 0 ⟨some 27, .move (.tmp 1), 3, _, _, _⟩ hHeld ?_
      (try simp only [Act.put, nz1, nz2, nz3])
      refine tk 1 ⟨some 28, .binOp .geq 3 (.tmp 27) (.const (.int .i64 0)) 3, 4, _, _, _⟩ hHeld ?_
      (try simp only [Act.put, nz1, nz2, nz3])
      refine tk 2 ⟨some 29, .move (.tmp 28), 4, _, _, _⟩ hHeld ?_
      (try simp only [Act.put, nz1, nz2, nz3])
      refine ts 3 ⟨some 30, .move (.tmp 1), 3, _, _, _⟩ hHeld ?_
      (try simp only [Act.put, nz1, nz2, nz3])
      refine ts 4 ⟨some 31, .move (.tmp 9), 49, _, _, _⟩ hHeld ?_
      (try simp only [Act.put, nz1, nz2, nz3])
      refine ts 5 ⟨some 32, .call { callee := .builtin .len, args := #[.tmp 31], argTypes := #[49] }, 3, _, _, _⟩ hHeld ?_
      (try simp only [Act.put, nz1, nz2, nz3])
      refine ts 6 ⟨some 33, .binOp .lss 3 (.tmp 30) (.tmp 32) 3, 4, _, _, _⟩ hHeld ?_
      (try simp only [Act.put, nz1, nz2, nz3])
      refine tk 7 ⟨some 34, .pick (.tmp 29) (.tmp 33) (.const (.bool false)), 4, _, _, _⟩ hHeld ?_
      (try simp only [Act.put, nz1, nz2, nz3])
      refine tk 8 ⟨some 35, .move (.tmp 34), 4, _, _, _⟩ hHeld ?_
      (try simp only [Act.put, nz1, nz2, nz3])
      refine ts 9 ⟨some 36, .load 26 (.tmp 4), 26, _, _, _⟩ hHeld ?_
      (try simp only [Act.put, nz1, nz2, nz3])
      refine ts 10 ⟨some 37, .move (.tmp 9), 49, _, _, _⟩ hHeld ?_
      (try simp only [Act.put, nz1, nz2, nz3])
      refine ts 11 ⟨some 38, .move (.tmp 1), 3, _, _, _⟩ hHeld ?_
      (try simp only [Act.put, nz1, nz2, nz3])
      refine ts 12 ⟨some 39, .indexAddr 49 (.tmp 37) (.tmp 38), 0, _, _, _⟩ hHeld ?_
      (try simp only [Act.put, nz1, nz2, nz3])
      refine ts 13 ⟨some 40, .load 27 (.tmp 39), 27, _, _, _⟩ hHeld ?_
      (try simp only [Act.put, nz1, nz2, nz3])
      refine ts 14 ⟨some 41, .call { callee := .value (.func 43), args := #[.tmp 36, .tmp 40], argTypes := #[26, 27] }, 3, _, _, _⟩ hHeld ?_
      (try simp only [Act.put, nz1, nz2, nz3])
      refine ts 15 ⟨some 42, .move (.tmp 1), 3, _, _, _⟩ hHeld ?_
      (try simp only [Act.put, nz1, nz2, nz3])
      refine ts 16 ⟨some 43, .binOp .neq 3 (.tmp 41) (.tmp 42) 3, 4, _, _, _⟩ hHeld ?_
      (try simp only [Act.put, nz1, nz2, nz3])
      refine tk 17 ⟨some 44, .pick (.tmp 35) (.tmp 43) (.const (.bool false)), 4, _, _, _⟩ hHeld ?_
      (try simp only [Act.put, nz1, nz2, nz3])
      refine wpAnyH_done (by kernel_rfl) ?_ _
      (go_wp2_with fail; go_meet; exact ⟨rfl, T4.out.later hb0, Rs, below_step HB4.out hb0⟩)
    · obtain ⟨pn, rfl⟩ : ∃ pn : Nat, place = (pn : Int) := ⟨place.toNat, by omega⟩
      by_cases p2 : pn < N
      · have p2x : (pn : Int) < (N : Int) := by omega
        obtain ⟨_, _, ez, _, hz⟩ := ts_read T4.out
        rw [HLn.out] at ez
        cases ez
        obtain ⟨zg, zo, rfl, zlt, zcell⟩ := hz (by rw [HLn.out]; omega)
        obtain ⟨⟨xi, yi⟩, hL⟩ : ∃ q', L[pn]? = some q' := ⟨_, List.getElem?_eq_getElem (by rw [HLn.out]; omega)⟩
        obtain ⟨z0, z1⟩ := zcell pn xi yi hL
        have HPp := HPx.out pn xi yi hL
        clear hz zcell hL
        refine wp_region_held_drew (S := (fun w' => w'.cell? ⟨zg, zo + pn * 2, none⟩ = some (Value.int .i64 xi) ∧ w'.cell? ⟨zg, zo + pn * 2 + 1, none⟩ = some (Value.int .i64 yi) ∧ Row w' w.heap.size #[.int .i64 s.n, .int .i64 s.d0.kind, .int .i64 s.d0.side, .int .i64 s.d0.step, .int .i64 s.d1.kind, .int .i64 s.d1.side, .int .i64 s.d1.step] 26)) (by kernel_rfl) ?hSr13_ (fun hHeld => ?_)
        case hSr13_ => (exact ⟨z0, z1, Rs.drew⟩)
        (clear s0 s1 s2 s3 s4 s5 s6; (replace Rs := Rs.drew); (replace hb0 := hb0.drew); (generalize World.drew w2 = wq at *))
        refine tk 0 ⟨some 27, .move (.tmp 1), 3, _, _, _⟩ hHeld ?_
        (try simp only [Act.put, nz1, nz2, nz3])
        refine tk 1 ⟨some 28, .binOp .geq 3 (.tmp 27) (.const (.int .i64 0)) 3, 4, _, _, _⟩ hHeld ?_
        (try simp only [Act.put, nz1, nz2, nz3])
        refine tk 2 ⟨some 29, .move (.tmp 28), 4, _, _, _⟩ hHeld ?_
        (try simp only [Act.put, nz1, nz2, nz3])
        refine tk 3 ⟨some 30, .move (.tmp 1), 3, _, _, _⟩ hHeld ?_
        (try simp only [Act.put, nz1, nz2, nz3])
        refine tk 4 ⟨some 31, .move (.tmp 9), 49, _, _, _⟩ hHeld ?_
        (try simp only [Act.put, nz1, nz2, nz3])
        refine tk 5 ⟨some 32, .call { callee := .builtin .len, args := #[.tmp 31], argTypes := #[49] }, 3, _, _, _⟩ hHeld ?_
        (try simp only [Act.put, nz1, nz2, nz3])
        refine tk 6 ⟨some 33, .binOp .lss 3 (.tmp 30) (.tmp 32) 3, 4, _, _, _⟩ hHeld ?_
        (try simp only [Act.put, nz1, nz2, nz3])
        refine tk 7 ⟨some 34, .pick (.tmp 29) (.tmp 33) (.const (.bool false)), 4, _, _, _⟩ hHeld ?_
        (try simp only [Act.put, nz1, nz2, nz3])
        refine tk 8 ⟨some 35, .move (.tmp 34), 4, _, _, _⟩ hHeld ?_
        (try simp only [Act.put, nz1, nz2, nz3])
        refine tk 9 ⟨some 36, .load 26 (.tmp 4), 26, _, _, _⟩ hHeld ?_ (v := ?vr13_10_9) (hy := ?yr13_10_9)
        case yr13_10_9 => (intro wy hSw; obtain ⟨z0, z1, Qs⟩ := hSw; (with_reducible refine pexec_load 26 (.tmp 4) ?_ w.heap.size ?_ 26 #[.int .i64 s.n, .int .i64 s.d0.kind, .int .i64 s.d0.side, .int .i64 s.d0.step, .int .i64 s.d1.kind, .int .i64 s.d1.side, .int .i64 s.d1.step] _ Qs Try.underlying26 ?_ ?_) <;> first | rfl | exact infoSp)
        (try simp only [Act.put, nz1, nz2, nz3])
        refine tk 10 ⟨some 37, .move (.tmp 9), 49, _, _, _⟩ hHeld ?_
        (try simp only [Act.put, nz1, nz2, nz3])
        refine tk 11 ⟨some 38, .move (.tmp 1), 3, _, _, _⟩ hHeld ?_
        (try simp only [Act.put, nz1, nz2, nz3])
        refine tk 12 ⟨some 39, .indexAddr 49 (.tmp 37) (.tmp 38), 0, _, _, _⟩ hHeld ?_
        (try simp only [Act.put, nz1, nz2, nz3])
        refine tk 13 ⟨some 40, .load 27 (.tmp 39), 27, _, _, _⟩ hHeld ?_
        (try simp only [Act.put, nz1, nz2, nz3])
        refine tk 15 ⟨some 42, .move (.tmp 1), 3, _, _, _⟩ hHeld ?_
        (try simp only [Act.put, nz1, nz2, nz3])
        refine wpAnyH_ready (rs := [14]) (by kernel_rfl) (by simp) ?_
        refine AllReadyH.cons (o := ⟨some 41, .call { callee := .value (.func 43), args := #[.tmp 36, .tmp 40], argTypes := #[26, 27] }, 3, _, _, _⟩) rfl (fun K hK => ?_) AllReadyH.nil
        (go_simp; (refine (HPp _).mono ?_); (rintro e wz ⟨rfl, hb⟩); (replace Rs := Rs.later hb); (replace hb0 := below_step hb0 hb); go_wp2_with fail)
        refine hK.out _ _ ?hSr13_16_14 (fun hHeld2 => ?_)
        case hSr13_16_14 => (obtain ⟨z0, z1, Qs⟩ := hHeld; exact ⟨cell_later hb z0, cell_later hb z1, Qs.later hb⟩)
        clear hK K hHeld
        have hHeld := hHeld2
        clear hHeld2
        rename World => wq
        (try simp only [Act.put, nz1, nz2, nz3])
        refine tk 16 ⟨some 43, .binOp .neq 3 (.tmp 41) (.tmp 42) 3, 4, _, _, _⟩ hHeld ?_
        (try simp only [Act.put, nz1, nz2, nz3])
        refine tk 17 ⟨some 44, .pick (.tmp 35) (.tmp 43) (.const (.bool false)), 4, _, _, _⟩ hHeld ?_
        (try simp only [Act.put, nz1, nz2, nz3])
        refine wpAnyH_done (by kernel_rfl) ?_ _
        (go_wp2_with fail; go_meet; exact ⟨rfl, T4.out.later hb0, Rs, below_step HB4.out hb0⟩)
      · have p2x : ¬ (pn : Int) < (N : Int) := by omega
        have p2y : decide ((pn : Int) < (N : Int)) = false := decide_eq_false p2x
        have p3x : (0 : Int) ≤ (pn : Int) := by omega
        refine wp_region_held_drew (S := (fun w' => Row w' w.heap.size #[.int .i64 s.n, .int .i64 s.d0.kind, .int .i64 s.d0.side, .int .i64 s.d0.step, .int .i64 s.d1.kind, .int .i64 s.d1.side, .int .i64 s.d1.step] 26)) (by kernel_rfl) ?hSr14_ (fun hHeld => ?_)
        case hSr14_ => (exact Rs.drew)
        (clear s0 s1 s2 s3 s4 s5 s6; (replace Rs := Rs.drew); (replace hb0 := hb0.drew); (generalize World.drew w2 = wq at *))
        refine tk 0 ⟨some 27, .move (.tmp 1), 3, _, _, _⟩ hHeld ?_
        (try simp only [Act.put, nz1, nz2, nz3])
        refine tk 1 ⟨some 28, .binOp .geq 3 (.tmp 27) (.const (.int .i64 0)) 3, 4, _, _, _⟩ hHeld ?_
        (try simp only [Act.put, nz1, nz2, nz3])
        refine tk 2 ⟨some 29, .move (.tmp 28), 4, _, _, _⟩ hHeld ?_
        (try simp only [Act.put, nz1, nz2, nz3])
        refine tk 3 ⟨some 30, .move (.tmp 1), 3, _, _, _⟩ hHeld ?_
        (try simp only [Act.put, nz1, nz2, nz3])
        refine tk 4 ⟨some 31, .move (.tmp 9), 49, _, _, _⟩ hHeld ?_
        (try simp only [Act.put, nz1, nz2, nz3])
        refine tk 5 ⟨some 32, .call { callee := .builtin .len, args := #[.tmp 31], argTypes := #[49] }, 3, _, _, _⟩ hHeld ?_
        (try simp only [Act.put, nz1, nz2, nz3])
        refine tk 6 ⟨some 33, .binOp .lss 3 (.tmp 30) (.tmp 32) 3, 4, _, _, _⟩ hHeld ?_
        (try simp only [Act.put, nz1, nz2, nz3])
        refine tk 7 ⟨some 34, .pick (.tmp 29) (.tmp 33) (.const (.bool false)), 4, _, _, _⟩ hHeld ?_
        (try simp only [Act.put, nz1, nz2, nz3])
        refine tk 8 ⟨some 35, .move (.tmp 34), 4, _, _, _⟩ hHeld ?_
        (try simp only [Act.put, nz1, nz2, nz3])
        refine ts 9 ⟨some 36, .load 26 (.tmp 4), 26, _, _, _⟩ hHeld ?_
        (try simp only [Act.put, nz1, nz2, nz3])
        refine ts 10 ⟨some 37, .move (.tmp 9), 49, _, _, _⟩ hHeld ?_
        (try simp only [Act.put, nz1, nz2, nz3])
        refine ts 11 ⟨some 38, .move (.tmp 1), 3, _, _, _⟩ hHeld ?_
        (try simp only [Act.put, nz1, nz2, nz3])
        refine ts 12 ⟨some 39, .indexAddr 49 (.tmp 37) (.tmp 38), 0, _, _, _⟩ hHeld ?_
        (try simp only [Act.put, nz1, nz2, nz3])
        refine ts 13 ⟨some 40, .load 27 (.tmp 39), 27, _, _, _⟩ hHeld ?_
        (try simp only [Act.put, nz1, nz2, nz3])
        refine ts 14 ⟨some 41, .call { callee := .value (.func 43), args := #[.tmp 36, .tmp 40], argTypes := #[26, 27] }, 3, _, _, _⟩ hHeld ?_
        (try simp only [Act.put, nz1, nz2, nz3])
        refine ts 15 ⟨some 42, .move (.tmp 1), 3, _, _, _⟩ hHeld ?_
        (try simp only [Act.put, nz1, nz2, nz3])
        refine ts 16 ⟨some 43, .binOp .neq 3 (.tmp 41) (.tmp 42) 3, 4, _, _, _⟩ hHeld ?_
        (try simp only [Act.put, nz1, nz2, nz3])
        refine tk 17 ⟨some 44, .pick (.tmp 35) (.tmp 43) (.const (.bool false)), 4, _, _, _⟩ hHeld ?_
        (try simp only [Act.put, nz1, nz2, nz3])
        refine wpAnyH_done (by kernel_rfl) ?_ _
        (go_wp2_with fail; go_meet; exact ⟨rfl, T4.out.later hb0, Rs, below_step HB4.out hb0⟩)
  case rest =>
    clear T4 HB4 Rs s0 s1 s2 s3 s4 s5 s6
    obtain ⟨rfl, T4, Rs, hbK⟩ := hcut
    rename World => wK
    have HBo := Lib.hid hbK
    have hb0 := Below.refl wK.heap.size wK
    clear hbK
    (try clear s0 s1 s2 s3 s4 s5 s6); obtain ⟨s0, s1, s2, s3, s4, s5, s6⟩ := row7 Rs
    have ls := Rs.lt
    go_wp2_with fail
    refine (HQ _).mono ?_
    rintro e w3 ⟨rfl, hb⟩
    replace Rs := Rs.later hb
    replace hb0 := below_step hb0 hb
    clear hb
    have ls := Rs.lt
    (try clear s0 s1 s2 s3 s4 s5 s6); obtain ⟨s0, s1, s2, s3, s4, s5, s6⟩ := row7 Rs
    go_wp2_with fail
    refine (HT _).mono ?_
    rintro e w4 ⟨rfl, hb⟩
    replace Rs := Rs.later hb
    replace hb0 := below_step hb0 hb
    clear hb
    have ls := Rs.lt
    (try clear s0 s1 s2 s3 s4 s5 s6); obtain ⟨s0, s1, s2, s3, s4, s5, s6⟩ := row7 Rs
    go_wp2_with fail
    have nys := Rs.lt
    replace Rs := Rs.alloc (.cells #[Value.int .i64 t.a0, Value.int .i64 t.a1] 27)
    have Ry := Row.new w4 #[Value.int .i64 t.a0, Value.int .i64 t.a1] 27
    have my := hb0.size
    replace hb0 := hb0.alloc hb0.size (.cells #[Value.int .i64 t.a0, Value.int .i64 t.a1] 27)
    (try clear s0 s1 s2 s3 s4 s5 s6); obtain ⟨s0, s1, s2, s3, s4, s5, s6⟩ := row7 Rs
    (try clear y0 y1); obtain ⟨y0, y1⟩ := row2 Ry
    generalize (World.alloc w4 (.cells #[Value.int .i64 t.a0, Value.int .i64 t.a1] 27)) = w5 at *
    go_wp2_with fail
    refine (HSd _).mono ?_
    rintro e w6 ⟨rfl, hb⟩
    replace Rs := Rs.later hb
    replace Ry := Ry.later hb
    replace hb0 := below_step hb0 hb
    clear hb
    have ls := Rs.lt
    have ly := Ry.lt
    (try clear s0 s1 s2 s3 s4 s5 s6); obtain ⟨s0, s1, s2, s3, s4, s5, s6⟩ := row7 Rs
    (try clear y0 y1); obtain ⟨y0, y1⟩ := row2 Ry
    go_wp2_with fail
    refine (HA _).mono ?_
    rintro e w7 ⟨rfl, hb⟩
    replace Rs := Rs.later hb
    replace Ry := Ry.later hb
    replace hb0 := below_step hb0 hb
    clear hb
    have ls := Rs.lt
    have ly := Ry.lt
    (try clear s0 s1 s2 s3 s4 s5 s6); obtain ⟨s0, s1, s2, s3, s4, s5, s6⟩ := row7 Rs
    (try clear y0 y1); obtain ⟨y0, y1⟩ := row2 Ry
    go_wp2
    go_ret
    exact ⟨rfl, below_step HBo.out hb0⟩
set_option maxRecDepth 100000 in
set_option maxHeartbeats 64000000 in
theorem gp_e (s : Sp) (place i j q : Int) (t : Px) (N : Nat) (L : List (Int × Int))
    (HN : ∀ w, Calls Try.prog 38 #[sv s] w fun e w' => ∃ p c, e = .returned (.slice p N c) ∧ TS w' (.slice p N c) L ∧ Below w.heap.size w w')
    (HC : ∀ w, Calls Try.prog 35 #[sv s] w fun e w' => e = .returned (.int .i64 (N : Int)) ∧ Below w.heap.size w w')
    (HSd : ∀ w, Calls Try.prog 18 #[sv s] w fun e w' => e = .returned (.bool true) ∧ Below w.heap.size w w')
    (HQ : ∀ w, Calls Try.prog 43 #[sv s, rv i j] w fun e w' => e = .returned (.int .i64 q) ∧ Below w.heap.size w w')
    (HT : ∀ w, Calls Try.prog 22 #[sv s] w fun e w' => e = .returned (pv t) ∧ Below w.heap.size w w')
    (hN : L.length = N) (hN0 : 0 < N) (hN6 : N ≤ 16641)
    (HPl : ∀ (k : Nat) x y, L[k]? = some (x, y) → ∀ w, Calls Try.prog 43 #[sv s, rv x y] w fun e w' => e = .returned (.int .i64 (k : Int)) ∧ Below w.heap.size w w')
    (g0 : ¬ i < 0) (g1 : ¬ t.a0 < i) (g2 : ¬ j < 0) (g3 : ¬ t.a1 < j)
    (hq0 : 0 ≤ q) (hq1 : q < (N : Int)) (hqL : L[q.toNat]? = some (i, j)) (w : World) :
    Calls Try.prog 13 #[sv s, .int .i64 place, .int .i64 i, .int .i64 j] w fun e w' => e = .returned (.bool true) ∧ Below w.heap.size w w' := by
  have jf := fdAt
  have HA := alive10_t
  obtain ⟨qn, rfl⟩ : ∃ qn : Nat, q = (qn : Int) := ⟨q.toNat, by omega⟩
  rw [Int.toNat_natCast] at hqL
  have c0x : 0 ≤ i := by omega
  have c0y : decide (0 ≤ i) = true := decide_eq_true c0x
  have c1x : i ≤ t.a0 := by omega
  have c1y : decide (i ≤ t.a0) = true := decide_eq_true c1x
  have c2x : 0 ≤ j := by omega
  have c2y : decide (0 ≤ j) = true := decide_eq_true c2x
  have c3x : j ≤ t.a1 := by omega
  have c3y : decide (j ≤ t.a1) = true := decide_eq_true c3x
  have hn1 : (0 : Int) < (N : Int) := by omega
  have hn1' : decide ((0 : Int) < (N : Int)) = true := decide_eq_true hn1
  have HPx := Lib.hid HPl
  have HLn := Lib.hid hN
  have HQx := Lib.hid (And.intro hq0 (And.intro hq1 hqL))
  clear HPl hN hq0 hqL
  have q0x : (0 : Int) ≤ (qn : Int) := by omega
  have q2x : ¬ (N : Int) ≤ (qn : Int) := by omega
  have q2y : decide ((N : Int) ≤ (qn : Int)) = false := decide_eq_false q2x
  have qe := eqlT i j i j
  rw [show decide (i = i ∧ j = j) = true from decide_eq_true ⟨rfl, rfl⟩] at qe
  unfold sv pv rv at *
  obtain ⟨Rs, hb0⟩ := one_row w #[.int .i64 s.n, .int .i64 s.d0.kind, .int .i64 s.d0.side, .int .i64 s.d0.step, .int .i64 s.d1.kind, .int .i64 s.d1.side, .int .i64 s.d1.step] 26
  (try clear s0 s1 s2 s3 s4 s5 s6); obtain ⟨s0, s1, s2, s3, s4, s5, s6⟩ := row7 Rs
  go_enter Try.func13, Try.ntmps13
  go_wp2_with fail
  refine (HN _).mono ?_
  rintro e wN ⟨pa, ca, rfl, T, hb⟩
  have HBo := Lib.hid (below_step hb0 hb)
  replace Rs := Rs.later hb
  clear hb hb0 s0 s1 s2 s3 s4 s5 s6 HN
  have hb0 := Below.refl wN.heap.size wN
  (try clear s0 s1 s2 s3 s4 s5 s6); obtain ⟨s0, s1, s2, s3, s4, s5, s6⟩ := row7 Rs
  have ls := Rs.lt
  go_wp2_with fail
  refine (HC _).mono ?_
  rintro e w1 ⟨rfl, hb⟩
  replace Rs := Rs.later hb
  replace hb0 := below_step hb0 hb
  clear hb
  have ls := Rs.lt
  (try clear s0 s1 s2 s3 s4 s5 s6); obtain ⟨s0, s1, s2, s3, s4, s5, s6⟩ := row7 Rs
  go_wp2_with fail
  refine (HSd _).mono ?_
  rintro e w2 ⟨rfl, hb⟩
  replace Rs := Rs.later hb
  replace hb0 := below_step hb0 hb
  clear hb
  have ls := Rs.lt
  (try clear s0 s1 s2 s3 s4 s5 s6); obtain ⟨s0, s1, s2, s3, s4, s5, s6⟩ := row7 Rs
  go_upto_region 4 with fail
  have HB4 := Lib.hid (below_step HBo.out hb0)
  have T4 := Lib.hid (T.later hb0)
  clear HBo T hb0
  go_cut [44] (fun s44 wx => s44 = .bool false ∧ TS wx (.slice pa N ca) L ∧ Row wx w.heap.size #[.int .i64 s.n, .int .i64 s.d0.kind, .int .i64 s.d0.side, .int .i64 s.d0.step, .int .i64 s.d1.kind, .int .i64 s.d1.side, .int .i64 s.d1.step] 26 ∧ Below w.heap.size w wx)
  case first =>
    have hb0 := Below.refl w2.heap.size w2
    by_cases p0 : place < 0
    · have p1 : ¬ 0 ≤ place := by omega
      have p1' : decide (0 ≤ place) = false := decide_eq_false p1
      refine wp_region_held_drew (S := (fun w' => Row w' w.heap.size #[.int .i64 s.n, .int .i64 s.d0.kind, .int .i64 s.d0.side, .int .i64 s.d0.step, .int .i64 s.d1.kind, .int .i64 s.d1.side, .int .i64 s.d1.step] 26)) (by kernel_rfl) ?hSr15_ (fun hHeld => ?_)
      case hSr15_ => (exact Rs.drew)
      (clear s0 s1 s2 s3 s4 s5 s6; (replace Rs := Rs.drew); (replace hb0 := hb0.drew); (generalize World.drew w2 = wq at *))
      refine tk 0 ⟨some 27, .move (.tmp 1), 3, _, _, _⟩ hHeld ?_
      (try simp only [Act.put, nz1, nz2, nz3])
      refine tk 1 ⟨some 28, .binOp .geq 3 (.tmp 27) (.const (.int .i64 0)) 3, 4, _, _, _⟩ hHeld ?_
      (try simp only [Act.put, nz1, nz2, nz3])
      refine tk 2 ⟨some 29, .move (.tmp 28), 4, _, _, _⟩ hHeld ?_
      (try simp only [Act.put, nz1, nz2, nz3])
      refine ts 3 ⟨some 30, .move (.tmp 1), 3, _, _, _⟩ hHeld ?_
      (try simp only [Act.put, nz1, nz2, nz3])
      refine ts 4 ⟨some 31, .move (.tmp 9), 49, _, _, _⟩ hHeld ?_
      (try simp only [Act.put, nz1, nz2, nz3])
      refine ts 5 ⟨some 32, .call { callee := .builtin .len, args := #[.tmp 31], argTypes := #[49] }, 3, _, _, _⟩ hHeld ?_
      (try simp only [Act.put, nz1, nz2, nz3])
      refine ts 6 ⟨some 33, .binOp .lss 3 (.tmp 30) (.tmp 32) 3, 4, _, _, _⟩ hHeld ?_
      (try simp only [Act.put, nz1, nz2, nz3])
      refine tk 7 ⟨some 34, .pick (.tmp 29) (.tmp 33) (.const (.bool false)), 4, _, _, _⟩ hHeld ?_
      (try simp only [Act.put, nz1, nz2, nz3])
      refine tk 8 ⟨some 35, .move (.tmp 34), 4, _, _, _⟩ hHeld ?_
      (try simp only [Act.put, nz1, nz2, nz3])
      refine ts 9 ⟨some 36, .load 26 (.tmp 4), 26, _, _, _⟩ hHeld ?_
      (try simp only [Act.put, nz1, nz2, nz3])
      refine ts 10 ⟨some 37, .move (.tmp 9), 49, _, _, _⟩ hHeld ?_
      (try simp only [Act.put, nz1, nz2, nz3])
      refine ts 11 ⟨some 38, .move (.tmp 1), 3, _, _, _⟩ hHeld ?_
      (try simp only [Act.put, nz1, nz2, nz3])
      refine ts 12 ⟨some 39, .indexAddr 49 (.tmp 37) (.tmp 38), 0, _, _, _⟩ hHeld ?_
      (try simp only [Act.put, nz1, nz2, nz3])
      refine ts 13 ⟨some 40, .load 27 (.tmp 39), 27, _, _, _⟩ hHeld ?_
      (try simp only [Act.put, nz1, nz2, nz3])
      refine ts 14 ⟨some 41, .call { callee := .value (.func 43), args := #[.tmp 36, .tmp 40], argTypes := #[26, 27] }, 3, _, _, _⟩ hHeld ?_
      (try simp only [Act.put, nz1, nz2, nz3])
      refine ts 15 ⟨some 42, .move (.tmp 1), 3, _, _, _⟩ hHeld ?_
      (try simp only [Act.put, nz1, nz2, nz3])
      refine ts 16 ⟨some 43, .binOp .neq 3 (.tmp 41) (.tmp 42) 3, 4, _, _, _⟩ hHeld ?_
      (try simp only [Act.put, nz1, nz2, nz3])
      refine tk 17 ⟨some 44, .pick (.tmp 35) (.tmp 43) (.const (.bool false)), 4, _, _, _⟩ hHeld ?_
      (try simp only [Act.put, nz1, nz2, nz3])
      refine wpAnyH_done (by kernel_rfl) ?_ _
      (go_wp2_with fail; go_meet; exact ⟨rfl, T4.out.later hb0, Rs, below_step HB4.out hb0⟩)
    · obtain ⟨pn, rfl⟩ : ∃ pn : Nat, place = (pn : Int) := ⟨place.toNat, by omega⟩
      by_cases p2 : pn < N
      · have p2x : (pn : Int) < (N : Int) := by omega
        obtain ⟨_, _, ez, _, hz⟩ := ts_read T4.out
        rw [HLn.out] at ez
        cases ez
        obtain ⟨zg, zo, rfl, zlt, zcell⟩ := hz (by rw [HLn.out]; omega)
        obtain ⟨⟨xi, yi⟩, hL⟩ : ∃ q', L[pn]? = some q' := ⟨_, List.getElem?_eq_getElem (by rw [HLn.out]; omega)⟩
        obtain ⟨z0, z1⟩ := zcell pn xi yi hL
        have HPp := HPx.out pn xi yi hL
        clear hz zcell hL
        refine wp_region_held_drew (S := (fun w' => w'.cell? ⟨zg, zo + pn * 2, none⟩ = some (Value.int .i64 xi) ∧ w'.cell? ⟨zg, zo + pn * 2 + 1, none⟩ = some (Value.int .i64 yi) ∧ Row w' w.heap.size #[.int .i64 s.n, .int .i64 s.d0.kind, .int .i64 s.d0.side, .int .i64 s.d0.step, .int .i64 s.d1.kind, .int .i64 s.d1.side, .int .i64 s.d1.step] 26)) (by kernel_rfl) ?hSr16_ (fun hHeld => ?_)
        case hSr16_ => (exact ⟨z0, z1, Rs.drew⟩)
        (clear s0 s1 s2 s3 s4 s5 s6; (replace Rs := Rs.drew); (replace hb0 := hb0.drew); (generalize World.drew w2 = wq at *))
        refine tk 0 ⟨some 27, .move (.tmp 1), 3, _, _, _⟩ hHeld ?_
        (try simp only [Act.put, nz1, nz2, nz3])
        refine tk 1 ⟨some 28, .binOp .geq 3 (.tmp 27) (.const (.int .i64 0)) 3, 4, _, _, _⟩ hHeld ?_
        (try simp only [Act.put, nz1, nz2, nz3])
        refine tk 2 ⟨some 29, .move (.tmp 28), 4, _, _, _⟩ hHeld ?_
        (try simp only [Act.put, nz1, nz2, nz3])
        refine tk 3 ⟨some 30, .move (.tmp 1), 3, _, _, _⟩ hHeld ?_
        (try simp only [Act.put, nz1, nz2, nz3])
        refine tk 4 ⟨some 31, .move (.tmp 9), 49, _, _, _⟩ hHeld ?_
        (try simp only [Act.put, nz1, nz2, nz3])
        refine tk 5 ⟨some 32, .call { callee := .builtin .len, args := #[.tmp 31], argTypes := #[49] }, 3, _, _, _⟩ hHeld ?_
        (try simp only [Act.put, nz1, nz2, nz3])
        refine tk 6 ⟨some 33, .binOp .lss 3 (.tmp 30) (.tmp 32) 3, 4, _, _, _⟩ hHeld ?_
        (try simp only [Act.put, nz1, nz2, nz3])
        refine tk 7 ⟨some 34, .pick (.tmp 29) (.tmp 33) (.const (.bool false)), 4, _, _, _⟩ hHeld ?_
        (try simp only [Act.put, nz1, nz2, nz3])
        refine tk 8 ⟨some 35, .move (.tmp 34), 4, _, _, _⟩ hHeld ?_
        (try simp only [Act.put, nz1, nz2, nz3])
        refine tk 9 ⟨some 36, .load 26 (.tmp 4), 26, _, _, _⟩ hHeld ?_ (v := ?vr16_10_9) (hy := ?yr16_10_9)
        case yr16_10_9 => (intro wy hSw; obtain ⟨z0, z1, Qs⟩ := hSw; (with_reducible refine pexec_load 26 (.tmp 4) ?_ w.heap.size ?_ 26 #[.int .i64 s.n, .int .i64 s.d0.kind, .int .i64 s.d0.side, .int .i64 s.d0.step, .int .i64 s.d1.kind, .int .i64 s.d1.side, .int .i64 s.d1.step] _ Qs Try.underlying26 ?_ ?_) <;> first | rfl | exact infoSp)
        (try simp only [Act.put, nz1, nz2, nz3])
        refine tk 10 ⟨some 37, .move (.tmp 9), 49, _, _, _⟩ hHeld ?_
        (try simp only [Act.put, nz1, nz2, nz3])
        refine tk 11 ⟨some 38, .move (.tmp 1), 3, _, _, _⟩ hHeld ?_
        (try simp only [Act.put, nz1, nz2, nz3])
        refine tk 12 ⟨some 39, .indexAddr 49 (.tmp 37) (.tmp 38), 0, _, _, _⟩ hHeld ?_
        (try simp only [Act.put, nz1, nz2, nz3])
        refine tk 13 ⟨some 40, .load 27 (.tmp 39), 27, _, _, _⟩ hHeld ?_
        (try simp only [Act.put, nz1, nz2, nz3])
        refine tk 15 ⟨some 42, .move (.tmp 1), 3, _, _, _⟩ hHeld ?_
        (try simp only [Act.put, nz1, nz2, nz3])
        refine wpAnyH_ready (rs := [14]) (by kernel_rfl) (by simp) ?_
        refine AllReadyH.cons (o := ⟨some 41, .call { callee := .value (.func 43), args := #[.tmp 36, .tmp 40], argTypes := #[26, 27] }, 3, _, _, _⟩) rfl (fun K hK => ?_) AllReadyH.nil
        (go_simp; (refine (HPp _).mono ?_); (rintro e wz ⟨rfl, hb⟩); (replace Rs := Rs.later hb); (replace hb0 := below_step hb0 hb); go_wp2_with fail)
        refine hK.out _ _ ?hSr16_16_14 (fun hHeld2 => ?_)
        case hSr16_16_14 => (obtain ⟨z0, z1, Qs⟩ := hHeld; exact ⟨cell_later hb z0, cell_later hb z1, Qs.later hb⟩)
        clear hK K hHeld
        have hHeld := hHeld2
        clear hHeld2
        rename World => wq
        (try simp only [Act.put, nz1, nz2, nz3])
        refine tk 16 ⟨some 43, .binOp .neq 3 (.tmp 41) (.tmp 42) 3, 4, _, _, _⟩ hHeld ?_
        (try simp only [Act.put, nz1, nz2, nz3])
        refine tk 17 ⟨some 44, .pick (.tmp 35) (.tmp 43) (.const (.bool false)), 4, _, _, _⟩ hHeld ?_
        (try simp only [Act.put, nz1, nz2, nz3])
        refine wpAnyH_done (by kernel_rfl) ?_ _
        (go_wp2_with fail; go_meet; exact ⟨rfl, T4.out.later hb0, Rs, below_step HB4.out hb0⟩)
      · have p2x : ¬ (pn : Int) < (N : Int) := by omega
        have p2y : decide ((pn : Int) < (N : Int)) = false := decide_eq_false p2x
        have p3x : (0 : Int) ≤ (pn : Int) := by omega
        refine wp_region_held_drew (S := (fun w' => Row w' w.heap.size #[.int .i64 s.n, .int .i64 s.d0.kind, .int .i64 s.d0.side, .int .i64 s.d0.step, .int .i64 s.d1.kind, .int .i64 s.d1.side, .int .i64 s.d1.step] 26)) (by kernel_rfl) ?hSr17_ (fun hHeld => ?_)
        case hSr17_ => (exact Rs.drew)
        (clear s0 s1 s2 s3 s4 s5 s6; (replace Rs := Rs.drew); (replace hb0 := hb0.drew); (generalize World.drew w2 = wq at *))
        refine tk 0 ⟨some 27, .move (.tmp 1), 3, _, _, _⟩ hHeld ?_
        (try simp only [Act.put, nz1, nz2, nz3])
        refine tk 1 ⟨some 28, .binOp .geq 3 (.tmp 27) (.const (.int .i64 0)) 3, 4, _, _, _⟩ hHeld ?_
        (try simp only [Act.put, nz1, nz2, nz3])
        refine tk 2 ⟨some 29, .move (.tmp 28), 4, _, _, _⟩ hHeld ?_
        (try simp only [Act.put, nz1, nz2, nz3])
        refine tk 3 ⟨some 30, .move (.tmp 1), 3, _, _, _⟩ hHeld ?_
        (try simp only [Act.put, nz1, nz2, nz3])
        refine tk 4 ⟨some 31, .move (.tmp 9), 49, _, _, _⟩ hHeld ?_
        (try simp only [Act.put, nz1, nz2, nz3])
        refine tk 5 ⟨some 32, .call { callee := .builtin .len, args := #[.tmp 31], argTypes := #[49] }, 3, _, _, _⟩ hHeld ?_
        (try simp only [Act.put, nz1, nz2, nz3])
        refine tk 6 ⟨some 33, .binOp .lss 3 (.tmp 30) (.tmp 32) 3, 4, _, _, _⟩ hHeld ?_
        (try simp only [Act.put, nz1, nz2, nz3])
        refine tk 7 ⟨some 34, .pick (.tmp 29) (.tmp 33) (.const (.bool false)), 4, _, _, _⟩ hHeld ?_
        (try simp only [Act.put, nz1, nz2, nz3])
        refine tk 8 ⟨some 35, .move (.tmp 34), 4, _, _, _⟩ hHeld ?_
        (try simp only [Act.put, nz1, nz2, nz3])
        refine ts 9 ⟨some 36, .load 26 (.tmp 4), 26, _, _, _⟩ hHeld ?_
        (try simp only [Act.put, nz1, nz2, nz3])
        refine ts 10 ⟨some 37, .move (.tmp 9), 49, _, _, _⟩ hHeld ?_
        (try simp only [Act.put, nz1, nz2, nz3])
        refine ts 11 ⟨some 38, .move (.tmp 1), 3, _, _, _⟩ hHeld ?_
        (try simp only [Act.put, nz1, nz2, nz3])
        refine ts 12 ⟨some 39, .indexAddr 49 (.tmp 37) (.tmp 38), 0, _, _, _⟩ hHeld ?_
        (try simp only [Act.put, nz1, nz2, nz3])
        refine ts 13 ⟨some 40, .load 27 (.tmp 39), 27, _, _, _⟩ hHeld ?_
        (try simp only [Act.put, nz1, nz2, nz3])
        refine ts 14 ⟨some 41, .call { callee := .value (.func 43), args := #[.tmp 36, .tmp 40], argTypes := #[26, 27] }, 3, _, _, _⟩ hHeld ?_
        (try simp only [Act.put, nz1, nz2, nz3])
        refine ts 15 ⟨some 42, .move (.tmp 1), 3, _, _, _⟩ hHeld ?_
        (try simp only [Act.put, nz1, nz2, nz3])
        refine ts 16 ⟨some 43, .binOp .neq 3 (.tmp 41) (.tmp 42) 3, 4, _, _, _⟩ hHeld ?_
        (try simp only [Act.put, nz1, nz2, nz3])
        refine tk 17 ⟨some 44, .pick (.tmp 35) (.tmp 43) (.const (.bool false)), 4, _, _, _⟩ hHeld ?_
        (try simp only [Act.put, nz1, nz2, nz3])
        refine wpAnyH_done (by kernel_rfl) ?_ _
        (go_wp2_with fail; go_meet; exact ⟨rfl, T4.out.later hb0, Rs, below_step HB4.out hb0⟩)
  case rest =>
    clear T4 HB4 Rs s0 s1 s2 s3 s4 s5 s6
    obtain ⟨rfl, T4, Rs, hbK⟩ := hcut
    rename World => wK
    have HBo := Lib.hid hbK
    have hb0 := Below.refl wK.heap.size wK
    clear hbK
    (try clear s0 s1 s2 s3 s4 s5 s6); obtain ⟨s0, s1, s2, s3, s4, s5, s6⟩ := row7 Rs
    have ls := Rs.lt
    go_wp2_with fail
    refine (HQ _).mono ?_
    rintro e w3 ⟨rfl, hb⟩
    replace Rs := Rs.later hb
    replace hb0 := below_step hb0 hb
    clear hb
    have ls := Rs.lt
    (try clear s0 s1 s2 s3 s4 s5 s6); obtain ⟨s0, s1, s2, s3, s4, s5, s6⟩ := row7 Rs
    go_wp2_with fail
    refine (HT _).mono ?_
    rintro e w4 ⟨rfl, hb⟩
    replace Rs := Rs.later hb
    replace hb0 := below_step hb0 hb
    clear hb
    have ls := Rs.lt
    (try clear s0 s1 s2 s3 s4 s5 s6); obtain ⟨s0, s1, s2, s3, s4, s5, s6⟩ := row7 Rs
    go_wp2_with fail
    have nys := Rs.lt
    replace Rs := Rs.alloc (.cells #[Value.int .i64 t.a0, Value.int .i64 t.a1] 27)
    have Ry := Row.new w4 #[Value.int .i64 t.a0, Value.int .i64 t.a1] 27
    have my := hb0.size
    replace hb0 := hb0.alloc hb0.size (.cells #[Value.int .i64 t.a0, Value.int .i64 t.a1] 27)
    (try clear s0 s1 s2 s3 s4 s5 s6); obtain ⟨s0, s1, s2, s3, s4, s5, s6⟩ := row7 Rs
    (try clear y0 y1); obtain ⟨y0, y1⟩ := row2 Ry
    generalize (World.alloc w4 (.cells #[Value.int .i64 t.a0, Value.int .i64 t.a1] 27)) = w5 at *
    go_wp2_with fail
    refine (HSd _).mono ?_
    rintro e w6 ⟨rfl, hb⟩
    replace Rs := Rs.later hb
    replace Ry := Ry.later hb
    replace hb0 := below_step hb0 hb
    clear hb
    have ls := Rs.lt
    have ly := Ry.lt
    (try clear s0 s1 s2 s3 s4 s5 s6); obtain ⟨s0, s1, s2, s3, s4, s5, s6⟩ := row7 Rs
    (try clear y0 y1); obtain ⟨y0, y1⟩ := row2 Ry
    go_wp2_with fail
    go_wp2_with fail
    refine (HA _).mono ?_
    rintro e w7 ⟨rfl, hb⟩
    replace Rs := Rs.later hb
    replace Ry := Ry.later hb
    replace hb0 := below_step hb0 hb
    clear hb
    have ls := Rs.lt
    have ly := Ry.lt
    (try clear s0 s1 s2 s3 s4 s5 s6); obtain ⟨s0, s1, s2, s3, s4, s5, s6⟩ := row7 Rs
    (try clear y0 y1); obtain ⟨y0, y1⟩ := row2 Ry
    obtain ⟨_, _, ez, _, hz⟩ := ts_read (T4.later hb0)
    rw [HLn.out] at ez
    cases ez
    obtain ⟨zg, zo, rfl, zlt, zcell⟩ := hz (by rw [HLn.out]; omega)
    obtain ⟨z0, z1⟩ := zcell qn i j HQx.out.2.2
    have qlt : qn < N := by omega
    have qlt' : (qn : Int) < (N : Int) := by omega
    clear hz zcell
    go_wp2
    go_ret
    exact ⟨rfl, below_step HBo.out hb0⟩
theorem ts_sliced3 {f : FuncId} {args : Array Value} {w : World} {l : List (Int × Int)} {N : Nat} (hN : l.length = N) (h : Calls Try.prog f args w fun e w' => ∃ v, e = .returned v ∧ TS w' v l ∧ Below w.heap.size w w') : Calls Try.prog f args w fun e w' => ∃ p c, e = .returned (.slice p N c) ∧ TS w' (.slice p N c) l ∧ Below w.heap.size w w' := by
  refine h.mono ?_
  rintro e w' ⟨v, rfl, hx, hb⟩
  obtain ⟨p, c, rfl, _, _⟩ := ts_read hx
  rw [hN] at hx ⊢
  exact ⟨p, c, rfl, hx, hb⟩
theorem gridPlaces_any (s : Sp) (place i j : Int) (w : World) : Calls Try.prog 13 #[sv s, .int .i64 place, .int .i64 i, .int .i64 j] w fun e w' => e = .returned (.bool true) ∧ Below w.heap.size w w' := by
  have HN := nodes_t s
  have HC := gcount_t s
  have HSd := sound_t s
  have HQ := place_t s i j
  have HPl := place_t s
  have HT := top9_t s
  have ra := wA_range s
  have rb := wB_range s
  cases h : soundS s with
  | false =>
    have ea : wA s = -1 := by unfold wA; rw [h]; rfl
    have eb : wB s = 0 := by unfold wB; rw [h]; rfl
    rw [ea, eb] at HN HC HQ
    rw [h] at HSd
    have hq : placeN (-1) 0 i j = -1 := by unfold placeN; rw [if_neg (by omega)]
    by_cases g0 : place < 0
    · exact gp_bad_neg s place i j _ _ [] (fun w => ts_sliced3 rfl (HN w)) HC HSd HQ HT g0 hq w
    · exact gp_bad_pos s place i j _ _ [] (fun w => ts_sliced3 rfl (HN w)) HC HSd HQ HT g0 hq w
  | true =>
    obtain ⟨hc1, hc2⟩ := walk_cnt ra.1 ra.2 rb.1 rb.2
    have ea : wA s = depthD s.d0 := by unfold wA; rw [if_pos h]
    have eb : wB s = depthD s.d1 := by unfold wB; rw [if_pos h]
    have ht0 : (topP s).a0 = wA s := by unfold topP; rw [if_pos h, ea]
    have ht1 : (topP s).a1 = wB s := by unfold topP; rw [if_pos h, eb]
    have q0 := depthD_range s.d0
    have hn := (walk_last (a := wA s) (b := wB s) (by omega) rb.1).1
    rw [← hc1] at HC
    rw [h] at HSd
    have HP2 : ∀ (k : Nat) x y, (walkN (wA s) (wB s))[k]? = some (x, y) → ∀ w, Calls Try.prog 43 #[sv s, rv x y] w fun e w' => e = .returned (.int .i64 (k : Int)) ∧ Below w.heap.size w w' := fun k x y hk w => by
      have := HPl x y w
      rw [placeN_of ra.1 rb.1 hk] at this
      exact this
    have hno : ¬ (0 ≤ i ∧ i ≤ wA s ∧ 0 ≤ j ∧ j ≤ wB s) → placeN (wA s) (wB s) i j = -1 := fun hh => by unfold placeN; rw [if_neg hh]
    by_cases g0 : i < 0
    · exact gp_a s place i j _ _ _ _ (fun w => ts_sliced3 rfl (HN w)) HC HSd HQ HT rfl hn hc2 HP2 g0 (hno (by omega)) w
    by_cases g1 : (topP s).a0 < i
    · exact gp_b s place i j _ _ _ _ (fun w => ts_sliced3 rfl (HN w)) HC HSd HQ HT rfl hn hc2 HP2 g0 g1 (hno (by omega)) w
    by_cases g2 : j < 0
    · exact gp_c s place i j _ _ _ _ (fun w => ts_sliced3 rfl (HN w)) HC HSd HQ HT rfl hn hc2 HP2 g0 g1 g2 (hno (by omega)) w
    by_cases g3 : (topP s).a1 < j
    · exact gp_d s place i j _ _ _ _ (fun w => ts_sliced3 rfl (HN w)) HC HSd HQ HT rfl hn hc2 HP2 g0 g1 g2 g3 (hno (by omega)) w
    obtain ⟨e1, e2⟩ := walkN_at (a := wA s) (b := wB s) (x := i) (y := j) (by omega)
    have e3 := (List.getElem?_eq_some_iff.1 e2).1
    exact gp_e s place i j _ _ _ _ (fun w => ts_sliced3 rfl (HN w)) HC HSd HQ HT rfl hn hc2 HP2 g0 g1 g2 g3 e1 (by omega) e2 w
end Go.Proofs.Ytbekocknfpekoaa
