/- T5, SixR3, T6, T7: what the theorem needs of these texts. No conditions beyond those that are written. -/
import Derived.Test.YtboinifeemghaaaGreatDoorCJP2
set_option linter.unusedSimpArgs false
set_option linter.unusedVariables false
set_option maxHeartbeats 4000000
set_option maxRecDepth 100000
namespace Go.Proofs.YtboinifeemghaaaGreatDoor
open Go.RowKit
theorem pp_bad (kd sd st : Int) (t : ByteArray) (w : World)
  (HR : ∀ w', Below w.heap.size w w' → Calls Tryz.prog 20 #[.agg #[.int .i64 kd, .int .i64 sd, .int .i64 st]] w' fun e w'' => e = .returned (.bool false) ∧ Below w'.heap.size w' w'')
  : Calls Tryz.prog 8 #[.agg #[.int .i64 kd, .int .i64 sd, .int .i64 st], .string t] w fun e w' => e = .returned (.tuple #[.int .i64 0, .agg #[.int .i64 0, .int .i64 0, .int .u64 0, .int .u64 0, .string ⟨#[]⟩], .int .i64 1]) ∧ Below w.heap.size w w' := by
 obtain ⟨Rc, Rr, hb0⟩ := two_rows w #[.int .i64 kd, .int .i64 sd, .int .i64 st] #[.int .i64 0, .int .i64 0, .int .u64 0, .int .u64 0, .string ⟨#[]⟩] 23 26
 (try clear c0 c1 c2); obtain ⟨c0, c1, c2⟩ := row3 Rc
 (try clear r0 r1 r2 r3 r4); obtain ⟨r0, r1, r2, r3, r4⟩ := row5 Rr
 go_enter Tryz.func8, Tryz.ntmps8
 go_wp2_with fail
 refine (HR _ hb0).mono ?_
 rintro e w1 ⟨rfl, hb⟩
 replace Rc := Rc.later hb
 replace Rr := Rr.later hb
 replace hb0 := below_step hb0 hb
 clear hb
 have lc := Rc.lt
 have lr := Rr.lt
 (try clear c0 c1 c2); obtain ⟨c0, c1, c2⟩ := row3 Rc
 (try clear r0 r1 r2 r3 r4); obtain ⟨r0, r1, r2, r3, r4⟩ := row5 Rr
 obtain ⟨rf0, rf1, rf2, rf3, rf4⟩ := fz5 Rr
 go_wp2
 obtain ⟨w2, hwk, hwn⟩ := pnm w1 (w.heap.size + 1) 0 [.int .i64 0, .int .i64 0, .int .u64 0, .int .u64 0, .string ⟨#[]⟩]
 simp only [World.setCells] at hwk
 rw [← hwk]; clear hwk
 replace Rr : Row w2 (w.heap.size + 1) #[.int .i64 0, .int .i64 0, .int .u64 0, .int .u64 0, .string ⟨#[]⟩] 26 := psm hwn Rr (by simp [setL])
 replace Rc := prf hwn Rc
 replace hb0 := pbl hwn hb0
 clear hwn c0 c1 c2 r0 r1 r2 r3 r4
 (try clear rf0 rf1 rf2 rf3 rf4)
 (try clear c0 c1 c2); obtain ⟨c0, c1, c2⟩ := row3 Rc
 (try clear r0 r1 r2 r3 r4); obtain ⟨r0, r1, r2, r3, r4⟩ := row5 Rr
 refine bodyPost_ret (v := .tuple #[.int .i64 0, .agg #[.int .i64 0, .int .i64 0, .int .u64 0, .int .u64 0, .string ⟨#[]⟩], .int .i64 1]) (by simp [results, Tryz.results8, go_sem, r0, r1, r2, r3, r4]) rfl ⟨rfl, hb0⟩
theorem pp_x (f : Nat) (kd sd st wd v lv : Int) (k q : Ke) (t A B : ByteArray) (fl : Bool) (wd0 : 0 ≤ wd) (wd1 : wd ≤ 128) (v0 : 0 ≤ v) (v1 : v ≤ 128) (w : World)
  (HF : ∀ (x : Array Value) (w : World), (callFunc f x).run Tryz.prog w = .ok (.enter f x) w)
  (HR : ∀ w', Below w.heap.size w w' → Calls Tryz.prog 20 #[.agg #[.int .i64 kd, .int .i64 sd, .int .i64 st]] w' fun e w'' => e = .returned (.bool true) ∧ Below w'.heap.size w' w'')
  (HC : ∀ w', Below w.heap.size w w' → Calls Tryz.prog 21 #[.string t, .string ⟨#[47]⟩] w' fun e w'' => e = .returned (.tuple #[.string A, .string B, .bool fl]) ∧ Below w'.heap.size w' w'')
  (HP : ∀ w', Below w.heap.size w w' → Calls Tryz.prog 22 #[.int .i64 kd] w' fun e w'' => e = .returned (.func (.func f) #[] #[]) ∧ Below w'.heap.size w' w'')
  (HW : ∀ w', Below w.heap.size w w' → Calls Tryz.prog f #[.string A] w' fun e w'' => e = .returned (.tuple #[kv k, .int .i64 3]) ∧ Below w'.heap.size w' w'')
  (HD : ∀ w', Below w.heap.size w w' → Calls Tryz.prog 24 #[.int .i64 kd] w' fun e w'' => e = .returned (.int .i64 wd) ∧ Below w'.heap.size w' w'')
  (HN : ∀ w', Below w.heap.size w w' → Calls Tryz.prog 23 #[.string B, .int .u64 wd] w' fun e w'' => e = .returned (.tuple #[.int .u64 v, .int .i64 0]) ∧ Below w'.heap.size w' w'')
  : Calls Tryz.prog 8 #[.agg #[.int .i64 kd, .int .i64 sd, .int .i64 st], .string t] w fun e w' => e = .returned (.tuple #[.int .i64 0, .agg #[.int .i64 0, .int .i64 0, .int .u64 0, .int .u64 0, .string ⟨#[]⟩], .int .i64 3]) ∧ Below w.heap.size w w' := by
 have ww : IntKind.u64.wrap wd = wd := by rw [IntKind.wrap_u64]; omega
 unfold kv at *
 obtain ⟨Rc, Rr, hb0⟩ := two_rows w #[.int .i64 kd, .int .i64 sd, .int .i64 st] #[.int .i64 0, .int .i64 0, .int .u64 0, .int .u64 0, .string ⟨#[]⟩] 23 26
 (try clear c0 c1 c2); obtain ⟨c0, c1, c2⟩ := row3 Rc
 (try clear r0 r1 r2 r3 r4); obtain ⟨r0, r1, r2, r3, r4⟩ := row5 Rr
 go_enter Tryz.func8, Tryz.ntmps8
 go_wp2_with fail
 refine (HR _ hb0).mono ?_
 rintro e w1 ⟨rfl, hb⟩
 replace Rc := Rc.later hb
 replace Rr := Rr.later hb
 replace hb0 := below_step hb0 hb
 clear hb
 have lc := Rc.lt
 have lr := Rr.lt
 (try clear c0 c1 c2); obtain ⟨c0, c1, c2⟩ := row3 Rc
 (try clear r0 r1 r2 r3 r4); obtain ⟨r0, r1, r2, r3, r4⟩ := row5 Rr
 go_wp2_with fail
 refine (HC _ hb0).mono ?_
 rintro e w2 ⟨rfl, hb⟩
 replace Rc := Rc.later hb
 replace Rr := Rr.later hb
 replace hb0 := below_step hb0 hb
 clear hb
 have lc := Rc.lt
 have lr := Rr.lt
 (try clear c0 c1 c2); obtain ⟨c0, c1, c2⟩ := row3 Rc
 (try clear r0 r1 r2 r3 r4); obtain ⟨r0, r1, r2, r3, r4⟩ := row5 Rr
 go_wp2_with fail
 refine (HP _ hb0).mono ?_
 rintro e w3 ⟨rfl, hb⟩
 replace Rc := Rc.later hb
 replace Rr := Rr.later hb
 replace hb0 := below_step hb0 hb
 clear hb
 have lc := Rc.lt
 have lr := Rr.lt
 (try clear c0 c1 c2); obtain ⟨c0, c1, c2⟩ := row3 Rc
 (try clear r0 r1 r2 r3 r4); obtain ⟨r0, r1, r2, r3, r4⟩ := row5 Rr
 go_wp2_with fail
 refine (HW _ hb0).mono ?_
 rintro e w4 ⟨rfl, hb⟩
 replace Rc := Rc.later hb
 replace Rr := Rr.later hb
 replace hb0 := below_step hb0 hb
 clear hb
 have lc := Rc.lt
 have lr := Rr.lt
 (try clear c0 c1 c2); obtain ⟨c0, c1, c2⟩ := row3 Rc
 (try clear r0 r1 r2 r3 r4); obtain ⟨r0, r1, r2, r3, r4⟩ := row5 Rr
 go_wp2_with fail
 refine (HD _ (hb0.alloc hb0.size _)).mono ?_
 rintro e w5 ⟨rfl, hb⟩
 have nbc := Rc.lt
 have nbr := Rr.lt
 replace Rc := (Rc.alloc _).later hb
 replace Rr := (Rr.alloc _).later hb
 have Rb := Row.later (Row.new _ _ _) hb
 have mb := hb0.size
 replace hb0 := below_step (hb0.alloc hb0.size _) hb
 clear hb
 generalize w4.heap.size = gb at *
 have lc := Rc.lt
 have lr := Rr.lt
 have lb := Rb.lt
 (try clear c0 c1 c2); obtain ⟨c0, c1, c2⟩ := row3 Rc
 (try clear r0 r1 r2 r3 r4); obtain ⟨r0, r1, r2, r3, r4⟩ := row5 Rr
 (try clear b0 b1 b2 b3 b4); obtain ⟨b0, b1, b2, b3, b4⟩ := row5 Rb
 go_wp2_with fail
 refine (HN _ hb0).mono ?_
 rintro e w6 ⟨rfl, hb⟩
 replace Rc := Rc.later hb
 replace Rr := Rr.later hb
 replace Rb := Rb.later hb
 replace hb0 := below_step hb0 hb
 clear hb
 have lc := Rc.lt
 have lr := Rr.lt
 have lb := Rb.lt
 (try clear c0 c1 c2); obtain ⟨c0, c1, c2⟩ := row3 Rc
 (try clear r0 r1 r2 r3 r4); obtain ⟨r0, r1, r2, r3, r4⟩ := row5 Rr
 (try clear b0 b1 b2 b3 b4); obtain ⟨b0, b1, b2, b3, b4⟩ := row5 Rb
 obtain ⟨rf0, rf1, rf2, rf3, rf4⟩ := fz5 Rr
 go_wp2
 obtain ⟨w7, hwk, hwn⟩ := pnm w6 (w.heap.size + 1) 0 [.int .i64 0, .int .i64 0, .int .u64 0, .int .u64 0, .string ⟨#[]⟩]
 simp only [World.setCells] at hwk
 rw [← hwk]; clear hwk
 replace Rr : Row w7 (w.heap.size + 1) #[.int .i64 0, .int .i64 0, .int .u64 0, .int .u64 0, .string ⟨#[]⟩] 26 := psm hwn Rr (by simp [setL])
 replace Rc := prf hwn Rc
 replace Rb := prf hwn Rb
 replace hb0 := pbl hwn hb0
 clear hwn c0 c1 c2 r0 r1 r2 r3 r4 b0 b1 b2 b3 b4
 (try clear rf0 rf1 rf2 rf3 rf4)
 (try clear c0 c1 c2); obtain ⟨c0, c1, c2⟩ := row3 Rc
 (try clear r0 r1 r2 r3 r4); obtain ⟨r0, r1, r2, r3, r4⟩ := row5 Rr
 (try clear b0 b1 b2 b3 b4); obtain ⟨b0, b1, b2, b3, b4⟩ := row5 Rb
 refine bodyPost_ret (v := .tuple #[.int .i64 0, .agg #[.int .i64 0, .int .i64 0, .int .u64 0, .int .u64 0, .string ⟨#[]⟩], .int .i64 3]) (by simp [results, Tryz.results8, go_sem, r0, r1, r2, r3, r4]) rfl ⟨rfl, hb0⟩
theorem pp_y (f : Nat) (kd sd st wd v lv : Int) (k q : Ke) (t A B : ByteArray) (fl : Bool) (wd0 : 0 ≤ wd) (wd1 : wd ≤ 128) (v0 : 0 ≤ v) (v1 : v ≤ 128) (w : World)
  (HF : ∀ (x : Array Value) (w : World), (callFunc f x).run Tryz.prog w = .ok (.enter f x) w)
  (HR : ∀ w', Below w.heap.size w w' → Calls Tryz.prog 20 #[.agg #[.int .i64 kd, .int .i64 sd, .int .i64 st]] w' fun e w'' => e = .returned (.bool true) ∧ Below w'.heap.size w' w'')
  (HC : ∀ w', Below w.heap.size w w' → Calls Tryz.prog 21 #[.string t, .string ⟨#[47]⟩] w' fun e w'' => e = .returned (.tuple #[.string A, .string B, .bool fl]) ∧ Below w'.heap.size w' w'')
  (HP : ∀ w', Below w.heap.size w w' → Calls Tryz.prog 22 #[.int .i64 kd] w' fun e w'' => e = .returned (.func (.func f) #[] #[]) ∧ Below w'.heap.size w' w'')
  (HW : ∀ w', Below w.heap.size w w' → Calls Tryz.prog f #[.string A] w' fun e w'' => e = .returned (.tuple #[kv k, .int .i64 3]) ∧ Below w'.heap.size w' w'')
  (HD : ∀ w', Below w.heap.size w w' → Calls Tryz.prog 24 #[.int .i64 kd] w' fun e w'' => e = .returned (.int .i64 wd) ∧ Below w'.heap.size w' w'')
  (HN : ∀ w', Below w.heap.size w w' → Calls Tryz.prog 23 #[.string B, .int .u64 wd] w' fun e w'' => e = .returned (.tuple #[.int .u64 v, .int .i64 3]) ∧ Below w'.heap.size w' w'')
  : Calls Tryz.prog 8 #[.agg #[.int .i64 kd, .int .i64 sd, .int .i64 st], .string t] w fun e w' => e = .returned (.tuple #[.int .i64 0, .agg #[.int .i64 0, .int .i64 0, .int .u64 0, .int .u64 0, .string ⟨#[]⟩], .int .i64 3]) ∧ Below w.heap.size w w' := by
 have ww : IntKind.u64.wrap wd = wd := by rw [IntKind.wrap_u64]; omega
 unfold kv at *
 obtain ⟨Rc, Rr, hb0⟩ := two_rows w #[.int .i64 kd, .int .i64 sd, .int .i64 st] #[.int .i64 0, .int .i64 0, .int .u64 0, .int .u64 0, .string ⟨#[]⟩] 23 26
 (try clear c0 c1 c2); obtain ⟨c0, c1, c2⟩ := row3 Rc
 (try clear r0 r1 r2 r3 r4); obtain ⟨r0, r1, r2, r3, r4⟩ := row5 Rr
 go_enter Tryz.func8, Tryz.ntmps8
 go_wp2_with fail
 refine (HR _ hb0).mono ?_
 rintro e w1 ⟨rfl, hb⟩
 replace Rc := Rc.later hb
 replace Rr := Rr.later hb
 replace hb0 := below_step hb0 hb
 clear hb
 have lc := Rc.lt
 have lr := Rr.lt
 (try clear c0 c1 c2); obtain ⟨c0, c1, c2⟩ := row3 Rc
 (try clear r0 r1 r2 r3 r4); obtain ⟨r0, r1, r2, r3, r4⟩ := row5 Rr
 go_wp2_with fail
 refine (HC _ hb0).mono ?_
 rintro e w2 ⟨rfl, hb⟩
 replace Rc := Rc.later hb
 replace Rr := Rr.later hb
 replace hb0 := below_step hb0 hb
 clear hb
 have lc := Rc.lt
 have lr := Rr.lt
 (try clear c0 c1 c2); obtain ⟨c0, c1, c2⟩ := row3 Rc
 (try clear r0 r1 r2 r3 r4); obtain ⟨r0, r1, r2, r3, r4⟩ := row5 Rr
 go_wp2_with fail
 refine (HP _ hb0).mono ?_
 rintro e w3 ⟨rfl, hb⟩
 replace Rc := Rc.later hb
 replace Rr := Rr.later hb
 replace hb0 := below_step hb0 hb
 clear hb
 have lc := Rc.lt
 have lr := Rr.lt
 (try clear c0 c1 c2); obtain ⟨c0, c1, c2⟩ := row3 Rc
 (try clear r0 r1 r2 r3 r4); obtain ⟨r0, r1, r2, r3, r4⟩ := row5 Rr
 go_wp2_with fail
 refine (HW _ hb0).mono ?_
 rintro e w4 ⟨rfl, hb⟩
 replace Rc := Rc.later hb
 replace Rr := Rr.later hb
 replace hb0 := below_step hb0 hb
 clear hb
 have lc := Rc.lt
 have lr := Rr.lt
 (try clear c0 c1 c2); obtain ⟨c0, c1, c2⟩ := row3 Rc
 (try clear r0 r1 r2 r3 r4); obtain ⟨r0, r1, r2, r3, r4⟩ := row5 Rr
 go_wp2_with fail
 refine (HD _ (hb0.alloc hb0.size _)).mono ?_
 rintro e w5 ⟨rfl, hb⟩
 have nbc := Rc.lt
 have nbr := Rr.lt
 replace Rc := (Rc.alloc _).later hb
 replace Rr := (Rr.alloc _).later hb
 have Rb := Row.later (Row.new _ _ _) hb
 have mb := hb0.size
 replace hb0 := below_step (hb0.alloc hb0.size _) hb
 clear hb
 generalize w4.heap.size = gb at *
 have lc := Rc.lt
 have lr := Rr.lt
 have lb := Rb.lt
 (try clear c0 c1 c2); obtain ⟨c0, c1, c2⟩ := row3 Rc
 (try clear r0 r1 r2 r3 r4); obtain ⟨r0, r1, r2, r3, r4⟩ := row5 Rr
 (try clear b0 b1 b2 b3 b4); obtain ⟨b0, b1, b2, b3, b4⟩ := row5 Rb
 go_wp2_with fail
 refine (HN _ hb0).mono ?_
 rintro e w6 ⟨rfl, hb⟩
 replace Rc := Rc.later hb
 replace Rr := Rr.later hb
 replace Rb := Rb.later hb
 replace hb0 := below_step hb0 hb
 clear hb
 have lc := Rc.lt
 have lr := Rr.lt
 have lb := Rb.lt
 (try clear c0 c1 c2); obtain ⟨c0, c1, c2⟩ := row3 Rc
 (try clear r0 r1 r2 r3 r4); obtain ⟨r0, r1, r2, r3, r4⟩ := row5 Rr
 (try clear b0 b1 b2 b3 b4); obtain ⟨b0, b1, b2, b3, b4⟩ := row5 Rb
 obtain ⟨rf0, rf1, rf2, rf3, rf4⟩ := fz5 Rr
 go_wp2
 obtain ⟨w7, hwk, hwn⟩ := pnm w6 (w.heap.size + 1) 0 [.int .i64 0, .int .i64 0, .int .u64 0, .int .u64 0, .string ⟨#[]⟩]
 simp only [World.setCells] at hwk
 rw [← hwk]; clear hwk
 replace Rr : Row w7 (w.heap.size + 1) #[.int .i64 0, .int .i64 0, .int .u64 0, .int .u64 0, .string ⟨#[]⟩] 26 := psm hwn Rr (by simp [setL])
 replace Rc := prf hwn Rc
 replace Rb := prf hwn Rb
 replace hb0 := pbl hwn hb0
 clear hwn c0 c1 c2 r0 r1 r2 r3 r4 b0 b1 b2 b3 b4
 (try clear rf0 rf1 rf2 rf3 rf4)
 (try clear c0 c1 c2); obtain ⟨c0, c1, c2⟩ := row3 Rc
 (try clear r0 r1 r2 r3 r4); obtain ⟨r0, r1, r2, r3, r4⟩ := row5 Rr
 (try clear b0 b1 b2 b3 b4); obtain ⟨b0, b1, b2, b3, b4⟩ := row5 Rb
 refine bodyPost_ret (v := .tuple #[.int .i64 0, .agg #[.int .i64 0, .int .i64 0, .int .u64 0, .int .u64 0, .string ⟨#[]⟩], .int .i64 3]) (by simp [results, Tryz.results8, go_sem, r0, r1, r2, r3, r4]) rfl ⟨rfl, hb0⟩
theorem pp_z (f : Nat) (kd sd st wd v lv : Int) (k q : Ke) (t A B : ByteArray) (fl : Bool) (wd0 : 0 ≤ wd) (wd1 : wd ≤ 128) (v0 : 0 ≤ v) (v1 : v ≤ 128) (w : World)
  (HF : ∀ (x : Array Value) (w : World), (callFunc f x).run Tryz.prog w = .ok (.enter f x) w)
  (HR : ∀ w', Below w.heap.size w w' → Calls Tryz.prog 20 #[.agg #[.int .i64 kd, .int .i64 sd, .int .i64 st]] w' fun e w'' => e = .returned (.bool true) ∧ Below w'.heap.size w' w'')
  (HC : ∀ w', Below w.heap.size w w' → Calls Tryz.prog 21 #[.string t, .string ⟨#[47]⟩] w' fun e w'' => e = .returned (.tuple #[.string A, .string B, .bool fl]) ∧ Below w'.heap.size w' w'')
  (HP : ∀ w', Below w.heap.size w w' → Calls Tryz.prog 22 #[.int .i64 kd] w' fun e w'' => e = .returned (.func (.func f) #[] #[]) ∧ Below w'.heap.size w' w'')
  (HW : ∀ w', Below w.heap.size w w' → Calls Tryz.prog f #[.string A] w' fun e w'' => e = .returned (.tuple #[kv k, .int .i64 3]) ∧ Below w'.heap.size w' w'')
  (HD : ∀ w', Below w.heap.size w w' → Calls Tryz.prog 24 #[.int .i64 kd] w' fun e w'' => e = .returned (.int .i64 wd) ∧ Below w'.heap.size w' w'')
  (HN : ∀ w', Below w.heap.size w w' → Calls Tryz.prog 23 #[.string B, .int .u64 wd] w' fun e w'' => e = .returned (.tuple #[.int .u64 v, .int .i64 11]) ∧ Below w'.heap.size w' w'')
  : Calls Tryz.prog 8 #[.agg #[.int .i64 kd, .int .i64 sd, .int .i64 st], .string t] w fun e w' => e = .returned (.tuple #[.int .i64 0, .agg #[.int .i64 0, .int .i64 0, .int .u64 0, .int .u64 0, .string ⟨#[]⟩], .int .i64 3]) ∧ Below w.heap.size w w' := by
 have ww : IntKind.u64.wrap wd = wd := by rw [IntKind.wrap_u64]; omega
 unfold kv at *
 obtain ⟨Rc, Rr, hb0⟩ := two_rows w #[.int .i64 kd, .int .i64 sd, .int .i64 st] #[.int .i64 0, .int .i64 0, .int .u64 0, .int .u64 0, .string ⟨#[]⟩] 23 26
 (try clear c0 c1 c2); obtain ⟨c0, c1, c2⟩ := row3 Rc
 (try clear r0 r1 r2 r3 r4); obtain ⟨r0, r1, r2, r3, r4⟩ := row5 Rr
 go_enter Tryz.func8, Tryz.ntmps8
 go_wp2_with fail
 refine (HR _ hb0).mono ?_
 rintro e w1 ⟨rfl, hb⟩
 replace Rc := Rc.later hb
 replace Rr := Rr.later hb
 replace hb0 := below_step hb0 hb
 clear hb
 have lc := Rc.lt
 have lr := Rr.lt
 (try clear c0 c1 c2); obtain ⟨c0, c1, c2⟩ := row3 Rc
 (try clear r0 r1 r2 r3 r4); obtain ⟨r0, r1, r2, r3, r4⟩ := row5 Rr
 go_wp2_with fail
 refine (HC _ hb0).mono ?_
 rintro e w2 ⟨rfl, hb⟩
 replace Rc := Rc.later hb
 replace Rr := Rr.later hb
 replace hb0 := below_step hb0 hb
 clear hb
 have lc := Rc.lt
 have lr := Rr.lt
 (try clear c0 c1 c2); obtain ⟨c0, c1, c2⟩ := row3 Rc
 (try clear r0 r1 r2 r3 r4); obtain ⟨r0, r1, r2, r3, r4⟩ := row5 Rr
 go_wp2_with fail
 refine (HP _ hb0).mono ?_
 rintro e w3 ⟨rfl, hb⟩
 replace Rc := Rc.later hb
 replace Rr := Rr.later hb
 replace hb0 := below_step hb0 hb
 clear hb
 have lc := Rc.lt
 have lr := Rr.lt
 (try clear c0 c1 c2); obtain ⟨c0, c1, c2⟩ := row3 Rc
 (try clear r0 r1 r2 r3 r4); obtain ⟨r0, r1, r2, r3, r4⟩ := row5 Rr
 go_wp2_with fail
 refine (HW _ hb0).mono ?_
 rintro e w4 ⟨rfl, hb⟩
 replace Rc := Rc.later hb
 replace Rr := Rr.later hb
 replace hb0 := below_step hb0 hb
 clear hb
 have lc := Rc.lt
 have lr := Rr.lt
 (try clear c0 c1 c2); obtain ⟨c0, c1, c2⟩ := row3 Rc
 (try clear r0 r1 r2 r3 r4); obtain ⟨r0, r1, r2, r3, r4⟩ := row5 Rr
 go_wp2_with fail
 refine (HD _ (hb0.alloc hb0.size _)).mono ?_
 rintro e w5 ⟨rfl, hb⟩
 have nbc := Rc.lt
 have nbr := Rr.lt
 replace Rc := (Rc.alloc _).later hb
 replace Rr := (Rr.alloc _).later hb
 have Rb := Row.later (Row.new _ _ _) hb
 have mb := hb0.size
 replace hb0 := below_step (hb0.alloc hb0.size _) hb
 clear hb
 generalize w4.heap.size = gb at *
 have lc := Rc.lt
 have lr := Rr.lt
 have lb := Rb.lt
 (try clear c0 c1 c2); obtain ⟨c0, c1, c2⟩ := row3 Rc
 (try clear r0 r1 r2 r3 r4); obtain ⟨r0, r1, r2, r3, r4⟩ := row5 Rr
 (try clear b0 b1 b2 b3 b4); obtain ⟨b0, b1, b2, b3, b4⟩ := row5 Rb
 go_wp2_with fail
 refine (HN _ hb0).mono ?_
 rintro e w6 ⟨rfl, hb⟩
 replace Rc := Rc.later hb
 replace Rr := Rr.later hb
 replace Rb := Rb.later hb
 replace hb0 := below_step hb0 hb
 clear hb
 have lc := Rc.lt
 have lr := Rr.lt
 have lb := Rb.lt
 (try clear c0 c1 c2); obtain ⟨c0, c1, c2⟩ := row3 Rc
 (try clear r0 r1 r2 r3 r4); obtain ⟨r0, r1, r2, r3, r4⟩ := row5 Rr
 (try clear b0 b1 b2 b3 b4); obtain ⟨b0, b1, b2, b3, b4⟩ := row5 Rb
 obtain ⟨rf0, rf1, rf2, rf3, rf4⟩ := fz5 Rr
 go_wp2
 obtain ⟨w7, hwk, hwn⟩ := pnm w6 (w.heap.size + 1) 0 [.int .i64 0, .int .i64 0, .int .u64 0, .int .u64 0, .string ⟨#[]⟩]
 simp only [World.setCells] at hwk
 rw [← hwk]; clear hwk
 replace Rr : Row w7 (w.heap.size + 1) #[.int .i64 0, .int .i64 0, .int .u64 0, .int .u64 0, .string ⟨#[]⟩] 26 := psm hwn Rr (by simp [setL])
 replace Rc := prf hwn Rc
 replace Rb := prf hwn Rb
 replace hb0 := pbl hwn hb0
 clear hwn c0 c1 c2 r0 r1 r2 r3 r4 b0 b1 b2 b3 b4
 (try clear rf0 rf1 rf2 rf3 rf4)
 (try clear c0 c1 c2); obtain ⟨c0, c1, c2⟩ := row3 Rc
 (try clear r0 r1 r2 r3 r4); obtain ⟨r0, r1, r2, r3, r4⟩ := row5 Rr
 (try clear b0 b1 b2 b3 b4); obtain ⟨b0, b1, b2, b3, b4⟩ := row5 Rb
 refine bodyPost_ret (v := .tuple #[.int .i64 0, .agg #[.int .i64 0, .int .i64 0, .int .u64 0, .int .u64 0, .string ⟨#[]⟩], .int .i64 3]) (by simp [results, Tryz.results8, go_sem, r0, r1, r2, r3, r4]) rfl ⟨rfl, hb0⟩
theorem pp_f (f : Nat) (kd sd st wd v lv : Int) (k q : Ke) (t A B : ByteArray) (fl : Bool) (wd0 : 0 ≤ wd) (wd1 : wd ≤ 128) (v0 : 0 ≤ v) (v1 : v ≤ 128) (w : World)
  (HF : ∀ (x : Array Value) (w : World), (callFunc f x).run Tryz.prog w = .ok (.enter f x) w)
  (HR : ∀ w', Below w.heap.size w w' → Calls Tryz.prog 20 #[.agg #[.int .i64 kd, .int .i64 sd, .int .i64 st]] w' fun e w'' => e = .returned (.bool true) ∧ Below w'.heap.size w' w'')
  (HC : ∀ w', Below w.heap.size w w' → Calls Tryz.prog 21 #[.string t, .string ⟨#[47]⟩] w' fun e w'' => e = .returned (.tuple #[.string A, .string B, .bool fl]) ∧ Below w'.heap.size w' w'')
  (HP : ∀ w', Below w.heap.size w w' → Calls Tryz.prog 22 #[.int .i64 kd] w' fun e w'' => e = .returned (.func (.func f) #[] #[]) ∧ Below w'.heap.size w' w'')
  (HW : ∀ w', Below w.heap.size w w' → Calls Tryz.prog f #[.string A] w' fun e w'' => e = .returned (.tuple #[kv k, .int .i64 0]) ∧ Below w'.heap.size w' w'')
  (HD : ∀ w', Below w.heap.size w w' → Calls Tryz.prog 24 #[.int .i64 kd] w' fun e w'' => e = .returned (.int .i64 wd) ∧ Below w'.heap.size w' w'')
  (HN : ∀ w', Below w.heap.size w w' → Calls Tryz.prog 23 #[.string B, .int .u64 wd] w' fun e w'' => e = .returned (.tuple #[.int .u64 v, .int .i64 3]) ∧ Below w'.heap.size w' w'')
  : Calls Tryz.prog 8 #[.agg #[.int .i64 kd, .int .i64 sd, .int .i64 st], .string t] w fun e w' => e = .returned (.tuple #[.int .i64 0, .agg #[.int .i64 0, .int .i64 0, .int .u64 0, .int .u64 0, .string ⟨#[]⟩], .int .i64 3]) ∧ Below w.heap.size w w' := by
 have ww : IntKind.u64.wrap wd = wd := by rw [IntKind.wrap_u64]; omega
 unfold kv at *
 obtain ⟨Rc, Rr, hb0⟩ := two_rows w #[.int .i64 kd, .int .i64 sd, .int .i64 st] #[.int .i64 0, .int .i64 0, .int .u64 0, .int .u64 0, .string ⟨#[]⟩] 23 26
 (try clear c0 c1 c2); obtain ⟨c0, c1, c2⟩ := row3 Rc
 (try clear r0 r1 r2 r3 r4); obtain ⟨r0, r1, r2, r3, r4⟩ := row5 Rr
 go_enter Tryz.func8, Tryz.ntmps8
 go_wp2_with fail
 refine (HR _ hb0).mono ?_
 rintro e w1 ⟨rfl, hb⟩
 replace Rc := Rc.later hb
 replace Rr := Rr.later hb
 replace hb0 := below_step hb0 hb
 clear hb
 have lc := Rc.lt
 have lr := Rr.lt
 (try clear c0 c1 c2); obtain ⟨c0, c1, c2⟩ := row3 Rc
 (try clear r0 r1 r2 r3 r4); obtain ⟨r0, r1, r2, r3, r4⟩ := row5 Rr
 go_wp2_with fail
 refine (HC _ hb0).mono ?_
 rintro e w2 ⟨rfl, hb⟩
 replace Rc := Rc.later hb
 replace Rr := Rr.later hb
 replace hb0 := below_step hb0 hb
 clear hb
 have lc := Rc.lt
 have lr := Rr.lt
 (try clear c0 c1 c2); obtain ⟨c0, c1, c2⟩ := row3 Rc
 (try clear r0 r1 r2 r3 r4); obtain ⟨r0, r1, r2, r3, r4⟩ := row5 Rr
 go_wp2_with fail
 refine (HP _ hb0).mono ?_
 rintro e w3 ⟨rfl, hb⟩
 replace Rc := Rc.later hb
 replace Rr := Rr.later hb
 replace hb0 := below_step hb0 hb
 clear hb
 have lc := Rc.lt
 have lr := Rr.lt
 (try clear c0 c1 c2); obtain ⟨c0, c1, c2⟩ := row3 Rc
 (try clear r0 r1 r2 r3 r4); obtain ⟨r0, r1, r2, r3, r4⟩ := row5 Rr
 go_wp2_with fail
 refine (HW _ hb0).mono ?_
 rintro e w4 ⟨rfl, hb⟩
 replace Rc := Rc.later hb
 replace Rr := Rr.later hb
 replace hb0 := below_step hb0 hb
 clear hb
 have lc := Rc.lt
 have lr := Rr.lt
 (try clear c0 c1 c2); obtain ⟨c0, c1, c2⟩ := row3 Rc
 (try clear r0 r1 r2 r3 r4); obtain ⟨r0, r1, r2, r3, r4⟩ := row5 Rr
 go_wp2_with fail
 refine (HD _ (hb0.alloc hb0.size _)).mono ?_
 rintro e w5 ⟨rfl, hb⟩
 have nbc := Rc.lt
 have nbr := Rr.lt
 replace Rc := (Rc.alloc _).later hb
 replace Rr := (Rr.alloc _).later hb
 have Rb := Row.later (Row.new _ _ _) hb
 have mb := hb0.size
 replace hb0 := below_step (hb0.alloc hb0.size _) hb
 clear hb
 generalize w4.heap.size = gb at *
 have lc := Rc.lt
 have lr := Rr.lt
 have lb := Rb.lt
 (try clear c0 c1 c2); obtain ⟨c0, c1, c2⟩ := row3 Rc
 (try clear r0 r1 r2 r3 r4); obtain ⟨r0, r1, r2, r3, r4⟩ := row5 Rr
 (try clear b0 b1 b2 b3 b4); obtain ⟨b0, b1, b2, b3, b4⟩ := row5 Rb
 go_wp2_with fail
 refine (HN _ hb0).mono ?_
 rintro e w6 ⟨rfl, hb⟩
 replace Rc := Rc.later hb
 replace Rr := Rr.later hb
 replace Rb := Rb.later hb
 replace hb0 := below_step hb0 hb
 clear hb
 have lc := Rc.lt
 have lr := Rr.lt
 have lb := Rb.lt
 (try clear c0 c1 c2); obtain ⟨c0, c1, c2⟩ := row3 Rc
 (try clear r0 r1 r2 r3 r4); obtain ⟨r0, r1, r2, r3, r4⟩ := row5 Rr
 (try clear b0 b1 b2 b3 b4); obtain ⟨b0, b1, b2, b3, b4⟩ := row5 Rb
 obtain ⟨rf0, rf1, rf2, rf3, rf4⟩ := fz5 Rr
 go_wp2
 obtain ⟨w7, hwk, hwn⟩ := pnm w6 (w.heap.size + 1) 0 [.int .i64 0, .int .i64 0, .int .u64 0, .int .u64 0, .string ⟨#[]⟩]
 simp only [World.setCells] at hwk
 rw [← hwk]; clear hwk
 replace Rr : Row w7 (w.heap.size + 1) #[.int .i64 0, .int .i64 0, .int .u64 0, .int .u64 0, .string ⟨#[]⟩] 26 := psm hwn Rr (by simp [setL])
 replace Rc := prf hwn Rc
 replace Rb := prf hwn Rb
 replace hb0 := pbl hwn hb0
 clear hwn c0 c1 c2 r0 r1 r2 r3 r4 b0 b1 b2 b3 b4
 (try clear rf0 rf1 rf2 rf3 rf4)
 (try clear c0 c1 c2); obtain ⟨c0, c1, c2⟩ := row3 Rc
 (try clear r0 r1 r2 r3 r4); obtain ⟨r0, r1, r2, r3, r4⟩ := row5 Rr
 (try clear b0 b1 b2 b3 b4); obtain ⟨b0, b1, b2, b3, b4⟩ := row5 Rb
 refine bodyPost_ret (v := .tuple #[.int .i64 0, .agg #[.int .i64 0, .int .i64 0, .int .u64 0, .int .u64 0, .string ⟨#[]⟩], .int .i64 3]) (by simp [results, Tryz.results8, go_sem, r0, r1, r2, r3, r4]) rfl ⟨rfl, hb0⟩
theorem pp_o (f : Nat) (kd sd st wd v lv : Int) (k q : Ke) (t A B : ByteArray) (fl : Bool) (wd0 : 0 ≤ wd) (wd1 : wd ≤ 128) (v0 : 0 ≤ v) (v1 : v ≤ 128) (w : World)
  (HF : ∀ (x : Array Value) (w : World), (callFunc f x).run Tryz.prog w = .ok (.enter f x) w)
  (HR : ∀ w', Below w.heap.size w w' → Calls Tryz.prog 20 #[.agg #[.int .i64 kd, .int .i64 sd, .int .i64 st]] w' fun e w'' => e = .returned (.bool true) ∧ Below w'.heap.size w' w'')
  (HC : ∀ w', Below w.heap.size w w' → Calls Tryz.prog 21 #[.string t, .string ⟨#[47]⟩] w' fun e w'' => e = .returned (.tuple #[.string A, .string B, .bool fl]) ∧ Below w'.heap.size w' w'')
  (HP : ∀ w', Below w.heap.size w w' → Calls Tryz.prog 22 #[.int .i64 kd] w' fun e w'' => e = .returned (.func (.func f) #[] #[]) ∧ Below w'.heap.size w' w'')
  (HW : ∀ w', Below w.heap.size w w' → Calls Tryz.prog f #[.string A] w' fun e w'' => e = .returned (.tuple #[kv k, .int .i64 0]) ∧ Below w'.heap.size w' w'')
  (HD : ∀ w', Below w.heap.size w w' → Calls Tryz.prog 24 #[.int .i64 kd] w' fun e w'' => e = .returned (.int .i64 wd) ∧ Below w'.heap.size w' w'')
  (HN : ∀ w', Below w.heap.size w w' → Calls Tryz.prog 23 #[.string B, .int .u64 wd] w' fun e w'' => e = .returned (.tuple #[.int .u64 v, .int .i64 11]) ∧ Below w'.heap.size w' w'')
  : Calls Tryz.prog 8 #[.agg #[.int .i64 kd, .int .i64 sd, .int .i64 st], .string t] w fun e w' => e = .returned (.tuple #[.int .i64 0, .agg #[.int .i64 0, .int .i64 0, .int .u64 0, .int .u64 0, .string ⟨#[]⟩], .int .i64 14]) ∧ Below w.heap.size w w' := by
 have ww : IntKind.u64.wrap wd = wd := by rw [IntKind.wrap_u64]; omega
 unfold kv at *
 obtain ⟨Rc, Rr, hb0⟩ := two_rows w #[.int .i64 kd, .int .i64 sd, .int .i64 st] #[.int .i64 0, .int .i64 0, .int .u64 0, .int .u64 0, .string ⟨#[]⟩] 23 26
 (try clear c0 c1 c2); obtain ⟨c0, c1, c2⟩ := row3 Rc
 (try clear r0 r1 r2 r3 r4); obtain ⟨r0, r1, r2, r3, r4⟩ := row5 Rr
 go_enter Tryz.func8, Tryz.ntmps8
 go_wp2_with fail
 refine (HR _ hb0).mono ?_
 rintro e w1 ⟨rfl, hb⟩
 replace Rc := Rc.later hb
 replace Rr := Rr.later hb
 replace hb0 := below_step hb0 hb
 clear hb
 have lc := Rc.lt
 have lr := Rr.lt
 (try clear c0 c1 c2); obtain ⟨c0, c1, c2⟩ := row3 Rc
 (try clear r0 r1 r2 r3 r4); obtain ⟨r0, r1, r2, r3, r4⟩ := row5 Rr
 go_wp2_with fail
 refine (HC _ hb0).mono ?_
 rintro e w2 ⟨rfl, hb⟩
 replace Rc := Rc.later hb
 replace Rr := Rr.later hb
 replace hb0 := below_step hb0 hb
 clear hb
 have lc := Rc.lt
 have lr := Rr.lt
 (try clear c0 c1 c2); obtain ⟨c0, c1, c2⟩ := row3 Rc
 (try clear r0 r1 r2 r3 r4); obtain ⟨r0, r1, r2, r3, r4⟩ := row5 Rr
 go_wp2_with fail
 refine (HP _ hb0).mono ?_
 rintro e w3 ⟨rfl, hb⟩
 replace Rc := Rc.later hb
 replace Rr := Rr.later hb
 replace hb0 := below_step hb0 hb
 clear hb
 have lc := Rc.lt
 have lr := Rr.lt
 (try clear c0 c1 c2); obtain ⟨c0, c1, c2⟩ := row3 Rc
 (try clear r0 r1 r2 r3 r4); obtain ⟨r0, r1, r2, r3, r4⟩ := row5 Rr
 go_wp2_with fail
 refine (HW _ hb0).mono ?_
 rintro e w4 ⟨rfl, hb⟩
 replace Rc := Rc.later hb
 replace Rr := Rr.later hb
 replace hb0 := below_step hb0 hb
 clear hb
 have lc := Rc.lt
 have lr := Rr.lt
 (try clear c0 c1 c2); obtain ⟨c0, c1, c2⟩ := row3 Rc
 (try clear r0 r1 r2 r3 r4); obtain ⟨r0, r1, r2, r3, r4⟩ := row5 Rr
 go_wp2_with fail
 refine (HD _ (hb0.alloc hb0.size _)).mono ?_
 rintro e w5 ⟨rfl, hb⟩
 have nbc := Rc.lt
 have nbr := Rr.lt
 replace Rc := (Rc.alloc _).later hb
 replace Rr := (Rr.alloc _).later hb
 have Rb := Row.later (Row.new _ _ _) hb
 have mb := hb0.size
 replace hb0 := below_step (hb0.alloc hb0.size _) hb
 clear hb
 generalize w4.heap.size = gb at *
 have lc := Rc.lt
 have lr := Rr.lt
 have lb := Rb.lt
 (try clear c0 c1 c2); obtain ⟨c0, c1, c2⟩ := row3 Rc
 (try clear r0 r1 r2 r3 r4); obtain ⟨r0, r1, r2, r3, r4⟩ := row5 Rr
 (try clear b0 b1 b2 b3 b4); obtain ⟨b0, b1, b2, b3, b4⟩ := row5 Rb
 go_wp2_with fail
 refine (HN _ hb0).mono ?_
 rintro e w6 ⟨rfl, hb⟩
 replace Rc := Rc.later hb
 replace Rr := Rr.later hb
 replace Rb := Rb.later hb
 replace hb0 := below_step hb0 hb
 clear hb
 have lc := Rc.lt
 have lr := Rr.lt
 have lb := Rb.lt
 (try clear c0 c1 c2); obtain ⟨c0, c1, c2⟩ := row3 Rc
 (try clear r0 r1 r2 r3 r4); obtain ⟨r0, r1, r2, r3, r4⟩ := row5 Rr
 (try clear b0 b1 b2 b3 b4); obtain ⟨b0, b1, b2, b3, b4⟩ := row5 Rb
 obtain ⟨rf0, rf1, rf2, rf3, rf4⟩ := fz5 Rr
 go_wp2
 obtain ⟨w7, hwk, hwn⟩ := pnm w6 (w.heap.size + 1) 0 [.int .i64 0, .int .i64 0, .int .u64 0, .int .u64 0, .string ⟨#[]⟩]
 simp only [World.setCells] at hwk
 rw [← hwk]; clear hwk
 replace Rr : Row w7 (w.heap.size + 1) #[.int .i64 0, .int .i64 0, .int .u64 0, .int .u64 0, .string ⟨#[]⟩] 26 := psm hwn Rr (by simp [setL])
 replace Rc := prf hwn Rc
 replace Rb := prf hwn Rb
 replace hb0 := pbl hwn hb0
 clear hwn c0 c1 c2 r0 r1 r2 r3 r4 b0 b1 b2 b3 b4
 (try clear rf0 rf1 rf2 rf3 rf4)
 (try clear c0 c1 c2); obtain ⟨c0, c1, c2⟩ := row3 Rc
 (try clear r0 r1 r2 r3 r4); obtain ⟨r0, r1, r2, r3, r4⟩ := row5 Rr
 (try clear b0 b1 b2 b3 b4); obtain ⟨b0, b1, b2, b3, b4⟩ := row5 Rb
 refine bodyPost_ret (v := .tuple #[.int .i64 0, .agg #[.int .i64 0, .int .i64 0, .int .u64 0, .int .u64 0, .string ⟨#[]⟩], .int .i64 14]) (by simp [results, Tryz.results8, go_sem, r0, r1, r2, r3, r4]) rfl ⟨rfl, hb0⟩
theorem pp_n (f : Nat) (kd sd st wd v lv : Int) (k q : Ke) (t A B : ByteArray) (fl : Bool) (wd0 : 0 ≤ wd) (wd1 : wd ≤ 128) (v0 : 0 ≤ v) (v1 : v ≤ 128) (w : World)
  (HF : ∀ (x : Array Value) (w : World), (callFunc f x).run Tryz.prog w = .ok (.enter f x) w)
  (HR : ∀ w', Below w.heap.size w w' → Calls Tryz.prog 20 #[.agg #[.int .i64 kd, .int .i64 sd, .int .i64 st]] w' fun e w'' => e = .returned (.bool true) ∧ Below w'.heap.size w' w'')
  (HC : ∀ w', Below w.heap.size w w' → Calls Tryz.prog 21 #[.string t, .string ⟨#[47]⟩] w' fun e w'' => e = .returned (.tuple #[.string A, .string B, .bool fl]) ∧ Below w'.heap.size w' w'')
  (HP : ∀ w', Below w.heap.size w w' → Calls Tryz.prog 22 #[.int .i64 kd] w' fun e w'' => e = .returned (.func (.func f) #[] #[]) ∧ Below w'.heap.size w' w'')
  (HW : ∀ w', Below w.heap.size w w' → Calls Tryz.prog f #[.string A] w' fun e w'' => e = .returned (.tuple #[kv k, .int .i64 0]) ∧ Below w'.heap.size w' w'')
  (HD : ∀ w', Below w.heap.size w w' → Calls Tryz.prog 24 #[.int .i64 kd] w' fun e w'' => e = .returned (.int .i64 wd) ∧ Below w'.heap.size w' w'')
  (HN : ∀ w', Below w.heap.size w w' → Calls Tryz.prog 23 #[.string B, .int .u64 wd] w' fun e w'' => e = .returned (.tuple #[.int .u64 v, .int .i64 0]) ∧ Below w'.heap.size w' w'')
  (HL : ∀ w', Below w.heap.size w w' → Calls Tryz.prog 25 #[.agg #[.int .i64 kd, .int .i64 sd, .int .i64 st], .int .i64 v] w' fun e w'' => e = .returned (.int .i64 lv) ∧ Below w'.heap.size w' w'')
  (HK : ∀ w', Below w.heap.size w w' → Calls Tryz.prog 26 #[.agg #[.int .i64 kd, .int .i64 sd, .int .i64 st], .int .i64 lv, kv k] w' fun e w'' => e = .returned (kv q) ∧ Below w'.heap.size w' w'')
  (HA : ∀ w', Below w.heap.size w w' → Calls Tryz.prog 27 #[kv q, kv k] w' fun e w'' => e = .returned (.bool false) ∧ Below w'.heap.size w' w'')
  : Calls Tryz.prog 8 #[.agg #[.int .i64 kd, .int .i64 sd, .int .i64 st], .string t] w fun e w' => e = .returned (.tuple #[.int .i64 0, .agg #[.int .i64 0, .int .i64 0, .int .u64 0, .int .u64 0, .string ⟨#[]⟩], .int .i64 14]) ∧ Below w.heap.size w w' := by
 have ww : IntKind.u64.wrap wd = wd := by rw [IntKind.wrap_u64]; omega
 have wv : IntKind.i64.wrap v = v := by rw [IntKind.wrap_i64]; omega
 unfold kv at *
 obtain ⟨Rc, Rr, hb0⟩ := two_rows w #[.int .i64 kd, .int .i64 sd, .int .i64 st] #[.int .i64 0, .int .i64 0, .int .u64 0, .int .u64 0, .string ⟨#[]⟩] 23 26
 (try clear c0 c1 c2); obtain ⟨c0, c1, c2⟩ := row3 Rc
 (try clear r0 r1 r2 r3 r4); obtain ⟨r0, r1, r2, r3, r4⟩ := row5 Rr
 go_enter Tryz.func8, Tryz.ntmps8
 go_wp2_with fail
 refine (HR _ hb0).mono ?_
 rintro e w1 ⟨rfl, hb⟩
 replace Rc := Rc.later hb
 replace Rr := Rr.later hb
 replace hb0 := below_step hb0 hb
 clear hb
 have lc := Rc.lt
 have lr := Rr.lt
 (try clear c0 c1 c2); obtain ⟨c0, c1, c2⟩ := row3 Rc
 (try clear r0 r1 r2 r3 r4); obtain ⟨r0, r1, r2, r3, r4⟩ := row5 Rr
 go_wp2_with fail
 refine (HC _ hb0).mono ?_
 rintro e w2 ⟨rfl, hb⟩
 replace Rc := Rc.later hb
 replace Rr := Rr.later hb
 replace hb0 := below_step hb0 hb
 clear hb
 have lc := Rc.lt
 have lr := Rr.lt
 (try clear c0 c1 c2); obtain ⟨c0, c1, c2⟩ := row3 Rc
 (try clear r0 r1 r2 r3 r4); obtain ⟨r0, r1, r2, r3, r4⟩ := row5 Rr
 go_wp2_with fail
 refine (HP _ hb0).mono ?_
 rintro e w3 ⟨rfl, hb⟩
 replace Rc := Rc.later hb
 replace Rr := Rr.later hb
 replace hb0 := below_step hb0 hb
 clear hb
 have lc := Rc.lt
 have lr := Rr.lt
 (try clear c0 c1 c2); obtain ⟨c0, c1, c2⟩ := row3 Rc
 (try clear r0 r1 r2 r3 r4); obtain ⟨r0, r1, r2, r3, r4⟩ := row5 Rr
 go_wp2_with fail
 refine (HW _ hb0).mono ?_
 rintro e w4 ⟨rfl, hb⟩
 replace Rc := Rc.later hb
 replace Rr := Rr.later hb
 replace hb0 := below_step hb0 hb
 clear hb
 have lc := Rc.lt
 have lr := Rr.lt
 (try clear c0 c1 c2); obtain ⟨c0, c1, c2⟩ := row3 Rc
 (try clear r0 r1 r2 r3 r4); obtain ⟨r0, r1, r2, r3, r4⟩ := row5 Rr
 go_wp2_with fail
 refine (HD _ (hb0.alloc hb0.size _)).mono ?_
 rintro e w5 ⟨rfl, hb⟩
 have nbc := Rc.lt
 have nbr := Rr.lt
 replace Rc := (Rc.alloc _).later hb
 replace Rr := (Rr.alloc _).later hb
 have Rb := Row.later (Row.new _ _ _) hb
 have mb := hb0.size
 replace hb0 := below_step (hb0.alloc hb0.size _) hb
 clear hb
 generalize w4.heap.size = gb at *
 have lc := Rc.lt
 have lr := Rr.lt
 have lb := Rb.lt
 (try clear c0 c1 c2); obtain ⟨c0, c1, c2⟩ := row3 Rc
 (try clear r0 r1 r2 r3 r4); obtain ⟨r0, r1, r2, r3, r4⟩ := row5 Rr
 (try clear b0 b1 b2 b3 b4); obtain ⟨b0, b1, b2, b3, b4⟩ := row5 Rb
 go_wp2_with fail
 refine (HN _ hb0).mono ?_
 rintro e w6 ⟨rfl, hb⟩
 replace Rc := Rc.later hb
 replace Rr := Rr.later hb
 replace Rb := Rb.later hb
 replace hb0 := below_step hb0 hb
 clear hb
 have lc := Rc.lt
 have lr := Rr.lt
 have lb := Rb.lt
 (try clear c0 c1 c2); obtain ⟨c0, c1, c2⟩ := row3 Rc
 (try clear r0 r1 r2 r3 r4); obtain ⟨r0, r1, r2, r3, r4⟩ := row5 Rr
 (try clear b0 b1 b2 b3 b4); obtain ⟨b0, b1, b2, b3, b4⟩ := row5 Rb
 go_wp2_with fail
 refine (HL _ hb0).mono ?_
 rintro e w7 ⟨rfl, hb⟩
 replace Rc := Rc.later hb
 replace Rr := Rr.later hb
 replace Rb := Rb.later hb
 replace hb0 := below_step hb0 hb
 clear hb
 have lc := Rc.lt
 have lr := Rr.lt
 have lb := Rb.lt
 (try clear c0 c1 c2); obtain ⟨c0, c1, c2⟩ := row3 Rc
 (try clear r0 r1 r2 r3 r4); obtain ⟨r0, r1, r2, r3, r4⟩ := row5 Rr
 (try clear b0 b1 b2 b3 b4); obtain ⟨b0, b1, b2, b3, b4⟩ := row5 Rb
 go_wp2_with fail
 refine (HK _ hb0).mono ?_
 rintro e w8 ⟨rfl, hb⟩
 replace Rc := Rc.later hb
 replace Rr := Rr.later hb
 replace Rb := Rb.later hb
 replace hb0 := below_step hb0 hb
 clear hb
 have lc := Rc.lt
 have lr := Rr.lt
 have lb := Rb.lt
 (try clear c0 c1 c2); obtain ⟨c0, c1, c2⟩ := row3 Rc
 (try clear r0 r1 r2 r3 r4); obtain ⟨r0, r1, r2, r3, r4⟩ := row5 Rr
 (try clear b0 b1 b2 b3 b4); obtain ⟨b0, b1, b2, b3, b4⟩ := row5 Rb
 go_wp2_with fail
 refine (HA _ (hb0.alloc hb0.size _)).mono ?_
 rintro e w9 ⟨rfl, hb⟩
 have nxc := Rc.lt
 have nxr := Rr.lt
 have nxb := Rb.lt
 replace Rc := (Rc.alloc _).later hb
 replace Rr := (Rr.alloc _).later hb
 replace Rb := (Rb.alloc _).later hb
 have Rx := Row.later (Row.new _ _ _) hb
 have mx := hb0.size
 replace hb0 := below_step (hb0.alloc hb0.size _) hb
 clear hb
 generalize w8.heap.size = gx at *
 have lc := Rc.lt
 have lr := Rr.lt
 have lb := Rb.lt
 have lx := Rx.lt
 (try clear c0 c1 c2); obtain ⟨c0, c1, c2⟩ := row3 Rc
 (try clear r0 r1 r2 r3 r4); obtain ⟨r0, r1, r2, r3, r4⟩ := row5 Rr
 (try clear b0 b1 b2 b3 b4); obtain ⟨b0, b1, b2, b3, b4⟩ := row5 Rb
 (try clear x0 x1 x2 x3 x4); obtain ⟨x0, x1, x2, x3, x4⟩ := row5 Rx
 obtain ⟨rf0, rf1, rf2, rf3, rf4⟩ := fz5 Rr
 go_wp2
 obtain ⟨w10, hwk, hwn⟩ := pnm w9 (w.heap.size + 1) 0 [.int .i64 0, .int .i64 0, .int .u64 0, .int .u64 0, .string ⟨#[]⟩]
 simp only [World.setCells] at hwk
 rw [← hwk]; clear hwk
 replace Rr : Row w10 (w.heap.size + 1) #[.int .i64 0, .int .i64 0, .int .u64 0, .int .u64 0, .string ⟨#[]⟩] 26 := psm hwn Rr (by simp [setL])
 replace Rc := prf hwn Rc
 replace Rb := prf hwn Rb
 replace Rx := prf hwn Rx
 replace hb0 := pbl hwn hb0
 clear hwn c0 c1 c2 r0 r1 r2 r3 r4 b0 b1 b2 b3 b4 x0 x1 x2 x3 x4
 (try clear rf0 rf1 rf2 rf3 rf4)
 (try clear c0 c1 c2); obtain ⟨c0, c1, c2⟩ := row3 Rc
 (try clear r0 r1 r2 r3 r4); obtain ⟨r0, r1, r2, r3, r4⟩ := row5 Rr
 (try clear b0 b1 b2 b3 b4); obtain ⟨b0, b1, b2, b3, b4⟩ := row5 Rb
 (try clear x0 x1 x2 x3 x4); obtain ⟨x0, x1, x2, x3, x4⟩ := row5 Rx
 refine bodyPost_ret (v := .tuple #[.int .i64 0, .agg #[.int .i64 0, .int .i64 0, .int .u64 0, .int .u64 0, .string ⟨#[]⟩], .int .i64 14]) (by simp [results, Tryz.results8, go_sem, r0, r1, r2, r3, r4]) rfl ⟨rfl, hb0⟩
theorem pp_t (f : Nat) (kd sd st wd v lv : Int) (k q : Ke) (t A B : ByteArray) (fl : Bool) (wd0 : 0 ≤ wd) (wd1 : wd ≤ 128) (v0 : 0 ≤ v) (v1 : v ≤ 128) (w : World)
  (HF : ∀ (x : Array Value) (w : World), (callFunc f x).run Tryz.prog w = .ok (.enter f x) w)
  (HR : ∀ w', Below w.heap.size w w' → Calls Tryz.prog 20 #[.agg #[.int .i64 kd, .int .i64 sd, .int .i64 st]] w' fun e w'' => e = .returned (.bool true) ∧ Below w'.heap.size w' w'')
  (HC : ∀ w', Below w.heap.size w w' → Calls Tryz.prog 21 #[.string t, .string ⟨#[47]⟩] w' fun e w'' => e = .returned (.tuple #[.string A, .string B, .bool fl]) ∧ Below w'.heap.size w' w'')
  (HP : ∀ w', Below w.heap.size w w' → Calls Tryz.prog 22 #[.int .i64 kd] w' fun e w'' => e = .returned (.func (.func f) #[] #[]) ∧ Below w'.heap.size w' w'')
  (HW : ∀ w', Below w.heap.size w w' → Calls Tryz.prog f #[.string A] w' fun e w'' => e = .returned (.tuple #[kv k, .int .i64 0]) ∧ Below w'.heap.size w' w'')
  (HD : ∀ w', Below w.heap.size w w' → Calls Tryz.prog 24 #[.int .i64 kd] w' fun e w'' => e = .returned (.int .i64 wd) ∧ Below w'.heap.size w' w'')
  (HN : ∀ w', Below w.heap.size w w' → Calls Tryz.prog 23 #[.string B, .int .u64 wd] w' fun e w'' => e = .returned (.tuple #[.int .u64 v, .int .i64 0]) ∧ Below w'.heap.size w' w'')
  (HL : ∀ w', Below w.heap.size w w' → Calls Tryz.prog 25 #[.agg #[.int .i64 kd, .int .i64 sd, .int .i64 st], .int .i64 v] w' fun e w'' => e = .returned (.int .i64 lv) ∧ Below w'.heap.size w' w'')
  (HK : ∀ w', Below w.heap.size w w' → Calls Tryz.prog 26 #[.agg #[.int .i64 kd, .int .i64 sd, .int .i64 st], .int .i64 lv, kv k] w' fun e w'' => e = .returned (kv q) ∧ Below w'.heap.size w' w'')
  (HA : ∀ w', Below w.heap.size w w' → Calls Tryz.prog 27 #[kv q, kv k] w' fun e w'' => e = .returned (.bool true) ∧ Below w'.heap.size w' w'')
  : Calls Tryz.prog 8 #[.agg #[.int .i64 kd, .int .i64 sd, .int .i64 st], .string t] w fun e w' => e = .returned (.tuple #[.int .i64 lv, kv q, .int .i64 0]) ∧ Below w.heap.size w w' := by
 have ww : IntKind.u64.wrap wd = wd := by rw [IntKind.wrap_u64]; omega
 have wv : IntKind.i64.wrap v = v := by rw [IntKind.wrap_i64]; omega
 unfold kv at *
 obtain ⟨Rc, Rr, hb0⟩ := two_rows w #[.int .i64 kd, .int .i64 sd, .int .i64 st] #[.int .i64 0, .int .i64 0, .int .u64 0, .int .u64 0, .string ⟨#[]⟩] 23 26
 (try clear c0 c1 c2); obtain ⟨c0, c1, c2⟩ := row3 Rc
 (try clear r0 r1 r2 r3 r4); obtain ⟨r0, r1, r2, r3, r4⟩ := row5 Rr
 go_enter Tryz.func8, Tryz.ntmps8
 go_wp2_with fail
 refine (HR _ hb0).mono ?_
 rintro e w1 ⟨rfl, hb⟩
 replace Rc := Rc.later hb
 replace Rr := Rr.later hb
 replace hb0 := below_step hb0 hb
 clear hb
 have lc := Rc.lt
 have lr := Rr.lt
 (try clear c0 c1 c2); obtain ⟨c0, c1, c2⟩ := row3 Rc
 (try clear r0 r1 r2 r3 r4); obtain ⟨r0, r1, r2, r3, r4⟩ := row5 Rr
 go_wp2_with fail
 refine (HC _ hb0).mono ?_
 rintro e w2 ⟨rfl, hb⟩
 replace Rc := Rc.later hb
 replace Rr := Rr.later hb
 replace hb0 := below_step hb0 hb
 clear hb
 have lc := Rc.lt
 have lr := Rr.lt
 (try clear c0 c1 c2); obtain ⟨c0, c1, c2⟩ := row3 Rc
 (try clear r0 r1 r2 r3 r4); obtain ⟨r0, r1, r2, r3, r4⟩ := row5 Rr
 go_wp2_with fail
 refine (HP _ hb0).mono ?_
 rintro e w3 ⟨rfl, hb⟩
 replace Rc := Rc.later hb
 replace Rr := Rr.later hb
 replace hb0 := below_step hb0 hb
 clear hb
 have lc := Rc.lt
 have lr := Rr.lt
 (try clear c0 c1 c2); obtain ⟨c0, c1, c2⟩ := row3 Rc
 (try clear r0 r1 r2 r3 r4); obtain ⟨r0, r1, r2, r3, r4⟩ := row5 Rr
 go_wp2_with fail
 refine (HW _ hb0).mono ?_
 rintro e w4 ⟨rfl, hb⟩
 replace Rc := Rc.later hb
 replace Rr := Rr.later hb
 replace hb0 := below_step hb0 hb
 clear hb
 have lc := Rc.lt
 have lr := Rr.lt
 (try clear c0 c1 c2); obtain ⟨c0, c1, c2⟩ := row3 Rc
 (try clear r0 r1 r2 r3 r4); obtain ⟨r0, r1, r2, r3, r4⟩ := row5 Rr
 go_wp2_with fail
 refine (HD _ (hb0.alloc hb0.size _)).mono ?_
 rintro e w5 ⟨rfl, hb⟩
 have nbc := Rc.lt
 have nbr := Rr.lt
 replace Rc := (Rc.alloc _).later hb
 replace Rr := (Rr.alloc _).later hb
 have Rb := Row.later (Row.new _ _ _) hb
 have mb := hb0.size
 replace hb0 := below_step (hb0.alloc hb0.size _) hb
 clear hb
 generalize w4.heap.size = gb at *
 have lc := Rc.lt
 have lr := Rr.lt
 have lb := Rb.lt
 (try clear c0 c1 c2); obtain ⟨c0, c1, c2⟩ := row3 Rc
 (try clear r0 r1 r2 r3 r4); obtain ⟨r0, r1, r2, r3, r4⟩ := row5 Rr
 (try clear b0 b1 b2 b3 b4); obtain ⟨b0, b1, b2, b3, b4⟩ := row5 Rb
 go_wp2_with fail
 refine (HN _ hb0).mono ?_
 rintro e w6 ⟨rfl, hb⟩
 replace Rc := Rc.later hb
 replace Rr := Rr.later hb
 replace Rb := Rb.later hb
 replace hb0 := below_step hb0 hb
 clear hb
 have lc := Rc.lt
 have lr := Rr.lt
 have lb := Rb.lt
 (try clear c0 c1 c2); obtain ⟨c0, c1, c2⟩ := row3 Rc
 (try clear r0 r1 r2 r3 r4); obtain ⟨r0, r1, r2, r3, r4⟩ := row5 Rr
 (try clear b0 b1 b2 b3 b4); obtain ⟨b0, b1, b2, b3, b4⟩ := row5 Rb
 go_wp2_with fail
 refine (HL _ hb0).mono ?_
 rintro e w7 ⟨rfl, hb⟩
 replace Rc := Rc.later hb
 replace Rr := Rr.later hb
 replace Rb := Rb.later hb
 replace hb0 := below_step hb0 hb
 clear hb
 have lc := Rc.lt
 have lr := Rr.lt
 have lb := Rb.lt
 (try clear c0 c1 c2); obtain ⟨c0, c1, c2⟩ := row3 Rc
 (try clear r0 r1 r2 r3 r4); obtain ⟨r0, r1, r2, r3, r4⟩ := row5 Rr
 (try clear b0 b1 b2 b3 b4); obtain ⟨b0, b1, b2, b3, b4⟩ := row5 Rb
 go_wp2_with fail
 refine (HK _ hb0).mono ?_
 rintro e w8 ⟨rfl, hb⟩
 replace Rc := Rc.later hb
 replace Rr := Rr.later hb
 replace Rb := Rb.later hb
 replace hb0 := below_step hb0 hb
 clear hb
 have lc := Rc.lt
 have lr := Rr.lt
 have lb := Rb.lt
 (try clear c0 c1 c2); obtain ⟨c0, c1, c2⟩ := row3 Rc
 (try clear r0 r1 r2 r3 r4); obtain ⟨r0, r1, r2, r3, r4⟩ := row5 Rr
 (try clear b0 b1 b2 b3 b4); obtain ⟨b0, b1, b2, b3, b4⟩ := row5 Rb
 go_wp2_with fail
 refine (HA _ (hb0.alloc hb0.size _)).mono ?_
 rintro e w9 ⟨rfl, hb⟩
 have nxc := Rc.lt
 have nxr := Rr.lt
 have nxb := Rb.lt
 replace Rc := (Rc.alloc _).later hb
 replace Rr := (Rr.alloc _).later hb
 replace Rb := (Rb.alloc _).later hb
 have Rx := Row.later (Row.new _ _ _) hb
 have mx := hb0.size
 replace hb0 := below_step (hb0.alloc hb0.size _) hb
 clear hb
 generalize w8.heap.size = gx at *
 have lc := Rc.lt
 have lr := Rr.lt
 have lb := Rb.lt
 have lx := Rx.lt
 (try clear c0 c1 c2); obtain ⟨c0, c1, c2⟩ := row3 Rc
 (try clear r0 r1 r2 r3 r4); obtain ⟨r0, r1, r2, r3, r4⟩ := row5 Rr
 (try clear b0 b1 b2 b3 b4); obtain ⟨b0, b1, b2, b3, b4⟩ := row5 Rb
 (try clear x0 x1 x2 x3 x4); obtain ⟨x0, x1, x2, x3, x4⟩ := row5 Rx
 go_wp2_with fail
 refine wp_region_held_drew (S := (fun w' => Row w' gx #[.int .i64 q.kind, .int .i64 q.len, .int .u64 q.h, .int .u64 q.l, .string ⟨q.path.toArray⟩] 26)) (by kernel_rfl) ?hSr1_ (fun hH => ?_)
 case hSr1_ => (exact Rx.drew)
 (clear c0 c1 c2 r0 r1 r2 r3 r4 b0 b1 b2 b3 b4 x0 x1 x2 x3 x4; (replace Rc := Rc.drew); (replace Rr := Rr.drew); (replace Rb := Rb.drew); (replace Rx := Rx.drew); (replace hb0 := hb0.drew); (generalize World.drew w9 = wq at *))
 refine tk 0 ⟨some 68, .move (.tmp 14), 3, _, _, _⟩ hH ?_
 refine tk 1 ⟨some 69, .load 26 (.tmp 15), 26, _, _, _⟩ hH ?_ (v := ?vr1_2_1) (hy := ?yr1_2_1)
 case yr1_2_1 => (intro wy hSw; have Qx := hSw; (with_reducible refine pexec_load 26 (.tmp 15) ?_ gx ?_ 26 #[.int .i64 q.kind, .int .i64 q.len, .int .u64 q.h, .int .u64 q.l, .string ⟨q.path.toArray⟩] _ Qx Tryz.underlying26 ?_ ?_) <;> first | rfl | exact infoKe)
 refine tk 2 ⟨some 4, .assign (.tmp 68), 3, _, _, _⟩ hH ?_
 refine wpAnyH_ready (rs := [3]) (by kernel_rfl) (by simp) ?_
 refine AllReadyH.cons (o := ⟨none, .store 26 (.tmp 5) (.tmp 69), 0, _, _, _⟩) rfl (fun K hK => ?_) AllReadyH.nil
 ((rw [if_pos (by rfl)]); (with_reducible refine pst 26 (.tmp 5) (.tmp 69) ?_ (w.heap.size + 1) 0 #[.int .i64 q.kind, .int .i64 q.len, .int .u64 q.h, .int .u64 q.l, .string ⟨q.path.toArray⟩] ?_ ?_ ?_ ?_ ?_ ?_); rfl; rfl; rfl; (exact Row.thereAt Rr 0 _ (by simp)); (exact infoKe); (simp [Value.oneCell']); (rintro wz hwz); (have hHq := hH); (have Qx := hHq); (replace Qx := prf hwz Qx); (replace Rc := prf hwz Rc); (replace Rb := prf hwz Rb); (replace Rx := prf hwz Rx); (replace hb0 := pbl hwz hb0); (replace Rr : Row wz (w.heap.size + 1) #[.int .i64 q.kind, .int .i64 q.len, .int .u64 q.h, .int .u64 q.l, .string ⟨q.path.toArray⟩] 26 := psm hwz Rr (by simp [setL])); clear hwz)
 refine hK.out _ _ ?hSr1_4_3 fun _ => ?_
 case hSr1_4_3 => (exact Qx)
 clear hK K hH; rename_i hH
 rename World => wq
 (try simp only [Act.put, nz1, nz2, nz3])
 refine tk 4 ⟨some 6, .assign (.const (.int .i64 0)), 27, _, _, _⟩ hH ?_
 refine wpAnyH_done (by kernel_rfl) ?_ _
 clear hH
 rename World => w10
 have lc := Rc.lt
 have lr := Rr.lt
 have lb := Rb.lt
 have lx := Rx.lt
 (try clear c0 c1 c2); obtain ⟨c0, c1, c2⟩ := row3 Rc
 (try clear r0 r1 r2 r3 r4); obtain ⟨r0, r1, r2, r3, r4⟩ := row5 Rr
 (try clear b0 b1 b2 b3 b4); obtain ⟨b0, b1, b2, b3, b4⟩ := row5 Rb
 (try clear x0 x1 x2 x3 x4); obtain ⟨x0, x1, x2, x3, x4⟩ := row5 Rx
 go_wp2
 refine bodyPost_ret (v := .tuple #[.int .i64 lv, .agg #[.int .i64 q.kind, .int .i64 q.len, .int .u64 q.h, .int .u64 q.l, .string ⟨q.path.toArray⟩], .int .i64 0]) (by simp [results, Tryz.results8, go_sem, r0, r1, r2, r3, r4]) rfl ⟨rfl, hb0⟩
def pstep (f : Nat → Int) (a n i : Nat) (out : List UInt8) : List UInt8 :=
 if 0 < n ∧ a ≤ i ∧ i < a + n then (if i = a then out ++ [58, 58] else out)
 else (if 0 < i ∧ ¬ (0 < n ∧ i = a + n) then out ++ [58] else out) ++ hexD (f i).toNat
def prR (f : Nat → Int) (a n : Nat) : Nat → List UInt8
 | 0 => []
 | i + 1 => pstep f a n i (prR f a n i)
theorem prR_len (f : Nat → Int) (hf : ∀ k, 0 ≤ f k ∧ f k ≤ 65535) (a n : Nat) : ∀ i, (prR f a n i).length ≤ 5 * i
 | 0 => by simp [prR]
 | i + 1 => by
  have ih := prR_len f hf a n i
  have hl := hexD_len (f i).toNat (by have := hf i; omega)
  rw [prR, pstep]
  split
  ·split <;> simp <;> omega
  ·split <;> simp <;> omega
theorem gl_is (f : Nat → Int) : gl f = [(f 0).toNat, (f 1).toNat, (f 2).toNat, (f 3).toNat, (f 4).toNat, (f 5).toNat, (f 6).toNat, (f 7).toNat] := rfl
theorem prR_is (f : Nat → Int) (a n : Nat) (h : a + n ≤ 8) (hn : n = 0 ∧ a = 0 ∨ 2 ≤ n) : prR f a n 8 = if n = 0 then joinH (gl f) else joinH ((gl f).take a) ++ [58, 58] ++ joinH ((gl f).drop (a + n)) := by
 rw [gl_is]
 rcases hn with ⟨rfl, rfl⟩ | hn
 ·simp [prR, pstep, joinH, Lib.join_cons, Lib.joinTail]
 ·rw [if_neg (by omega)]
  have h8 : n ≤ 8 := by omega
  have a6 : a ≤ 6 := by omega
  rcases n with _ | _ | _ | _ | _ | _ | _ | _ | _ | n
  ·omega
  ·omega
  all_goals first | omega | skip
  all_goals rcases a with _ | _ | _ | _ | _ | _ | _ | a
  all_goals first | omega | skip
  all_goals simp [prR, pstep, joinH, Lib.join_cons, Lib.join_nil, Lib.joinTail]
theorem rprint6_t (A : Int) (w : World) : Calls Tryz.prog 40 #[.agg #[.int .u64 (hi A), .int .u64 (lo A)]] w fun e w' => e = .returned (.string ⟨(print6 (grp A)).toArray⟩) ∧ Below w.heap.size w w' := by
 have hf := grp_range A
 obtain ⟨f, hfe⟩ : ∃ f, f = grp A := ⟨_, rfl⟩
 rw [← hfe] at hf ⊢
 obtain ⟨hr1, _, hr3⟩ := runS_is f
 have hpr : prR f (runS f).1 (runS f).2 8 = print6 f := prR_is f _ _ hr1 (by omega)
 have hrs := run_same f
 generalize print6 f = pt at *
 have HFE := Lib.hid hfe
 have HRS := Lib.hid hrs
 have HPR := Lib.hid hpr
 clear hfe hrs hpr
 go_enter Tryz.func40, Tryz.ntmps40
 go_wp2_with fail
 have hb0 : Below w.heap.size w (w.alloc (.cells #[.int .u64 (hi A), .int .u64 (lo A)] 75)) := (Below.refl _ _).alloc (Nat.le_refl _) _
 generalize w.alloc (.cells #[.int .u64 (hi A), .int .u64 (lo A)] 75) = w0 at *
 refine (rgroups_t A w0).mono ?_
 rintro e w1 ⟨rfl, hb1⟩
 have HB := Lib.hid (below_step hb0 hb1)
 clear hb0 hb1
 rw [← HFE.out]
 unfold arr8
 go_wp2_with fail
 have Rg := Row.new w1 (cellsF f) 107
 have hb2 : Below w1.heap.size w1 (w1.alloc (.cells (cellsF f) 107)) := (Below.refl _ _).alloc (Nat.le_refl _) _
 unfold cellsF at Rg hb2
 generalize w1.alloc (.cells #[.int .u16 (f 0), .int .u16 (f 1), .int .u16 (f 2), .int .u16 (f 3), .int .u16 (f 4), .int .u16 (f 5), .int .u16 (f 6), .int .u16 (f 7)] 107) = w2 at *
 refine (rrun_t f hf w2).mono ?_
 rintro e w3 ⟨rfl, hb3⟩
 have R3 : Row w3 w1.heap.size (cellsF f) 107 := Rg.later hb3
 have HB3 := Lib.hid (below_step (below_step HB.out hb2) hb3)
 clear Rg hb2 hb3 HB
 generalize w1.heap.size = g at *
 rw [HRS.out]
 clear HRS HFE
 have HR := Lib.hid R3
 clear R3
 have hlen := prR_len f hf (runS f).1 (runS f).2
 generalize runS f = r at *
 obtain ⟨a, n⟩ := r
 dsimp only at *
 have HF := Lib.hid hf
 have HL := Lib.hid hlen
 clear hf hlen
 have hps : ∀ i, prR f a n (i + 1) = pstep f a n i (prR f a n i) := fun _ => rfl
 have HPS := Lib.hid hps
 clear hps
 have HPS2 : Hid (∀ i, prR f a n (i + 1) = if 0 < n ∧ a ≤ i ∧ i < a + n then (if i = a then prR f a n i ++ [58, 58] else prR f a n i) else (if 0 < i ∧ ¬ (0 < n ∧ i = a + n) then prR f a n i ++ [58] else prR f a n i) ++ hexD (f i).toNat) := Lib.hid HPS.out
 clear HPS
 rcases hr3 with ⟨rfl, rfl⟩ | hn2
 ·rw [show ((0 : Nat) : Int) = 0 from rfl]
  go_wp2_with fail
  go_loopw [6, 7] (fun o i wr => ∃ (j : Nat), j ≤ 8 ∧ i = .int .i64 (j : Nat) ∧ o = .string ⟨(prR f 0 0 j).toArray⟩ ∧ wr = w3) (fun _ i _ => 8 - (intOf i).toNat)
  case atStart => exact ⟨0, by omega, rfl, rfl, rfl⟩
  case round =>
   obtain ⟨j, hj, rfl, rfl, rfl⟩ := hrel
   by_cases hlt : j < 8
   ·have hlt' : (j : Int) < 8 := by omega
    have c0 := (HR.out.cell j).trans (cellsF_get f j hlt)
    have f0 := HF.out j
    have hol := HL.out j
    have hst := HPS2.out j
    have hxl := hexD_len (f j).toNat (by omega)
    have hdg := fun wq => digits16_t (f j).toNat (by omega) wq
    rw [Int.toNat_of_nonneg f0.1] at hdg
    generalize hexD (f j).toNat = dx at *
    generalize f j = y at *
    have hol' : (prR f 0 0 j).length ≤ 40 := by omega
    generalize prR f 0 0 j = o at *
    have HDG := Lib.hid hdg
    clear hdg hol
    have e1 := app_ll4 o [58]
    have e2 := app_ll4 o [58, 58]
    have e3 := app_ll4 o dx
    have e4 := app_ll4 (o ++ [58]) dx
    have s1 : ¬ 9223372036854775807 < o.length + 1 := by omega
    have s2 : ¬ 9223372036854775807 < o.length + 2 := by omega
    have s3 : ¬ 9223372036854775807 < o.length + dx.length := by omega
    have s4 : ¬ 9223372036854775807 < o.length + 1 + dx.length := by omega
    have HE := Lib.hid (And.intro e1 (And.intro e2 (And.intro e3 e4)))
    clear e1 e2 e3 e4
    by_cases hj0 : j = 0
    ·have hst2 : prR f 0 0 (j + 1) = o ++ dx := by rw [hst, if_neg (by omega), if_neg (by omega)]
     have HS := Lib.hid hst2
     clear hst hst2
     subst hj0
     go_wp2_with fail
     refine (HDG.out _).mono ?_
     rintro e wq ⟨rfl, rfl⟩
     clear HDG
     go_wp2
     exact ⟨⟨1, by omega, by go_num, by rw [HS.out, ← HE.out.2.2.1], trivial⟩, by first | (simp [intOf]; done) | (simp [intOf]; omega)⟩
    ·have j0' : (0 : Int) < (j : Int) := by omega
     have hst2 : prR f 0 0 (j + 1) = o ++ [58] ++ dx := by rw [hst, if_neg (by omega), if_pos (by omega)]
     have HS := Lib.hid hst2
     clear hst hst2 hj0
     go_wp2_with fail
     refine (HDG.out _).mono ?_
     rintro e wq ⟨rfl, rfl⟩
     clear HDG
     go_wp2
     exact ⟨⟨j + 1, by omega, by go_num, by rw [HS.out, ← HE.out.2.2.2, ← HE.out.1], trivial⟩, by first | (simp [intOf]; done) | (simp [intOf]; omega)⟩
   ·have hj8 : j = 8 := by omega
    subst hj8
    have hpp : prR f 0 0 8 = pt := HPR.out
    rw [hpp]
    go_wp2
    go_ret
    exact ⟨rfl, HB3.out⟩
 ·go_wp2_with fail
  go_loopw [6, 7] (fun o i wr => ∃ (j : Nat), j ≤ 8 ∧ i = .int .i64 (j : Nat) ∧ o = .string ⟨(prR f a n j).toArray⟩ ∧ wr = w3) (fun _ i _ => 8 - (intOf i).toNat)
  case atStart => exact ⟨0, by omega, rfl, rfl, rfl⟩
  case round =>
   obtain ⟨j, hj, rfl, rfl, rfl⟩ := hrel
   by_cases hlt : j < 8
   ·have hlt' : (j : Int) < 8 := by omega
    have c0 := (HR.out.cell j).trans (cellsF_get f j hlt)
    have f0 := HF.out j
    have hol := HL.out j
    have hst := HPS2.out j
    have hxl := hexD_len (f j).toNat (by omega)
    have hdg := fun wq => digits16_t (f j).toNat (by omega) wq
    rw [Int.toNat_of_nonneg f0.1] at hdg
    generalize hexD (f j).toNat = dx at *
    generalize f j = y at *
    have hol' : (prR f a n j).length ≤ 40 := by omega
    generalize prR f a n j = o at *
    have HDG := Lib.hid hdg
    clear hdg hol
    have e1 := app_ll4 o [58]
    have e2 := app_ll4 o [58, 58]
    have e3 := app_ll4 o dx
    have e4 := app_ll4 (o ++ [58]) dx
    have s1 : ¬ 9223372036854775807 < o.length + 1 := by omega
    have s2 : ¬ 9223372036854775807 < o.length + 2 := by omega
    have s3 : ¬ 9223372036854775807 < o.length + dx.length := by omega
    have s4 : ¬ 9223372036854775807 < o.length + 1 + dx.length := by omega
    have HE := Lib.hid (And.intro e1 (And.intro e2 (And.intro e3 e4)))
    clear e1 e2 e3 e4
    have n0' : (0 : Int) < (n : Int) := by omega
    by_cases hja : j < a
    ·have ja' : ¬ (a : Int) ≤ (j : Int) := by omega
     by_cases hj0 : j = 0
     ·have hst2 : prR f a n (j + 1) = o ++ dx := by rw [hst, if_neg (by omega), if_neg (by omega)]
      have HS := Lib.hid hst2
      clear hst hst2
      subst hj0
      go_wp2_with fail
      refine (HDG.out _).mono ?_
      rintro e wq ⟨rfl, rfl⟩
      clear HDG
      go_wp2
      exact ⟨⟨1, by omega, by go_num, by rw [HS.out, ← HE.out.2.2.1], trivial⟩, by first | (simp [intOf]; done) | (simp [intOf]; omega)⟩
     ·have j0' : (0 : Int) < (j : Int) := by omega
      have jb' : ¬ (j : Int) = (a : Int) + (n : Int) := by omega
      have jbb : ((j : Int) == (a : Int) + (n : Int)) = false := by rw [beq_eq_false_iff_ne]; omega
      have hst2 : prR f a n (j + 1) = o ++ [58] ++ dx := by rw [hst, if_neg (by omega), if_pos (by omega)]
      have HS := Lib.hid hst2
      clear hst hst2 hj0
      go_wp2_with fail
      refine (HDG.out _).mono ?_
      rintro e wq ⟨rfl, rfl⟩
      clear HDG
      go_wp2
      exact ⟨⟨j + 1, by omega, by go_num, by rw [HS.out, ← HE.out.2.2.2, ← HE.out.1], trivial⟩, by first | (simp [intOf]; done) | (simp [intOf]; omega)⟩
    ·have ja' : (a : Int) ≤ (j : Int) := by omega
     by_cases hjn : j < a + n
     ·have jn' : (j : Int) < (a : Int) + (n : Int) := by omega
      by_cases hje : j = a
      ·have hst2 : prR f a n (j + 1) = o ++ [58, 58] := by rw [hst, if_pos (by omega), if_pos hje]
       have HS := Lib.hid hst2
       clear hst hst2 HDG
       subst hje
       go_wp2
       exact ⟨⟨j + 1, by omega, by go_num, by rw [HS.out, ← HE.out.2.1], trivial⟩, by simp [intOf]; omega⟩
      ·have je' : ¬ (j : Int) = (a : Int) := by omega
       have hst2 : prR f a n (j + 1) = o := by rw [hst, if_pos (by omega), if_neg hje]
       have HS := Lib.hid hst2
       clear hst hst2 HDG hje
       go_wp2
       exact ⟨⟨j + 1, by omega, by go_num, by rw [HS.out], trivial⟩, by simp [intOf]; omega⟩
     ·have jn' : ¬ (j : Int) < (a : Int) + (n : Int) := by omega
      have j0' : (0 : Int) < (j : Int) := by omega
      by_cases hje : j = a + n
      ·have hst2 : prR f a n (j + 1) = o ++ dx := by rw [hst, if_neg (by omega), if_neg (by omega)]
       have HS := Lib.hid hst2
       clear hst hst2
       subst hje
       go_wp2_with fail
       refine (HDG.out _).mono ?_
       rintro e wq ⟨rfl, rfl⟩
       clear HDG
       go_wp2
       exact ⟨⟨a + n + 1, by omega, by go_num, by rw [HS.out, ← HE.out.2.2.1], trivial⟩, by first | (simp [intOf]; done) | (simp [intOf]; omega)⟩
      ·have jb' : ¬ (j : Int) = (a : Int) + (n : Int) := by omega
       have jbb : ((j : Int) == (a : Int) + (n : Int)) = false := by rw [beq_eq_false_iff_ne]; omega
       have hst2 : prR f a n (j + 1) = o ++ [58] ++ dx := by rw [hst, if_neg (by omega), if_pos (by omega)]
       have HS := Lib.hid hst2
       clear hst hst2 hje
       go_wp2_with fail
       refine (HDG.out _).mono ?_
       rintro e wq ⟨rfl, rfl⟩
       clear HDG
       go_wp2
       exact ⟨⟨j + 1, by omega, by go_num, by rw [HS.out, ← HE.out.2.2.2, ← HE.out.1], trivial⟩, by first | (simp [intOf]; done) | (simp [intOf]; omega)⟩
   ·have hj8 : j = 8 := by omega
    subst hj8
    have hpp : prR f a n 8 = pt := HPR.out
    rw [hpp]
    go_wp2
    go_ret
    exact ⟨rfl, HB3.out⟩
theorem print6_len (f : Nat → Int) (hf : ∀ k, 0 ≤ f k ∧ f k ≤ 65535) : (print6 f).length ≤ 40 := by
 obtain ⟨h1, _, h2⟩ := runS_is f
 have e := prR_is f (runS f).1 (runS f).2 h1 (by rcases h2 with h | h; exact .inl h; exact .inr h)
 have l := prR_len f hf (runS f).1 (runS f).2 8
 rw [e] at l
 exact l
theorem wordK_len {k : Ke} (ok : k.ok) : (wordK k).length ≤ 140737488355328 := by
 unfold wordK
 split
 ·split
  ·have := print4_len (k.h / 4294967296); omega
  ·split
   ·have := print6_len (grp k.num) (grp_range _); omega
   ·exact ok.path
 ·exact Nat.zero_le _
theorem bsz (l : List UInt8) : (⟨l.toArray⟩ : ByteArray).size = l.length := by simp [ByteArray.size]
theorem word_t (k : Ke) (ok : k.ok) (w : World) (hE : Env6 w) : Calls Tryz.prog 11 #[kv k] w fun e w' => e = .returned (.string ⟨(wordK k).toArray⟩) ∧ Below w.heap.size w w' := by
 have HR := fun (w' : World) (_ : Below w.heap.size w w') => kright_t k ok w'
 cases hr : rightK k with
 | false =>
  simp only [hr] at HR
  have e : wordK k = [] := by unfold wordK; rw [if_neg (by rw [hr]; decide)]
  rw [e]
  exact word_no k.kind k.len k.h k.l _ w HR
 | true =>
  simp only [hr] at HR
  have e : wordK k = if k.kind = 1 then print4 (k.h / 4294967296) else if k.kind = 2 then print6 (grp k.num) else k.path := by unfold wordK; rw [if_pos hr]
  obtain ⟨h0, h1⟩ := ok.h
  have hok := ok
  rcases right_kind hr with (hk | hk) | hk
  ·rw [hk, if_pos rfl] at e
   rw [e]
   obtain ⟨kd, n, h, l, p⟩ := k
   subst hk
   exact word_1 n h l _ _ h0 h1 w HR (fun w' hb => print4_t (h / 4294967296) (by dsimp only at h0; omega) (by dsimp only at h1; omega) w' (hE.e.later hb))
  ·rw [hk, if_neg (by decide), if_pos rfl] at e
   rw [e]
   obtain ⟨kd, n, h, l, p⟩ := k
   subst hk
   refine word_2 n h l _ _ w HR (fun w' hb => ?_)
   have hp := print6_t (Ke.num ⟨2, n, h, l, p⟩) w' (hE.later hb)
   unfold Ke.num at hp
   rw [hi_wv hok.h hok.l, lo_wv hok.l] at hp
   exact hp
  ·rw [hk, if_neg (by decide), if_neg (by decide)] at e
   rw [e]
   obtain ⟨kd, n, h, l, p⟩ := k
   subst hk
   exact word_3 n h l _ w HR
theorem part_t (d : Dm) (lv : Int) (k : Ke) (ok : k.ok) (w : World) (hE : Env6 w) : Calls Tryz.prog 13 #[dv d, .int .i64 lv, kv k] w fun e w' => e = .returned (.string ⟨(partK d lv k).toArray⟩) ∧ Below w.heap.size w w' := by
  have HO := fun (w' : World) (_ : Below w.heap.size w w') => don_t d lv k ok w'
  cases ho : onD d lv k with
  | false =>
    simp only [ho] at HO
    have e : partK d lv k = [] := by unfold partK; rw [if_neg (by rw [ho]; decide)]
    rw [e]
    exact part_no d lv k w HO
  | true =>
    simp only [ho] at HO
    have hn := ((onD_iff d lv k).1 ho).1
    have hr := lenD_range d lv
    have hl := wordK_len ok
    have h39 := dec_len_39 (lenD d lv).toNat (by have : (10 : Nat) ^ 39 = 1000000000000000000000000000000000000000 := by rfl
                                                 omega)
    have e : (⟨(partK d lv k).toArray⟩ : ByteArray) = ⟨(wordK k).toArray⟩ ++ ⟨#[47]⟩ ++ ⟨(decN (lenD d lv).toNat).toArray⟩ := by
      rw [partK_on ho, show (⟨#[47]⟩ : ByteArray) = ⟨[(47 : UInt8)].toArray⟩ from rfl, ba_add, ba_add, List.append_assoc]; rfl
    rw [e]
    refine part_go d lv (lenD d lv) k _ _ hn hr.2 (by rw [bsz]; omega) (by rw [bsz]; omega) w HO (fun w' hb => word_t k ok w' (hE.later hb)) (fun w' _ => dlen_t d lv w') (fun w' _ => ?_)
    have hp := nprint_t (lenD d lv).toNat (by omega) w'
    rw [show (((lenD d lv).toNat : Nat) : Int) = lenD d lv by omega] at hp
    exact hp
def errW (b : Bool) : Int := if b = true then 0 else 3
theorem wparse1_t (s : List UInt8) (hl : s.length ≤ 2000000) (w : World) (hE : Env w) : Calls Tryz.prog 53 #[.string ⟨s.toArray⟩] w fun e w' => e = .returned (.tuple #[kv (wholeK 1 s), .int .i64 (errW (wholeB 1 s))]) ∧ Below w.heap.size w w' := by
 have hr := parse_range s
 have e : errW (wholeB 1 s) = (parse4 s).2 := by
  unfold errW
  rw [wholeB_1]
  rcases parse_err s with h | h <;> rw [h] <;> rfl
 rw [e, wholeK_1]
 exact p1_go _ _ _ _ w (fun w' hb => parse4_t s (by omega) w' (hE.later hb)) (fun w' _ => kfour_t _ hr.1 (by omega) w')
theorem wparse2_t (s : List UInt8) (hl : s.length ≤ 2000000) (w : World) (hE : Env w) : Calls Tryz.prog 56 #[.string ⟨s.toArray⟩] w fun e w' => e = .returned (.tuple #[kv (wholeK 2 s), .int .i64 (errW (wholeB 2 s))]) ∧ Below w.heap.size w w' := by
 rw [wholeK_2]
 refine p2_go _ _ _ _ _ w (fun w' hb => (parse6_t s (by omega) w' (hE.later hb)).mono ?_) (fun w' _ => ksix_t _ _ w')
 rintro e w2 ⟨h, hb2⟩
 refine ⟨?_, hb2⟩
 unfold six6
 rw [wholeB_2]
 cases hp : parse6 s with
 | none => rw [hp] at h; rw [h]; rfl
 | some gs => rw [hp] at h; rw [h]; rfl
theorem wparse3_t (s : List UInt8) (hl : s.length ≤ 2000000) (w : World) : Calls Tryz.prog 59 #[.string ⟨s.toArray⟩] w fun e w' => e = .returned (.tuple #[kv (wholeK 3 s), .int .i64 (errW (wholeB 3 s))]) ∧ Below w.heap.size w w' := by
 rw [wholeK_3, wholeB_3, show errW (rightB s) = pathE s from rfl]
 exact p3_go _ _ _ w (fun w' _ => kpath_t s (by omega) w')
theorem cutc_t (t : List UInt8) (c : UInt8) (hl : t.length ≤ 2000000) (w : World) : Calls Tryz.prog 21 #[.string ⟨t.toArray⟩, .string ⟨#[c]⟩] w fun e w' => e = .returned (.tuple #[.string ⟨(Lib.cut t [c]).1.toArray⟩, .string ⟨(Lib.cut t [c]).2.1.toArray⟩, .bool (Lib.cut t [c]).2.2]) ∧ Below w.heap.size w w' := by
 by_cases h : c ∈ t
 ·obtain ⟨a, b, rfl, ha⟩ := mem_first t h
  rw [cut_at c a b ha]
  refine (cutAt_t a b c ha (by omega) w).mono ?_
  rintro e w' ⟨rfl, n, rfl⟩
  exact ⟨rfl, below_drewN (Below.refl _ _) _⟩
 ·rw [cut_none c t h]
  refine (cutNo_t t c h w).mono ?_
  rintro e w' ⟨rfl, rfl⟩
  exact ⟨rfl, Below.refl _ _⟩
theorem pn_no {l : List UInt8} (m : Int) (h : txB l = false) : pn l m = (0, 3) := by unfold pn; rw [pw_bad h]; rfl
theorem pn_in {l : List UInt8} {m : Int} (h : txB l = true) (hm : (valT l : Int) ≤ m) (hM : m < MM) : pn l m = ((valT l : Int), 0) := by
 unfold pn; rw [pw_ok h (by omega), if_pos rfl, if_pos hm]
theorem pn_out {l : List UInt8} {m : Int} (h : txB l = true) (hm : m < (valT l : Int)) : pn l m = (0, 11) := by
 unfold pn
 by_cases hv : (valT l : Int) < MM
 ·rw [pw_ok h hv, if_pos rfl, if_neg (by dsimp only; omega)]
 ·rw [pw_over h hv]; rfl
theorem sixK_ok {h l : Int} (hh : Word h) (hl : Word l) : (sixK h l).ok := ⟨hh, hl, by unfold sixK; dsimp only; omega, by unfold sixK; dsimp only; omega, by unfold sixK; dsimp only; omega, by unfold sixK; dsimp only; omega, by unfold sixK; simp⟩
theorem pathR_ok {s : List UInt8} (h : s.length ≤ 140737488355328) : (pathR s).ok := by
 unfold pathR
 split
 ·have := labsL_len s
  exact ⟨by unfold pathK Word; dsimp only; omega, by unfold pathK Word; dsimp only; omega, by unfold pathK; dsimp only; omega, by unfold pathK; dsimp only; omega, by unfold pathK; dsimp only; omega, by unfold pathK; dsimp only; omega, h⟩
 ·exact kz_ok
theorem wholeK_ok {k : Int} (hk : k = 1 ∨ k = 2 ∨ k = 3) {s : List UInt8} (h : s.length ≤ 140737488355328) : (wholeK k s).ok := by
 rcases hk with rfl | rfl | rfl
 ·exact fourK_ok _
 ·exact sixK_ok (word_hi _) (word_lo _)
 ·exact pathR_ok h
theorem cut_len47 (t : List UInt8) (c : UInt8) : (Lib.cut t [c]).1.length ≤ t.length ∧ (Lib.cut t [c]).2.1.length ≤ t.length := by
 by_cases h : c ∈ t
 ·obtain ⟨a, b, rfl, ha⟩ := mem_first t h
  rw [cut_at c a b ha]; simp; omega
 ·rw [cut_none c t h]; simp
theorem call_enter {P : Program} {f : Nat} {fn : Func} (hf : P.funcs[f]? = some fn) (hname : (fn.name == "runtime.NumGoroutine") = false) (hb : fn.body.isNone = false) (x : Array Value) (w : World) : (callFunc f x).run P w = .ok (.enter f x) w := by
 have h2 : ¬ fn.name = "runtime.NumGoroutine" := by simpa using hname
 have h3 : ¬ fn.body = none := fun e => by rw [e] at hb; cases hb
 simp [callFunc, go_sem, hf, h2, h3]
theorem callf1 (x : Array Value) (w : World) : (callFunc 53 x).run Tryz.prog w = .ok (.enter 53 x) w := call_enter Tryz.func53 (by kernel_rfl) (by kernel_rfl) x w
theorem callf2 (x : Array Value) (w : World) : (callFunc 56 x).run Tryz.prog w = .ok (.enter 56 x) w := call_enter Tryz.func56 (by kernel_rfl) (by kernel_rfl) x w
theorem callf3 (x : Array Value) (w : World) : (callFunc 59 x).run Tryz.prog w = .ok (.enter 59 x) w := call_enter Tryz.func59 (by kernel_rfl) (by kernel_rfl) x w
theorem parser_of {k : Int} (hk : k = 1 ∨ k = 2 ∨ k = 3) : ∃ f : Nat, (∀ (x : Array Value) (w : World), (callFunc f x).run Tryz.prog w = .ok (.enter f x) w) ∧
  (∀ w, Calls Tryz.prog 22 #[.int .i64 k] w fun e w' => e = .returned (.func (.func f) #[] #[]) ∧ Below w.heap.size w w') ∧
  (∀ (s : List UInt8) (w : World), s.length ≤ 2000000 → Env w → Calls Tryz.prog f #[.string ⟨s.toArray⟩] w fun e w' => e = .returned (.tuple #[kv (wholeK k s), .int .i64 (errW (wholeB k s))]) ∧ Below w.heap.size w w') := by
 rcases hk with rfl | rfl | rfl
 ·exact ⟨_, callf1, parser_a, fun s w hl hE => wparse1_t s hl w hE⟩
 ·exact ⟨_, callf2, parser_b, fun s w hl hE => wparse2_t s hl w hE⟩
 ·exact ⟨_, callf3, parser_c, fun s w hl hE => wparse3_t s hl w⟩
theorem ppart_t (d : Dm) (t : List UInt8) (hl : t.length ≤ 2000000) (w : World) (hE : Env w) : Calls Tryz.prog 8 #[dv d, .string ⟨t.toArray⟩] w fun e w' => e = .returned (.tuple #[.int .i64 (ppD d t).1, kv (ppD d t).2.1, .int .i64 (ppD d t).2.2]) ∧ Below w.heap.size w w' := by
 have HR := fun (w' : World) (_ : Below w.heap.size w w') => dright_t d w'
 cases hd : rightD d with
 | false =>
  simp only [hd] at HR
  rw [ppD_bad hd]
  exact pp_bad d.kind d.side d.step _ w HR
 | true =>
  simp only [hd] at HR
  have hk := kind_dim hd
  have e : ppD d t = ppR d (Lib.cut t [47]).1 (Lib.cut t [47]).2.1 := by unfold ppD; rw [if_pos hd]
  have hlen := cut_len47 t 47
  have HC := fun (w' : World) (_ : Below w.heap.size w w') => cutc_t t 47 hl w'
  rw [e]
  generalize (Lib.cut t [47]).1 = A at *
  generalize (Lib.cut t [47]).2.1 = B at *
  generalize (Lib.cut t [47]).2.2 = fl at *
  obtain ⟨f, HF, HP, HW⟩ := parser_of hk
  have HP' := fun (w' : World) (_ : Below w.heap.size w w') => HP w'
  have HW' := fun (w' : World) (hb : Below w.heap.size w w') => HW A w' (by omega) (hE.later hb)
  have HD := fun (w' : World) (_ : Below w.heap.size w w') => width_t d.kind w'
  have hw := wid_range d.kind
  have HN := fun (w' : World) (_ : Below w.heap.size w w') => parse_t B (by omega) (wid d.kind) hw.1 (by omega) w'
  have hMM : (MM : Int) = 340282366920938463463374607431768211456 := rfl
  cases hB : wholeB d.kind A with
  | false =>
   rw [ppR_no (fun h => by rw [hB] at h; cases h.1)]
   simp only [hB] at HW'
   cases hT : txB B with
   | false =>
    simp only [pn_no _ hT] at HN
    exact pp_y f d.kind d.side d.step (wid d.kind) 0 0 (wholeK d.kind A) kz _ _ _ fl hw.1 hw.2 (by decide) (by decide) w HF HR HC HP' HW' HD HN
   | true =>
    by_cases hv : (valT B : Int) ≤ wid d.kind
    ·simp only [pn_in hT hv (by omega)] at HN
     exact pp_x f d.kind d.side d.step (wid d.kind) (valT B) 0 (wholeK d.kind A) kz _ _ _ fl hw.1 hw.2 (by omega) (by omega) w HF HR HC HP' HW' HD HN
    ·simp only [pn_out hT (show wid d.kind < (valT B : Int) by omega)] at HN
     exact pp_z f d.kind d.side d.step (wid d.kind) 0 0 (wholeK d.kind A) kz _ _ _ fl hw.1 hw.2 (by decide) (by decide) w HF HR HC HP' HW' HD HN
  | true =>
   simp only [hB] at HW'
   cases hT : txB B with
   | false =>
    rw [ppR_no (fun h => by rw [hT] at h; cases h.2)]
    simp only [pn_no _ hT] at HN
    exact pp_f f d.kind d.side d.step (wid d.kind) 0 0 (wholeK d.kind A) kz _ _ _ fl hw.1 hw.2 (by decide) (by decide) w HF HR HC HP' HW' HD HN
   | true =>
    have er : ppR d A B = if onD d (levelD d (valT B)) (keyAt d (levelD d (valT B)) (wholeK d.kind A)) = true then (levelD d (valT B), keyAt d (levelD d (valT B)) (wholeK d.kind A), 0) else (0, kz, 14) := by unfold ppR; rw [if_pos ⟨hB, hT⟩]
    rw [er]
    by_cases hv : (valT B : Int) ≤ wid d.kind
    ·simp only [pn_in hT hv (by omega)] at HN
     obtain ⟨hwr, hwk, hwl⟩ := whole_right hk hB
     have hlv := level_ok hd (valT B : Int) (by omega)
     obtain ⟨al1, al2⟩ := alike_on hd hwr hwk hwl (hlv.imp id And.left)
     have okw := wholeK_ok hk (s := A) (by omega)
     have HL := fun (w' : World) (_ : Below w.heap.size w w') => dlevel_t d (valT B : Int) w'
     have HK := fun (w' : World) (_ : Below w.heap.size w w') => dcut_t d (levelD d (valT B)) (wholeK d.kind A) okw w'
     have HA := fun (w' : World) (_ : Below w.heap.size w w') => alike_t (cutD d (levelD d (valT B)) (wholeK d.kind A)) (wholeK d.kind A) w'
     simp only [al1] at HA
     cases ho : onD d (levelD d (valT B)) (keyAt d (levelD d (valT B)) (wholeK d.kind A)) with
     | false =>
      simp only [ho] at HA
      rw [if_neg (by decide)]
      exact pp_n f d.kind d.side d.step (wid d.kind) (valT B) _ (wholeK d.kind A) _ _ _ _ fl hw.1 hw.2 (by omega) (by omega) w HF HR HC HP' HW' HD HN HL HK HA
     | true =>
      simp only [ho] at HA
      rw [if_pos rfl, ← al2 ho]
      exact pp_t f d.kind d.side d.step (wid d.kind) (valT B) _ (wholeK d.kind A) _ _ _ _ fl hw.1 hw.2 (by omega) (by omega) w HF HR HC HP' HW' HD HN HL HK HA
    ·simp only [pn_out hT (show wid d.kind < (valT B : Int) by omega)] at HN
     rw [level_far hd (show wid d.kind < (valT B : Int) by omega), on_neg, if_neg (by decide)]
     exact pp_o f d.kind d.side d.step (wid d.kind) 0 0 (wholeK d.kind A) kz _ _ _ fl hw.1 hw.2 (by decide) (by decide) w HF HR HC HP' HW' HD HN
theorem row1 {w : World} {g : Nat} {a : Value} {t : TypeId} (R : Row w g #[a] t) : w.cell? ⟨g, 0, none⟩ = some a ∧ True := ⟨(R.cell 0).trans rfl, trivial⟩
theorem tpr_no (s : Sp) (p : Px) (w : World)
  (HR : ∀ w', Below w.heap.size w w' → Calls Tryz.prog 19 #[sv s, pv p] w' fun e w'' => e = .returned (.bool false) ∧ Below w'.heap.size w' w'')
  : Calls Tryz.prog 15 #[sv s, pv p] w fun e w' => e = .returned (.string ⟨#[]⟩) ∧ Below w.heap.size w w' := by
 unfold sv pv at *
 obtain ⟨Rc, Rd, hb0⟩ := two_rows w #[.int .i64 s.n, .int .i64 s.d0.kind, .int .i64 s.d0.side, .int .i64 s.d0.step, .int .i64 s.d1.kind, .int .i64 s.d1.side, .int .i64 s.d1.step] #[.int .i64 p.a0, .int .i64 p.a1, .int .i64 p.k0.kind, .int .i64 p.k0.len, .int .u64 p.k0.h, .int .u64 p.k0.l, .string ⟨p.k0.path.toArray⟩, .int .i64 p.k1.kind, .int .i64 p.k1.len, .int .u64 p.k1.h, .int .u64 p.k1.l, .string ⟨p.k1.path.toArray⟩] 36 40
 (try clear c0 c1 c2 c3 c4 c5 c6); obtain ⟨c0, c1, c2, c3, c4, c5, c6⟩ := row7 Rc
 (try clear d0 d1 d2 d3 d4 d5 d6 d7 d8 d9 d10 d11); obtain ⟨d0, d1, d2, d3, d4, d5, d6, d7, d8, d9, d10, d11⟩ := row12 Rd
 go_enter Tryz.func15, Tryz.ntmps15
 go_wp2_with fail
 refine (HR _ hb0).mono ?_
 rintro e w1 ⟨rfl, hb⟩
 replace Rc := Rc.later hb
 replace Rd := Rd.later hb
 replace hb0 := below_step hb0 hb
 clear hb
 have lc := Rc.lt
 have ld := Rd.lt
 (try clear c0 c1 c2 c3 c4 c5 c6); obtain ⟨c0, c1, c2, c3, c4, c5, c6⟩ := row7 Rc
 (try clear d0 d1 d2 d3 d4 d5 d6 d7 d8 d9 d10 d11); obtain ⟨d0, d1, d2, d3, d4, d5, d6, d7, d8, d9, d10, d11⟩ := row12 Rd
 go_wp2
 exact bodyPost_ret (v := .string ⟨#[]⟩) (by simp [results, Tryz.results15, go_sem]) rfl ⟨rfl, hb0⟩
theorem tpr_1 (s : Sp) (p : Px) (A X : ByteArray) (w : World)
  (HR : ∀ w', Below w.heap.size w w' → Calls Tryz.prog 19 #[.agg #[.int .i64 1, .int .i64 s.d0.kind, .int .i64 s.d0.side, .int .i64 s.d0.step, .int .i64 s.d1.kind, .int .i64 s.d1.side, .int .i64 s.d1.step], pv p] w' fun e w'' => e = .returned (.bool true) ∧ Below w'.heap.size w' w'')
  (HP0 : ∀ w', Below w.heap.size w w' → Calls Tryz.prog 13 #[.agg #[.int .i64 s.d0.kind, .int .i64 s.d0.side, .int .i64 s.d0.step], .int .i64 p.a0, kv p.k0] w' fun e w'' => e = .returned (.string A) ∧ Below w'.heap.size w' w'')
  (HJ : ∀ (w' : World) (g : Nat), Below w.heap.size w w' → Row w' g #[.string A] 9 → Calls Tryz.prog 45 #[.slice (some ⟨g, 0, none⟩) 1 1, .string ⟨#[62]⟩] w' fun e w'' => e = .returned (.string X) ∧ Below w'.heap.size w' w'')
  : Calls Tryz.prog 15 #[.agg #[.int .i64 1, .int .i64 s.d0.kind, .int .i64 s.d0.side, .int .i64 s.d0.step, .int .i64 s.d1.kind, .int .i64 s.d1.side, .int .i64 s.d1.step], pv p] w fun e w' => e = .returned (.string X) ∧ Below w.heap.size w w' := by
 unfold pv kv at *
 obtain ⟨Rc, Rd, hb0⟩ := two_rows w #[.int .i64 1, .int .i64 s.d0.kind, .int .i64 s.d0.side, .int .i64 s.d0.step, .int .i64 s.d1.kind, .int .i64 s.d1.side, .int .i64 s.d1.step] #[.int .i64 p.a0, .int .i64 p.a1, .int .i64 p.k0.kind, .int .i64 p.k0.len, .int .u64 p.k0.h, .int .u64 p.k0.l, .string ⟨p.k0.path.toArray⟩, .int .i64 p.k1.kind, .int .i64 p.k1.len, .int .u64 p.k1.h, .int .u64 p.k1.l, .string ⟨p.k1.path.toArray⟩] 36 40
 (try clear c0 c1 c2 c3 c4 c5 c6); obtain ⟨c0, c1, c2, c3, c4, c5, c6⟩ := row7 Rc
 (try clear d0 d1 d2 d3 d4 d5 d6 d7 d8 d9 d10 d11); obtain ⟨d0, d1, d2, d3, d4, d5, d6, d7, d8, d9, d10, d11⟩ := row12 Rd
 go_enter Tryz.func15, Tryz.ntmps15
 go_wp2_with fail
 refine (HR _ hb0).mono ?_
 rintro e w1 ⟨rfl, hb⟩
 replace Rc := Rc.later hb
 replace Rd := Rd.later hb
 replace hb0 := below_step hb0 hb
 clear hb
 have lc := Rc.lt
 have ld := Rd.lt
 (try clear c0 c1 c2 c3 c4 c5 c6); obtain ⟨c0, c1, c2, c3, c4, c5, c6⟩ := row7 Rc
 (try clear d0 d1 d2 d3 d4 d5 d6 d7 d8 d9 d10 d11); obtain ⟨d0, d1, d2, d3, d4, d5, d6, d7, d8, d9, d10, d11⟩ := row12 Rd
 have hmk : (Instr.makeSlice 77 (.int .i64 1) (.int .i64 1)).run Tryz.prog w1 = .ok (.slice (some ⟨(Array.size (World.heap w1)), 0, none⟩) 1 1) (World.alloc w1 (.cells #[.string ⟨#[]⟩] 9)) := mk8 1 (by decide) w1
 go_wp2_with fail
 clear hmk
 have nmc := Rc.lt
 have nmd := Rd.lt
 replace Rc := Rc.alloc (.cells #[.string ⟨#[]⟩] 9)
 replace Rd := Rd.alloc (.cells #[.string ⟨#[]⟩] 9)
 have Rm := Row.new w1 #[Value.string ⟨#[]⟩] 9
 have mm := hb0.size
 replace hb0 := hb0.alloc hb0.size (.cells #[.string ⟨#[]⟩] 9)
 (try clear c0 c1 c2 c3 c4 c5 c6); obtain ⟨c0, c1, c2, c3, c4, c5, c6⟩ := row7 Rc
 (try clear d0 d1 d2 d3 d4 d5 d6 d7 d8 d9 d10 d11); obtain ⟨d0, d1, d2, d3, d4, d5, d6, d7, d8, d9, d10, d11⟩ := row12 Rd
 replace m0 := (Rm.cell 0).trans (show _ = some (Value.string ⟨#[]⟩) from rfl)
 refine wp_loop_rounds 3 ?_
 rw [rounds_succ]
 go_wp2_with fail
 refine wp_region_held_drew (S := (fun w' => w'.cell? ⟨w.heap.size, 1, none⟩ = some (Value.int .i64 s.d0.kind) ∧ w'.cell? ⟨w.heap.size, 2, none⟩ = some (Value.int .i64 s.d0.side) ∧ w'.cell? ⟨w.heap.size, 3, none⟩ = some (Value.int .i64 s.d0.step) ∧ w'.cell? ⟨w.heap.size + 1, 0, none⟩ = some (Value.int .i64 p.a0) ∧ w'.cell? ⟨w.heap.size + 1, 2, none⟩ = some (Value.int .i64 p.k0.kind) ∧ w'.cell? ⟨w.heap.size + 1, 3, none⟩ = some (Value.int .i64 p.k0.len) ∧ w'.cell? ⟨w.heap.size + 1, 4, none⟩ = some (Value.int .u64 p.k0.h) ∧ w'.cell? ⟨w.heap.size + 1, 5, none⟩ = some (Value.int .u64 p.k0.l) ∧ w'.cell? ⟨w.heap.size + 1, 6, none⟩ = some (Value.string ⟨p.k0.path.toArray⟩))) (by kernel_rfl) ?hSr1_ (fun hH => ?_)
 case hSr1_ => (exact ⟨c1, c2, c3, d0, d2, d3, d4, d5, d6⟩)
 (clear c0 c1 c2 c3 c4 c5 c6 d0 d1 d2 d3 d4 d5 d6 d7 d8 d9 d10 d11 m0; (replace Rc := Rc.drew); (replace Rd := Rd.drew); (replace Rm := Rm.drew); (replace hb0 := hb0.drew); (generalize World.drew (World.alloc w1 (.cells #[.string ⟨#[]⟩] 9)) = wq at *))
 refine tk 0 ⟨some 19, .move (.tmp 5), 77, _, _, _⟩ hH ?_
 refine tk 1 ⟨some 20, .move (.tmp 6), 3, _, _, _⟩ hH ?_
 refine tk 2 ⟨some 21, .move (.tmp 6), 3, _, _, _⟩ hH ?_
 refine tk 3 ⟨some 22, .fieldAddr 36 (.tmp 2) 1, 0, _, _, _⟩ hH ?_
 refine tk 4 ⟨some 23, .indexAddr 34 (.tmp 22) (.tmp 21), 0, _, _, _⟩ hH ?_
 refine tk 5 ⟨some 24, .load 23 (.tmp 23), 23, _, _, _⟩ hH ?_
 refine tk 6 ⟨some 25, .move (.tmp 6), 3, _, _, _⟩ hH ?_
 refine tk 7 ⟨some 26, .fieldAddr 40 (.tmp 3) 0, 0, _, _, _⟩ hH ?_
 refine tk 8 ⟨some 27, .indexAddr 37 (.tmp 26) (.tmp 25), 0, _, _, _⟩ hH ?_
 refine tk 9 ⟨some 28, .load 3 (.tmp 27), 3, _, _, _⟩ hH ?_
 refine tk 10 ⟨some 29, .move (.tmp 6), 3, _, _, _⟩ hH ?_
 refine tk 11 ⟨some 30, .fieldAddr 40 (.tmp 3) 1, 0, _, _, _⟩ hH ?_
 refine tk 12 ⟨some 31, .indexAddr 38 (.tmp 30) (.tmp 29), 0, _, _, _⟩ hH ?_
 refine tk 13 ⟨some 32, .load 26 (.tmp 31), 26, _, _, _⟩ hH ?_
 refine wpAnyH_ready (rs := [14]) (by kernel_rfl) (by simp) ?_
 refine AllReadyH.cons (o := ⟨some 33, .call { callee := .value (.func 13), args := #[.tmp 24, .tmp 28, .tmp 32], argTypes := #[23, 3, 26] }, 9, _, _, _⟩) rfl (fun K hK => ?_) AllReadyH.nil
 (go_simp; (refine (HP0 _ hb0).mono ?_); (rintro e wz ⟨rfl, hb⟩); (replace Rc := Rc.later hb); (replace Rd := Rd.later hb); (replace Rm := Rm.later hb); (replace hb0 := below_step hb0 hb); go_wp2_with fail)
 refine hK.out _ _ ?hSr1_15_14 fun _ => ?_
 case hSr1_15_14 => (exact kc hb (kc hb (kc hb (kc hb (kc hb (kc hb (kc hb (kc hb (cl hb)))))))) hH)
 clear hK K hH; rename_i hH
 rename World => wq
 (try simp only [Act.put, nz1, nz2, nz3])
 refine tk 15 ⟨some 34, .indexAddr 77 (.tmp 19) (.tmp 20), 0, _, _, _⟩ hH ?_
 refine wpAnyH_ready (rs := [16]) (by kernel_rfl) (by simp) ?_
 refine AllReadyH.cons (o := ⟨none, .store 9 (.tmp 34) (.tmp 33), 0, _, _, _⟩) rfl (fun K hK => ?_) AllReadyH.nil
 ((obtain ⟨zc0⟩ := row1 Rm); (have zf0 := Rm.frozen 0); (have hHq := hH); (obtain ⟨c1, c2, c3, d0, d2, d3, d4, d5, d6⟩ := hHq); go_simp; clear zc0 zf0 ; (obtain ⟨wz, hwk, hwz⟩ := pnm wq w1.heap.size 0 [.string A]); (simp only [World.setCells] at hwk); rw [← hwk]; clear hwk; (replace c1 := pcf hwz c1); (replace c2 := pcf hwz c2); (replace c3 := pcf hwz c3); (replace d0 := pcf hwz d0); (replace d2 := pcf hwz d2); (replace d3 := pcf hwz d3); (replace d4 := pcf hwz d4); (replace d5 := pcf hwz d5); (replace d6 := pcf hwz d6); (replace Rc := prf hwz Rc); (replace Rd := prf hwz Rd); (replace hb0 := pbl hwz hb0); (replace Rm : Row wz w1.heap.size #[.string A] 9 := psm hwz Rm (by simp [setL])); clear hwz)
 refine hK.out _ _ ?hSr1_17_16 fun _ => ?_
 case hSr1_17_16 => (exact ⟨c1, c2, c3, d0, d2, d3, d4, d5, d6⟩)
 clear hK K hH; rename_i hH
 rename World => wq
 (try simp only [Act.put, nz1, nz2, nz3])
 refine wpAnyH_done (by kernel_rfl) ?_ _
 clear hH
 rename World => w2
 have lc := Rc.lt
 have ld := Rd.lt
 have lm := Rm.lt
 (try clear c0 c1 c2 c3 c4 c5 c6); obtain ⟨c0, c1, c2, c3, c4, c5, c6⟩ := row7 Rc
 (try clear d0 d1 d2 d3 d4 d5 d6 d7 d8 d9 d10 d11); obtain ⟨d0, d1, d2, d3, d4, d5, d6, d7, d8, d9, d10, d11⟩ := row12 Rd
 replace m0 := (Rm.cell 0).trans (show _ = some (Value.string A) from rfl)
 go_wp2_with fail
 rw [rounds_succ]
 go_wp2_with fail
 refine (HJ _ _ hb0 Rm).mono ?_
 rintro e wz ⟨rfl, hb⟩
 replace hb0 := below_step hb0 hb
 clear hb
 go_wp2
 exact bodyPost_ret (v := .string X) (by simp [results, Tryz.results15, go_sem]) rfl ⟨rfl, hb0⟩
theorem tpr_2 (s : Sp) (p : Px) (A B X : ByteArray) (w : World)
  (HR : ∀ w', Below w.heap.size w w' → Calls Tryz.prog 19 #[.agg #[.int .i64 2, .int .i64 s.d0.kind, .int .i64 s.d0.side, .int .i64 s.d0.step, .int .i64 s.d1.kind, .int .i64 s.d1.side, .int .i64 s.d1.step], pv p] w' fun e w'' => e = .returned (.bool true) ∧ Below w'.heap.size w' w'')
  (HP0 : ∀ w', Below w.heap.size w w' → Calls Tryz.prog 13 #[.agg #[.int .i64 s.d0.kind, .int .i64 s.d0.side, .int .i64 s.d0.step], .int .i64 p.a0, kv p.k0] w' fun e w'' => e = .returned (.string A) ∧ Below w'.heap.size w' w'')
  (HP1 : ∀ w', Below w.heap.size w w' → Calls Tryz.prog 13 #[.agg #[.int .i64 s.d1.kind, .int .i64 s.d1.side, .int .i64 s.d1.step], .int .i64 p.a1, kv p.k1] w' fun e w'' => e = .returned (.string B) ∧ Below w'.heap.size w' w'')
  (HJ : ∀ (w' : World) (g : Nat), Below w.heap.size w w' → Row w' g #[.string A, .string B] 9 → Calls Tryz.prog 45 #[.slice (some ⟨g, 0, none⟩) 2 2, .string ⟨#[62]⟩] w' fun e w'' => e = .returned (.string X) ∧ Below w'.heap.size w' w'')
  : Calls Tryz.prog 15 #[.agg #[.int .i64 2, .int .i64 s.d0.kind, .int .i64 s.d0.side, .int .i64 s.d0.step, .int .i64 s.d1.kind, .int .i64 s.d1.side, .int .i64 s.d1.step], pv p] w fun e w' => e = .returned (.string X) ∧ Below w.heap.size w w' := by
 unfold pv kv at *
 obtain ⟨Rc, Rd, hb0⟩ := two_rows w #[.int .i64 2, .int .i64 s.d0.kind, .int .i64 s.d0.side, .int .i64 s.d0.step, .int .i64 s.d1.kind, .int .i64 s.d1.side, .int .i64 s.d1.step] #[.int .i64 p.a0, .int .i64 p.a1, .int .i64 p.k0.kind, .int .i64 p.k0.len, .int .u64 p.k0.h, .int .u64 p.k0.l, .string ⟨p.k0.path.toArray⟩, .int .i64 p.k1.kind, .int .i64 p.k1.len, .int .u64 p.k1.h, .int .u64 p.k1.l, .string ⟨p.k1.path.toArray⟩] 36 40
 (try clear c0 c1 c2 c3 c4 c5 c6); obtain ⟨c0, c1, c2, c3, c4, c5, c6⟩ := row7 Rc
 (try clear d0 d1 d2 d3 d4 d5 d6 d7 d8 d9 d10 d11); obtain ⟨d0, d1, d2, d3, d4, d5, d6, d7, d8, d9, d10, d11⟩ := row12 Rd
 go_enter Tryz.func15, Tryz.ntmps15
 go_wp2_with fail
 refine (HR _ hb0).mono ?_
 rintro e w1 ⟨rfl, hb⟩
 replace Rc := Rc.later hb
 replace Rd := Rd.later hb
 replace hb0 := below_step hb0 hb
 clear hb
 have lc := Rc.lt
 have ld := Rd.lt
 (try clear c0 c1 c2 c3 c4 c5 c6); obtain ⟨c0, c1, c2, c3, c4, c5, c6⟩ := row7 Rc
 (try clear d0 d1 d2 d3 d4 d5 d6 d7 d8 d9 d10 d11); obtain ⟨d0, d1, d2, d3, d4, d5, d6, d7, d8, d9, d10, d11⟩ := row12 Rd
 have hmk : (Instr.makeSlice 77 (.int .i64 2) (.int .i64 2)).run Tryz.prog w1 = .ok (.slice (some ⟨(Array.size (World.heap w1)), 0, none⟩) 2 2) (World.alloc w1 (.cells #[.string ⟨#[]⟩, .string ⟨#[]⟩] 9)) := mk8 2 (by decide) w1
 go_wp2_with fail
 clear hmk
 have nmc := Rc.lt
 have nmd := Rd.lt
 replace Rc := Rc.alloc (.cells #[.string ⟨#[]⟩, .string ⟨#[]⟩] 9)
 replace Rd := Rd.alloc (.cells #[.string ⟨#[]⟩, .string ⟨#[]⟩] 9)
 have Rm := Row.new w1 #[Value.string ⟨#[]⟩, Value.string ⟨#[]⟩] 9
 have mm := hb0.size
 replace hb0 := hb0.alloc hb0.size (.cells #[.string ⟨#[]⟩, .string ⟨#[]⟩] 9)
 (try clear c0 c1 c2 c3 c4 c5 c6); obtain ⟨c0, c1, c2, c3, c4, c5, c6⟩ := row7 Rc
 (try clear d0 d1 d2 d3 d4 d5 d6 d7 d8 d9 d10 d11); obtain ⟨d0, d1, d2, d3, d4, d5, d6, d7, d8, d9, d10, d11⟩ := row12 Rd
 (try clear m0 m1); obtain ⟨m0, m1⟩ := row2 Rm
 refine wp_loop_rounds 3 ?_
 rw [rounds_succ]
 go_wp2_with fail
 refine wp_region_held_drew (S := (fun w' => w'.cell? ⟨w.heap.size, 1, none⟩ = some (Value.int .i64 s.d0.kind) ∧ w'.cell? ⟨w.heap.size, 2, none⟩ = some (Value.int .i64 s.d0.side) ∧ w'.cell? ⟨w.heap.size, 3, none⟩ = some (Value.int .i64 s.d0.step) ∧ w'.cell? ⟨w.heap.size + 1, 0, none⟩ = some (Value.int .i64 p.a0) ∧ w'.cell? ⟨w.heap.size + 1, 2, none⟩ = some (Value.int .i64 p.k0.kind) ∧ w'.cell? ⟨w.heap.size + 1, 3, none⟩ = some (Value.int .i64 p.k0.len) ∧ w'.cell? ⟨w.heap.size + 1, 4, none⟩ = some (Value.int .u64 p.k0.h) ∧ w'.cell? ⟨w.heap.size + 1, 5, none⟩ = some (Value.int .u64 p.k0.l) ∧ w'.cell? ⟨w.heap.size + 1, 6, none⟩ = some (Value.string ⟨p.k0.path.toArray⟩))) (by kernel_rfl) ?hSr2_ (fun hH => ?_)
 case hSr2_ => (exact ⟨c1, c2, c3, d0, d2, d3, d4, d5, d6⟩)
 (clear c0 c1 c2 c3 c4 c5 c6 d0 d1 d2 d3 d4 d5 d6 d7 d8 d9 d10 d11 m0 m1; (replace Rc := Rc.drew); (replace Rd := Rd.drew); (replace Rm := Rm.drew); (replace hb0 := hb0.drew); (generalize World.drew (World.alloc w1 (.cells #[.string ⟨#[]⟩, .string ⟨#[]⟩] 9)) = wq at *))
 refine tk 0 ⟨some 19, .move (.tmp 5), 77, _, _, _⟩ hH ?_
 refine tk 1 ⟨some 20, .move (.tmp 6), 3, _, _, _⟩ hH ?_
 refine tk 2 ⟨some 21, .move (.tmp 6), 3, _, _, _⟩ hH ?_
 refine tk 3 ⟨some 22, .fieldAddr 36 (.tmp 2) 1, 0, _, _, _⟩ hH ?_
 refine tk 4 ⟨some 23, .indexAddr 34 (.tmp 22) (.tmp 21), 0, _, _, _⟩ hH ?_
 refine tk 5 ⟨some 24, .load 23 (.tmp 23), 23, _, _, _⟩ hH ?_
 refine tk 6 ⟨some 25, .move (.tmp 6), 3, _, _, _⟩ hH ?_
 refine tk 7 ⟨some 26, .fieldAddr 40 (.tmp 3) 0, 0, _, _, _⟩ hH ?_
 refine tk 8 ⟨some 27, .indexAddr 37 (.tmp 26) (.tmp 25), 0, _, _, _⟩ hH ?_
 refine tk 9 ⟨some 28, .load 3 (.tmp 27), 3, _, _, _⟩ hH ?_
 refine tk 10 ⟨some 29, .move (.tmp 6), 3, _, _, _⟩ hH ?_
 refine tk 11 ⟨some 30, .fieldAddr 40 (.tmp 3) 1, 0, _, _, _⟩ hH ?_
 refine tk 12 ⟨some 31, .indexAddr 38 (.tmp 30) (.tmp 29), 0, _, _, _⟩ hH ?_
 refine tk 13 ⟨some 32, .load 26 (.tmp 31), 26, _, _, _⟩ hH ?_
 refine wpAnyH_ready (rs := [14]) (by kernel_rfl) (by simp) ?_
 refine AllReadyH.cons (o := ⟨some 33, .call { callee := .value (.func 13), args := #[.tmp 24, .tmp 28, .tmp 32], argTypes := #[23, 3, 26] }, 9, _, _, _⟩) rfl (fun K hK => ?_) AllReadyH.nil
 (go_simp; (refine (HP0 _ hb0).mono ?_); (rintro e wz ⟨rfl, hb⟩); (replace Rc := Rc.later hb); (replace Rd := Rd.later hb); (replace Rm := Rm.later hb); (replace hb0 := below_step hb0 hb); go_wp2_with fail)
 refine hK.out _ _ ?hSr2_15_14 fun _ => ?_
 case hSr2_15_14 => (exact kc hb (kc hb (kc hb (kc hb (kc hb (kc hb (kc hb (kc hb (cl hb)))))))) hH)
 clear hK K hH; rename_i hH
 rename World => wq
 (try simp only [Act.put, nz1, nz2, nz3])
 refine tk 15 ⟨some 34, .indexAddr 77 (.tmp 19) (.tmp 20), 0, _, _, _⟩ hH ?_
 refine wpAnyH_ready (rs := [16]) (by kernel_rfl) (by simp) ?_
 refine AllReadyH.cons (o := ⟨none, .store 9 (.tmp 34) (.tmp 33), 0, _, _, _⟩) rfl (fun K hK => ?_) AllReadyH.nil
 ((obtain ⟨zc0, zd1⟩ := row2 Rm); (have zf0 := Rm.frozen 0); (have hHq := hH); (obtain ⟨c1, c2, c3, d0, d2, d3, d4, d5, d6⟩ := hHq); go_simp; clear zc0 zf0 zd1; (obtain ⟨wz, hwk, hwz⟩ := pnm wq w1.heap.size 0 [.string A]); (simp only [World.setCells] at hwk); rw [← hwk]; clear hwk; (replace c1 := pcf hwz c1); (replace c2 := pcf hwz c2); (replace c3 := pcf hwz c3); (replace d0 := pcf hwz d0); (replace d2 := pcf hwz d2); (replace d3 := pcf hwz d3); (replace d4 := pcf hwz d4); (replace d5 := pcf hwz d5); (replace d6 := pcf hwz d6); (replace Rc := prf hwz Rc); (replace Rd := prf hwz Rd); (replace hb0 := pbl hwz hb0); (replace Rm : Row wz w1.heap.size #[.string A, .string ⟨#[]⟩] 9 := psm hwz Rm (by simp [setL])); clear hwz)
 refine hK.out _ _ ?hSr2_17_16 fun _ => ?_
 case hSr2_17_16 => (exact ⟨c1, c2, c3, d0, d2, d3, d4, d5, d6⟩)
 clear hK K hH; rename_i hH
 rename World => wq
 (try simp only [Act.put, nz1, nz2, nz3])
 refine wpAnyH_done (by kernel_rfl) ?_ _
 clear hH
 rename World => w2
 have lc := Rc.lt
 have ld := Rd.lt
 have lm := Rm.lt
 (try clear c0 c1 c2 c3 c4 c5 c6); obtain ⟨c0, c1, c2, c3, c4, c5, c6⟩ := row7 Rc
 (try clear d0 d1 d2 d3 d4 d5 d6 d7 d8 d9 d10 d11); obtain ⟨d0, d1, d2, d3, d4, d5, d6, d7, d8, d9, d10, d11⟩ := row12 Rd
 (try clear m0 m1); obtain ⟨m0, m1⟩ := row2 Rm
 go_wp2_with fail
 rw [rounds_succ]
 go_wp2_with fail
 refine wp_region_held_drew (S := (fun w' => w'.cell? ⟨w.heap.size, 4, none⟩ = some (Value.int .i64 s.d1.kind) ∧ w'.cell? ⟨w.heap.size, 5, none⟩ = some (Value.int .i64 s.d1.side) ∧ w'.cell? ⟨w.heap.size, 6, none⟩ = some (Value.int .i64 s.d1.step) ∧ w'.cell? ⟨w.heap.size + 1, 1, none⟩ = some (Value.int .i64 p.a1) ∧ w'.cell? ⟨w.heap.size + 1, 7, none⟩ = some (Value.int .i64 p.k1.kind) ∧ w'.cell? ⟨w.heap.size + 1, 8, none⟩ = some (Value.int .i64 p.k1.len) ∧ w'.cell? ⟨w.heap.size + 1, 9, none⟩ = some (Value.int .u64 p.k1.h) ∧ w'.cell? ⟨w.heap.size + 1, 10, none⟩ = some (Value.int .u64 p.k1.l) ∧ w'.cell? ⟨w.heap.size + 1, 11, none⟩ = some (Value.string ⟨p.k1.path.toArray⟩))) (by kernel_rfl) ?hSr3_ (fun hH => ?_)
 case hSr3_ => (exact ⟨c4, c5, c6, d1, d7, d8, d9, d10, d11⟩)
 (clear c0 c1 c2 c3 c4 c5 c6 d0 d1 d2 d3 d4 d5 d6 d7 d8 d9 d10 d11 m0 m1; (replace Rc := Rc.drew); (replace Rd := Rd.drew); (replace Rm := Rm.drew); (replace hb0 := hb0.drew); (generalize World.drew w2 = wq at *))
 refine tk 0 ⟨some 19, .move (.tmp 5), 77, _, _, _⟩ hH ?_
 refine tk 1 ⟨some 20, .move (.tmp 6), 3, _, _, _⟩ hH ?_
 refine tk 2 ⟨some 21, .move (.tmp 6), 3, _, _, _⟩ hH ?_
 refine tk 3 ⟨some 22, .fieldAddr 36 (.tmp 2) 1, 0, _, _, _⟩ hH ?_
 refine tk 4 ⟨some 23, .indexAddr 34 (.tmp 22) (.tmp 21), 0, _, _, _⟩ hH ?_
 refine tk 5 ⟨some 24, .load 23 (.tmp 23), 23, _, _, _⟩ hH ?_
 refine tk 6 ⟨some 25, .move (.tmp 6), 3, _, _, _⟩ hH ?_
 refine tk 7 ⟨some 26, .fieldAddr 40 (.tmp 3) 0, 0, _, _, _⟩ hH ?_
 refine tk 8 ⟨some 27, .indexAddr 37 (.tmp 26) (.tmp 25), 0, _, _, _⟩ hH ?_
 refine tk 9 ⟨some 28, .load 3 (.tmp 27), 3, _, _, _⟩ hH ?_
 refine tk 10 ⟨some 29, .move (.tmp 6), 3, _, _, _⟩ hH ?_
 refine tk 11 ⟨some 30, .fieldAddr 40 (.tmp 3) 1, 0, _, _, _⟩ hH ?_
 refine tk 12 ⟨some 31, .indexAddr 38 (.tmp 30) (.tmp 29), 0, _, _, _⟩ hH ?_
 refine tk 13 ⟨some 32, .load 26 (.tmp 31), 26, _, _, _⟩ hH ?_
 refine wpAnyH_ready (rs := [14]) (by kernel_rfl) (by simp) ?_
 refine AllReadyH.cons (o := ⟨some 33, .call { callee := .value (.func 13), args := #[.tmp 24, .tmp 28, .tmp 32], argTypes := #[23, 3, 26] }, 9, _, _, _⟩) rfl (fun K hK => ?_) AllReadyH.nil
 (go_simp; (refine (HP1 _ hb0).mono ?_); (rintro e wz ⟨rfl, hb⟩); (replace Rc := Rc.later hb); (replace Rd := Rd.later hb); (replace Rm := Rm.later hb); (replace hb0 := below_step hb0 hb); go_wp2_with fail)
 refine hK.out _ _ ?hSr3_15_14 fun _ => ?_
 case hSr3_15_14 => (exact kc hb (kc hb (kc hb (kc hb (kc hb (kc hb (kc hb (kc hb (cl hb)))))))) hH)
 clear hK K hH; rename_i hH
 rename World => wq
 (try simp only [Act.put, nz1, nz2, nz3])
 refine tk 15 ⟨some 34, .indexAddr 77 (.tmp 19) (.tmp 20), 0, _, _, _⟩ hH ?_
 refine wpAnyH_ready (rs := [16]) (by kernel_rfl) (by simp) ?_
 refine AllReadyH.cons (o := ⟨none, .store 9 (.tmp 34) (.tmp 33), 0, _, _, _⟩) rfl (fun K hK => ?_) AllReadyH.nil
 ((obtain ⟨zd0, zc0⟩ := row2 Rm); (have zf0 := Rm.frozen 1); (have hHq := hH); (obtain ⟨c4, c5, c6, d1, d7, d8, d9, d10, d11⟩ := hHq); go_simp; clear zc0 zf0 zd0; (obtain ⟨wz, hwk, hwz⟩ := pnm wq w1.heap.size 1 [.string B]); (simp only [World.setCells] at hwk); rw [← hwk]; clear hwk; (replace c4 := pcf hwz c4); (replace c5 := pcf hwz c5); (replace c6 := pcf hwz c6); (replace d1 := pcf hwz d1); (replace d7 := pcf hwz d7); (replace d8 := pcf hwz d8); (replace d9 := pcf hwz d9); (replace d10 := pcf hwz d10); (replace d11 := pcf hwz d11); (replace Rc := prf hwz Rc); (replace Rd := prf hwz Rd); (replace hb0 := pbl hwz hb0); (replace Rm : Row wz w1.heap.size #[.string A, .string B] 9 := psm hwz Rm (by simp [setL])); clear hwz)
 refine hK.out _ _ ?hSr3_17_16 fun _ => ?_
 case hSr3_17_16 => (exact ⟨c4, c5, c6, d1, d7, d8, d9, d10, d11⟩)
 clear hK K hH; rename_i hH
 rename World => wq
 (try simp only [Act.put, nz1, nz2, nz3])
 refine wpAnyH_done (by kernel_rfl) ?_ _
 clear hH
 rename World => w3
 have lc := Rc.lt
 have ld := Rd.lt
 have lm := Rm.lt
 (try clear c0 c1 c2 c3 c4 c5 c6); obtain ⟨c0, c1, c2, c3, c4, c5, c6⟩ := row7 Rc
 (try clear d0 d1 d2 d3 d4 d5 d6 d7 d8 d9 d10 d11); obtain ⟨d0, d1, d2, d3, d4, d5, d6, d7, d8, d9, d10, d11⟩ := row12 Rd
 (try clear m0 m1); obtain ⟨m0, m1⟩ := row2 Rm
 go_wp2_with fail
 rw [rounds_succ]
 go_wp2_with fail
 refine (HJ _ _ hb0 Rm).mono ?_
 rintro e wz ⟨rfl, hb⟩
 replace hb0 := below_step hb0 hb
 clear hb
 go_wp2
 exact bodyPost_ret (v := .string X) (by simp [results, Tryz.results15, go_sem]) rfl ⟨rfl, hb0⟩
/-! lengths -/
theorem lens_le : ∀ (ls : List (List UInt8)), (∀ x ∈ ls, x.length ≤ 16) → Lib.lens ls ≤ 16 * ls.length
 | [], _ => by simp [Lib.lens]
 | x :: r, h => by
  have h1 := h x List.mem_cons_self
  have h2 := lens_le r (fun y hy => h y (List.mem_cons_of_mem _ hy))
  simp only [Lib.lens, List.map_cons, List.sum_cons, List.length_cons] at h2 ⊢
  omega
theorem path_len {p : List UInt8} (h : rightB p = true) : p.length ≤ 135 := by
 have e := jn_labs h
 have h8 := labsL_len p
 have hl : ∀ q ∈ labsL p, q.length ≤ 16 := by
  intro q hq
  have hall : (partsL p).all labB = true := by unfold rightB at h; simp only [Bool.and_eq_true] at h; exact h.2
  unfold labsL at hq
  rw [if_pos h] at hq
  have hb := List.all_eq_true.1 hall q hq
  unfold labB at hb
  simp only [Bool.and_eq_true, decide_eq_true_eq] at hb
  exact hb.2
 rw [← e]
 unfold jn
 cases hs : labsL p with
 | nil => rw [Lib.join_nil]; simp
 | cons q r =>
  rw [hs] at hl h8
  have h1 := Lib.join_length q r [46]
  have h2 := lens_le (q :: r) hl
  simp only [List.length_cons, List.length_nil] at h1 h2 h8
  omega
theorem wordK_small (k : Ke) : (wordK k).length ≤ 135 := by
 unfold wordK
 split
 ·rename_i hr
  split
  ·have := print4_len (k.h / 4294967296); omega
  ·split
   ·have := print6_len (grp k.num) (grp_range _); omega
   ·rename_i h1 h2
    rcases right_kind hr with (h | h) | h
    ·exact absurd h h1
    ·exact absurd h h2
    ·exact path_len (right_path hr h).1
 ·simp
theorem partK_small (d : Dm) (l : Int) (k : Ke) : (partK d l k).length ≤ 200 := by
  unfold partK
  split
  · have h1 := wordK_small k
    have hr := lenD_range d l
    have h39 := dec_len_39 (lenD d l).toNat (by have : (10 : Nat) ^ 39 = 1000000000000000000000000000000000000000 := by rfl
                                                omega)
    simp only [List.length_append, List.length_cons]
    omega
  · simp
theorem join1_t (A : List UInt8) (hA : A.length ≤ 200) (w' : World) (g : Nat) (R : Row w' g #[.string ⟨A.toArray⟩] 9) : Calls Tryz.prog 45 #[.slice (some ⟨g, 0, none⟩) 1 1, .string ⟨#[62]⟩] w' fun e w'' => e = .returned (.string ⟨A.toArray⟩) ∧ Below w'.heap.size w' w'' := by
 have h := Tryz.strings_Join g 0 1 [⟨A.toArray⟩] ⟨#[62]⟩ w' (fun j x hj => by
  match j, hj with
  | 0, hj => simp at hj; subst hj; exact (R.cell 0).trans rfl) R.lt (by simp) (by simp) (by simp [Lib.join_one]; omega)
 simp only [List.map_cons, List.map_nil, List.length_cons, List.length_nil] at h
 rw [Lib.join_one] at h
 exact h
theorem join2_t (A B : List UInt8) (hA : A.length ≤ 200) (hB : B.length ≤ 200) (w' : World) (g : Nat) (R : Row w' g #[.string ⟨A.toArray⟩, .string ⟨B.toArray⟩] 9) : Calls Tryz.prog 45 #[.slice (some ⟨g, 0, none⟩) 2 2, .string ⟨#[62]⟩] w' fun e w'' => e = .returned (.string ⟨(A ++ 62 :: B).toArray⟩) ∧ Below w'.heap.size w' w'' := by
 have ej : Lib.join [A, B] [62] = A ++ 62 :: B := by rw [Lib.join_cons]; simp [Lib.joinTail]
 have h := Tryz.strings_Join g 0 2 [⟨A.toArray⟩, ⟨B.toArray⟩] ⟨#[62]⟩ w' (fun j x hj => by
  match j, hj with
  | 0, hj => simp at hj; subst hj; exact (R.cell 0).trans rfl
  | 1, hj => simp at hj; subst hj; exact (R.cell 1).trans rfl) R.lt (by simp) (by simp) (by
   show (Lib.join [A, B] [62]).length ≤ 140737488355328
   rw [ej]; simp; omega)
 have h2 : Calls Tryz.prog 45 #[.slice (some ⟨g, 0, none⟩) 2 2, .string ⟨#[62]⟩] w' fun e w'' => e = .returned (.string ⟨(Lib.join [A, B] [62]).toArray⟩) ∧ Below w'.heap.size w' w'' := h
 rw [ej] at h2
 exact h2
theorem print_t (s : Sp) (p : Px) (ok : p.ok) (w : World) (hE : Env6 w) : Calls Tryz.prog 15 #[sv s, pv p] w fun e w' => e = .returned (.string ⟨(printS s p).toArray⟩) ∧ Below w.heap.size w w' := by
 have HR := fun (w' : World) (_ : Below w.heap.size w w') => right9_t s p ok w'
 cases hr : rightP s p with
 | false =>
  simp only [hr] at HR
  rw [print_bad hr]
  exact tpr_no s p w HR
 | true =>
  simp only [hr] at HR
  obtain ⟨hs, h0, h1⟩ := right_dims hr
  have HP0 := fun (w' : World) (hb : Below w.heap.size w w') => part_t s.d0 p.a0 p.k0 ok.k0 w' (hE.later hb)
  have HP1 := fun (w' : World) (hb : Below w.heap.size w w') => part_t s.d1 p.a1 p.k1 ok.k1 w' (hE.later hb)
  have e : printS s p = if s.n = 2 then partK s.d0 p.a0 p.k0 ++ 62 :: partK s.d1 p.a1 p.k1 else partK s.d0 p.a0 p.k0 := by unfold printS; rw [if_pos hr]
  have q0 := partK_small s.d0 p.a0 p.k0
  have q1 := partK_small s.d1 p.a1 p.k1
  rcases h1 with ⟨hn, _⟩ | ⟨hn, _⟩
  ·rw [e, if_neg (show ¬ s.n = 2 by omega)]
   have HR1 : ∀ w', Below w.heap.size w w' → Calls Tryz.prog 19 #[.agg #[.int .i64 1, .int .i64 s.d0.kind, .int .i64 s.d0.side, .int .i64 s.d0.step, .int .i64 s.d1.kind, .int .i64 s.d1.side, .int .i64 s.d1.step], pv p] w' fun e w'' => e = .returned (.bool true) ∧ Below w'.heap.size w' w'' := fun w' hb => by
    have h := HR w' hb; unfold sv at h; rw [hn] at h; exact h
   have h := tpr_1 s p _ _ w HR1 HP0 (fun w' g _ R => join1_t _ q0 w' g R)
   unfold sv; rw [hn]; exact h
  ·rw [e, if_pos hn]
   have HR1 : ∀ w', Below w.heap.size w w' → Calls Tryz.prog 19 #[.agg #[.int .i64 2, .int .i64 s.d0.kind, .int .i64 s.d0.side, .int .i64 s.d0.step, .int .i64 s.d1.kind, .int .i64 s.d1.side, .int .i64 s.d1.step], pv p] w' fun e w'' => e = .returned (.bool true) ∧ Below w'.heap.size w' w'' := fun w' hb => by
    have h := HR w' hb; unfold sv at h; rw [hn] at h; exact h
   have h := tpr_2 s p _ _ _ w HR1 HP0 HP1 (fun w' g _ R => join2_t _ _ q0 q1 w' g R)
   unfold sv; rw [hn]; exact h
end Go.Proofs.YtboinifeemghaaaGreatDoor
