/- T8: what the theorem needs of these texts. No conditions beyond those that are written. -/
import Derived.Test.YtboinifeemghaaaGreatDoorCJP2
set_option linter.unusedSimpArgs false
set_option linter.unusedVariables false
set_option maxHeartbeats 1600000
set_option maxRecDepth 100000
namespace Go.Proofs.YtboinifeemghaaaGreatDoor
open Go.RowKit
theorem tps_bad (s : Sp) (t : ByteArray) (w : World)
  (HR : ∀ w', Below w.heap.size w w' → Calls Tryz.prog 47 #[sv s] w' fun e w'' => e = .returned (.bool false) ∧ Below w'.heap.size w' w'')
  : Calls Tryz.prog 17 #[sv s, .string t] w fun e w' => e = .returned (.tuple #[.agg #[.int .i64 0, .int .i64 0, .int .i64 0, .int .i64 0, .int .u64 0, .int .u64 0, .string ⟨#[]⟩, .int .i64 0, .int .i64 0, .int .u64 0, .int .u64 0, .string ⟨#[]⟩], .int .i64 1]) ∧ Below w.heap.size w w' := by
 unfold sv at *
 obtain ⟨Rc, Rr, hb0⟩ := two_rows w #[.int .i64 s.n, .int .i64 s.d0.kind, .int .i64 s.d0.side, .int .i64 s.d0.step, .int .i64 s.d1.kind, .int .i64 s.d1.side, .int .i64 s.d1.step] #[.int .i64 0, .int .i64 0, .int .i64 0, .int .i64 0, .int .u64 0, .int .u64 0, .string ⟨#[]⟩, .int .i64 0, .int .i64 0, .int .u64 0, .int .u64 0, .string ⟨#[]⟩] 36 40
 (try clear c0 c1 c2 c3 c4 c5 c6); obtain ⟨c0, c1, c2, c3, c4, c5, c6⟩ := row7 Rc
 (try clear r0 r1 r2 r3 r4 r5 r6 r7 r8 r9 r10 r11); obtain ⟨r0, r1, r2, r3, r4, r5, r6, r7, r8, r9, r10, r11⟩ := row12 Rr
 go_enter Tryz.func17, Tryz.ntmps17
 go_wp2_with fail
 refine (HR _ hb0).mono ?_
 rintro e w1 ⟨rfl, hb⟩
 replace Rc := Rc.later hb
 replace Rr := Rr.later hb
 replace hb0 := below_step hb0 hb
 clear hb
 have lc := Rc.lt
 have lr := Rr.lt
 (try clear c0 c1 c2 c3 c4 c5 c6); obtain ⟨c0, c1, c2, c3, c4, c5, c6⟩ := row7 Rc
 (try clear r0 r1 r2 r3 r4 r5 r6 r7 r8 r9 r10 r11); obtain ⟨r0, r1, r2, r3, r4, r5, r6, r7, r8, r9, r10, r11⟩ := row12 Rr
 obtain ⟨rf0, rf1, rf2, rf3, rf4, rf5, rf6, rf7, rf8, rf9, rf10, rf11⟩ := fz12 Rr
 go_wp2
 obtain ⟨w2, hwk, hwn⟩ := pnm w1 (w.heap.size + 1) 0 [.int .i64 0, .int .i64 0, .int .i64 0, .int .i64 0, .int .u64 0, .int .u64 0, .string ⟨#[]⟩, .int .i64 0, .int .i64 0, .int .u64 0, .int .u64 0, .string ⟨#[]⟩]
 simp only [World.setCells] at hwk
 rw [← hwk]; clear hwk
 replace Rr : Row w2 (w.heap.size + 1) #[.int .i64 0, .int .i64 0, .int .i64 0, .int .i64 0, .int .u64 0, .int .u64 0, .string ⟨#[]⟩, .int .i64 0, .int .i64 0, .int .u64 0, .int .u64 0, .string ⟨#[]⟩] 40 := psm hwn Rr (by simp [setL])
 replace Rc := prf hwn Rc
 replace hb0 := pbl hwn hb0
 clear hwn c0 c1 c2 c3 c4 c5 c6 r0 r1 r2 r3 r4 r5 r6 r7 r8 r9 r10 r11
 (try clear rf0 rf1 rf2 rf3 rf4 rf5 rf6 rf7 rf8 rf9 rf10 rf11)
 (try clear c0 c1 c2 c3 c4 c5 c6); obtain ⟨c0, c1, c2, c3, c4, c5, c6⟩ := row7 Rc
 (try clear r0 r1 r2 r3 r4 r5 r6 r7 r8 r9 r10 r11); obtain ⟨r0, r1, r2, r3, r4, r5, r6, r7, r8, r9, r10, r11⟩ := row12 Rr
 refine bodyPost_ret (v := .tuple #[.agg #[.int .i64 0, .int .i64 0, .int .i64 0, .int .i64 0, .int .u64 0, .int .u64 0, .string ⟨#[]⟩, .int .i64 0, .int .i64 0, .int .u64 0, .int .u64 0, .string ⟨#[]⟩], .int .i64 1]) (by simp [results, Tryz.results17, go_sem, r0, r1, r2, r3, r4, r5, r6, r7, r8, r9, r10, r11]) rfl ⟨rfl, hb0⟩
theorem tps_no1 (s : Sp) (t : ByteArray) (cn : Int) (hc : ¬ cn = 0) (w : World)
  (HR : ∀ w', Below w.heap.size w w' → Calls Tryz.prog 47 #[.agg #[.int .i64 1, .int .i64 s.d0.kind, .int .i64 s.d0.side, .int .i64 s.d0.step, .int .i64 s.d1.kind, .int .i64 s.d1.side, .int .i64 s.d1.step]] w' fun e w'' => e = .returned (.bool true) ∧ Below w'.heap.size w' w'')
  (HC : ∀ w', Below w.heap.size w w' → Calls Tryz.prog 48 #[.string t, .string ⟨#[62]⟩] w' fun e w'' => e = .returned (.int .i64 cn) ∧ Below w'.heap.size w' w'')
  : Calls Tryz.prog 17 #[.agg #[.int .i64 1, .int .i64 s.d0.kind, .int .i64 s.d0.side, .int .i64 s.d0.step, .int .i64 s.d1.kind, .int .i64 s.d1.side, .int .i64 s.d1.step], .string t] w fun e w' => e = .returned (.tuple #[.agg #[.int .i64 0, .int .i64 0, .int .i64 0, .int .i64 0, .int .u64 0, .int .u64 0, .string ⟨#[]⟩, .int .i64 0, .int .i64 0, .int .u64 0, .int .u64 0, .string ⟨#[]⟩], .int .i64 3]) ∧ Below w.heap.size w w' := by
 have hw0 : IntKind.i64.wrap 0 = 0 := by decide
 have hcn : (cn != IntKind.i64.wrap 0) = true := by rw [hw0]; simpa using hc
 clear hw0
 obtain ⟨Rc, Rr, hb0⟩ := two_rows w #[.int .i64 1, .int .i64 s.d0.kind, .int .i64 s.d0.side, .int .i64 s.d0.step, .int .i64 s.d1.kind, .int .i64 s.d1.side, .int .i64 s.d1.step] #[.int .i64 0, .int .i64 0, .int .i64 0, .int .i64 0, .int .u64 0, .int .u64 0, .string ⟨#[]⟩, .int .i64 0, .int .i64 0, .int .u64 0, .int .u64 0, .string ⟨#[]⟩] 36 40
 (try clear c0 c1 c2 c3 c4 c5 c6); obtain ⟨c0, c1, c2, c3, c4, c5, c6⟩ := row7 Rc
 (try clear r0 r1 r2 r3 r4 r5 r6 r7 r8 r9 r10 r11); obtain ⟨r0, r1, r2, r3, r4, r5, r6, r7, r8, r9, r10, r11⟩ := row12 Rr
 go_enter Tryz.func17, Tryz.ntmps17
 go_wp2_with fail
 refine (HR _ hb0).mono ?_
 rintro e w1 ⟨rfl, hb⟩
 replace Rc := Rc.later hb
 replace Rr := Rr.later hb
 replace hb0 := below_step hb0 hb
 clear hb
 have lc := Rc.lt
 have lr := Rr.lt
 (try clear c0 c1 c2 c3 c4 c5 c6); obtain ⟨c0, c1, c2, c3, c4, c5, c6⟩ := row7 Rc
 (try clear r0 r1 r2 r3 r4 r5 r6 r7 r8 r9 r10 r11); obtain ⟨r0, r1, r2, r3, r4, r5, r6, r7, r8, r9, r10, r11⟩ := row12 Rr
 go_wp2_with fail
 refine wp_region_held_drew (S := (fun w' => w'.cell? ⟨w.heap.size, 0, none⟩ = some (Value.int .i64 1))) (by kernel_rfl) ?hSr1_ (fun hH => ?_)
 case hSr1_ => (exact c0)
 (clear c0 c1 c2 c3 c4 c5 c6 r0 r1 r2 r3 r4 r5 r6 r7 r8 r9 r10 r11; (replace Rc := Rc.drew); (replace Rr := Rr.drew); (replace hb0 := hb0.drew); (generalize World.drew w1 = wq at *))
 refine tk 0 ⟨some 16, .move (.tmp 1), 9, _, _, _⟩ hH ?_
 refine tk 2 ⟨some 18, .fieldAddr 36 (.tmp 2) 0, 0, _, _, _⟩ hH ?_
 refine tk 3 ⟨some 19, .load 3 (.tmp 18), 3, _, _, _⟩ hH ?_
 refine tk 4 ⟨some 20, .binOp .sub 3 (.tmp 19) (.const (.int .i64 1)) 3, 3, _, _, _⟩ hH ?_
 refine wpAnyH_ready (rs := [1]) (by kernel_rfl) (by simp) ?_
 refine AllReadyH.cons (o := ⟨some 17, .call { callee := .value (.func 48), args := #[.tmp 16, .const (.string { data := #[62] })], argTypes := #[9, 9] }, 3, _, _, _⟩) rfl (fun K hK => ?_) AllReadyH.nil
 (go_simp; (refine (HC _ hb0).mono ?_); (rintro e wz ⟨rfl, hb⟩); (replace Rc := Rc.later hb); (replace Rr := Rr.later hb); (replace hb0 := below_step hb0 hb); go_wp2_with fail)
 refine hK.out _ _ ?hSr1_5_1 fun _ => ?_
 case hSr1_5_1 => (exact cl hb hH)
 clear hK K hH; rename_i hH
 rename World => wq
 (try simp only [Act.put, nz1, nz2, nz3])
 refine tk 5 ⟨some 21, .binOp .neq 3 (.tmp 17) (.tmp 20) 3, 4, _, _, _⟩ hH ?_
 refine wpAnyH_done (by kernel_rfl) ?_ _
 clear hH
 rename World => w2
 have lc := Rc.lt
 have lr := Rr.lt
 (try clear c0 c1 c2 c3 c4 c5 c6); obtain ⟨c0, c1, c2, c3, c4, c5, c6⟩ := row7 Rc
 (try clear r0 r1 r2 r3 r4 r5 r6 r7 r8 r9 r10 r11); obtain ⟨r0, r1, r2, r3, r4, r5, r6, r7, r8, r9, r10, r11⟩ := row12 Rr
 obtain ⟨rf0, rf1, rf2, rf3, rf4, rf5, rf6, rf7, rf8, rf9, rf10, rf11⟩ := fz12 Rr
 go_wp2
 obtain ⟨w3, hwk, hwn⟩ := pnm w2 (w.heap.size + 1) 0 [.int .i64 0, .int .i64 0, .int .i64 0, .int .i64 0, .int .u64 0, .int .u64 0, .string ⟨#[]⟩, .int .i64 0, .int .i64 0, .int .u64 0, .int .u64 0, .string ⟨#[]⟩]
 simp only [World.setCells] at hwk
 rw [← hwk]; clear hwk
 replace Rr : Row w3 (w.heap.size + 1) #[.int .i64 0, .int .i64 0, .int .i64 0, .int .i64 0, .int .u64 0, .int .u64 0, .string ⟨#[]⟩, .int .i64 0, .int .i64 0, .int .u64 0, .int .u64 0, .string ⟨#[]⟩] 40 := psm hwn Rr (by simp [setL])
 replace Rc := prf hwn Rc
 replace hb0 := pbl hwn hb0
 clear hwn c0 c1 c2 c3 c4 c5 c6 r0 r1 r2 r3 r4 r5 r6 r7 r8 r9 r10 r11
 (try clear rf0 rf1 rf2 rf3 rf4 rf5 rf6 rf7 rf8 rf9 rf10 rf11)
 (try clear c0 c1 c2 c3 c4 c5 c6); obtain ⟨c0, c1, c2, c3, c4, c5, c6⟩ := row7 Rc
 (try clear r0 r1 r2 r3 r4 r5 r6 r7 r8 r9 r10 r11); obtain ⟨r0, r1, r2, r3, r4, r5, r6, r7, r8, r9, r10, r11⟩ := row12 Rr
 refine bodyPost_ret (v := .tuple #[.agg #[.int .i64 0, .int .i64 0, .int .i64 0, .int .i64 0, .int .u64 0, .int .u64 0, .string ⟨#[]⟩, .int .i64 0, .int .i64 0, .int .u64 0, .int .u64 0, .string ⟨#[]⟩], .int .i64 3]) (by simp [results, Tryz.results17, go_sem, r0, r1, r2, r3, r4, r5, r6, r7, r8, r9, r10, r11]) rfl ⟨rfl, hb0⟩
theorem tps_1e (s : Sp) (t X : ByteArray) (l0 : Int) (k0 : Ke) (er : Int) (he : ¬ er = 0) (w : World)
  (HR : ∀ w', Below w.heap.size w w' → Calls Tryz.prog 47 #[.agg #[.int .i64 1, .int .i64 s.d0.kind, .int .i64 s.d0.side, .int .i64 s.d0.step, .int .i64 s.d1.kind, .int .i64 s.d1.side, .int .i64 s.d1.step]] w' fun e w'' => e = .returned (.bool true) ∧ Below w'.heap.size w' w'')
  (HC : ∀ w', Below w.heap.size w w' → Calls Tryz.prog 48 #[.string t, .string ⟨#[62]⟩] w' fun e w'' => e = .returned (.int .i64 0) ∧ Below w'.heap.size w' w'')
  (HS : ∀ w', Below w.heap.size w w' → Calls Tryz.prog 49 #[.string t, .string ⟨#[62]⟩] w' fun e w'' => e = .returned (.slice (some ⟨w'.heap.size, 0, none⟩) 1 1) ∧ w'' = w'.alloc (.cells #[.string X] 9))
  (HP0 : ∀ w', Below w.heap.size w w' → Calls Tryz.prog 8 #[.agg #[.int .i64 s.d0.kind, .int .i64 s.d0.side, .int .i64 s.d0.step], .string X] w' fun e w'' => e = .returned (.tuple #[.int .i64 l0, kv k0, .int .i64 er]) ∧ Below w'.heap.size w' w'')
  : Calls Tryz.prog 17 #[.agg #[.int .i64 1, .int .i64 s.d0.kind, .int .i64 s.d0.side, .int .i64 s.d0.step, .int .i64 s.d1.kind, .int .i64 s.d1.side, .int .i64 s.d1.step], .string t] w fun e w' => e = .returned (.tuple #[.agg #[.int .i64 0, .int .i64 0, .int .i64 0, .int .i64 0, .int .u64 0, .int .u64 0, .string ⟨#[]⟩, .int .i64 0, .int .i64 0, .int .u64 0, .int .u64 0, .string ⟨#[]⟩], .int .i64 er]) ∧ Below w.heap.size w w' := by
 have heb : (er == 0) = false := by simpa using he
 have hen : (er != 0) = true := by simpa using he
 have hcz : ((0 : Int) != IntKind.i64.wrap 0) = false := by decide
 unfold kv at *
 obtain ⟨Rc, Rr, hb0⟩ := two_rows w #[.int .i64 1, .int .i64 s.d0.kind, .int .i64 s.d0.side, .int .i64 s.d0.step, .int .i64 s.d1.kind, .int .i64 s.d1.side, .int .i64 s.d1.step] #[.int .i64 0, .int .i64 0, .int .i64 0, .int .i64 0, .int .u64 0, .int .u64 0, .string ⟨#[]⟩, .int .i64 0, .int .i64 0, .int .u64 0, .int .u64 0, .string ⟨#[]⟩] 36 40
 (try clear c0 c1 c2 c3 c4 c5 c6); obtain ⟨c0, c1, c2, c3, c4, c5, c6⟩ := row7 Rc
 (try clear r0 r1 r2 r3 r4 r5 r6 r7 r8 r9 r10 r11); obtain ⟨r0, r1, r2, r3, r4, r5, r6, r7, r8, r9, r10, r11⟩ := row12 Rr
 go_enter Tryz.func17, Tryz.ntmps17
 go_wp2_with fail
 refine (HR _ hb0).mono ?_
 rintro e w1 ⟨rfl, hb⟩
 replace Rc := Rc.later hb
 replace Rr := Rr.later hb
 replace hb0 := below_step hb0 hb
 clear hb
 have lc := Rc.lt
 have lr := Rr.lt
 (try clear c0 c1 c2 c3 c4 c5 c6); obtain ⟨c0, c1, c2, c3, c4, c5, c6⟩ := row7 Rc
 (try clear r0 r1 r2 r3 r4 r5 r6 r7 r8 r9 r10 r11); obtain ⟨r0, r1, r2, r3, r4, r5, r6, r7, r8, r9, r10, r11⟩ := row12 Rr
 go_wp2_with fail
 refine wp_region_held_drew (S := (fun w' => w'.cell? ⟨w.heap.size, 0, none⟩ = some (Value.int .i64 1))) (by kernel_rfl) ?hSr2_ (fun hH => ?_)
 case hSr2_ => (exact c0)
 (clear c0 c1 c2 c3 c4 c5 c6 r0 r1 r2 r3 r4 r5 r6 r7 r8 r9 r10 r11; (replace Rc := Rc.drew); (replace Rr := Rr.drew); (replace hb0 := hb0.drew); (generalize World.drew w1 = wq at *))
 refine tk 0 ⟨some 16, .move (.tmp 1), 9, _, _, _⟩ hH ?_
 refine tk 2 ⟨some 18, .fieldAddr 36 (.tmp 2) 0, 0, _, _, _⟩ hH ?_
 refine tk 3 ⟨some 19, .load 3 (.tmp 18), 3, _, _, _⟩ hH ?_
 refine tk 4 ⟨some 20, .binOp .sub 3 (.tmp 19) (.const (.int .i64 1)) 3, 3, _, _, _⟩ hH ?_
 refine wpAnyH_ready (rs := [1]) (by kernel_rfl) (by simp) ?_
 refine AllReadyH.cons (o := ⟨some 17, .call { callee := .value (.func 48), args := #[.tmp 16, .const (.string { data := #[62] })], argTypes := #[9, 9] }, 3, _, _, _⟩) rfl (fun K hK => ?_) AllReadyH.nil
 (go_simp; (refine (HC _ hb0).mono ?_); (rintro e wz ⟨rfl, hb⟩); (replace Rc := Rc.later hb); (replace Rr := Rr.later hb); (replace hb0 := below_step hb0 hb); go_wp2_with fail)
 refine hK.out _ _ ?hSr2_5_1 fun _ => ?_
 case hSr2_5_1 => (exact cl hb hH)
 clear hK K hH; rename_i hH
 rename World => wq
 (try simp only [Act.put, nz1, nz2, nz3])
 refine tk 5 ⟨some 21, .binOp .neq 3 (.tmp 17) (.tmp 20) 3, 4, _, _, _⟩ hH ?_
 refine wpAnyH_done (by kernel_rfl) ?_ _
 clear hH
 rename World => w2
 have lc := Rc.lt
 have lr := Rr.lt
 (try clear c0 c1 c2 c3 c4 c5 c6); obtain ⟨c0, c1, c2, c3, c4, c5, c6⟩ := row7 Rc
 (try clear r0 r1 r2 r3 r4 r5 r6 r7 r8 r9 r10 r11); obtain ⟨r0, r1, r2, r3, r4, r5, r6, r7, r8, r9, r10, r11⟩ := row12 Rr
 go_wp2_with fail
 have nqc := Rc.lt
 have nqr := Rr.lt
 replace Rc := Rc.alloc (.cells #[.int .i64 0, .int .i64 0, .int .i64 0, .int .i64 0, .int .u64 0, .int .u64 0, .string ⟨#[]⟩, .int .i64 0, .int .i64 0, .int .u64 0, .int .u64 0, .string ⟨#[]⟩] 40)
 replace Rr := Rr.alloc (.cells #[.int .i64 0, .int .i64 0, .int .i64 0, .int .i64 0, .int .u64 0, .int .u64 0, .string ⟨#[]⟩, .int .i64 0, .int .i64 0, .int .u64 0, .int .u64 0, .string ⟨#[]⟩] 40)
 have Rq := Row.new w2 #[Value.int .i64 0, Value.int .i64 0, Value.int .i64 0, Value.int .i64 0, Value.int .u64 0, Value.int .u64 0, Value.string ⟨#[]⟩, Value.int .i64 0, Value.int .i64 0, Value.int .u64 0, Value.int .u64 0, Value.string ⟨#[]⟩] 40
 have mq := hb0.size
 replace hb0 := hb0.alloc hb0.size (.cells #[.int .i64 0, .int .i64 0, .int .i64 0, .int .i64 0, .int .u64 0, .int .u64 0, .string ⟨#[]⟩, .int .i64 0, .int .i64 0, .int .u64 0, .int .u64 0, .string ⟨#[]⟩] 40)
 (try clear c0 c1 c2 c3 c4 c5 c6); obtain ⟨c0, c1, c2, c3, c4, c5, c6⟩ := row7 Rc
 (try clear r0 r1 r2 r3 r4 r5 r6 r7 r8 r9 r10 r11); obtain ⟨r0, r1, r2, r3, r4, r5, r6, r7, r8, r9, r10, r11⟩ := row12 Rr
 (try clear q0 q1 q2 q3 q4 q5 q6 q7 q8 q9 q10 q11); obtain ⟨q0, q1, q2, q3, q4, q5, q6, q7, q8, q9, q10, q11⟩ := row12 Rq
 refine (HS _ hb0).mono ?_
 rintro e wz ⟨rfl, rfl⟩
 replace Rc := Rc.alloc (.cells #[.string X] 9)
 replace Rr := Rr.alloc (.cells #[.string X] 9)
 replace Rq := Rq.alloc (.cells #[.string X] 9)
 have Rm := Row.new (World.alloc w2 (.cells #[.int .i64 0, .int .i64 0, .int .i64 0, .int .i64 0, .int .u64 0, .int .u64 0, .string ⟨#[]⟩, .int .i64 0, .int .i64 0, .int .u64 0, .int .u64 0, .string ⟨#[]⟩] 40)) #[Value.string X] 9
 simp only [World.size_alloc] at Rm
 have mm := hb0.size
 replace hb0 := hb0.alloc hb0.size (.cells #[.string X] 9)
 (try clear c0 c1 c2 c3 c4 c5 c6); obtain ⟨c0, c1, c2, c3, c4, c5, c6⟩ := row7 Rc
 (try clear r0 r1 r2 r3 r4 r5 r6 r7 r8 r9 r10 r11); obtain ⟨r0, r1, r2, r3, r4, r5, r6, r7, r8, r9, r10, r11⟩ := row12 Rr
 (try clear q0 q1 q2 q3 q4 q5 q6 q7 q8 q9 q10 q11); obtain ⟨q0, q1, q2, q3, q4, q5, q6, q7, q8, q9, q10, q11⟩ := row12 Rq
 replace m0 := (Rm.cell 0).trans (show _ = some (Value.string X) from rfl)
 go_wp2_with fail
 refine wp_loop_rounds 3 ?_
 rw [rounds_succ]
 go_wp2_with fail
 go_wp2_with fail
 refine (HP0 _ hb0).mono ?_
 rintro e w3 ⟨rfl, hb⟩
 replace Rc := Rc.later hb
 replace Rr := Rr.later hb
 replace Rq := Rq.later hb
 replace Rm := Rm.later hb
 replace hb0 := below_step hb0 hb
 clear hb
 have lc := Rc.lt
 have lr := Rr.lt
 have lq := Rq.lt
 have lm := Rm.lt
 (try clear c0 c1 c2 c3 c4 c5 c6); obtain ⟨c0, c1, c2, c3, c4, c5, c6⟩ := row7 Rc
 (try clear r0 r1 r2 r3 r4 r5 r6 r7 r8 r9 r10 r11); obtain ⟨r0, r1, r2, r3, r4, r5, r6, r7, r8, r9, r10, r11⟩ := row12 Rr
 (try clear q0 q1 q2 q3 q4 q5 q6 q7 q8 q9 q10 q11); obtain ⟨q0, q1, q2, q3, q4, q5, q6, q7, q8, q9, q10, q11⟩ := row12 Rq
 replace m0 := (Rm.cell 0).trans (show _ = some (Value.string X) from rfl)
 obtain ⟨rf0, rf1, rf2, rf3, rf4, rf5, rf6, rf7, rf8, rf9, rf10, rf11⟩ := fz12 Rr
 go_wp2
 obtain ⟨w4, hwk, hwn⟩ := pnm w3 (w.heap.size + 1) 0 [.int .i64 0, .int .i64 0, .int .i64 0, .int .i64 0, .int .u64 0, .int .u64 0, .string ⟨#[]⟩, .int .i64 0, .int .i64 0, .int .u64 0, .int .u64 0, .string ⟨#[]⟩]
 simp only [World.setCells] at hwk
 rw [← hwk]; clear hwk
 replace Rr : Row w4 (w.heap.size + 1) #[.int .i64 0, .int .i64 0, .int .i64 0, .int .i64 0, .int .u64 0, .int .u64 0, .string ⟨#[]⟩, .int .i64 0, .int .i64 0, .int .u64 0, .int .u64 0, .string ⟨#[]⟩] 40 := psm hwn Rr (by simp [setL])
 replace Rc := prf hwn Rc
 replace Rq := prf hwn Rq
 replace Rm := prf hwn Rm
 replace hb0 := pbl hwn hb0
 clear hwn c0 c1 c2 c3 c4 c5 c6 r0 r1 r2 r3 r4 r5 r6 r7 r8 r9 r10 r11 q0 q1 q2 q3 q4 q5 q6 q7 q8 q9 q10 q11 m0
 (try clear rf0 rf1 rf2 rf3 rf4 rf5 rf6 rf7 rf8 rf9 rf10 rf11)
 (try clear c0 c1 c2 c3 c4 c5 c6); obtain ⟨c0, c1, c2, c3, c4, c5, c6⟩ := row7 Rc
 (try clear r0 r1 r2 r3 r4 r5 r6 r7 r8 r9 r10 r11); obtain ⟨r0, r1, r2, r3, r4, r5, r6, r7, r8, r9, r10, r11⟩ := row12 Rr
 (try clear q0 q1 q2 q3 q4 q5 q6 q7 q8 q9 q10 q11); obtain ⟨q0, q1, q2, q3, q4, q5, q6, q7, q8, q9, q10, q11⟩ := row12 Rq
 replace m0 := (Rm.cell 0).trans (show _ = some (Value.string X) from rfl)
 have nx0c := Rc.lt
 have nx0r := Rr.lt
 have nx0q := Rq.lt
 have nx0m := Rm.lt
 replace Rc := Rc.alloc (.cells #[.int .i64 k0.kind, .int .i64 k0.len, .int .u64 k0.h, .int .u64 k0.l, .string ⟨k0.path.toArray⟩] 26)
 replace Rr := Rr.alloc (.cells #[.int .i64 k0.kind, .int .i64 k0.len, .int .u64 k0.h, .int .u64 k0.l, .string ⟨k0.path.toArray⟩] 26)
 replace Rq := Rq.alloc (.cells #[.int .i64 k0.kind, .int .i64 k0.len, .int .u64 k0.h, .int .u64 k0.l, .string ⟨k0.path.toArray⟩] 26)
 replace Rm := Rm.alloc (.cells #[.int .i64 k0.kind, .int .i64 k0.len, .int .u64 k0.h, .int .u64 k0.l, .string ⟨k0.path.toArray⟩] 26)
 have Rx0 := Row.new w4 #[Value.int .i64 k0.kind, Value.int .i64 k0.len, Value.int .u64 k0.h, Value.int .u64 k0.l, Value.string ⟨k0.path.toArray⟩] 26
 have mx0 := hb0.size
 replace hb0 := hb0.alloc hb0.size (.cells #[.int .i64 k0.kind, .int .i64 k0.len, .int .u64 k0.h, .int .u64 k0.l, .string ⟨k0.path.toArray⟩] 26)
 (try clear c0 c1 c2 c3 c4 c5 c6); obtain ⟨c0, c1, c2, c3, c4, c5, c6⟩ := row7 Rc
 (try clear r0 r1 r2 r3 r4 r5 r6 r7 r8 r9 r10 r11); obtain ⟨r0, r1, r2, r3, r4, r5, r6, r7, r8, r9, r10, r11⟩ := row12 Rr
 (try clear q0 q1 q2 q3 q4 q5 q6 q7 q8 q9 q10 q11); obtain ⟨q0, q1, q2, q3, q4, q5, q6, q7, q8, q9, q10, q11⟩ := row12 Rq
 replace m0 := (Rm.cell 0).trans (show _ = some (Value.string X) from rfl)
 (try clear x00 x01 x02 x03 x04); obtain ⟨x00, x01, x02, x03, x04⟩ := row5 Rx0
 refine bodyPost_ret (v := .tuple #[.agg #[.int .i64 0, .int .i64 0, .int .i64 0, .int .i64 0, .int .u64 0, .int .u64 0, .string ⟨#[]⟩, .int .i64 0, .int .i64 0, .int .u64 0, .int .u64 0, .string ⟨#[]⟩], .int .i64 er]) (by simp [results, Tryz.results17, go_sem, r0, r1, r2, r3, r4, r5, r6, r7, r8, r9, r10, r11]) rfl ⟨rfl, hb0⟩
theorem tps_1o (s : Sp) (t X : ByteArray) (l0 : Int) (k0 : Ke) (w : World)
  (HR : ∀ w', Below w.heap.size w w' → Calls Tryz.prog 47 #[.agg #[.int .i64 1, .int .i64 s.d0.kind, .int .i64 s.d0.side, .int .i64 s.d0.step, .int .i64 s.d1.kind, .int .i64 s.d1.side, .int .i64 s.d1.step]] w' fun e w'' => e = .returned (.bool true) ∧ Below w'.heap.size w' w'')
  (HC : ∀ w', Below w.heap.size w w' → Calls Tryz.prog 48 #[.string t, .string ⟨#[62]⟩] w' fun e w'' => e = .returned (.int .i64 0) ∧ Below w'.heap.size w' w'')
  (HS : ∀ w', Below w.heap.size w w' → Calls Tryz.prog 49 #[.string t, .string ⟨#[62]⟩] w' fun e w'' => e = .returned (.slice (some ⟨w'.heap.size, 0, none⟩) 1 1) ∧ w'' = w'.alloc (.cells #[.string X] 9))
  (HP0 : ∀ w', Below w.heap.size w w' → Calls Tryz.prog 8 #[.agg #[.int .i64 s.d0.kind, .int .i64 s.d0.side, .int .i64 s.d0.step], .string X] w' fun e w'' => e = .returned (.tuple #[.int .i64 l0, kv k0, .int .i64 0]) ∧ Below w'.heap.size w' w'')
  : Calls Tryz.prog 17 #[.agg #[.int .i64 1, .int .i64 s.d0.kind, .int .i64 s.d0.side, .int .i64 s.d0.step, .int .i64 s.d1.kind, .int .i64 s.d1.side, .int .i64 s.d1.step], .string t] w fun e w' => e = .returned (.tuple #[.agg #[.int .i64 l0, .int .i64 0, .int .i64 k0.kind, .int .i64 k0.len, .int .u64 k0.h, .int .u64 k0.l, .string ⟨k0.path.toArray⟩, .int .i64 0, .int .i64 0, .int .u64 0, .int .u64 0, .string ⟨#[]⟩], .int .i64 0]) ∧ Below w.heap.size w w' := by
 have hcz : ((0 : Int) != IntKind.i64.wrap 0) = false := by decide
 unfold kv at *
 obtain ⟨Rc, Rr, hb0⟩ := two_rows w #[.int .i64 1, .int .i64 s.d0.kind, .int .i64 s.d0.side, .int .i64 s.d0.step, .int .i64 s.d1.kind, .int .i64 s.d1.side, .int .i64 s.d1.step] #[.int .i64 0, .int .i64 0, .int .i64 0, .int .i64 0, .int .u64 0, .int .u64 0, .string ⟨#[]⟩, .int .i64 0, .int .i64 0, .int .u64 0, .int .u64 0, .string ⟨#[]⟩] 36 40
 (try clear c0 c1 c2 c3 c4 c5 c6); obtain ⟨c0, c1, c2, c3, c4, c5, c6⟩ := row7 Rc
 (try clear r0 r1 r2 r3 r4 r5 r6 r7 r8 r9 r10 r11); obtain ⟨r0, r1, r2, r3, r4, r5, r6, r7, r8, r9, r10, r11⟩ := row12 Rr
 go_enter Tryz.func17, Tryz.ntmps17
 go_wp2_with fail
 refine (HR _ hb0).mono ?_
 rintro e w1 ⟨rfl, hb⟩
 replace Rc := Rc.later hb
 replace Rr := Rr.later hb
 replace hb0 := below_step hb0 hb
 clear hb
 have lc := Rc.lt
 have lr := Rr.lt
 (try clear c0 c1 c2 c3 c4 c5 c6); obtain ⟨c0, c1, c2, c3, c4, c5, c6⟩ := row7 Rc
 (try clear r0 r1 r2 r3 r4 r5 r6 r7 r8 r9 r10 r11); obtain ⟨r0, r1, r2, r3, r4, r5, r6, r7, r8, r9, r10, r11⟩ := row12 Rr
 go_wp2_with fail
 refine wp_region_held_drew (S := (fun w' => w'.cell? ⟨w.heap.size, 0, none⟩ = some (Value.int .i64 1))) (by kernel_rfl) ?hSr3_ (fun hH => ?_)
 case hSr3_ => (exact c0)
 (clear c0 c1 c2 c3 c4 c5 c6 r0 r1 r2 r3 r4 r5 r6 r7 r8 r9 r10 r11; (replace Rc := Rc.drew); (replace Rr := Rr.drew); (replace hb0 := hb0.drew); (generalize World.drew w1 = wq at *))
 refine tk 0 ⟨some 16, .move (.tmp 1), 9, _, _, _⟩ hH ?_
 refine tk 2 ⟨some 18, .fieldAddr 36 (.tmp 2) 0, 0, _, _, _⟩ hH ?_
 refine tk 3 ⟨some 19, .load 3 (.tmp 18), 3, _, _, _⟩ hH ?_
 refine tk 4 ⟨some 20, .binOp .sub 3 (.tmp 19) (.const (.int .i64 1)) 3, 3, _, _, _⟩ hH ?_
 refine wpAnyH_ready (rs := [1]) (by kernel_rfl) (by simp) ?_
 refine AllReadyH.cons (o := ⟨some 17, .call { callee := .value (.func 48), args := #[.tmp 16, .const (.string { data := #[62] })], argTypes := #[9, 9] }, 3, _, _, _⟩) rfl (fun K hK => ?_) AllReadyH.nil
 (go_simp; (refine (HC _ hb0).mono ?_); (rintro e wz ⟨rfl, hb⟩); (replace Rc := Rc.later hb); (replace Rr := Rr.later hb); (replace hb0 := below_step hb0 hb); go_wp2_with fail)
 refine hK.out _ _ ?hSr3_5_1 fun _ => ?_
 case hSr3_5_1 => (exact cl hb hH)
 clear hK K hH; rename_i hH
 rename World => wq
 (try simp only [Act.put, nz1, nz2, nz3])
 refine tk 5 ⟨some 21, .binOp .neq 3 (.tmp 17) (.tmp 20) 3, 4, _, _, _⟩ hH ?_
 refine wpAnyH_done (by kernel_rfl) ?_ _
 clear hH
 rename World => w2
 have lc := Rc.lt
 have lr := Rr.lt
 (try clear c0 c1 c2 c3 c4 c5 c6); obtain ⟨c0, c1, c2, c3, c4, c5, c6⟩ := row7 Rc
 (try clear r0 r1 r2 r3 r4 r5 r6 r7 r8 r9 r10 r11); obtain ⟨r0, r1, r2, r3, r4, r5, r6, r7, r8, r9, r10, r11⟩ := row12 Rr
 go_wp2_with fail
 have nqc := Rc.lt
 have nqr := Rr.lt
 replace Rc := Rc.alloc (.cells #[.int .i64 0, .int .i64 0, .int .i64 0, .int .i64 0, .int .u64 0, .int .u64 0, .string ⟨#[]⟩, .int .i64 0, .int .i64 0, .int .u64 0, .int .u64 0, .string ⟨#[]⟩] 40)
 replace Rr := Rr.alloc (.cells #[.int .i64 0, .int .i64 0, .int .i64 0, .int .i64 0, .int .u64 0, .int .u64 0, .string ⟨#[]⟩, .int .i64 0, .int .i64 0, .int .u64 0, .int .u64 0, .string ⟨#[]⟩] 40)
 have Rq := Row.new w2 #[Value.int .i64 0, Value.int .i64 0, Value.int .i64 0, Value.int .i64 0, Value.int .u64 0, Value.int .u64 0, Value.string ⟨#[]⟩, Value.int .i64 0, Value.int .i64 0, Value.int .u64 0, Value.int .u64 0, Value.string ⟨#[]⟩] 40
 have mq := hb0.size
 replace hb0 := hb0.alloc hb0.size (.cells #[.int .i64 0, .int .i64 0, .int .i64 0, .int .i64 0, .int .u64 0, .int .u64 0, .string ⟨#[]⟩, .int .i64 0, .int .i64 0, .int .u64 0, .int .u64 0, .string ⟨#[]⟩] 40)
 (try clear c0 c1 c2 c3 c4 c5 c6); obtain ⟨c0, c1, c2, c3, c4, c5, c6⟩ := row7 Rc
 (try clear r0 r1 r2 r3 r4 r5 r6 r7 r8 r9 r10 r11); obtain ⟨r0, r1, r2, r3, r4, r5, r6, r7, r8, r9, r10, r11⟩ := row12 Rr
 (try clear q0 q1 q2 q3 q4 q5 q6 q7 q8 q9 q10 q11); obtain ⟨q0, q1, q2, q3, q4, q5, q6, q7, q8, q9, q10, q11⟩ := row12 Rq
 refine (HS _ hb0).mono ?_
 rintro e wz ⟨rfl, rfl⟩
 replace Rc := Rc.alloc (.cells #[.string X] 9)
 replace Rr := Rr.alloc (.cells #[.string X] 9)
 replace Rq := Rq.alloc (.cells #[.string X] 9)
 have Rm := Row.new (World.alloc w2 (.cells #[.int .i64 0, .int .i64 0, .int .i64 0, .int .i64 0, .int .u64 0, .int .u64 0, .string ⟨#[]⟩, .int .i64 0, .int .i64 0, .int .u64 0, .int .u64 0, .string ⟨#[]⟩] 40)) #[Value.string X] 9
 simp only [World.size_alloc] at Rm
 have mm := hb0.size
 replace hb0 := hb0.alloc hb0.size (.cells #[.string X] 9)
 (try clear c0 c1 c2 c3 c4 c5 c6); obtain ⟨c0, c1, c2, c3, c4, c5, c6⟩ := row7 Rc
 (try clear r0 r1 r2 r3 r4 r5 r6 r7 r8 r9 r10 r11); obtain ⟨r0, r1, r2, r3, r4, r5, r6, r7, r8, r9, r10, r11⟩ := row12 Rr
 (try clear q0 q1 q2 q3 q4 q5 q6 q7 q8 q9 q10 q11); obtain ⟨q0, q1, q2, q3, q4, q5, q6, q7, q8, q9, q10, q11⟩ := row12 Rq
 replace m0 := (Rm.cell 0).trans (show _ = some (Value.string X) from rfl)
 go_wp2_with fail
 refine wp_loop_rounds 3 ?_
 rw [rounds_succ]
 go_wp2_with fail
 go_wp2_with fail
 refine (HP0 _ hb0).mono ?_
 rintro e w3 ⟨rfl, hb⟩
 replace Rc := Rc.later hb
 replace Rr := Rr.later hb
 replace Rq := Rq.later hb
 replace Rm := Rm.later hb
 replace hb0 := below_step hb0 hb
 clear hb
 have lc := Rc.lt
 have lr := Rr.lt
 have lq := Rq.lt
 have lm := Rm.lt
 (try clear c0 c1 c2 c3 c4 c5 c6); obtain ⟨c0, c1, c2, c3, c4, c5, c6⟩ := row7 Rc
 (try clear r0 r1 r2 r3 r4 r5 r6 r7 r8 r9 r10 r11); obtain ⟨r0, r1, r2, r3, r4, r5, r6, r7, r8, r9, r10, r11⟩ := row12 Rr
 (try clear q0 q1 q2 q3 q4 q5 q6 q7 q8 q9 q10 q11); obtain ⟨q0, q1, q2, q3, q4, q5, q6, q7, q8, q9, q10, q11⟩ := row12 Rq
 replace m0 := (Rm.cell 0).trans (show _ = some (Value.string X) from rfl)
 go_wp2_with fail
 have nx0c := Rc.lt
 have nx0r := Rr.lt
 have nx0q := Rq.lt
 have nx0m := Rm.lt
 replace Rc := Rc.alloc (.cells #[.int .i64 k0.kind, .int .i64 k0.len, .int .u64 k0.h, .int .u64 k0.l, .string ⟨k0.path.toArray⟩] 26)
 replace Rr := Rr.alloc (.cells #[.int .i64 k0.kind, .int .i64 k0.len, .int .u64 k0.h, .int .u64 k0.l, .string ⟨k0.path.toArray⟩] 26)
 replace Rq := Rq.alloc (.cells #[.int .i64 k0.kind, .int .i64 k0.len, .int .u64 k0.h, .int .u64 k0.l, .string ⟨k0.path.toArray⟩] 26)
 replace Rm := Rm.alloc (.cells #[.int .i64 k0.kind, .int .i64 k0.len, .int .u64 k0.h, .int .u64 k0.l, .string ⟨k0.path.toArray⟩] 26)
 have Rx0 := Row.new w3 #[Value.int .i64 k0.kind, Value.int .i64 k0.len, Value.int .u64 k0.h, Value.int .u64 k0.l, Value.string ⟨k0.path.toArray⟩] 26
 have mx0 := hb0.size
 replace hb0 := hb0.alloc hb0.size (.cells #[.int .i64 k0.kind, .int .i64 k0.len, .int .u64 k0.h, .int .u64 k0.l, .string ⟨k0.path.toArray⟩] 26)
 (try clear c0 c1 c2 c3 c4 c5 c6); obtain ⟨c0, c1, c2, c3, c4, c5, c6⟩ := row7 Rc
 (try clear r0 r1 r2 r3 r4 r5 r6 r7 r8 r9 r10 r11); obtain ⟨r0, r1, r2, r3, r4, r5, r6, r7, r8, r9, r10, r11⟩ := row12 Rr
 (try clear q0 q1 q2 q3 q4 q5 q6 q7 q8 q9 q10 q11); obtain ⟨q0, q1, q2, q3, q4, q5, q6, q7, q8, q9, q10, q11⟩ := row12 Rq
 replace m0 := (Rm.cell 0).trans (show _ = some (Value.string X) from rfl)
 (try clear x00 x01 x02 x03 x04); obtain ⟨x00, x01, x02, x03, x04⟩ := row5 Rx0
 refine wp_region_held_drew (S := (fun w' => Row w' w3.heap.size #[.int .i64 k0.kind, .int .i64 k0.len, .int .u64 k0.h, .int .u64 k0.l, .string ⟨k0.path.toArray⟩] 26)) (by kernel_rfl) ?hSr4_ (fun hH => ?_)
 case hSr4_ => (exact Rx0.drew)
 (clear c0 c1 c2 c3 c4 c5 c6 r0 r1 r2 r3 r4 r5 r6 r7 r8 r9 r10 r11 q0 q1 q2 q3 q4 q5 q6 q7 q8 q9 q10 q11 m0 x00 x01 x02 x03 x04; (replace Rc := Rc.drew); (replace Rr := Rr.drew); (replace Rq := Rq.drew); (replace Rm := Rm.drew); (replace Rx0 := Rx0.drew); (replace hb0 := hb0.drew); (generalize World.drew (World.alloc w3 (.cells #[.int .i64 k0.kind, .int .i64 k0.len, .int .u64 k0.h, .int .u64 k0.l, .string ⟨k0.path.toArray⟩] 26)) = wq at *))
 refine tk 0 ⟨some 45, .move (.tmp 7), 3, _, _, _⟩ hH ?_
 refine tk 1 ⟨some 46, .move (.tmp 7), 3, _, _, _⟩ hH ?_
 refine tk 2 ⟨some 47, .move (.tmp 9), 3, _, _, _⟩ hH ?_
 refine tk 3 ⟨some 48, .load 26 (.tmp 10), 26, _, _, _⟩ hH ?_ (v := ?vr4_4_3) (hy := ?yr4_4_3)
 case yr4_4_3 => (intro wy hSw; have Qx0 := hSw; (with_reducible refine pexec_load 26 (.tmp 10) ?_ w3.heap.size ?_ 26 #[.int .i64 k0.kind, .int .i64 k0.len, .int .u64 k0.h, .int .u64 k0.l, .string ⟨k0.path.toArray⟩] _ Qx0 Tryz.underlying26 ?_ ?_) <;> first | rfl | exact infoKe)
 refine tk 4 ⟨some 49, .fieldAddr 40 (.tmp 6) 0, 0, _, _, _⟩ hH ?_
 refine tk 5 ⟨some 50, .indexAddr 37 (.tmp 49) (.tmp 45), 0, _, _, _⟩ hH ?_
 refine tk 7 ⟨some 51, .fieldAddr 40 (.tmp 6) 1, 0, _, _, _⟩ hH ?_
 refine wpAnyH_ready (rs := [6]) (by kernel_rfl) (by simp) ?_
 refine AllReadyH.cons (o := ⟨none, .store 3 (.tmp 50) (.tmp 47), 0, _, _, _⟩) rfl (fun K hK => ?_) AllReadyH.nil
 ((obtain ⟨zc0, zd1, zd2, zd3, zd4, zd5, zd6, zd7, zd8, zd9, zd10, zd11⟩ := row12 Rq); (have zf0 := Rq.frozen 0); (have hHq := hH); (have Qx0 := hHq); go_simp; clear zc0 zf0 zd1 zd2 zd3 zd4 zd5 zd6 zd7 zd8 zd9 zd10 zd11; (obtain ⟨wz, hwk, hwz⟩ := pnm wq w2.heap.size 0 [.int .i64 l0]); (simp only [World.setCells] at hwk); rw [← hwk]; clear hwk; (replace Qx0 := prf hwz Qx0); (replace Rc := prf hwz Rc); (replace Rr := prf hwz Rr); (replace Rm := prf hwz Rm); (replace Rx0 := prf hwz Rx0); (replace hb0 := pbl hwz hb0); (replace Rq : Row wz w2.heap.size #[.int .i64 l0, .int .i64 0, .int .i64 0, .int .i64 0, .int .u64 0, .int .u64 0, .string ⟨#[]⟩, .int .i64 0, .int .i64 0, .int .u64 0, .int .u64 0, .string ⟨#[]⟩] 40 := psm hwz Rq (by simp [setL])); clear hwz)
 refine hK.out _ _ ?hSr4_8_6 fun _ => ?_
 case hSr4_8_6 => (exact Qx0)
 clear hK K hH; rename_i hH
 rename World => wq
 (try simp only [Act.put, nz1, nz2, nz3])
 refine tk 8 ⟨some 52, .indexAddr 38 (.tmp 51) (.tmp 46), 0, _, _, _⟩ hH ?_
 refine wpAnyH_ready (rs := [9]) (by kernel_rfl) (by simp) ?_
 refine AllReadyH.cons (o := ⟨none, .store 26 (.tmp 52) (.tmp 48), 0, _, _, _⟩) rfl (fun K hK => ?_) AllReadyH.nil
 ((obtain ⟨zd0, zd1, zc0, zc1, zc2, zc3, zc4, zd7, zd8, zd9, zd10, zd11⟩ := row12 Rq); (have zf0 := Rq.frozen 2); (have zf1 := Rq.frozen 3); (have zf2 := Rq.frozen 4); (have zf3 := Rq.frozen 5); (have zf4 := Rq.frozen 6); (have hHq := hH); (have Qx0 := hHq); go_simp; clear zc0 zf0 zc1 zf1 zc2 zf2 zc3 zf3 zc4 zf4 zd0 zd1 zd7 zd8 zd9 zd10 zd11; (obtain ⟨wz, hwk, hwz⟩ := pnm wq w2.heap.size 2 [.int .i64 k0.kind, .int .i64 k0.len, .int .u64 k0.h, .int .u64 k0.l, .string ⟨k0.path.toArray⟩]); (simp only [World.setCells] at hwk); rw [← hwk]; clear hwk; (replace Qx0 := prf hwz Qx0); (replace Rc := prf hwz Rc); (replace Rr := prf hwz Rr); (replace Rm := prf hwz Rm); (replace Rx0 := prf hwz Rx0); (replace hb0 := pbl hwz hb0); (replace Rq : Row wz w2.heap.size #[.int .i64 l0, .int .i64 0, .int .i64 k0.kind, .int .i64 k0.len, .int .u64 k0.h, .int .u64 k0.l, .string ⟨k0.path.toArray⟩, .int .i64 0, .int .i64 0, .int .u64 0, .int .u64 0, .string ⟨#[]⟩] 40 := psm hwz Rq (by simp [setL])); clear hwz)
 refine hK.out _ _ ?hSr4_10_9 fun _ => ?_
 case hSr4_10_9 => (exact Qx0)
 clear hK K hH; rename_i hH
 rename World => wq
 (try simp only [Act.put, nz1, nz2, nz3])
 refine wpAnyH_done (by kernel_rfl) ?_ _
 clear hH
 rename World => w4
 have lc := Rc.lt
 have lr := Rr.lt
 have lq := Rq.lt
 have lm := Rm.lt
 have lx0 := Rx0.lt
 (try clear c0 c1 c2 c3 c4 c5 c6); obtain ⟨c0, c1, c2, c3, c4, c5, c6⟩ := row7 Rc
 (try clear r0 r1 r2 r3 r4 r5 r6 r7 r8 r9 r10 r11); obtain ⟨r0, r1, r2, r3, r4, r5, r6, r7, r8, r9, r10, r11⟩ := row12 Rr
 (try clear q0 q1 q2 q3 q4 q5 q6 q7 q8 q9 q10 q11); obtain ⟨q0, q1, q2, q3, q4, q5, q6, q7, q8, q9, q10, q11⟩ := row12 Rq
 replace m0 := (Rm.cell 0).trans (show _ = some (Value.string X) from rfl)
 (try clear x00 x01 x02 x03 x04); obtain ⟨x00, x01, x02, x03, x04⟩ := row5 Rx0
 go_wp2_with fail
 rw [rounds_succ]
 obtain ⟨rf0, rf1, rf2, rf3, rf4, rf5, rf6, rf7, rf8, rf9, rf10, rf11⟩ := fz12 Rr
 go_wp2
 obtain ⟨w5, hwk, hwn⟩ := pnm w4 (w.heap.size + 1) 0 [.int .i64 l0, .int .i64 0, .int .i64 k0.kind, .int .i64 k0.len, .int .u64 k0.h, .int .u64 k0.l, .string ⟨k0.path.toArray⟩, .int .i64 0, .int .i64 0, .int .u64 0, .int .u64 0, .string ⟨#[]⟩]
 simp only [World.setCells] at hwk
 rw [← hwk]; clear hwk
 replace Rr : Row w5 (w.heap.size + 1) #[.int .i64 l0, .int .i64 0, .int .i64 k0.kind, .int .i64 k0.len, .int .u64 k0.h, .int .u64 k0.l, .string ⟨k0.path.toArray⟩, .int .i64 0, .int .i64 0, .int .u64 0, .int .u64 0, .string ⟨#[]⟩] 40 := psm hwn Rr (by simp [setL])
 replace Rc := prf hwn Rc
 replace Rq := prf hwn Rq
 replace Rm := prf hwn Rm
 replace Rx0 := prf hwn Rx0
 replace hb0 := pbl hwn hb0
 clear hwn c0 c1 c2 c3 c4 c5 c6 r0 r1 r2 r3 r4 r5 r6 r7 r8 r9 r10 r11 q0 q1 q2 q3 q4 q5 q6 q7 q8 q9 q10 q11 m0 x00 x01 x02 x03 x04
 (try clear rf0 rf1 rf2 rf3 rf4 rf5 rf6 rf7 rf8 rf9 rf10 rf11)
 (try clear c0 c1 c2 c3 c4 c5 c6); obtain ⟨c0, c1, c2, c3, c4, c5, c6⟩ := row7 Rc
 (try clear r0 r1 r2 r3 r4 r5 r6 r7 r8 r9 r10 r11); obtain ⟨r0, r1, r2, r3, r4, r5, r6, r7, r8, r9, r10, r11⟩ := row12 Rr
 (try clear q0 q1 q2 q3 q4 q5 q6 q7 q8 q9 q10 q11); obtain ⟨q0, q1, q2, q3, q4, q5, q6, q7, q8, q9, q10, q11⟩ := row12 Rq
 replace m0 := (Rm.cell 0).trans (show _ = some (Value.string X) from rfl)
 (try clear x00 x01 x02 x03 x04); obtain ⟨x00, x01, x02, x03, x04⟩ := row5 Rx0
 refine bodyPost_ret (v := .tuple #[.agg #[.int .i64 l0, .int .i64 0, .int .i64 k0.kind, .int .i64 k0.len, .int .u64 k0.h, .int .u64 k0.l, .string ⟨k0.path.toArray⟩, .int .i64 0, .int .i64 0, .int .u64 0, .int .u64 0, .string ⟨#[]⟩], .int .i64 0]) (by simp [results, Tryz.results17, go_sem, r0, r1, r2, r3, r4, r5, r6, r7, r8, r9, r10, r11]) rfl ⟨rfl, hb0⟩
theorem tps_no2 (s : Sp) (t : ByteArray) (cn : Int) (hc : ¬ cn = 1) (w : World)
  (HR : ∀ w', Below w.heap.size w w' → Calls Tryz.prog 47 #[.agg #[.int .i64 2, .int .i64 s.d0.kind, .int .i64 s.d0.side, .int .i64 s.d0.step, .int .i64 s.d1.kind, .int .i64 s.d1.side, .int .i64 s.d1.step]] w' fun e w'' => e = .returned (.bool true) ∧ Below w'.heap.size w' w'')
  (HC : ∀ w', Below w.heap.size w w' → Calls Tryz.prog 48 #[.string t, .string ⟨#[62]⟩] w' fun e w'' => e = .returned (.int .i64 cn) ∧ Below w'.heap.size w' w'')
  : Calls Tryz.prog 17 #[.agg #[.int .i64 2, .int .i64 s.d0.kind, .int .i64 s.d0.side, .int .i64 s.d0.step, .int .i64 s.d1.kind, .int .i64 s.d1.side, .int .i64 s.d1.step], .string t] w fun e w' => e = .returned (.tuple #[.agg #[.int .i64 0, .int .i64 0, .int .i64 0, .int .i64 0, .int .u64 0, .int .u64 0, .string ⟨#[]⟩, .int .i64 0, .int .i64 0, .int .u64 0, .int .u64 0, .string ⟨#[]⟩], .int .i64 3]) ∧ Below w.heap.size w w' := by
 have hw0 : IntKind.i64.wrap 1 = 1 := by decide
 have hcn : (cn != IntKind.i64.wrap 1) = true := by rw [hw0]; simpa using hc
 clear hw0
 obtain ⟨Rc, Rr, hb0⟩ := two_rows w #[.int .i64 2, .int .i64 s.d0.kind, .int .i64 s.d0.side, .int .i64 s.d0.step, .int .i64 s.d1.kind, .int .i64 s.d1.side, .int .i64 s.d1.step] #[.int .i64 0, .int .i64 0, .int .i64 0, .int .i64 0, .int .u64 0, .int .u64 0, .string ⟨#[]⟩, .int .i64 0, .int .i64 0, .int .u64 0, .int .u64 0, .string ⟨#[]⟩] 36 40
 (try clear c0 c1 c2 c3 c4 c5 c6); obtain ⟨c0, c1, c2, c3, c4, c5, c6⟩ := row7 Rc
 (try clear r0 r1 r2 r3 r4 r5 r6 r7 r8 r9 r10 r11); obtain ⟨r0, r1, r2, r3, r4, r5, r6, r7, r8, r9, r10, r11⟩ := row12 Rr
 go_enter Tryz.func17, Tryz.ntmps17
 go_wp2_with fail
 refine (HR _ hb0).mono ?_
 rintro e w1 ⟨rfl, hb⟩
 replace Rc := Rc.later hb
 replace Rr := Rr.later hb
 replace hb0 := below_step hb0 hb
 clear hb
 have lc := Rc.lt
 have lr := Rr.lt
 (try clear c0 c1 c2 c3 c4 c5 c6); obtain ⟨c0, c1, c2, c3, c4, c5, c6⟩ := row7 Rc
 (try clear r0 r1 r2 r3 r4 r5 r6 r7 r8 r9 r10 r11); obtain ⟨r0, r1, r2, r3, r4, r5, r6, r7, r8, r9, r10, r11⟩ := row12 Rr
 go_wp2_with fail
 refine wp_region_held_drew (S := (fun w' => w'.cell? ⟨w.heap.size, 0, none⟩ = some (Value.int .i64 2))) (by kernel_rfl) ?hSr5_ (fun hH => ?_)
 case hSr5_ => (exact c0)
 (clear c0 c1 c2 c3 c4 c5 c6 r0 r1 r2 r3 r4 r5 r6 r7 r8 r9 r10 r11; (replace Rc := Rc.drew); (replace Rr := Rr.drew); (replace hb0 := hb0.drew); (generalize World.drew w1 = wq at *))
 refine tk 0 ⟨some 16, .move (.tmp 1), 9, _, _, _⟩ hH ?_
 refine tk 2 ⟨some 18, .fieldAddr 36 (.tmp 2) 0, 0, _, _, _⟩ hH ?_
 refine tk 3 ⟨some 19, .load 3 (.tmp 18), 3, _, _, _⟩ hH ?_
 refine tk 4 ⟨some 20, .binOp .sub 3 (.tmp 19) (.const (.int .i64 1)) 3, 3, _, _, _⟩ hH ?_
 refine wpAnyH_ready (rs := [1]) (by kernel_rfl) (by simp) ?_
 refine AllReadyH.cons (o := ⟨some 17, .call { callee := .value (.func 48), args := #[.tmp 16, .const (.string { data := #[62] })], argTypes := #[9, 9] }, 3, _, _, _⟩) rfl (fun K hK => ?_) AllReadyH.nil
 (go_simp; (refine (HC _ hb0).mono ?_); (rintro e wz ⟨rfl, hb⟩); (replace Rc := Rc.later hb); (replace Rr := Rr.later hb); (replace hb0 := below_step hb0 hb); go_wp2_with fail)
 refine hK.out _ _ ?hSr5_5_1 fun _ => ?_
 case hSr5_5_1 => (exact cl hb hH)
 clear hK K hH; rename_i hH
 rename World => wq
 (try simp only [Act.put, nz1, nz2, nz3])
 refine tk 5 ⟨some 21, .binOp .neq 3 (.tmp 17) (.tmp 20) 3, 4, _, _, _⟩ hH ?_
 refine wpAnyH_done (by kernel_rfl) ?_ _
 clear hH
 rename World => w2
 have lc := Rc.lt
 have lr := Rr.lt
 (try clear c0 c1 c2 c3 c4 c5 c6); obtain ⟨c0, c1, c2, c3, c4, c5, c6⟩ := row7 Rc
 (try clear r0 r1 r2 r3 r4 r5 r6 r7 r8 r9 r10 r11); obtain ⟨r0, r1, r2, r3, r4, r5, r6, r7, r8, r9, r10, r11⟩ := row12 Rr
 obtain ⟨rf0, rf1, rf2, rf3, rf4, rf5, rf6, rf7, rf8, rf9, rf10, rf11⟩ := fz12 Rr
 go_wp2
 obtain ⟨w3, hwk, hwn⟩ := pnm w2 (w.heap.size + 1) 0 [.int .i64 0, .int .i64 0, .int .i64 0, .int .i64 0, .int .u64 0, .int .u64 0, .string ⟨#[]⟩, .int .i64 0, .int .i64 0, .int .u64 0, .int .u64 0, .string ⟨#[]⟩]
 simp only [World.setCells] at hwk
 rw [← hwk]; clear hwk
 replace Rr : Row w3 (w.heap.size + 1) #[.int .i64 0, .int .i64 0, .int .i64 0, .int .i64 0, .int .u64 0, .int .u64 0, .string ⟨#[]⟩, .int .i64 0, .int .i64 0, .int .u64 0, .int .u64 0, .string ⟨#[]⟩] 40 := psm hwn Rr (by simp [setL])
 replace Rc := prf hwn Rc
 replace hb0 := pbl hwn hb0
 clear hwn c0 c1 c2 c3 c4 c5 c6 r0 r1 r2 r3 r4 r5 r6 r7 r8 r9 r10 r11
 (try clear rf0 rf1 rf2 rf3 rf4 rf5 rf6 rf7 rf8 rf9 rf10 rf11)
 (try clear c0 c1 c2 c3 c4 c5 c6); obtain ⟨c0, c1, c2, c3, c4, c5, c6⟩ := row7 Rc
 (try clear r0 r1 r2 r3 r4 r5 r6 r7 r8 r9 r10 r11); obtain ⟨r0, r1, r2, r3, r4, r5, r6, r7, r8, r9, r10, r11⟩ := row12 Rr
 refine bodyPost_ret (v := .tuple #[.agg #[.int .i64 0, .int .i64 0, .int .i64 0, .int .i64 0, .int .u64 0, .int .u64 0, .string ⟨#[]⟩, .int .i64 0, .int .i64 0, .int .u64 0, .int .u64 0, .string ⟨#[]⟩], .int .i64 3]) (by simp [results, Tryz.results17, go_sem, r0, r1, r2, r3, r4, r5, r6, r7, r8, r9, r10, r11]) rfl ⟨rfl, hb0⟩
theorem tps_2e (s : Sp) (t X Y : ByteArray) (l0 : Int) (k0 : Ke) (er : Int) (he : ¬ er = 0) (w : World)
  (HR : ∀ w', Below w.heap.size w w' → Calls Tryz.prog 47 #[.agg #[.int .i64 2, .int .i64 s.d0.kind, .int .i64 s.d0.side, .int .i64 s.d0.step, .int .i64 s.d1.kind, .int .i64 s.d1.side, .int .i64 s.d1.step]] w' fun e w'' => e = .returned (.bool true) ∧ Below w'.heap.size w' w'')
  (HC : ∀ w', Below w.heap.size w w' → Calls Tryz.prog 48 #[.string t, .string ⟨#[62]⟩] w' fun e w'' => e = .returned (.int .i64 1) ∧ Below w'.heap.size w' w'')
  (HS : ∀ w', Below w.heap.size w w' → Calls Tryz.prog 49 #[.string t, .string ⟨#[62]⟩] w' fun e w'' => e = .returned (.slice (some ⟨w'.heap.size, 0, none⟩) 2 2) ∧ w'' = w'.alloc (.cells #[.string X, .string Y] 9))
  (HP0 : ∀ w', Below w.heap.size w w' → Calls Tryz.prog 8 #[.agg #[.int .i64 s.d0.kind, .int .i64 s.d0.side, .int .i64 s.d0.step], .string X] w' fun e w'' => e = .returned (.tuple #[.int .i64 l0, kv k0, .int .i64 er]) ∧ Below w'.heap.size w' w'')
  : Calls Tryz.prog 17 #[.agg #[.int .i64 2, .int .i64 s.d0.kind, .int .i64 s.d0.side, .int .i64 s.d0.step, .int .i64 s.d1.kind, .int .i64 s.d1.side, .int .i64 s.d1.step], .string t] w fun e w' => e = .returned (.tuple #[.agg #[.int .i64 0, .int .i64 0, .int .i64 0, .int .i64 0, .int .u64 0, .int .u64 0, .string ⟨#[]⟩, .int .i64 0, .int .i64 0, .int .u64 0, .int .u64 0, .string ⟨#[]⟩], .int .i64 er]) ∧ Below w.heap.size w w' := by
 have heb : (er == 0) = false := by simpa using he
 have hen : (er != 0) = true := by simpa using he
 have hcz : ((1 : Int) != IntKind.i64.wrap 1) = false := by decide
 unfold kv at *
 obtain ⟨Rc, Rr, hb0⟩ := two_rows w #[.int .i64 2, .int .i64 s.d0.kind, .int .i64 s.d0.side, .int .i64 s.d0.step, .int .i64 s.d1.kind, .int .i64 s.d1.side, .int .i64 s.d1.step] #[.int .i64 0, .int .i64 0, .int .i64 0, .int .i64 0, .int .u64 0, .int .u64 0, .string ⟨#[]⟩, .int .i64 0, .int .i64 0, .int .u64 0, .int .u64 0, .string ⟨#[]⟩] 36 40
 (try clear c0 c1 c2 c3 c4 c5 c6); obtain ⟨c0, c1, c2, c3, c4, c5, c6⟩ := row7 Rc
 (try clear r0 r1 r2 r3 r4 r5 r6 r7 r8 r9 r10 r11); obtain ⟨r0, r1, r2, r3, r4, r5, r6, r7, r8, r9, r10, r11⟩ := row12 Rr
 go_enter Tryz.func17, Tryz.ntmps17
 go_wp2_with fail
 refine (HR _ hb0).mono ?_
 rintro e w1 ⟨rfl, hb⟩
 replace Rc := Rc.later hb
 replace Rr := Rr.later hb
 replace hb0 := below_step hb0 hb
 clear hb
 have lc := Rc.lt
 have lr := Rr.lt
 (try clear c0 c1 c2 c3 c4 c5 c6); obtain ⟨c0, c1, c2, c3, c4, c5, c6⟩ := row7 Rc
 (try clear r0 r1 r2 r3 r4 r5 r6 r7 r8 r9 r10 r11); obtain ⟨r0, r1, r2, r3, r4, r5, r6, r7, r8, r9, r10, r11⟩ := row12 Rr
 go_wp2_with fail
 refine wp_region_held_drew (S := (fun w' => w'.cell? ⟨w.heap.size, 0, none⟩ = some (Value.int .i64 2))) (by kernel_rfl) ?hSr6_ (fun hH => ?_)
 case hSr6_ => (exact c0)
 (clear c0 c1 c2 c3 c4 c5 c6 r0 r1 r2 r3 r4 r5 r6 r7 r8 r9 r10 r11; (replace Rc := Rc.drew); (replace Rr := Rr.drew); (replace hb0 := hb0.drew); (generalize World.drew w1 = wq at *))
 refine tk 0 ⟨some 16, .move (.tmp 1), 9, _, _, _⟩ hH ?_
 refine tk 2 ⟨some 18, .fieldAddr 36 (.tmp 2) 0, 0, _, _, _⟩ hH ?_
 refine tk 3 ⟨some 19, .load 3 (.tmp 18), 3, _, _, _⟩ hH ?_
 refine tk 4 ⟨some 20, .binOp .sub 3 (.tmp 19) (.const (.int .i64 1)) 3, 3, _, _, _⟩ hH ?_
 refine wpAnyH_ready (rs := [1]) (by kernel_rfl) (by simp) ?_
 refine AllReadyH.cons (o := ⟨some 17, .call { callee := .value (.func 48), args := #[.tmp 16, .const (.string { data := #[62] })], argTypes := #[9, 9] }, 3, _, _, _⟩) rfl (fun K hK => ?_) AllReadyH.nil
 (go_simp; (refine (HC _ hb0).mono ?_); (rintro e wz ⟨rfl, hb⟩); (replace Rc := Rc.later hb); (replace Rr := Rr.later hb); (replace hb0 := below_step hb0 hb); go_wp2_with fail)
 refine hK.out _ _ ?hSr6_5_1 fun _ => ?_
 case hSr6_5_1 => (exact cl hb hH)
 clear hK K hH; rename_i hH
 rename World => wq
 (try simp only [Act.put, nz1, nz2, nz3])
 refine tk 5 ⟨some 21, .binOp .neq 3 (.tmp 17) (.tmp 20) 3, 4, _, _, _⟩ hH ?_
 refine wpAnyH_done (by kernel_rfl) ?_ _
 clear hH
 rename World => w2
 have lc := Rc.lt
 have lr := Rr.lt
 (try clear c0 c1 c2 c3 c4 c5 c6); obtain ⟨c0, c1, c2, c3, c4, c5, c6⟩ := row7 Rc
 (try clear r0 r1 r2 r3 r4 r5 r6 r7 r8 r9 r10 r11); obtain ⟨r0, r1, r2, r3, r4, r5, r6, r7, r8, r9, r10, r11⟩ := row12 Rr
 go_wp2_with fail
 have nqc := Rc.lt
 have nqr := Rr.lt
 replace Rc := Rc.alloc (.cells #[.int .i64 0, .int .i64 0, .int .i64 0, .int .i64 0, .int .u64 0, .int .u64 0, .string ⟨#[]⟩, .int .i64 0, .int .i64 0, .int .u64 0, .int .u64 0, .string ⟨#[]⟩] 40)
 replace Rr := Rr.alloc (.cells #[.int .i64 0, .int .i64 0, .int .i64 0, .int .i64 0, .int .u64 0, .int .u64 0, .string ⟨#[]⟩, .int .i64 0, .int .i64 0, .int .u64 0, .int .u64 0, .string ⟨#[]⟩] 40)
 have Rq := Row.new w2 #[Value.int .i64 0, Value.int .i64 0, Value.int .i64 0, Value.int .i64 0, Value.int .u64 0, Value.int .u64 0, Value.string ⟨#[]⟩, Value.int .i64 0, Value.int .i64 0, Value.int .u64 0, Value.int .u64 0, Value.string ⟨#[]⟩] 40
 have mq := hb0.size
 replace hb0 := hb0.alloc hb0.size (.cells #[.int .i64 0, .int .i64 0, .int .i64 0, .int .i64 0, .int .u64 0, .int .u64 0, .string ⟨#[]⟩, .int .i64 0, .int .i64 0, .int .u64 0, .int .u64 0, .string ⟨#[]⟩] 40)
 (try clear c0 c1 c2 c3 c4 c5 c6); obtain ⟨c0, c1, c2, c3, c4, c5, c6⟩ := row7 Rc
 (try clear r0 r1 r2 r3 r4 r5 r6 r7 r8 r9 r10 r11); obtain ⟨r0, r1, r2, r3, r4, r5, r6, r7, r8, r9, r10, r11⟩ := row12 Rr
 (try clear q0 q1 q2 q3 q4 q5 q6 q7 q8 q9 q10 q11); obtain ⟨q0, q1, q2, q3, q4, q5, q6, q7, q8, q9, q10, q11⟩ := row12 Rq
 refine (HS _ hb0).mono ?_
 rintro e wz ⟨rfl, rfl⟩
 replace Rc := Rc.alloc (.cells #[.string X, .string Y] 9)
 replace Rr := Rr.alloc (.cells #[.string X, .string Y] 9)
 replace Rq := Rq.alloc (.cells #[.string X, .string Y] 9)
 have Rm := Row.new (World.alloc w2 (.cells #[.int .i64 0, .int .i64 0, .int .i64 0, .int .i64 0, .int .u64 0, .int .u64 0, .string ⟨#[]⟩, .int .i64 0, .int .i64 0, .int .u64 0, .int .u64 0, .string ⟨#[]⟩] 40)) #[Value.string X, Value.string Y] 9
 simp only [World.size_alloc] at Rm
 have mm := hb0.size
 replace hb0 := hb0.alloc hb0.size (.cells #[.string X, .string Y] 9)
 (try clear c0 c1 c2 c3 c4 c5 c6); obtain ⟨c0, c1, c2, c3, c4, c5, c6⟩ := row7 Rc
 (try clear r0 r1 r2 r3 r4 r5 r6 r7 r8 r9 r10 r11); obtain ⟨r0, r1, r2, r3, r4, r5, r6, r7, r8, r9, r10, r11⟩ := row12 Rr
 (try clear q0 q1 q2 q3 q4 q5 q6 q7 q8 q9 q10 q11); obtain ⟨q0, q1, q2, q3, q4, q5, q6, q7, q8, q9, q10, q11⟩ := row12 Rq
 (try clear m0 m1); obtain ⟨m0, m1⟩ := row2 Rm
 go_wp2_with fail
 refine wp_loop_rounds 3 ?_
 rw [rounds_succ]
 go_wp2_with fail
 go_wp2_with fail
 refine (HP0 _ hb0).mono ?_
 rintro e w3 ⟨rfl, hb⟩
 replace Rc := Rc.later hb
 replace Rr := Rr.later hb
 replace Rq := Rq.later hb
 replace Rm := Rm.later hb
 replace hb0 := below_step hb0 hb
 clear hb
 have lc := Rc.lt
 have lr := Rr.lt
 have lq := Rq.lt
 have lm := Rm.lt
 (try clear c0 c1 c2 c3 c4 c5 c6); obtain ⟨c0, c1, c2, c3, c4, c5, c6⟩ := row7 Rc
 (try clear r0 r1 r2 r3 r4 r5 r6 r7 r8 r9 r10 r11); obtain ⟨r0, r1, r2, r3, r4, r5, r6, r7, r8, r9, r10, r11⟩ := row12 Rr
 (try clear q0 q1 q2 q3 q4 q5 q6 q7 q8 q9 q10 q11); obtain ⟨q0, q1, q2, q3, q4, q5, q6, q7, q8, q9, q10, q11⟩ := row12 Rq
 (try clear m0 m1); obtain ⟨m0, m1⟩ := row2 Rm
 obtain ⟨rf0, rf1, rf2, rf3, rf4, rf5, rf6, rf7, rf8, rf9, rf10, rf11⟩ := fz12 Rr
 go_wp2
 obtain ⟨w4, hwk, hwn⟩ := pnm w3 (w.heap.size + 1) 0 [.int .i64 0, .int .i64 0, .int .i64 0, .int .i64 0, .int .u64 0, .int .u64 0, .string ⟨#[]⟩, .int .i64 0, .int .i64 0, .int .u64 0, .int .u64 0, .string ⟨#[]⟩]
 simp only [World.setCells] at hwk
 rw [← hwk]; clear hwk
 replace Rr : Row w4 (w.heap.size + 1) #[.int .i64 0, .int .i64 0, .int .i64 0, .int .i64 0, .int .u64 0, .int .u64 0, .string ⟨#[]⟩, .int .i64 0, .int .i64 0, .int .u64 0, .int .u64 0, .string ⟨#[]⟩] 40 := psm hwn Rr (by simp [setL])
 replace Rc := prf hwn Rc
 replace Rq := prf hwn Rq
 replace Rm := prf hwn Rm
 replace hb0 := pbl hwn hb0
 clear hwn c0 c1 c2 c3 c4 c5 c6 r0 r1 r2 r3 r4 r5 r6 r7 r8 r9 r10 r11 q0 q1 q2 q3 q4 q5 q6 q7 q8 q9 q10 q11 m0 m1
 (try clear rf0 rf1 rf2 rf3 rf4 rf5 rf6 rf7 rf8 rf9 rf10 rf11)
 (try clear c0 c1 c2 c3 c4 c5 c6); obtain ⟨c0, c1, c2, c3, c4, c5, c6⟩ := row7 Rc
 (try clear r0 r1 r2 r3 r4 r5 r6 r7 r8 r9 r10 r11); obtain ⟨r0, r1, r2, r3, r4, r5, r6, r7, r8, r9, r10, r11⟩ := row12 Rr
 (try clear q0 q1 q2 q3 q4 q5 q6 q7 q8 q9 q10 q11); obtain ⟨q0, q1, q2, q3, q4, q5, q6, q7, q8, q9, q10, q11⟩ := row12 Rq
 (try clear m0 m1); obtain ⟨m0, m1⟩ := row2 Rm
 have nx0c := Rc.lt
 have nx0r := Rr.lt
 have nx0q := Rq.lt
 have nx0m := Rm.lt
 replace Rc := Rc.alloc (.cells #[.int .i64 k0.kind, .int .i64 k0.len, .int .u64 k0.h, .int .u64 k0.l, .string ⟨k0.path.toArray⟩] 26)
 replace Rr := Rr.alloc (.cells #[.int .i64 k0.kind, .int .i64 k0.len, .int .u64 k0.h, .int .u64 k0.l, .string ⟨k0.path.toArray⟩] 26)
 replace Rq := Rq.alloc (.cells #[.int .i64 k0.kind, .int .i64 k0.len, .int .u64 k0.h, .int .u64 k0.l, .string ⟨k0.path.toArray⟩] 26)
 replace Rm := Rm.alloc (.cells #[.int .i64 k0.kind, .int .i64 k0.len, .int .u64 k0.h, .int .u64 k0.l, .string ⟨k0.path.toArray⟩] 26)
 have Rx0 := Row.new w4 #[Value.int .i64 k0.kind, Value.int .i64 k0.len, Value.int .u64 k0.h, Value.int .u64 k0.l, Value.string ⟨k0.path.toArray⟩] 26
 have mx0 := hb0.size
 replace hb0 := hb0.alloc hb0.size (.cells #[.int .i64 k0.kind, .int .i64 k0.len, .int .u64 k0.h, .int .u64 k0.l, .string ⟨k0.path.toArray⟩] 26)
 (try clear c0 c1 c2 c3 c4 c5 c6); obtain ⟨c0, c1, c2, c3, c4, c5, c6⟩ := row7 Rc
 (try clear r0 r1 r2 r3 r4 r5 r6 r7 r8 r9 r10 r11); obtain ⟨r0, r1, r2, r3, r4, r5, r6, r7, r8, r9, r10, r11⟩ := row12 Rr
 (try clear q0 q1 q2 q3 q4 q5 q6 q7 q8 q9 q10 q11); obtain ⟨q0, q1, q2, q3, q4, q5, q6, q7, q8, q9, q10, q11⟩ := row12 Rq
 (try clear m0 m1); obtain ⟨m0, m1⟩ := row2 Rm
 (try clear x00 x01 x02 x03 x04); obtain ⟨x00, x01, x02, x03, x04⟩ := row5 Rx0
 refine bodyPost_ret (v := .tuple #[.agg #[.int .i64 0, .int .i64 0, .int .i64 0, .int .i64 0, .int .u64 0, .int .u64 0, .string ⟨#[]⟩, .int .i64 0, .int .i64 0, .int .u64 0, .int .u64 0, .string ⟨#[]⟩], .int .i64 er]) (by simp [results, Tryz.results17, go_sem, r0, r1, r2, r3, r4, r5, r6, r7, r8, r9, r10, r11]) rfl ⟨rfl, hb0⟩
theorem tps_2oe (s : Sp) (t X Y : ByteArray) (l0 : Int) (k0 : Ke) (l1 : Int) (k1 : Ke) (er : Int) (he : ¬ er = 0) (w : World)
  (HR : ∀ w', Below w.heap.size w w' → Calls Tryz.prog 47 #[.agg #[.int .i64 2, .int .i64 s.d0.kind, .int .i64 s.d0.side, .int .i64 s.d0.step, .int .i64 s.d1.kind, .int .i64 s.d1.side, .int .i64 s.d1.step]] w' fun e w'' => e = .returned (.bool true) ∧ Below w'.heap.size w' w'')
  (HC : ∀ w', Below w.heap.size w w' → Calls Tryz.prog 48 #[.string t, .string ⟨#[62]⟩] w' fun e w'' => e = .returned (.int .i64 1) ∧ Below w'.heap.size w' w'')
  (HS : ∀ w', Below w.heap.size w w' → Calls Tryz.prog 49 #[.string t, .string ⟨#[62]⟩] w' fun e w'' => e = .returned (.slice (some ⟨w'.heap.size, 0, none⟩) 2 2) ∧ w'' = w'.alloc (.cells #[.string X, .string Y] 9))
  (HP0 : ∀ w', Below w.heap.size w w' → Calls Tryz.prog 8 #[.agg #[.int .i64 s.d0.kind, .int .i64 s.d0.side, .int .i64 s.d0.step], .string X] w' fun e w'' => e = .returned (.tuple #[.int .i64 l0, kv k0, .int .i64 0]) ∧ Below w'.heap.size w' w'')
  (HP1 : ∀ w', Below w.heap.size w w' → Calls Tryz.prog 8 #[.agg #[.int .i64 s.d1.kind, .int .i64 s.d1.side, .int .i64 s.d1.step], .string Y] w' fun e w'' => e = .returned (.tuple #[.int .i64 l1, kv k1, .int .i64 er]) ∧ Below w'.heap.size w' w'')
  : Calls Tryz.prog 17 #[.agg #[.int .i64 2, .int .i64 s.d0.kind, .int .i64 s.d0.side, .int .i64 s.d0.step, .int .i64 s.d1.kind, .int .i64 s.d1.side, .int .i64 s.d1.step], .string t] w fun e w' => e = .returned (.tuple #[.agg #[.int .i64 0, .int .i64 0, .int .i64 0, .int .i64 0, .int .u64 0, .int .u64 0, .string ⟨#[]⟩, .int .i64 0, .int .i64 0, .int .u64 0, .int .u64 0, .string ⟨#[]⟩], .int .i64 er]) ∧ Below w.heap.size w w' := by
 have heb : (er == 0) = false := by simpa using he
 have hen : (er != 0) = true := by simpa using he
 have hcz : ((1 : Int) != IntKind.i64.wrap 1) = false := by decide
 unfold kv at *
 obtain ⟨Rc, Rr, hb0⟩ := two_rows w #[.int .i64 2, .int .i64 s.d0.kind, .int .i64 s.d0.side, .int .i64 s.d0.step, .int .i64 s.d1.kind, .int .i64 s.d1.side, .int .i64 s.d1.step] #[.int .i64 0, .int .i64 0, .int .i64 0, .int .i64 0, .int .u64 0, .int .u64 0, .string ⟨#[]⟩, .int .i64 0, .int .i64 0, .int .u64 0, .int .u64 0, .string ⟨#[]⟩] 36 40
 (try clear c0 c1 c2 c3 c4 c5 c6); obtain ⟨c0, c1, c2, c3, c4, c5, c6⟩ := row7 Rc
 (try clear r0 r1 r2 r3 r4 r5 r6 r7 r8 r9 r10 r11); obtain ⟨r0, r1, r2, r3, r4, r5, r6, r7, r8, r9, r10, r11⟩ := row12 Rr
 go_enter Tryz.func17, Tryz.ntmps17
 go_wp2_with fail
 refine (HR _ hb0).mono ?_
 rintro e w1 ⟨rfl, hb⟩
 replace Rc := Rc.later hb
 replace Rr := Rr.later hb
 replace hb0 := below_step hb0 hb
 clear hb
 have lc := Rc.lt
 have lr := Rr.lt
 (try clear c0 c1 c2 c3 c4 c5 c6); obtain ⟨c0, c1, c2, c3, c4, c5, c6⟩ := row7 Rc
 (try clear r0 r1 r2 r3 r4 r5 r6 r7 r8 r9 r10 r11); obtain ⟨r0, r1, r2, r3, r4, r5, r6, r7, r8, r9, r10, r11⟩ := row12 Rr
 go_wp2_with fail
 refine wp_region_held_drew (S := (fun w' => w'.cell? ⟨w.heap.size, 0, none⟩ = some (Value.int .i64 2))) (by kernel_rfl) ?hSr7_ (fun hH => ?_)
 case hSr7_ => (exact c0)
 (clear c0 c1 c2 c3 c4 c5 c6 r0 r1 r2 r3 r4 r5 r6 r7 r8 r9 r10 r11; (replace Rc := Rc.drew); (replace Rr := Rr.drew); (replace hb0 := hb0.drew); (generalize World.drew w1 = wq at *))
 refine tk 0 ⟨some 16, .move (.tmp 1), 9, _, _, _⟩ hH ?_
 refine tk 2 ⟨some 18, .fieldAddr 36 (.tmp 2) 0, 0, _, _, _⟩ hH ?_
 refine tk 3 ⟨some 19, .load 3 (.tmp 18), 3, _, _, _⟩ hH ?_
 refine tk 4 ⟨some 20, .binOp .sub 3 (.tmp 19) (.const (.int .i64 1)) 3, 3, _, _, _⟩ hH ?_
 refine wpAnyH_ready (rs := [1]) (by kernel_rfl) (by simp) ?_
 refine AllReadyH.cons (o := ⟨some 17, .call { callee := .value (.func 48), args := #[.tmp 16, .const (.string { data := #[62] })], argTypes := #[9, 9] }, 3, _, _, _⟩) rfl (fun K hK => ?_) AllReadyH.nil
 (go_simp; (refine (HC _ hb0).mono ?_); (rintro e wz ⟨rfl, hb⟩); (replace Rc := Rc.later hb); (replace Rr := Rr.later hb); (replace hb0 := below_step hb0 hb); go_wp2_with fail)
 refine hK.out _ _ ?hSr7_5_1 fun _ => ?_
 case hSr7_5_1 => (exact cl hb hH)
 clear hK K hH; rename_i hH
 rename World => wq
 (try simp only [Act.put, nz1, nz2, nz3])
 refine tk 5 ⟨some 21, .binOp .neq 3 (.tmp 17) (.tmp 20) 3, 4, _, _, _⟩ hH ?_
 refine wpAnyH_done (by kernel_rfl) ?_ _
 clear hH
 rename World => w2
 have lc := Rc.lt
 have lr := Rr.lt
 (try clear c0 c1 c2 c3 c4 c5 c6); obtain ⟨c0, c1, c2, c3, c4, c5, c6⟩ := row7 Rc
 (try clear r0 r1 r2 r3 r4 r5 r6 r7 r8 r9 r10 r11); obtain ⟨r0, r1, r2, r3, r4, r5, r6, r7, r8, r9, r10, r11⟩ := row12 Rr
 go_wp2_with fail
 have nqc := Rc.lt
 have nqr := Rr.lt
 replace Rc := Rc.alloc (.cells #[.int .i64 0, .int .i64 0, .int .i64 0, .int .i64 0, .int .u64 0, .int .u64 0, .string ⟨#[]⟩, .int .i64 0, .int .i64 0, .int .u64 0, .int .u64 0, .string ⟨#[]⟩] 40)
 replace Rr := Rr.alloc (.cells #[.int .i64 0, .int .i64 0, .int .i64 0, .int .i64 0, .int .u64 0, .int .u64 0, .string ⟨#[]⟩, .int .i64 0, .int .i64 0, .int .u64 0, .int .u64 0, .string ⟨#[]⟩] 40)
 have Rq := Row.new w2 #[Value.int .i64 0, Value.int .i64 0, Value.int .i64 0, Value.int .i64 0, Value.int .u64 0, Value.int .u64 0, Value.string ⟨#[]⟩, Value.int .i64 0, Value.int .i64 0, Value.int .u64 0, Value.int .u64 0, Value.string ⟨#[]⟩] 40
 have mq := hb0.size
 replace hb0 := hb0.alloc hb0.size (.cells #[.int .i64 0, .int .i64 0, .int .i64 0, .int .i64 0, .int .u64 0, .int .u64 0, .string ⟨#[]⟩, .int .i64 0, .int .i64 0, .int .u64 0, .int .u64 0, .string ⟨#[]⟩] 40)
 (try clear c0 c1 c2 c3 c4 c5 c6); obtain ⟨c0, c1, c2, c3, c4, c5, c6⟩ := row7 Rc
 (try clear r0 r1 r2 r3 r4 r5 r6 r7 r8 r9 r10 r11); obtain ⟨r0, r1, r2, r3, r4, r5, r6, r7, r8, r9, r10, r11⟩ := row12 Rr
 (try clear q0 q1 q2 q3 q4 q5 q6 q7 q8 q9 q10 q11); obtain ⟨q0, q1, q2, q3, q4, q5, q6, q7, q8, q9, q10, q11⟩ := row12 Rq
 refine (HS _ hb0).mono ?_
 rintro e wz ⟨rfl, rfl⟩
 replace Rc := Rc.alloc (.cells #[.string X, .string Y] 9)
 replace Rr := Rr.alloc (.cells #[.string X, .string Y] 9)
 replace Rq := Rq.alloc (.cells #[.string X, .string Y] 9)
 have Rm := Row.new (World.alloc w2 (.cells #[.int .i64 0, .int .i64 0, .int .i64 0, .int .i64 0, .int .u64 0, .int .u64 0, .string ⟨#[]⟩, .int .i64 0, .int .i64 0, .int .u64 0, .int .u64 0, .string ⟨#[]⟩] 40)) #[Value.string X, Value.string Y] 9
 simp only [World.size_alloc] at Rm
 have mm := hb0.size
 replace hb0 := hb0.alloc hb0.size (.cells #[.string X, .string Y] 9)
 (try clear c0 c1 c2 c3 c4 c5 c6); obtain ⟨c0, c1, c2, c3, c4, c5, c6⟩ := row7 Rc
 (try clear r0 r1 r2 r3 r4 r5 r6 r7 r8 r9 r10 r11); obtain ⟨r0, r1, r2, r3, r4, r5, r6, r7, r8, r9, r10, r11⟩ := row12 Rr
 (try clear q0 q1 q2 q3 q4 q5 q6 q7 q8 q9 q10 q11); obtain ⟨q0, q1, q2, q3, q4, q5, q6, q7, q8, q9, q10, q11⟩ := row12 Rq
 (try clear m0 m1); obtain ⟨m0, m1⟩ := row2 Rm
 go_wp2_with fail
 refine wp_loop_rounds 3 ?_
 rw [rounds_succ]
 go_wp2_with fail
 go_wp2_with fail
 refine (HP0 _ hb0).mono ?_
 rintro e w3 ⟨rfl, hb⟩
 replace Rc := Rc.later hb
 replace Rr := Rr.later hb
 replace Rq := Rq.later hb
 replace Rm := Rm.later hb
 replace hb0 := below_step hb0 hb
 clear hb
 have lc := Rc.lt
 have lr := Rr.lt
 have lq := Rq.lt
 have lm := Rm.lt
 (try clear c0 c1 c2 c3 c4 c5 c6); obtain ⟨c0, c1, c2, c3, c4, c5, c6⟩ := row7 Rc
 (try clear r0 r1 r2 r3 r4 r5 r6 r7 r8 r9 r10 r11); obtain ⟨r0, r1, r2, r3, r4, r5, r6, r7, r8, r9, r10, r11⟩ := row12 Rr
 (try clear q0 q1 q2 q3 q4 q5 q6 q7 q8 q9 q10 q11); obtain ⟨q0, q1, q2, q3, q4, q5, q6, q7, q8, q9, q10, q11⟩ := row12 Rq
 (try clear m0 m1); obtain ⟨m0, m1⟩ := row2 Rm
 go_wp2_with fail
 have nx0c := Rc.lt
 have nx0r := Rr.lt
 have nx0q := Rq.lt
 have nx0m := Rm.lt
 replace Rc := Rc.alloc (.cells #[.int .i64 k0.kind, .int .i64 k0.len, .int .u64 k0.h, .int .u64 k0.l, .string ⟨k0.path.toArray⟩] 26)
 replace Rr := Rr.alloc (.cells #[.int .i64 k0.kind, .int .i64 k0.len, .int .u64 k0.h, .int .u64 k0.l, .string ⟨k0.path.toArray⟩] 26)
 replace Rq := Rq.alloc (.cells #[.int .i64 k0.kind, .int .i64 k0.len, .int .u64 k0.h, .int .u64 k0.l, .string ⟨k0.path.toArray⟩] 26)
 replace Rm := Rm.alloc (.cells #[.int .i64 k0.kind, .int .i64 k0.len, .int .u64 k0.h, .int .u64 k0.l, .string ⟨k0.path.toArray⟩] 26)
 have Rx0 := Row.new w3 #[Value.int .i64 k0.kind, Value.int .i64 k0.len, Value.int .u64 k0.h, Value.int .u64 k0.l, Value.string ⟨k0.path.toArray⟩] 26
 have mx0 := hb0.size
 replace hb0 := hb0.alloc hb0.size (.cells #[.int .i64 k0.kind, .int .i64 k0.len, .int .u64 k0.h, .int .u64 k0.l, .string ⟨k0.path.toArray⟩] 26)
 (try clear c0 c1 c2 c3 c4 c5 c6); obtain ⟨c0, c1, c2, c3, c4, c5, c6⟩ := row7 Rc
 (try clear r0 r1 r2 r3 r4 r5 r6 r7 r8 r9 r10 r11); obtain ⟨r0, r1, r2, r3, r4, r5, r6, r7, r8, r9, r10, r11⟩ := row12 Rr
 (try clear q0 q1 q2 q3 q4 q5 q6 q7 q8 q9 q10 q11); obtain ⟨q0, q1, q2, q3, q4, q5, q6, q7, q8, q9, q10, q11⟩ := row12 Rq
 (try clear m0 m1); obtain ⟨m0, m1⟩ := row2 Rm
 (try clear x00 x01 x02 x03 x04); obtain ⟨x00, x01, x02, x03, x04⟩ := row5 Rx0
 refine wp_region_held_drew (S := (fun w' => Row w' w3.heap.size #[.int .i64 k0.kind, .int .i64 k0.len, .int .u64 k0.h, .int .u64 k0.l, .string ⟨k0.path.toArray⟩] 26)) (by kernel_rfl) ?hSr8_ (fun hH => ?_)
 case hSr8_ => (exact Rx0.drew)
 (clear c0 c1 c2 c3 c4 c5 c6 r0 r1 r2 r3 r4 r5 r6 r7 r8 r9 r10 r11 q0 q1 q2 q3 q4 q5 q6 q7 q8 q9 q10 q11 m0 m1 x00 x01 x02 x03 x04; (replace Rc := Rc.drew); (replace Rr := Rr.drew); (replace Rq := Rq.drew); (replace Rm := Rm.drew); (replace Rx0 := Rx0.drew); (replace hb0 := hb0.drew); (generalize World.drew (World.alloc w3 (.cells #[.int .i64 k0.kind, .int .i64 k0.len, .int .u64 k0.h, .int .u64 k0.l, .string ⟨k0.path.toArray⟩] 26)) = wq at *))
 refine tk 0 ⟨some 45, .move (.tmp 7), 3, _, _, _⟩ hH ?_
 refine tk 1 ⟨some 46, .move (.tmp 7), 3, _, _, _⟩ hH ?_
 refine tk 2 ⟨some 47, .move (.tmp 9), 3, _, _, _⟩ hH ?_
 refine tk 3 ⟨some 48, .load 26 (.tmp 10), 26, _, _, _⟩ hH ?_ (v := ?vr8_4_3) (hy := ?yr8_4_3)
 case yr8_4_3 => (intro wy hSw; have Qx0 := hSw; (with_reducible refine pexec_load 26 (.tmp 10) ?_ w3.heap.size ?_ 26 #[.int .i64 k0.kind, .int .i64 k0.len, .int .u64 k0.h, .int .u64 k0.l, .string ⟨k0.path.toArray⟩] _ Qx0 Tryz.underlying26 ?_ ?_) <;> first | rfl | exact infoKe)
 refine tk 4 ⟨some 49, .fieldAddr 40 (.tmp 6) 0, 0, _, _, _⟩ hH ?_
 refine tk 5 ⟨some 50, .indexAddr 37 (.tmp 49) (.tmp 45), 0, _, _, _⟩ hH ?_
 refine tk 7 ⟨some 51, .fieldAddr 40 (.tmp 6) 1, 0, _, _, _⟩ hH ?_
 refine wpAnyH_ready (rs := [6]) (by kernel_rfl) (by simp) ?_
 refine AllReadyH.cons (o := ⟨none, .store 3 (.tmp 50) (.tmp 47), 0, _, _, _⟩) rfl (fun K hK => ?_) AllReadyH.nil
 ((obtain ⟨zc0, zd1, zd2, zd3, zd4, zd5, zd6, zd7, zd8, zd9, zd10, zd11⟩ := row12 Rq); (have zf0 := Rq.frozen 0); (have hHq := hH); (have Qx0 := hHq); go_simp; clear zc0 zf0 zd1 zd2 zd3 zd4 zd5 zd6 zd7 zd8 zd9 zd10 zd11; (obtain ⟨wz, hwk, hwz⟩ := pnm wq w2.heap.size 0 [.int .i64 l0]); (simp only [World.setCells] at hwk); rw [← hwk]; clear hwk; (replace Qx0 := prf hwz Qx0); (replace Rc := prf hwz Rc); (replace Rr := prf hwz Rr); (replace Rm := prf hwz Rm); (replace Rx0 := prf hwz Rx0); (replace hb0 := pbl hwz hb0); (replace Rq : Row wz w2.heap.size #[.int .i64 l0, .int .i64 0, .int .i64 0, .int .i64 0, .int .u64 0, .int .u64 0, .string ⟨#[]⟩, .int .i64 0, .int .i64 0, .int .u64 0, .int .u64 0, .string ⟨#[]⟩] 40 := psm hwz Rq (by simp [setL])); clear hwz)
 refine hK.out _ _ ?hSr8_8_6 fun _ => ?_
 case hSr8_8_6 => (exact Qx0)
 clear hK K hH; rename_i hH
 rename World => wq
 (try simp only [Act.put, nz1, nz2, nz3])
 refine tk 8 ⟨some 52, .indexAddr 38 (.tmp 51) (.tmp 46), 0, _, _, _⟩ hH ?_
 refine wpAnyH_ready (rs := [9]) (by kernel_rfl) (by simp) ?_
 refine AllReadyH.cons (o := ⟨none, .store 26 (.tmp 52) (.tmp 48), 0, _, _, _⟩) rfl (fun K hK => ?_) AllReadyH.nil
 ((obtain ⟨zd0, zd1, zc0, zc1, zc2, zc3, zc4, zd7, zd8, zd9, zd10, zd11⟩ := row12 Rq); (have zf0 := Rq.frozen 2); (have zf1 := Rq.frozen 3); (have zf2 := Rq.frozen 4); (have zf3 := Rq.frozen 5); (have zf4 := Rq.frozen 6); (have hHq := hH); (have Qx0 := hHq); go_simp; clear zc0 zf0 zc1 zf1 zc2 zf2 zc3 zf3 zc4 zf4 zd0 zd1 zd7 zd8 zd9 zd10 zd11; (obtain ⟨wz, hwk, hwz⟩ := pnm wq w2.heap.size 2 [.int .i64 k0.kind, .int .i64 k0.len, .int .u64 k0.h, .int .u64 k0.l, .string ⟨k0.path.toArray⟩]); (simp only [World.setCells] at hwk); rw [← hwk]; clear hwk; (replace Qx0 := prf hwz Qx0); (replace Rc := prf hwz Rc); (replace Rr := prf hwz Rr); (replace Rm := prf hwz Rm); (replace Rx0 := prf hwz Rx0); (replace hb0 := pbl hwz hb0); (replace Rq : Row wz w2.heap.size #[.int .i64 l0, .int .i64 0, .int .i64 k0.kind, .int .i64 k0.len, .int .u64 k0.h, .int .u64 k0.l, .string ⟨k0.path.toArray⟩, .int .i64 0, .int .i64 0, .int .u64 0, .int .u64 0, .string ⟨#[]⟩] 40 := psm hwz Rq (by simp [setL])); clear hwz)
 refine hK.out _ _ ?hSr8_10_9 fun _ => ?_
 case hSr8_10_9 => (exact Qx0)
 clear hK K hH; rename_i hH
 rename World => wq
 (try simp only [Act.put, nz1, nz2, nz3])
 refine wpAnyH_done (by kernel_rfl) ?_ _
 clear hH
 rename World => w4
 have lc := Rc.lt
 have lr := Rr.lt
 have lq := Rq.lt
 have lm := Rm.lt
 have lx0 := Rx0.lt
 (try clear c0 c1 c2 c3 c4 c5 c6); obtain ⟨c0, c1, c2, c3, c4, c5, c6⟩ := row7 Rc
 (try clear r0 r1 r2 r3 r4 r5 r6 r7 r8 r9 r10 r11); obtain ⟨r0, r1, r2, r3, r4, r5, r6, r7, r8, r9, r10, r11⟩ := row12 Rr
 (try clear q0 q1 q2 q3 q4 q5 q6 q7 q8 q9 q10 q11); obtain ⟨q0, q1, q2, q3, q4, q5, q6, q7, q8, q9, q10, q11⟩ := row12 Rq
 (try clear m0 m1); obtain ⟨m0, m1⟩ := row2 Rm
 (try clear x00 x01 x02 x03 x04); obtain ⟨x00, x01, x02, x03, x04⟩ := row5 Rx0
 go_wp2_with fail
 rw [rounds_succ]
 go_wp2_with fail
 go_wp2_with fail
 refine (HP1 _ hb0).mono ?_
 rintro e w5 ⟨rfl, hb⟩
 replace Rc := Rc.later hb
 replace Rr := Rr.later hb
 replace Rq := Rq.later hb
 replace Rm := Rm.later hb
 replace Rx0 := Rx0.later hb
 replace hb0 := below_step hb0 hb
 clear hb
 have lc := Rc.lt
 have lr := Rr.lt
 have lq := Rq.lt
 have lm := Rm.lt
 have lx0 := Rx0.lt
 (try clear c0 c1 c2 c3 c4 c5 c6); obtain ⟨c0, c1, c2, c3, c4, c5, c6⟩ := row7 Rc
 (try clear r0 r1 r2 r3 r4 r5 r6 r7 r8 r9 r10 r11); obtain ⟨r0, r1, r2, r3, r4, r5, r6, r7, r8, r9, r10, r11⟩ := row12 Rr
 (try clear q0 q1 q2 q3 q4 q5 q6 q7 q8 q9 q10 q11); obtain ⟨q0, q1, q2, q3, q4, q5, q6, q7, q8, q9, q10, q11⟩ := row12 Rq
 (try clear m0 m1); obtain ⟨m0, m1⟩ := row2 Rm
 (try clear x00 x01 x02 x03 x04); obtain ⟨x00, x01, x02, x03, x04⟩ := row5 Rx0
 obtain ⟨rf0, rf1, rf2, rf3, rf4, rf5, rf6, rf7, rf8, rf9, rf10, rf11⟩ := fz12 Rr
 go_wp2
 obtain ⟨w6, hwk, hwn⟩ := pnm w5 (w.heap.size + 1) 0 [.int .i64 0, .int .i64 0, .int .i64 0, .int .i64 0, .int .u64 0, .int .u64 0, .string ⟨#[]⟩, .int .i64 0, .int .i64 0, .int .u64 0, .int .u64 0, .string ⟨#[]⟩]
 simp only [World.setCells] at hwk
 rw [← hwk]; clear hwk
 replace Rr : Row w6 (w.heap.size + 1) #[.int .i64 0, .int .i64 0, .int .i64 0, .int .i64 0, .int .u64 0, .int .u64 0, .string ⟨#[]⟩, .int .i64 0, .int .i64 0, .int .u64 0, .int .u64 0, .string ⟨#[]⟩] 40 := psm hwn Rr (by simp [setL])
 replace Rc := prf hwn Rc
 replace Rq := prf hwn Rq
 replace Rm := prf hwn Rm
 replace Rx0 := prf hwn Rx0
 replace hb0 := pbl hwn hb0
 clear hwn c0 c1 c2 c3 c4 c5 c6 r0 r1 r2 r3 r4 r5 r6 r7 r8 r9 r10 r11 q0 q1 q2 q3 q4 q5 q6 q7 q8 q9 q10 q11 m0 m1 x00 x01 x02 x03 x04
 (try clear rf0 rf1 rf2 rf3 rf4 rf5 rf6 rf7 rf8 rf9 rf10 rf11)
 (try clear c0 c1 c2 c3 c4 c5 c6); obtain ⟨c0, c1, c2, c3, c4, c5, c6⟩ := row7 Rc
 (try clear r0 r1 r2 r3 r4 r5 r6 r7 r8 r9 r10 r11); obtain ⟨r0, r1, r2, r3, r4, r5, r6, r7, r8, r9, r10, r11⟩ := row12 Rr
 (try clear q0 q1 q2 q3 q4 q5 q6 q7 q8 q9 q10 q11); obtain ⟨q0, q1, q2, q3, q4, q5, q6, q7, q8, q9, q10, q11⟩ := row12 Rq
 (try clear m0 m1); obtain ⟨m0, m1⟩ := row2 Rm
 (try clear x00 x01 x02 x03 x04); obtain ⟨x00, x01, x02, x03, x04⟩ := row5 Rx0
 have nx1c := Rc.lt
 have nx1r := Rr.lt
 have nx1q := Rq.lt
 have nx1m := Rm.lt
 have nx1x0 := Rx0.lt
 replace Rc := Rc.alloc (.cells #[.int .i64 k1.kind, .int .i64 k1.len, .int .u64 k1.h, .int .u64 k1.l, .string ⟨k1.path.toArray⟩] 26)
 replace Rr := Rr.alloc (.cells #[.int .i64 k1.kind, .int .i64 k1.len, .int .u64 k1.h, .int .u64 k1.l, .string ⟨k1.path.toArray⟩] 26)
 replace Rq := Rq.alloc (.cells #[.int .i64 k1.kind, .int .i64 k1.len, .int .u64 k1.h, .int .u64 k1.l, .string ⟨k1.path.toArray⟩] 26)
 replace Rm := Rm.alloc (.cells #[.int .i64 k1.kind, .int .i64 k1.len, .int .u64 k1.h, .int .u64 k1.l, .string ⟨k1.path.toArray⟩] 26)
 replace Rx0 := Rx0.alloc (.cells #[.int .i64 k1.kind, .int .i64 k1.len, .int .u64 k1.h, .int .u64 k1.l, .string ⟨k1.path.toArray⟩] 26)
 have Rx1 := Row.new w6 #[Value.int .i64 k1.kind, Value.int .i64 k1.len, Value.int .u64 k1.h, Value.int .u64 k1.l, Value.string ⟨k1.path.toArray⟩] 26
 have mx1 := hb0.size
 replace hb0 := hb0.alloc hb0.size (.cells #[.int .i64 k1.kind, .int .i64 k1.len, .int .u64 k1.h, .int .u64 k1.l, .string ⟨k1.path.toArray⟩] 26)
 (try clear c0 c1 c2 c3 c4 c5 c6); obtain ⟨c0, c1, c2, c3, c4, c5, c6⟩ := row7 Rc
 (try clear r0 r1 r2 r3 r4 r5 r6 r7 r8 r9 r10 r11); obtain ⟨r0, r1, r2, r3, r4, r5, r6, r7, r8, r9, r10, r11⟩ := row12 Rr
 (try clear q0 q1 q2 q3 q4 q5 q6 q7 q8 q9 q10 q11); obtain ⟨q0, q1, q2, q3, q4, q5, q6, q7, q8, q9, q10, q11⟩ := row12 Rq
 (try clear m0 m1); obtain ⟨m0, m1⟩ := row2 Rm
 (try clear x00 x01 x02 x03 x04); obtain ⟨x00, x01, x02, x03, x04⟩ := row5 Rx0
 (try clear x10 x11 x12 x13 x14); obtain ⟨x10, x11, x12, x13, x14⟩ := row5 Rx1
 refine bodyPost_ret (v := .tuple #[.agg #[.int .i64 0, .int .i64 0, .int .i64 0, .int .i64 0, .int .u64 0, .int .u64 0, .string ⟨#[]⟩, .int .i64 0, .int .i64 0, .int .u64 0, .int .u64 0, .string ⟨#[]⟩], .int .i64 er]) (by simp [results, Tryz.results17, go_sem, r0, r1, r2, r3, r4, r5, r6, r7, r8, r9, r10, r11]) rfl ⟨rfl, hb0⟩
theorem tps_2oo (s : Sp) (t X Y : ByteArray) (l0 : Int) (k0 : Ke) (l1 : Int) (k1 : Ke) (w : World)
  (HR : ∀ w', Below w.heap.size w w' → Calls Tryz.prog 47 #[.agg #[.int .i64 2, .int .i64 s.d0.kind, .int .i64 s.d0.side, .int .i64 s.d0.step, .int .i64 s.d1.kind, .int .i64 s.d1.side, .int .i64 s.d1.step]] w' fun e w'' => e = .returned (.bool true) ∧ Below w'.heap.size w' w'')
  (HC : ∀ w', Below w.heap.size w w' → Calls Tryz.prog 48 #[.string t, .string ⟨#[62]⟩] w' fun e w'' => e = .returned (.int .i64 1) ∧ Below w'.heap.size w' w'')
  (HS : ∀ w', Below w.heap.size w w' → Calls Tryz.prog 49 #[.string t, .string ⟨#[62]⟩] w' fun e w'' => e = .returned (.slice (some ⟨w'.heap.size, 0, none⟩) 2 2) ∧ w'' = w'.alloc (.cells #[.string X, .string Y] 9))
  (HP0 : ∀ w', Below w.heap.size w w' → Calls Tryz.prog 8 #[.agg #[.int .i64 s.d0.kind, .int .i64 s.d0.side, .int .i64 s.d0.step], .string X] w' fun e w'' => e = .returned (.tuple #[.int .i64 l0, kv k0, .int .i64 0]) ∧ Below w'.heap.size w' w'')
  (HP1 : ∀ w', Below w.heap.size w w' → Calls Tryz.prog 8 #[.agg #[.int .i64 s.d1.kind, .int .i64 s.d1.side, .int .i64 s.d1.step], .string Y] w' fun e w'' => e = .returned (.tuple #[.int .i64 l1, kv k1, .int .i64 0]) ∧ Below w'.heap.size w' w'')
  : Calls Tryz.prog 17 #[.agg #[.int .i64 2, .int .i64 s.d0.kind, .int .i64 s.d0.side, .int .i64 s.d0.step, .int .i64 s.d1.kind, .int .i64 s.d1.side, .int .i64 s.d1.step], .string t] w fun e w' => e = .returned (.tuple #[.agg #[.int .i64 l0, .int .i64 l1, .int .i64 k0.kind, .int .i64 k0.len, .int .u64 k0.h, .int .u64 k0.l, .string ⟨k0.path.toArray⟩, .int .i64 k1.kind, .int .i64 k1.len, .int .u64 k1.h, .int .u64 k1.l, .string ⟨k1.path.toArray⟩], .int .i64 0]) ∧ Below w.heap.size w w' := by
 have hcz : ((1 : Int) != IntKind.i64.wrap 1) = false := by decide
 unfold kv at *
 obtain ⟨Rc, Rr, hb0⟩ := two_rows w #[.int .i64 2, .int .i64 s.d0.kind, .int .i64 s.d0.side, .int .i64 s.d0.step, .int .i64 s.d1.kind, .int .i64 s.d1.side, .int .i64 s.d1.step] #[.int .i64 0, .int .i64 0, .int .i64 0, .int .i64 0, .int .u64 0, .int .u64 0, .string ⟨#[]⟩, .int .i64 0, .int .i64 0, .int .u64 0, .int .u64 0, .string ⟨#[]⟩] 36 40
 (try clear c0 c1 c2 c3 c4 c5 c6); obtain ⟨c0, c1, c2, c3, c4, c5, c6⟩ := row7 Rc
 (try clear r0 r1 r2 r3 r4 r5 r6 r7 r8 r9 r10 r11); obtain ⟨r0, r1, r2, r3, r4, r5, r6, r7, r8, r9, r10, r11⟩ := row12 Rr
 go_enter Tryz.func17, Tryz.ntmps17
 go_wp2_with fail
 refine (HR _ hb0).mono ?_
 rintro e w1 ⟨rfl, hb⟩
 replace Rc := Rc.later hb
 replace Rr := Rr.later hb
 replace hb0 := below_step hb0 hb
 clear hb
 have lc := Rc.lt
 have lr := Rr.lt
 (try clear c0 c1 c2 c3 c4 c5 c6); obtain ⟨c0, c1, c2, c3, c4, c5, c6⟩ := row7 Rc
 (try clear r0 r1 r2 r3 r4 r5 r6 r7 r8 r9 r10 r11); obtain ⟨r0, r1, r2, r3, r4, r5, r6, r7, r8, r9, r10, r11⟩ := row12 Rr
 go_wp2_with fail
 refine wp_region_held_drew (S := (fun w' => w'.cell? ⟨w.heap.size, 0, none⟩ = some (Value.int .i64 2))) (by kernel_rfl) ?hSr9_ (fun hH => ?_)
 case hSr9_ => (exact c0)
 (clear c0 c1 c2 c3 c4 c5 c6 r0 r1 r2 r3 r4 r5 r6 r7 r8 r9 r10 r11; (replace Rc := Rc.drew); (replace Rr := Rr.drew); (replace hb0 := hb0.drew); (generalize World.drew w1 = wq at *))
 refine tk 0 ⟨some 16, .move (.tmp 1), 9, _, _, _⟩ hH ?_
 refine tk 2 ⟨some 18, .fieldAddr 36 (.tmp 2) 0, 0, _, _, _⟩ hH ?_
 refine tk 3 ⟨some 19, .load 3 (.tmp 18), 3, _, _, _⟩ hH ?_
 refine tk 4 ⟨some 20, .binOp .sub 3 (.tmp 19) (.const (.int .i64 1)) 3, 3, _, _, _⟩ hH ?_
 refine wpAnyH_ready (rs := [1]) (by kernel_rfl) (by simp) ?_
 refine AllReadyH.cons (o := ⟨some 17, .call { callee := .value (.func 48), args := #[.tmp 16, .const (.string { data := #[62] })], argTypes := #[9, 9] }, 3, _, _, _⟩) rfl (fun K hK => ?_) AllReadyH.nil
 (go_simp; (refine (HC _ hb0).mono ?_); (rintro e wz ⟨rfl, hb⟩); (replace Rc := Rc.later hb); (replace Rr := Rr.later hb); (replace hb0 := below_step hb0 hb); go_wp2_with fail)
 refine hK.out _ _ ?hSr9_5_1 fun _ => ?_
 case hSr9_5_1 => (exact cl hb hH)
 clear hK K hH; rename_i hH
 rename World => wq
 (try simp only [Act.put, nz1, nz2, nz3])
 refine tk 5 ⟨some 21, .binOp .neq 3 (.tmp 17) (.tmp 20) 3, 4, _, _, _⟩ hH ?_
 refine wpAnyH_done (by kernel_rfl) ?_ _
 clear hH
 rename World => w2
 have lc := Rc.lt
 have lr := Rr.lt
 (try clear c0 c1 c2 c3 c4 c5 c6); obtain ⟨c0, c1, c2, c3, c4, c5, c6⟩ := row7 Rc
 (try clear r0 r1 r2 r3 r4 r5 r6 r7 r8 r9 r10 r11); obtain ⟨r0, r1, r2, r3, r4, r5, r6, r7, r8, r9, r10, r11⟩ := row12 Rr
 go_wp2_with fail
 have nqc := Rc.lt
 have nqr := Rr.lt
 replace Rc := Rc.alloc (.cells #[.int .i64 0, .int .i64 0, .int .i64 0, .int .i64 0, .int .u64 0, .int .u64 0, .string ⟨#[]⟩, .int .i64 0, .int .i64 0, .int .u64 0, .int .u64 0, .string ⟨#[]⟩] 40)
 replace Rr := Rr.alloc (.cells #[.int .i64 0, .int .i64 0, .int .i64 0, .int .i64 0, .int .u64 0, .int .u64 0, .string ⟨#[]⟩, .int .i64 0, .int .i64 0, .int .u64 0, .int .u64 0, .string ⟨#[]⟩] 40)
 have Rq := Row.new w2 #[Value.int .i64 0, Value.int .i64 0, Value.int .i64 0, Value.int .i64 0, Value.int .u64 0, Value.int .u64 0, Value.string ⟨#[]⟩, Value.int .i64 0, Value.int .i64 0, Value.int .u64 0, Value.int .u64 0, Value.string ⟨#[]⟩] 40
 have mq := hb0.size
 replace hb0 := hb0.alloc hb0.size (.cells #[.int .i64 0, .int .i64 0, .int .i64 0, .int .i64 0, .int .u64 0, .int .u64 0, .string ⟨#[]⟩, .int .i64 0, .int .i64 0, .int .u64 0, .int .u64 0, .string ⟨#[]⟩] 40)
 (try clear c0 c1 c2 c3 c4 c5 c6); obtain ⟨c0, c1, c2, c3, c4, c5, c6⟩ := row7 Rc
 (try clear r0 r1 r2 r3 r4 r5 r6 r7 r8 r9 r10 r11); obtain ⟨r0, r1, r2, r3, r4, r5, r6, r7, r8, r9, r10, r11⟩ := row12 Rr
 (try clear q0 q1 q2 q3 q4 q5 q6 q7 q8 q9 q10 q11); obtain ⟨q0, q1, q2, q3, q4, q5, q6, q7, q8, q9, q10, q11⟩ := row12 Rq
 refine (HS _ hb0).mono ?_
 rintro e wz ⟨rfl, rfl⟩
 replace Rc := Rc.alloc (.cells #[.string X, .string Y] 9)
 replace Rr := Rr.alloc (.cells #[.string X, .string Y] 9)
 replace Rq := Rq.alloc (.cells #[.string X, .string Y] 9)
 have Rm := Row.new (World.alloc w2 (.cells #[.int .i64 0, .int .i64 0, .int .i64 0, .int .i64 0, .int .u64 0, .int .u64 0, .string ⟨#[]⟩, .int .i64 0, .int .i64 0, .int .u64 0, .int .u64 0, .string ⟨#[]⟩] 40)) #[Value.string X, Value.string Y] 9
 simp only [World.size_alloc] at Rm
 have mm := hb0.size
 replace hb0 := hb0.alloc hb0.size (.cells #[.string X, .string Y] 9)
 (try clear c0 c1 c2 c3 c4 c5 c6); obtain ⟨c0, c1, c2, c3, c4, c5, c6⟩ := row7 Rc
 (try clear r0 r1 r2 r3 r4 r5 r6 r7 r8 r9 r10 r11); obtain ⟨r0, r1, r2, r3, r4, r5, r6, r7, r8, r9, r10, r11⟩ := row12 Rr
 (try clear q0 q1 q2 q3 q4 q5 q6 q7 q8 q9 q10 q11); obtain ⟨q0, q1, q2, q3, q4, q5, q6, q7, q8, q9, q10, q11⟩ := row12 Rq
 (try clear m0 m1); obtain ⟨m0, m1⟩ := row2 Rm
 go_wp2_with fail
 refine wp_loop_rounds 3 ?_
 rw [rounds_succ]
 go_wp2_with fail
 go_wp2_with fail
 refine (HP0 _ hb0).mono ?_
 rintro e w3 ⟨rfl, hb⟩
 replace Rc := Rc.later hb
 replace Rr := Rr.later hb
 replace Rq := Rq.later hb
 replace Rm := Rm.later hb
 replace hb0 := below_step hb0 hb
 clear hb
 have lc := Rc.lt
 have lr := Rr.lt
 have lq := Rq.lt
 have lm := Rm.lt
 (try clear c0 c1 c2 c3 c4 c5 c6); obtain ⟨c0, c1, c2, c3, c4, c5, c6⟩ := row7 Rc
 (try clear r0 r1 r2 r3 r4 r5 r6 r7 r8 r9 r10 r11); obtain ⟨r0, r1, r2, r3, r4, r5, r6, r7, r8, r9, r10, r11⟩ := row12 Rr
 (try clear q0 q1 q2 q3 q4 q5 q6 q7 q8 q9 q10 q11); obtain ⟨q0, q1, q2, q3, q4, q5, q6, q7, q8, q9, q10, q11⟩ := row12 Rq
 (try clear m0 m1); obtain ⟨m0, m1⟩ := row2 Rm
 go_wp2_with fail
 have nx0c := Rc.lt
 have nx0r := Rr.lt
 have nx0q := Rq.lt
 have nx0m := Rm.lt
 replace Rc := Rc.alloc (.cells #[.int .i64 k0.kind, .int .i64 k0.len, .int .u64 k0.h, .int .u64 k0.l, .string ⟨k0.path.toArray⟩] 26)
 replace Rr := Rr.alloc (.cells #[.int .i64 k0.kind, .int .i64 k0.len, .int .u64 k0.h, .int .u64 k0.l, .string ⟨k0.path.toArray⟩] 26)
 replace Rq := Rq.alloc (.cells #[.int .i64 k0.kind, .int .i64 k0.len, .int .u64 k0.h, .int .u64 k0.l, .string ⟨k0.path.toArray⟩] 26)
 replace Rm := Rm.alloc (.cells #[.int .i64 k0.kind, .int .i64 k0.len, .int .u64 k0.h, .int .u64 k0.l, .string ⟨k0.path.toArray⟩] 26)
 have Rx0 := Row.new w3 #[Value.int .i64 k0.kind, Value.int .i64 k0.len, Value.int .u64 k0.h, Value.int .u64 k0.l, Value.string ⟨k0.path.toArray⟩] 26
 have mx0 := hb0.size
 replace hb0 := hb0.alloc hb0.size (.cells #[.int .i64 k0.kind, .int .i64 k0.len, .int .u64 k0.h, .int .u64 k0.l, .string ⟨k0.path.toArray⟩] 26)
 (try clear c0 c1 c2 c3 c4 c5 c6); obtain ⟨c0, c1, c2, c3, c4, c5, c6⟩ := row7 Rc
 (try clear r0 r1 r2 r3 r4 r5 r6 r7 r8 r9 r10 r11); obtain ⟨r0, r1, r2, r3, r4, r5, r6, r7, r8, r9, r10, r11⟩ := row12 Rr
 (try clear q0 q1 q2 q3 q4 q5 q6 q7 q8 q9 q10 q11); obtain ⟨q0, q1, q2, q3, q4, q5, q6, q7, q8, q9, q10, q11⟩ := row12 Rq
 (try clear m0 m1); obtain ⟨m0, m1⟩ := row2 Rm
 (try clear x00 x01 x02 x03 x04); obtain ⟨x00, x01, x02, x03, x04⟩ := row5 Rx0
 refine wp_region_held_drew (S := (fun w' => Row w' w3.heap.size #[.int .i64 k0.kind, .int .i64 k0.len, .int .u64 k0.h, .int .u64 k0.l, .string ⟨k0.path.toArray⟩] 26)) (by kernel_rfl) ?hSr10_ (fun hH => ?_)
 case hSr10_ => (exact Rx0.drew)
 (clear c0 c1 c2 c3 c4 c5 c6 r0 r1 r2 r3 r4 r5 r6 r7 r8 r9 r10 r11 q0 q1 q2 q3 q4 q5 q6 q7 q8 q9 q10 q11 m0 m1 x00 x01 x02 x03 x04; (replace Rc := Rc.drew); (replace Rr := Rr.drew); (replace Rq := Rq.drew); (replace Rm := Rm.drew); (replace Rx0 := Rx0.drew); (replace hb0 := hb0.drew); (generalize World.drew (World.alloc w3 (.cells #[.int .i64 k0.kind, .int .i64 k0.len, .int .u64 k0.h, .int .u64 k0.l, .string ⟨k0.path.toArray⟩] 26)) = wq at *))
 refine tk 0 ⟨some 45, .move (.tmp 7), 3, _, _, _⟩ hH ?_
 refine tk 1 ⟨some 46, .move (.tmp 7), 3, _, _, _⟩ hH ?_
 refine tk 2 ⟨some 47, .move (.tmp 9), 3, _, _, _⟩ hH ?_
 refine tk 3 ⟨some 48, .load 26 (.tmp 10), 26, _, _, _⟩ hH ?_ (v := ?vr10_4_3) (hy := ?yr10_4_3)
 case yr10_4_3 => (intro wy hSw; have Qx0 := hSw; (with_reducible refine pexec_load 26 (.tmp 10) ?_ w3.heap.size ?_ 26 #[.int .i64 k0.kind, .int .i64 k0.len, .int .u64 k0.h, .int .u64 k0.l, .string ⟨k0.path.toArray⟩] _ Qx0 Tryz.underlying26 ?_ ?_) <;> first | rfl | exact infoKe)
 refine tk 4 ⟨some 49, .fieldAddr 40 (.tmp 6) 0, 0, _, _, _⟩ hH ?_
 refine tk 5 ⟨some 50, .indexAddr 37 (.tmp 49) (.tmp 45), 0, _, _, _⟩ hH ?_
 refine tk 7 ⟨some 51, .fieldAddr 40 (.tmp 6) 1, 0, _, _, _⟩ hH ?_
 refine wpAnyH_ready (rs := [6]) (by kernel_rfl) (by simp) ?_
 refine AllReadyH.cons (o := ⟨none, .store 3 (.tmp 50) (.tmp 47), 0, _, _, _⟩) rfl (fun K hK => ?_) AllReadyH.nil
 ((obtain ⟨zc0, zd1, zd2, zd3, zd4, zd5, zd6, zd7, zd8, zd9, zd10, zd11⟩ := row12 Rq); (have zf0 := Rq.frozen 0); (have hHq := hH); (have Qx0 := hHq); go_simp; clear zc0 zf0 zd1 zd2 zd3 zd4 zd5 zd6 zd7 zd8 zd9 zd10 zd11; (obtain ⟨wz, hwk, hwz⟩ := pnm wq w2.heap.size 0 [.int .i64 l0]); (simp only [World.setCells] at hwk); rw [← hwk]; clear hwk; (replace Qx0 := prf hwz Qx0); (replace Rc := prf hwz Rc); (replace Rr := prf hwz Rr); (replace Rm := prf hwz Rm); (replace Rx0 := prf hwz Rx0); (replace hb0 := pbl hwz hb0); (replace Rq : Row wz w2.heap.size #[.int .i64 l0, .int .i64 0, .int .i64 0, .int .i64 0, .int .u64 0, .int .u64 0, .string ⟨#[]⟩, .int .i64 0, .int .i64 0, .int .u64 0, .int .u64 0, .string ⟨#[]⟩] 40 := psm hwz Rq (by simp [setL])); clear hwz)
 refine hK.out _ _ ?hSr10_8_6 fun _ => ?_
 case hSr10_8_6 => (exact Qx0)
 clear hK K hH; rename_i hH
 rename World => wq
 (try simp only [Act.put, nz1, nz2, nz3])
 refine tk 8 ⟨some 52, .indexAddr 38 (.tmp 51) (.tmp 46), 0, _, _, _⟩ hH ?_
 refine wpAnyH_ready (rs := [9]) (by kernel_rfl) (by simp) ?_
 refine AllReadyH.cons (o := ⟨none, .store 26 (.tmp 52) (.tmp 48), 0, _, _, _⟩) rfl (fun K hK => ?_) AllReadyH.nil
 ((obtain ⟨zd0, zd1, zc0, zc1, zc2, zc3, zc4, zd7, zd8, zd9, zd10, zd11⟩ := row12 Rq); (have zf0 := Rq.frozen 2); (have zf1 := Rq.frozen 3); (have zf2 := Rq.frozen 4); (have zf3 := Rq.frozen 5); (have zf4 := Rq.frozen 6); (have hHq := hH); (have Qx0 := hHq); go_simp; clear zc0 zf0 zc1 zf1 zc2 zf2 zc3 zf3 zc4 zf4 zd0 zd1 zd7 zd8 zd9 zd10 zd11; (obtain ⟨wz, hwk, hwz⟩ := pnm wq w2.heap.size 2 [.int .i64 k0.kind, .int .i64 k0.len, .int .u64 k0.h, .int .u64 k0.l, .string ⟨k0.path.toArray⟩]); (simp only [World.setCells] at hwk); rw [← hwk]; clear hwk; (replace Qx0 := prf hwz Qx0); (replace Rc := prf hwz Rc); (replace Rr := prf hwz Rr); (replace Rm := prf hwz Rm); (replace Rx0 := prf hwz Rx0); (replace hb0 := pbl hwz hb0); (replace Rq : Row wz w2.heap.size #[.int .i64 l0, .int .i64 0, .int .i64 k0.kind, .int .i64 k0.len, .int .u64 k0.h, .int .u64 k0.l, .string ⟨k0.path.toArray⟩, .int .i64 0, .int .i64 0, .int .u64 0, .int .u64 0, .string ⟨#[]⟩] 40 := psm hwz Rq (by simp [setL])); clear hwz)
 refine hK.out _ _ ?hSr10_10_9 fun _ => ?_
 case hSr10_10_9 => (exact Qx0)
 clear hK K hH; rename_i hH
 rename World => wq
 (try simp only [Act.put, nz1, nz2, nz3])
 refine wpAnyH_done (by kernel_rfl) ?_ _
 clear hH
 rename World => w4
 have lc := Rc.lt
 have lr := Rr.lt
 have lq := Rq.lt
 have lm := Rm.lt
 have lx0 := Rx0.lt
 (try clear c0 c1 c2 c3 c4 c5 c6); obtain ⟨c0, c1, c2, c3, c4, c5, c6⟩ := row7 Rc
 (try clear r0 r1 r2 r3 r4 r5 r6 r7 r8 r9 r10 r11); obtain ⟨r0, r1, r2, r3, r4, r5, r6, r7, r8, r9, r10, r11⟩ := row12 Rr
 (try clear q0 q1 q2 q3 q4 q5 q6 q7 q8 q9 q10 q11); obtain ⟨q0, q1, q2, q3, q4, q5, q6, q7, q8, q9, q10, q11⟩ := row12 Rq
 (try clear m0 m1); obtain ⟨m0, m1⟩ := row2 Rm
 (try clear x00 x01 x02 x03 x04); obtain ⟨x00, x01, x02, x03, x04⟩ := row5 Rx0
 go_wp2_with fail
 rw [rounds_succ]
 go_wp2_with fail
 go_wp2_with fail
 refine (HP1 _ hb0).mono ?_
 rintro e w5 ⟨rfl, hb⟩
 replace Rc := Rc.later hb
 replace Rr := Rr.later hb
 replace Rq := Rq.later hb
 replace Rm := Rm.later hb
 replace Rx0 := Rx0.later hb
 replace hb0 := below_step hb0 hb
 clear hb
 have lc := Rc.lt
 have lr := Rr.lt
 have lq := Rq.lt
 have lm := Rm.lt
 have lx0 := Rx0.lt
 (try clear c0 c1 c2 c3 c4 c5 c6); obtain ⟨c0, c1, c2, c3, c4, c5, c6⟩ := row7 Rc
 (try clear r0 r1 r2 r3 r4 r5 r6 r7 r8 r9 r10 r11); obtain ⟨r0, r1, r2, r3, r4, r5, r6, r7, r8, r9, r10, r11⟩ := row12 Rr
 (try clear q0 q1 q2 q3 q4 q5 q6 q7 q8 q9 q10 q11); obtain ⟨q0, q1, q2, q3, q4, q5, q6, q7, q8, q9, q10, q11⟩ := row12 Rq
 (try clear m0 m1); obtain ⟨m0, m1⟩ := row2 Rm
 (try clear x00 x01 x02 x03 x04); obtain ⟨x00, x01, x02, x03, x04⟩ := row5 Rx0
 go_wp2_with fail
 have nx1c := Rc.lt
 have nx1r := Rr.lt
 have nx1q := Rq.lt
 have nx1m := Rm.lt
 have nx1x0 := Rx0.lt
 replace Rc := Rc.alloc (.cells #[.int .i64 k1.kind, .int .i64 k1.len, .int .u64 k1.h, .int .u64 k1.l, .string ⟨k1.path.toArray⟩] 26)
 replace Rr := Rr.alloc (.cells #[.int .i64 k1.kind, .int .i64 k1.len, .int .u64 k1.h, .int .u64 k1.l, .string ⟨k1.path.toArray⟩] 26)
 replace Rq := Rq.alloc (.cells #[.int .i64 k1.kind, .int .i64 k1.len, .int .u64 k1.h, .int .u64 k1.l, .string ⟨k1.path.toArray⟩] 26)
 replace Rm := Rm.alloc (.cells #[.int .i64 k1.kind, .int .i64 k1.len, .int .u64 k1.h, .int .u64 k1.l, .string ⟨k1.path.toArray⟩] 26)
 replace Rx0 := Rx0.alloc (.cells #[.int .i64 k1.kind, .int .i64 k1.len, .int .u64 k1.h, .int .u64 k1.l, .string ⟨k1.path.toArray⟩] 26)
 have Rx1 := Row.new w5 #[Value.int .i64 k1.kind, Value.int .i64 k1.len, Value.int .u64 k1.h, Value.int .u64 k1.l, Value.string ⟨k1.path.toArray⟩] 26
 have mx1 := hb0.size
 replace hb0 := hb0.alloc hb0.size (.cells #[.int .i64 k1.kind, .int .i64 k1.len, .int .u64 k1.h, .int .u64 k1.l, .string ⟨k1.path.toArray⟩] 26)
 (try clear c0 c1 c2 c3 c4 c5 c6); obtain ⟨c0, c1, c2, c3, c4, c5, c6⟩ := row7 Rc
 (try clear r0 r1 r2 r3 r4 r5 r6 r7 r8 r9 r10 r11); obtain ⟨r0, r1, r2, r3, r4, r5, r6, r7, r8, r9, r10, r11⟩ := row12 Rr
 (try clear q0 q1 q2 q3 q4 q5 q6 q7 q8 q9 q10 q11); obtain ⟨q0, q1, q2, q3, q4, q5, q6, q7, q8, q9, q10, q11⟩ := row12 Rq
 (try clear m0 m1); obtain ⟨m0, m1⟩ := row2 Rm
 (try clear x00 x01 x02 x03 x04); obtain ⟨x00, x01, x02, x03, x04⟩ := row5 Rx0
 (try clear x10 x11 x12 x13 x14); obtain ⟨x10, x11, x12, x13, x14⟩ := row5 Rx1
 refine wp_region_held_drew (S := (fun w' => Row w' w5.heap.size #[.int .i64 k1.kind, .int .i64 k1.len, .int .u64 k1.h, .int .u64 k1.l, .string ⟨k1.path.toArray⟩] 26)) (by kernel_rfl) ?hSr11_ (fun hH => ?_)
 case hSr11_ => (exact Rx1.drew)
 (clear c0 c1 c2 c3 c4 c5 c6 r0 r1 r2 r3 r4 r5 r6 r7 r8 r9 r10 r11 q0 q1 q2 q3 q4 q5 q6 q7 q8 q9 q10 q11 m0 m1 x00 x01 x02 x03 x04 x10 x11 x12 x13 x14; (replace Rc := Rc.drew); (replace Rr := Rr.drew); (replace Rq := Rq.drew); (replace Rm := Rm.drew); (replace Rx0 := Rx0.drew); (replace Rx1 := Rx1.drew); (replace hb0 := hb0.drew); (generalize World.drew (World.alloc w5 (.cells #[.int .i64 k1.kind, .int .i64 k1.len, .int .u64 k1.h, .int .u64 k1.l, .string ⟨k1.path.toArray⟩] 26)) = wq at *))
 refine tk 0 ⟨some 45, .move (.tmp 7), 3, _, _, _⟩ hH ?_
 refine tk 1 ⟨some 46, .move (.tmp 7), 3, _, _, _⟩ hH ?_
 refine tk 2 ⟨some 47, .move (.tmp 9), 3, _, _, _⟩ hH ?_
 refine tk 3 ⟨some 48, .load 26 (.tmp 10), 26, _, _, _⟩ hH ?_ (v := ?vr11_4_3) (hy := ?yr11_4_3)
 case yr11_4_3 => (intro wy hSw; have Qx1 := hSw; (with_reducible refine pexec_load 26 (.tmp 10) ?_ w5.heap.size ?_ 26 #[.int .i64 k1.kind, .int .i64 k1.len, .int .u64 k1.h, .int .u64 k1.l, .string ⟨k1.path.toArray⟩] _ Qx1 Tryz.underlying26 ?_ ?_) <;> first | rfl | exact infoKe)
 refine tk 4 ⟨some 49, .fieldAddr 40 (.tmp 6) 0, 0, _, _, _⟩ hH ?_
 refine tk 5 ⟨some 50, .indexAddr 37 (.tmp 49) (.tmp 45), 0, _, _, _⟩ hH ?_
 refine tk 7 ⟨some 51, .fieldAddr 40 (.tmp 6) 1, 0, _, _, _⟩ hH ?_
 refine wpAnyH_ready (rs := [6]) (by kernel_rfl) (by simp) ?_
 refine AllReadyH.cons (o := ⟨none, .store 3 (.tmp 50) (.tmp 47), 0, _, _, _⟩) rfl (fun K hK => ?_) AllReadyH.nil
 ((obtain ⟨zd0, zc0, zd2, zd3, zd4, zd5, zd6, zd7, zd8, zd9, zd10, zd11⟩ := row12 Rq); (have zf0 := Rq.frozen 1); (have hHq := hH); (have Qx1 := hHq); go_simp; clear zc0 zf0 zd0 zd2 zd3 zd4 zd5 zd6 zd7 zd8 zd9 zd10 zd11; (obtain ⟨wz, hwk, hwz⟩ := pnm wq w2.heap.size 1 [.int .i64 l1]); (simp only [World.setCells] at hwk); rw [← hwk]; clear hwk; (replace Qx1 := prf hwz Qx1); (replace Rc := prf hwz Rc); (replace Rr := prf hwz Rr); (replace Rm := prf hwz Rm); (replace Rx0 := prf hwz Rx0); (replace Rx1 := prf hwz Rx1); (replace hb0 := pbl hwz hb0); (replace Rq : Row wz w2.heap.size #[.int .i64 l0, .int .i64 l1, .int .i64 k0.kind, .int .i64 k0.len, .int .u64 k0.h, .int .u64 k0.l, .string ⟨k0.path.toArray⟩, .int .i64 0, .int .i64 0, .int .u64 0, .int .u64 0, .string ⟨#[]⟩] 40 := psm hwz Rq (by simp [setL])); clear hwz)
 refine hK.out _ _ ?hSr11_8_6 fun _ => ?_
 case hSr11_8_6 => (exact Qx1)
 clear hK K hH; rename_i hH
 rename World => wq
 (try simp only [Act.put, nz1, nz2, nz3])
 refine tk 8 ⟨some 52, .indexAddr 38 (.tmp 51) (.tmp 46), 0, _, _, _⟩ hH ?_
 refine wpAnyH_ready (rs := [9]) (by kernel_rfl) (by simp) ?_
 refine AllReadyH.cons (o := ⟨none, .store 26 (.tmp 52) (.tmp 48), 0, _, _, _⟩) rfl (fun K hK => ?_) AllReadyH.nil
 ((obtain ⟨zd0, zd1, zd2, zd3, zd4, zd5, zd6, zc0, zc1, zc2, zc3, zc4⟩ := row12 Rq); (have zf0 := Rq.frozen 7); (have zf1 := Rq.frozen 8); (have zf2 := Rq.frozen 9); (have zf3 := Rq.frozen 10); (have zf4 := Rq.frozen 11); (have hHq := hH); (have Qx1 := hHq); go_simp; clear zc0 zf0 zc1 zf1 zc2 zf2 zc3 zf3 zc4 zf4 zd0 zd1 zd2 zd3 zd4 zd5 zd6; (obtain ⟨wz, hwk, hwz⟩ := pnm wq w2.heap.size 7 [.int .i64 k1.kind, .int .i64 k1.len, .int .u64 k1.h, .int .u64 k1.l, .string ⟨k1.path.toArray⟩]); (simp only [World.setCells] at hwk); rw [← hwk]; clear hwk; (replace Qx1 := prf hwz Qx1); (replace Rc := prf hwz Rc); (replace Rr := prf hwz Rr); (replace Rm := prf hwz Rm); (replace Rx0 := prf hwz Rx0); (replace Rx1 := prf hwz Rx1); (replace hb0 := pbl hwz hb0); (replace Rq : Row wz w2.heap.size #[.int .i64 l0, .int .i64 l1, .int .i64 k0.kind, .int .i64 k0.len, .int .u64 k0.h, .int .u64 k0.l, .string ⟨k0.path.toArray⟩, .int .i64 k1.kind, .int .i64 k1.len, .int .u64 k1.h, .int .u64 k1.l, .string ⟨k1.path.toArray⟩] 40 := psm hwz Rq (by simp [setL])); clear hwz)
 refine hK.out _ _ ?hSr11_10_9 fun _ => ?_
 case hSr11_10_9 => (exact Qx1)
 clear hK K hH; rename_i hH
 rename World => wq
 (try simp only [Act.put, nz1, nz2, nz3])
 refine wpAnyH_done (by kernel_rfl) ?_ _
 clear hH
 rename World => w6
 have lc := Rc.lt
 have lr := Rr.lt
 have lq := Rq.lt
 have lm := Rm.lt
 have lx0 := Rx0.lt
 have lx1 := Rx1.lt
 (try clear c0 c1 c2 c3 c4 c5 c6); obtain ⟨c0, c1, c2, c3, c4, c5, c6⟩ := row7 Rc
 (try clear r0 r1 r2 r3 r4 r5 r6 r7 r8 r9 r10 r11); obtain ⟨r0, r1, r2, r3, r4, r5, r6, r7, r8, r9, r10, r11⟩ := row12 Rr
 (try clear q0 q1 q2 q3 q4 q5 q6 q7 q8 q9 q10 q11); obtain ⟨q0, q1, q2, q3, q4, q5, q6, q7, q8, q9, q10, q11⟩ := row12 Rq
 (try clear m0 m1); obtain ⟨m0, m1⟩ := row2 Rm
 (try clear x00 x01 x02 x03 x04); obtain ⟨x00, x01, x02, x03, x04⟩ := row5 Rx0
 (try clear x10 x11 x12 x13 x14); obtain ⟨x10, x11, x12, x13, x14⟩ := row5 Rx1
 go_wp2_with fail
 rw [rounds_succ]
 obtain ⟨rf0, rf1, rf2, rf3, rf4, rf5, rf6, rf7, rf8, rf9, rf10, rf11⟩ := fz12 Rr
 go_wp2
 obtain ⟨w7, hwk, hwn⟩ := pnm w6 (w.heap.size + 1) 0 [.int .i64 l0, .int .i64 l1, .int .i64 k0.kind, .int .i64 k0.len, .int .u64 k0.h, .int .u64 k0.l, .string ⟨k0.path.toArray⟩, .int .i64 k1.kind, .int .i64 k1.len, .int .u64 k1.h, .int .u64 k1.l, .string ⟨k1.path.toArray⟩]
 simp only [World.setCells] at hwk
 rw [← hwk]; clear hwk
 replace Rr : Row w7 (w.heap.size + 1) #[.int .i64 l0, .int .i64 l1, .int .i64 k0.kind, .int .i64 k0.len, .int .u64 k0.h, .int .u64 k0.l, .string ⟨k0.path.toArray⟩, .int .i64 k1.kind, .int .i64 k1.len, .int .u64 k1.h, .int .u64 k1.l, .string ⟨k1.path.toArray⟩] 40 := psm hwn Rr (by simp [setL])
 replace Rc := prf hwn Rc
 replace Rq := prf hwn Rq
 replace Rm := prf hwn Rm
 replace Rx0 := prf hwn Rx0
 replace Rx1 := prf hwn Rx1
 replace hb0 := pbl hwn hb0
 clear hwn c0 c1 c2 c3 c4 c5 c6 r0 r1 r2 r3 r4 r5 r6 r7 r8 r9 r10 r11 q0 q1 q2 q3 q4 q5 q6 q7 q8 q9 q10 q11 m0 m1 x00 x01 x02 x03 x04 x10 x11 x12 x13 x14
 (try clear rf0 rf1 rf2 rf3 rf4 rf5 rf6 rf7 rf8 rf9 rf10 rf11)
 (try clear c0 c1 c2 c3 c4 c5 c6); obtain ⟨c0, c1, c2, c3, c4, c5, c6⟩ := row7 Rc
 (try clear r0 r1 r2 r3 r4 r5 r6 r7 r8 r9 r10 r11); obtain ⟨r0, r1, r2, r3, r4, r5, r6, r7, r8, r9, r10, r11⟩ := row12 Rr
 (try clear q0 q1 q2 q3 q4 q5 q6 q7 q8 q9 q10 q11); obtain ⟨q0, q1, q2, q3, q4, q5, q6, q7, q8, q9, q10, q11⟩ := row12 Rq
 (try clear m0 m1); obtain ⟨m0, m1⟩ := row2 Rm
 (try clear x00 x01 x02 x03 x04); obtain ⟨x00, x01, x02, x03, x04⟩ := row5 Rx0
 (try clear x10 x11 x12 x13 x14); obtain ⟨x10, x11, x12, x13, x14⟩ := row5 Rx1
 refine bodyPost_ret (v := .tuple #[.agg #[.int .i64 l0, .int .i64 l1, .int .i64 k0.kind, .int .i64 k0.len, .int .u64 k0.h, .int .u64 k0.l, .string ⟨k0.path.toArray⟩, .int .i64 k1.kind, .int .i64 k1.len, .int .u64 k1.h, .int .u64 k1.l, .string ⟨k1.path.toArray⟩], .int .i64 0]) (by simp [results, Tryz.results17, go_sem, r0, r1, r2, r3, r4, r5, r6, r7, r8, r9, r10, r11]) rfl ⟨rfl, hb0⟩
end Go.Proofs.YtboinifeemghaaaGreatDoor
