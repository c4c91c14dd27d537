/- LawTextParts: what the theorem needs of these texts. No conditions beyond those that are written. -/
import Derived.Test.YtboinifeemghaaaGreatDoorCJTR4
import Derived.Test.YtboinifeemghaaaGreatDoorCLawTextPrints
set_option linter.unusedSimpArgs false
set_option linter.unusedVariables false
set_option maxHeartbeats 1600000
set_option maxRecDepth 100000
namespace Go.Proofs.YtboinifeemghaaaGreatDoor
open Go.RowKit
theorem lparts (d : Dm) (lv : Int) (k : Ke) (t A B : ByteArray) (i : Int) (x : Ke) (er : Int) (w : World)
  (HA : ∀ w', Below w.heap.size w w' → Calls Tryz.prog 10 #[] w' fun e w'' => e = .returned (.bool true) ∧ Below w'.heap.size w' w'')
  (H1 : ∀ w', Below w.heap.size w w' → Calls Tryz.prog 8 #[.agg #[.int .i64 d.kind, .int .i64 d.side, .int .i64 d.step], .string t] w' fun e w'' => e = .returned (.tuple #[.int .i64 i, kv x, .int .i64 er]) ∧ Below w'.heap.size w' w'')
  (H2 : ∀ w', Below w.heap.size w w' → Calls Tryz.prog 9 #[.agg #[.int .i64 d.kind, .int .i64 d.side, .int .i64 d.step], .string t] w' fun e w'' => e = .returned (.tuple #[.int .i64 i, kv x, .int .i64 er]) ∧ Below w'.heap.size w' w'')
  (H3 : ∀ w', Below w.heap.size w w' → Calls Tryz.prog 11 #[kv k] w' fun e w'' => e = .returned (.string A) ∧ Below w'.heap.size w' w'')
  (H4 : ∀ w', Below w.heap.size w w' → Calls Tryz.prog 12 #[kv k] w' fun e w'' => e = .returned (.string A) ∧ Below w'.heap.size w' w'')
  (H5 : ∀ w', Below w.heap.size w w' → Calls Tryz.prog 13 #[.agg #[.int .i64 d.kind, .int .i64 d.side, .int .i64 d.step], .int .i64 lv, kv k] w' fun e w'' => e = .returned (.string B) ∧ Below w'.heap.size w' w'')
  (H6 : ∀ w', Below w.heap.size w w' → Calls Tryz.prog 14 #[.agg #[.int .i64 d.kind, .int .i64 d.side, .int .i64 d.step], .int .i64 lv, kv k] w' fun e w'' => e = .returned (.string B) ∧ Below w'.heap.size w' w'')
  : Calls Tryz.prog 3 #[.agg #[.int .i64 d.kind, .int .i64 d.side, .int .i64 d.step], .int .i64 lv, kv k, .string t] w fun e w' => e = .returned (.bool true) ∧ Below w.heap.size w w' := by
 have qx := eql_ke_self x
 unfold kv at *
 obtain ⟨Rc, Rk, hb0⟩ := two_rows w #[.int .i64 d.kind, .int .i64 d.side, .int .i64 d.step] #[.int .i64 k.kind, .int .i64 k.len, .int .u64 k.h, .int .u64 k.l, .string ⟨k.path.toArray⟩] 23 26
 (try clear c0 c1 c2); obtain ⟨c0, c1, c2⟩ := row3 Rc
 (try clear k0 k1 k2 k3 k4); obtain ⟨k0, k1, k2, k3, k4⟩ := row5 Rk
 go_enter Tryz.func3, Tryz.ntmps3
 go_wp2_with fail
 refine (H1 _ hb0).mono ?_
 rintro e w1 ⟨rfl, hb⟩
 replace Rc := Rc.later hb
 replace Rk := Rk.later hb
 replace hb0 := below_step hb0 hb
 clear hb
 have lc := Rc.lt
 have lk := Rk.lt
 (try clear c0 c1 c2); obtain ⟨c0, c1, c2⟩ := row3 Rc
 (try clear k0 k1 k2 k3 k4); obtain ⟨k0, k1, k2, k3, k4⟩ := row5 Rk
 go_wp2_with fail
 refine (H2 _ (hb0.alloc hb0.size _)).mono ?_
 rintro e w2 ⟨rfl, hb⟩
 have nxc := Rc.lt
 have nxk := Rk.lt
 replace Rc := (Rc.alloc _).later hb
 replace Rk := (Rk.alloc _).later hb
 have Rx := Row.later (Row.new _ _ _) hb
 have mx := hb0.size
 replace hb0 := below_step (hb0.alloc hb0.size _) hb
 clear hb
 generalize w1.heap.size = gx at *
 have lc := Rc.lt
 have lk := Rk.lt
 have lx := Rx.lt
 (try clear c0 c1 c2); obtain ⟨c0, c1, c2⟩ := row3 Rc
 (try clear k0 k1 k2 k3 k4); obtain ⟨k0, k1, k2, k3, k4⟩ := row5 Rk
 (try clear x0 x1 x2 x3 x4); obtain ⟨x0, x1, x2, x3, x4⟩ := row5 Rx
 go_wp2_with fail
 have nyc := Rc.lt
 have nyk := Rk.lt
 have nyx := Rx.lt
 replace Rc := Rc.alloc (.cells #[.int .i64 x.kind, .int .i64 x.len, .int .u64 x.h, .int .u64 x.l, .string ⟨x.path.toArray⟩] 26)
 replace Rk := Rk.alloc (.cells #[.int .i64 x.kind, .int .i64 x.len, .int .u64 x.h, .int .u64 x.l, .string ⟨x.path.toArray⟩] 26)
 replace Rx := Rx.alloc (.cells #[.int .i64 x.kind, .int .i64 x.len, .int .u64 x.h, .int .u64 x.l, .string ⟨x.path.toArray⟩] 26)
 have Ry := Row.new w2 #[Value.int .i64 x.kind, Value.int .i64 x.len, Value.int .u64 x.h, Value.int .u64 x.l, Value.string ⟨x.path.toArray⟩] 26
 have my := hb0.size
 replace hb0 := hb0.alloc hb0.size (.cells #[.int .i64 x.kind, .int .i64 x.len, .int .u64 x.h, .int .u64 x.l, .string ⟨x.path.toArray⟩] 26)
 (try clear c0 c1 c2); obtain ⟨c0, c1, c2⟩ := row3 Rc
 (try clear k0 k1 k2 k3 k4); obtain ⟨k0, k1, k2, k3, k4⟩ := row5 Rk
 (try clear x0 x1 x2 x3 x4); obtain ⟨x0, x1, x2, x3, x4⟩ := row5 Rx
 (try clear y0 y1 y2 y3 y4); obtain ⟨y0, y1, y2, y3, y4⟩ := row5 Ry
 generalize (World.alloc w2 (.cells #[.int .i64 x.kind, .int .i64 x.len, .int .u64 x.h, .int .u64 x.l, .string ⟨x.path.toArray⟩] 26)) = w3 at *
 refine wp_region_held_drew (S := (fun w' => Row w' w.heap.size #[.int .i64 d.kind, .int .i64 d.side, .int .i64 d.step] 23 ∧ Row w' (w.heap.size + 1) #[.int .i64 k.kind, .int .i64 k.len, .int .u64 k.h, .int .u64 k.l, .string ⟨k.path.toArray⟩] 26 ∧ Row w' gx #[.int .i64 x.kind, .int .i64 x.len, .int .u64 x.h, .int .u64 x.l, .string ⟨x.path.toArray⟩] 26 ∧ Row w' w2.heap.size #[.int .i64 x.kind, .int .i64 x.len, .int .u64 x.h, .int .u64 x.l, .string ⟨x.path.toArray⟩] 26)) (by kernel_rfl) ?hSr1_ (fun hH => ?_)
 case hSr1_ => (exact ⟨Rc.drew, Rk.drew, Rx.drew, Ry.drew⟩)
 (clear c0 c1 c2 k0 k1 k2 k3 k4 x0 x1 x2 x3 x4 y0 y1 y2 y3 y4; (replace Rc := Rc.drew); (replace Rk := Rk.drew); (replace Rx := Rx.drew); (replace Ry := Ry.drew); (replace hb0 := hb0.drew); (generalize World.drew w3 = wq at *))
 refine wpAnyH_ready (rs := [0]) (by kernel_rfl) (by simp) ?_
 refine AllReadyH.cons (o := ⟨some 29, .call { callee := .value (.func 10), args := #[], argTypes := #[] }, 4, _, _, _⟩) rfl (fun K hK => ?_) AllReadyH.nil
 (go_simp; (refine (HA _ hb0).mono ?_); (rintro e wz ⟨rfl, hb⟩); (replace Rc := Rc.later hb); (replace Rk := Rk.later hb); (replace Rx := Rx.later hb); (replace Ry := Ry.later hb); (replace hb0 := below_step hb0 hb); go_wp2_with fail)
 refine hK.out _ _ ?hSr1_1_0 fun _ => ?_
 case hSr1_1_0 => (exact kr hb (kr hb (kr hb ((·.later hb)))) hH)
 clear hK K hH; rename_i hH
 rename World => wq
 (try simp only [Act.put, nz1, nz2, nz3])
 refine tk 1 ⟨some 30, .move (.tmp 29), 4, _, _, _⟩ hH ?_
 refine tk 2 ⟨some 31, .load 26 (.tmp 6), 26, _, _, _⟩ hH ?_ (v := ?vr1_3_2) (hy := ?yr1_3_2)
 case yr1_3_2 => (intro wy hSw; obtain ⟨Qc, Qk, Qx, Qy⟩ := hSw; (with_reducible refine pexec_load 26 (.tmp 6) ?_ (w.heap.size + 1) ?_ 26 #[.int .i64 k.kind, .int .i64 k.len, .int .u64 k.h, .int .u64 k.l, .string ⟨k.path.toArray⟩] _ Qk Tryz.underlying26 ?_ ?_) <;> first | rfl | exact infoKe)
 refine tk 4 ⟨some 33, .load 26 (.tmp 6), 26, _, _, _⟩ hH ?_ (v := ?vr1_4_4) (hy := ?yr1_4_4)
 case yr1_4_4 => (intro wy hSw; obtain ⟨Qc, Qk, Qx, Qy⟩ := hSw; (with_reducible refine pexec_load 26 (.tmp 6) ?_ (w.heap.size + 1) ?_ 26 #[.int .i64 k.kind, .int .i64 k.len, .int .u64 k.h, .int .u64 k.l, .string ⟨k.path.toArray⟩] _ Qk Tryz.underlying26 ?_ ?_) <;> first | rfl | exact infoKe)
 refine wpAnyH_ready (rs := [3]) (by kernel_rfl) (by simp) ?_
 refine AllReadyH.cons (o := ⟨some 32, .call { callee := .value (.func 11), args := #[.tmp 31], argTypes := #[26] }, 9, _, _, _⟩) rfl (fun K hK => ?_) AllReadyH.nil
 (go_simp; (refine (H3 _ hb0).mono ?_); (rintro e wz ⟨rfl, hb⟩); (replace Rc := Rc.later hb); (replace Rk := Rk.later hb); (replace Rx := Rx.later hb); (replace Ry := Ry.later hb); (replace hb0 := below_step hb0 hb); go_wp2_with fail)
 refine hK.out _ _ ?hSr1_5_3 fun _ => ?_
 case hSr1_5_3 => (exact kr hb (kr hb (kr hb ((·.later hb)))) hH)
 clear hK K hH; rename_i hH
 rename World => wq
 (try simp only [Act.put, nz1, nz2, nz3])
 refine wpAnyH_ready (rs := [5]) (by kernel_rfl) (by simp) ?_
 refine AllReadyH.cons (o := ⟨some 34, .call { callee := .value (.func 12), args := #[.tmp 33], argTypes := #[26] }, 9, _, _, _⟩) rfl (fun K hK => ?_) AllReadyH.nil
 (go_simp; (refine (H4 _ hb0).mono ?_); (rintro e wz ⟨rfl, hb⟩); (replace Rc := Rc.later hb); (replace Rk := Rk.later hb); (replace Rx := Rx.later hb); (replace Ry := Ry.later hb); (replace hb0 := below_step hb0 hb); go_wp2_with fail)
 refine hK.out _ _ ?hSr1_6_5 fun _ => ?_
 case hSr1_6_5 => (exact kr hb (kr hb (kr hb ((·.later hb)))) hH)
 clear hK K hH; rename_i hH
 rename World => wq
 (try simp only [Act.put, nz1, nz2, nz3])
 refine tk 6 ⟨some 35, .binOp .eql 9 (.tmp 32) (.tmp 34) 9, 4, _, _, _⟩ hH ?_
 refine tk 7 ⟨some 36, .pick (.tmp 30) (.tmp 35) (.const (.bool false)), 4, _, _, _⟩ hH ?_
 refine tk 8 ⟨some 37, .move (.tmp 36), 4, _, _, _⟩ hH ?_
 refine tk 9 ⟨some 38, .load 23 (.tmp 4), 23, _, _, _⟩ hH ?_ (v := ?vr1_10_9) (hy := ?yr1_10_9)
 case yr1_10_9 => (intro wy hSw; obtain ⟨Qc, Qk, Qx, Qy⟩ := hSw; (with_reducible refine pexec_load 23 (.tmp 4) ?_ w.heap.size ?_ 23 #[.int .i64 d.kind, .int .i64 d.side, .int .i64 d.step] _ Qc Tryz.underlying23 ?_ ?_) <;> first | rfl | exact infoDm)
 refine tk 10 ⟨some 39, .move (.tmp 1), 3, _, _, _⟩ hH ?_
 refine tk 11 ⟨some 40, .load 26 (.tmp 6), 26, _, _, _⟩ hH ?_ (v := ?vr1_12_11) (hy := ?yr1_12_11)
 case yr1_12_11 => (intro wy hSw; obtain ⟨Qc, Qk, Qx, Qy⟩ := hSw; (with_reducible refine pexec_load 26 (.tmp 6) ?_ (w.heap.size + 1) ?_ 26 #[.int .i64 k.kind, .int .i64 k.len, .int .u64 k.h, .int .u64 k.l, .string ⟨k.path.toArray⟩] _ Qk Tryz.underlying26 ?_ ?_) <;> first | rfl | exact infoKe)
 refine tk 13 ⟨some 42, .load 23 (.tmp 4), 23, _, _, _⟩ hH ?_ (v := ?vr1_13_13) (hy := ?yr1_13_13)
 case yr1_13_13 => (intro wy hSw; obtain ⟨Qc, Qk, Qx, Qy⟩ := hSw; (with_reducible refine pexec_load 23 (.tmp 4) ?_ w.heap.size ?_ 23 #[.int .i64 d.kind, .int .i64 d.side, .int .i64 d.step] _ Qc Tryz.underlying23 ?_ ?_) <;> first | rfl | exact infoDm)
 refine tk 14 ⟨some 43, .move (.tmp 1), 3, _, _, _⟩ hH ?_
 refine tk 15 ⟨some 44, .load 26 (.tmp 6), 26, _, _, _⟩ hH ?_ (v := ?vr1_15_15) (hy := ?yr1_15_15)
 case yr1_15_15 => (intro wy hSw; obtain ⟨Qc, Qk, Qx, Qy⟩ := hSw; (with_reducible refine pexec_load 26 (.tmp 6) ?_ (w.heap.size + 1) ?_ 26 #[.int .i64 k.kind, .int .i64 k.len, .int .u64 k.h, .int .u64 k.l, .string ⟨k.path.toArray⟩] _ Qk Tryz.underlying26 ?_ ?_) <;> first | rfl | exact infoKe)
 refine wpAnyH_ready (rs := [12]) (by kernel_rfl) (by simp) ?_
 refine AllReadyH.cons (o := ⟨some 41, .call { callee := .value (.func 13), args := #[.tmp 38, .tmp 39, .tmp 40], argTypes := #[23, 3, 26] }, 9, _, _, _⟩) rfl (fun K hK => ?_) AllReadyH.nil
 (go_simp; (refine (H5 _ hb0).mono ?_); (rintro e wz ⟨rfl, hb⟩); (replace Rc := Rc.later hb); (replace Rk := Rk.later hb); (replace Rx := Rx.later hb); (replace Ry := Ry.later hb); (replace hb0 := below_step hb0 hb); go_wp2_with fail)
 refine hK.out _ _ ?hSr1_16_12 fun _ => ?_
 case hSr1_16_12 => (exact kr hb (kr hb (kr hb ((·.later hb)))) hH)
 clear hK K hH; rename_i hH
 rename World => wq
 (try simp only [Act.put, nz1, nz2, nz3])
 refine wpAnyH_ready (rs := [16]) (by kernel_rfl) (by simp) ?_
 refine AllReadyH.cons (o := ⟨some 45, .call { callee := .value (.func 14), args := #[.tmp 42, .tmp 43, .tmp 44], argTypes := #[23, 3, 26] }, 9, _, _, _⟩) rfl (fun K hK => ?_) AllReadyH.nil
 (go_simp; (refine (H6 _ hb0).mono ?_); (rintro e wz ⟨rfl, hb⟩); (replace Rc := Rc.later hb); (replace Rk := Rk.later hb); (replace Rx := Rx.later hb); (replace Ry := Ry.later hb); (replace hb0 := below_step hb0 hb); go_wp2_with fail)
 refine hK.out _ _ ?hSr1_17_16 fun _ => ?_
 case hSr1_17_16 => (exact kr hb (kr hb (kr hb ((·.later hb)))) hH)
 clear hK K hH; rename_i hH
 rename World => wq
 (try simp only [Act.put, nz1, nz2, nz3])
 refine tk 17 ⟨some 46, .binOp .eql 9 (.tmp 41) (.tmp 45) 9, 4, _, _, _⟩ hH ?_
 refine tk 18 ⟨some 47, .pick (.tmp 37) (.tmp 46) (.const (.bool false)), 4, _, _, _⟩ hH ?_
 refine tk 19 ⟨some 48, .move (.tmp 47), 4, _, _, _⟩ hH ?_
 refine tk 20 ⟨some 49, .move (.tmp 9), 3, _, _, _⟩ hH ?_
 refine tk 21 ⟨some 50, .move (.tmp 12), 3, _, _, _⟩ hH ?_
 refine tk 22 ⟨some 51, .binOp .eql 3 (.tmp 49) (.tmp 50) 3, 4, _, _, _⟩ hH ?_
 refine tk 23 ⟨some 52, .pick (.tmp 48) (.tmp 51) (.const (.bool false)), 4, _, _, _⟩ hH ?_
 refine tk 24 ⟨some 53, .move (.tmp 52), 4, _, _, _⟩ hH ?_
 refine tk 25 ⟨some 54, .load 26 (.tmp 10), 26, _, _, _⟩ hH ?_ (v := ?vr1_26_25) (hy := ?yr1_26_25)
 case yr1_26_25 => (intro wy hSw; obtain ⟨Qc, Qk, Qx, Qy⟩ := hSw; (with_reducible refine pexec_load 26 (.tmp 10) ?_ gx ?_ 26 #[.int .i64 x.kind, .int .i64 x.len, .int .u64 x.h, .int .u64 x.l, .string ⟨x.path.toArray⟩] _ Qx Tryz.underlying26 ?_ ?_) <;> first | rfl | exact infoKe)
 refine tk 26 ⟨some 55, .load 26 (.tmp 13), 26, _, _, _⟩ hH ?_ (v := ?vr1_27_26) (hy := ?yr1_27_26)
 case yr1_27_26 => (intro wy hSw; obtain ⟨Qc, Qk, Qx, Qy⟩ := hSw; (with_reducible refine pexec_load 26 (.tmp 13) ?_ w2.heap.size ?_ 26 #[.int .i64 x.kind, .int .i64 x.len, .int .u64 x.h, .int .u64 x.l, .string ⟨x.path.toArray⟩] _ Qy Tryz.underlying26 ?_ ?_) <;> first | rfl | exact infoKe)
 refine tk 27 ⟨some 56, .binOp .eql 26 (.tmp 54) (.tmp 55) 26, 4, _, _, _⟩ hH ?_
 refine tk 28 ⟨some 57, .pick (.tmp 53) (.tmp 56) (.const (.bool false)), 4, _, _, _⟩ hH ?_
 refine tk 29 ⟨some 58, .move (.tmp 57), 4, _, _, _⟩ hH ?_
 refine tk 30 ⟨some 59, .move (.tmp 11), 27, _, _, _⟩ hH ?_
 refine tk 31 ⟨some 60, .move (.tmp 14), 27, _, _, _⟩ hH ?_
 refine tk 32 ⟨some 61, .binOp .eql 27 (.tmp 59) (.tmp 60) 27, 4, _, _, _⟩ hH ?_
 refine tk 33 ⟨some 62, .pick (.tmp 58) (.tmp 61) (.const (.bool false)), 4, _, _, _⟩ hH ?_
 refine tk 34 ⟨some 8, .assign (.tmp 62), 4, _, _, _⟩ hH ?_
 refine wpAnyH_done (by kernel_rfl) ?_ _
 clear hH
 rename World => w4
 have lc := Rc.lt
 have lk := Rk.lt
 have lx := Rx.lt
 have ly := Ry.lt
 (try clear c0 c1 c2); obtain ⟨c0, c1, c2⟩ := row3 Rc
 (try clear k0 k1 k2 k3 k4); obtain ⟨k0, k1, k2, k3, k4⟩ := row5 Rk
 (try clear x0 x1 x2 x3 x4); obtain ⟨x0, x1, x2, x3, x4⟩ := row5 Rx
 (try clear y0 y1 y2 y3 y4); obtain ⟨y0, y1, y2, y3, y4⟩ := row5 Ry
 go_wp2
 exact bodyPost_ret (v := .bool true) (by simp [results, Tryz.results3, go_sem]) rfl ⟨rfl, hb0⟩
theorem lawTextParts (d : Dm) (lv : Int) (k : Ke) (ok : k.ok) (t : List UInt8) (hl : t.length ≤ 2000000) (w : World) (hE : Env6 w) : Calls Tryz.prog 3 #[dv d, .int .i64 lv, kv k, .string ⟨t.toArray⟩] w fun e w' => e = .returned (.bool true) ∧ Below w.heap.size w w' :=
 lparts d lv k _ _ _ _ _ _ w (fun w' hb => alive11_t w' (hE.later hb)) (fun w' hb => ppart_t d t hl w' (hE.e.later hb)) (fun w' _ => rppart_t d t hl w') (fun w' hb => word_t k ok w' (hE.later hb)) (fun w' _ => rword_t k ok w') (fun w' hb => part_t d lv k ok w' (hE.later hb)) (fun w' _ => rpart_t d lv k ok w')
end Go.Proofs.YtboinifeemghaaaGreatDoor
