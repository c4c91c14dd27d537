/- LawTextPrints: what the theorem needs of these texts. No conditions beyond those that are written. -/
import Derived.Test.YtboinifeemghaaaGreatDoorAJT9
set_option linter.unusedSimpArgs false
set_option linter.unusedVariables false
set_option maxHeartbeats 1600000
set_option maxRecDepth 100000
namespace Go.Proofs.YtboinifeemghaaaGreatDoor
open Go.RowKit
theorem eql_px_self (p : Px) (w : World) : (binOp .eql 40 (pv p) (pv p)).run Tryz.prog w = .ok (.bool true) w := by
 have h := eql_px p p w
 rwa [decide_eq_true rfl] at h
theorem neq_px_self (p : Px) (w : World) : (binOp .neq 40 (pv p) (pv p)).run Tryz.prog w = .ok (.bool false) w := by
 have h := neq_px p p w
 rwa [decide_eq_true rfl] at h
theorem lprints (s : Sp) (p : Px) (X : ByteArray) (w : World)
  (HA : ∀ w', Below w.heap.size w w' → Calls Tryz.prog 10 #[] w' fun e w'' => e = .returned (.bool true) ∧ Below w'.heap.size w' w'')
  (H1 : ∀ w', Below w.heap.size w w' → Calls Tryz.prog 15 #[sv s, pv p] w' fun e w'' => e = .returned (.string X) ∧ Below w'.heap.size w' w'')
  (H2 : ∀ w', Below w.heap.size w w' → Calls Tryz.prog 16 #[sv s, pv p] w' fun e w'' => e = .returned (.string X) ∧ Below w'.heap.size w' w'')
  : Calls Tryz.prog 4 #[sv s, pv p] w fun e w' => e = .returned (.bool true) ∧ Below w.heap.size w w' := by
 unfold sv pv at *
 obtain ⟨Rc, Rd, hb0⟩ := two_rows w #[.int .i64 s.n, .int .i64 s.d0.kind, .int .i64 s.d0.side, .int .i64 s.d0.step, .int .i64 s.d1.kind, .int .i64 s.d1.side, .int .i64 s.d1.step] #[.int .i64 p.a0, .int .i64 p.a1, .int .i64 p.k0.kind, .int .i64 p.k0.len, .int .u64 p.k0.h, .int .u64 p.k0.l, .string ⟨p.k0.path.toArray⟩, .int .i64 p.k1.kind, .int .i64 p.k1.len, .int .u64 p.k1.h, .int .u64 p.k1.l, .string ⟨p.k1.path.toArray⟩] 36 40
 (try clear c0 c1 c2 c3 c4 c5 c6); obtain ⟨c0, c1, c2, c3, c4, c5, c6⟩ := row7 Rc
 (try clear d0 d1 d2 d3 d4 d5 d6 d7 d8 d9 d10 d11); obtain ⟨d0, d1, d2, d3, d4, d5, d6, d7, d8, d9, d10, d11⟩ := row12 Rd
 go_enter Tryz.func4, Tryz.ntmps4
 go_wp2_with fail
 refine wp_region_held_drew (S := (fun w' => Row w' w.heap.size #[.int .i64 s.n, .int .i64 s.d0.kind, .int .i64 s.d0.side, .int .i64 s.d0.step, .int .i64 s.d1.kind, .int .i64 s.d1.side, .int .i64 s.d1.step] 36 ∧ Row w' (w.heap.size + 1) #[.int .i64 p.a0, .int .i64 p.a1, .int .i64 p.k0.kind, .int .i64 p.k0.len, .int .u64 p.k0.h, .int .u64 p.k0.l, .string ⟨p.k0.path.toArray⟩, .int .i64 p.k1.kind, .int .i64 p.k1.len, .int .u64 p.k1.h, .int .u64 p.k1.l, .string ⟨p.k1.path.toArray⟩] 40)) (by kernel_rfl) ?hSr1_ (fun hH => ?_)
 case hSr1_ => (exact ⟨Rc.drew, Rd.drew⟩)
 (clear c0 c1 c2 c3 c4 c5 c6 d0 d1 d2 d3 d4 d5 d6 d7 d8 d9 d10 d11; (replace Rc := Rc.drew); (replace Rd := Rd.drew); (replace hb0 := hb0.drew); (generalize World.drew _ = wq at *))
 refine wpAnyH_ready (rs := [0]) (by kernel_rfl) (by simp) ?_
 refine AllReadyH.cons (o := ⟨some 5, .call { callee := .value (.func 10), args := #[], argTypes := #[] }, 4, _, _, _⟩) rfl (fun K hK => ?_) AllReadyH.nil
 (go_simp; (refine (HA _ hb0).mono ?_); (rintro e wz ⟨rfl, hb⟩); (replace Rc := Rc.later hb); (replace Rd := Rd.later hb); (replace hb0 := below_step hb0 hb); go_wp2_with fail)
 refine hK.out _ _ ?hSr1_1_0 fun _ => ?_
 case hSr1_1_0 => (exact kr hb ((·.later hb)) hH)
 clear hK K hH; rename_i hH
 rename World => wq
 (try simp only [Act.put, nz1, nz2, nz3])
 refine tk 1 ⟨some 6, .move (.tmp 5), 4, _, _, _⟩ hH ?_
 refine tk 2 ⟨some 7, .load 36 (.tmp 2), 36, _, _, _⟩ hH ?_ (v := ?vr1_3_2) (hy := ?yr1_3_2)
 case yr1_3_2 => (intro wy hSw; obtain ⟨Qc, Qd⟩ := hSw; (with_reducible refine pexec_load 36 (.tmp 2) ?_ w.heap.size ?_ 36 #[.int .i64 s.n, .int .i64 s.d0.kind, .int .i64 s.d0.side, .int .i64 s.d0.step, .int .i64 s.d1.kind, .int .i64 s.d1.side, .int .i64 s.d1.step] _ Qc Tryz.underlying36 ?_ ?_) <;> first | rfl | exact infoSp)
 refine tk 3 ⟨some 8, .load 40 (.tmp 3), 40, _, _, _⟩ hH ?_ (v := ?vr1_4_3) (hy := ?yr1_4_3)
 case yr1_4_3 => (intro wy hSw; obtain ⟨Qc, Qd⟩ := hSw; (with_reducible refine pexec_load 40 (.tmp 3) ?_ (w.heap.size + 1) ?_ 40 #[.int .i64 p.a0, .int .i64 p.a1, .int .i64 p.k0.kind, .int .i64 p.k0.len, .int .u64 p.k0.h, .int .u64 p.k0.l, .string ⟨p.k0.path.toArray⟩, .int .i64 p.k1.kind, .int .i64 p.k1.len, .int .u64 p.k1.h, .int .u64 p.k1.l, .string ⟨p.k1.path.toArray⟩] _ Qd Tryz.underlying40 ?_ ?_) <;> first | rfl | exact infoPx)
 refine tk 5 ⟨some 10, .load 36 (.tmp 2), 36, _, _, _⟩ hH ?_ (v := ?vr1_5_5) (hy := ?yr1_5_5)
 case yr1_5_5 => (intro wy hSw; obtain ⟨Qc, Qd⟩ := hSw; (with_reducible refine pexec_load 36 (.tmp 2) ?_ w.heap.size ?_ 36 #[.int .i64 s.n, .int .i64 s.d0.kind, .int .i64 s.d0.side, .int .i64 s.d0.step, .int .i64 s.d1.kind, .int .i64 s.d1.side, .int .i64 s.d1.step] _ Qc Tryz.underlying36 ?_ ?_) <;> first | rfl | exact infoSp)
 refine tk 6 ⟨some 11, .load 40 (.tmp 3), 40, _, _, _⟩ hH ?_ (v := ?vr1_6_6) (hy := ?yr1_6_6)
 case yr1_6_6 => (intro wy hSw; obtain ⟨Qc, Qd⟩ := hSw; (with_reducible refine pexec_load 40 (.tmp 3) ?_ (w.heap.size + 1) ?_ 40 #[.int .i64 p.a0, .int .i64 p.a1, .int .i64 p.k0.kind, .int .i64 p.k0.len, .int .u64 p.k0.h, .int .u64 p.k0.l, .string ⟨p.k0.path.toArray⟩, .int .i64 p.k1.kind, .int .i64 p.k1.len, .int .u64 p.k1.h, .int .u64 p.k1.l, .string ⟨p.k1.path.toArray⟩] _ Qd Tryz.underlying40 ?_ ?_) <;> first | rfl | exact infoPx)
 refine wpAnyH_ready (rs := [4]) (by kernel_rfl) (by simp) ?_
 refine AllReadyH.cons (o := ⟨some 9, .call { callee := .value (.func 15), args := #[.tmp 7, .tmp 8], argTypes := #[36, 40] }, 9, _, _, _⟩) rfl (fun K hK => ?_) AllReadyH.nil
 (go_simp; (refine (H1 _ hb0).mono ?_); (rintro e wz ⟨rfl, hb⟩); (replace Rc := Rc.later hb); (replace Rd := Rd.later hb); (replace hb0 := below_step hb0 hb); go_wp2_with fail)
 refine hK.out _ _ ?hSr1_7_4 fun _ => ?_
 case hSr1_7_4 => (exact kr hb ((·.later hb)) hH)
 clear hK K hH; rename_i hH
 rename World => wq
 (try simp only [Act.put, nz1, nz2, nz3])
 refine wpAnyH_ready (rs := [7]) (by kernel_rfl) (by simp) ?_
 refine AllReadyH.cons (o := ⟨some 12, .call { callee := .value (.func 16), args := #[.tmp 10, .tmp 11], argTypes := #[36, 40] }, 9, _, _, _⟩) rfl (fun K hK => ?_) AllReadyH.nil
 (go_simp; (refine (H2 _ hb0).mono ?_); (rintro e wz ⟨rfl, hb⟩); (replace Rc := Rc.later hb); (replace Rd := Rd.later hb); (replace hb0 := below_step hb0 hb); go_wp2_with fail)
 refine hK.out _ _ ?hSr1_8_7 fun _ => ?_
 case hSr1_8_7 => (exact kr hb ((·.later hb)) hH)
 clear hK K hH; rename_i hH
 rename World => wq
 (try simp only [Act.put, nz1, nz2, nz3])
 refine tk 8 ⟨some 13, .binOp .eql 9 (.tmp 9) (.tmp 12) 9, 4, _, _, _⟩ hH ?_
 refine tk 9 ⟨some 14, .pick (.tmp 6) (.tmp 13) (.const (.bool false)), 4, _, _, _⟩ hH ?_
 refine tk 10 ⟨some 4, .assign (.tmp 14), 4, _, _, _⟩ hH ?_
 refine wpAnyH_done (by kernel_rfl) ?_ _
 clear hH
 rename World => w1
 have lc := Rc.lt
 have ld := Rd.lt
 (try clear c0 c1 c2 c3 c4 c5 c6); obtain ⟨c0, c1, c2, c3, c4, c5, c6⟩ := row7 Rc
 (try clear d0 d1 d2 d3 d4 d5 d6 d7 d8 d9 d10 d11); obtain ⟨d0, d1, d2, d3, d4, d5, d6, d7, d8, d9, d10, d11⟩ := row12 Rd
 go_wp2
 exact bodyPost_ret (v := .bool true) (by simp [results, Tryz.results4, go_sem]) rfl ⟨rfl, hb0⟩
theorem lawTextPrints (s : Sp) (p : Px) (ok : p.ok) (w : World) (hE : Env6 w) : Calls Tryz.prog 4 #[sv s, pv p] w fun e w' => e = .returned (.bool true) ∧ Below w.heap.size w w' :=
 lprints s p _ w (fun w' hb => alive11_t w' (hE.later hb)) (fun w' hb => print_t s p ok w' (hE.later hb)) (fun w' _ => rprint11_t s p ok w')
end Go.Proofs.YtboinifeemghaaaGreatDoor
