/- LawGridOver: what the theorem needs of these texts. No conditions beyond those that are written. -/
import Derived.Test.YtbekocknfpekoaaGA
import Derived.Test.YtbekocknfpekoaaGD
namespace Go.Proofs.Ytbekocknfpekoaa
set_option linter.unusedVariables false
set_option linter.unusedSimpArgs false
open Go.RowKit
set_option maxRecDepth 100000 in
set_option maxHeartbeats 64000000 in
theorem gridOver_w (s : Sp) (p q : Px) (N : Nat) (L : List Px)
    (HL : ∀ w, Calls Try.prog 47 #[sv s, pv p] w fun e w' => ∃ p c, e = .returned (.slice p N c) ∧ XS w' (.slice p N c) L ∧ Below w.heap.size w w')
    (hN : L.length = N) (hN6 : N ≤ 100000)
    (HOv : ∀ u, u ∈ L → ∀ w, Calls Try.prog 28 #[sv s, pv u, pv p] w fun e w' => e = .returned (.bool true) ∧ Below w.heap.size w w')
    (fb : Nat → Bool) (hf0 : fb 0 = false)
    (hfs : ∀ (i : Nat) u, L[i]? = some u → fb (i + 1) = (fb i || decide (u = q)))
    (pl : Px → Int) (HPl : ∀ u, u ∈ L → ∀ w, Calls Try.prog 43 #[sv s, rv u.a0 u.a1] w fun e w' => e = .returned (.int .i64 (pl u)) ∧ Below w.heap.size w w')
    (hpl : ∀ (k : Nat) u v, L[k]? = some u → L[k + 1]? = some v → pl u < pl v)
    (HO : ∀ w, Calls Try.prog 28 #[sv s, pv q, pv p] w fun e w' => e = .returned (.bool (fb N)) ∧ Below w.heap.size w w')
    (r : Bool) (HR : ∀ w, Calls Try.prog 20 #[sv s, pv p] w fun e w' => e = .returned (.bool r) ∧ Below w.heap.size w w') (hr : decide ((0 : Int) < (N : Int)) = r) (w : World) :
    Calls Try.prog 14 #[sv s, pv p, pv q] w fun e w' => e = .returned (.bool true) ∧ Below w.heap.size w w' := by
  have HA := alive10_t
  have HX := Lib.hid (And.intro hN (And.intro HOv (And.intro hfs (And.intro HPl (And.intro hpl (And.intro HO (And.intro HR hr)))))))
  clear hN HOv hfs HPl hpl HO HR hr
  have qeq := fun u w1 => eql_px u q w1
  have QE := Lib.hid qeq
  clear qeq
  unfold sv at HL HX ⊢
  unfold pv at *
  (try unfold rv at HX)
  obtain ⟨Rs, Rp, Rq, hb0⟩ := three_rows w #[.int .i64 s.n, .int .i64 s.d0.kind, .int .i64 s.d0.side, .int .i64 s.d0.step, .int .i64 s.d1.kind, .int .i64 s.d1.side, .int .i64 s.d1.step] #[.int .i64 p.a0, .int .i64 p.a1, .int .i64 p.k0.kind, .int .i64 p.k0.len, .int .u64 p.k0.h, .int .u64 p.k0.l, .string ⟨p.k0.path.toArray⟩, .int .i64 p.k1.kind, .int .i64 p.k1.len, .int .u64 p.k1.h, .int .u64 p.k1.l, .string ⟨p.k1.path.toArray⟩] #[.int .i64 q.a0, .int .i64 q.a1, .int .i64 q.k0.kind, .int .i64 q.k0.len, .int .u64 q.k0.h, .int .u64 q.k0.l, .string ⟨q.k0.path.toArray⟩, .int .i64 q.k1.kind, .int .i64 q.k1.len, .int .u64 q.k1.h, .int .u64 q.k1.l, .string ⟨q.k1.path.toArray⟩] 26 33 33
  (try clear s0 s1 s2 s3 s4 s5 s6); obtain ⟨s0, s1, s2, s3, s4, s5, s6⟩ := row7 Rs
  (try clear p0 p1 p2 p3 p4 p5 p6 p7 p8 p9 p10 p11); obtain ⟨p0, p1, p2, p3, p4, p5, p6, p7, p8, p9, p10, p11⟩ := row12 Rp
  (try clear q0 q1 q2 q3 q4 q5 q6 q7 q8 q9 q10 q11); obtain ⟨q0, q1, q2, q3, q4, q5, q6, q7, q8, q9, q10, q11⟩ := row12 Rq
  go_enter Try.func14, Try.ntmps14
  go_wp2_with fail
  refine (HL _).mono ?_
  rintro e wN ⟨pa, ca, rfl, T, hb⟩
  have HB := Lib.hid (below_step hb0 hb)
  have HT := Lib.hid T
  have HR0 := Lib.hid (And.intro (Rs.later hb) (And.intro (Rp.later hb) (Rq.later hb)))
  have Hf0 := Lib.hid hf0
  clear Rs Rp Rq hb0 hb T hf0 HL s0 s1 s2 s3 s4 s5 s6 p0 q0 p1 q1 p2 q2 p3 q3 p4 q4 p5 q5 p6 q6 p7 q7 p8 q8 p9 q9 p10 q10 p11 q11
  go_wp2_with fail
  go_loopw [9, 8] (fun iv fv wr => ∃ i : Nat, iv = .int .i64 (i : Int) ∧ fv = .bool (fb i) ∧ i ≤ N ∧ Hid (XS wr (.slice pa N ca) L) ∧ Hid (Below w.heap.size w wr) ∧ Hid (Row wr w.heap.size #[.int .i64 s.n, .int .i64 s.d0.kind, .int .i64 s.d0.side, .int .i64 s.d0.step, .int .i64 s.d1.kind, .int .i64 s.d1.side, .int .i64 s.d1.step] 26 ∧ Row wr (w.heap.size + 1) #[.int .i64 p.a0, .int .i64 p.a1, .int .i64 p.k0.kind, .int .i64 p.k0.len, .int .u64 p.k0.h, .int .u64 p.k0.l, .string ⟨p.k0.path.toArray⟩, .int .i64 p.k1.kind, .int .i64 p.k1.len, .int .u64 p.k1.h, .int .u64 p.k1.l, .string ⟨p.k1.path.toArray⟩] 33 ∧ Row wr (w.heap.size + 2) #[.int .i64 q.a0, .int .i64 q.a1, .int .i64 q.k0.kind, .int .i64 q.k0.len, .int .u64 q.k0.h, .int .u64 q.k0.l, .string ⟨q.k0.path.toArray⟩, .int .i64 q.k1.kind, .int .i64 q.k1.len, .int .u64 q.k1.h, .int .u64 q.k1.l, .string ⟨q.k1.path.toArray⟩] 33)) (fun iv _ _ => N - (intOf iv).toNat)
  case atStart => exact ⟨0, rfl, by rw [Hf0.out], Nat.zero_le _, HT, HB, HR0⟩
  case round =>
    clear HT HB HR0
    obtain ⟨i, rfl, rfl, hi, hT, hB, hR⟩ := hrel
    by_cases hlt : i < N
    · have hlt' : (i : Int) < (N : Int) := by omega
      have wi : IntKind.i64.wrap ((i : Int) + 1) = (i : Int) + 1 := IntWalk.i64_in _ (by omega)
      obtain ⟨u, hL⟩ : ∃ q', L[i]? = some q' := ⟨_, List.getElem?_eq_getElem (by rw [HX.out.1]; omega)⟩
      have hmem := List.mem_of_getElem? hL
      have HOvu := HX.out.2.1 u hmem
      have hstep := HX.out.2.2.1 i u hL
      have HPu := HX.out.2.2.2.1 u hmem
      have qe := QE.out u
      have hstx := Lib.hid hstep
      clear hstep
      have hLx := Lib.hid hL
      have Rs := hR.out.1
      have Rp := hR.out.2.1
      have Rq := hR.out.2.2
      clear hR
      (try clear s0 s1 s2 s3 s4 s5 s6); obtain ⟨s0, s1, s2, s3, s4, s5, s6⟩ := row7 Rs
      (try clear p0 p1 p2 p3 p4 p5 p6 p7 p8 p9 p10 p11); obtain ⟨p0, p1, p2, p3, p4, p5, p6, p7, p8, p9, p10, p11⟩ := row12 Rp
      (try clear q0 q1 q2 q3 q4 q5 q6 q7 q8 q9 q10 q11); obtain ⟨q0, q1, q2, q3, q4, q5, q6, q7, q8, q9, q10, q11⟩ := row12 Rq
      have ls := Rs.lt
      have lp := Rp.lt
      have lq := Rq.lt
      generalize hfi : fb i = bi at *
      have hfx := Lib.hid hfi
      clear hfi
      obtain ⟨_, _, ez, _, hz⟩ := xs_read hT.out
      rw [HX.out.1] at ez
      cases ez
      obtain ⟨zg, zo, rfl, zlt, zcell⟩ := hz (by rw [HX.out.1]; omega)
      have z0 : wr.cell? ⟨zg, zo + i * 12, none⟩ = some (Value.int .i64 u.a0) := by have h := zcell i u hL 0 _ rfl; rw [show zo + (i * 12 + 0) = zo + i * 12 by omega] at h; exact h
      have z1 : wr.cell? ⟨zg, zo + i * 12 + 1, none⟩ = some (Value.int .i64 u.a1) := by have h := zcell i u hL 1 _ rfl; rw [show zo + (i * 12 + 1) = zo + i * 12 + 1 by omega] at h; exact h
      have z2 : wr.cell? ⟨zg, zo + i * 12 + 2, none⟩ = some (Value.int .i64 u.k0.kind) := by have h := zcell i u hL 2 _ rfl; rw [show zo + (i * 12 + 2) = zo + i * 12 + 2 by omega] at h; exact h
      have z3 : wr.cell? ⟨zg, zo + i * 12 + 3, none⟩ = some (Value.int .i64 u.k0.len) := by have h := zcell i u hL 3 _ rfl; rw [show zo + (i * 12 + 3) = zo + i * 12 + 3 by omega] at h; exact h
      have z4 : wr.cell? ⟨zg, zo + i * 12 + 4, none⟩ = some (Value.int .u64 u.k0.h) := by have h := zcell i u hL 4 _ rfl; rw [show zo + (i * 12 + 4) = zo + i * 12 + 4 by omega] at h; exact h
      have z5 : wr.cell? ⟨zg, zo + i * 12 + 5, none⟩ = some (Value.int .u64 u.k0.l) := by have h := zcell i u hL 5 _ rfl; rw [show zo + (i * 12 + 5) = zo + i * 12 + 5 by omega] at h; exact h
      have z6 : wr.cell? ⟨zg, zo + i * 12 + 6, none⟩ = some (Value.string ⟨u.k0.path.toArray⟩) := by have h := zcell i u hL 6 _ rfl; rw [show zo + (i * 12 + 6) = zo + i * 12 + 6 by omega] at h; exact h
      have z7 : wr.cell? ⟨zg, zo + i * 12 + 7, none⟩ = some (Value.int .i64 u.k1.kind) := by have h := zcell i u hL 7 _ rfl; rw [show zo + (i * 12 + 7) = zo + i * 12 + 7 by omega] at h; exact h
      have z8 : wr.cell? ⟨zg, zo + i * 12 + 8, none⟩ = some (Value.int .i64 u.k1.len) := by have h := zcell i u hL 8 _ rfl; rw [show zo + (i * 12 + 8) = zo + i * 12 + 8 by omega] at h; exact h
      have z9 : wr.cell? ⟨zg, zo + i * 12 + 9, none⟩ = some (Value.int .u64 u.k1.h) := by have h := zcell i u hL 9 _ rfl; rw [show zo + (i * 12 + 9) = zo + i * 12 + 9 by omega] at h; exact h
      have z10 : wr.cell? ⟨zg, zo + i * 12 + 10, none⟩ = some (Value.int .u64 u.k1.l) := by have h := zcell i u hL 10 _ rfl; rw [show zo + (i * 12 + 10) = zo + i * 12 + 10 by omega] at h; exact h
      have z11 : wr.cell? ⟨zg, zo + i * 12 + 11, none⟩ = some (Value.string ⟨u.k1.path.toArray⟩) := by have h := zcell i u hL 11 _ rfl; rw [show zo + (i * 12 + 11) = zo + i * 12 + 11 by omega] at h; exact h
      go_upto_region 6 with fail
      go_cut [48] (fun s48 wx => s48 = .bool false ∧ XS wx (.slice (some ⟨zg, zo, none⟩) N ca) L ∧ Row wx w.heap.size #[.int .i64 s.n, .int .i64 s.d0.kind, .int .i64 s.d0.side, .int .i64 s.d0.step, .int .i64 s.d1.kind, .int .i64 s.d1.side, .int .i64 s.d1.step] 26 ∧ Row wx (w.heap.size + 1) #[.int .i64 p.a0, .int .i64 p.a1, .int .i64 p.k0.kind, .int .i64 p.k0.len, .int .u64 p.k0.h, .int .u64 p.k0.l, .string ⟨p.k0.path.toArray⟩, .int .i64 p.k1.kind, .int .i64 p.k1.len, .int .u64 p.k1.h, .int .u64 p.k1.l, .string ⟨p.k1.path.toArray⟩] 33 ∧ Row wx (w.heap.size + 1 + 1) #[.int .i64 q.a0, .int .i64 q.a1, .int .i64 q.k0.kind, .int .i64 q.k0.len, .int .u64 q.k0.h, .int .u64 q.k0.l, .string ⟨q.k0.path.toArray⟩, .int .i64 q.k1.kind, .int .i64 q.k1.len, .int .u64 q.k1.h, .int .u64 q.k1.l, .string ⟨q.k1.path.toArray⟩] 33 ∧ Below w.heap.size w wx)
      case first =>
        have hb0 := Below.refl wr.heap.size wr
        by_cases i0 : i = 0
        · have i1 : ¬ (0 : Int) < (i : Int) := by omega
          have i1' : decide ((0 : Int) < (i : Int)) = false := decide_eq_false i1
          have i2 : ¬ 0 < i := by omega
          have i2' : decide (0 < i) = false := decide_eq_false i2
          clear i0
          refine wp_region_held_drew (S := (fun w' => w'.cell? ⟨zg, zo + i * 12, none⟩ = some (Value.int .i64 u.a0) ∧ w'.cell? ⟨zg, zo + i * 12 + 1, none⟩ = some (Value.int .i64 u.a1) ∧ w'.cell? ⟨zg, zo + i * 12 + 2, none⟩ = some (Value.int .i64 u.k0.kind) ∧ w'.cell? ⟨zg, zo + i * 12 + 3, none⟩ = some (Value.int .i64 u.k0.len) ∧ w'.cell? ⟨zg, zo + i * 12 + 4, none⟩ = some (Value.int .u64 u.k0.h) ∧ w'.cell? ⟨zg, zo + i * 12 + 5, none⟩ = some (Value.int .u64 u.k0.l) ∧ w'.cell? ⟨zg, zo + i * 12 + 6, none⟩ = some (Value.string ⟨u.k0.path.toArray⟩) ∧ w'.cell? ⟨zg, zo + i * 12 + 7, none⟩ = some (Value.int .i64 u.k1.kind) ∧ w'.cell? ⟨zg, zo + i * 12 + 8, none⟩ = some (Value.int .i64 u.k1.len) ∧ w'.cell? ⟨zg, zo + i * 12 + 9, none⟩ = some (Value.int .u64 u.k1.h) ∧ w'.cell? ⟨zg, zo + i * 12 + 10, none⟩ = some (Value.int .u64 u.k1.l) ∧ w'.cell? ⟨zg, zo + i * 12 + 11, none⟩ = some (Value.string ⟨u.k1.path.toArray⟩) ∧ Row w' w.heap.size #[.int .i64 s.n, .int .i64 s.d0.kind, .int .i64 s.d0.side, .int .i64 s.d0.step, .int .i64 s.d1.kind, .int .i64 s.d1.side, .int .i64 s.d1.step] 26 ∧ Row w' (w.heap.size + 1) #[.int .i64 p.a0, .int .i64 p.a1, .int .i64 p.k0.kind, .int .i64 p.k0.len, .int .u64 p.k0.h, .int .u64 p.k0.l, .string ⟨p.k0.path.toArray⟩, .int .i64 p.k1.kind, .int .i64 p.k1.len, .int .u64 p.k1.h, .int .u64 p.k1.l, .string ⟨p.k1.path.toArray⟩] 33)) (by kernel_rfl) ?hSr1_ (fun hHeld => ?_)
          case hSr1_ => (exact ⟨z0, z1, z2, z3, z4, z5, z6, z7, z8, z9, z10, z11, Rs.drew, Rp.drew⟩)
          (clear s0 s1 s2 s3 s4 s5 s6 p0 p1 p2 p3 p4 p5 p6 p7 p8 p9 p10 p11 q0 q1 q2 q3 q4 q5 q6 q7 q8 q9 q10 q11; (replace Rs := Rs.drew); (replace Rp := Rp.drew); (replace Rq := Rq.drew); (replace hb0 := hb0.drew); (generalize World.drew wr = wq at *))
          refine tk 0 ⟨some 19, .load 26 (.tmp 3), 26, _, _, _⟩ hHeld ?_ (v := ?vr1_1_0) (hy := ?yr1_1_0)
          case yr1_1_0 => (intro wy hSw; obtain ⟨z0, z1, z2, z3, z4, z5, z6, z7, z8, z9, z10, z11, Qs, Qp⟩ := hSw; (with_reducible refine pexec_load 26 (.tmp 3) ?_ w.heap.size ?_ 26 #[.int .i64 s.n, .int .i64 s.d0.kind, .int .i64 s.d0.side, .int .i64 s.d0.step, .int .i64 s.d1.kind, .int .i64 s.d1.side, .int .i64 s.d1.step] _ Qs Try.underlying26 ?_ ?_) <;> first | rfl | exact infoSp)
          (try simp only [Act.put, nz1, nz2, nz3])
          refine tk 1 ⟨some 20, .move (.tmp 7), 60, _, _, _⟩ hHeld ?_
          (try simp only [Act.put, nz1, nz2, nz3])
          refine tk 2 ⟨some 21, .move (.tmp 9), 3, _, _, _⟩ hHeld ?_
          (try simp only [Act.put, nz1, nz2, nz3])
          refine tk 3 ⟨some 22, .indexAddr 60 (.tmp 20) (.tmp 21), 0, _, _, _⟩ hHeld ?_
          (try simp only [Act.put, nz1, nz2, nz3])
          refine tk 4 ⟨some 23, .load 33 (.tmp 22), 33, _, _, _⟩ hHeld ?_
          (try simp only [Act.put, nz1, nz2, nz3])
          refine tk 5 ⟨some 24, .load 33 (.tmp 4), 33, _, _, _⟩ hHeld ?_ (v := ?vr1_6_5) (hy := ?yr1_6_5)
          case yr1_6_5 => (intro wy hSw; obtain ⟨z0, z1, z2, z3, z4, z5, z6, z7, z8, z9, z10, z11, Qs, Qp⟩ := hSw; (with_reducible refine pexec_load 33 (.tmp 4) ?_ (w.heap.size + 1) ?_ 33 #[.int .i64 p.a0, .int .i64 p.a1, .int .i64 p.k0.kind, .int .i64 p.k0.len, .int .u64 p.k0.h, .int .u64 p.k0.l, .string ⟨p.k0.path.toArray⟩, .int .i64 p.k1.kind, .int .i64 p.k1.len, .int .u64 p.k1.h, .int .u64 p.k1.l, .string ⟨p.k1.path.toArray⟩] _ Qp Try.underlying33 ?_ ?_) <;> first | rfl | exact infoPx)
          (try simp only [Act.put, nz1, nz2, nz3])
          refine wpAnyH_ready (rs := [6]) (by kernel_rfl) (by simp) ?_
          refine AllReadyH.cons (o := ⟨some 25, .call { callee := .value (.func 28), args := #[.tmp 19, .tmp 23, .tmp 24], argTypes := #[26, 33, 33] }, 4, _, _, _⟩) rfl (fun K hK => ?_) AllReadyH.nil
          (go_simp; (refine (HOvu _).mono ?_); (rintro e wz ⟨rfl, hb⟩); (replace Rs := Rs.later hb); (replace Rp := Rp.later hb); (replace Rq := Rq.later hb); (replace hb0 := below_step hb0 hb); go_wp2_with fail)
          refine hK.out _ _ ?hSr1_7_6 (fun hHeld2 => ?_)
          case hSr1_7_6 => (obtain ⟨z0, z1, z2, z3, z4, z5, z6, z7, z8, z9, z10, z11, Qs, Qp⟩ := hHeld; exact ⟨cell_later hb z0, cell_later hb z1, cell_later hb z2, cell_later hb z3, cell_later hb z4, cell_later hb z5, cell_later hb z6, cell_later hb z7, cell_later hb z8, cell_later hb z9, cell_later hb z10, cell_later hb z11, Qs.later hb, Qp.later hb⟩)
          clear hK K hHeld
          have hHeld := hHeld2
          clear hHeld2
          rename World => wq
          (try simp only [Act.put, nz1, nz2, nz3])
          refine tk 7 ⟨some 26, .unOp .not 4 (.tmp 25), 4, _, _, _⟩ hHeld ?_
          (try simp only [Act.put, nz1, nz2, nz3])
          refine tk 8 ⟨some 27, .move (.tmp 26), 4, _, _, _⟩ hHeld ?_
          (try simp only [Act.put, nz1, nz2, nz3])
          refine tk 9 ⟨some 28, .move (.tmp 9), 3, _, _, _⟩ hHeld ?_
          (try simp only [Act.put, nz1, nz2, nz3])
          refine tk 10 ⟨some 29, .binOp .gtr 3 (.tmp 28) (.const (.int .i64 0)) 3, 4, _, _, _⟩ hHeld ?_
          (try simp only [Act.put, nz1, nz2, nz3])
          refine tk 11 ⟨some 30, .move (.tmp 29), 4, _, _, _⟩ hHeld ?_
          (try simp only [Act.put, nz1, nz2, nz3])
          refine ts 12 ⟨some 31, .load 26 (.tmp 3), 26, _, _, _⟩ hHeld ?_
          (try simp only [Act.put, nz1, nz2, nz3])
          refine ts 13 ⟨some 32, .move (.tmp 7), 60, _, _, _⟩ hHeld ?_
          (try simp only [Act.put, nz1, nz2, nz3])
          refine ts 14 ⟨some 33, .move (.tmp 9), 3, _, _, _⟩ hHeld ?_
          (try simp only [Act.put, nz1, nz2, nz3])
          refine ts 15 ⟨some 34, .binOp .sub 3 (.tmp 33) (.const (.int .i64 1)) 3, 3, _, _, _⟩ hHeld ?_
          (try simp only [Act.put, nz1, nz2, nz3])
          refine ts 16 ⟨some 35, .indexAddr 60 (.tmp 32) (.tmp 34), 0, _, _, _⟩ hHeld ?_
          (try simp only [Act.put, nz1, nz2, nz3])
          refine ts 17 ⟨some 36, .fieldAddr 33 (.tmp 35) 0, 0, _, _, _⟩ hHeld ?_
          (try simp only [Act.put, nz1, nz2, nz3])
          refine ts 18 ⟨some 37, .load 27 (.tmp 36), 27, _, _, _⟩ hHeld ?_
          (try simp only [Act.put, nz1, nz2, nz3])
          refine ts 19 ⟨some 38, .call { callee := .value (.func 43), args := #[.tmp 31, .tmp 37], argTypes := #[26, 27] }, 3, _, _, _⟩ hHeld ?_
          (try simp only [Act.put, nz1, nz2, nz3])
          refine ts 20 ⟨some 39, .load 26 (.tmp 3), 26, _, _, _⟩ hHeld ?_
          (try simp only [Act.put, nz1, nz2, nz3])
          refine ts 21 ⟨some 40, .move (.tmp 7), 60, _, _, _⟩ hHeld ?_
          (try simp only [Act.put, nz1, nz2, nz3])
          refine ts 22 ⟨some 41, .move (.tmp 9), 3, _, _, _⟩ hHeld ?_
          (try simp only [Act.put, nz1, nz2, nz3])
          refine ts 23 ⟨some 42, .indexAddr 60 (.tmp 40) (.tmp 41), 0, _, _, _⟩ hHeld ?_
          (try simp only [Act.put, nz1, nz2, nz3])
          refine ts 24 ⟨some 43, .fieldAddr 33 (.tmp 42) 0, 0, _, _, _⟩ hHeld ?_
          (try simp only [Act.put, nz1, nz2, nz3])
          refine ts 25 ⟨some 44, .load 27 (.tmp 43), 27, _, _, _⟩ hHeld ?_
          (try simp only [Act.put, nz1, nz2, nz3])
          refine ts 26 ⟨some 45, .call { callee := .value (.func 43), args := #[.tmp 39, .tmp 44], argTypes := #[26, 27] }, 3, _, _, _⟩ hHeld ?_
          (try simp only [Act.put, nz1, nz2, nz3])
          refine ts 27 ⟨some 46, .binOp .geq 3 (.tmp 38) (.tmp 45) 3, 4, _, _, _⟩ hHeld ?_
          (try simp only [Act.put, nz1, nz2, nz3])
          refine tk 28 ⟨some 47, .pick (.tmp 30) (.tmp 46) (.const (.bool false)), 4, _, _, _⟩ hHeld ?_
          (try simp only [Act.put, nz1, nz2, nz3])
          refine tk 29 ⟨some 48, .pick (.tmp 27) (.const (.bool true)) (.tmp 47), 4, _, _, _⟩ hHeld ?_
          (try simp only [Act.put, nz1, nz2, nz3])
          refine wpAnyH_done (by kernel_rfl) ?_ _
          (go_wp2_with fail; go_meet; exact ⟨rfl, hT.out.later hb0, Rs, Rp, Rq, below_step hB.out hb0⟩)
        · obtain ⟨k, hk⟩ : ∃ k : Nat, i = k + 1 := ⟨i - 1, by omega⟩
          obtain ⟨v, hv⟩ : ∃ q', L[k]? = some q' := ⟨_, List.getElem?_eq_getElem (by rw [HX.out.1]; omega)⟩
          have hpp := HX.out.2.2.2.2.1 k v u hv (by rw [← hk]; exact hL)
          have HPv := HX.out.2.2.2.1 v (List.mem_of_getElem? hv)
          have wm : IntKind.i64.wrap ((i : Int) - 1) = (k : Int) := by rw [IntWalk.i64_in _ (by omega)]; omega
          have i1 : (0 : Int) < (i : Int) := by omega
          have i1' : decide ((0 : Int) < (i : Int)) = true := decide_eq_true i1
          have i2 : 0 < i := by omega
          have i2' : decide (0 < i) = true := decide_eq_true i2
          have k1 : k < N := by omega
          have k1' : (k : Int) < (N : Int) := by omega
          have pq1 : ¬ pl u ≤ pl v := by omega
          have pq1' : decide (pl u ≤ pl v) = false := decide_eq_false pq1
          have t0 : wr.cell? ⟨zg, zo + k * 12, none⟩ = some (Value.int .i64 v.a0) := by have h := zcell k v hv 0 _ rfl; rw [show zo + (k * 12 + 0) = zo + k * 12 by omega] at h; exact h
          have t1 : wr.cell? ⟨zg, zo + k * 12 + 1, none⟩ = some (Value.int .i64 v.a1) := by have h := zcell k v hv 1 _ rfl; rw [show zo + (k * 12 + 1) = zo + k * 12 + 1 by omega] at h; exact h
          clear i0 hk hpp hv
          refine wp_region_held_drew (S := (fun w' => w'.cell? ⟨zg, zo + i * 12, none⟩ = some (Value.int .i64 u.a0) ∧ w'.cell? ⟨zg, zo + i * 12 + 1, none⟩ = some (Value.int .i64 u.a1) ∧ w'.cell? ⟨zg, zo + i * 12 + 2, none⟩ = some (Value.int .i64 u.k0.kind) ∧ w'.cell? ⟨zg, zo + i * 12 + 3, none⟩ = some (Value.int .i64 u.k0.len) ∧ w'.cell? ⟨zg, zo + i * 12 + 4, none⟩ = some (Value.int .u64 u.k0.h) ∧ w'.cell? ⟨zg, zo + i * 12 + 5, none⟩ = some (Value.int .u64 u.k0.l) ∧ w'.cell? ⟨zg, zo + i * 12 + 6, none⟩ = some (Value.string ⟨u.k0.path.toArray⟩) ∧ w'.cell? ⟨zg, zo + i * 12 + 7, none⟩ = some (Value.int .i64 u.k1.kind) ∧ w'.cell? ⟨zg, zo + i * 12 + 8, none⟩ = some (Value.int .i64 u.k1.len) ∧ w'.cell? ⟨zg, zo + i * 12 + 9, none⟩ = some (Value.int .u64 u.k1.h) ∧ w'.cell? ⟨zg, zo + i * 12 + 10, none⟩ = some (Value.int .u64 u.k1.l) ∧ w'.cell? ⟨zg, zo + i * 12 + 11, none⟩ = some (Value.string ⟨u.k1.path.toArray⟩) ∧ w'.cell? ⟨zg, zo + k * 12, none⟩ = some (Value.int .i64 v.a0) ∧ w'.cell? ⟨zg, zo + k * 12 + 1, none⟩ = some (Value.int .i64 v.a1) ∧ Row w' w.heap.size #[.int .i64 s.n, .int .i64 s.d0.kind, .int .i64 s.d0.side, .int .i64 s.d0.step, .int .i64 s.d1.kind, .int .i64 s.d1.side, .int .i64 s.d1.step] 26 ∧ Row w' (w.heap.size + 1) #[.int .i64 p.a0, .int .i64 p.a1, .int .i64 p.k0.kind, .int .i64 p.k0.len, .int .u64 p.k0.h, .int .u64 p.k0.l, .string ⟨p.k0.path.toArray⟩, .int .i64 p.k1.kind, .int .i64 p.k1.len, .int .u64 p.k1.h, .int .u64 p.k1.l, .string ⟨p.k1.path.toArray⟩] 33)) (by kernel_rfl) ?hSr2_ (fun hHeld => ?_)
          case hSr2_ => (exact ⟨z0, z1, z2, z3, z4, z5, z6, z7, z8, z9, z10, z11, t0, t1, Rs.drew, Rp.drew⟩)
          (clear s0 s1 s2 s3 s4 s5 s6 p0 p1 p2 p3 p4 p5 p6 p7 p8 p9 p10 p11 q0 q1 q2 q3 q4 q5 q6 q7 q8 q9 q10 q11; (replace Rs := Rs.drew); (replace Rp := Rp.drew); (replace Rq := Rq.drew); (replace hb0 := hb0.drew); (generalize World.drew wr = wq at *))
          refine tk 0 ⟨some 19, .load 26 (.tmp 3), 26, _, _, _⟩ hHeld ?_ (v := ?vr2_1_0) (hy := ?yr2_1_0)
          case yr2_1_0 => (intro wy hSw; obtain ⟨z0, z1, z2, z3, z4, z5, z6, z7, z8, z9, z10, z11, t0, t1, Qs, Qp⟩ := hSw; (with_reducible refine pexec_load 26 (.tmp 3) ?_ w.heap.size ?_ 26 #[.int .i64 s.n, .int .i64 s.d0.kind, .int .i64 s.d0.side, .int .i64 s.d0.step, .int .i64 s.d1.kind, .int .i64 s.d1.side, .int .i64 s.d1.step] _ Qs Try.underlying26 ?_ ?_) <;> first | rfl | exact infoSp)
          (try simp only [Act.put, nz1, nz2, nz3])
          refine tk 1 ⟨some 20, .move (.tmp 7), 60, _, _, _⟩ hHeld ?_
          (try simp only [Act.put, nz1, nz2, nz3])
          refine tk 2 ⟨some 21, .move (.tmp 9), 3, _, _, _⟩ hHeld ?_
          (try simp only [Act.put, nz1, nz2, nz3])
          refine tk 3 ⟨some 22, .indexAddr 60 (.tmp 20) (.tmp 21), 0, _, _, _⟩ hHeld ?_
          (try simp only [Act.put, nz1, nz2, nz3])
          refine tk 4 ⟨some 23, .load 33 (.tmp 22), 33, _, _, _⟩ hHeld ?_
          (try simp only [Act.put, nz1, nz2, nz3])
          refine tk 5 ⟨some 24, .load 33 (.tmp 4), 33, _, _, _⟩ hHeld ?_ (v := ?vr2_6_5) (hy := ?yr2_6_5)
          case yr2_6_5 => (intro wy hSw; obtain ⟨z0, z1, z2, z3, z4, z5, z6, z7, z8, z9, z10, z11, t0, t1, Qs, Qp⟩ := hSw; (with_reducible refine pexec_load 33 (.tmp 4) ?_ (w.heap.size + 1) ?_ 33 #[.int .i64 p.a0, .int .i64 p.a1, .int .i64 p.k0.kind, .int .i64 p.k0.len, .int .u64 p.k0.h, .int .u64 p.k0.l, .string ⟨p.k0.path.toArray⟩, .int .i64 p.k1.kind, .int .i64 p.k1.len, .int .u64 p.k1.h, .int .u64 p.k1.l, .string ⟨p.k1.path.toArray⟩] _ Qp Try.underlying33 ?_ ?_) <;> first | rfl | exact infoPx)
          (try simp only [Act.put, nz1, nz2, nz3])
          refine wpAnyH_ready (rs := [6]) (by kernel_rfl) (by simp) ?_
          refine AllReadyH.cons (o := ⟨some 25, .call { callee := .value (.func 28), args := #[.tmp 19, .tmp 23, .tmp 24], argTypes := #[26, 33, 33] }, 4, _, _, _⟩) rfl (fun K hK => ?_) AllReadyH.nil
          (go_simp; (refine (HOvu _).mono ?_); (rintro e wz ⟨rfl, hb⟩); (replace Rs := Rs.later hb); (replace Rp := Rp.later hb); (replace Rq := Rq.later hb); (replace hb0 := below_step hb0 hb); go_wp2_with fail)
          refine hK.out _ _ ?hSr2_7_6 (fun hHeld2 => ?_)
          case hSr2_7_6 => (obtain ⟨z0, z1, z2, z3, z4, z5, z6, z7, z8, z9, z10, z11, t0, t1, Qs, Qp⟩ := hHeld; exact ⟨cell_later hb z0, cell_later hb z1, cell_later hb z2, cell_later hb z3, cell_later hb z4, cell_later hb z5, cell_later hb z6, cell_later hb z7, cell_later hb z8, cell_later hb z9, cell_later hb z10, cell_later hb z11, cell_later hb t0, cell_later hb t1, Qs.later hb, Qp.later hb⟩)
          clear hK K hHeld
          have hHeld := hHeld2
          clear hHeld2
          rename World => wq
          (try simp only [Act.put, nz1, nz2, nz3])
          refine tk 7 ⟨some 26, .unOp .not 4 (.tmp 25), 4, _, _, _⟩ hHeld ?_
          (try simp only [Act.put, nz1, nz2, nz3])
          refine tk 8 ⟨some 27, .move (.tmp 26), 4, _, _, _⟩ hHeld ?_
          (try simp only [Act.put, nz1, nz2, nz3])
          refine tk 9 ⟨some 28, .move (.tmp 9), 3, _, _, _⟩ hHeld ?_
          (try simp only [Act.put, nz1, nz2, nz3])
          refine tk 10 ⟨some 29, .binOp .gtr 3 (.tmp 28) (.const (.int .i64 0)) 3, 4, _, _, _⟩ hHeld ?_
          (try simp only [Act.put, nz1, nz2, nz3])
          refine tk 11 ⟨some 30, .move (.tmp 29), 4, _, _, _⟩ hHeld ?_
          (try simp only [Act.put, nz1, nz2, nz3])
          refine tk 12 ⟨some 31, .load 26 (.tmp 3), 26, _, _, _⟩ hHeld ?_ (v := ?vr2_13_12) (hy := ?yr2_13_12)
          case yr2_13_12 => (intro wy hSw; obtain ⟨z0, z1, z2, z3, z4, z5, z6, z7, z8, z9, z10, z11, t0, t1, Qs, Qp⟩ := hSw; (with_reducible refine pexec_load 26 (.tmp 3) ?_ w.heap.size ?_ 26 #[.int .i64 s.n, .int .i64 s.d0.kind, .int .i64 s.d0.side, .int .i64 s.d0.step, .int .i64 s.d1.kind, .int .i64 s.d1.side, .int .i64 s.d1.step] _ Qs Try.underlying26 ?_ ?_) <;> first | rfl | exact infoSp)
          (try simp only [Act.put, nz1, nz2, nz3])
          refine tk 13 ⟨some 32, .move (.tmp 7), 60, _, _, _⟩ hHeld ?_
          (try simp only [Act.put, nz1, nz2, nz3])
          refine tk 14 ⟨some 33, .move (.tmp 9), 3, _, _, _⟩ hHeld ?_
          (try simp only [Act.put, nz1, nz2, nz3])
          refine tk 15 ⟨some 34, .binOp .sub 3 (.tmp 33) (.const (.int .i64 1)) 3, 3, _, _, _⟩ hHeld ?_
          (try simp only [Act.put, nz1, nz2, nz3])
          refine tk 16 ⟨some 35, .indexAddr 60 (.tmp 32) (.tmp 34), 0, _, _, _⟩ hHeld ?_
          (try simp only [Act.put, nz1, nz2, nz3])
          refine tk 17 ⟨some 36, .fieldAddr 33 (.tmp 35) 0, 0, _, _, _⟩ hHeld ?_
          (try simp only [Act.put, nz1, nz2, nz3])
          refine tk 18 ⟨some 37, .load 27 (.tmp 36), 27, _, _, _⟩ hHeld ?_
          (try simp only [Act.put, nz1, nz2, nz3])
          refine tk 20 ⟨some 39, .load 26 (.tmp 3), 26, _, _, _⟩ hHeld ?_ (v := ?vr2_20_20) (hy := ?yr2_20_20)
          case yr2_20_20 => (intro wy hSw; obtain ⟨z0, z1, z2, z3, z4, z5, z6, z7, z8, z9, z10, z11, t0, t1, Qs, Qp⟩ := hSw; (with_reducible refine pexec_load 26 (.tmp 3) ?_ w.heap.size ?_ 26 #[.int .i64 s.n, .int .i64 s.d0.kind, .int .i64 s.d0.side, .int .i64 s.d0.step, .int .i64 s.d1.kind, .int .i64 s.d1.side, .int .i64 s.d1.step] _ Qs Try.underlying26 ?_ ?_) <;> first | rfl | exact infoSp)
          (try simp only [Act.put, nz1, nz2, nz3])
          refine tk 21 ⟨some 40, .move (.tmp 7), 60, _, _, _⟩ hHeld ?_
          (try simp only [Act.put, nz1, nz2, nz3])
          refine tk 22 ⟨some 41, .move (.tmp 9), 3, _, _, _⟩ hHeld ?_
          (try simp only [Act.put, nz1, nz2, nz3])
          refine tk 23 ⟨some 42, .indexAddr 60 (.tmp 40) (.tmp 41), 0, _, _, _⟩ hHeld ?_
          (try simp only [Act.put, nz1, nz2, nz3])
          refine tk 24 ⟨some 43, .fieldAddr 33 (.tmp 42) 0, 0, _, _, _⟩ hHeld ?_
          (try simp only [Act.put, nz1, nz2, nz3])
          refine tk 25 ⟨some 44, .load 27 (.tmp 43), 27, _, _, _⟩ hHeld ?_
          (try simp only [Act.put, nz1, nz2, nz3])
          refine wpAnyH_ready (rs := [19]) (by kernel_rfl) (by simp) ?_
          refine AllReadyH.cons (o := ⟨some 38, .call { callee := .value (.func 43), args := #[.tmp 31, .tmp 37], argTypes := #[26, 27] }, 3, _, _, _⟩) rfl (fun K hK => ?_) AllReadyH.nil
          (go_simp; (refine (HPv _).mono ?_); (rintro e wz ⟨rfl, hb⟩); (replace Rs := Rs.later hb); (replace Rp := Rp.later hb); (replace Rq := Rq.later hb); (replace hb0 := below_step hb0 hb); go_wp2_with fail)
          refine hK.out _ _ ?hSr2_26_19 (fun hHeld2 => ?_)
          case hSr2_26_19 => (obtain ⟨z0, z1, z2, z3, z4, z5, z6, z7, z8, z9, z10, z11, t0, t1, Qs, Qp⟩ := hHeld; exact ⟨cell_later hb z0, cell_later hb z1, cell_later hb z2, cell_later hb z3, cell_later hb z4, cell_later hb z5, cell_later hb z6, cell_later hb z7, cell_later hb z8, cell_later hb z9, cell_later hb z10, cell_later hb z11, cell_later hb t0, cell_later hb t1, Qs.later hb, Qp.later hb⟩)
          clear hK K hHeld
          have hHeld := hHeld2
          clear hHeld2
          rename World => wq
          (try simp only [Act.put, nz1, nz2, nz3])
          refine wpAnyH_ready (rs := [26]) (by kernel_rfl) (by simp) ?_
          refine AllReadyH.cons (o := ⟨some 45, .call { callee := .value (.func 43), args := #[.tmp 39, .tmp 44], argTypes := #[26, 27] }, 3, _, _, _⟩) rfl (fun K hK => ?_) AllReadyH.nil
          (go_simp; (refine (HPu _).mono ?_); (rintro e wz ⟨rfl, hb⟩); (replace Rs := Rs.later hb); (replace Rp := Rp.later hb); (replace Rq := Rq.later hb); (replace hb0 := below_step hb0 hb); go_wp2_with fail)
          refine hK.out _ _ ?hSr2_27_26 (fun hHeld2 => ?_)
          case hSr2_27_26 => (obtain ⟨z0, z1, z2, z3, z4, z5, z6, z7, z8, z9, z10, z11, t0, t1, Qs, Qp⟩ := hHeld; exact ⟨cell_later hb z0, cell_later hb z1, cell_later hb z2, cell_later hb z3, cell_later hb z4, cell_later hb z5, cell_later hb z6, cell_later hb z7, cell_later hb z8, cell_later hb z9, cell_later hb z10, cell_later hb z11, cell_later hb t0, cell_later hb t1, Qs.later hb, Qp.later hb⟩)
          clear hK K hHeld
          have hHeld := hHeld2
          clear hHeld2
          rename World => wq
          (try simp only [Act.put, nz1, nz2, nz3])
          refine tk 27 ⟨some 46, .binOp .geq 3 (.tmp 38) (.tmp 45) 3, 4, _, _, _⟩ hHeld ?_
          (try simp only [Act.put, nz1, nz2, nz3])
          refine tk 28 ⟨some 47, .pick (.tmp 30) (.tmp 46) (.const (.bool false)), 4, _, _, _⟩ hHeld ?_
          (try simp only [Act.put, nz1, nz2, nz3])
          refine tk 29 ⟨some 48, .pick (.tmp 27) (.const (.bool true)) (.tmp 47), 4, _, _, _⟩ hHeld ?_
          (try simp only [Act.put, nz1, nz2, nz3])
          refine wpAnyH_done (by kernel_rfl) ?_ _
          (go_wp2_with fail; go_meet; exact ⟨rfl, hT.out.later hb0, Rs, Rp, Rq, below_step hB.out hb0⟩)
      case rest =>
        clear hT hB Rs Rp Rq s0 s1 s2 s3 s4 s5 s6 p0 q0 z0 p1 q1 z1 p2 q2 z2 p3 q3 z3 p4 q4 z4 p5 q5 z5 p6 q6 z6 p7 q7 z7 p8 q8 z8 p9 q9 z9 p10 q10 z10 p11 q11 z11 zcell hz
        obtain ⟨rfl, T4, Rs, Rp, Rq, hbK⟩ := hcut
        rename World => wK
        have HB4 := Lib.hid hbK
        have hb0 := Below.refl wK.heap.size wK
        clear hbK
        (try clear s0 s1 s2 s3 s4 s5 s6); obtain ⟨s0, s1, s2, s3, s4, s5, s6⟩ := row7 Rs
        (try clear p0 p1 p2 p3 p4 p5 p6 p7 p8 p9 p10 p11); obtain ⟨p0, p1, p2, p3, p4, p5, p6, p7, p8, p9, p10, p11⟩ := row12 Rp
        (try clear q0 q1 q2 q3 q4 q5 q6 q7 q8 q9 q10 q11); obtain ⟨q0, q1, q2, q3, q4, q5, q6, q7, q8, q9, q10, q11⟩ := row12 Rq
        have ls := Rs.lt
        have lp := Rp.lt
        have lq := Rq.lt
        obtain ⟨_, _, ez, _, hz⟩ := xs_read T4
        rw [HX.out.1] at ez
        cases ez
        obtain ⟨_, _, eg, zlt', zcell⟩ := hz (by rw [HX.out.1]; omega)
        cases eg
        have z0 : wK.cell? ⟨zg, zo + i * 12, none⟩ = some (Value.int .i64 u.a0) := by have h := zcell i u hLx.out 0 _ rfl; rw [show zo + (i * 12 + 0) = zo + i * 12 by omega] at h; exact h
        have z1 : wK.cell? ⟨zg, zo + i * 12 + 1, none⟩ = some (Value.int .i64 u.a1) := by have h := zcell i u hLx.out 1 _ rfl; rw [show zo + (i * 12 + 1) = zo + i * 12 + 1 by omega] at h; exact h
        have z2 : wK.cell? ⟨zg, zo + i * 12 + 2, none⟩ = some (Value.int .i64 u.k0.kind) := by have h := zcell i u hLx.out 2 _ rfl; rw [show zo + (i * 12 + 2) = zo + i * 12 + 2 by omega] at h; exact h
        have z3 : wK.cell? ⟨zg, zo + i * 12 + 3, none⟩ = some (Value.int .i64 u.k0.len) := by have h := zcell i u hLx.out 3 _ rfl; rw [show zo + (i * 12 + 3) = zo + i * 12 + 3 by omega] at h; exact h
        have z4 : wK.cell? ⟨zg, zo + i * 12 + 4, none⟩ = some (Value.int .u64 u.k0.h) := by have h := zcell i u hLx.out 4 _ rfl; rw [show zo + (i * 12 + 4) = zo + i * 12 + 4 by omega] at h; exact h
        have z5 : wK.cell? ⟨zg, zo + i * 12 + 5, none⟩ = some (Value.int .u64 u.k0.l) := by have h := zcell i u hLx.out 5 _ rfl; rw [show zo + (i * 12 + 5) = zo + i * 12 + 5 by omega] at h; exact h
        have z6 : wK.cell? ⟨zg, zo + i * 12 + 6, none⟩ = some (Value.string ⟨u.k0.path.toArray⟩) := by have h := zcell i u hLx.out 6 _ rfl; rw [show zo + (i * 12 + 6) = zo + i * 12 + 6 by omega] at h; exact h
        have z7 : wK.cell? ⟨zg, zo + i * 12 + 7, none⟩ = some (Value.int .i64 u.k1.kind) := by have h := zcell i u hLx.out 7 _ rfl; rw [show zo + (i * 12 + 7) = zo + i * 12 + 7 by omega] at h; exact h
        have z8 : wK.cell? ⟨zg, zo + i * 12 + 8, none⟩ = some (Value.int .i64 u.k1.len) := by have h := zcell i u hLx.out 8 _ rfl; rw [show zo + (i * 12 + 8) = zo + i * 12 + 8 by omega] at h; exact h
        have z9 : wK.cell? ⟨zg, zo + i * 12 + 9, none⟩ = some (Value.int .u64 u.k1.h) := by have h := zcell i u hLx.out 9 _ rfl; rw [show zo + (i * 12 + 9) = zo + i * 12 + 9 by omega] at h; exact h
        have z10 : wK.cell? ⟨zg, zo + i * 12 + 10, none⟩ = some (Value.int .u64 u.k1.l) := by have h := zcell i u hLx.out 10 _ rfl; rw [show zo + (i * 12 + 10) = zo + i * 12 + 10 by omega] at h; exact h
        have z11 : wK.cell? ⟨zg, zo + i * 12 + 11, none⟩ = some (Value.string ⟨u.k1.path.toArray⟩) := by have h := zcell i u hLx.out 11 _ rfl; rw [show zo + (i * 12 + 11) = zo + i * 12 + 11 by omega] at h; exact h
        have T4x := Lib.hid T4
        clear hz zcell T4
        go_wp2_with fail
        cases bi with
        | true =>
          refine wp_region_held_drew (S := (fun w' => w'.cell? ⟨zg, zo + i * 12, none⟩ = some (Value.int .i64 u.a0) ∧ w'.cell? ⟨zg, zo + i * 12 + 1, none⟩ = some (Value.int .i64 u.a1) ∧ w'.cell? ⟨zg, zo + i * 12 + 2, none⟩ = some (Value.int .i64 u.k0.kind) ∧ w'.cell? ⟨zg, zo + i * 12 + 3, none⟩ = some (Value.int .i64 u.k0.len) ∧ w'.cell? ⟨zg, zo + i * 12 + 4, none⟩ = some (Value.int .u64 u.k0.h) ∧ w'.cell? ⟨zg, zo + i * 12 + 5, none⟩ = some (Value.int .u64 u.k0.l) ∧ w'.cell? ⟨zg, zo + i * 12 + 6, none⟩ = some (Value.string ⟨u.k0.path.toArray⟩) ∧ w'.cell? ⟨zg, zo + i * 12 + 7, none⟩ = some (Value.int .i64 u.k1.kind) ∧ w'.cell? ⟨zg, zo + i * 12 + 8, none⟩ = some (Value.int .i64 u.k1.len) ∧ w'.cell? ⟨zg, zo + i * 12 + 9, none⟩ = some (Value.int .u64 u.k1.h) ∧ w'.cell? ⟨zg, zo + i * 12 + 10, none⟩ = some (Value.int .u64 u.k1.l) ∧ w'.cell? ⟨zg, zo + i * 12 + 11, none⟩ = some (Value.string ⟨u.k1.path.toArray⟩) ∧ Row w' (w.heap.size + 1 + 1) #[.int .i64 q.a0, .int .i64 q.a1, .int .i64 q.k0.kind, .int .i64 q.k0.len, .int .u64 q.k0.h, .int .u64 q.k0.l, .string ⟨q.k0.path.toArray⟩, .int .i64 q.k1.kind, .int .i64 q.k1.len, .int .u64 q.k1.h, .int .u64 q.k1.l, .string ⟨q.k1.path.toArray⟩] 33)) (by kernel_rfl) ?hSr3_ (fun hHeld => ?_)
          case hSr3_ => (exact ⟨z0, z1, z2, z3, z4, z5, z6, z7, z8, z9, z10, z11, Rq.drew⟩)
          (clear s0 s1 s2 s3 s4 s5 s6 p0 p1 p2 p3 p4 p5 p6 p7 p8 p9 p10 p11 q0 q1 q2 q3 q4 q5 q6 q7 q8 q9 q10 q11; (replace Rs := Rs.drew); (replace Rp := Rp.drew); (replace Rq := Rq.drew); (replace hb0 := hb0.drew); (generalize World.drew wK = wq at *))
          refine tk 0 ⟨some 49, .move (.tmp 8), 4, _, _, _⟩ hHeld ?_
          (try simp only [Act.put, nz1, nz2, nz3])
          refine tk 1 ⟨some 50, .move (.tmp 49), 4, _, _, _⟩ hHeld ?_
          (try simp only [Act.put, nz1, nz2, nz3])
          refine ts 2 ⟨some 51, .move (.tmp 7), 60, _, _, _⟩ hHeld ?_
          (try simp only [Act.put, nz1, nz2, nz3])
          refine ts 3 ⟨some 52, .move (.tmp 9), 3, _, _, _⟩ hHeld ?_
          (try simp only [Act.put, nz1, nz2, nz3])
          refine ts 4 ⟨some 53, .indexAddr 60 (.tmp 51) (.tmp 52), 0, _, _, _⟩ hHeld ?_
          (try simp only [Act.put, nz1, nz2, nz3])
          refine ts 5 ⟨some 54, .load 33 (.tmp 53), 33, _, _, _⟩ hHeld ?_
          (try simp only [Act.put, nz1, nz2, nz3])
          refine ts 6 ⟨some 55, .load 33 (.tmp 5), 33, _, _, _⟩ hHeld ?_
          (try simp only [Act.put, nz1, nz2, nz3])
          refine ts 7 ⟨some 56, .binOp .eql 33 (.tmp 54) (.tmp 55) 33, 4, _, _, _⟩ hHeld ?_
          (try simp only [Act.put, nz1, nz2, nz3])
          refine tk 8 ⟨some 57, .pick (.tmp 50) (.const (.bool true)) (.tmp 56), 4, _, _, _⟩ hHeld ?_
          (try simp only [Act.put, nz1, nz2, nz3])
          refine tk 9 ⟨some 8, .assign (.tmp 57), 4, _, _, _⟩ hHeld ?_
          (try simp only [Act.put, nz1, nz2, nz3])
          refine wpAnyH_done (by kernel_rfl) ?_ _
          clear hHeld
          rename World => w1
          have ls := Rs.lt
          have lp := Rp.lt
          have lq := Rq.lt
          (try clear s0 s1 s2 s3 s4 s5 s6); obtain ⟨s0, s1, s2, s3, s4, s5, s6⟩ := row7 Rs
          (try clear p0 p1 p2 p3 p4 p5 p6 p7 p8 p9 p10 p11); obtain ⟨p0, p1, p2, p3, p4, p5, p6, p7, p8, p9, p10, p11⟩ := row12 Rp
          (try clear q0 q1 q2 q3 q4 q5 q6 q7 q8 q9 q10 q11); obtain ⟨q0, q1, q2, q3, q4, q5, q6, q7, q8, q9, q10, q11⟩ := row12 Rq
          have F1 := Lib.hid (T4x.out.later hb0)
          have F2 := Lib.hid (below_step HB4.out hb0)
          have F3 := Lib.hid (And.intro Rs (And.intro Rp Rq))
          have F4 := Lib.hid (show fb (i + 1) = true by rw [hstx.out]; rfl)
          clear Rs Rp Rq hb0 T4x HB4 s0 s1 s2 s3 s4 s5 s6 p0 q0 z0 p1 q1 z1 p2 q2 z2 p3 q3 z3 p4 q4 z4 p5 q5 z5 p6 q6 z6 p7 q7 z7 p8 q8 z8 p9 q9 z9 p10 q10 z10 p11 q11 z11
          go_wp2
          exact ⟨⟨i + 1, by simp, by rw [F4.out], by omega, F1, F2, F3⟩, by simp [intOf]; omega⟩
        | false =>
          cases hd : decide (u = q) with
          | true =>
            rw [hd] at qe hstx
            refine wp_region_held_drew (S := (fun w' => w'.cell? ⟨zg, zo + i * 12, none⟩ = some (Value.int .i64 u.a0) ∧ w'.cell? ⟨zg, zo + i * 12 + 1, none⟩ = some (Value.int .i64 u.a1) ∧ w'.cell? ⟨zg, zo + i * 12 + 2, none⟩ = some (Value.int .i64 u.k0.kind) ∧ w'.cell? ⟨zg, zo + i * 12 + 3, none⟩ = some (Value.int .i64 u.k0.len) ∧ w'.cell? ⟨zg, zo + i * 12 + 4, none⟩ = some (Value.int .u64 u.k0.h) ∧ w'.cell? ⟨zg, zo + i * 12 + 5, none⟩ = some (Value.int .u64 u.k0.l) ∧ w'.cell? ⟨zg, zo + i * 12 + 6, none⟩ = some (Value.string ⟨u.k0.path.toArray⟩) ∧ w'.cell? ⟨zg, zo + i * 12 + 7, none⟩ = some (Value.int .i64 u.k1.kind) ∧ w'.cell? ⟨zg, zo + i * 12 + 8, none⟩ = some (Value.int .i64 u.k1.len) ∧ w'.cell? ⟨zg, zo + i * 12 + 9, none⟩ = some (Value.int .u64 u.k1.h) ∧ w'.cell? ⟨zg, zo + i * 12 + 10, none⟩ = some (Value.int .u64 u.k1.l) ∧ w'.cell? ⟨zg, zo + i * 12 + 11, none⟩ = some (Value.string ⟨u.k1.path.toArray⟩) ∧ Row w' (w.heap.size + 1 + 1) #[.int .i64 q.a0, .int .i64 q.a1, .int .i64 q.k0.kind, .int .i64 q.k0.len, .int .u64 q.k0.h, .int .u64 q.k0.l, .string ⟨q.k0.path.toArray⟩, .int .i64 q.k1.kind, .int .i64 q.k1.len, .int .u64 q.k1.h, .int .u64 q.k1.l, .string ⟨q.k1.path.toArray⟩] 33)) (by kernel_rfl) ?hSr4_ (fun hHeld => ?_)
            case hSr4_ => (exact ⟨z0, z1, z2, z3, z4, z5, z6, z7, z8, z9, z10, z11, Rq.drew⟩)
            (clear s0 s1 s2 s3 s4 s5 s6 p0 p1 p2 p3 p4 p5 p6 p7 p8 p9 p10 p11 q0 q1 q2 q3 q4 q5 q6 q7 q8 q9 q10 q11; (replace Rs := Rs.drew); (replace Rp := Rp.drew); (replace Rq := Rq.drew); (replace hb0 := hb0.drew); (generalize World.drew wK = wq at *))
            refine tk 0 ⟨some 49, .move (.tmp 8), 4, _, _, _⟩ hHeld ?_
            (try simp only [Act.put, nz1, nz2, nz3])
            refine tk 1 ⟨some 50, .move (.tmp 49), 4, _, _, _⟩ hHeld ?_
            (try simp only [Act.put, nz1, nz2, nz3])
            refine tk 2 ⟨some 51, .move (.tmp 7), 60, _, _, _⟩ hHeld ?_
            (try simp only [Act.put, nz1, nz2, nz3])
            refine tk 3 ⟨some 52, .move (.tmp 9), 3, _, _, _⟩ hHeld ?_
            (try simp only [Act.put, nz1, nz2, nz3])
            refine tk 4 ⟨some 53, .indexAddr 60 (.tmp 51) (.tmp 52), 0, _, _, _⟩ hHeld ?_
            (try simp only [Act.put, nz1, nz2, nz3])
            refine tk 5 ⟨some 54, .load 33 (.tmp 53), 33, _, _, _⟩ hHeld ?_
            (try simp only [Act.put, nz1, nz2, nz3])
            refine tk 6 ⟨some 55, .load 33 (.tmp 5), 33, _, _, _⟩ hHeld ?_ (v := ?vr4_7_6) (hy := ?yr4_7_6)
            case yr4_7_6 => (intro wy hSw; obtain ⟨z0, z1, z2, z3, z4, z5, z6, z7, z8, z9, z10, z11, Qq⟩ := hSw; (with_reducible refine pexec_load 33 (.tmp 5) ?_ (w.heap.size + 1 + 1) ?_ 33 #[.int .i64 q.a0, .int .i64 q.a1, .int .i64 q.k0.kind, .int .i64 q.k0.len, .int .u64 q.k0.h, .int .u64 q.k0.l, .string ⟨q.k0.path.toArray⟩, .int .i64 q.k1.kind, .int .i64 q.k1.len, .int .u64 q.k1.h, .int .u64 q.k1.l, .string ⟨q.k1.path.toArray⟩] _ Qq Try.underlying33 ?_ ?_) <;> first | rfl | exact infoPx)
            (try simp only [Act.put, nz1, nz2, nz3])
            refine tk 7 ⟨some 56, .binOp .eql 33 (.tmp 54) (.tmp 55) 33, 4, _, _, _⟩ hHeld ?_
            (try simp only [Act.put, nz1, nz2, nz3])
            refine tk 8 ⟨some 57, .pick (.tmp 50) (.const (.bool true)) (.tmp 56), 4, _, _, _⟩ hHeld ?_
            (try simp only [Act.put, nz1, nz2, nz3])
            refine tk 9 ⟨some 8, .assign (.tmp 57), 4, _, _, _⟩ hHeld ?_
            (try simp only [Act.put, nz1, nz2, nz3])
            refine wpAnyH_done (by kernel_rfl) ?_ _
            clear hHeld
            rename World => w1
            have ls := Rs.lt
            have lp := Rp.lt
            have lq := Rq.lt
            (try clear s0 s1 s2 s3 s4 s5 s6); obtain ⟨s0, s1, s2, s3, s4, s5, s6⟩ := row7 Rs
            (try clear p0 p1 p2 p3 p4 p5 p6 p7 p8 p9 p10 p11); obtain ⟨p0, p1, p2, p3, p4, p5, p6, p7, p8, p9, p10, p11⟩ := row12 Rp
            (try clear q0 q1 q2 q3 q4 q5 q6 q7 q8 q9 q10 q11); obtain ⟨q0, q1, q2, q3, q4, q5, q6, q7, q8, q9, q10, q11⟩ := row12 Rq
            have F1 := Lib.hid (T4x.out.later hb0)
            have F2 := Lib.hid (below_step HB4.out hb0)
            have F3 := Lib.hid (And.intro Rs (And.intro Rp Rq))
            have F4 := Lib.hid (show fb (i + 1) = true by rw [hstx.out]; rfl)
            clear Rs Rp Rq hb0 T4x HB4 s0 s1 s2 s3 s4 s5 s6 p0 q0 z0 p1 q1 z1 p2 q2 z2 p3 q3 z3 p4 q4 z4 p5 q5 z5 p6 q6 z6 p7 q7 z7 p8 q8 z8 p9 q9 z9 p10 q10 z10 p11 q11 z11
            go_wp2
            exact ⟨⟨i + 1, by simp, by rw [F4.out], by omega, F1, F2, F3⟩, by simp [intOf]; omega⟩
          | false =>
            rw [hd] at qe hstx
            refine wp_region_held_drew (S := (fun w' => w'.cell? ⟨zg, zo + i * 12, none⟩ = some (Value.int .i64 u.a0) ∧ w'.cell? ⟨zg, zo + i * 12 + 1, none⟩ = some (Value.int .i64 u.a1) ∧ w'.cell? ⟨zg, zo + i * 12 + 2, none⟩ = some (Value.int .i64 u.k0.kind) ∧ w'.cell? ⟨zg, zo + i * 12 + 3, none⟩ = some (Value.int .i64 u.k0.len) ∧ w'.cell? ⟨zg, zo + i * 12 + 4, none⟩ = some (Value.int .u64 u.k0.h) ∧ w'.cell? ⟨zg, zo + i * 12 + 5, none⟩ = some (Value.int .u64 u.k0.l) ∧ w'.cell? ⟨zg, zo + i * 12 + 6, none⟩ = some (Value.string ⟨u.k0.path.toArray⟩) ∧ w'.cell? ⟨zg, zo + i * 12 + 7, none⟩ = some (Value.int .i64 u.k1.kind) ∧ w'.cell? ⟨zg, zo + i * 12 + 8, none⟩ = some (Value.int .i64 u.k1.len) ∧ w'.cell? ⟨zg, zo + i * 12 + 9, none⟩ = some (Value.int .u64 u.k1.h) ∧ w'.cell? ⟨zg, zo + i * 12 + 10, none⟩ = some (Value.int .u64 u.k1.l) ∧ w'.cell? ⟨zg, zo + i * 12 + 11, none⟩ = some (Value.string ⟨u.k1.path.toArray⟩) ∧ Row w' (w.heap.size + 1 + 1) #[.int .i64 q.a0, .int .i64 q.a1, .int .i64 q.k0.kind, .int .i64 q.k0.len, .int .u64 q.k0.h, .int .u64 q.k0.l, .string ⟨q.k0.path.toArray⟩, .int .i64 q.k1.kind, .int .i64 q.k1.len, .int .u64 q.k1.h, .int .u64 q.k1.l, .string ⟨q.k1.path.toArray⟩] 33)) (by kernel_rfl) ?hSr5_ (fun hHeld => ?_)
            case hSr5_ => (exact ⟨z0, z1, z2, z3, z4, z5, z6, z7, z8, z9, z10, z11, Rq.drew⟩)
            (clear s0 s1 s2 s3 s4 s5 s6 p0 p1 p2 p3 p4 p5 p6 p7 p8 p9 p10 p11 q0 q1 q2 q3 q4 q5 q6 q7 q8 q9 q10 q11; (replace Rs := Rs.drew); (replace Rp := Rp.drew); (replace Rq := Rq.drew); (replace hb0 := hb0.drew); (generalize World.drew wK = wq at *))
            refine tk 0 ⟨some 49, .move (.tmp 8), 4, _, _, _⟩ hHeld ?_
            (try simp only [Act.put, nz1, nz2, nz3])
            refine tk 1 ⟨some 50, .move (.tmp 49), 4, _, _, _⟩ hHeld ?_
            (try simp only [Act.put, nz1, nz2, nz3])
            refine tk 2 ⟨some 51, .move (.tmp 7), 60, _, _, _⟩ hHeld ?_
            (try simp only [Act.put, nz1, nz2, nz3])
            refine tk 3 ⟨some 52, .move (.tmp 9), 3, _, _, _⟩ hHeld ?_
            (try simp only [Act.put, nz1, nz2, nz3])
            refine tk 4 ⟨some 53, .indexAddr 60 (.tmp 51) (.tmp 52), 0, _, _, _⟩ hHeld ?_
            (try simp only [Act.put, nz1, nz2, nz3])
            refine tk 5 ⟨some 54, .load 33 (.tmp 53), 33, _, _, _⟩ hHeld ?_
            (try simp only [Act.put, nz1, nz2, nz3])
            refine tk 6 ⟨some 55, .load 33 (.tmp 5), 33, _, _, _⟩ hHeld ?_ (v := ?vr5_7_6) (hy := ?yr5_7_6)
            case yr5_7_6 => (intro wy hSw; obtain ⟨z0, z1, z2, z3, z4, z5, z6, z7, z8, z9, z10, z11, Qq⟩ := hSw; (with_reducible refine pexec_load 33 (.tmp 5) ?_ (w.heap.size + 1 + 1) ?_ 33 #[.int .i64 q.a0, .int .i64 q.a1, .int .i64 q.k0.kind, .int .i64 q.k0.len, .int .u64 q.k0.h, .int .u64 q.k0.l, .string ⟨q.k0.path.toArray⟩, .int .i64 q.k1.kind, .int .i64 q.k1.len, .int .u64 q.k1.h, .int .u64 q.k1.l, .string ⟨q.k1.path.toArray⟩] _ Qq Try.underlying33 ?_ ?_) <;> first | rfl | exact infoPx)
            (try simp only [Act.put, nz1, nz2, nz3])
            refine tk 7 ⟨some 56, .binOp .eql 33 (.tmp 54) (.tmp 55) 33, 4, _, _, _⟩ hHeld ?_
            (try simp only [Act.put, nz1, nz2, nz3])
            refine tk 8 ⟨some 57, .pick (.tmp 50) (.const (.bool true)) (.tmp 56), 4, _, _, _⟩ hHeld ?_
            (try simp only [Act.put, nz1, nz2, nz3])
            refine tk 9 ⟨some 8, .assign (.tmp 57), 4, _, _, _⟩ hHeld ?_
            (try simp only [Act.put, nz1, nz2, nz3])
            refine wpAnyH_done (by kernel_rfl) ?_ _
            clear hHeld
            rename World => w1
            have ls := Rs.lt
            have lp := Rp.lt
            have lq := Rq.lt
            (try clear s0 s1 s2 s3 s4 s5 s6); obtain ⟨s0, s1, s2, s3, s4, s5, s6⟩ := row7 Rs
            (try clear p0 p1 p2 p3 p4 p5 p6 p7 p8 p9 p10 p11); obtain ⟨p0, p1, p2, p3, p4, p5, p6, p7, p8, p9, p10, p11⟩ := row12 Rp
            (try clear q0 q1 q2 q3 q4 q5 q6 q7 q8 q9 q10 q11); obtain ⟨q0, q1, q2, q3, q4, q5, q6, q7, q8, q9, q10, q11⟩ := row12 Rq
            have F1 := Lib.hid (T4x.out.later hb0)
            have F2 := Lib.hid (below_step HB4.out hb0)
            have F3 := Lib.hid (And.intro Rs (And.intro Rp Rq))
            have F4 := Lib.hid (show fb (i + 1) = false by rw [hstx.out]; rfl)
            clear Rs Rp Rq hb0 T4x HB4 s0 s1 s2 s3 s4 s5 s6 p0 q0 z0 p1 q1 z1 p2 q2 z2 p3 q3 z3 p4 q4 z4 p5 q5 z5 p6 q6 z6 p7 q7 z7 p8 q8 z8 p9 q9 z9 p10 q10 z10 p11 q11 z11
            go_wp2
            exact ⟨⟨i + 1, by simp, by rw [F4.out], by omega, F1, F2, F3⟩, by simp [intOf]; omega⟩
    · obtain rfl : i = N := by omega
      have hb0 := hB.out
      have Rs := hR.out.1
      have Rp := hR.out.2.1
      have Rq := hR.out.2.2
      clear hR hT hB
      (try clear s0 s1 s2 s3 s4 s5 s6); obtain ⟨s0, s1, s2, s3, s4, s5, s6⟩ := row7 Rs
      (try clear p0 p1 p2 p3 p4 p5 p6 p7 p8 p9 p10 p11); obtain ⟨p0, p1, p2, p3, p4, p5, p6, p7, p8, p9, p10, p11⟩ := row12 Rp
      (try clear q0 q1 q2 q3 q4 q5 q6 q7 q8 q9 q10 q11); obtain ⟨q0, q1, q2, q3, q4, q5, q6, q7, q8, q9, q10, q11⟩ := row12 Rq
      obtain ⟨HO, HR, hr⟩ := HX.out.2.2.2.2.2
      have Hr := Lib.hid hr
      clear hr
      generalize fb i = bf at *
      cases bf with
      | false =>
        cases r with
        | false =>
          have hrr := Hr.out
          have hrn : decide (0 < i) = false := (decide_eq_decide.2 (by omega)).trans Hr.out
          go_wp2_with fail
          refine (HA _).mono ?_
          rintro e w1 ⟨rfl, hb⟩
          replace Rs := Rs.later hb
          replace Rp := Rp.later hb
          replace Rq := Rq.later hb
          replace hb0 := below_step hb0 hb
          clear hb
          have ls := Rs.lt
          have lp := Rp.lt
          have lq := Rq.lt
          (try clear s0 s1 s2 s3 s4 s5 s6); obtain ⟨s0, s1, s2, s3, s4, s5, s6⟩ := row7 Rs
          (try clear p0 p1 p2 p3 p4 p5 p6 p7 p8 p9 p10 p11); obtain ⟨p0, p1, p2, p3, p4, p5, p6, p7, p8, p9, p10, p11⟩ := row12 Rp
          (try clear q0 q1 q2 q3 q4 q5 q6 q7 q8 q9 q10 q11); obtain ⟨q0, q1, q2, q3, q4, q5, q6, q7, q8, q9, q10, q11⟩ := row12 Rq
          go_wp2_with fail
          refine (HO _).mono ?_
          rintro e w2 ⟨rfl, hb⟩
          replace Rs := Rs.later hb
          replace Rp := Rp.later hb
          replace Rq := Rq.later hb
          replace hb0 := below_step hb0 hb
          clear hb
          have ls := Rs.lt
          have lp := Rp.lt
          have lq := Rq.lt
          (try clear s0 s1 s2 s3 s4 s5 s6); obtain ⟨s0, s1, s2, s3, s4, s5, s6⟩ := row7 Rs
          (try clear p0 p1 p2 p3 p4 p5 p6 p7 p8 p9 p10 p11); obtain ⟨p0, p1, p2, p3, p4, p5, p6, p7, p8, p9, p10, p11⟩ := row12 Rp
          (try clear q0 q1 q2 q3 q4 q5 q6 q7 q8 q9 q10 q11); obtain ⟨q0, q1, q2, q3, q4, q5, q6, q7, q8, q9, q10, q11⟩ := row12 Rq
          go_wp2_with fail
          refine (HR _).mono ?_
          rintro e w3 ⟨rfl, hb⟩
          replace Rs := Rs.later hb
          replace Rp := Rp.later hb
          replace Rq := Rq.later hb
          replace hb0 := below_step hb0 hb
          clear hb
          have ls := Rs.lt
          have lp := Rp.lt
          have lq := Rq.lt
          (try clear s0 s1 s2 s3 s4 s5 s6); obtain ⟨s0, s1, s2, s3, s4, s5, s6⟩ := row7 Rs
          (try clear p0 p1 p2 p3 p4 p5 p6 p7 p8 p9 p10 p11); obtain ⟨p0, p1, p2, p3, p4, p5, p6, p7, p8, p9, p10, p11⟩ := row12 Rp
          (try clear q0 q1 q2 q3 q4 q5 q6 q7 q8 q9 q10 q11); obtain ⟨q0, q1, q2, q3, q4, q5, q6, q7, q8, q9, q10, q11⟩ := row12 Rq
          go_wp2
          go_ret
          exact ⟨rfl, hb0⟩
        | true =>
          have hrr := Hr.out
          have hrn : decide (0 < i) = true := (decide_eq_decide.2 (by omega)).trans Hr.out
          go_wp2_with fail
          refine (HA _).mono ?_
          rintro e w1 ⟨rfl, hb⟩
          replace Rs := Rs.later hb
          replace Rp := Rp.later hb
          replace Rq := Rq.later hb
          replace hb0 := below_step hb0 hb
          clear hb
          have ls := Rs.lt
          have lp := Rp.lt
          have lq := Rq.lt
          (try clear s0 s1 s2 s3 s4 s5 s6); obtain ⟨s0, s1, s2, s3, s4, s5, s6⟩ := row7 Rs
          (try clear p0 p1 p2 p3 p4 p5 p6 p7 p8 p9 p10 p11); obtain ⟨p0, p1, p2, p3, p4, p5, p6, p7, p8, p9, p10, p11⟩ := row12 Rp
          (try clear q0 q1 q2 q3 q4 q5 q6 q7 q8 q9 q10 q11); obtain ⟨q0, q1, q2, q3, q4, q5, q6, q7, q8, q9, q10, q11⟩ := row12 Rq
          go_wp2_with fail
          refine (HO _).mono ?_
          rintro e w2 ⟨rfl, hb⟩
          replace Rs := Rs.later hb
          replace Rp := Rp.later hb
          replace Rq := Rq.later hb
          replace hb0 := below_step hb0 hb
          clear hb
          have ls := Rs.lt
          have lp := Rp.lt
          have lq := Rq.lt
          (try clear s0 s1 s2 s3 s4 s5 s6); obtain ⟨s0, s1, s2, s3, s4, s5, s6⟩ := row7 Rs
          (try clear p0 p1 p2 p3 p4 p5 p6 p7 p8 p9 p10 p11); obtain ⟨p0, p1, p2, p3, p4, p5, p6, p7, p8, p9, p10, p11⟩ := row12 Rp
          (try clear q0 q1 q2 q3 q4 q5 q6 q7 q8 q9 q10 q11); obtain ⟨q0, q1, q2, q3, q4, q5, q6, q7, q8, q9, q10, q11⟩ := row12 Rq
          go_wp2_with fail
          refine (HR _).mono ?_
          rintro e w3 ⟨rfl, hb⟩
          replace Rs := Rs.later hb
          replace Rp := Rp.later hb
          replace Rq := Rq.later hb
          replace hb0 := below_step hb0 hb
          clear hb
          have ls := Rs.lt
          have lp := Rp.lt
          have lq := Rq.lt
          (try clear s0 s1 s2 s3 s4 s5 s6); obtain ⟨s0, s1, s2, s3, s4, s5, s6⟩ := row7 Rs
          (try clear p0 p1 p2 p3 p4 p5 p6 p7 p8 p9 p10 p11); obtain ⟨p0, p1, p2, p3, p4, p5, p6, p7, p8, p9, p10, p11⟩ := row12 Rp
          (try clear q0 q1 q2 q3 q4 q5 q6 q7 q8 q9 q10 q11); obtain ⟨q0, q1, q2, q3, q4, q5, q6, q7, q8, q9, q10, q11⟩ := row12 Rq
          go_wp2
          go_ret
          exact ⟨rfl, hb0⟩
      | true =>
        cases r with
        | false =>
          have hrr := Hr.out
          have hrn : decide (0 < i) = false := (decide_eq_decide.2 (by omega)).trans Hr.out
          go_wp2_with fail
          refine (HA _).mono ?_
          rintro e w1 ⟨rfl, hb⟩
          replace Rs := Rs.later hb
          replace Rp := Rp.later hb
          replace Rq := Rq.later hb
          replace hb0 := below_step hb0 hb
          clear hb
          have ls := Rs.lt
          have lp := Rp.lt
          have lq := Rq.lt
          (try clear s0 s1 s2 s3 s4 s5 s6); obtain ⟨s0, s1, s2, s3, s4, s5, s6⟩ := row7 Rs
          (try clear p0 p1 p2 p3 p4 p5 p6 p7 p8 p9 p10 p11); obtain ⟨p0, p1, p2, p3, p4, p5, p6, p7, p8, p9, p10, p11⟩ := row12 Rp
          (try clear q0 q1 q2 q3 q4 q5 q6 q7 q8 q9 q10 q11); obtain ⟨q0, q1, q2, q3, q4, q5, q6, q7, q8, q9, q10, q11⟩ := row12 Rq
          go_wp2_with fail
          refine (HO _).mono ?_
          rintro e w2 ⟨rfl, hb⟩
          replace Rs := Rs.later hb
          replace Rp := Rp.later hb
          replace Rq := Rq.later hb
          replace hb0 := below_step hb0 hb
          clear hb
          have ls := Rs.lt
          have lp := Rp.lt
          have lq := Rq.lt
          (try clear s0 s1 s2 s3 s4 s5 s6); obtain ⟨s0, s1, s2, s3, s4, s5, s6⟩ := row7 Rs
          (try clear p0 p1 p2 p3 p4 p5 p6 p7 p8 p9 p10 p11); obtain ⟨p0, p1, p2, p3, p4, p5, p6, p7, p8, p9, p10, p11⟩ := row12 Rp
          (try clear q0 q1 q2 q3 q4 q5 q6 q7 q8 q9 q10 q11); obtain ⟨q0, q1, q2, q3, q4, q5, q6, q7, q8, q9, q10, q11⟩ := row12 Rq
          go_wp2_with fail
          refine (HR _).mono ?_
          rintro e w3 ⟨rfl, hb⟩
          replace Rs := Rs.later hb
          replace Rp := Rp.later hb
          replace Rq := Rq.later hb
          replace hb0 := below_step hb0 hb
          clear hb
          have ls := Rs.lt
          have lp := Rp.lt
          have lq := Rq.lt
          (try clear s0 s1 s2 s3 s4 s5 s6); obtain ⟨s0, s1, s2, s3, s4, s5, s6⟩ := row7 Rs
          (try clear p0 p1 p2 p3 p4 p5 p6 p7 p8 p9 p10 p11); obtain ⟨p0, p1, p2, p3, p4, p5, p6, p7, p8, p9, p10, p11⟩ := row12 Rp
          (try clear q0 q1 q2 q3 q4 q5 q6 q7 q8 q9 q10 q11); obtain ⟨q0, q1, q2, q3, q4, q5, q6, q7, q8, q9, q10, q11⟩ := row12 Rq
          go_wp2
          go_ret
          exact ⟨rfl, hb0⟩
        | true =>
          have hrr := Hr.out
          have hrn : decide (0 < i) = true := (decide_eq_decide.2 (by omega)).trans Hr.out
          go_wp2_with fail
          refine (HA _).mono ?_
          rintro e w1 ⟨rfl, hb⟩
          replace Rs := Rs.later hb
          replace Rp := Rp.later hb
          replace Rq := Rq.later hb
          replace hb0 := below_step hb0 hb
          clear hb
          have ls := Rs.lt
          have lp := Rp.lt
          have lq := Rq.lt
          (try clear s0 s1 s2 s3 s4 s5 s6); obtain ⟨s0, s1, s2, s3, s4, s5, s6⟩ := row7 Rs
          (try clear p0 p1 p2 p3 p4 p5 p6 p7 p8 p9 p10 p11); obtain ⟨p0, p1, p2, p3, p4, p5, p6, p7, p8, p9, p10, p11⟩ := row12 Rp
          (try clear q0 q1 q2 q3 q4 q5 q6 q7 q8 q9 q10 q11); obtain ⟨q0, q1, q2, q3, q4, q5, q6, q7, q8, q9, q10, q11⟩ := row12 Rq
          go_wp2_with fail
          refine (HO _).mono ?_
          rintro e w2 ⟨rfl, hb⟩
          replace Rs := Rs.later hb
          replace Rp := Rp.later hb
          replace Rq := Rq.later hb
          replace hb0 := below_step hb0 hb
          clear hb
          have ls := Rs.lt
          have lp := Rp.lt
          have lq := Rq.lt
          (try clear s0 s1 s2 s3 s4 s5 s6); obtain ⟨s0, s1, s2, s3, s4, s5, s6⟩ := row7 Rs
          (try clear p0 p1 p2 p3 p4 p5 p6 p7 p8 p9 p10 p11); obtain ⟨p0, p1, p2, p3, p4, p5, p6, p7, p8, p9, p10, p11⟩ := row12 Rp
          (try clear q0 q1 q2 q3 q4 q5 q6 q7 q8 q9 q10 q11); obtain ⟨q0, q1, q2, q3, q4, q5, q6, q7, q8, q9, q10, q11⟩ := row12 Rq
          go_wp2_with fail
          refine (HR _).mono ?_
          rintro e w3 ⟨rfl, hb⟩
          replace Rs := Rs.later hb
          replace Rp := Rp.later hb
          replace Rq := Rq.later hb
          replace hb0 := below_step hb0 hb
          clear hb
          have ls := Rs.lt
          have lp := Rp.lt
          have lq := Rq.lt
          (try clear s0 s1 s2 s3 s4 s5 s6); obtain ⟨s0, s1, s2, s3, s4, s5, s6⟩ := row7 Rs
          (try clear p0 p1 p2 p3 p4 p5 p6 p7 p8 p9 p10 p11); obtain ⟨p0, p1, p2, p3, p4, p5, p6, p7, p8, p9, p10, p11⟩ := row12 Rp
          (try clear q0 q1 q2 q3 q4 q5 q6 q7 q8 q9 q10 q11); obtain ⟨q0, q1, q2, q3, q4, q5, q6, q7, q8, q9, q10, q11⟩ := row12 Rq
          go_wp2
          go_ret
          exact ⟨rfl, hb0⟩
theorem xs_slicedO {f : FuncId} {args : Array Value} {w : World} {l : List Px} {N : Nat} (hN : l.length = N) (h : Calls Try.prog f args w fun e w' => ∃ v, e = .returned v ∧ XS w' v l ∧ Below w.heap.size w w') : Calls Try.prog f args w fun e w' => ∃ p c, e = .returned (.slice p N c) ∧ XS w' (.slice p N c) l ∧ Below w.heap.size w w' := by
  refine h.mono ?_
  rintro e w' ⟨v, rfl, hx, hb⟩
  obtain ⟨p, c, rfl, _, _⟩ := xs_read hx
  rw [hN] at hx ⊢
  exact ⟨p, c, rfl, hx, hb⟩
theorem allP_ok {s : Sp} {p u : Px} (op : p.ok) (hu : u ∈ allP s p) : u.ok := by
  rw [← all_filter, List.mem_filter, List.mem_map] at hu
  obtain ⟨⟨n, hn, rfl⟩, _⟩ := hu
  have ra := wA_range s
  have rb := wB_range s
  obtain ⟨i, hlt, e⟩ := List.mem_iff_getElem.1 hn
  obtain ⟨x, y, e1, e2, _⟩ := walkN_get (a := wA s) (b := wB s) ra.1 rb.1 hlt
  rw [List.getElem?_eq_getElem hlt, e] at e1
  cases e1
  (try dsimp only at e2)
  exact upP_ok op s _ _ (by omega) (by omega) (by omega) (by omega)
theorem allP_len (s : Sp) (p : Px) : (allP s p).length ≤ 100000 := by
  rw [← all_filter]
  have ra := wA_range s
  have rb := wB_range s
  have hc := (walk_cnt ra.1 ra.2 rb.1 rb.2).2
  refine Nat.le_trans (List.length_filter_le _ _) ?_
  rw [List.length_map]; omega
theorem gridOver_any (s : Sp) (p q : Px) (op : p.ok) (oq : q.ok) (w : World) : Calls Try.prog 14 #[sv s, pv p, pv q] w fun e w' => e = .returned (.bool true) ∧ Below w.heap.size w w' := by
  have hfin : ((allP s p).take (allP s p).length).any (fun u => decide (u = q)) = overP s q p := by
    rw [take_full, Bool.eq_iff_iff, ← all_mem, List.any_eq_true]
    constructor
    · rintro ⟨u, hu, e⟩; rw [← of_decide_eq_true e]; exact hu
    · intro h; exact ⟨q, h, decide_eq_true rfl⟩
  refine gridOver_w s p q (allP s p).length (allP s p) (fun w => xs_slicedO rfl (all_t s p op w)) rfl (allP_len s p) (fun u hu w => ?_) (fun i => ((allP s p).take i).any (fun u => decide (u = q))) rfl (fun i u hu => ?_) (fun u => placeN (wA s) (wB s) u.a0 u.a1) (fun u _ w => place_t s u.a0 u.a1 w) (fun k u v h1 h2 => all_places h1 h2) (fun w => ?_) (rightP s p) (right9_t s p op) ?_ w
  · have h := over9_t s u p (allP_ok op hu) op w
    rw [all_mem.1 hu] at h
    exact h
  · (try dsimp only)
    rw [take_snoc _ _ _ hu, List.any_append]; simp
  · (try dsimp only)
    rw [hfin]; exact over9_t s q p oq op w
  · exact (decide_eq_decide.2 (by omega)).trans (all_some s p)
end Go.Proofs.Ytbekocknfpekoaa
