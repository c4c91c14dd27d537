/- P9, LawPrefixOrders, OpenP: what the theorem needs of these texts. No conditions beyond those that are written. -/
import Derived.Test.YtbekocknfpekoaaPA
import Derived.Test.YtbekocknfpekoaaJ0
import Derived.Test.YtbekocknfpekoaaJ4
import Derived.Test.YtbekocknfpekoaaJ1
import Derived.ChangeSame
namespace Go.Proofs.Ytbekocknfpekoaa
set_option linter.unusedVariables false
set_option linter.unusedSimpArgs false
open Go.RowKit
theorem pz_ok : pz.ok := ⟨kz_ok, kz_ok, by decide, by decide, by decide, by decide⟩
theorem upP_ok {p : Px} (ok : p.ok) (s : Sp) (b0 b1 : Int) (h0 : -9223372036854775808 ≤ b0) (h1 : b0 ≤ 9223372036854775807) (h2 : -9223372036854775808 ≤ b1) (h3 : b1 ≤ 9223372036854775807) : (upP s p b0 b1).ok := by
  unfold upP
  split
  · exact ⟨cutD_ok ok.k0 _ _, cutD_ok ok.k1 _ _, h0, h1, h2, h3⟩
  · exact pz_ok
theorem crossP_ok {p q : Px} (op : p.ok) (oq : q.ok) (s : Sp) : (crossP s p q).ok := by
  unfold crossP
  split
  · exact px_lower_ok op oq
  · exact pz_ok
theorem rootK_ok (k : Int) (h0 : -9223372036854775808 ≤ k) (h1 : k ≤ 9223372036854775807) : (rootK k).ok := by
  unfold rootK
  split
  · exact kz_ok
  · exact ⟨by unfold Word; dsimp only; omega, by unfold Word; dsimp only; omega, h0, h1, by dsimp only; omega, by dsimp only; omega, by simp⟩
theorem depthD_range (d : Dm) : 0 ≤ depthD d ∧ depthD d ≤ 128 := by
  cases h : rightD d with
  | true => have := depth_range h; omega
  | false => unfold depthD; rw [if_neg (by simp [h])]; omega
structure Sp.ok (s : Sp) : Prop where
  n0 : -9223372036854775808 ≤ s.n
  n1 : s.n ≤ 9223372036854775807
  d0 : s.d0.ok
  d1 : s.d1.ok
theorem topP_ok {s : Sp} (ok : s.ok) : (topP s).ok := by
  have h0 := depthD_range s.d0
  have h1 := depthD_range s.d1
  unfold topP
  split
  · exact ⟨rootK_ok _ ok.d0.k0 ok.d0.k1, rootK_ok _ ok.d1.k0 ok.d1.k1, by dsimp only; omega, by dsimp only; omega, by dsimp only; omega, by dsimp only; omega⟩
  · exact pz_ok
theorem fourK_ok (a : Int) : (fourK a).ok := ⟨word_hi _, word_lo _, by unfold fourK; dsimp only; omega, by unfold fourK; dsimp only; omega, by unfold fourK; dsimp only; omega, by unfold fourK; dsimp only; omega, by unfold fourK; simp⟩
def s9 : Sp := ⟨2, ⟨1, 1, 8⟩, ⟨1, 2, 8⟩⟩
theorem s9_ok : s9.ok := ⟨by decide, by decide, ⟨by decide, by decide, by decide, by decide, by decide, by decide⟩, ⟨by decide, by decide, by decide, by decide, by decide, by decide⟩⟩
def p9 : Px := ⟨0, 0, fourK 167837953, fourK 3232235777⟩
theorem p9_ok : p9.ok := ⟨fourK_ok _, fourK_ok _, by decide, by decide, by decide, by decide⟩
def a9 : Px := upP s9 p9 3 4
def b9 : Px := upP s9 p9 4 2
def x9 : Px := crossP s9 a9 b9
def t9 : Px := topP s9
theorem a9_ok : a9.ok := upP_ok p9_ok s9 3 4 (by decide) (by decide) (by decide) (by decide)
theorem b9_ok : b9.ok := upP_ok p9_ok s9 4 2 (by decide) (by decide) (by decide) (by decide)
theorem x9_ok : x9.ok := crossP_ok a9_ok b9_ok s9
theorem t9_ok : t9.ok := topP_ok s9_ok
theorem alive9_t (w : World) : Calls Try.prog 24 #[] w fun e w' => e = .returned (.bool true) ∧ Below w.heap.size w w' := by
  refine alive9_go s9 (fourK 167837953) (fourK 3232235777) (fourK 1) p9 a9 b9 x9 t9 (by decide +kernel) (by decide +kernel) four9_t
    (kfour_t _ (by decide) (by decide)) (kfour_t _ (by decide) (by decide)) (kfour_t _ (by decide) (by decide)) ?_ ?_ (up9_t s9 p9 p9_ok 3 4) (up9_t s9 p9 p9_ok 4 2) ?_ (top9_t s9) ?_ ?_ ?_ ?_ ?_ ?_ ?_ ?_ w
  · intro w
    have h := leaf_t s9 (fourK 167837953) (fourK 3232235777) (fourK_ok _) (fourK_ok _) w
    rw [show leafP s9 (fourK 167837953) (fourK 3232235777) = p9 by decide +kernel, show rightP s9 ⟨0, 0, fourK 167837953, fourK 3232235777⟩ = true by decide +kernel] at h
    exact h
  · intro w
    have h := leaf_t s9 (fourK 1) kz (fourK_ok _) kz_ok w
    rw [show leafP s9 (fourK 1) kz = pz by decide +kernel, show rightP s9 ⟨0, 0, fourK 1, kz⟩ = false by decide +kernel] at h
    exact h
  · intro w
    have h := cross9_t s9 a9 b9 a9_ok b9_ok w
    rw [show crossB s9 a9 b9 = true by decide +kernel] at h
    exact h
  · intro w
    have h := sound_t s9 w
    rw [show soundS s9 = true by decide +kernel] at h
    exact h
  · intro w
    have h := sound_t ⟨3, s9.d0, s9.d1⟩ w
    rw [show soundS ⟨3, s9.d0, s9.d1⟩ = false by decide +kernel] at h
    exact h
  · intro w
    have h := up9_t s9 p9 p9_ok 3 2 w
    rw [show upP s9 p9 3 2 = x9 by decide +kernel] at h
    exact h
  · intro w
    have h := height_t s9 x9 x9_ok w
    rw [show heightP s9 x9 = 5 by decide +kernel] at h
    exact h
  · intro w
    have h := over9_t s9 t9 p9 t9_ok p9_ok w
    rw [show overP s9 t9 p9 = true by decide +kernel] at h
    exact h
  · intro w
    have h := over9_t s9 p9 t9 p9_ok t9_ok w
    rw [show overP s9 p9 t9 = false by decide +kernel] at h
    exact h
  · intro w
    have h := pcmp_t p9 t9 p9_ok t9_ok w
    rw [show cmpP p9 t9 = -1 by decide +kernel] at h
    exact h
  · intro w
    have h := right9_t s9 x9 x9_ok w
    rw [show rightP s9 x9 = true by decide +kernel] at h
    exact h
end Go.Proofs.Ytbekocknfpekoaa
namespace Go.Proofs.Ytbekocknfpekoaa
set_option linter.unusedVariables false
set_option linter.unusedSimpArgs false
open Go.RowKit
set_option maxRecDepth 100000 in
set_option maxHeartbeats 16000000 in
theorem orders_a (p q x : Px) (n k : Int) (hq : decide (p = q) = false) (H1 : ∀ w, Calls Try.prog 32 #[pv p, pv q] w fun e w' => e = .returned (.int .i64 1) ∧ Below w.heap.size w w') (H2 : ∀ w, Calls Try.prog 32 #[pv q, pv p] w fun e w' => e = .returned (.int .i64 (-1)) ∧ Below w.heap.size w w') (w : World) : Calls Try.prog 9 #[pv p, pv q, pv x] w fun e w' => e = .returned (.bool true) ∧ Below w.heap.size w w' := by
  have qe := eql_px p q
  rw [hq] at qe
  have HA := alive9_t
  unfold pv at *
  obtain ⟨Rc, Rd, Re, hb0⟩ := three_rows w #[.int .i64 p.a0, .int .i64 p.a1, .int .i64 p.k0.kind, .int .i64 p.k0.len, .int .u64 p.k0.h, .int .u64 p.k0.l, .string ⟨p.k0.path.toArray⟩, .int .i64 p.k1.kind, .int .i64 p.k1.len, .int .u64 p.k1.h, .int .u64 p.k1.l, .string ⟨p.k1.path.toArray⟩] #[.int .i64 q.a0, .int .i64 q.a1, .int .i64 q.k0.kind, .int .i64 q.k0.len, .int .u64 q.k0.h, .int .u64 q.k0.l, .string ⟨q.k0.path.toArray⟩, .int .i64 q.k1.kind, .int .i64 q.k1.len, .int .u64 q.k1.h, .int .u64 q.k1.l, .string ⟨q.k1.path.toArray⟩] #[.int .i64 x.a0, .int .i64 x.a1, .int .i64 x.k0.kind, .int .i64 x.k0.len, .int .u64 x.k0.h, .int .u64 x.k0.l, .string ⟨x.k0.path.toArray⟩, .int .i64 x.k1.kind, .int .i64 x.k1.len, .int .u64 x.k1.h, .int .u64 x.k1.l, .string ⟨x.k1.path.toArray⟩] 33 33 33
  (try clear c0 c1 c2 c3 c4 c5 c6 c7 c8 c9 c10 c11); obtain ⟨c0, c1, c2, c3, c4, c5, c6, c7, c8, c9, c10, c11⟩ := row12 Rc
  (try clear d0 d1 d2 d3 d4 d5 d6 d7 d8 d9 d10 d11); obtain ⟨d0, d1, d2, d3, d4, d5, d6, d7, d8, d9, d10, d11⟩ := row12 Rd
  (try clear e0 e1 e2 e3 e4 e5 e6 e7 e8 e9 e10 e11); obtain ⟨e0, e1, e2, e3, e4, e5, e6, e7, e8, e9, e10, e11⟩ := row12 Re
  go_enter Try.func9, Try.ntmps9
  go_wp2_with fail
  refine wp_region_held_drew (S := (fun w' => Row w' w.heap.size #[.int .i64 p.a0, .int .i64 p.a1, .int .i64 p.k0.kind, .int .i64 p.k0.len, .int .u64 p.k0.h, .int .u64 p.k0.l, .string ⟨p.k0.path.toArray⟩, .int .i64 p.k1.kind, .int .i64 p.k1.len, .int .u64 p.k1.h, .int .u64 p.k1.l, .string ⟨p.k1.path.toArray⟩] 33 ∧ Row w' (w.heap.size + 1) #[.int .i64 q.a0, .int .i64 q.a1, .int .i64 q.k0.kind, .int .i64 q.k0.len, .int .u64 q.k0.h, .int .u64 q.k0.l, .string ⟨q.k0.path.toArray⟩, .int .i64 q.k1.kind, .int .i64 q.k1.len, .int .u64 q.k1.h, .int .u64 q.k1.l, .string ⟨q.k1.path.toArray⟩] 33)) (by kernel_rfl) ?hSr120_ (fun hHeld => ?_)
  case hSr120_ => (exact ⟨Rc.drew, Rd.drew⟩)
  (clear c0 c1 c2 c3 c4 c5 c6 c7 c8 c9 c10 c11 d0 d1 d2 d3 d4 d5 d6 d7 d8 d9 d10 d11 e0 e1 e2 e3 e4 e5 e6 e7 e8 e9 e10 e11; (replace Rc := Rc.drew); (replace Rd := Rd.drew); (replace Re := Re.drew); (replace hb0 := hb0.drew); (generalize World.drew _ = wq at *))
  refine tk 0 ⟨some 9, .load 33 (.tmp 3), 33, _, _, _⟩ hHeld ?_ (v := ?vr120_1_0) (hy := ?yr120_1_0)
  case yr120_1_0 => (intro wy hSw; obtain ⟨Qc, Qd⟩ := hSw; (with_reducible refine pexec_load 33 (.tmp 3) ?_ w.heap.size ?_ 33 #[.int .i64 p.a0, .int .i64 p.a1, .int .i64 p.k0.kind, .int .i64 p.k0.len, .int .u64 p.k0.h, .int .u64 p.k0.l, .string ⟨p.k0.path.toArray⟩, .int .i64 p.k1.kind, .int .i64 p.k1.len, .int .u64 p.k1.h, .int .u64 p.k1.l, .string ⟨p.k1.path.toArray⟩] _ Qc Try.underlying33 ?_ ?_) <;> first | rfl | exact infoPx)
  (try simp only [Act.put, nz1, nz2, nz3])
  refine tk 1 ⟨some 10, .load 33 (.tmp 4), 33, _, _, _⟩ hHeld ?_ (v := ?vr120_2_1) (hy := ?yr120_2_1)
  case yr120_2_1 => (intro wy hSw; obtain ⟨Qc, Qd⟩ := hSw; (with_reducible refine pexec_load 33 (.tmp 4) ?_ (w.heap.size + 1) ?_ 33 #[.int .i64 q.a0, .int .i64 q.a1, .int .i64 q.k0.kind, .int .i64 q.k0.len, .int .u64 q.k0.h, .int .u64 q.k0.l, .string ⟨q.k0.path.toArray⟩, .int .i64 q.k1.kind, .int .i64 q.k1.len, .int .u64 q.k1.h, .int .u64 q.k1.l, .string ⟨q.k1.path.toArray⟩] _ Qd Try.underlying33 ?_ ?_) <;> first | rfl | exact infoPx)
  (try simp only [Act.put, nz1, nz2, nz3])
  refine tk 3 ⟨some 12, .load 33 (.tmp 4), 33, _, _, _⟩ hHeld ?_ (v := ?vr120_3_3) (hy := ?yr120_3_3)
  case yr120_3_3 => (intro wy hSw; obtain ⟨Qc, Qd⟩ := hSw; (with_reducible refine pexec_load 33 (.tmp 4) ?_ (w.heap.size + 1) ?_ 33 #[.int .i64 q.a0, .int .i64 q.a1, .int .i64 q.k0.kind, .int .i64 q.k0.len, .int .u64 q.k0.h, .int .u64 q.k0.l, .string ⟨q.k0.path.toArray⟩, .int .i64 q.k1.kind, .int .i64 q.k1.len, .int .u64 q.k1.h, .int .u64 q.k1.l, .string ⟨q.k1.path.toArray⟩] _ Qd Try.underlying33 ?_ ?_) <;> first | rfl | exact infoPx)
  (try simp only [Act.put, nz1, nz2, nz3])
  refine tk 4 ⟨some 13, .load 33 (.tmp 3), 33, _, _, _⟩ hHeld ?_ (v := ?vr120_4_4) (hy := ?yr120_4_4)
  case yr120_4_4 => (intro wy hSw; obtain ⟨Qc, Qd⟩ := hSw; (with_reducible refine pexec_load 33 (.tmp 3) ?_ w.heap.size ?_ 33 #[.int .i64 p.a0, .int .i64 p.a1, .int .i64 p.k0.kind, .int .i64 p.k0.len, .int .u64 p.k0.h, .int .u64 p.k0.l, .string ⟨p.k0.path.toArray⟩, .int .i64 p.k1.kind, .int .i64 p.k1.len, .int .u64 p.k1.h, .int .u64 p.k1.l, .string ⟨p.k1.path.toArray⟩] _ Qc Try.underlying33 ?_ ?_) <;> first | rfl | exact infoPx)
  (try simp only [Act.put, nz1, nz2, nz3])
  refine wpAnyH_ready (rs := [2]) (by kernel_rfl) (by simp) ?_
  refine AllReadyH.cons (o := ⟨some 11, .call { callee := .value (.func 32), args := #[.tmp 9, .tmp 10], argTypes := #[33, 33] }, 3, _, _, _⟩) rfl (fun K hK => ?_) AllReadyH.nil
  (go_simp; (refine (H1 _).mono ?_); (rintro e wz ⟨rfl, hb⟩); (replace Rc := Rc.later hb); (replace Rd := Rd.later hb); (replace Re := Re.later hb); (replace hb0 := below_step hb0 hb); go_wp2_with fail)
  refine hK.out _ _ ?hSr120_5_2 (fun hHeld2 => ?_)
  case hSr120_5_2 => (obtain ⟨Qc, Qd⟩ := hHeld; exact ⟨Qc.later hb, Qd.later hb⟩)
  clear hK K hHeld
  have hHeld := hHeld2
  clear hHeld2
  rename World => wq
  (try simp only [Act.put, nz1, nz2, nz3])
  refine wpAnyH_ready (rs := [5]) (by kernel_rfl) (by simp) ?_
  refine AllReadyH.cons (o := ⟨some 14, .call { callee := .value (.func 32), args := #[.tmp 12, .tmp 13], argTypes := #[33, 33] }, 3, _, _, _⟩) rfl (fun K hK => ?_) AllReadyH.nil
  (go_simp; (refine (H2 _).mono ?_); (rintro e wz ⟨rfl, hb⟩); (replace Rc := Rc.later hb); (replace Rd := Rd.later hb); (replace Re := Re.later hb); (replace hb0 := below_step hb0 hb); go_wp2_with fail)
  refine hK.out _ _ ?hSr120_6_5 (fun hHeld2 => ?_)
  case hSr120_6_5 => (obtain ⟨Qc, Qd⟩ := hHeld; exact ⟨Qc.later hb, Qd.later hb⟩)
  clear hK K hHeld
  have hHeld := hHeld2
  clear hHeld2
  rename World => wq
  (try simp only [Act.put, nz1, nz2, nz3])
  refine tk 6 ⟨some 7, .assign (.tmp 11), 3, _, _, _⟩ hHeld ?_
  (try simp only [Act.put, nz1, nz2, nz3])
  refine tk 7 ⟨some 8, .assign (.tmp 14), 3, _, _, _⟩ hHeld ?_
  (try simp only [Act.put, nz1, nz2, nz3])
  refine wpAnyH_done (by kernel_rfl) ?_ _
  clear hHeld
  rename World => w1
  have lc := Rc.lt
  have ld := Rd.lt
  have le := Re.lt
  (try clear c0 c1 c2 c3 c4 c5 c6 c7 c8 c9 c10 c11); obtain ⟨c0, c1, c2, c3, c4, c5, c6, c7, c8, c9, c10, c11⟩ := row12 Rc
  (try clear d0 d1 d2 d3 d4 d5 d6 d7 d8 d9 d10 d11); obtain ⟨d0, d1, d2, d3, d4, d5, d6, d7, d8, d9, d10, d11⟩ := row12 Rd
  (try clear e0 e1 e2 e3 e4 e5 e6 e7 e8 e9 e10 e11); obtain ⟨e0, e1, e2, e3, e4, e5, e6, e7, e8, e9, e10, e11⟩ := row12 Re
  go_wp2_with fail
  refine (HA _).mono ?_
  rintro e w2 ⟨rfl, hb⟩
  replace Rc := Rc.later hb
  replace Rd := Rd.later hb
  replace Re := Re.later hb
  replace hb0 := below_step hb0 hb
  clear hb
  have lc := Rc.lt
  have ld := Rd.lt
  have le := Re.lt
  (try clear c0 c1 c2 c3 c4 c5 c6 c7 c8 c9 c10 c11); obtain ⟨c0, c1, c2, c3, c4, c5, c6, c7, c8, c9, c10, c11⟩ := row12 Rc
  (try clear d0 d1 d2 d3 d4 d5 d6 d7 d8 d9 d10 d11); obtain ⟨d0, d1, d2, d3, d4, d5, d6, d7, d8, d9, d10, d11⟩ := row12 Rd
  (try clear e0 e1 e2 e3 e4 e5 e6 e7 e8 e9 e10 e11); obtain ⟨e0, e1, e2, e3, e4, e5, e6, e7, e8, e9, e10, e11⟩ := row12 Re
  go_wp2
  go_ret
  exact ⟨rfl, hb0⟩
set_option maxRecDepth 100000 in
set_option maxHeartbeats 16000000 in
theorem orders_b (p q x : Px) (n k : Int) (hq : decide (p = q) = false) (H1 : ∀ w, Calls Try.prog 32 #[pv p, pv q] w fun e w' => e = .returned (.int .i64 (-1)) ∧ Below w.heap.size w w') (H2 : ∀ w, Calls Try.prog 32 #[pv q, pv p] w fun e w' => e = .returned (.int .i64 1) ∧ Below w.heap.size w w') (H3 : ∀ w, Calls Try.prog 32 #[pv q, pv x] w fun e w' => e = .returned (.int .i64 1) ∧ Below w.heap.size w w') (w : World) : Calls Try.prog 9 #[pv p, pv q, pv x] w fun e w' => e = .returned (.bool true) ∧ Below w.heap.size w w' := by
  have qe := eql_px p q
  rw [hq] at qe
  have HA := alive9_t
  unfold pv at *
  obtain ⟨Rc, Rd, Re, hb0⟩ := three_rows w #[.int .i64 p.a0, .int .i64 p.a1, .int .i64 p.k0.kind, .int .i64 p.k0.len, .int .u64 p.k0.h, .int .u64 p.k0.l, .string ⟨p.k0.path.toArray⟩, .int .i64 p.k1.kind, .int .i64 p.k1.len, .int .u64 p.k1.h, .int .u64 p.k1.l, .string ⟨p.k1.path.toArray⟩] #[.int .i64 q.a0, .int .i64 q.a1, .int .i64 q.k0.kind, .int .i64 q.k0.len, .int .u64 q.k0.h, .int .u64 q.k0.l, .string ⟨q.k0.path.toArray⟩, .int .i64 q.k1.kind, .int .i64 q.k1.len, .int .u64 q.k1.h, .int .u64 q.k1.l, .string ⟨q.k1.path.toArray⟩] #[.int .i64 x.a0, .int .i64 x.a1, .int .i64 x.k0.kind, .int .i64 x.k0.len, .int .u64 x.k0.h, .int .u64 x.k0.l, .string ⟨x.k0.path.toArray⟩, .int .i64 x.k1.kind, .int .i64 x.k1.len, .int .u64 x.k1.h, .int .u64 x.k1.l, .string ⟨x.k1.path.toArray⟩] 33 33 33
  (try clear c0 c1 c2 c3 c4 c5 c6 c7 c8 c9 c10 c11); obtain ⟨c0, c1, c2, c3, c4, c5, c6, c7, c8, c9, c10, c11⟩ := row12 Rc
  (try clear d0 d1 d2 d3 d4 d5 d6 d7 d8 d9 d10 d11); obtain ⟨d0, d1, d2, d3, d4, d5, d6, d7, d8, d9, d10, d11⟩ := row12 Rd
  (try clear e0 e1 e2 e3 e4 e5 e6 e7 e8 e9 e10 e11); obtain ⟨e0, e1, e2, e3, e4, e5, e6, e7, e8, e9, e10, e11⟩ := row12 Re
  go_enter Try.func9, Try.ntmps9
  go_wp2_with fail
  refine wp_region_held_drew (S := (fun w' => Row w' w.heap.size #[.int .i64 p.a0, .int .i64 p.a1, .int .i64 p.k0.kind, .int .i64 p.k0.len, .int .u64 p.k0.h, .int .u64 p.k0.l, .string ⟨p.k0.path.toArray⟩, .int .i64 p.k1.kind, .int .i64 p.k1.len, .int .u64 p.k1.h, .int .u64 p.k1.l, .string ⟨p.k1.path.toArray⟩] 33 ∧ Row w' (w.heap.size + 1) #[.int .i64 q.a0, .int .i64 q.a1, .int .i64 q.k0.kind, .int .i64 q.k0.len, .int .u64 q.k0.h, .int .u64 q.k0.l, .string ⟨q.k0.path.toArray⟩, .int .i64 q.k1.kind, .int .i64 q.k1.len, .int .u64 q.k1.h, .int .u64 q.k1.l, .string ⟨q.k1.path.toArray⟩] 33)) (by kernel_rfl) ?hSr121_ (fun hHeld => ?_)
  case hSr121_ => (exact ⟨Rc.drew, Rd.drew⟩)
  (clear c0 c1 c2 c3 c4 c5 c6 c7 c8 c9 c10 c11 d0 d1 d2 d3 d4 d5 d6 d7 d8 d9 d10 d11 e0 e1 e2 e3 e4 e5 e6 e7 e8 e9 e10 e11; (replace Rc := Rc.drew); (replace Rd := Rd.drew); (replace Re := Re.drew); (replace hb0 := hb0.drew); (generalize World.drew _ = wq at *))
  refine tk 0 ⟨some 9, .load 33 (.tmp 3), 33, _, _, _⟩ hHeld ?_ (v := ?vr121_1_0) (hy := ?yr121_1_0)
  case yr121_1_0 => (intro wy hSw; obtain ⟨Qc, Qd⟩ := hSw; (with_reducible refine pexec_load 33 (.tmp 3) ?_ w.heap.size ?_ 33 #[.int .i64 p.a0, .int .i64 p.a1, .int .i64 p.k0.kind, .int .i64 p.k0.len, .int .u64 p.k0.h, .int .u64 p.k0.l, .string ⟨p.k0.path.toArray⟩, .int .i64 p.k1.kind, .int .i64 p.k1.len, .int .u64 p.k1.h, .int .u64 p.k1.l, .string ⟨p.k1.path.toArray⟩] _ Qc Try.underlying33 ?_ ?_) <;> first | rfl | exact infoPx)
  (try simp only [Act.put, nz1, nz2, nz3])
  refine tk 1 ⟨some 10, .load 33 (.tmp 4), 33, _, _, _⟩ hHeld ?_ (v := ?vr121_2_1) (hy := ?yr121_2_1)
  case yr121_2_1 => (intro wy hSw; obtain ⟨Qc, Qd⟩ := hSw; (with_reducible refine pexec_load 33 (.tmp 4) ?_ (w.heap.size + 1) ?_ 33 #[.int .i64 q.a0, .int .i64 q.a1, .int .i64 q.k0.kind, .int .i64 q.k0.len, .int .u64 q.k0.h, .int .u64 q.k0.l, .string ⟨q.k0.path.toArray⟩, .int .i64 q.k1.kind, .int .i64 q.k1.len, .int .u64 q.k1.h, .int .u64 q.k1.l, .string ⟨q.k1.path.toArray⟩] _ Qd Try.underlying33 ?_ ?_) <;> first | rfl | exact infoPx)
  (try simp only [Act.put, nz1, nz2, nz3])
  refine tk 3 ⟨some 12, .load 33 (.tmp 4), 33, _, _, _⟩ hHeld ?_ (v := ?vr121_3_3) (hy := ?yr121_3_3)
  case yr121_3_3 => (intro wy hSw; obtain ⟨Qc, Qd⟩ := hSw; (with_reducible refine pexec_load 33 (.tmp 4) ?_ (w.heap.size + 1) ?_ 33 #[.int .i64 q.a0, .int .i64 q.a1, .int .i64 q.k0.kind, .int .i64 q.k0.len, .int .u64 q.k0.h, .int .u64 q.k0.l, .string ⟨q.k0.path.toArray⟩, .int .i64 q.k1.kind, .int .i64 q.k1.len, .int .u64 q.k1.h, .int .u64 q.k1.l, .string ⟨q.k1.path.toArray⟩] _ Qd Try.underlying33 ?_ ?_) <;> first | rfl | exact infoPx)
  (try simp only [Act.put, nz1, nz2, nz3])
  refine tk 4 ⟨some 13, .load 33 (.tmp 3), 33, _, _, _⟩ hHeld ?_ (v := ?vr121_4_4) (hy := ?yr121_4_4)
  case yr121_4_4 => (intro wy hSw; obtain ⟨Qc, Qd⟩ := hSw; (with_reducible refine pexec_load 33 (.tmp 3) ?_ w.heap.size ?_ 33 #[.int .i64 p.a0, .int .i64 p.a1, .int .i64 p.k0.kind, .int .i64 p.k0.len, .int .u64 p.k0.h, .int .u64 p.k0.l, .string ⟨p.k0.path.toArray⟩, .int .i64 p.k1.kind, .int .i64 p.k1.len, .int .u64 p.k1.h, .int .u64 p.k1.l, .string ⟨p.k1.path.toArray⟩] _ Qc Try.underlying33 ?_ ?_) <;> first | rfl | exact infoPx)
  (try simp only [Act.put, nz1, nz2, nz3])
  refine wpAnyH_ready (rs := [2]) (by kernel_rfl) (by simp) ?_
  refine AllReadyH.cons (o := ⟨some 11, .call { callee := .value (.func 32), args := #[.tmp 9, .tmp 10], argTypes := #[33, 33] }, 3, _, _, _⟩) rfl (fun K hK => ?_) AllReadyH.nil
  (go_simp; (refine (H1 _).mono ?_); (rintro e wz ⟨rfl, hb⟩); (replace Rc := Rc.later hb); (replace Rd := Rd.later hb); (replace Re := Re.later hb); (replace hb0 := below_step hb0 hb); go_wp2_with fail)
  refine hK.out _ _ ?hSr121_5_2 (fun hHeld2 => ?_)
  case hSr121_5_2 => (obtain ⟨Qc, Qd⟩ := hHeld; exact ⟨Qc.later hb, Qd.later hb⟩)
  clear hK K hHeld
  have hHeld := hHeld2
  clear hHeld2
  rename World => wq
  (try simp only [Act.put, nz1, nz2, nz3])
  refine wpAnyH_ready (rs := [5]) (by kernel_rfl) (by simp) ?_
  refine AllReadyH.cons (o := ⟨some 14, .call { callee := .value (.func 32), args := #[.tmp 12, .tmp 13], argTypes := #[33, 33] }, 3, _, _, _⟩) rfl (fun K hK => ?_) AllReadyH.nil
  (go_simp; (refine (H2 _).mono ?_); (rintro e wz ⟨rfl, hb⟩); (replace Rc := Rc.later hb); (replace Rd := Rd.later hb); (replace Re := Re.later hb); (replace hb0 := below_step hb0 hb); go_wp2_with fail)
  refine hK.out _ _ ?hSr121_6_5 (fun hHeld2 => ?_)
  case hSr121_6_5 => (obtain ⟨Qc, Qd⟩ := hHeld; exact ⟨Qc.later hb, Qd.later hb⟩)
  clear hK K hHeld
  have hHeld := hHeld2
  clear hHeld2
  rename World => wq
  (try simp only [Act.put, nz1, nz2, nz3])
  refine tk 6 ⟨some 7, .assign (.tmp 11), 3, _, _, _⟩ hHeld ?_
  (try simp only [Act.put, nz1, nz2, nz3])
  refine tk 7 ⟨some 8, .assign (.tmp 14), 3, _, _, _⟩ hHeld ?_
  (try simp only [Act.put, nz1, nz2, nz3])
  refine wpAnyH_done (by kernel_rfl) ?_ _
  clear hHeld
  rename World => w1
  have lc := Rc.lt
  have ld := Rd.lt
  have le := Re.lt
  (try clear c0 c1 c2 c3 c4 c5 c6 c7 c8 c9 c10 c11); obtain ⟨c0, c1, c2, c3, c4, c5, c6, c7, c8, c9, c10, c11⟩ := row12 Rc
  (try clear d0 d1 d2 d3 d4 d5 d6 d7 d8 d9 d10 d11); obtain ⟨d0, d1, d2, d3, d4, d5, d6, d7, d8, d9, d10, d11⟩ := row12 Rd
  (try clear e0 e1 e2 e3 e4 e5 e6 e7 e8 e9 e10 e11); obtain ⟨e0, e1, e2, e3, e4, e5, e6, e7, e8, e9, e10, e11⟩ := row12 Re
  go_wp2_with fail
  refine (HA _).mono ?_
  rintro e w2 ⟨rfl, hb⟩
  replace Rc := Rc.later hb
  replace Rd := Rd.later hb
  replace Re := Re.later hb
  replace hb0 := below_step hb0 hb
  clear hb
  have lc := Rc.lt
  have ld := Rd.lt
  have le := Re.lt
  (try clear c0 c1 c2 c3 c4 c5 c6 c7 c8 c9 c10 c11); obtain ⟨c0, c1, c2, c3, c4, c5, c6, c7, c8, c9, c10, c11⟩ := row12 Rc
  (try clear d0 d1 d2 d3 d4 d5 d6 d7 d8 d9 d10 d11); obtain ⟨d0, d1, d2, d3, d4, d5, d6, d7, d8, d9, d10, d11⟩ := row12 Rd
  (try clear e0 e1 e2 e3 e4 e5 e6 e7 e8 e9 e10 e11); obtain ⟨e0, e1, e2, e3, e4, e5, e6, e7, e8, e9, e10, e11⟩ := row12 Re
  go_wp2_with fail
  refine (H3 _).mono ?_
  rintro e w3 ⟨rfl, hb⟩
  replace Rc := Rc.later hb
  replace Rd := Rd.later hb
  replace Re := Re.later hb
  replace hb0 := below_step hb0 hb
  clear hb
  have lc := Rc.lt
  have ld := Rd.lt
  have le := Re.lt
  (try clear c0 c1 c2 c3 c4 c5 c6 c7 c8 c9 c10 c11); obtain ⟨c0, c1, c2, c3, c4, c5, c6, c7, c8, c9, c10, c11⟩ := row12 Rc
  (try clear d0 d1 d2 d3 d4 d5 d6 d7 d8 d9 d10 d11); obtain ⟨d0, d1, d2, d3, d4, d5, d6, d7, d8, d9, d10, d11⟩ := row12 Rd
  (try clear e0 e1 e2 e3 e4 e5 e6 e7 e8 e9 e10 e11); obtain ⟨e0, e1, e2, e3, e4, e5, e6, e7, e8, e9, e10, e11⟩ := row12 Re
  go_wp2
  go_ret
  exact ⟨rfl, hb0⟩
set_option maxRecDepth 100000 in
set_option maxHeartbeats 16000000 in
theorem orders_c (p q x : Px) (n k : Int) (hq : decide (p = q) = false) (H1 : ∀ w, Calls Try.prog 32 #[pv p, pv q] w fun e w' => e = .returned (.int .i64 (-1)) ∧ Below w.heap.size w w') (H2 : ∀ w, Calls Try.prog 32 #[pv q, pv p] w fun e w' => e = .returned (.int .i64 1) ∧ Below w.heap.size w w') (H3 : ∀ w, Calls Try.prog 32 #[pv q, pv x] w fun e w' => e = .returned (.int .i64 n) ∧ Below w.heap.size w w') (H4 : ∀ w, Calls Try.prog 32 #[pv p, pv x] w fun e w' => e = .returned (.int .i64 k) ∧ Below w.heap.size w w') (hn : n ≤ 0) (hk : k ≤ 0) (w : World) : Calls Try.prog 9 #[pv p, pv q, pv x] w fun e w' => e = .returned (.bool true) ∧ Below w.heap.size w w' := by
  have qe := eql_px p q
  rw [hq] at qe
  have HA := alive9_t
  have n1 : decide (0 < n) = false := decide_eq_false (by omega)
  have k1 : decide (k ≤ 0) = true := decide_eq_true hk
  unfold pv at *
  obtain ⟨Rc, Rd, Re, hb0⟩ := three_rows w #[.int .i64 p.a0, .int .i64 p.a1, .int .i64 p.k0.kind, .int .i64 p.k0.len, .int .u64 p.k0.h, .int .u64 p.k0.l, .string ⟨p.k0.path.toArray⟩, .int .i64 p.k1.kind, .int .i64 p.k1.len, .int .u64 p.k1.h, .int .u64 p.k1.l, .string ⟨p.k1.path.toArray⟩] #[.int .i64 q.a0, .int .i64 q.a1, .int .i64 q.k0.kind, .int .i64 q.k0.len, .int .u64 q.k0.h, .int .u64 q.k0.l, .string ⟨q.k0.path.toArray⟩, .int .i64 q.k1.kind, .int .i64 q.k1.len, .int .u64 q.k1.h, .int .u64 q.k1.l, .string ⟨q.k1.path.toArray⟩] #[.int .i64 x.a0, .int .i64 x.a1, .int .i64 x.k0.kind, .int .i64 x.k0.len, .int .u64 x.k0.h, .int .u64 x.k0.l, .string ⟨x.k0.path.toArray⟩, .int .i64 x.k1.kind, .int .i64 x.k1.len, .int .u64 x.k1.h, .int .u64 x.k1.l, .string ⟨x.k1.path.toArray⟩] 33 33 33
  (try clear c0 c1 c2 c3 c4 c5 c6 c7 c8 c9 c10 c11); obtain ⟨c0, c1, c2, c3, c4, c5, c6, c7, c8, c9, c10, c11⟩ := row12 Rc
  (try clear d0 d1 d2 d3 d4 d5 d6 d7 d8 d9 d10 d11); obtain ⟨d0, d1, d2, d3, d4, d5, d6, d7, d8, d9, d10, d11⟩ := row12 Rd
  (try clear e0 e1 e2 e3 e4 e5 e6 e7 e8 e9 e10 e11); obtain ⟨e0, e1, e2, e3, e4, e5, e6, e7, e8, e9, e10, e11⟩ := row12 Re
  go_enter Try.func9, Try.ntmps9
  go_wp2_with fail
  refine wp_region_held_drew (S := (fun w' => Row w' w.heap.size #[.int .i64 p.a0, .int .i64 p.a1, .int .i64 p.k0.kind, .int .i64 p.k0.len, .int .u64 p.k0.h, .int .u64 p.k0.l, .string ⟨p.k0.path.toArray⟩, .int .i64 p.k1.kind, .int .i64 p.k1.len, .int .u64 p.k1.h, .int .u64 p.k1.l, .string ⟨p.k1.path.toArray⟩] 33 ∧ Row w' (w.heap.size + 1) #[.int .i64 q.a0, .int .i64 q.a1, .int .i64 q.k0.kind, .int .i64 q.k0.len, .int .u64 q.k0.h, .int .u64 q.k0.l, .string ⟨q.k0.path.toArray⟩, .int .i64 q.k1.kind, .int .i64 q.k1.len, .int .u64 q.k1.h, .int .u64 q.k1.l, .string ⟨q.k1.path.toArray⟩] 33)) (by kernel_rfl) ?hSr122_ (fun hHeld => ?_)
  case hSr122_ => (exact ⟨Rc.drew, Rd.drew⟩)
  (clear c0 c1 c2 c3 c4 c5 c6 c7 c8 c9 c10 c11 d0 d1 d2 d3 d4 d5 d6 d7 d8 d9 d10 d11 e0 e1 e2 e3 e4 e5 e6 e7 e8 e9 e10 e11; (replace Rc := Rc.drew); (replace Rd := Rd.drew); (replace Re := Re.drew); (replace hb0 := hb0.drew); (generalize World.drew _ = wq at *))
  refine tk 0 ⟨some 9, .load 33 (.tmp 3), 33, _, _, _⟩ hHeld ?_ (v := ?vr122_1_0) (hy := ?yr122_1_0)
  case yr122_1_0 => (intro wy hSw; obtain ⟨Qc, Qd⟩ := hSw; (with_reducible refine pexec_load 33 (.tmp 3) ?_ w.heap.size ?_ 33 #[.int .i64 p.a0, .int .i64 p.a1, .int .i64 p.k0.kind, .int .i64 p.k0.len, .int .u64 p.k0.h, .int .u64 p.k0.l, .string ⟨p.k0.path.toArray⟩, .int .i64 p.k1.kind, .int .i64 p.k1.len, .int .u64 p.k1.h, .int .u64 p.k1.l, .string ⟨p.k1.path.toArray⟩] _ Qc Try.underlying33 ?_ ?_) <;> first | rfl | exact infoPx)
  (try simp only [Act.put, nz1, nz2, nz3])
  refine tk 1 ⟨some 10, .load 33 (.tmp 4), 33, _, _, _⟩ hHeld ?_ (v := ?vr122_2_1) (hy := ?yr122_2_1)
  case yr122_2_1 => (intro wy hSw; obtain ⟨Qc, Qd⟩ := hSw; (with_reducible refine pexec_load 33 (.tmp 4) ?_ (w.heap.size + 1) ?_ 33 #[.int .i64 q.a0, .int .i64 q.a1, .int .i64 q.k0.kind, .int .i64 q.k0.len, .int .u64 q.k0.h, .int .u64 q.k0.l, .string ⟨q.k0.path.toArray⟩, .int .i64 q.k1.kind, .int .i64 q.k1.len, .int .u64 q.k1.h, .int .u64 q.k1.l, .string ⟨q.k1.path.toArray⟩] _ Qd Try.underlying33 ?_ ?_) <;> first | rfl | exact infoPx)
  (try simp only [Act.put, nz1, nz2, nz3])
  refine tk 3 ⟨some 12, .load 33 (.tmp 4), 33, _, _, _⟩ hHeld ?_ (v := ?vr122_3_3) (hy := ?yr122_3_3)
  case yr122_3_3 => (intro wy hSw; obtain ⟨Qc, Qd⟩ := hSw; (with_reducible refine pexec_load 33 (.tmp 4) ?_ (w.heap.size + 1) ?_ 33 #[.int .i64 q.a0, .int .i64 q.a1, .int .i64 q.k0.kind, .int .i64 q.k0.len, .int .u64 q.k0.h, .int .u64 q.k0.l, .string ⟨q.k0.path.toArray⟩, .int .i64 q.k1.kind, .int .i64 q.k1.len, .int .u64 q.k1.h, .int .u64 q.k1.l, .string ⟨q.k1.path.toArray⟩] _ Qd Try.underlying33 ?_ ?_) <;> first | rfl | exact infoPx)
  (try simp only [Act.put, nz1, nz2, nz3])
  refine tk 4 ⟨some 13, .load 33 (.tmp 3), 33, _, _, _⟩ hHeld ?_ (v := ?vr122_4_4) (hy := ?yr122_4_4)
  case yr122_4_4 => (intro wy hSw; obtain ⟨Qc, Qd⟩ := hSw; (with_reducible refine pexec_load 33 (.tmp 3) ?_ w.heap.size ?_ 33 #[.int .i64 p.a0, .int .i64 p.a1, .int .i64 p.k0.kind, .int .i64 p.k0.len, .int .u64 p.k0.h, .int .u64 p.k0.l, .string ⟨p.k0.path.toArray⟩, .int .i64 p.k1.kind, .int .i64 p.k1.len, .int .u64 p.k1.h, .int .u64 p.k1.l, .string ⟨p.k1.path.toArray⟩] _ Qc Try.underlying33 ?_ ?_) <;> first | rfl | exact infoPx)
  (try simp only [Act.put, nz1, nz2, nz3])
  refine wpAnyH_ready (rs := [2]) (by kernel_rfl) (by simp) ?_
  refine AllReadyH.cons (o := ⟨some 11, .call { callee := .value (.func 32), args := #[.tmp 9, .tmp 10], argTypes := #[33, 33] }, 3, _, _, _⟩) rfl (fun K hK => ?_) AllReadyH.nil
  (go_simp; (refine (H1 _).mono ?_); (rintro e wz ⟨rfl, hb⟩); (replace Rc := Rc.later hb); (replace Rd := Rd.later hb); (replace Re := Re.later hb); (replace hb0 := below_step hb0 hb); go_wp2_with fail)
  refine hK.out _ _ ?hSr122_5_2 (fun hHeld2 => ?_)
  case hSr122_5_2 => (obtain ⟨Qc, Qd⟩ := hHeld; exact ⟨Qc.later hb, Qd.later hb⟩)
  clear hK K hHeld
  have hHeld := hHeld2
  clear hHeld2
  rename World => wq
  (try simp only [Act.put, nz1, nz2, nz3])
  refine wpAnyH_ready (rs := [5]) (by kernel_rfl) (by simp) ?_
  refine AllReadyH.cons (o := ⟨some 14, .call { callee := .value (.func 32), args := #[.tmp 12, .tmp 13], argTypes := #[33, 33] }, 3, _, _, _⟩) rfl (fun K hK => ?_) AllReadyH.nil
  (go_simp; (refine (H2 _).mono ?_); (rintro e wz ⟨rfl, hb⟩); (replace Rc := Rc.later hb); (replace Rd := Rd.later hb); (replace Re := Re.later hb); (replace hb0 := below_step hb0 hb); go_wp2_with fail)
  refine hK.out _ _ ?hSr122_6_5 (fun hHeld2 => ?_)
  case hSr122_6_5 => (obtain ⟨Qc, Qd⟩ := hHeld; exact ⟨Qc.later hb, Qd.later hb⟩)
  clear hK K hHeld
  have hHeld := hHeld2
  clear hHeld2
  rename World => wq
  (try simp only [Act.put, nz1, nz2, nz3])
  refine tk 6 ⟨some 7, .assign (.tmp 11), 3, _, _, _⟩ hHeld ?_
  (try simp only [Act.put, nz1, nz2, nz3])
  refine tk 7 ⟨some 8, .assign (.tmp 14), 3, _, _, _⟩ hHeld ?_
  (try simp only [Act.put, nz1, nz2, nz3])
  refine wpAnyH_done (by kernel_rfl) ?_ _
  clear hHeld
  rename World => w1
  have lc := Rc.lt
  have ld := Rd.lt
  have le := Re.lt
  (try clear c0 c1 c2 c3 c4 c5 c6 c7 c8 c9 c10 c11); obtain ⟨c0, c1, c2, c3, c4, c5, c6, c7, c8, c9, c10, c11⟩ := row12 Rc
  (try clear d0 d1 d2 d3 d4 d5 d6 d7 d8 d9 d10 d11); obtain ⟨d0, d1, d2, d3, d4, d5, d6, d7, d8, d9, d10, d11⟩ := row12 Rd
  (try clear e0 e1 e2 e3 e4 e5 e6 e7 e8 e9 e10 e11); obtain ⟨e0, e1, e2, e3, e4, e5, e6, e7, e8, e9, e10, e11⟩ := row12 Re
  go_wp2_with fail
  refine (HA _).mono ?_
  rintro e w2 ⟨rfl, hb⟩
  replace Rc := Rc.later hb
  replace Rd := Rd.later hb
  replace Re := Re.later hb
  replace hb0 := below_step hb0 hb
  clear hb
  have lc := Rc.lt
  have ld := Rd.lt
  have le := Re.lt
  (try clear c0 c1 c2 c3 c4 c5 c6 c7 c8 c9 c10 c11); obtain ⟨c0, c1, c2, c3, c4, c5, c6, c7, c8, c9, c10, c11⟩ := row12 Rc
  (try clear d0 d1 d2 d3 d4 d5 d6 d7 d8 d9 d10 d11); obtain ⟨d0, d1, d2, d3, d4, d5, d6, d7, d8, d9, d10, d11⟩ := row12 Rd
  (try clear e0 e1 e2 e3 e4 e5 e6 e7 e8 e9 e10 e11); obtain ⟨e0, e1, e2, e3, e4, e5, e6, e7, e8, e9, e10, e11⟩ := row12 Re
  go_wp2_with fail
  refine (H3 _).mono ?_
  rintro e w3 ⟨rfl, hb⟩
  replace Rc := Rc.later hb
  replace Rd := Rd.later hb
  replace Re := Re.later hb
  replace hb0 := below_step hb0 hb
  clear hb
  have lc := Rc.lt
  have ld := Rd.lt
  have le := Re.lt
  (try clear c0 c1 c2 c3 c4 c5 c6 c7 c8 c9 c10 c11); obtain ⟨c0, c1, c2, c3, c4, c5, c6, c7, c8, c9, c10, c11⟩ := row12 Rc
  (try clear d0 d1 d2 d3 d4 d5 d6 d7 d8 d9 d10 d11); obtain ⟨d0, d1, d2, d3, d4, d5, d6, d7, d8, d9, d10, d11⟩ := row12 Rd
  (try clear e0 e1 e2 e3 e4 e5 e6 e7 e8 e9 e10 e11); obtain ⟨e0, e1, e2, e3, e4, e5, e6, e7, e8, e9, e10, e11⟩ := row12 Re
  go_wp2_with fail
  refine (H4 _).mono ?_
  rintro e w4 ⟨rfl, hb⟩
  replace Rc := Rc.later hb
  replace Rd := Rd.later hb
  replace Re := Re.later hb
  replace hb0 := below_step hb0 hb
  clear hb
  have lc := Rc.lt
  have ld := Rd.lt
  have le := Re.lt
  (try clear c0 c1 c2 c3 c4 c5 c6 c7 c8 c9 c10 c11); obtain ⟨c0, c1, c2, c3, c4, c5, c6, c7, c8, c9, c10, c11⟩ := row12 Rc
  (try clear d0 d1 d2 d3 d4 d5 d6 d7 d8 d9 d10 d11); obtain ⟨d0, d1, d2, d3, d4, d5, d6, d7, d8, d9, d10, d11⟩ := row12 Rd
  (try clear e0 e1 e2 e3 e4 e5 e6 e7 e8 e9 e10 e11); obtain ⟨e0, e1, e2, e3, e4, e5, e6, e7, e8, e9, e10, e11⟩ := row12 Re
  go_wp2
  go_ret
  exact ⟨rfl, hb0⟩
set_option maxRecDepth 100000 in
set_option maxHeartbeats 16000000 in
theorem orders_d (p q x : Px) (n k : Int) (hq : decide (p = q) = true) (H1 : ∀ w, Calls Try.prog 32 #[pv p, pv q] w fun e w' => e = .returned (.int .i64 0) ∧ Below w.heap.size w w') (H2 : ∀ w, Calls Try.prog 32 #[pv q, pv p] w fun e w' => e = .returned (.int .i64 0) ∧ Below w.heap.size w w') (H3 : ∀ w, Calls Try.prog 32 #[pv q, pv x] w fun e w' => e = .returned (.int .i64 1) ∧ Below w.heap.size w w') (w : World) : Calls Try.prog 9 #[pv p, pv q, pv x] w fun e w' => e = .returned (.bool true) ∧ Below w.heap.size w w' := by
  have qe := eql_px p q
  rw [hq] at qe
  have HA := alive9_t
  unfold pv at *
  obtain ⟨Rc, Rd, Re, hb0⟩ := three_rows w #[.int .i64 p.a0, .int .i64 p.a1, .int .i64 p.k0.kind, .int .i64 p.k0.len, .int .u64 p.k0.h, .int .u64 p.k0.l, .string ⟨p.k0.path.toArray⟩, .int .i64 p.k1.kind, .int .i64 p.k1.len, .int .u64 p.k1.h, .int .u64 p.k1.l, .string ⟨p.k1.path.toArray⟩] #[.int .i64 q.a0, .int .i64 q.a1, .int .i64 q.k0.kind, .int .i64 q.k0.len, .int .u64 q.k0.h, .int .u64 q.k0.l, .string ⟨q.k0.path.toArray⟩, .int .i64 q.k1.kind, .int .i64 q.k1.len, .int .u64 q.k1.h, .int .u64 q.k1.l, .string ⟨q.k1.path.toArray⟩] #[.int .i64 x.a0, .int .i64 x.a1, .int .i64 x.k0.kind, .int .i64 x.k0.len, .int .u64 x.k0.h, .int .u64 x.k0.l, .string ⟨x.k0.path.toArray⟩, .int .i64 x.k1.kind, .int .i64 x.k1.len, .int .u64 x.k1.h, .int .u64 x.k1.l, .string ⟨x.k1.path.toArray⟩] 33 33 33
  (try clear c0 c1 c2 c3 c4 c5 c6 c7 c8 c9 c10 c11); obtain ⟨c0, c1, c2, c3, c4, c5, c6, c7, c8, c9, c10, c11⟩ := row12 Rc
  (try clear d0 d1 d2 d3 d4 d5 d6 d7 d8 d9 d10 d11); obtain ⟨d0, d1, d2, d3, d4, d5, d6, d7, d8, d9, d10, d11⟩ := row12 Rd
  (try clear e0 e1 e2 e3 e4 e5 e6 e7 e8 e9 e10 e11); obtain ⟨e0, e1, e2, e3, e4, e5, e6, e7, e8, e9, e10, e11⟩ := row12 Re
  go_enter Try.func9, Try.ntmps9
  go_wp2_with fail
  refine wp_region_held_drew (S := (fun w' => Row w' w.heap.size #[.int .i64 p.a0, .int .i64 p.a1, .int .i64 p.k0.kind, .int .i64 p.k0.len, .int .u64 p.k0.h, .int .u64 p.k0.l, .string ⟨p.k0.path.toArray⟩, .int .i64 p.k1.kind, .int .i64 p.k1.len, .int .u64 p.k1.h, .int .u64 p.k1.l, .string ⟨p.k1.path.toArray⟩] 33 ∧ Row w' (w.heap.size + 1) #[.int .i64 q.a0, .int .i64 q.a1, .int .i64 q.k0.kind, .int .i64 q.k0.len, .int .u64 q.k0.h, .int .u64 q.k0.l, .string ⟨q.k0.path.toArray⟩, .int .i64 q.k1.kind, .int .i64 q.k1.len, .int .u64 q.k1.h, .int .u64 q.k1.l, .string ⟨q.k1.path.toArray⟩] 33)) (by kernel_rfl) ?hSr123_ (fun hHeld => ?_)
  case hSr123_ => (exact ⟨Rc.drew, Rd.drew⟩)
  (clear c0 c1 c2 c3 c4 c5 c6 c7 c8 c9 c10 c11 d0 d1 d2 d3 d4 d5 d6 d7 d8 d9 d10 d11 e0 e1 e2 e3 e4 e5 e6 e7 e8 e9 e10 e11; (replace Rc := Rc.drew); (replace Rd := Rd.drew); (replace Re := Re.drew); (replace hb0 := hb0.drew); (generalize World.drew _ = wq at *))
  refine tk 0 ⟨some 9, .load 33 (.tmp 3), 33, _, _, _⟩ hHeld ?_ (v := ?vr123_1_0) (hy := ?yr123_1_0)
  case yr123_1_0 => (intro wy hSw; obtain ⟨Qc, Qd⟩ := hSw; (with_reducible refine pexec_load 33 (.tmp 3) ?_ w.heap.size ?_ 33 #[.int .i64 p.a0, .int .i64 p.a1, .int .i64 p.k0.kind, .int .i64 p.k0.len, .int .u64 p.k0.h, .int .u64 p.k0.l, .string ⟨p.k0.path.toArray⟩, .int .i64 p.k1.kind, .int .i64 p.k1.len, .int .u64 p.k1.h, .int .u64 p.k1.l, .string ⟨p.k1.path.toArray⟩] _ Qc Try.underlying33 ?_ ?_) <;> first | rfl | exact infoPx)
  (try simp only [Act.put, nz1, nz2, nz3])
  refine tk 1 ⟨some 10, .load 33 (.tmp 4), 33, _, _, _⟩ hHeld ?_ (v := ?vr123_2_1) (hy := ?yr123_2_1)
  case yr123_2_1 => (intro wy hSw; obtain ⟨Qc, Qd⟩ := hSw; (with_reducible refine pexec_load 33 (.tmp 4) ?_ (w.heap.size + 1) ?_ 33 #[.int .i64 q.a0, .int .i64 q.a1, .int .i64 q.k0.kind, .int .i64 q.k0.len, .int .u64 q.k0.h, .int .u64 q.k0.l, .string ⟨q.k0.path.toArray⟩, .int .i64 q.k1.kind, .int .i64 q.k1.len, .int .u64 q.k1.h, .int .u64 q.k1.l, .string ⟨q.k1.path.toArray⟩] _ Qd Try.underlying33 ?_ ?_) <;> first | rfl | exact infoPx)
  (try simp only [Act.put, nz1, nz2, nz3])
  refine tk 3 ⟨some 12, .load 33 (.tmp 4), 33, _, _, _⟩ hHeld ?_ (v := ?vr123_3_3) (hy := ?yr123_3_3)
  case yr123_3_3 => (intro wy hSw; obtain ⟨Qc, Qd⟩ := hSw; (with_reducible refine pexec_load 33 (.tmp 4) ?_ (w.heap.size + 1) ?_ 33 #[.int .i64 q.a0, .int .i64 q.a1, .int .i64 q.k0.kind, .int .i64 q.k0.len, .int .u64 q.k0.h, .int .u64 q.k0.l, .string ⟨q.k0.path.toArray⟩, .int .i64 q.k1.kind, .int .i64 q.k1.len, .int .u64 q.k1.h, .int .u64 q.k1.l, .string ⟨q.k1.path.toArray⟩] _ Qd Try.underlying33 ?_ ?_) <;> first | rfl | exact infoPx)
  (try simp only [Act.put, nz1, nz2, nz3])
  refine tk 4 ⟨some 13, .load 33 (.tmp 3), 33, _, _, _⟩ hHeld ?_ (v := ?vr123_4_4) (hy := ?yr123_4_4)
  case yr123_4_4 => (intro wy hSw; obtain ⟨Qc, Qd⟩ := hSw; (with_reducible refine pexec_load 33 (.tmp 3) ?_ w.heap.size ?_ 33 #[.int .i64 p.a0, .int .i64 p.a1, .int .i64 p.k0.kind, .int .i64 p.k0.len, .int .u64 p.k0.h, .int .u64 p.k0.l, .string ⟨p.k0.path.toArray⟩, .int .i64 p.k1.kind, .int .i64 p.k1.len, .int .u64 p.k1.h, .int .u64 p.k1.l, .string ⟨p.k1.path.toArray⟩] _ Qc Try.underlying33 ?_ ?_) <;> first | rfl | exact infoPx)
  (try simp only [Act.put, nz1, nz2, nz3])
  refine wpAnyH_ready (rs := [2]) (by kernel_rfl) (by simp) ?_
  refine AllReadyH.cons (o := ⟨some 11, .call { callee := .value (.func 32), args := #[.tmp 9, .tmp 10], argTypes := #[33, 33] }, 3, _, _, _⟩) rfl (fun K hK => ?_) AllReadyH.nil
  (go_simp; (refine (H1 _).mono ?_); (rintro e wz ⟨rfl, hb⟩); (replace Rc := Rc.later hb); (replace Rd := Rd.later hb); (replace Re := Re.later hb); (replace hb0 := below_step hb0 hb); go_wp2_with fail)
  refine hK.out _ _ ?hSr123_5_2 (fun hHeld2 => ?_)
  case hSr123_5_2 => (obtain ⟨Qc, Qd⟩ := hHeld; exact ⟨Qc.later hb, Qd.later hb⟩)
  clear hK K hHeld
  have hHeld := hHeld2
  clear hHeld2
  rename World => wq
  (try simp only [Act.put, nz1, nz2, nz3])
  refine wpAnyH_ready (rs := [5]) (by kernel_rfl) (by simp) ?_
  refine AllReadyH.cons (o := ⟨some 14, .call { callee := .value (.func 32), args := #[.tmp 12, .tmp 13], argTypes := #[33, 33] }, 3, _, _, _⟩) rfl (fun K hK => ?_) AllReadyH.nil
  (go_simp; (refine (H2 _).mono ?_); (rintro e wz ⟨rfl, hb⟩); (replace Rc := Rc.later hb); (replace Rd := Rd.later hb); (replace Re := Re.later hb); (replace hb0 := below_step hb0 hb); go_wp2_with fail)
  refine hK.out _ _ ?hSr123_6_5 (fun hHeld2 => ?_)
  case hSr123_6_5 => (obtain ⟨Qc, Qd⟩ := hHeld; exact ⟨Qc.later hb, Qd.later hb⟩)
  clear hK K hHeld
  have hHeld := hHeld2
  clear hHeld2
  rename World => wq
  (try simp only [Act.put, nz1, nz2, nz3])
  refine tk 6 ⟨some 7, .assign (.tmp 11), 3, _, _, _⟩ hHeld ?_
  (try simp only [Act.put, nz1, nz2, nz3])
  refine tk 7 ⟨some 8, .assign (.tmp 14), 3, _, _, _⟩ hHeld ?_
  (try simp only [Act.put, nz1, nz2, nz3])
  refine wpAnyH_done (by kernel_rfl) ?_ _
  clear hHeld
  rename World => w1
  have lc := Rc.lt
  have ld := Rd.lt
  have le := Re.lt
  (try clear c0 c1 c2 c3 c4 c5 c6 c7 c8 c9 c10 c11); obtain ⟨c0, c1, c2, c3, c4, c5, c6, c7, c8, c9, c10, c11⟩ := row12 Rc
  (try clear d0 d1 d2 d3 d4 d5 d6 d7 d8 d9 d10 d11); obtain ⟨d0, d1, d2, d3, d4, d5, d6, d7, d8, d9, d10, d11⟩ := row12 Rd
  (try clear e0 e1 e2 e3 e4 e5 e6 e7 e8 e9 e10 e11); obtain ⟨e0, e1, e2, e3, e4, e5, e6, e7, e8, e9, e10, e11⟩ := row12 Re
  go_wp2_with fail
  refine (HA _).mono ?_
  rintro e w2 ⟨rfl, hb⟩
  replace Rc := Rc.later hb
  replace Rd := Rd.later hb
  replace Re := Re.later hb
  replace hb0 := below_step hb0 hb
  clear hb
  have lc := Rc.lt
  have ld := Rd.lt
  have le := Re.lt
  (try clear c0 c1 c2 c3 c4 c5 c6 c7 c8 c9 c10 c11); obtain ⟨c0, c1, c2, c3, c4, c5, c6, c7, c8, c9, c10, c11⟩ := row12 Rc
  (try clear d0 d1 d2 d3 d4 d5 d6 d7 d8 d9 d10 d11); obtain ⟨d0, d1, d2, d3, d4, d5, d6, d7, d8, d9, d10, d11⟩ := row12 Rd
  (try clear e0 e1 e2 e3 e4 e5 e6 e7 e8 e9 e10 e11); obtain ⟨e0, e1, e2, e3, e4, e5, e6, e7, e8, e9, e10, e11⟩ := row12 Re
  go_wp2_with fail
  refine (H3 _).mono ?_
  rintro e w3 ⟨rfl, hb⟩
  replace Rc := Rc.later hb
  replace Rd := Rd.later hb
  replace Re := Re.later hb
  replace hb0 := below_step hb0 hb
  clear hb
  have lc := Rc.lt
  have ld := Rd.lt
  have le := Re.lt
  (try clear c0 c1 c2 c3 c4 c5 c6 c7 c8 c9 c10 c11); obtain ⟨c0, c1, c2, c3, c4, c5, c6, c7, c8, c9, c10, c11⟩ := row12 Rc
  (try clear d0 d1 d2 d3 d4 d5 d6 d7 d8 d9 d10 d11); obtain ⟨d0, d1, d2, d3, d4, d5, d6, d7, d8, d9, d10, d11⟩ := row12 Rd
  (try clear e0 e1 e2 e3 e4 e5 e6 e7 e8 e9 e10 e11); obtain ⟨e0, e1, e2, e3, e4, e5, e6, e7, e8, e9, e10, e11⟩ := row12 Re
  go_wp2
  go_ret
  exact ⟨rfl, hb0⟩
set_option maxRecDepth 100000 in
set_option maxHeartbeats 16000000 in
theorem orders_e (p q x : Px) (n k : Int) (hq : decide (p = q) = true) (H1 : ∀ w, Calls Try.prog 32 #[pv p, pv q] w fun e w' => e = .returned (.int .i64 0) ∧ Below w.heap.size w w') (H2 : ∀ w, Calls Try.prog 32 #[pv q, pv p] w fun e w' => e = .returned (.int .i64 0) ∧ Below w.heap.size w w') (H3 : ∀ w, Calls Try.prog 32 #[pv q, pv x] w fun e w' => e = .returned (.int .i64 n) ∧ Below w.heap.size w w') (H4 : ∀ w, Calls Try.prog 32 #[pv p, pv x] w fun e w' => e = .returned (.int .i64 k) ∧ Below w.heap.size w w') (hn : n ≤ 0) (hk : k ≤ 0) (w : World) : Calls Try.prog 9 #[pv p, pv q, pv x] w fun e w' => e = .returned (.bool true) ∧ Below w.heap.size w w' := by
  have qe := eql_px p q
  rw [hq] at qe
  have HA := alive9_t
  have n1 : decide (0 < n) = false := decide_eq_false (by omega)
  have k1 : decide (k ≤ 0) = true := decide_eq_true hk
  unfold pv at *
  obtain ⟨Rc, Rd, Re, hb0⟩ := three_rows w #[.int .i64 p.a0, .int .i64 p.a1, .int .i64 p.k0.kind, .int .i64 p.k0.len, .int .u64 p.k0.h, .int .u64 p.k0.l, .string ⟨p.k0.path.toArray⟩, .int .i64 p.k1.kind, .int .i64 p.k1.len, .int .u64 p.k1.h, .int .u64 p.k1.l, .string ⟨p.k1.path.toArray⟩] #[.int .i64 q.a0, .int .i64 q.a1, .int .i64 q.k0.kind, .int .i64 q.k0.len, .int .u64 q.k0.h, .int .u64 q.k0.l, .string ⟨q.k0.path.toArray⟩, .int .i64 q.k1.kind, .int .i64 q.k1.len, .int .u64 q.k1.h, .int .u64 q.k1.l, .string ⟨q.k1.path.toArray⟩] #[.int .i64 x.a0, .int .i64 x.a1, .int .i64 x.k0.kind, .int .i64 x.k0.len, .int .u64 x.k0.h, .int .u64 x.k0.l, .string ⟨x.k0.path.toArray⟩, .int .i64 x.k1.kind, .int .i64 x.k1.len, .int .u64 x.k1.h, .int .u64 x.k1.l, .string ⟨x.k1.path.toArray⟩] 33 33 33
  (try clear c0 c1 c2 c3 c4 c5 c6 c7 c8 c9 c10 c11); obtain ⟨c0, c1, c2, c3, c4, c5, c6, c7, c8, c9, c10, c11⟩ := row12 Rc
  (try clear d0 d1 d2 d3 d4 d5 d6 d7 d8 d9 d10 d11); obtain ⟨d0, d1, d2, d3, d4, d5, d6, d7, d8, d9, d10, d11⟩ := row12 Rd
  (try clear e0 e1 e2 e3 e4 e5 e6 e7 e8 e9 e10 e11); obtain ⟨e0, e1, e2, e3, e4, e5, e6, e7, e8, e9, e10, e11⟩ := row12 Re
  go_enter Try.func9, Try.ntmps9
  go_wp2_with fail
  refine wp_region_held_drew (S := (fun w' => Row w' w.heap.size #[.int .i64 p.a0, .int .i64 p.a1, .int .i64 p.k0.kind, .int .i64 p.k0.len, .int .u64 p.k0.h, .int .u64 p.k0.l, .string ⟨p.k0.path.toArray⟩, .int .i64 p.k1.kind, .int .i64 p.k1.len, .int .u64 p.k1.h, .int .u64 p.k1.l, .string ⟨p.k1.path.toArray⟩] 33 ∧ Row w' (w.heap.size + 1) #[.int .i64 q.a0, .int .i64 q.a1, .int .i64 q.k0.kind, .int .i64 q.k0.len, .int .u64 q.k0.h, .int .u64 q.k0.l, .string ⟨q.k0.path.toArray⟩, .int .i64 q.k1.kind, .int .i64 q.k1.len, .int .u64 q.k1.h, .int .u64 q.k1.l, .string ⟨q.k1.path.toArray⟩] 33)) (by kernel_rfl) ?hSr124_ (fun hHeld => ?_)
  case hSr124_ => (exact ⟨Rc.drew, Rd.drew⟩)
  (clear c0 c1 c2 c3 c4 c5 c6 c7 c8 c9 c10 c11 d0 d1 d2 d3 d4 d5 d6 d7 d8 d9 d10 d11 e0 e1 e2 e3 e4 e5 e6 e7 e8 e9 e10 e11; (replace Rc := Rc.drew); (replace Rd := Rd.drew); (replace Re := Re.drew); (replace hb0 := hb0.drew); (generalize World.drew _ = wq at *))
  refine tk 0 ⟨some 9, .load 33 (.tmp 3), 33, _, _, _⟩ hHeld ?_ (v := ?vr124_1_0) (hy := ?yr124_1_0)
  case yr124_1_0 => (intro wy hSw; obtain ⟨Qc, Qd⟩ := hSw; (with_reducible refine pexec_load 33 (.tmp 3) ?_ w.heap.size ?_ 33 #[.int .i64 p.a0, .int .i64 p.a1, .int .i64 p.k0.kind, .int .i64 p.k0.len, .int .u64 p.k0.h, .int .u64 p.k0.l, .string ⟨p.k0.path.toArray⟩, .int .i64 p.k1.kind, .int .i64 p.k1.len, .int .u64 p.k1.h, .int .u64 p.k1.l, .string ⟨p.k1.path.toArray⟩] _ Qc Try.underlying33 ?_ ?_) <;> first | rfl | exact infoPx)
  (try simp only [Act.put, nz1, nz2, nz3])
  refine tk 1 ⟨some 10, .load 33 (.tmp 4), 33, _, _, _⟩ hHeld ?_ (v := ?vr124_2_1) (hy := ?yr124_2_1)
  case yr124_2_1 => (intro wy hSw; obtain ⟨Qc, Qd⟩ := hSw; (with_reducible refine pexec_load 33 (.tmp 4) ?_ (w.heap.size + 1) ?_ 33 #[.int .i64 q.a0, .int .i64 q.a1, .int .i64 q.k0.kind, .int .i64 q.k0.len, .int .u64 q.k0.h, .int .u64 q.k0.l, .string ⟨q.k0.path.toArray⟩, .int .i64 q.k1.kind, .int .i64 q.k1.len, .int .u64 q.k1.h, .int .u64 q.k1.l, .string ⟨q.k1.path.toArray⟩] _ Qd Try.underlying33 ?_ ?_) <;> first | rfl | exact infoPx)
  (try simp only [Act.put, nz1, nz2, nz3])
  refine tk 3 ⟨some 12, .load 33 (.tmp 4), 33, _, _, _⟩ hHeld ?_ (v := ?vr124_3_3) (hy := ?yr124_3_3)
  case yr124_3_3 => (intro wy hSw; obtain ⟨Qc, Qd⟩ := hSw; (with_reducible refine pexec_load 33 (.tmp 4) ?_ (w.heap.size + 1) ?_ 33 #[.int .i64 q.a0, .int .i64 q.a1, .int .i64 q.k0.kind, .int .i64 q.k0.len, .int .u64 q.k0.h, .int .u64 q.k0.l, .string ⟨q.k0.path.toArray⟩, .int .i64 q.k1.kind, .int .i64 q.k1.len, .int .u64 q.k1.h, .int .u64 q.k1.l, .string ⟨q.k1.path.toArray⟩] _ Qd Try.underlying33 ?_ ?_) <;> first | rfl | exact infoPx)
  (try simp only [Act.put, nz1, nz2, nz3])
  refine tk 4 ⟨some 13, .load 33 (.tmp 3), 33, _, _, _⟩ hHeld ?_ (v := ?vr124_4_4) (hy := ?yr124_4_4)
  case yr124_4_4 => (intro wy hSw; obtain ⟨Qc, Qd⟩ := hSw; (with_reducible refine pexec_load 33 (.tmp 3) ?_ w.heap.size ?_ 33 #[.int .i64 p.a0, .int .i64 p.a1, .int .i64 p.k0.kind, .int .i64 p.k0.len, .int .u64 p.k0.h, .int .u64 p.k0.l, .string ⟨p.k0.path.toArray⟩, .int .i64 p.k1.kind, .int .i64 p.k1.len, .int .u64 p.k1.h, .int .u64 p.k1.l, .string ⟨p.k1.path.toArray⟩] _ Qc Try.underlying33 ?_ ?_) <;> first | rfl | exact infoPx)
  (try simp only [Act.put, nz1, nz2, nz3])
  refine wpAnyH_ready (rs := [2]) (by kernel_rfl) (by simp) ?_
  refine AllReadyH.cons (o := ⟨some 11, .call { callee := .value (.func 32), args := #[.tmp 9, .tmp 10], argTypes := #[33, 33] }, 3, _, _, _⟩) rfl (fun K hK => ?_) AllReadyH.nil
  (go_simp; (refine (H1 _).mono ?_); (rintro e wz ⟨rfl, hb⟩); (replace Rc := Rc.later hb); (replace Rd := Rd.later hb); (replace Re := Re.later hb); (replace hb0 := below_step hb0 hb); go_wp2_with fail)
  refine hK.out _ _ ?hSr124_5_2 (fun hHeld2 => ?_)
  case hSr124_5_2 => (obtain ⟨Qc, Qd⟩ := hHeld; exact ⟨Qc.later hb, Qd.later hb⟩)
  clear hK K hHeld
  have hHeld := hHeld2
  clear hHeld2
  rename World => wq
  (try simp only [Act.put, nz1, nz2, nz3])
  refine wpAnyH_ready (rs := [5]) (by kernel_rfl) (by simp) ?_
  refine AllReadyH.cons (o := ⟨some 14, .call { callee := .value (.func 32), args := #[.tmp 12, .tmp 13], argTypes := #[33, 33] }, 3, _, _, _⟩) rfl (fun K hK => ?_) AllReadyH.nil
  (go_simp; (refine (H2 _).mono ?_); (rintro e wz ⟨rfl, hb⟩); (replace Rc := Rc.later hb); (replace Rd := Rd.later hb); (replace Re := Re.later hb); (replace hb0 := below_step hb0 hb); go_wp2_with fail)
  refine hK.out _ _ ?hSr124_6_5 (fun hHeld2 => ?_)
  case hSr124_6_5 => (obtain ⟨Qc, Qd⟩ := hHeld; exact ⟨Qc.later hb, Qd.later hb⟩)
  clear hK K hHeld
  have hHeld := hHeld2
  clear hHeld2
  rename World => wq
  (try simp only [Act.put, nz1, nz2, nz3])
  refine tk 6 ⟨some 7, .assign (.tmp 11), 3, _, _, _⟩ hHeld ?_
  (try simp only [Act.put, nz1, nz2, nz3])
  refine tk 7 ⟨some 8, .assign (.tmp 14), 3, _, _, _⟩ hHeld ?_
  (try simp only [Act.put, nz1, nz2, nz3])
  refine wpAnyH_done (by kernel_rfl) ?_ _
  clear hHeld
  rename World => w1
  have lc := Rc.lt
  have ld := Rd.lt
  have le := Re.lt
  (try clear c0 c1 c2 c3 c4 c5 c6 c7 c8 c9 c10 c11); obtain ⟨c0, c1, c2, c3, c4, c5, c6, c7, c8, c9, c10, c11⟩ := row12 Rc
  (try clear d0 d1 d2 d3 d4 d5 d6 d7 d8 d9 d10 d11); obtain ⟨d0, d1, d2, d3, d4, d5, d6, d7, d8, d9, d10, d11⟩ := row12 Rd
  (try clear e0 e1 e2 e3 e4 e5 e6 e7 e8 e9 e10 e11); obtain ⟨e0, e1, e2, e3, e4, e5, e6, e7, e8, e9, e10, e11⟩ := row12 Re
  go_wp2_with fail
  refine (HA _).mono ?_
  rintro e w2 ⟨rfl, hb⟩
  replace Rc := Rc.later hb
  replace Rd := Rd.later hb
  replace Re := Re.later hb
  replace hb0 := below_step hb0 hb
  clear hb
  have lc := Rc.lt
  have ld := Rd.lt
  have le := Re.lt
  (try clear c0 c1 c2 c3 c4 c5 c6 c7 c8 c9 c10 c11); obtain ⟨c0, c1, c2, c3, c4, c5, c6, c7, c8, c9, c10, c11⟩ := row12 Rc
  (try clear d0 d1 d2 d3 d4 d5 d6 d7 d8 d9 d10 d11); obtain ⟨d0, d1, d2, d3, d4, d5, d6, d7, d8, d9, d10, d11⟩ := row12 Rd
  (try clear e0 e1 e2 e3 e4 e5 e6 e7 e8 e9 e10 e11); obtain ⟨e0, e1, e2, e3, e4, e5, e6, e7, e8, e9, e10, e11⟩ := row12 Re
  go_wp2_with fail
  refine (H3 _).mono ?_
  rintro e w3 ⟨rfl, hb⟩
  replace Rc := Rc.later hb
  replace Rd := Rd.later hb
  replace Re := Re.later hb
  replace hb0 := below_step hb0 hb
  clear hb
  have lc := Rc.lt
  have ld := Rd.lt
  have le := Re.lt
  (try clear c0 c1 c2 c3 c4 c5 c6 c7 c8 c9 c10 c11); obtain ⟨c0, c1, c2, c3, c4, c5, c6, c7, c8, c9, c10, c11⟩ := row12 Rc
  (try clear d0 d1 d2 d3 d4 d5 d6 d7 d8 d9 d10 d11); obtain ⟨d0, d1, d2, d3, d4, d5, d6, d7, d8, d9, d10, d11⟩ := row12 Rd
  (try clear e0 e1 e2 e3 e4 e5 e6 e7 e8 e9 e10 e11); obtain ⟨e0, e1, e2, e3, e4, e5, e6, e7, e8, e9, e10, e11⟩ := row12 Re
  go_wp2_with fail
  refine (H4 _).mono ?_
  rintro e w4 ⟨rfl, hb⟩
  replace Rc := Rc.later hb
  replace Rd := Rd.later hb
  replace Re := Re.later hb
  replace hb0 := below_step hb0 hb
  clear hb
  have lc := Rc.lt
  have ld := Rd.lt
  have le := Re.lt
  (try clear c0 c1 c2 c3 c4 c5 c6 c7 c8 c9 c10 c11); obtain ⟨c0, c1, c2, c3, c4, c5, c6, c7, c8, c9, c10, c11⟩ := row12 Rc
  (try clear d0 d1 d2 d3 d4 d5 d6 d7 d8 d9 d10 d11); obtain ⟨d0, d1, d2, d3, d4, d5, d6, d7, d8, d9, d10, d11⟩ := row12 Rd
  (try clear e0 e1 e2 e3 e4 e5 e6 e7 e8 e9 e10 e11); obtain ⟨e0, e1, e2, e3, e4, e5, e6, e7, e8, e9, e10, e11⟩ := row12 Re
  go_wp2
  go_ret
  exact ⟨rfl, hb0⟩
theorem orders_any (p q x : Px) (op : p.ok) (oq : q.ok) (ox : x.ok) (w : World) : Calls Try.prog 9 #[pv p, pv q, pv x] w fun e w' => e = .returned (.bool true) ∧ Below w.heap.size w w' := by
  have H1 := pcmp_t p q op oq
  have H2 := pcmp_t q p oq op
  have H3 := pcmp_t q x oq ox
  have H4 := pcmp_t p x op ox
  have hz := cmpP_zero op oq
  have ha := ord_P.anti p q
  have l1 := ord_P.lo p q
  have l2 := ord_P.hi p q
  have l3 := ord_P.lo q x
  have l4 := ord_P.hi q x
  have ht := ord_P.tr p q x
  rw [ha] at H2
  generalize cmpP p q = m at *
  generalize cmpP q x = n at *
  generalize cmpP p x = k at *
  have hm : m = -1 ∨ m = 0 ∨ m = 1 := by omega
  rcases hm with rfl | rfl | rfl
  · have hq : decide (p = q) = false := decide_eq_false (fun e => by have := hz.2 e; omega)
    by_cases hn : n ≤ 0
    · exact orders_c p q x n k hq H1 H2 H3 H4 hn (ht (by omega) hn) w
    · obtain rfl : n = 1 := by omega
      exact orders_b p q x 1 k hq H1 H2 H3 w
  · have hq : decide (p = q) = true := decide_eq_true (hz.1 rfl)
    by_cases hn : n ≤ 0
    · exact orders_e p q x n k hq H1 H2 H3 H4 hn (ht (by omega) hn) w
    · obtain rfl : n = 1 := by omega
      exact orders_d p q x 1 k hq H1 H2 H3 w
  · have hq : decide (p = q) = false := decide_eq_false (fun e => by have := hz.2 e; omega)
    exact orders_a p q x n k hq H1 H2 w
end Go.Proofs.Ytbekocknfpekoaa
namespace Go.Proofs.Ytbekocknfpekoaa
set_option linter.unusedVariables false
set_option linter.unusedSimpArgs false
open Go.ChangeShapes Go.WideShapes Go.ChangeAt Go.RowKit Go.Joins Go.Deep
theorem cellsPx : Try.prog.cellsOf 33 = 12 := by kernel_rfl
theorem cellsAt : Try.prog.cellsOf 27 = 2 := by kernel_rfl
theorem cellsK2 : Try.prog.cellsOf 31 = 10 := by kernel_rfl
theorem cellsInt : Try.prog.cellsOf 3 = 1 := by kernel_rfl
section
variable {H : Type} {enc : TypeId × Value → H} {W : World} {base : Nat} {sp : Nat → Bool} {held : Bool}
def keyData (k : Ke) : DataW H := .agg [.lit (.int .i64 k.kind), .lit (.int .i64 k.len), .lit (.int .u64 k.h), .lit (.int .u64 k.l), .lit (.string k.path)]
set_option maxRecDepth 100000 in
theorem keyc_of {c0 c1 c2 c3 c4 : Value} {x : DataW H × List MemPlace} {fuel : Nat} (hf : DataW.trod enc Try.prog W base sp held fuel 30 [c0, c1, c2, c3, c4] = some x) :
    ∃ k : Ke, c0 = .int .i64 k.kind ∧ c1 = .int .i64 k.len ∧ c2 = .int .u64 k.h ∧ c3 = .int .u64 k.l ∧ c4 = .string ⟨k.path.toArray⟩ ∧ k.okL ∧ x.1 = keyData k := by
  have hs := Try.underlying30
  have F := field_at hs (by kernel_rfl) hf
  obtain ⟨_, _, h0, d0⟩ := F 0 _ c0 rfl rfl
  obtain ⟨_, _, h1, d1⟩ := F 1 _ c1 rfl rfl
  obtain ⟨_, _, h2, d2⟩ := F 2 _ c2 rfl rfl
  obtain ⟨_, _, h3, d3⟩ := F 3 _ c3 rfl rfl
  obtain ⟨_, _, h4, d4⟩ := F 4 _ c4 rfl rfl
  obtain ⟨n0, e0, g0, w0⟩ := DataW.trod_int Try.underlying3 h0
  obtain ⟨n1, e1, g1, w1⟩ := DataW.trod_int Try.underlying3 h1
  obtain ⟨n2, e2, g2, w2⟩ := DataW.trod_int Try.underlying28 h2
  obtain ⟨n3, e3, g3, w3⟩ := DataW.trod_int Try.underlying28 h3
  obtain ⟨s, e4, g4, w4⟩ := DataW.trod_string Try.underlying9 h4
  subst g0 g1 g2 g3 g4
  simp only [List.cons.injEq, and_true] at e0 e1 e2 e3 e4
  subst e0 e1 e2 e3 e4
  simp [Lit.wf, IntKind.min, IntKind.max, IntKind.signed, IntKind.bits] at w0 w1 w2 w3
  refine ⟨⟨n0, n1, n2, n3, s.data.toList⟩, rfl, rfl, rfl, rfl, rfl, ?_, ?_⟩
  · constructor <;> dsimp only
    · unfold Word; omega
    · unfold Word; omega
    · omega
    · omega
    · omega
    · omega
  · obtain ⟨ys, hy, hl, z0⟩ := d0
    obtain ⟨y1, hy1, _, z1⟩ := d1
    obtain ⟨y2, hy2, _, z2⟩ := d2
    obtain ⟨y3, hy3, _, z3⟩ := d3
    obtain ⟨y4, hy4, _, z4⟩ := d4
    rw [hy] at hy1 hy2 hy3 hy4
    cases hy1; cases hy2; cases hy3; cases hy4
    rw [hy]
    match ys, hl with
    | [a, b, c, d, e], _ =>
      simp at z0 z1 z2 z3 z4
      rw [z0, z1, z2, z3, z4]; rfl
def pxData (p : Px) : DataW H := .agg [.agg [.lit (.int .i64 p.a0), .lit (.int .i64 p.a1)], .agg [keyData p.k0, keyData p.k1]]
/-- what a prefix holds as an argument, its paths' lengths aside -/
structure Px.okL (p : Px) : Prop where
  k0 : p.k0.okL
  k1 : p.k1.okL
  a00 : -9223372036854775808 ≤ p.a0
  a01 : p.a0 ≤ 9223372036854775807
  a10 : -9223372036854775808 ≤ p.a1
  a11 : p.a1 ≤ 9223372036854775807
theorem int_cell {c : Value} {x : DataW H × List MemPlace} {fuel : Nat} (hf : DataW.trod enc Try.prog W base sp held fuel 3 [c] = some x) : ∃ n : Int, c = .int .i64 n ∧ x.1 = .lit (.int .i64 n) ∧ -9223372036854775808 ≤ n ∧ n ≤ 9223372036854775807 := by
  obtain ⟨n, e, g, w⟩ := DataW.trod_int Try.underlying3 hf
  simp only [List.cons.injEq, and_true] at e
  simp [Lit.wf, IntKind.min, IntKind.max, IntKind.signed, IntKind.bits] at w
  subst g
  exact ⟨n, e, rfl, by omega, by omega⟩
theorem pair_of {α : Type} {xs : List α} (h : xs.length = 2) : ∃ a b, xs = [a, b] := by
  match xs, h with
  | [a, b], _ => exact ⟨a, b, rfl⟩
set_option maxRecDepth 100000 in
theorem px_of_trod {v : Value} {d : DataW H} {p : List MemPlace} {r : Reach} {b0 : Nat} (hv : Value.okWide Try.prog W r b0 33 v) (h : DataW.Trod enc Try.prog W base sp held 33 v d p) : ∃ k : Px, v = pv k ∧ k.okL ∧ d = pxData k := by
  have hs := Try.underlying33
  obtain ⟨⟨l⟩, rfl, hsz⟩ := okWide_struct hs hv
  obtain ⟨fuel, hf⟩ := h
  match l, hsz.trans cellsPx with
  | [c0, c1, c2, c3, c4, c5, c6, c7, c8, c9, c10, c11], _ =>
    obtain ⟨y0, y1, n, hx, _, h0, h1⟩ := trod_struct2 hs hf
    rw [cellsAt] at h0
    rw [cellsK2] at h1
    simp [Value.cells] at h0 h1
    obtain ⟨xs, m, _, rfl, _, hl, hi⟩ := DataW.trod_array Try.underlying27 h0
    obtain ⟨zs, m2, _, rfl, _, hl2, hi2⟩ := DataW.trod_array Try.underlying31 h1
    rw [cellsInt] at hi
    rw [cellsKey] at hi2
    obtain ⟨xa, xb, rfl⟩ := pair_of hl
    obtain ⟨za, zb, rfl⟩ := pair_of hl2
    have g0 := hi 0 (by omega)
    have g1 := hi 1 (by omega)
    have g2 := hi2 0 (by omega)
    have g3 := hi2 1 (by omega)
    simp at g0 g1 g2 g3
    obtain ⟨n0, rfl, q0, r0, r1⟩ := int_cell g0
    obtain ⟨n1, rfl, q1, r2, r3⟩ := int_cell g1
    obtain ⟨k0, rfl, rfl, rfl, rfl, rfl, o0, e0⟩ := keyc_of g2
    obtain ⟨k1, rfl, rfl, rfl, rfl, rfl, o1, e1⟩ := keyc_of g3
    refine ⟨⟨n0, n1, k0, k1⟩, rfl, ⟨o0, o1, r0, r1, r2, r3⟩, ?_⟩
    have := congrArg Prod.fst hx
    simp only at this
    rw [this]
    simp [q0, q1, e0, e1, pxData]
theorem px_sized {ts : List TypeId} {ds : List (DataW H)} {d : DataW H} {j : Nat} {k : Px} (h : (DataW.weightsEach Try.prog ts ds).all (· ≤ reachBytes) = true) (ht : ts[j]? = some 33) (hd : ds[j]? = some d)
    (e : d = pxData k) (ok : k.okL) : k.ok := by
  subst e
  have hu := Try.underlying30
  have hu1 := Try.underlying33
  have hu2 := Try.underlying31
  have hu3 := Try.underlying27
  have m0 := List.all_eq_true.1 h _ (DataW.weights_mem_each ht hd k.k0.path.length (by simp [pxData, keyData, DataW.weights, DataW.weightsEach, DataW.weightsAll, hu, hu1, hu2, hu3]))
  have m1 := List.all_eq_true.1 h _ (DataW.weights_mem_each ht hd k.k1.path.length (by simp [pxData, keyData, DataW.weights, DataW.weightsEach, DataW.weightsAll, hu, hu1, hu2, hu3]))
  have h2 : k.k0.path.length ≤ reachBytes := by simpa using m0
  have h4 : k.k1.path.length ≤ reachBytes := by simpa using m1
  have h3 : reachBytes < 140737488355328 := by decide
  exact ⟨⟨ok.k0.h, ok.k0.l, ok.k0.k0, ok.k0.k1, ok.k0.n0, ok.k0.n1, by omega⟩, ⟨ok.k1.h, ok.k1.l, ok.k1.k0, ok.k1.k1, ok.k1.n0, ok.k1.n1, by omega⟩, ok.a00, ok.a01, ok.a10, ok.a11⟩
end
end Go.Proofs.Ytbekocknfpekoaa
