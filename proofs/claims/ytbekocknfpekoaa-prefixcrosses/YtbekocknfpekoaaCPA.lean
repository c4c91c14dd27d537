/- PA: what the theorem needs of these texts. No conditions beyond those that are written. -/
import Derived.Test.YtbekocknfpekoaaCP3
namespace Go.Proofs.Ytbekocknfpekoaa
set_option linter.unusedVariables false
set_option maxHeartbeats 64000000
set_option linter.unusedSimpArgs false
open Go.RowKit
set_option maxRecDepth 100000 in
theorem four9_t (w : World) : Calls Try.prog 59 #[] w fun e w' => e = .returned (sv ⟨2, ⟨1, 1, 8⟩, ⟨1, 2, 8⟩⟩) ∧ Below w.heap.size w w' := by
  unfold sv
  obtain ⟨Rr, hb0⟩ := one_row w #[.int .i64 0, .int .i64 0, .int .i64 0, .int .i64 0, .int .i64 0, .int .i64 0, .int .i64 0] 26
  (try clear r0 r1 r2 r3 r4 r5 r6); obtain ⟨r0, r1, r2, r3, r4, r5, r6⟩ := row7 Rr
  go_enter Try.func59, Try.ntmps59
  have rf0 := Rr.frozen 0
  have rf1 := Rr.frozen 1
  have rf2 := Rr.frozen 2
  have rf3 := Rr.frozen 3
  have rf4 := Rr.frozen 4
  have rf5 := Rr.frozen 5
  have rf6 := Rr.frozen 6
  go_wp2
  exact bodyPost_ret (v := .agg #[.int .i64 2, .int .i64 1, .int .i64 1, .int .i64 8, .int .i64 1, .int .i64 2, .int .i64 8]) (by simp [results, Try.results59, go_sem]) rfl ⟨rfl, (by repeat (first | exact Below.refl _ _ | assumption | (with_reducible refine Below.setCell ?_ ?h _; case h => first | omega | (simp; done) | (simp; omega)) | (with_reducible refine Below.alloc ?_ ?h _; case h => first | omega | (simp; done) | (simp; omega)) | (with_reducible refine Below.drew ?_) | (with_reducible refine Below.trans ?_ (hb4.mono ?h); case h => first | omega | (simp; done) | (simp; omega)) | (with_reducible refine Below.trans ?_ (hb3.mono ?h); case h => first | omega | (simp; done) | (simp; omega)) | (with_reducible refine Below.trans ?_ (hb2.mono ?h); case h => first | omega | (simp; done) | (simp; omega)) | (with_reducible refine Below.trans ?_ (hb.mono ?h); case h => first | omega | (simp; done) | (simp; omega)) | (with_reducible refine Below.trans ?_ (hb0.mono ?h); case h => first | omega | (simp; done) | (simp; omega))))⟩
set_option maxRecDepth 100000 in
theorem alive9_go (s : Sp) (ka kb kc : Ke) (p a b x t : Px) (e0 : x.k0.len = 8) (e1 : x.k1.len = 16)
    (HF : ∀ w, Calls Try.prog 59 #[] w fun e w' => e = .returned (sv s) ∧ Below w.heap.size w w')
    (H1 : ∀ w, Calls Try.prog 60 #[.int .u32 167837953] w fun e w' => e = .returned (kv ka) ∧ Below w.heap.size w w')
    (H2 : ∀ w, Calls Try.prog 60 #[.int .u32 3232235777] w fun e w' => e = .returned (kv kb) ∧ Below w.heap.size w w')
    (H3 : ∀ w, Calls Try.prog 60 #[.int .u32 1] w fun e w' => e = .returned (kv kc) ∧ Below w.heap.size w w')
    (HL : ∀ w, Calls Try.prog 16 #[sv s, kv ka, kv kb] w fun e w' => e = .returned (.tuple #[pv p, .bool true]) ∧ Below w.heap.size w w')
    (HM : ∀ w, Calls Try.prog 16 #[sv s, kv kc, kv kz] w fun e w' => e = .returned (.tuple #[pv pz, .bool false]) ∧ Below w.heap.size w w')
    (HU : ∀ w, Calls Try.prog 26 #[sv s, pv p, .agg #[.int .i64 3, .int .i64 4]] w fun e w' => e = .returned (pv a) ∧ Below w.heap.size w w')
    (HV : ∀ w, Calls Try.prog 26 #[sv s, pv p, .agg #[.int .i64 4, .int .i64 2]] w fun e w' => e = .returned (pv b) ∧ Below w.heap.size w w')
    (HX : ∀ w, Calls Try.prog 30 #[sv s, pv a, pv b] w fun e w' => e = .returned (.tuple #[pv x, .bool true]) ∧ Below w.heap.size w w')
    (HT : ∀ w, Calls Try.prog 22 #[sv s] w fun e w' => e = .returned (pv t) ∧ Below w.heap.size w w')
    (HS : ∀ w, Calls Try.prog 18 #[sv s] w fun e w' => e = .returned (.bool true) ∧ Below w.heap.size w w')
    (HN : ∀ w, Calls Try.prog 18 #[sv ⟨3, s.d0, s.d1⟩] w fun e w' => e = .returned (.bool false) ∧ Below w.heap.size w w')
    (HW : ∀ w, Calls Try.prog 26 #[sv s, pv p, .agg #[.int .i64 3, .int .i64 2]] w fun e w' => e = .returned (pv x) ∧ Below w.heap.size w w')
    (HH : ∀ w, Calls Try.prog 25 #[sv s, pv x] w fun e w' => e = .returned (.int .i64 5) ∧ Below w.heap.size w w')
    (HO : ∀ w, Calls Try.prog 28 #[sv s, pv t, pv p] w fun e w' => e = .returned (.bool true) ∧ Below w.heap.size w w')
    (HP : ∀ w, Calls Try.prog 28 #[sv s, pv p, pv t] w fun e w' => e = .returned (.bool false) ∧ Below w.heap.size w w')
    (HC : ∀ w, Calls Try.prog 32 #[pv p, pv t] w fun e w' => e = .returned (.int .i64 (-1)) ∧ Below w.heap.size w w')
    (HR : ∀ w, Calls Try.prog 20 #[sv s, pv x] w fun e w' => e = .returned (.bool true) ∧ Below w.heap.size w w') (w : World) :
    Calls Try.prog 24 #[] w fun e w' => e = .returned (.bool true) ∧ Below w.heap.size w w' := by
  have hb0 := Below.refl w.heap.size w
  have qe := eql_px x x
  have e0' : (x.k0.len == 8) = true := by simpa using e0
  have e1' : (x.k1.len == 16) = true := by simpa using e1
  have qt : decide (x = x) = true := decide_eq_true rfl
  rw [qt] at qe
  clear e0 e1 qt
  unfold pz kz at *
  unfold sv pv kv at *
  dsimp only at *
  go_enter Try.func24, Try.ntmps24
  go_wp2_with fail
  refine (HF _).mono ?_
  rintro e w1 ⟨rfl, hb⟩
  replace hb0 := below_step hb0 hb
  clear hb
  go_wp2_with fail
  have Rs := Row.new w1 #[Value.int .i64 s.n, Value.int .i64 s.d0.kind, Value.int .i64 s.d0.side, Value.int .i64 s.d0.step, Value.int .i64 s.d1.kind, Value.int .i64 s.d1.side, Value.int .i64 s.d1.step] 26
  have ms := hb0.size
  replace hb0 := hb0.alloc hb0.size (.cells #[Value.int .i64 s.n, Value.int .i64 s.d0.kind, Value.int .i64 s.d0.side, Value.int .i64 s.d0.step, Value.int .i64 s.d1.kind, Value.int .i64 s.d1.side, Value.int .i64 s.d1.step] 26)
  (try clear s0 s1 s2 s3 s4 s5 s6); obtain ⟨s0, s1, s2, s3, s4, s5, s6⟩ := row7 Rs
  go_cut [2, 3] (fun s2 s3 wx => ∃ gp : Nat, s2 = .pointer (some ⟨gp, 0, none⟩) ∧ s3 = .bool true ∧ w.heap.size ≤ gp ∧ Row wx gp #[.int .i64 p.a0, .int .i64 p.a1, .int .i64 p.k0.kind, .int .i64 p.k0.len, .int .u64 p.k0.h, .int .u64 p.k0.l, .string ⟨p.k0.path.toArray⟩, .int .i64 p.k1.kind, .int .i64 p.k1.len, .int .u64 p.k1.h, .int .u64 p.k1.l, .string ⟨p.k1.path.toArray⟩] 33 ∧ Row wx w1.heap.size #[.int .i64 s.n, .int .i64 s.d0.kind, .int .i64 s.d0.side, .int .i64 s.d0.step, .int .i64 s.d1.kind, .int .i64 s.d1.side, .int .i64 s.d1.step] 26 ∧ Below w.heap.size w wx)
  case first =>
    refine wp_region_held_drew (S := (fun w' => Row w' w1.heap.size #[.int .i64 s.n, .int .i64 s.d0.kind, .int .i64 s.d0.side, .int .i64 s.d0.step, .int .i64 s.d1.kind, .int .i64 s.d1.side, .int .i64 s.d1.step] 26)) (by kernel_rfl) ?hSr57_ (fun hHeld => ?_)
    case hSr57_ => (exact Rs.drew)
    (clear s0 s1 s2 s3 s4 s5 s6; (replace Rs := Rs.drew); (replace hb0 := hb0.drew); (generalize World.drew (World.alloc w1 (.cells #[Value.int .i64 s.n, Value.int .i64 s.d0.kind, Value.int .i64 s.d0.side, Value.int .i64 s.d0.step, Value.int .i64 s.d1.kind, Value.int .i64 s.d1.side, Value.int .i64 s.d1.step] 26)) = wq at *))
    refine tk 0 ⟨some 13, .load 26 (.tmp 1), 26, _, _, _⟩ hHeld ?_ (v := ?vr57_1_0) (hy := ?yr57_1_0)
    case yr57_1_0 => (intro wy hSw; have Qs := hSw; (with_reducible refine pexec_load 26 (.tmp 1) ?_ w1.heap.size ?_ 26 #[.int .i64 s.n, .int .i64 s.d0.kind, .int .i64 s.d0.side, .int .i64 s.d0.step, .int .i64 s.d1.kind, .int .i64 s.d1.side, .int .i64 s.d1.step] _ Qs Try.underlying26 ?_ ?_) <;> first | rfl | exact infoSp)
    (try simp only [Act.put, nz1, nz2, nz3])
    refine wpAnyH_ready (rs := [1, 7]) (by kernel_rfl) (by simp) ?_
    refine AllReadyH.cons (o := ⟨some 14, .call { callee := .value (.func 60), args := #[.const (.int .u32 167837953)], argTypes := #[69] }, 30, _, _, _⟩) rfl (fun K hK => ?_) ?_
    · (go_simp; (refine (H1 _).mono ?_); (rintro e wz ⟨rfl, hb⟩); (replace Rs := Rs.later hb); (try replace Rp := Rp.later hb); (replace hb0 := below_step hb0 hb); go_wp2_with fail)
      refine hK.out _ _ ?hSr57_2_1 (fun hHeld2 => ?_)
      case hSr57_2_1 => (exact hHeld.later hb)
      clear hK K hHeld
      have hHeld := hHeld2
      clear hHeld2
      rename World => wq
      (try simp only [Act.put, nz1, nz2, nz3])
      refine wpAnyH_ready (rs := [2, 7]) (by kernel_rfl) (by simp) ?_
      refine AllReadyH.cons (o := ⟨some 15, .call { callee := .value (.func 60), args := #[.const (.int .u32 3232235777)], argTypes := #[69] }, 30, _, _, _⟩) rfl (fun K hK => ?_) ?_
      · (go_simp; (refine (H2 _).mono ?_); (rintro e wz ⟨rfl, hb⟩); (replace Rs := Rs.later hb); (try replace Rp := Rp.later hb); (replace hb0 := below_step hb0 hb); go_wp2_with fail)
        refine hK.out _ _ ?hSr57_3_2 (fun hHeld2 => ?_)
        case hSr57_3_2 => (exact hHeld.later hb)
        clear hK K hHeld
        have hHeld := hHeld2
        clear hHeld2
        rename World => wq
        (try simp only [Act.put, nz1, nz2, nz3])
        refine wpAnyH_ready (rs := [3, 7]) (by kernel_rfl) (by simp) ?_
        refine AllReadyH.cons (o := ⟨some 16, .call { callee := .value (.func 16), args := #[.tmp 13, .tmp 14, .tmp 15], argTypes := #[26, 30, 30] }, 34, _, _, _⟩) rfl (fun K hK => ?_) ?_
        · (go_simp; (refine (HL _).mono ?_); (rintro e wz ⟨rfl, hb⟩); (replace Rs := Rs.later hb); (try replace Rp := Rp.later hb); (replace hb0 := below_step hb0 hb); go_wp2_with fail)
          refine hK.out _ _ ?hSr57_4_3 (fun hHeld2 => ?_)
          case hSr57_4_3 => (exact hHeld.later hb)
          clear hK K hHeld
          have hHeld := hHeld2
          clear hHeld2
          rename World => wq
          (try simp only [Act.put, nz1, nz2, nz3])
          refine tk 4 ⟨some 12, .move (.tmp 16), 34, _, _, _⟩ hHeld ?_
          (try simp only [Act.put, nz1, nz2, nz3])
          refine tk 5 ⟨some 17, .extract (.tmp 12) 0, 33, _, _, _⟩ hHeld ?_
          (try simp only [Act.put, nz1, nz2, nz3])
          refine tk 6 ⟨some 18, .extract (.tmp 12) 1, 4, _, _, _⟩ hHeld ?_
          (try simp only [Act.put, nz1, nz2, nz3])
          refine wpAnyH_ready (rs := [7]) (by kernel_rfl) (by simp) ?_
          refine AllReadyH.cons (o := ⟨some 2, .alloc 33, 0, _, _, _⟩) rfl (fun K hK => ?_) AllReadyH.nil
          (go_simp; (have mp := hb0.size); (have np_s := Rs.lt); (have Rp := Row.new wq #[.int .i64 0, .int .i64 0, .int .i64 0, .int .i64 0, .int .u64 0, .int .u64 0, .string ⟨#[]⟩, .int .i64 0, .int .i64 0, .int .u64 0, .int .u64 0, .string ⟨#[]⟩] 33); (have hb : Below wq.heap.size wq (World.alloc wq (.cells #[.int .i64 0, .int .i64 0, .int .i64 0, .int .i64 0, .int .u64 0, .int .u64 0, .string ⟨#[]⟩, .int .i64 0, .int .i64 0, .int .u64 0, .int .u64 0, .string ⟨#[]⟩] 33)) := (Below.refl _ _).alloc (Nat.le_refl _) _); (replace Rs := Rs.later hb); (replace hb0 := below_step hb0 hb); (have hSn : Row (World.alloc wq (.cells #[.int .i64 0, .int .i64 0, .int .i64 0, .int .i64 0, .int .u64 0, .int .u64 0, .string ⟨#[]⟩, .int .i64 0, .int .i64 0, .int .u64 0, .int .u64 0, .string ⟨#[]⟩] 33)) w1.heap.size #[.int .i64 s.n, .int .i64 s.d0.kind, .int .i64 s.d0.side, .int .i64 s.d0.step, .int .i64 s.d1.kind, .int .i64 s.d1.side, .int .i64 s.d1.step] 26 := by exact hHeld.later hb); clear hb; generalize World.alloc wq (.cells #[.int .i64 0, .int .i64 0, .int .i64 0, .int .i64 0, .int .u64 0, .int .u64 0, .string ⟨#[]⟩, .int .i64 0, .int .i64 0, .int .u64 0, .int .u64 0, .string ⟨#[]⟩] 33) = wz at *; generalize wq.heap.size = gp at *)
          refine hK.out _ _ ?hSr57_8_7 (fun hHeld2 => ?_)
          case hSr57_8_7 => (exact hSn)
          clear hK K hHeld
          have hHeld := hHeld2
          clear hHeld2
          rename World => wq
          (try simp only [Act.put, nz1, nz2, nz3])
          refine wpAnyH_ready (rs := [8]) (by kernel_rfl) (by simp) ?_
          refine AllReadyH.cons (o := ⟨none, .store 33 (.tmp 2) (.tmp 17), 0, _, _, _⟩) rfl (fun K hK => ?_) AllReadyH.nil
          ((rw [if_pos (by rfl)]); (with_reducible refine pst 33 (.tmp 2) (.tmp 17) ?_ gp 0 #[.int .i64 p.a0, .int .i64 p.a1, .int .i64 p.k0.kind, .int .i64 p.k0.len, .int .u64 p.k0.h, .int .u64 p.k0.l, .string ⟨p.k0.path.toArray⟩, .int .i64 p.k1.kind, .int .i64 p.k1.len, .int .u64 p.k1.h, .int .u64 p.k1.l, .string ⟨p.k1.path.toArray⟩] ?_ ?_ ?_ ?_ ?_ ?_); rfl; rfl; rfl; (exact Row.thereAt Rp 0 _ (by simp)); (exact infoPx); (simp [Value.oneCell']); (rintro wz hwz); (have hHq := hHeld); (have Qs := hHq); (replace Qs := prf hwz Qs); (replace Rs := prf hwz Rs); (replace hb0 := pbl hwz hb0); (replace Rp := psw hwz Rp); clear hwz)
          refine hK.out _ _ ?hSr57_9_8 (fun hHeld2 => ?_)
          case hSr57_9_8 => (exact Qs)
          clear hK K hHeld
          have hHeld := hHeld2
          clear hHeld2
          rename World => wq
          (try simp only [Act.put, nz1, nz2, nz3])
          refine tk 9 ⟨some 3, .assign (.tmp 18), 4, _, _, _⟩ hHeld ?_
          (try simp only [Act.put, nz1, nz2, nz3])
          refine wpAnyH_done (by kernel_rfl) ?_ _
          (go_wp2_with fail; go_meet; exact ⟨gp, rfl, rfl, mp, Rp, Rs, hb0⟩)
        refine AllReadyH.cons (o := ⟨some 2, .alloc 33, 0, _, _, _⟩) rfl (fun K hK => ?_) AllReadyH.nil
        · (go_simp; (have mp := hb0.size); (have np_s := Rs.lt); (have Rp := Row.new wq #[.int .i64 0, .int .i64 0, .int .i64 0, .int .i64 0, .int .u64 0, .int .u64 0, .string ⟨#[]⟩, .int .i64 0, .int .i64 0, .int .u64 0, .int .u64 0, .string ⟨#[]⟩] 33); (have hb : Below wq.heap.size wq (World.alloc wq (.cells #[.int .i64 0, .int .i64 0, .int .i64 0, .int .i64 0, .int .u64 0, .int .u64 0, .string ⟨#[]⟩, .int .i64 0, .int .i64 0, .int .u64 0, .int .u64 0, .string ⟨#[]⟩] 33)) := (Below.refl _ _).alloc (Nat.le_refl _) _); (replace Rs := Rs.later hb); (replace hb0 := below_step hb0 hb); (have hSn : Row (World.alloc wq (.cells #[.int .i64 0, .int .i64 0, .int .i64 0, .int .i64 0, .int .u64 0, .int .u64 0, .string ⟨#[]⟩, .int .i64 0, .int .i64 0, .int .u64 0, .int .u64 0, .string ⟨#[]⟩] 33)) w1.heap.size #[.int .i64 s.n, .int .i64 s.d0.kind, .int .i64 s.d0.side, .int .i64 s.d0.step, .int .i64 s.d1.kind, .int .i64 s.d1.side, .int .i64 s.d1.step] 26 := by exact hHeld.later hb); clear hb; generalize World.alloc wq (.cells #[.int .i64 0, .int .i64 0, .int .i64 0, .int .i64 0, .int .u64 0, .int .u64 0, .string ⟨#[]⟩, .int .i64 0, .int .i64 0, .int .u64 0, .int .u64 0, .string ⟨#[]⟩] 33) = wz at *; generalize wq.heap.size = gp at *)
          refine hK.out _ _ ?hSr57_11_7 (fun hHeld2 => ?_)
          case hSr57_11_7 => (exact hSn)
          clear hK K hHeld
          have hHeld := hHeld2
          clear hHeld2
          rename World => wq
          (try simp only [Act.put, nz1, nz2, nz3])
          refine wpAnyH_ready (rs := [3]) (by kernel_rfl) (by simp) ?_
          refine AllReadyH.cons (o := ⟨some 16, .call { callee := .value (.func 16), args := #[.tmp 13, .tmp 14, .tmp 15], argTypes := #[26, 30, 30] }, 34, _, _, _⟩) rfl (fun K hK => ?_) AllReadyH.nil
          (go_simp; (refine (HL _).mono ?_); (rintro e wz ⟨rfl, hb⟩); (replace Rs := Rs.later hb); (try replace Rp := Rp.later hb); (replace hb0 := below_step hb0 hb); go_wp2_with fail)
          refine hK.out _ _ ?hSr57_12_3 (fun hHeld2 => ?_)
          case hSr57_12_3 => (exact hHeld.later hb)
          clear hK K hHeld
          have hHeld := hHeld2
          clear hHeld2
          rename World => wq
          (try simp only [Act.put, nz1, nz2, nz3])
          refine tk 4 ⟨some 12, .move (.tmp 16), 34, _, _, _⟩ hHeld ?_
          (try simp only [Act.put, nz1, nz2, nz3])
          refine tk 5 ⟨some 17, .extract (.tmp 12) 0, 33, _, _, _⟩ hHeld ?_
          (try simp only [Act.put, nz1, nz2, nz3])
          refine tk 6 ⟨some 18, .extract (.tmp 12) 1, 4, _, _, _⟩ hHeld ?_
          (try simp only [Act.put, nz1, nz2, nz3])
          refine wpAnyH_ready (rs := [8]) (by kernel_rfl) (by simp) ?_
          refine AllReadyH.cons (o := ⟨none, .store 33 (.tmp 2) (.tmp 17), 0, _, _, _⟩) rfl (fun K hK => ?_) AllReadyH.nil
          ((rw [if_pos (by rfl)]); (with_reducible refine pst 33 (.tmp 2) (.tmp 17) ?_ gp 0 #[.int .i64 p.a0, .int .i64 p.a1, .int .i64 p.k0.kind, .int .i64 p.k0.len, .int .u64 p.k0.h, .int .u64 p.k0.l, .string ⟨p.k0.path.toArray⟩, .int .i64 p.k1.kind, .int .i64 p.k1.len, .int .u64 p.k1.h, .int .u64 p.k1.l, .string ⟨p.k1.path.toArray⟩] ?_ ?_ ?_ ?_ ?_ ?_); rfl; rfl; rfl; (exact Row.thereAt Rp 0 _ (by simp)); (exact infoPx); (simp [Value.oneCell']); (rintro wz hwz); (have hHq := hHeld); (have Qs := hHq); (replace Qs := prf hwz Qs); (replace Rs := prf hwz Rs); (replace hb0 := pbl hwz hb0); (replace Rp := psw hwz Rp); clear hwz)
          refine hK.out _ _ ?hSr57_16_8 (fun hHeld2 => ?_)
          case hSr57_16_8 => (exact Qs)
          clear hK K hHeld
          have hHeld := hHeld2
          clear hHeld2
          rename World => wq
          (try simp only [Act.put, nz1, nz2, nz3])
          refine tk 9 ⟨some 3, .assign (.tmp 18), 4, _, _, _⟩ hHeld ?_
          (try simp only [Act.put, nz1, nz2, nz3])
          refine wpAnyH_done (by kernel_rfl) ?_ _
          (go_wp2_with fail; go_meet; exact ⟨gp, rfl, rfl, mp, Rp, Rs, hb0⟩)
      refine AllReadyH.cons (o := ⟨some 2, .alloc 33, 0, _, _, _⟩) rfl (fun K hK => ?_) AllReadyH.nil
      · (go_simp; (have mp := hb0.size); (have np_s := Rs.lt); (have Rp := Row.new wq #[.int .i64 0, .int .i64 0, .int .i64 0, .int .i64 0, .int .u64 0, .int .u64 0, .string ⟨#[]⟩, .int .i64 0, .int .i64 0, .int .u64 0, .int .u64 0, .string ⟨#[]⟩] 33); (have hb : Below wq.heap.size wq (World.alloc wq (.cells #[.int .i64 0, .int .i64 0, .int .i64 0, .int .i64 0, .int .u64 0, .int .u64 0, .string ⟨#[]⟩, .int .i64 0, .int .i64 0, .int .u64 0, .int .u64 0, .string ⟨#[]⟩] 33)) := (Below.refl _ _).alloc (Nat.le_refl _) _); (replace Rs := Rs.later hb); (replace hb0 := below_step hb0 hb); (have hSn : Row (World.alloc wq (.cells #[.int .i64 0, .int .i64 0, .int .i64 0, .int .i64 0, .int .u64 0, .int .u64 0, .string ⟨#[]⟩, .int .i64 0, .int .i64 0, .int .u64 0, .int .u64 0, .string ⟨#[]⟩] 33)) w1.heap.size #[.int .i64 s.n, .int .i64 s.d0.kind, .int .i64 s.d0.side, .int .i64 s.d0.step, .int .i64 s.d1.kind, .int .i64 s.d1.side, .int .i64 s.d1.step] 26 := by exact hHeld.later hb); clear hb; generalize World.alloc wq (.cells #[.int .i64 0, .int .i64 0, .int .i64 0, .int .i64 0, .int .u64 0, .int .u64 0, .string ⟨#[]⟩, .int .i64 0, .int .i64 0, .int .u64 0, .int .u64 0, .string ⟨#[]⟩] 33) = wz at *; generalize wq.heap.size = gp at *)
        refine hK.out _ _ ?hSr57_18_7 (fun hHeld2 => ?_)
        case hSr57_18_7 => (exact hSn)
        clear hK K hHeld
        have hHeld := hHeld2
        clear hHeld2
        rename World => wq
        (try simp only [Act.put, nz1, nz2, nz3])
        refine wpAnyH_ready (rs := [2]) (by kernel_rfl) (by simp) ?_
        refine AllReadyH.cons (o := ⟨some 15, .call { callee := .value (.func 60), args := #[.const (.int .u32 3232235777)], argTypes := #[69] }, 30, _, _, _⟩) rfl (fun K hK => ?_) AllReadyH.nil
        (go_simp; (refine (H2 _).mono ?_); (rintro e wz ⟨rfl, hb⟩); (replace Rs := Rs.later hb); (try replace Rp := Rp.later hb); (replace hb0 := below_step hb0 hb); go_wp2_with fail)
        refine hK.out _ _ ?hSr57_19_2 (fun hHeld2 => ?_)
        case hSr57_19_2 => (exact hHeld.later hb)
        clear hK K hHeld
        have hHeld := hHeld2
        clear hHeld2
        rename World => wq
        (try simp only [Act.put, nz1, nz2, nz3])
        refine wpAnyH_ready (rs := [3]) (by kernel_rfl) (by simp) ?_
        refine AllReadyH.cons (o := ⟨some 16, .call { callee := .value (.func 16), args := #[.tmp 13, .tmp 14, .tmp 15], argTypes := #[26, 30, 30] }, 34, _, _, _⟩) rfl (fun K hK => ?_) AllReadyH.nil
        (go_simp; (refine (HL _).mono ?_); (rintro e wz ⟨rfl, hb⟩); (replace Rs := Rs.later hb); (try replace Rp := Rp.later hb); (replace hb0 := below_step hb0 hb); go_wp2_with fail)
        refine hK.out _ _ ?hSr57_20_3 (fun hHeld2 => ?_)
        case hSr57_20_3 => (exact hHeld.later hb)
        clear hK K hHeld
        have hHeld := hHeld2
        clear hHeld2
        rename World => wq
        (try simp only [Act.put, nz1, nz2, nz3])
        refine tk 4 ⟨some 12, .move (.tmp 16), 34, _, _, _⟩ hHeld ?_
        (try simp only [Act.put, nz1, nz2, nz3])
        refine tk 5 ⟨some 17, .extract (.tmp 12) 0, 33, _, _, _⟩ hHeld ?_
        (try simp only [Act.put, nz1, nz2, nz3])
        refine tk 6 ⟨some 18, .extract (.tmp 12) 1, 4, _, _, _⟩ hHeld ?_
        (try simp only [Act.put, nz1, nz2, nz3])
        refine wpAnyH_ready (rs := [8]) (by kernel_rfl) (by simp) ?_
        refine AllReadyH.cons (o := ⟨none, .store 33 (.tmp 2) (.tmp 17), 0, _, _, _⟩) rfl (fun K hK => ?_) AllReadyH.nil
        ((rw [if_pos (by rfl)]); (with_reducible refine pst 33 (.tmp 2) (.tmp 17) ?_ gp 0 #[.int .i64 p.a0, .int .i64 p.a1, .int .i64 p.k0.kind, .int .i64 p.k0.len, .int .u64 p.k0.h, .int .u64 p.k0.l, .string ⟨p.k0.path.toArray⟩, .int .i64 p.k1.kind, .int .i64 p.k1.len, .int .u64 p.k1.h, .int .u64 p.k1.l, .string ⟨p.k1.path.toArray⟩] ?_ ?_ ?_ ?_ ?_ ?_); rfl; rfl; rfl; (exact Row.thereAt Rp 0 _ (by simp)); (exact infoPx); (simp [Value.oneCell']); (rintro wz hwz); (have hHq := hHeld); (have Qs := hHq); (replace Qs := prf hwz Qs); (replace Rs := prf hwz Rs); (replace hb0 := pbl hwz hb0); (replace Rp := psw hwz Rp); clear hwz)
        refine hK.out _ _ ?hSr57_24_8 (fun hHeld2 => ?_)
        case hSr57_24_8 => (exact Qs)
        clear hK K hHeld
        have hHeld := hHeld2
        clear hHeld2
        rename World => wq
        (try simp only [Act.put, nz1, nz2, nz3])
        refine tk 9 ⟨some 3, .assign (.tmp 18), 4, _, _, _⟩ hHeld ?_
        (try simp only [Act.put, nz1, nz2, nz3])
        refine wpAnyH_done (by kernel_rfl) ?_ _
        (go_wp2_with fail; go_meet; exact ⟨gp, rfl, rfl, mp, Rp, Rs, hb0⟩)
    refine AllReadyH.cons (o := ⟨some 2, .alloc 33, 0, _, _, _⟩) rfl (fun K hK => ?_) AllReadyH.nil
    · (go_simp; (have mp := hb0.size); (have np_s := Rs.lt); (have Rp := Row.new wq #[.int .i64 0, .int .i64 0, .int .i64 0, .int .i64 0, .int .u64 0, .int .u64 0, .string ⟨#[]⟩, .int .i64 0, .int .i64 0, .int .u64 0, .int .u64 0, .string ⟨#[]⟩] 33); (have hb : Below wq.heap.size wq (World.alloc wq (.cells #[.int .i64 0, .int .i64 0, .int .i64 0, .int .i64 0, .int .u64 0, .int .u64 0, .string ⟨#[]⟩, .int .i64 0, .int .i64 0, .int .u64 0, .int .u64 0, .string ⟨#[]⟩] 33)) := (Below.refl _ _).alloc (Nat.le_refl _) _); (replace Rs := Rs.later hb); (replace hb0 := below_step hb0 hb); (have hSn : Row (World.alloc wq (.cells #[.int .i64 0, .int .i64 0, .int .i64 0, .int .i64 0, .int .u64 0, .int .u64 0, .string ⟨#[]⟩, .int .i64 0, .int .i64 0, .int .u64 0, .int .u64 0, .string ⟨#[]⟩] 33)) w1.heap.size #[.int .i64 s.n, .int .i64 s.d0.kind, .int .i64 s.d0.side, .int .i64 s.d0.step, .int .i64 s.d1.kind, .int .i64 s.d1.side, .int .i64 s.d1.step] 26 := by exact hHeld.later hb); clear hb; generalize World.alloc wq (.cells #[.int .i64 0, .int .i64 0, .int .i64 0, .int .i64 0, .int .u64 0, .int .u64 0, .string ⟨#[]⟩, .int .i64 0, .int .i64 0, .int .u64 0, .int .u64 0, .string ⟨#[]⟩] 33) = wz at *; generalize wq.heap.size = gp at *)
      refine hK.out _ _ ?hSr57_26_7 (fun hHeld2 => ?_)
      case hSr57_26_7 => (exact hSn)
      clear hK K hHeld
      have hHeld := hHeld2
      clear hHeld2
      rename World => wq
      (try simp only [Act.put, nz1, nz2, nz3])
      refine wpAnyH_ready (rs := [1]) (by kernel_rfl) (by simp) ?_
      refine AllReadyH.cons (o := ⟨some 14, .call { callee := .value (.func 60), args := #[.const (.int .u32 167837953)], argTypes := #[69] }, 30, _, _, _⟩) rfl (fun K hK => ?_) AllReadyH.nil
      (go_simp; (refine (H1 _).mono ?_); (rintro e wz ⟨rfl, hb⟩); (replace Rs := Rs.later hb); (try replace Rp := Rp.later hb); (replace hb0 := below_step hb0 hb); go_wp2_with fail)
      refine hK.out _ _ ?hSr57_27_1 (fun hHeld2 => ?_)
      case hSr57_27_1 => (exact hHeld.later hb)
      clear hK K hHeld
      have hHeld := hHeld2
      clear hHeld2
      rename World => wq
      (try simp only [Act.put, nz1, nz2, nz3])
      refine wpAnyH_ready (rs := [2]) (by kernel_rfl) (by simp) ?_
      refine AllReadyH.cons (o := ⟨some 15, .call { callee := .value (.func 60), args := #[.const (.int .u32 3232235777)], argTypes := #[69] }, 30, _, _, _⟩) rfl (fun K hK => ?_) AllReadyH.nil
      (go_simp; (refine (H2 _).mono ?_); (rintro e wz ⟨rfl, hb⟩); (replace Rs := Rs.later hb); (try replace Rp := Rp.later hb); (replace hb0 := below_step hb0 hb); go_wp2_with fail)
      refine hK.out _ _ ?hSr57_28_2 (fun hHeld2 => ?_)
      case hSr57_28_2 => (exact hHeld.later hb)
      clear hK K hHeld
      have hHeld := hHeld2
      clear hHeld2
      rename World => wq
      (try simp only [Act.put, nz1, nz2, nz3])
      refine wpAnyH_ready (rs := [3]) (by kernel_rfl) (by simp) ?_
      refine AllReadyH.cons (o := ⟨some 16, .call { callee := .value (.func 16), args := #[.tmp 13, .tmp 14, .tmp 15], argTypes := #[26, 30, 30] }, 34, _, _, _⟩) rfl (fun K hK => ?_) AllReadyH.nil
      (go_simp; (refine (HL _).mono ?_); (rintro e wz ⟨rfl, hb⟩); (replace Rs := Rs.later hb); (try replace Rp := Rp.later hb); (replace hb0 := below_step hb0 hb); go_wp2_with fail)
      refine hK.out _ _ ?hSr57_29_3 (fun hHeld2 => ?_)
      case hSr57_29_3 => (exact hHeld.later hb)
      clear hK K hHeld
      have hHeld := hHeld2
      clear hHeld2
      rename World => wq
      (try simp only [Act.put, nz1, nz2, nz3])
      refine tk 4 ⟨some 12, .move (.tmp 16), 34, _, _, _⟩ hHeld ?_
      (try simp only [Act.put, nz1, nz2, nz3])
      refine tk 5 ⟨some 17, .extract (.tmp 12) 0, 33, _, _, _⟩ hHeld ?_
      (try simp only [Act.put, nz1, nz2, nz3])
      refine tk 6 ⟨some 18, .extract (.tmp 12) 1, 4, _, _, _⟩ hHeld ?_
      (try simp only [Act.put, nz1, nz2, nz3])
      refine wpAnyH_ready (rs := [8]) (by kernel_rfl) (by simp) ?_
      refine AllReadyH.cons (o := ⟨none, .store 33 (.tmp 2) (.tmp 17), 0, _, _, _⟩) rfl (fun K hK => ?_) AllReadyH.nil
      ((rw [if_pos (by rfl)]); (with_reducible refine pst 33 (.tmp 2) (.tmp 17) ?_ gp 0 #[.int .i64 p.a0, .int .i64 p.a1, .int .i64 p.k0.kind, .int .i64 p.k0.len, .int .u64 p.k0.h, .int .u64 p.k0.l, .string ⟨p.k0.path.toArray⟩, .int .i64 p.k1.kind, .int .i64 p.k1.len, .int .u64 p.k1.h, .int .u64 p.k1.l, .string ⟨p.k1.path.toArray⟩] ?_ ?_ ?_ ?_ ?_ ?_); rfl; rfl; rfl; (exact Row.thereAt Rp 0 _ (by simp)); (exact infoPx); (simp [Value.oneCell']); (rintro wz hwz); (have hHq := hHeld); (have Qs := hHq); (replace Qs := prf hwz Qs); (replace Rs := prf hwz Rs); (replace hb0 := pbl hwz hb0); (replace Rp := psw hwz Rp); clear hwz)
      refine hK.out _ _ ?hSr57_33_8 (fun hHeld2 => ?_)
      case hSr57_33_8 => (exact Qs)
      clear hK K hHeld
      have hHeld := hHeld2
      clear hHeld2
      rename World => wq
      (try simp only [Act.put, nz1, nz2, nz3])
      refine tk 9 ⟨some 3, .assign (.tmp 18), 4, _, _, _⟩ hHeld ?_
      (try simp only [Act.put, nz1, nz2, nz3])
      refine wpAnyH_done (by kernel_rfl) ?_ _
      (go_wp2_with fail; go_meet; exact ⟨gp, rfl, rfl, mp, Rp, Rs, hb0⟩)
  case rest =>
    clear s0 s1 s2 s3 s4 s5 s6 Rs hb0
    obtain ⟨gp, rfl, rfl, mp, Rp, Rs, hb0⟩ := hcut
    rename World => w2
    have ls := Rs.lt
    have lp := Rp.lt
    (try clear s0 s1 s2 s3 s4 s5 s6); obtain ⟨s0, s1, s2, s3, s4, s5, s6⟩ := row7 Rs
    (try clear p0 p1 p2 p3 p4 p5 p6 p7 p8 p9 p10 p11); obtain ⟨p0, p1, p2, p3, p4, p5, p6, p7, p8, p9, p10, p11⟩ := row12 Rp
    go_wp2_with fail
    go_cut [4, 5] (fun s4 s5 wx => ∃ ga gb : Nat, s4 = .pointer (some ⟨ga, 0, none⟩) ∧ s5 = .pointer (some ⟨gb, 0, none⟩) ∧ w.heap.size ≤ ga ∧ w.heap.size ≤ gb ∧ Row wx ga #[.int .i64 a.a0, .int .i64 a.a1, .int .i64 a.k0.kind, .int .i64 a.k0.len, .int .u64 a.k0.h, .int .u64 a.k0.l, .string ⟨a.k0.path.toArray⟩, .int .i64 a.k1.kind, .int .i64 a.k1.len, .int .u64 a.k1.h, .int .u64 a.k1.l, .string ⟨a.k1.path.toArray⟩] 33 ∧ Row wx gb #[.int .i64 b.a0, .int .i64 b.a1, .int .i64 b.k0.kind, .int .i64 b.k0.len, .int .u64 b.k0.h, .int .u64 b.k0.l, .string ⟨b.k0.path.toArray⟩, .int .i64 b.k1.kind, .int .i64 b.k1.len, .int .u64 b.k1.h, .int .u64 b.k1.l, .string ⟨b.k1.path.toArray⟩] 33 ∧ Row wx w1.heap.size #[.int .i64 s.n, .int .i64 s.d0.kind, .int .i64 s.d0.side, .int .i64 s.d0.step, .int .i64 s.d1.kind, .int .i64 s.d1.side, .int .i64 s.d1.step] 26 ∧ Row wx gp #[.int .i64 p.a0, .int .i64 p.a1, .int .i64 p.k0.kind, .int .i64 p.k0.len, .int .u64 p.k0.h, .int .u64 p.k0.l, .string ⟨p.k0.path.toArray⟩, .int .i64 p.k1.kind, .int .i64 p.k1.len, .int .u64 p.k1.h, .int .u64 p.k1.l, .string ⟨p.k1.path.toArray⟩] 33 ∧ Below w.heap.size w wx)
    case first =>
      refine wp_region_held_drew (S := (fun w' => Row w' w1.heap.size #[.int .i64 s.n, .int .i64 s.d0.kind, .int .i64 s.d0.side, .int .i64 s.d0.step, .int .i64 s.d1.kind, .int .i64 s.d1.side, .int .i64 s.d1.step] 26 ∧ Row w' gp #[.int .i64 p.a0, .int .i64 p.a1, .int .i64 p.k0.kind, .int .i64 p.k0.len, .int .u64 p.k0.h, .int .u64 p.k0.l, .string ⟨p.k0.path.toArray⟩, .int .i64 p.k1.kind, .int .i64 p.k1.len, .int .u64 p.k1.h, .int .u64 p.k1.l, .string ⟨p.k1.path.toArray⟩] 33)) (by kernel_rfl) ?hSr58_ (fun hHeld => ?_)
      case hSr58_ => (exact ⟨Rs.drew, Rp.drew⟩)
      (clear s0 s1 s2 s3 s4 s5 s6 p0 p1 p2 p3 p4 p5 p6 p7 p8 p9 p10 p11; (replace Rs := Rs.drew); (replace Rp := Rp.drew); (replace hb0 := hb0.drew); (generalize World.drew w2 = wq at *))
      refine tk 0 ⟨some 19, .load 26 (.tmp 1), 26, _, _, _⟩ hHeld ?_ (v := ?vr58_1_0) (hy := ?yr58_1_0)
      case yr58_1_0 => (intro wy hSw; obtain ⟨Qs, Qp⟩ := hSw; (with_reducible refine pexec_load 26 (.tmp 1) ?_ w1.heap.size ?_ 26 #[.int .i64 s.n, .int .i64 s.d0.kind, .int .i64 s.d0.side, .int .i64 s.d0.step, .int .i64 s.d1.kind, .int .i64 s.d1.side, .int .i64 s.d1.step] _ Qs Try.underlying26 ?_ ?_) <;> first | rfl | exact infoSp)
      (try simp only [Act.put, nz1, nz2, nz3])
      refine tk 1 ⟨some 20, .load 33 (.tmp 2), 33, _, _, _⟩ hHeld ?_ (v := ?vr58_2_1) (hy := ?yr58_2_1)
      case yr58_2_1 => (intro wy hSw; obtain ⟨Qs, Qp⟩ := hSw; (with_reducible refine pexec_load 33 (.tmp 2) ?_ gp ?_ 33 #[.int .i64 p.a0, .int .i64 p.a1, .int .i64 p.k0.kind, .int .i64 p.k0.len, .int .u64 p.k0.h, .int .u64 p.k0.l, .string ⟨p.k0.path.toArray⟩, .int .i64 p.k1.kind, .int .i64 p.k1.len, .int .u64 p.k1.h, .int .u64 p.k1.l, .string ⟨p.k1.path.toArray⟩] _ Qp Try.underlying33 ?_ ?_) <;> first | rfl | exact infoPx)
      (try simp only [Act.put, nz1, nz2, nz3])
      refine tk 2 ⟨some 21, .build 27 #[(0, .const (.int .i64 3)), (1, .const (.int .i64 4))], 27, _, _, _⟩ hHeld ?_
      (try simp only [Act.put, nz1, nz2, nz3])
      refine tk 4 ⟨some 23, .load 26 (.tmp 1), 26, _, _, _⟩ hHeld ?_ (v := ?vr58_4_4) (hy := ?yr58_4_4)
      case yr58_4_4 => (intro wy hSw; obtain ⟨Qs, Qp⟩ := hSw; (with_reducible refine pexec_load 26 (.tmp 1) ?_ w1.heap.size ?_ 26 #[.int .i64 s.n, .int .i64 s.d0.kind, .int .i64 s.d0.side, .int .i64 s.d0.step, .int .i64 s.d1.kind, .int .i64 s.d1.side, .int .i64 s.d1.step] _ Qs Try.underlying26 ?_ ?_) <;> first | rfl | exact infoSp)
      (try simp only [Act.put, nz1, nz2, nz3])
      refine tk 5 ⟨some 24, .load 33 (.tmp 2), 33, _, _, _⟩ hHeld ?_ (v := ?vr58_5_5) (hy := ?yr58_5_5)
      case yr58_5_5 => (intro wy hSw; obtain ⟨Qs, Qp⟩ := hSw; (with_reducible refine pexec_load 33 (.tmp 2) ?_ gp ?_ 33 #[.int .i64 p.a0, .int .i64 p.a1, .int .i64 p.k0.kind, .int .i64 p.k0.len, .int .u64 p.k0.h, .int .u64 p.k0.l, .string ⟨p.k0.path.toArray⟩, .int .i64 p.k1.kind, .int .i64 p.k1.len, .int .u64 p.k1.h, .int .u64 p.k1.l, .string ⟨p.k1.path.toArray⟩] _ Qp Try.underlying33 ?_ ?_) <;> first | rfl | exact infoPx)
      (try simp only [Act.put, nz1, nz2, nz3])
      refine tk 6 ⟨some 25, .build 27 #[(0, .const (.int .i64 4)), (1, .const (.int .i64 2))], 27, _, _, _⟩ hHeld ?_
      (try simp only [Act.put, nz1, nz2, nz3])
      refine wpAnyH_ready (rs := [3, 8, 9]) (by kernel_rfl) (by simp) ?_
      refine AllReadyH.cons (o := ⟨some 22, .call { callee := .value (.func 26), args := #[.tmp 19, .tmp 20, .tmp 21], argTypes := #[26, 33, 27] }, 33, _, _, _⟩) rfl (fun K hK => ?_) ?_
      · (go_simp; (refine (HU _).mono ?_); (rintro e wz ⟨rfl, hb⟩); (replace Rs := Rs.later hb); (replace Rp := Rp.later hb); (try replace Ra := Ra.later hb); (try replace Rb := Rb.later hb); (replace hb0 := below_step hb0 hb); go_wp2_with fail)
        refine hK.out _ _ ?hSr58_7_3 (fun hHeld2 => ?_)
        case hSr58_7_3 => (obtain ⟨Qs, Qp⟩ := hHeld; exact ⟨Qs.later hb, Qp.later hb⟩)
        clear hK K hHeld
        have hHeld := hHeld2
        clear hHeld2
        rename World => wq
        (try simp only [Act.put, nz1, nz2, nz3])
        refine wpAnyH_ready (rs := [7, 8, 9]) (by kernel_rfl) (by simp) ?_
        refine AllReadyH.cons (o := ⟨some 26, .call { callee := .value (.func 26), args := #[.tmp 23, .tmp 24, .tmp 25], argTypes := #[26, 33, 27] }, 33, _, _, _⟩) rfl (fun K hK => ?_) ?_
        · (go_simp; (refine (HV _).mono ?_); (rintro e wz ⟨rfl, hb⟩); (replace Rs := Rs.later hb); (replace Rp := Rp.later hb); (try replace Ra := Ra.later hb); (try replace Rb := Rb.later hb); (replace hb0 := below_step hb0 hb); go_wp2_with fail)
          refine hK.out _ _ ?hSr58_8_7 (fun hHeld2 => ?_)
          case hSr58_8_7 => (obtain ⟨Qs, Qp⟩ := hHeld; exact ⟨Qs.later hb, Qp.later hb⟩)
          clear hK K hHeld
          have hHeld := hHeld2
          clear hHeld2
          rename World => wq
          (try simp only [Act.put, nz1, nz2, nz3])
          refine wpAnyH_ready (rs := [8, 9]) (by kernel_rfl) (by simp) ?_
          refine AllReadyH.cons (o := ⟨some 4, .alloc 33, 0, _, _, _⟩) rfl (fun K hK => ?_) ?_
          · (go_simp; (have ma := hb0.size); (have na_s := Rs.lt); (have na_p := Rp.lt); (try have na_b := Rb.lt); (have Ra := Row.new wq #[.int .i64 0, .int .i64 0, .int .i64 0, .int .i64 0, .int .u64 0, .int .u64 0, .string ⟨#[]⟩, .int .i64 0, .int .i64 0, .int .u64 0, .int .u64 0, .string ⟨#[]⟩] 33); (have hb : Below wq.heap.size wq (World.alloc wq (.cells #[.int .i64 0, .int .i64 0, .int .i64 0, .int .i64 0, .int .u64 0, .int .u64 0, .string ⟨#[]⟩, .int .i64 0, .int .i64 0, .int .u64 0, .int .u64 0, .string ⟨#[]⟩] 33)) := (Below.refl _ _).alloc (Nat.le_refl _) _); (replace Rs := Rs.later hb); (replace Rp := Rp.later hb); (try replace Rb := Rb.later hb); (replace hb0 := below_step hb0 hb); (have hSn : Row (World.alloc wq (.cells #[.int .i64 0, .int .i64 0, .int .i64 0, .int .i64 0, .int .u64 0, .int .u64 0, .string ⟨#[]⟩, .int .i64 0, .int .i64 0, .int .u64 0, .int .u64 0, .string ⟨#[]⟩] 33)) w1.heap.size #[.int .i64 s.n, .int .i64 s.d0.kind, .int .i64 s.d0.side, .int .i64 s.d0.step, .int .i64 s.d1.kind, .int .i64 s.d1.side, .int .i64 s.d1.step] 26 ∧ Row (World.alloc wq (.cells #[.int .i64 0, .int .i64 0, .int .i64 0, .int .i64 0, .int .u64 0, .int .u64 0, .string ⟨#[]⟩, .int .i64 0, .int .i64 0, .int .u64 0, .int .u64 0, .string ⟨#[]⟩] 33)) gp #[.int .i64 p.a0, .int .i64 p.a1, .int .i64 p.k0.kind, .int .i64 p.k0.len, .int .u64 p.k0.h, .int .u64 p.k0.l, .string ⟨p.k0.path.toArray⟩, .int .i64 p.k1.kind, .int .i64 p.k1.len, .int .u64 p.k1.h, .int .u64 p.k1.l, .string ⟨p.k1.path.toArray⟩] 33 := by obtain ⟨Qs, Qp⟩ := hHeld; exact ⟨Qs.later hb, Qp.later hb⟩); clear hb; generalize World.alloc wq (.cells #[.int .i64 0, .int .i64 0, .int .i64 0, .int .i64 0, .int .u64 0, .int .u64 0, .string ⟨#[]⟩, .int .i64 0, .int .i64 0, .int .u64 0, .int .u64 0, .string ⟨#[]⟩] 33) = wz at *; generalize wq.heap.size = ga at *)
            refine hK.out _ _ ?hSr58_9_8 (fun hHeld2 => ?_)
            case hSr58_9_8 => (exact hSn)
            clear hK K hHeld
            have hHeld := hHeld2
            clear hHeld2
            rename World => wq
            (try simp only [Act.put, nz1, nz2, nz3])
            refine wpAnyH_ready (rs := [9]) (by kernel_rfl) (by simp) ?_
            refine AllReadyH.cons (o := ⟨some 5, .alloc 33, 0, _, _, _⟩) rfl (fun K hK => ?_) AllReadyH.nil
            (go_simp; (have mb := hb0.size); (have nb_s := Rs.lt); (have nb_p := Rp.lt); (try have nb_a := Ra.lt); (have Rb := Row.new wq #[.int .i64 0, .int .i64 0, .int .i64 0, .int .i64 0, .int .u64 0, .int .u64 0, .string ⟨#[]⟩, .int .i64 0, .int .i64 0, .int .u64 0, .int .u64 0, .string ⟨#[]⟩] 33); (have hb : Below wq.heap.size wq (World.alloc wq (.cells #[.int .i64 0, .int .i64 0, .int .i64 0, .int .i64 0, .int .u64 0, .int .u64 0, .string ⟨#[]⟩, .int .i64 0, .int .i64 0, .int .u64 0, .int .u64 0, .string ⟨#[]⟩] 33)) := (Below.refl _ _).alloc (Nat.le_refl _) _); (replace Rs := Rs.later hb); (replace Rp := Rp.later hb); (try replace Ra := Ra.later hb); (replace hb0 := below_step hb0 hb); (have hSn : Row (World.alloc wq (.cells #[.int .i64 0, .int .i64 0, .int .i64 0, .int .i64 0, .int .u64 0, .int .u64 0, .string ⟨#[]⟩, .int .i64 0, .int .i64 0, .int .u64 0, .int .u64 0, .string ⟨#[]⟩] 33)) w1.heap.size #[.int .i64 s.n, .int .i64 s.d0.kind, .int .i64 s.d0.side, .int .i64 s.d0.step, .int .i64 s.d1.kind, .int .i64 s.d1.side, .int .i64 s.d1.step] 26 ∧ Row (World.alloc wq (.cells #[.int .i64 0, .int .i64 0, .int .i64 0, .int .i64 0, .int .u64 0, .int .u64 0, .string ⟨#[]⟩, .int .i64 0, .int .i64 0, .int .u64 0, .int .u64 0, .string ⟨#[]⟩] 33)) gp #[.int .i64 p.a0, .int .i64 p.a1, .int .i64 p.k0.kind, .int .i64 p.k0.len, .int .u64 p.k0.h, .int .u64 p.k0.l, .string ⟨p.k0.path.toArray⟩, .int .i64 p.k1.kind, .int .i64 p.k1.len, .int .u64 p.k1.h, .int .u64 p.k1.l, .string ⟨p.k1.path.toArray⟩] 33 := by obtain ⟨Qs, Qp⟩ := hHeld; exact ⟨Qs.later hb, Qp.later hb⟩); clear hb; generalize World.alloc wq (.cells #[.int .i64 0, .int .i64 0, .int .i64 0, .int .i64 0, .int .u64 0, .int .u64 0, .string ⟨#[]⟩, .int .i64 0, .int .i64 0, .int .u64 0, .int .u64 0, .string ⟨#[]⟩] 33) = wz at *; generalize wq.heap.size = gb at *)
            refine hK.out _ _ ?hSr58_10_9 (fun hHeld2 => ?_)
            case hSr58_10_9 => (exact hSn)
            clear hK K hHeld
            have hHeld := hHeld2
            clear hHeld2
            rename World => wq
            (try simp only [Act.put, nz1, nz2, nz3])
            refine wpAnyH_ready (rs := [10]) (by kernel_rfl) (by simp) ?_
            refine AllReadyH.cons (o := ⟨none, .store 33 (.tmp 4) (.tmp 22), 0, _, _, _⟩) rfl (fun K hK => ?_) AllReadyH.nil
            ((rw [if_pos (by rfl)]); (with_reducible refine pst 33 (.tmp 4) (.tmp 22) ?_ ga 0 #[.int .i64 a.a0, .int .i64 a.a1, .int .i64 a.k0.kind, .int .i64 a.k0.len, .int .u64 a.k0.h, .int .u64 a.k0.l, .string ⟨a.k0.path.toArray⟩, .int .i64 a.k1.kind, .int .i64 a.k1.len, .int .u64 a.k1.h, .int .u64 a.k1.l, .string ⟨a.k1.path.toArray⟩] ?_ ?_ ?_ ?_ ?_ ?_); rfl; rfl; rfl; (exact Row.thereAt Ra 0 _ (by simp)); (exact infoPx); (simp [Value.oneCell']); (rintro wz hwz); (have hHq := hHeld); (obtain ⟨Qs, Qp⟩ := hHq); (replace Qs := prf hwz Qs); (replace Qp := prf hwz Qp); (replace Rs := prf hwz Rs); (replace Rp := prf hwz Rp); (try replace Rb := prf hwz Rb); (replace hb0 := pbl hwz hb0); (replace Ra := psw hwz Ra); clear hwz)
            refine hK.out _ _ ?hSr58_11_10 (fun hHeld2 => ?_)
            case hSr58_11_10 => (exact ⟨Qs, Qp⟩)
            clear hK K hHeld
            have hHeld := hHeld2
            clear hHeld2
            rename World => wq
            (try simp only [Act.put, nz1, nz2, nz3])
            refine wpAnyH_ready (rs := [11]) (by kernel_rfl) (by simp) ?_
            refine AllReadyH.cons (o := ⟨none, .store 33 (.tmp 5) (.tmp 26), 0, _, _, _⟩) rfl (fun K hK => ?_) AllReadyH.nil
            ((rw [if_pos (by rfl)]); (with_reducible refine pst 33 (.tmp 5) (.tmp 26) ?_ gb 0 #[.int .i64 b.a0, .int .i64 b.a1, .int .i64 b.k0.kind, .int .i64 b.k0.len, .int .u64 b.k0.h, .int .u64 b.k0.l, .string ⟨b.k0.path.toArray⟩, .int .i64 b.k1.kind, .int .i64 b.k1.len, .int .u64 b.k1.h, .int .u64 b.k1.l, .string ⟨b.k1.path.toArray⟩] ?_ ?_ ?_ ?_ ?_ ?_); rfl; rfl; rfl; (exact Row.thereAt Rb 0 _ (by simp)); (exact infoPx); (simp [Value.oneCell']); (rintro wz hwz); (have hHq := hHeld); (obtain ⟨Qs, Qp⟩ := hHq); (replace Qs := prf hwz Qs); (replace Qp := prf hwz Qp); (replace Rs := prf hwz Rs); (replace Rp := prf hwz Rp); (try replace Ra := prf hwz Ra); (replace hb0 := pbl hwz hb0); (replace Rb := psw hwz Rb); clear hwz)
            refine hK.out _ _ ?hSr58_12_11 (fun hHeld2 => ?_)
            case hSr58_12_11 => (exact ⟨Qs, Qp⟩)
            clear hK K hHeld
            have hHeld := hHeld2
            clear hHeld2
            rename World => wq
            (try simp only [Act.put, nz1, nz2, nz3])
            refine wpAnyH_done (by kernel_rfl) ?_ _
            (go_wp2_with fail; go_meet; exact ⟨ga, gb, rfl, rfl, ma, mb, Ra, Rb, Rs, Rp, hb0⟩)
          refine AllReadyH.cons (o := ⟨some 5, .alloc 33, 0, _, _, _⟩) rfl (fun K hK => ?_) AllReadyH.nil
          · (go_simp; (have mb := hb0.size); (have nb_s := Rs.lt); (have nb_p := Rp.lt); (try have nb_a := Ra.lt); (have Rb := Row.new wq #[.int .i64 0, .int .i64 0, .int .i64 0, .int .i64 0, .int .u64 0, .int .u64 0, .string ⟨#[]⟩, .int .i64 0, .int .i64 0, .int .u64 0, .int .u64 0, .string ⟨#[]⟩] 33); (have hb : Below wq.heap.size wq (World.alloc wq (.cells #[.int .i64 0, .int .i64 0, .int .i64 0, .int .i64 0, .int .u64 0, .int .u64 0, .string ⟨#[]⟩, .int .i64 0, .int .i64 0, .int .u64 0, .int .u64 0, .string ⟨#[]⟩] 33)) := (Below.refl _ _).alloc (Nat.le_refl _) _); (replace Rs := Rs.later hb); (replace Rp := Rp.later hb); (try replace Ra := Ra.later hb); (replace hb0 := below_step hb0 hb); (have hSn : Row (World.alloc wq (.cells #[.int .i64 0, .int .i64 0, .int .i64 0, .int .i64 0, .int .u64 0, .int .u64 0, .string ⟨#[]⟩, .int .i64 0, .int .i64 0, .int .u64 0, .int .u64 0, .string ⟨#[]⟩] 33)) w1.heap.size #[.int .i64 s.n, .int .i64 s.d0.kind, .int .i64 s.d0.side, .int .i64 s.d0.step, .int .i64 s.d1.kind, .int .i64 s.d1.side, .int .i64 s.d1.step] 26 ∧ Row (World.alloc wq (.cells #[.int .i64 0, .int .i64 0, .int .i64 0, .int .i64 0, .int .u64 0, .int .u64 0, .string ⟨#[]⟩, .int .i64 0, .int .i64 0, .int .u64 0, .int .u64 0, .string ⟨#[]⟩] 33)) gp #[.int .i64 p.a0, .int .i64 p.a1, .int .i64 p.k0.kind, .int .i64 p.k0.len, .int .u64 p.k0.h, .int .u64 p.k0.l, .string ⟨p.k0.path.toArray⟩, .int .i64 p.k1.kind, .int .i64 p.k1.len, .int .u64 p.k1.h, .int .u64 p.k1.l, .string ⟨p.k1.path.toArray⟩] 33 := by obtain ⟨Qs, Qp⟩ := hHeld; exact ⟨Qs.later hb, Qp.later hb⟩); clear hb; generalize World.alloc wq (.cells #[.int .i64 0, .int .i64 0, .int .i64 0, .int .i64 0, .int .u64 0, .int .u64 0, .string ⟨#[]⟩, .int .i64 0, .int .i64 0, .int .u64 0, .int .u64 0, .string ⟨#[]⟩] 33) = wz at *; generalize wq.heap.size = gb at *)
            refine hK.out _ _ ?hSr58_13_9 (fun hHeld2 => ?_)
            case hSr58_13_9 => (exact hSn)
            clear hK K hHeld
            have hHeld := hHeld2
            clear hHeld2
            rename World => wq
            (try simp only [Act.put, nz1, nz2, nz3])
            refine wpAnyH_ready (rs := [8]) (by kernel_rfl) (by simp) ?_
            refine AllReadyH.cons (o := ⟨some 4, .alloc 33, 0, _, _, _⟩) rfl (fun K hK => ?_) AllReadyH.nil
            (go_simp; (have ma := hb0.size); (have na_s := Rs.lt); (have na_p := Rp.lt); (try have na_b := Rb.lt); (have Ra := Row.new wq #[.int .i64 0, .int .i64 0, .int .i64 0, .int .i64 0, .int .u64 0, .int .u64 0, .string ⟨#[]⟩, .int .i64 0, .int .i64 0, .int .u64 0, .int .u64 0, .string ⟨#[]⟩] 33); (have hb : Below wq.heap.size wq (World.alloc wq (.cells #[.int .i64 0, .int .i64 0, .int .i64 0, .int .i64 0, .int .u64 0, .int .u64 0, .string ⟨#[]⟩, .int .i64 0, .int .i64 0, .int .u64 0, .int .u64 0, .string ⟨#[]⟩] 33)) := (Below.refl _ _).alloc (Nat.le_refl _) _); (replace Rs := Rs.later hb); (replace Rp := Rp.later hb); (try replace Rb := Rb.later hb); (replace hb0 := below_step hb0 hb); (have hSn : Row (World.alloc wq (.cells #[.int .i64 0, .int .i64 0, .int .i64 0, .int .i64 0, .int .u64 0, .int .u64 0, .string ⟨#[]⟩, .int .i64 0, .int .i64 0, .int .u64 0, .int .u64 0, .string ⟨#[]⟩] 33)) w1.heap.size #[.int .i64 s.n, .int .i64 s.d0.kind, .int .i64 s.d0.side, .int .i64 s.d0.step, .int .i64 s.d1.kind, .int .i64 s.d1.side, .int .i64 s.d1.step] 26 ∧ Row (World.alloc wq (.cells #[.int .i64 0, .int .i64 0, .int .i64 0, .int .i64 0, .int .u64 0, .int .u64 0, .string ⟨#[]⟩, .int .i64 0, .int .i64 0, .int .u64 0, .int .u64 0, .string ⟨#[]⟩] 33)) gp #[.int .i64 p.a0, .int .i64 p.a1, .int .i64 p.k0.kind, .int .i64 p.k0.len, .int .u64 p.k0.h, .int .u64 p.k0.l, .string ⟨p.k0.path.toArray⟩, .int .i64 p.k1.kind, .int .i64 p.k1.len, .int .u64 p.k1.h, .int .u64 p.k1.l, .string ⟨p.k1.path.toArray⟩] 33 := by obtain ⟨Qs, Qp⟩ := hHeld; exact ⟨Qs.later hb, Qp.later hb⟩); clear hb; generalize World.alloc wq (.cells #[.int .i64 0, .int .i64 0, .int .i64 0, .int .i64 0, .int .u64 0, .int .u64 0, .string ⟨#[]⟩, .int .i64 0, .int .i64 0, .int .u64 0, .int .u64 0, .string ⟨#[]⟩] 33) = wz at *; generalize wq.heap.size = ga at *)
            refine hK.out _ _ ?hSr58_14_8 (fun hHeld2 => ?_)
            case hSr58_14_8 => (exact hSn)
            clear hK K hHeld
            have hHeld := hHeld2
            clear hHeld2
            rename World => wq
            (try simp only [Act.put, nz1, nz2, nz3])
            refine wpAnyH_ready (rs := [10]) (by kernel_rfl) (by simp) ?_
            refine AllReadyH.cons (o := ⟨none, .store 33 (.tmp 4) (.tmp 22), 0, _, _, _⟩) rfl (fun K hK => ?_) AllReadyH.nil
            ((rw [if_pos (by rfl)]); (with_reducible refine pst 33 (.tmp 4) (.tmp 22) ?_ ga 0 #[.int .i64 a.a0, .int .i64 a.a1, .int .i64 a.k0.kind, .int .i64 a.k0.len, .int .u64 a.k0.h, .int .u64 a.k0.l, .string ⟨a.k0.path.toArray⟩, .int .i64 a.k1.kind, .int .i64 a.k1.len, .int .u64 a.k1.h, .int .u64 a.k1.l, .string ⟨a.k1.path.toArray⟩] ?_ ?_ ?_ ?_ ?_ ?_); rfl; rfl; rfl; (exact Row.thereAt Ra 0 _ (by simp)); (exact infoPx); (simp [Value.oneCell']); (rintro wz hwz); (have hHq := hHeld); (obtain ⟨Qs, Qp⟩ := hHq); (replace Qs := prf hwz Qs); (replace Qp := prf hwz Qp); (replace Rs := prf hwz Rs); (replace Rp := prf hwz Rp); (try replace Rb := prf hwz Rb); (replace hb0 := pbl hwz hb0); (replace Ra := psw hwz Ra); clear hwz)
            refine hK.out _ _ ?hSr58_15_10 (fun hHeld2 => ?_)
            case hSr58_15_10 => (exact ⟨Qs, Qp⟩)
            clear hK K hHeld
            have hHeld := hHeld2
            clear hHeld2
            rename World => wq
            (try simp only [Act.put, nz1, nz2, nz3])
            refine wpAnyH_ready (rs := [11]) (by kernel_rfl) (by simp) ?_
            refine AllReadyH.cons (o := ⟨none, .store 33 (.tmp 5) (.tmp 26), 0, _, _, _⟩) rfl (fun K hK => ?_) AllReadyH.nil
            ((rw [if_pos (by rfl)]); (with_reducible refine pst 33 (.tmp 5) (.tmp 26) ?_ gb 0 #[.int .i64 b.a0, .int .i64 b.a1, .int .i64 b.k0.kind, .int .i64 b.k0.len, .int .u64 b.k0.h, .int .u64 b.k0.l, .string ⟨b.k0.path.toArray⟩, .int .i64 b.k1.kind, .int .i64 b.k1.len, .int .u64 b.k1.h, .int .u64 b.k1.l, .string ⟨b.k1.path.toArray⟩] ?_ ?_ ?_ ?_ ?_ ?_); rfl; rfl; rfl; (exact Row.thereAt Rb 0 _ (by simp)); (exact infoPx); (simp [Value.oneCell']); (rintro wz hwz); (have hHq := hHeld); (obtain ⟨Qs, Qp⟩ := hHq); (replace Qs := prf hwz Qs); (replace Qp := prf hwz Qp); (replace Rs := prf hwz Rs); (replace Rp := prf hwz Rp); (try replace Ra := prf hwz Ra); (replace hb0 := pbl hwz hb0); (replace Rb := psw hwz Rb); clear hwz)
            refine hK.out _ _ ?hSr58_16_11 (fun hHeld2 => ?_)
            case hSr58_16_11 => (exact ⟨Qs, Qp⟩)
            clear hK K hHeld
            have hHeld := hHeld2
            clear hHeld2
            rename World => wq
            (try simp only [Act.put, nz1, nz2, nz3])
            refine wpAnyH_done (by kernel_rfl) ?_ _
            (go_wp2_with fail; go_meet; exact ⟨ga, gb, rfl, rfl, ma, mb, Ra, Rb, Rs, Rp, hb0⟩)
        refine AllReadyH.cons (o := ⟨some 4, .alloc 33, 0, _, _, _⟩) rfl (fun K hK => ?_) ?_
        · (go_simp; (have ma := hb0.size); (have na_s := Rs.lt); (have na_p := Rp.lt); (try have na_b := Rb.lt); (have Ra := Row.new wq #[.int .i64 0, .int .i64 0, .int .i64 0, .int .i64 0, .int .u64 0, .int .u64 0, .string ⟨#[]⟩, .int .i64 0, .int .i64 0, .int .u64 0, .int .u64 0, .string ⟨#[]⟩] 33); (have hb : Below wq.heap.size wq (World.alloc wq (.cells #[.int .i64 0, .int .i64 0, .int .i64 0, .int .i64 0, .int .u64 0, .int .u64 0, .string ⟨#[]⟩, .int .i64 0, .int .i64 0, .int .u64 0, .int .u64 0, .string ⟨#[]⟩] 33)) := (Below.refl _ _).alloc (Nat.le_refl _) _); (replace Rs := Rs.later hb); (replace Rp := Rp.later hb); (try replace Rb := Rb.later hb); (replace hb0 := below_step hb0 hb); (have hSn : Row (World.alloc wq (.cells #[.int .i64 0, .int .i64 0, .int .i64 0, .int .i64 0, .int .u64 0, .int .u64 0, .string ⟨#[]⟩, .int .i64 0, .int .i64 0, .int .u64 0, .int .u64 0, .string ⟨#[]⟩] 33)) w1.heap.size #[.int .i64 s.n, .int .i64 s.d0.kind, .int .i64 s.d0.side, .int .i64 s.d0.step, .int .i64 s.d1.kind, .int .i64 s.d1.side, .int .i64 s.d1.step] 26 ∧ Row (World.alloc wq (.cells #[.int .i64 0, .int .i64 0, .int .i64 0, .int .i64 0, .int .u64 0, .int .u64 0, .string ⟨#[]⟩, .int .i64 0, .int .i64 0, .int .u64 0, .int .u64 0, .string ⟨#[]⟩] 33)) gp #[.int .i64 p.a0, .int .i64 p.a1, .int .i64 p.k0.kind, .int .i64 p.k0.len, .int .u64 p.k0.h, .int .u64 p.k0.l, .string ⟨p.k0.path.toArray⟩, .int .i64 p.k1.kind, .int .i64 p.k1.len, .int .u64 p.k1.h, .int .u64 p.k1.l, .string ⟨p.k1.path.toArray⟩] 33 := by obtain ⟨Qs, Qp⟩ := hHeld; exact ⟨Qs.later hb, Qp.later hb⟩); clear hb; generalize World.alloc wq (.cells #[.int .i64 0, .int .i64 0, .int .i64 0, .int .i64 0, .int .u64 0, .int .u64 0, .string ⟨#[]⟩, .int .i64 0, .int .i64 0, .int .u64 0, .int .u64 0, .string ⟨#[]⟩] 33) = wz at *; generalize wq.heap.size = ga at *)
          refine hK.out _ _ ?hSr58_17_8 (fun hHeld2 => ?_)
          case hSr58_17_8 => (exact hSn)
          clear hK K hHeld
          have hHeld := hHeld2
          clear hHeld2
          rename World => wq
          (try simp only [Act.put, nz1, nz2, nz3])
          refine wpAnyH_ready (rs := [7, 9]) (by kernel_rfl) (by simp) ?_
          refine AllReadyH.cons (o := ⟨some 26, .call { callee := .value (.func 26), args := #[.tmp 23, .tmp 24, .tmp 25], argTypes := #[26, 33, 27] }, 33, _, _, _⟩) rfl (fun K hK => ?_) ?_
          · (go_simp; (refine (HV _).mono ?_); (rintro e wz ⟨rfl, hb⟩); (replace Rs := Rs.later hb); (replace Rp := Rp.later hb); (try replace Ra := Ra.later hb); (try replace Rb := Rb.later hb); (replace hb0 := below_step hb0 hb); go_wp2_with fail)
            refine hK.out _ _ ?hSr58_18_7 (fun hHeld2 => ?_)
            case hSr58_18_7 => (obtain ⟨Qs, Qp⟩ := hHeld; exact ⟨Qs.later hb, Qp.later hb⟩)
            clear hK K hHeld
            have hHeld := hHeld2
            clear hHeld2
            rename World => wq
            (try simp only [Act.put, nz1, nz2, nz3])
            refine wpAnyH_ready (rs := [9]) (by kernel_rfl) (by simp) ?_
            refine AllReadyH.cons (o := ⟨some 5, .alloc 33, 0, _, _, _⟩) rfl (fun K hK => ?_) AllReadyH.nil
            (go_simp; (have mb := hb0.size); (have nb_s := Rs.lt); (have nb_p := Rp.lt); (try have nb_a := Ra.lt); (have Rb := Row.new wq #[.int .i64 0, .int .i64 0, .int .i64 0, .int .i64 0, .int .u64 0, .int .u64 0, .string ⟨#[]⟩, .int .i64 0, .int .i64 0, .int .u64 0, .int .u64 0, .string ⟨#[]⟩] 33); (have hb : Below wq.heap.size wq (World.alloc wq (.cells #[.int .i64 0, .int .i64 0, .int .i64 0, .int .i64 0, .int .u64 0, .int .u64 0, .string ⟨#[]⟩, .int .i64 0, .int .i64 0, .int .u64 0, .int .u64 0, .string ⟨#[]⟩] 33)) := (Below.refl _ _).alloc (Nat.le_refl _) _); (replace Rs := Rs.later hb); (replace Rp := Rp.later hb); (try replace Ra := Ra.later hb); (replace hb0 := below_step hb0 hb); (have hSn : Row (World.alloc wq (.cells #[.int .i64 0, .int .i64 0, .int .i64 0, .int .i64 0, .int .u64 0, .int .u64 0, .string ⟨#[]⟩, .int .i64 0, .int .i64 0, .int .u64 0, .int .u64 0, .string ⟨#[]⟩] 33)) w1.heap.size #[.int .i64 s.n, .int .i64 s.d0.kind, .int .i64 s.d0.side, .int .i64 s.d0.step, .int .i64 s.d1.kind, .int .i64 s.d1.side, .int .i64 s.d1.step] 26 ∧ Row (World.alloc wq (.cells #[.int .i64 0, .int .i64 0, .int .i64 0, .int .i64 0, .int .u64 0, .int .u64 0, .string ⟨#[]⟩, .int .i64 0, .int .i64 0, .int .u64 0, .int .u64 0, .string ⟨#[]⟩] 33)) gp #[.int .i64 p.a0, .int .i64 p.a1, .int .i64 p.k0.kind, .int .i64 p.k0.len, .int .u64 p.k0.h, .int .u64 p.k0.l, .string ⟨p.k0.path.toArray⟩, .int .i64 p.k1.kind, .int .i64 p.k1.len, .int .u64 p.k1.h, .int .u64 p.k1.l, .string ⟨p.k1.path.toArray⟩] 33 := by obtain ⟨Qs, Qp⟩ := hHeld; exact ⟨Qs.later hb, Qp.later hb⟩); clear hb; generalize World.alloc wq (.cells #[.int .i64 0, .int .i64 0, .int .i64 0, .int .i64 0, .int .u64 0, .int .u64 0, .string ⟨#[]⟩, .int .i64 0, .int .i64 0, .int .u64 0, .int .u64 0, .string ⟨#[]⟩] 33) = wz at *; generalize wq.heap.size = gb at *)
            refine hK.out _ _ ?hSr58_19_9 (fun hHeld2 => ?_)
            case hSr58_19_9 => (exact hSn)
            clear hK K hHeld
            have hHeld := hHeld2
            clear hHeld2
            rename World => wq
            (try simp only [Act.put, nz1, nz2, nz3])
            refine wpAnyH_ready (rs := [10]) (by kernel_rfl) (by simp) ?_
            refine AllReadyH.cons (o := ⟨none, .store 33 (.tmp 4) (.tmp 22), 0, _, _, _⟩) rfl (fun K hK => ?_) AllReadyH.nil
            ((rw [if_pos (by rfl)]); (with_reducible refine pst 33 (.tmp 4) (.tmp 22) ?_ ga 0 #[.int .i64 a.a0, .int .i64 a.a1, .int .i64 a.k0.kind, .int .i64 a.k0.len, .int .u64 a.k0.h, .int .u64 a.k0.l, .string ⟨a.k0.path.toArray⟩, .int .i64 a.k1.kind, .int .i64 a.k1.len, .int .u64 a.k1.h, .int .u64 a.k1.l, .string ⟨a.k1.path.toArray⟩] ?_ ?_ ?_ ?_ ?_ ?_); rfl; rfl; rfl; (exact Row.thereAt Ra 0 _ (by simp)); (exact infoPx); (simp [Value.oneCell']); (rintro wz hwz); (have hHq := hHeld); (obtain ⟨Qs, Qp⟩ := hHq); (replace Qs := prf hwz Qs); (replace Qp := prf hwz Qp); (replace Rs := prf hwz Rs); (replace Rp := prf hwz Rp); (try replace Rb := prf hwz Rb); (replace hb0 := pbl hwz hb0); (replace Ra := psw hwz Ra); clear hwz)
            refine hK.out _ _ ?hSr58_20_10 (fun hHeld2 => ?_)
            case hSr58_20_10 => (exact ⟨Qs, Qp⟩)
            clear hK K hHeld
            have hHeld := hHeld2
            clear hHeld2
            rename World => wq
            (try simp only [Act.put, nz1, nz2, nz3])
            refine wpAnyH_ready (rs := [11]) (by kernel_rfl) (by simp) ?_
            refine AllReadyH.cons (o := ⟨none, .store 33 (.tmp 5) (.tmp 26), 0, _, _, _⟩) rfl (fun K hK => ?_) AllReadyH.nil
            ((rw [if_pos (by rfl)]); (with_reducible refine pst 33 (.tmp 5) (.tmp 26) ?_ gb 0 #[.int .i64 b.a0, .int .i64 b.a1, .int .i64 b.k0.kind, .int .i64 b.k0.len, .int .u64 b.k0.h, .int .u64 b.k0.l, .string ⟨b.k0.path.toArray⟩, .int .i64 b.k1.kind, .int .i64 b.k1.len, .int .u64 b.k1.h, .int .u64 b.k1.l, .string ⟨b.k1.path.toArray⟩] ?_ ?_ ?_ ?_ ?_ ?_); rfl; rfl; rfl; (exact Row.thereAt Rb 0 _ (by simp)); (exact infoPx); (simp [Value.oneCell']); (rintro wz hwz); (have hHq := hHeld); (obtain ⟨Qs, Qp⟩ := hHq); (replace Qs := prf hwz Qs); (replace Qp := prf hwz Qp); (replace Rs := prf hwz Rs); (replace Rp := prf hwz Rp); (try replace Ra := prf hwz Ra); (replace hb0 := pbl hwz hb0); (replace Rb := psw hwz Rb); clear hwz)
            refine hK.out _ _ ?hSr58_21_11 (fun hHeld2 => ?_)
            case hSr58_21_11 => (exact ⟨Qs, Qp⟩)
            clear hK K hHeld
            have hHeld := hHeld2
            clear hHeld2
            rename World => wq
            (try simp only [Act.put, nz1, nz2, nz3])
            refine wpAnyH_done (by kernel_rfl) ?_ _
            (go_wp2_with fail; go_meet; exact ⟨ga, gb, rfl, rfl, ma, mb, Ra, Rb, Rs, Rp, hb0⟩)
          refine AllReadyH.cons (o := ⟨some 5, .alloc 33, 0, _, _, _⟩) rfl (fun K hK => ?_) AllReadyH.nil
          · (go_simp; (have mb := hb0.size); (have nb_s := Rs.lt); (have nb_p := Rp.lt); (try have nb_a := Ra.lt); (have Rb := Row.new wq #[.int .i64 0, .int .i64 0, .int .i64 0, .int .i64 0, .int .u64 0, .int .u64 0, .string ⟨#[]⟩, .int .i64 0, .int .i64 0, .int .u64 0, .int .u64 0, .string ⟨#[]⟩] 33); (have hb : Below wq.heap.size wq (World.alloc wq (.cells #[.int .i64 0, .int .i64 0, .int .i64 0, .int .i64 0, .int .u64 0, .int .u64 0, .string ⟨#[]⟩, .int .i64 0, .int .i64 0, .int .u64 0, .int .u64 0, .string ⟨#[]⟩] 33)) := (Below.refl _ _).alloc (Nat.le_refl _) _); (replace Rs := Rs.later hb); (replace Rp := Rp.later hb); (try replace Ra := Ra.later hb); (replace hb0 := below_step hb0 hb); (have hSn : Row (World.alloc wq (.cells #[.int .i64 0, .int .i64 0, .int .i64 0, .int .i64 0, .int .u64 0, .int .u64 0, .string ⟨#[]⟩, .int .i64 0, .int .i64 0, .int .u64 0, .int .u64 0, .string ⟨#[]⟩] 33)) w1.heap.size #[.int .i64 s.n, .int .i64 s.d0.kind, .int .i64 s.d0.side, .int .i64 s.d0.step, .int .i64 s.d1.kind, .int .i64 s.d1.side, .int .i64 s.d1.step] 26 ∧ Row (World.alloc wq (.cells #[.int .i64 0, .int .i64 0, .int .i64 0, .int .i64 0, .int .u64 0, .int .u64 0, .string ⟨#[]⟩, .int .i64 0, .int .i64 0, .int .u64 0, .int .u64 0, .string ⟨#[]⟩] 33)) gp #[.int .i64 p.a0, .int .i64 p.a1, .int .i64 p.k0.kind, .int .i64 p.k0.len, .int .u64 p.k0.h, .int .u64 p.k0.l, .string ⟨p.k0.path.toArray⟩, .int .i64 p.k1.kind, .int .i64 p.k1.len, .int .u64 p.k1.h, .int .u64 p.k1.l, .string ⟨p.k1.path.toArray⟩] 33 := by obtain ⟨Qs, Qp⟩ := hHeld; exact ⟨Qs.later hb, Qp.later hb⟩); clear hb; generalize World.alloc wq (.cells #[.int .i64 0, .int .i64 0, .int .i64 0, .int .i64 0, .int .u64 0, .int .u64 0, .string ⟨#[]⟩, .int .i64 0, .int .i64 0, .int .u64 0, .int .u64 0, .string ⟨#[]⟩] 33) = wz at *; generalize wq.heap.size = gb at *)
            refine hK.out _ _ ?hSr58_22_9 (fun hHeld2 => ?_)
            case hSr58_22_9 => (exact hSn)
            clear hK K hHeld
            have hHeld := hHeld2
            clear hHeld2
            rename World => wq
            (try simp only [Act.put, nz1, nz2, nz3])
            refine wpAnyH_ready (rs := [7]) (by kernel_rfl) (by simp) ?_
            refine AllReadyH.cons (o := ⟨some 26, .call { callee := .value (.func 26), args := #[.tmp 23, .tmp 24, .tmp 25], argTypes := #[26, 33, 27] }, 33, _, _, _⟩) rfl (fun K hK => ?_) AllReadyH.nil
            (go_simp; (refine (HV _).mono ?_); (rintro e wz ⟨rfl, hb⟩); (replace Rs := Rs.later hb); (replace Rp := Rp.later hb); (try replace Ra := Ra.later hb); (try replace Rb := Rb.later hb); (replace hb0 := below_step hb0 hb); go_wp2_with fail)
            refine hK.out _ _ ?hSr58_23_7 (fun hHeld2 => ?_)
            case hSr58_23_7 => (obtain ⟨Qs, Qp⟩ := hHeld; exact ⟨Qs.later hb, Qp.later hb⟩)
            clear hK K hHeld
            have hHeld := hHeld2
            clear hHeld2
            rename World => wq
            (try simp only [Act.put, nz1, nz2, nz3])
            refine wpAnyH_ready (rs := [10]) (by kernel_rfl) (by simp) ?_
            refine AllReadyH.cons (o := ⟨none, .store 33 (.tmp 4) (.tmp 22), 0, _, _, _⟩) rfl (fun K hK => ?_) AllReadyH.nil
            ((rw [if_pos (by rfl)]); (with_reducible refine pst 33 (.tmp 4) (.tmp 22) ?_ ga 0 #[.int .i64 a.a0, .int .i64 a.a1, .int .i64 a.k0.kind, .int .i64 a.k0.len, .int .u64 a.k0.h, .int .u64 a.k0.l, .string ⟨a.k0.path.toArray⟩, .int .i64 a.k1.kind, .int .i64 a.k1.len, .int .u64 a.k1.h, .int .u64 a.k1.l, .string ⟨a.k1.path.toArray⟩] ?_ ?_ ?_ ?_ ?_ ?_); rfl; rfl; rfl; (exact Row.thereAt Ra 0 _ (by simp)); (exact infoPx); (simp [Value.oneCell']); (rintro wz hwz); (have hHq := hHeld); (obtain ⟨Qs, Qp⟩ := hHq); (replace Qs := prf hwz Qs); (replace Qp := prf hwz Qp); (replace Rs := prf hwz Rs); (replace Rp := prf hwz Rp); (try replace Rb := prf hwz Rb); (replace hb0 := pbl hwz hb0); (replace Ra := psw hwz Ra); clear hwz)
            refine hK.out _ _ ?hSr58_24_10 (fun hHeld2 => ?_)
            case hSr58_24_10 => (exact ⟨Qs, Qp⟩)
            clear hK K hHeld
            have hHeld := hHeld2
            clear hHeld2
            rename World => wq
            (try simp only [Act.put, nz1, nz2, nz3])
            refine wpAnyH_ready (rs := [11]) (by kernel_rfl) (by simp) ?_
            refine AllReadyH.cons (o := ⟨none, .store 33 (.tmp 5) (.tmp 26), 0, _, _, _⟩) rfl (fun K hK => ?_) AllReadyH.nil
            ((rw [if_pos (by rfl)]); (with_reducible refine pst 33 (.tmp 5) (.tmp 26) ?_ gb 0 #[.int .i64 b.a0, .int .i64 b.a1, .int .i64 b.k0.kind, .int .i64 b.k0.len, .int .u64 b.k0.h, .int .u64 b.k0.l, .string ⟨b.k0.path.toArray⟩, .int .i64 b.k1.kind, .int .i64 b.k1.len, .int .u64 b.k1.h, .int .u64 b.k1.l, .string ⟨b.k1.path.toArray⟩] ?_ ?_ ?_ ?_ ?_ ?_); rfl; rfl; rfl; (exact Row.thereAt Rb 0 _ (by simp)); (exact infoPx); (simp [Value.oneCell']); (rintro wz hwz); (have hHq := hHeld); (obtain ⟨Qs, Qp⟩ := hHq); (replace Qs := prf hwz Qs); (replace Qp := prf hwz Qp); (replace Rs := prf hwz Rs); (replace Rp := prf hwz Rp); (try replace Ra := prf hwz Ra); (replace hb0 := pbl hwz hb0); (replace Rb := psw hwz Rb); clear hwz)
            refine hK.out _ _ ?hSr58_25_11 (fun hHeld2 => ?_)
            case hSr58_25_11 => (exact ⟨Qs, Qp⟩)
            clear hK K hHeld
            have hHeld := hHeld2
            clear hHeld2
            rename World => wq
            (try simp only [Act.put, nz1, nz2, nz3])
            refine wpAnyH_done (by kernel_rfl) ?_ _
            (go_wp2_with fail; go_meet; exact ⟨ga, gb, rfl, rfl, ma, mb, Ra, Rb, Rs, Rp, hb0⟩)
        refine AllReadyH.cons (o := ⟨some 5, .alloc 33, 0, _, _, _⟩) rfl (fun K hK => ?_) AllReadyH.nil
        · (go_simp; (have mb := hb0.size); (have nb_s := Rs.lt); (have nb_p := Rp.lt); (try have nb_a := Ra.lt); (have Rb := Row.new wq #[.int .i64 0, .int .i64 0, .int .i64 0, .int .i64 0, .int .u64 0, .int .u64 0, .string ⟨#[]⟩, .int .i64 0, .int .i64 0, .int .u64 0, .int .u64 0, .string ⟨#[]⟩] 33); (have hb : Below wq.heap.size wq (World.alloc wq (.cells #[.int .i64 0, .int .i64 0, .int .i64 0, .int .i64 0, .int .u64 0, .int .u64 0, .string ⟨#[]⟩, .int .i64 0, .int .i64 0, .int .u64 0, .int .u64 0, .string ⟨#[]⟩] 33)) := (Below.refl _ _).alloc (Nat.le_refl _) _); (replace Rs := Rs.later hb); (replace Rp := Rp.later hb); (try replace Ra := Ra.later hb); (replace hb0 := below_step hb0 hb); (have hSn : Row (World.alloc wq (.cells #[.int .i64 0, .int .i64 0, .int .i64 0, .int .i64 0, .int .u64 0, .int .u64 0, .string ⟨#[]⟩, .int .i64 0, .int .i64 0, .int .u64 0, .int .u64 0, .string ⟨#[]⟩] 33)) w1.heap.size #[.int .i64 s.n, .int .i64 s.d0.kind, .int .i64 s.d0.side, .int .i64 s.d0.step, .int .i64 s.d1.kind, .int .i64 s.d1.side, .int .i64 s.d1.step] 26 ∧ Row (World.alloc wq (.cells #[.int .i64 0, .int .i64 0, .int .i64 0, .int .i64 0, .int .u64 0, .int .u64 0, .string ⟨#[]⟩, .int .i64 0, .int .i64 0, .int .u64 0, .int .u64 0, .string ⟨#[]⟩] 33)) gp #[.int .i64 p.a0, .int .i64 p.a1, .int .i64 p.k0.kind, .int .i64 p.k0.len, .int .u64 p.k0.h, .int .u64 p.k0.l, .string ⟨p.k0.path.toArray⟩, .int .i64 p.k1.kind, .int .i64 p.k1.len, .int .u64 p.k1.h, .int .u64 p.k1.l, .string ⟨p.k1.path.toArray⟩] 33 := by obtain ⟨Qs, Qp⟩ := hHeld; exact ⟨Qs.later hb, Qp.later hb⟩); clear hb; generalize World.alloc wq (.cells #[.int .i64 0, .int .i64 0, .int .i64 0, .int .i64 0, .int .u64 0, .int .u64 0, .string ⟨#[]⟩, .int .i64 0, .int .i64 0, .int .u64 0, .int .u64 0, .string ⟨#[]⟩] 33) = wz at *; generalize wq.heap.size = gb at *)
          refine hK.out _ _ ?hSr58_26_9 (fun hHeld2 => ?_)
          case hSr58_26_9 => (exact hSn)
          clear hK K hHeld
          have hHeld := hHeld2
          clear hHeld2
          rename World => wq
          (try simp only [Act.put, nz1, nz2, nz3])
          refine wpAnyH_ready (rs := [7, 8]) (by kernel_rfl) (by simp) ?_
          refine AllReadyH.cons (o := ⟨some 26, .call { callee := .value (.func 26), args := #[.tmp 23, .tmp 24, .tmp 25], argTypes := #[26, 33, 27] }, 33, _, _, _⟩) rfl (fun K hK => ?_) ?_
          · (go_simp; (refine (HV _).mono ?_); (rintro e wz ⟨rfl, hb⟩); (replace Rs := Rs.later hb); (replace Rp := Rp.later hb); (try replace Ra := Ra.later hb); (try replace Rb := Rb.later hb); (replace hb0 := below_step hb0 hb); go_wp2_with fail)
            refine hK.out _ _ ?hSr58_27_7 (fun hHeld2 => ?_)
            case hSr58_27_7 => (obtain ⟨Qs, Qp⟩ := hHeld; exact ⟨Qs.later hb, Qp.later hb⟩)
            clear hK K hHeld
            have hHeld := hHeld2
            clear hHeld2
            rename World => wq
            (try simp only [Act.put, nz1, nz2, nz3])
            refine wpAnyH_ready (rs := [8]) (by kernel_rfl) (by simp) ?_
            refine AllReadyH.cons (o := ⟨some 4, .alloc 33, 0, _, _, _⟩) rfl (fun K hK => ?_) AllReadyH.nil
            (go_simp; (have ma := hb0.size); (have na_s := Rs.lt); (have na_p := Rp.lt); (try have na_b := Rb.lt); (have Ra := Row.new wq #[.int .i64 0, .int .i64 0, .int .i64 0, .int .i64 0, .int .u64 0, .int .u64 0, .string ⟨#[]⟩, .int .i64 0, .int .i64 0, .int .u64 0, .int .u64 0, .string ⟨#[]⟩] 33); (have hb : Below wq.heap.size wq (World.alloc wq (.cells #[.int .i64 0, .int .i64 0, .int .i64 0, .int .i64 0, .int .u64 0, .int .u64 0, .string ⟨#[]⟩, .int .i64 0, .int .i64 0, .int .u64 0, .int .u64 0, .string ⟨#[]⟩] 33)) := (Below.refl _ _).alloc (Nat.le_refl _) _); (replace Rs := Rs.later hb); (replace Rp := Rp.later hb); (try replace Rb := Rb.later hb); (replace hb0 := below_step hb0 hb); (have hSn : Row (World.alloc wq (.cells #[.int .i64 0, .int .i64 0, .int .i64 0, .int .i64 0, .int .u64 0, .int .u64 0, .string ⟨#[]⟩, .int .i64 0, .int .i64 0, .int .u64 0, .int .u64 0, .string ⟨#[]⟩] 33)) w1.heap.size #[.int .i64 s.n, .int .i64 s.d0.kind, .int .i64 s.d0.side, .int .i64 s.d0.step, .int .i64 s.d1.kind, .int .i64 s.d1.side, .int .i64 s.d1.step] 26 ∧ Row (World.alloc wq (.cells #[.int .i64 0, .int .i64 0, .int .i64 0, .int .i64 0, .int .u64 0, .int .u64 0, .string ⟨#[]⟩, .int .i64 0, .int .i64 0, .int .u64 0, .int .u64 0, .string ⟨#[]⟩] 33)) gp #[.int .i64 p.a0, .int .i64 p.a1, .int .i64 p.k0.kind, .int .i64 p.k0.len, .int .u64 p.k0.h, .int .u64 p.k0.l, .string ⟨p.k0.path.toArray⟩, .int .i64 p.k1.kind, .int .i64 p.k1.len, .int .u64 p.k1.h, .int .u64 p.k1.l, .string ⟨p.k1.path.toArray⟩] 33 := by obtain ⟨Qs, Qp⟩ := hHeld; exact ⟨Qs.later hb, Qp.later hb⟩); clear hb; generalize World.alloc wq (.cells #[.int .i64 0, .int .i64 0, .int .i64 0, .int .i64 0, .int .u64 0, .int .u64 0, .string ⟨#[]⟩, .int .i64 0, .int .i64 0, .int .u64 0, .int .u64 0, .string ⟨#[]⟩] 33) = wz at *; generalize wq.heap.size = ga at *)
            refine hK.out _ _ ?hSr58_28_8 (fun hHeld2 => ?_)
            case hSr58_28_8 => (exact hSn)
            clear hK K hHeld
            have hHeld := hHeld2
            clear hHeld2
            rename World => wq
            (try simp only [Act.put, nz1, nz2, nz3])
            refine wpAnyH_ready (rs := [10]) (by kernel_rfl) (by simp) ?_
            refine AllReadyH.cons (o := ⟨none, .store 33 (.tmp 4) (.tmp 22), 0, _, _, _⟩) rfl (fun K hK => ?_) AllReadyH.nil
            ((rw [if_pos (by rfl)]); (with_reducible refine pst 33 (.tmp 4) (.tmp 22) ?_ ga 0 #[.int .i64 a.a0, .int .i64 a.a1, .int .i64 a.k0.kind, .int .i64 a.k0.len, .int .u64 a.k0.h, .int .u64 a.k0.l, .string ⟨a.k0.path.toArray⟩, .int .i64 a.k1.kind, .int .i64 a.k1.len, .int .u64 a.k1.h, .int .u64 a.k1.l, .string ⟨a.k1.path.toArray⟩] ?_ ?_ ?_ ?_ ?_ ?_); rfl; rfl; rfl; (exact Row.thereAt Ra 0 _ (by simp)); (exact infoPx); (simp [Value.oneCell']); (rintro wz hwz); (have hHq := hHeld); (obtain ⟨Qs, Qp⟩ := hHq); (replace Qs := prf hwz Qs); (replace Qp := prf hwz Qp); (replace Rs := prf hwz Rs); (replace Rp := prf hwz Rp); (try replace Rb := prf hwz Rb); (replace hb0 := pbl hwz hb0); (replace Ra := psw hwz Ra); clear hwz)
            refine hK.out _ _ ?hSr58_29_10 (fun hHeld2 => ?_)
            case hSr58_29_10 => (exact ⟨Qs, Qp⟩)
            clear hK K hHeld
            have hHeld := hHeld2
            clear hHeld2
            rename World => wq
            (try simp only [Act.put, nz1, nz2, nz3])
            refine wpAnyH_ready (rs := [11]) (by kernel_rfl) (by simp) ?_
            refine AllReadyH.cons (o := ⟨none, .store 33 (.tmp 5) (.tmp 26), 0, _, _, _⟩) rfl (fun K hK => ?_) AllReadyH.nil
            ((rw [if_pos (by rfl)]); (with_reducible refine pst 33 (.tmp 5) (.tmp 26) ?_ gb 0 #[.int .i64 b.a0, .int .i64 b.a1, .int .i64 b.k0.kind, .int .i64 b.k0.len, .int .u64 b.k0.h, .int .u64 b.k0.l, .string ⟨b.k0.path.toArray⟩, .int .i64 b.k1.kind, .int .i64 b.k1.len, .int .u64 b.k1.h, .int .u64 b.k1.l, .string ⟨b.k1.path.toArray⟩] ?_ ?_ ?_ ?_ ?_ ?_); rfl; rfl; rfl; (exact Row.thereAt Rb 0 _ (by simp)); (exact infoPx); (simp [Value.oneCell']); (rintro wz hwz); (have hHq := hHeld); (obtain ⟨Qs, Qp⟩ := hHq); (replace Qs := prf hwz Qs); (replace Qp := prf hwz Qp); (replace Rs := prf hwz Rs); (replace Rp := prf hwz Rp); (try replace Ra := prf hwz Ra); (replace hb0 := pbl hwz hb0); (replace Rb := psw hwz Rb); clear hwz)
            refine hK.out _ _ ?hSr58_30_11 (fun hHeld2 => ?_)
            case hSr58_30_11 => (exact ⟨Qs, Qp⟩)
            clear hK K hHeld
            have hHeld := hHeld2
            clear hHeld2
            rename World => wq
            (try simp only [Act.put, nz1, nz2, nz3])
            refine wpAnyH_done (by kernel_rfl) ?_ _
            (go_wp2_with fail; go_meet; exact ⟨ga, gb, rfl, rfl, ma, mb, Ra, Rb, Rs, Rp, hb0⟩)
          refine AllReadyH.cons (o := ⟨some 4, .alloc 33, 0, _, _, _⟩) rfl (fun K hK => ?_) AllReadyH.nil
          · (go_simp; (have ma := hb0.size); (have na_s := Rs.lt); (have na_p := Rp.lt); (try have na_b := Rb.lt); (have Ra := Row.new wq #[.int .i64 0, .int .i64 0, .int .i64 0, .int .i64 0, .int .u64 0, .int .u64 0, .string ⟨#[]⟩, .int .i64 0, .int .i64 0, .int .u64 0, .int .u64 0, .string ⟨#[]⟩] 33); (have hb : Below wq.heap.size wq (World.alloc wq (.cells #[.int .i64 0, .int .i64 0, .int .i64 0, .int .i64 0, .int .u64 0, .int .u64 0, .string ⟨#[]⟩, .int .i64 0, .int .i64 0, .int .u64 0, .int .u64 0, .string ⟨#[]⟩] 33)) := (Below.refl _ _).alloc (Nat.le_refl _) _); (replace Rs := Rs.later hb); (replace Rp := Rp.later hb); (try replace Rb := Rb.later hb); (replace hb0 := below_step hb0 hb); (have hSn : Row (World.alloc wq (.cells #[.int .i64 0, .int .i64 0, .int .i64 0, .int .i64 0, .int .u64 0, .int .u64 0, .string ⟨#[]⟩, .int .i64 0, .int .i64 0, .int .u64 0, .int .u64 0, .string ⟨#[]⟩] 33)) w1.heap.size #[.int .i64 s.n, .int .i64 s.d0.kind, .int .i64 s.d0.side, .int .i64 s.d0.step, .int .i64 s.d1.kind, .int .i64 s.d1.side, .int .i64 s.d1.step] 26 ∧ Row (World.alloc wq (.cells #[.int .i64 0, .int .i64 0, .int .i64 0, .int .i64 0, .int .u64 0, .int .u64 0, .string ⟨#[]⟩, .int .i64 0, .int .i64 0, .int .u64 0, .int .u64 0, .string ⟨#[]⟩] 33)) gp #[.int .i64 p.a0, .int .i64 p.a1, .int .i64 p.k0.kind, .int .i64 p.k0.len, .int .u64 p.k0.h, .int .u64 p.k0.l, .string ⟨p.k0.path.toArray⟩, .int .i64 p.k1.kind, .int .i64 p.k1.len, .int .u64 p.k1.h, .int .u64 p.k1.l, .string ⟨p.k1.path.toArray⟩] 33 := by obtain ⟨Qs, Qp⟩ := hHeld; exact ⟨Qs.later hb, Qp.later hb⟩); clear hb; generalize World.alloc wq (.cells #[.int .i64 0, .int .i64 0, .int .i64 0, .int .i64 0, .int .u64 0, .int .u64 0, .string ⟨#[]⟩, .int .i64 0, .int .i64 0, .int .u64 0, .int .u64 0, .string ⟨#[]⟩] 33) = wz at *; generalize wq.heap.size = ga at *)
            refine hK.out _ _ ?hSr58_31_8 (fun hHeld2 => ?_)
            case hSr58_31_8 => (exact hSn)
            clear hK K hHeld
            have hHeld := hHeld2
            clear hHeld2
            rename World => wq
            (try simp only [Act.put, nz1, nz2, nz3])
            refine wpAnyH_ready (rs := [7]) (by kernel_rfl) (by simp) ?_
            refine AllReadyH.cons (o := ⟨some 26, .call { callee := .value (.func 26), args := #[.tmp 23, .tmp 24, .tmp 25], argTypes := #[26, 33, 27] }, 33, _, _, _⟩) rfl (fun K hK => ?_) AllReadyH.nil
            (go_simp; (refine (HV _).mono ?_); (rintro e wz ⟨rfl, hb⟩); (replace Rs := Rs.later hb); (replace Rp := Rp.later hb); (try replace Ra := Ra.later hb); (try replace Rb := Rb.later hb); (replace hb0 := below_step hb0 hb); go_wp2_with fail)
            refine hK.out _ _ ?hSr58_32_7 (fun hHeld2 => ?_)
            case hSr58_32_7 => (obtain ⟨Qs, Qp⟩ := hHeld; exact ⟨Qs.later hb, Qp.later hb⟩)
            clear hK K hHeld
            have hHeld := hHeld2
            clear hHeld2
            rename World => wq
            (try simp only [Act.put, nz1, nz2, nz3])
            refine wpAnyH_ready (rs := [10]) (by kernel_rfl) (by simp) ?_
            refine AllReadyH.cons (o := ⟨none, .store 33 (.tmp 4) (.tmp 22), 0, _, _, _⟩) rfl (fun K hK => ?_) AllReadyH.nil
            ((rw [if_pos (by rfl)]); (with_reducible refine pst 33 (.tmp 4) (.tmp 22) ?_ ga 0 #[.int .i64 a.a0, .int .i64 a.a1, .int .i64 a.k0.kind, .int .i64 a.k0.len, .int .u64 a.k0.h, .int .u64 a.k0.l, .string ⟨a.k0.path.toArray⟩, .int .i64 a.k1.kind, .int .i64 a.k1.len, .int .u64 a.k1.h, .int .u64 a.k1.l, .string ⟨a.k1.path.toArray⟩] ?_ ?_ ?_ ?_ ?_ ?_); rfl; rfl; rfl; (exact Row.thereAt Ra 0 _ (by simp)); (exact infoPx); (simp [Value.oneCell']); (rintro wz hwz); (have hHq := hHeld); (obtain ⟨Qs, Qp⟩ := hHq); (replace Qs := prf hwz Qs); (replace Qp := prf hwz Qp); (replace Rs := prf hwz Rs); (replace Rp := prf hwz Rp); (try replace Rb := prf hwz Rb); (replace hb0 := pbl hwz hb0); (replace Ra := psw hwz Ra); clear hwz)
            refine hK.out _ _ ?hSr58_33_10 (fun hHeld2 => ?_)
            case hSr58_33_10 => (exact ⟨Qs, Qp⟩)
            clear hK K hHeld
            have hHeld := hHeld2
            clear hHeld2
            rename World => wq
            (try simp only [Act.put, nz1, nz2, nz3])
            refine wpAnyH_ready (rs := [11]) (by kernel_rfl) (by simp) ?_
            refine AllReadyH.cons (o := ⟨none, .store 33 (.tmp 5) (.tmp 26), 0, _, _, _⟩) rfl (fun K hK => ?_) AllReadyH.nil
            ((rw [if_pos (by rfl)]); (with_reducible refine pst 33 (.tmp 5) (.tmp 26) ?_ gb 0 #[.int .i64 b.a0, .int .i64 b.a1, .int .i64 b.k0.kind, .int .i64 b.k0.len, .int .u64 b.k0.h, .int .u64 b.k0.l, .string ⟨b.k0.path.toArray⟩, .int .i64 b.k1.kind, .int .i64 b.k1.len, .int .u64 b.k1.h, .int .u64 b.k1.l, .string ⟨b.k1.path.toArray⟩] ?_ ?_ ?_ ?_ ?_ ?_); rfl; rfl; rfl; (exact Row.thereAt Rb 0 _ (by simp)); (exact infoPx); (simp [Value.oneCell']); (rintro wz hwz); (have hHq := hHeld); (obtain ⟨Qs, Qp⟩ := hHq); (replace Qs := prf hwz Qs); (replace Qp := prf hwz Qp); (replace Rs := prf hwz Rs); (replace Rp := prf hwz Rp); (try replace Ra := prf hwz Ra); (replace hb0 := pbl hwz hb0); (replace Rb := psw hwz Rb); clear hwz)
            refine hK.out _ _ ?hSr58_34_11 (fun hHeld2 => ?_)
            case hSr58_34_11 => (exact ⟨Qs, Qp⟩)
            clear hK K hHeld
            have hHeld := hHeld2
            clear hHeld2
            rename World => wq
            (try simp only [Act.put, nz1, nz2, nz3])
            refine wpAnyH_done (by kernel_rfl) ?_ _
            (go_wp2_with fail; go_meet; exact ⟨ga, gb, rfl, rfl, ma, mb, Ra, Rb, Rs, Rp, hb0⟩)
      refine AllReadyH.cons (o := ⟨some 4, .alloc 33, 0, _, _, _⟩) rfl (fun K hK => ?_) ?_
      · (go_simp; (have ma := hb0.size); (have na_s := Rs.lt); (have na_p := Rp.lt); (try have na_b := Rb.lt); (have Ra := Row.new wq #[.int .i64 0, .int .i64 0, .int .i64 0, .int .i64 0, .int .u64 0, .int .u64 0, .string ⟨#[]⟩, .int .i64 0, .int .i64 0, .int .u64 0, .int .u64 0, .string ⟨#[]⟩] 33); (have hb : Below wq.heap.size wq (World.alloc wq (.cells #[.int .i64 0, .int .i64 0, .int .i64 0, .int .i64 0, .int .u64 0, .int .u64 0, .string ⟨#[]⟩, .int .i64 0, .int .i64 0, .int .u64 0, .int .u64 0, .string ⟨#[]⟩] 33)) := (Below.refl _ _).alloc (Nat.le_refl _) _); (replace Rs := Rs.later hb); (replace Rp := Rp.later hb); (try replace Rb := Rb.later hb); (replace hb0 := below_step hb0 hb); (have hSn : Row (World.alloc wq (.cells #[.int .i64 0, .int .i64 0, .int .i64 0, .int .i64 0, .int .u64 0, .int .u64 0, .string ⟨#[]⟩, .int .i64 0, .int .i64 0, .int .u64 0, .int .u64 0, .string ⟨#[]⟩] 33)) w1.heap.size #[.int .i64 s.n, .int .i64 s.d0.kind, .int .i64 s.d0.side, .int .i64 s.d0.step, .int .i64 s.d1.kind, .int .i64 s.d1.side, .int .i64 s.d1.step] 26 ∧ Row (World.alloc wq (.cells #[.int .i64 0, .int .i64 0, .int .i64 0, .int .i64 0, .int .u64 0, .int .u64 0, .string ⟨#[]⟩, .int .i64 0, .int .i64 0, .int .u64 0, .int .u64 0, .string ⟨#[]⟩] 33)) gp #[.int .i64 p.a0, .int .i64 p.a1, .int .i64 p.k0.kind, .int .i64 p.k0.len, .int .u64 p.k0.h, .int .u64 p.k0.l, .string ⟨p.k0.path.toArray⟩, .int .i64 p.k1.kind, .int .i64 p.k1.len, .int .u64 p.k1.h, .int .u64 p.k1.l, .string ⟨p.k1.path.toArray⟩] 33 := by obtain ⟨Qs, Qp⟩ := hHeld; exact ⟨Qs.later hb, Qp.later hb⟩); clear hb; generalize World.alloc wq (.cells #[.int .i64 0, .int .i64 0, .int .i64 0, .int .i64 0, .int .u64 0, .int .u64 0, .string ⟨#[]⟩, .int .i64 0, .int .i64 0, .int .u64 0, .int .u64 0, .string ⟨#[]⟩] 33) = wz at *; generalize wq.heap.size = ga at *)
        refine hK.out _ _ ?hSr58_35_8 (fun hHeld2 => ?_)
        case hSr58_35_8 => (exact hSn)
        clear hK K hHeld
        have hHeld := hHeld2
        clear hHeld2
        rename World => wq
        (try simp only [Act.put, nz1, nz2, nz3])
        refine wpAnyH_ready (rs := [3, 9]) (by kernel_rfl) (by simp) ?_
        refine AllReadyH.cons (o := ⟨some 22, .call { callee := .value (.func 26), args := #[.tmp 19, .tmp 20, .tmp 21], argTypes := #[26, 33, 27] }, 33, _, _, _⟩) rfl (fun K hK => ?_) ?_
        · (go_simp; (refine (HU _).mono ?_); (rintro e wz ⟨rfl, hb⟩); (replace Rs := Rs.later hb); (replace Rp := Rp.later hb); (try replace Ra := Ra.later hb); (try replace Rb := Rb.later hb); (replace hb0 := below_step hb0 hb); go_wp2_with fail)
          refine hK.out _ _ ?hSr58_36_3 (fun hHeld2 => ?_)
          case hSr58_36_3 => (obtain ⟨Qs, Qp⟩ := hHeld; exact ⟨Qs.later hb, Qp.later hb⟩)
          clear hK K hHeld
          have hHeld := hHeld2
          clear hHeld2
          rename World => wq
          (try simp only [Act.put, nz1, nz2, nz3])
          refine wpAnyH_ready (rs := [7, 9]) (by kernel_rfl) (by simp) ?_
          refine AllReadyH.cons (o := ⟨some 26, .call { callee := .value (.func 26), args := #[.tmp 23, .tmp 24, .tmp 25], argTypes := #[26, 33, 27] }, 33, _, _, _⟩) rfl (fun K hK => ?_) ?_
          · (go_simp; (refine (HV _).mono ?_); (rintro e wz ⟨rfl, hb⟩); (replace Rs := Rs.later hb); (replace Rp := Rp.later hb); (try replace Ra := Ra.later hb); (try replace Rb := Rb.later hb); (replace hb0 := below_step hb0 hb); go_wp2_with fail)
            refine hK.out _ _ ?hSr58_37_7 (fun hHeld2 => ?_)
            case hSr58_37_7 => (obtain ⟨Qs, Qp⟩ := hHeld; exact ⟨Qs.later hb, Qp.later hb⟩)
            clear hK K hHeld
            have hHeld := hHeld2
            clear hHeld2
            rename World => wq
            (try simp only [Act.put, nz1, nz2, nz3])
            refine wpAnyH_ready (rs := [9]) (by kernel_rfl) (by simp) ?_
            refine AllReadyH.cons (o := ⟨some 5, .alloc 33, 0, _, _, _⟩) rfl (fun K hK => ?_) AllReadyH.nil
            (go_simp; (have mb := hb0.size); (have nb_s := Rs.lt); (have nb_p := Rp.lt); (try have nb_a := Ra.lt); (have Rb := Row.new wq #[.int .i64 0, .int .i64 0, .int .i64 0, .int .i64 0, .int .u64 0, .int .u64 0, .string ⟨#[]⟩, .int .i64 0, .int .i64 0, .int .u64 0, .int .u64 0, .string ⟨#[]⟩] 33); (have hb : Below wq.heap.size wq (World.alloc wq (.cells #[.int .i64 0, .int .i64 0, .int .i64 0, .int .i64 0, .int .u64 0, .int .u64 0, .string ⟨#[]⟩, .int .i64 0, .int .i64 0, .int .u64 0, .int .u64 0, .string ⟨#[]⟩] 33)) := (Below.refl _ _).alloc (Nat.le_refl _) _); (replace Rs := Rs.later hb); (replace Rp := Rp.later hb); (try replace Ra := Ra.later hb); (replace hb0 := below_step hb0 hb); (have hSn : Row (World.alloc wq (.cells #[.int .i64 0, .int .i64 0, .int .i64 0, .int .i64 0, .int .u64 0, .int .u64 0, .string ⟨#[]⟩, .int .i64 0, .int .i64 0, .int .u64 0, .int .u64 0, .string ⟨#[]⟩] 33)) w1.heap.size #[.int .i64 s.n, .int .i64 s.d0.kind, .int .i64 s.d0.side, .int .i64 s.d0.step, .int .i64 s.d1.kind, .int .i64 s.d1.side, .int .i64 s.d1.step] 26 ∧ Row (World.alloc wq (.cells #[.int .i64 0, .int .i64 0, .int .i64 0, .int .i64 0, .int .u64 0, .int .u64 0, .string ⟨#[]⟩, .int .i64 0, .int .i64 0, .int .u64 0, .int .u64 0, .string ⟨#[]⟩] 33)) gp #[.int .i64 p.a0, .int .i64 p.a1, .int .i64 p.k0.kind, .int .i64 p.k0.len, .int .u64 p.k0.h, .int .u64 p.k0.l, .string ⟨p.k0.path.toArray⟩, .int .i64 p.k1.kind, .int .i64 p.k1.len, .int .u64 p.k1.h, .int .u64 p.k1.l, .string ⟨p.k1.path.toArray⟩] 33 := by obtain ⟨Qs, Qp⟩ := hHeld; exact ⟨Qs.later hb, Qp.later hb⟩); clear hb; generalize World.alloc wq (.cells #[.int .i64 0, .int .i64 0, .int .i64 0, .int .i64 0, .int .u64 0, .int .u64 0, .string ⟨#[]⟩, .int .i64 0, .int .i64 0, .int .u64 0, .int .u64 0, .string ⟨#[]⟩] 33) = wz at *; generalize wq.heap.size = gb at *)
            refine hK.out _ _ ?hSr58_38_9 (fun hHeld2 => ?_)
            case hSr58_38_9 => (exact hSn)
            clear hK K hHeld
            have hHeld := hHeld2
            clear hHeld2
            rename World => wq
            (try simp only [Act.put, nz1, nz2, nz3])
            refine wpAnyH_ready (rs := [10]) (by kernel_rfl) (by simp) ?_
            refine AllReadyH.cons (o := ⟨none, .store 33 (.tmp 4) (.tmp 22), 0, _, _, _⟩) rfl (fun K hK => ?_) AllReadyH.nil
            ((rw [if_pos (by rfl)]); (with_reducible refine pst 33 (.tmp 4) (.tmp 22) ?_ ga 0 #[.int .i64 a.a0, .int .i64 a.a1, .int .i64 a.k0.kind, .int .i64 a.k0.len, .int .u64 a.k0.h, .int .u64 a.k0.l, .string ⟨a.k0.path.toArray⟩, .int .i64 a.k1.kind, .int .i64 a.k1.len, .int .u64 a.k1.h, .int .u64 a.k1.l, .string ⟨a.k1.path.toArray⟩] ?_ ?_ ?_ ?_ ?_ ?_); rfl; rfl; rfl; (exact Row.thereAt Ra 0 _ (by simp)); (exact infoPx); (simp [Value.oneCell']); (rintro wz hwz); (have hHq := hHeld); (obtain ⟨Qs, Qp⟩ := hHq); (replace Qs := prf hwz Qs); (replace Qp := prf hwz Qp); (replace Rs := prf hwz Rs); (replace Rp := prf hwz Rp); (try replace Rb := prf hwz Rb); (replace hb0 := pbl hwz hb0); (replace Ra := psw hwz Ra); clear hwz)
            refine hK.out _ _ ?hSr58_39_10 (fun hHeld2 => ?_)
            case hSr58_39_10 => (exact ⟨Qs, Qp⟩)
            clear hK K hHeld
            have hHeld := hHeld2
            clear hHeld2
            rename World => wq
            (try simp only [Act.put, nz1, nz2, nz3])
            refine wpAnyH_ready (rs := [11]) (by kernel_rfl) (by simp) ?_
            refine AllReadyH.cons (o := ⟨none, .store 33 (.tmp 5) (.tmp 26), 0, _, _, _⟩) rfl (fun K hK => ?_) AllReadyH.nil
            ((rw [if_pos (by rfl)]); (with_reducible refine pst 33 (.tmp 5) (.tmp 26) ?_ gb 0 #[.int .i64 b.a0, .int .i64 b.a1, .int .i64 b.k0.kind, .int .i64 b.k0.len, .int .u64 b.k0.h, .int .u64 b.k0.l, .string ⟨b.k0.path.toArray⟩, .int .i64 b.k1.kind, .int .i64 b.k1.len, .int .u64 b.k1.h, .int .u64 b.k1.l, .string ⟨b.k1.path.toArray⟩] ?_ ?_ ?_ ?_ ?_ ?_); rfl; rfl; rfl; (exact Row.thereAt Rb 0 _ (by simp)); (exact infoPx); (simp [Value.oneCell']); (rintro wz hwz); (have hHq := hHeld); (obtain ⟨Qs, Qp⟩ := hHq); (replace Qs := prf hwz Qs); (replace Qp := prf hwz Qp); (replace Rs := prf hwz Rs); (replace Rp := prf hwz Rp); (try replace Ra := prf hwz Ra); (replace hb0 := pbl hwz hb0); (replace Rb := psw hwz Rb); clear hwz)
            refine hK.out _ _ ?hSr58_40_11 (fun hHeld2 => ?_)
            case hSr58_40_11 => (exact ⟨Qs, Qp⟩)
            clear hK K hHeld
            have hHeld := hHeld2
            clear hHeld2
            rename World => wq
            (try simp only [Act.put, nz1, nz2, nz3])
            refine wpAnyH_done (by kernel_rfl) ?_ _
            (go_wp2_with fail; go_meet; exact ⟨ga, gb, rfl, rfl, ma, mb, Ra, Rb, Rs, Rp, hb0⟩)
          refine AllReadyH.cons (o := ⟨some 5, .alloc 33, 0, _, _, _⟩) rfl (fun K hK => ?_) AllReadyH.nil
          · (go_simp; (have mb := hb0.size); (have nb_s := Rs.lt); (have nb_p := Rp.lt); (try have nb_a := Ra.lt); (have Rb := Row.new wq #[.int .i64 0, .int .i64 0, .int .i64 0, .int .i64 0, .int .u64 0, .int .u64 0, .string ⟨#[]⟩, .int .i64 0, .int .i64 0, .int .u64 0, .int .u64 0, .string ⟨#[]⟩] 33); (have hb : Below wq.heap.size wq (World.alloc wq (.cells #[.int .i64 0, .int .i64 0, .int .i64 0, .int .i64 0, .int .u64 0, .int .u64 0, .string ⟨#[]⟩, .int .i64 0, .int .i64 0, .int .u64 0, .int .u64 0, .string ⟨#[]⟩] 33)) := (Below.refl _ _).alloc (Nat.le_refl _) _); (replace Rs := Rs.later hb); (replace Rp := Rp.later hb); (try replace Ra := Ra.later hb); (replace hb0 := below_step hb0 hb); (have hSn : Row (World.alloc wq (.cells #[.int .i64 0, .int .i64 0, .int .i64 0, .int .i64 0, .int .u64 0, .int .u64 0, .string ⟨#[]⟩, .int .i64 0, .int .i64 0, .int .u64 0, .int .u64 0, .string ⟨#[]⟩] 33)) w1.heap.size #[.int .i64 s.n, .int .i64 s.d0.kind, .int .i64 s.d0.side, .int .i64 s.d0.step, .int .i64 s.d1.kind, .int .i64 s.d1.side, .int .i64 s.d1.step] 26 ∧ Row (World.alloc wq (.cells #[.int .i64 0, .int .i64 0, .int .i64 0, .int .i64 0, .int .u64 0, .int .u64 0, .string ⟨#[]⟩, .int .i64 0, .int .i64 0, .int .u64 0, .int .u64 0, .string ⟨#[]⟩] 33)) gp #[.int .i64 p.a0, .int .i64 p.a1, .int .i64 p.k0.kind, .int .i64 p.k0.len, .int .u64 p.k0.h, .int .u64 p.k0.l, .string ⟨p.k0.path.toArray⟩, .int .i64 p.k1.kind, .int .i64 p.k1.len, .int .u64 p.k1.h, .int .u64 p.k1.l, .string ⟨p.k1.path.toArray⟩] 33 := by obtain ⟨Qs, Qp⟩ := hHeld; exact ⟨Qs.later hb, Qp.later hb⟩); clear hb; generalize World.alloc wq (.cells #[.int .i64 0, .int .i64 0, .int .i64 0, .int .i64 0, .int .u64 0, .int .u64 0, .string ⟨#[]⟩, .int .i64 0, .int .i64 0, .int .u64 0, .int .u64 0, .string ⟨#[]⟩] 33) = wz at *; generalize wq.heap.size = gb at *)
            refine hK.out _ _ ?hSr58_41_9 (fun hHeld2 => ?_)
            case hSr58_41_9 => (exact hSn)
            clear hK K hHeld
            have hHeld := hHeld2
            clear hHeld2
            rename World => wq
            (try simp only [Act.put, nz1, nz2, nz3])
            refine wpAnyH_ready (rs := [7]) (by kernel_rfl) (by simp) ?_
            refine AllReadyH.cons (o := ⟨some 26, .call { callee := .value (.func 26), args := #[.tmp 23, .tmp 24, .tmp 25], argTypes := #[26, 33, 27] }, 33, _, _, _⟩) rfl (fun K hK => ?_) AllReadyH.nil
            (go_simp; (refine (HV _).mono ?_); (rintro e wz ⟨rfl, hb⟩); (replace Rs := Rs.later hb); (replace Rp := Rp.later hb); (try replace Ra := Ra.later hb); (try replace Rb := Rb.later hb); (replace hb0 := below_step hb0 hb); go_wp2_with fail)
            refine hK.out _ _ ?hSr58_42_7 (fun hHeld2 => ?_)
            case hSr58_42_7 => (obtain ⟨Qs, Qp⟩ := hHeld; exact ⟨Qs.later hb, Qp.later hb⟩)
            clear hK K hHeld
            have hHeld := hHeld2
            clear hHeld2
            rename World => wq
            (try simp only [Act.put, nz1, nz2, nz3])
            refine wpAnyH_ready (rs := [10]) (by kernel_rfl) (by simp) ?_
            refine AllReadyH.cons (o := ⟨none, .store 33 (.tmp 4) (.tmp 22), 0, _, _, _⟩) rfl (fun K hK => ?_) AllReadyH.nil
            ((rw [if_pos (by rfl)]); (with_reducible refine pst 33 (.tmp 4) (.tmp 22) ?_ ga 0 #[.int .i64 a.a0, .int .i64 a.a1, .int .i64 a.k0.kind, .int .i64 a.k0.len, .int .u64 a.k0.h, .int .u64 a.k0.l, .string ⟨a.k0.path.toArray⟩, .int .i64 a.k1.kind, .int .i64 a.k1.len, .int .u64 a.k1.h, .int .u64 a.k1.l, .string ⟨a.k1.path.toArray⟩] ?_ ?_ ?_ ?_ ?_ ?_); rfl; rfl; rfl; (exact Row.thereAt Ra 0 _ (by simp)); (exact infoPx); (simp [Value.oneCell']); (rintro wz hwz); (have hHq := hHeld); (obtain ⟨Qs, Qp⟩ := hHq); (replace Qs := prf hwz Qs); (replace Qp := prf hwz Qp); (replace Rs := prf hwz Rs); (replace Rp := prf hwz Rp); (try replace Rb := prf hwz Rb); (replace hb0 := pbl hwz hb0); (replace Ra := psw hwz Ra); clear hwz)
            refine hK.out _ _ ?hSr58_43_10 (fun hHeld2 => ?_)
            case hSr58_43_10 => (exact ⟨Qs, Qp⟩)
            clear hK K hHeld
            have hHeld := hHeld2
            clear hHeld2
            rename World => wq
            (try simp only [Act.put, nz1, nz2, nz3])
            refine wpAnyH_ready (rs := [11]) (by kernel_rfl) (by simp) ?_
            refine AllReadyH.cons (o := ⟨none, .store 33 (.tmp 5) (.tmp 26), 0, _, _, _⟩) rfl (fun K hK => ?_) AllReadyH.nil
            ((rw [if_pos (by rfl)]); (with_reducible refine pst 33 (.tmp 5) (.tmp 26) ?_ gb 0 #[.int .i64 b.a0, .int .i64 b.a1, .int .i64 b.k0.kind, .int .i64 b.k0.len, .int .u64 b.k0.h, .int .u64 b.k0.l, .string ⟨b.k0.path.toArray⟩, .int .i64 b.k1.kind, .int .i64 b.k1.len, .int .u64 b.k1.h, .int .u64 b.k1.l, .string ⟨b.k1.path.toArray⟩] ?_ ?_ ?_ ?_ ?_ ?_); rfl; rfl; rfl; (exact Row.thereAt Rb 0 _ (by simp)); (exact infoPx); (simp [Value.oneCell']); (rintro wz hwz); (have hHq := hHeld); (obtain ⟨Qs, Qp⟩ := hHq); (replace Qs := prf hwz Qs); (replace Qp := prf hwz Qp); (replace Rs := prf hwz Rs); (replace Rp := prf hwz Rp); (try replace Ra := prf hwz Ra); (replace hb0 := pbl hwz hb0); (replace Rb := psw hwz Rb); clear hwz)
            refine hK.out _ _ ?hSr58_44_11 (fun hHeld2 => ?_)
            case hSr58_44_11 => (exact ⟨Qs, Qp⟩)
            clear hK K hHeld
            have hHeld := hHeld2
            clear hHeld2
            rename World => wq
            (try simp only [Act.put, nz1, nz2, nz3])
            refine wpAnyH_done (by kernel_rfl) ?_ _
            (go_wp2_with fail; go_meet; exact ⟨ga, gb, rfl, rfl, ma, mb, Ra, Rb, Rs, Rp, hb0⟩)
        refine AllReadyH.cons (o := ⟨some 5, .alloc 33, 0, _, _, _⟩) rfl (fun K hK => ?_) AllReadyH.nil
        · (go_simp; (have mb := hb0.size); (have nb_s := Rs.lt); (have nb_p := Rp.lt); (try have nb_a := Ra.lt); (have Rb := Row.new wq #[.int .i64 0, .int .i64 0, .int .i64 0, .int .i64 0, .int .u64 0, .int .u64 0, .string ⟨#[]⟩, .int .i64 0, .int .i64 0, .int .u64 0, .int .u64 0, .string ⟨#[]⟩] 33); (have hb : Below wq.heap.size wq (World.alloc wq (.cells #[.int .i64 0, .int .i64 0, .int .i64 0, .int .i64 0, .int .u64 0, .int .u64 0, .string ⟨#[]⟩, .int .i64 0, .int .i64 0, .int .u64 0, .int .u64 0, .string ⟨#[]⟩] 33)) := (Below.refl _ _).alloc (Nat.le_refl _) _); (replace Rs := Rs.later hb); (replace Rp := Rp.later hb); (try replace Ra := Ra.later hb); (replace hb0 := below_step hb0 hb); (have hSn : Row (World.alloc wq (.cells #[.int .i64 0, .int .i64 0, .int .i64 0, .int .i64 0, .int .u64 0, .int .u64 0, .string ⟨#[]⟩, .int .i64 0, .int .i64 0, .int .u64 0, .int .u64 0, .string ⟨#[]⟩] 33)) w1.heap.size #[.int .i64 s.n, .int .i64 s.d0.kind, .int .i64 s.d0.side, .int .i64 s.d0.step, .int .i64 s.d1.kind, .int .i64 s.d1.side, .int .i64 s.d1.step] 26 ∧ Row (World.alloc wq (.cells #[.int .i64 0, .int .i64 0, .int .i64 0, .int .i64 0, .int .u64 0, .int .u64 0, .string ⟨#[]⟩, .int .i64 0, .int .i64 0, .int .u64 0, .int .u64 0, .string ⟨#[]⟩] 33)) gp #[.int .i64 p.a0, .int .i64 p.a1, .int .i64 p.k0.kind, .int .i64 p.k0.len, .int .u64 p.k0.h, .int .u64 p.k0.l, .string ⟨p.k0.path.toArray⟩, .int .i64 p.k1.kind, .int .i64 p.k1.len, .int .u64 p.k1.h, .int .u64 p.k1.l, .string ⟨p.k1.path.toArray⟩] 33 := by obtain ⟨Qs, Qp⟩ := hHeld; exact ⟨Qs.later hb, Qp.later hb⟩); clear hb; generalize World.alloc wq (.cells #[.int .i64 0, .int .i64 0, .int .i64 0, .int .i64 0, .int .u64 0, .int .u64 0, .string ⟨#[]⟩, .int .i64 0, .int .i64 0, .int .u64 0, .int .u64 0, .string ⟨#[]⟩] 33) = wz at *; generalize wq.heap.size = gb at *)
          refine hK.out _ _ ?hSr58_45_9 (fun hHeld2 => ?_)
          case hSr58_45_9 => (exact hSn)
          clear hK K hHeld
          have hHeld := hHeld2
          clear hHeld2
          rename World => wq
          (try simp only [Act.put, nz1, nz2, nz3])
          refine wpAnyH_ready (rs := [3]) (by kernel_rfl) (by simp) ?_
          refine AllReadyH.cons (o := ⟨some 22, .call { callee := .value (.func 26), args := #[.tmp 19, .tmp 20, .tmp 21], argTypes := #[26, 33, 27] }, 33, _, _, _⟩) rfl (fun K hK => ?_) AllReadyH.nil
          (go_simp; (refine (HU _).mono ?_); (rintro e wz ⟨rfl, hb⟩); (replace Rs := Rs.later hb); (replace Rp := Rp.later hb); (try replace Ra := Ra.later hb); (try replace Rb := Rb.later hb); (replace hb0 := below_step hb0 hb); go_wp2_with fail)
          refine hK.out _ _ ?hSr58_46_3 (fun hHeld2 => ?_)
          case hSr58_46_3 => (obtain ⟨Qs, Qp⟩ := hHeld; exact ⟨Qs.later hb, Qp.later hb⟩)
          clear hK K hHeld
          have hHeld := hHeld2
          clear hHeld2
          rename World => wq
          (try simp only [Act.put, nz1, nz2, nz3])
          refine wpAnyH_ready (rs := [7]) (by kernel_rfl) (by simp) ?_
          refine AllReadyH.cons (o := ⟨some 26, .call { callee := .value (.func 26), args := #[.tmp 23, .tmp 24, .tmp 25], argTypes := #[26, 33, 27] }, 33, _, _, _⟩) rfl (fun K hK => ?_) AllReadyH.nil
          (go_simp; (refine (HV _).mono ?_); (rintro e wz ⟨rfl, hb⟩); (replace Rs := Rs.later hb); (replace Rp := Rp.later hb); (try replace Ra := Ra.later hb); (try replace Rb := Rb.later hb); (replace hb0 := below_step hb0 hb); go_wp2_with fail)
          refine hK.out _ _ ?hSr58_47_7 (fun hHeld2 => ?_)
          case hSr58_47_7 => (obtain ⟨Qs, Qp⟩ := hHeld; exact ⟨Qs.later hb, Qp.later hb⟩)
          clear hK K hHeld
          have hHeld := hHeld2
          clear hHeld2
          rename World => wq
          (try simp only [Act.put, nz1, nz2, nz3])
          refine wpAnyH_ready (rs := [10]) (by kernel_rfl) (by simp) ?_
          refine AllReadyH.cons (o := ⟨none, .store 33 (.tmp 4) (.tmp 22), 0, _, _, _⟩) rfl (fun K hK => ?_) AllReadyH.nil
          ((rw [if_pos (by rfl)]); (with_reducible refine pst 33 (.tmp 4) (.tmp 22) ?_ ga 0 #[.int .i64 a.a0, .int .i64 a.a1, .int .i64 a.k0.kind, .int .i64 a.k0.len, .int .u64 a.k0.h, .int .u64 a.k0.l, .string ⟨a.k0.path.toArray⟩, .int .i64 a.k1.kind, .int .i64 a.k1.len, .int .u64 a.k1.h, .int .u64 a.k1.l, .string ⟨a.k1.path.toArray⟩] ?_ ?_ ?_ ?_ ?_ ?_); rfl; rfl; rfl; (exact Row.thereAt Ra 0 _ (by simp)); (exact infoPx); (simp [Value.oneCell']); (rintro wz hwz); (have hHq := hHeld); (obtain ⟨Qs, Qp⟩ := hHq); (replace Qs := prf hwz Qs); (replace Qp := prf hwz Qp); (replace Rs := prf hwz Rs); (replace Rp := prf hwz Rp); (try replace Rb := prf hwz Rb); (replace hb0 := pbl hwz hb0); (replace Ra := psw hwz Ra); clear hwz)
          refine hK.out _ _ ?hSr58_48_10 (fun hHeld2 => ?_)
          case hSr58_48_10 => (exact ⟨Qs, Qp⟩)
          clear hK K hHeld
          have hHeld := hHeld2
          clear hHeld2
          rename World => wq
          (try simp only [Act.put, nz1, nz2, nz3])
          refine wpAnyH_ready (rs := [11]) (by kernel_rfl) (by simp) ?_
          refine AllReadyH.cons (o := ⟨none, .store 33 (.tmp 5) (.tmp 26), 0, _, _, _⟩) rfl (fun K hK => ?_) AllReadyH.nil
          ((rw [if_pos (by rfl)]); (with_reducible refine pst 33 (.tmp 5) (.tmp 26) ?_ gb 0 #[.int .i64 b.a0, .int .i64 b.a1, .int .i64 b.k0.kind, .int .i64 b.k0.len, .int .u64 b.k0.h, .int .u64 b.k0.l, .string ⟨b.k0.path.toArray⟩, .int .i64 b.k1.kind, .int .i64 b.k1.len, .int .u64 b.k1.h, .int .u64 b.k1.l, .string ⟨b.k1.path.toArray⟩] ?_ ?_ ?_ ?_ ?_ ?_); rfl; rfl; rfl; (exact Row.thereAt Rb 0 _ (by simp)); (exact infoPx); (simp [Value.oneCell']); (rintro wz hwz); (have hHq := hHeld); (obtain ⟨Qs, Qp⟩ := hHq); (replace Qs := prf hwz Qs); (replace Qp := prf hwz Qp); (replace Rs := prf hwz Rs); (replace Rp := prf hwz Rp); (try replace Ra := prf hwz Ra); (replace hb0 := pbl hwz hb0); (replace Rb := psw hwz Rb); clear hwz)
          refine hK.out _ _ ?hSr58_49_11 (fun hHeld2 => ?_)
          case hSr58_49_11 => (exact ⟨Qs, Qp⟩)
          clear hK K hHeld
          have hHeld := hHeld2
          clear hHeld2
          rename World => wq
          (try simp only [Act.put, nz1, nz2, nz3])
          refine wpAnyH_done (by kernel_rfl) ?_ _
          (go_wp2_with fail; go_meet; exact ⟨ga, gb, rfl, rfl, ma, mb, Ra, Rb, Rs, Rp, hb0⟩)
      refine AllReadyH.cons (o := ⟨some 5, .alloc 33, 0, _, _, _⟩) rfl (fun K hK => ?_) AllReadyH.nil
      · (go_simp; (have mb := hb0.size); (have nb_s := Rs.lt); (have nb_p := Rp.lt); (try have nb_a := Ra.lt); (have Rb := Row.new wq #[.int .i64 0, .int .i64 0, .int .i64 0, .int .i64 0, .int .u64 0, .int .u64 0, .string ⟨#[]⟩, .int .i64 0, .int .i64 0, .int .u64 0, .int .u64 0, .string ⟨#[]⟩] 33); (have hb : Below wq.heap.size wq (World.alloc wq (.cells #[.int .i64 0, .int .i64 0, .int .i64 0, .int .i64 0, .int .u64 0, .int .u64 0, .string ⟨#[]⟩, .int .i64 0, .int .i64 0, .int .u64 0, .int .u64 0, .string ⟨#[]⟩] 33)) := (Below.refl _ _).alloc (Nat.le_refl _) _); (replace Rs := Rs.later hb); (replace Rp := Rp.later hb); (try replace Ra := Ra.later hb); (replace hb0 := below_step hb0 hb); (have hSn : Row (World.alloc wq (.cells #[.int .i64 0, .int .i64 0, .int .i64 0, .int .i64 0, .int .u64 0, .int .u64 0, .string ⟨#[]⟩, .int .i64 0, .int .i64 0, .int .u64 0, .int .u64 0, .string ⟨#[]⟩] 33)) w1.heap.size #[.int .i64 s.n, .int .i64 s.d0.kind, .int .i64 s.d0.side, .int .i64 s.d0.step, .int .i64 s.d1.kind, .int .i64 s.d1.side, .int .i64 s.d1.step] 26 ∧ Row (World.alloc wq (.cells #[.int .i64 0, .int .i64 0, .int .i64 0, .int .i64 0, .int .u64 0, .int .u64 0, .string ⟨#[]⟩, .int .i64 0, .int .i64 0, .int .u64 0, .int .u64 0, .string ⟨#[]⟩] 33)) gp #[.int .i64 p.a0, .int .i64 p.a1, .int .i64 p.k0.kind, .int .i64 p.k0.len, .int .u64 p.k0.h, .int .u64 p.k0.l, .string ⟨p.k0.path.toArray⟩, .int .i64 p.k1.kind, .int .i64 p.k1.len, .int .u64 p.k1.h, .int .u64 p.k1.l, .string ⟨p.k1.path.toArray⟩] 33 := by obtain ⟨Qs, Qp⟩ := hHeld; exact ⟨Qs.later hb, Qp.later hb⟩); clear hb; generalize World.alloc wq (.cells #[.int .i64 0, .int .i64 0, .int .i64 0, .int .i64 0, .int .u64 0, .int .u64 0, .string ⟨#[]⟩, .int .i64 0, .int .i64 0, .int .u64 0, .int .u64 0, .string ⟨#[]⟩] 33) = wz at *; generalize wq.heap.size = gb at *)
        refine hK.out _ _ ?hSr58_50_9 (fun hHeld2 => ?_)
        case hSr58_50_9 => (exact hSn)
        clear hK K hHeld
        have hHeld := hHeld2
        clear hHeld2
        rename World => wq
        (try simp only [Act.put, nz1, nz2, nz3])
        refine wpAnyH_ready (rs := [3, 8]) (by kernel_rfl) (by simp) ?_
        refine AllReadyH.cons (o := ⟨some 22, .call { callee := .value (.func 26), args := #[.tmp 19, .tmp 20, .tmp 21], argTypes := #[26, 33, 27] }, 33, _, _, _⟩) rfl (fun K hK => ?_) ?_
        · (go_simp; (refine (HU _).mono ?_); (rintro e wz ⟨rfl, hb⟩); (replace Rs := Rs.later hb); (replace Rp := Rp.later hb); (try replace Ra := Ra.later hb); (try replace Rb := Rb.later hb); (replace hb0 := below_step hb0 hb); go_wp2_with fail)
          refine hK.out _ _ ?hSr58_51_3 (fun hHeld2 => ?_)
          case hSr58_51_3 => (obtain ⟨Qs, Qp⟩ := hHeld; exact ⟨Qs.later hb, Qp.later hb⟩)
          clear hK K hHeld
          have hHeld := hHeld2
          clear hHeld2
          rename World => wq
          (try simp only [Act.put, nz1, nz2, nz3])
          refine wpAnyH_ready (rs := [7, 8]) (by kernel_rfl) (by simp) ?_
          refine AllReadyH.cons (o := ⟨some 26, .call { callee := .value (.func 26), args := #[.tmp 23, .tmp 24, .tmp 25], argTypes := #[26, 33, 27] }, 33, _, _, _⟩) rfl (fun K hK => ?_) ?_
          · (go_simp; (refine (HV _).mono ?_); (rintro e wz ⟨rfl, hb⟩); (replace Rs := Rs.later hb); (replace Rp := Rp.later hb); (try replace Ra := Ra.later hb); (try replace Rb := Rb.later hb); (replace hb0 := below_step hb0 hb); go_wp2_with fail)
            refine hK.out _ _ ?hSr58_52_7 (fun hHeld2 => ?_)
            case hSr58_52_7 => (obtain ⟨Qs, Qp⟩ := hHeld; exact ⟨Qs.later hb, Qp.later hb⟩)
            clear hK K hHeld
            have hHeld := hHeld2
            clear hHeld2
            rename World => wq
            (try simp only [Act.put, nz1, nz2, nz3])
            refine wpAnyH_ready (rs := [8]) (by kernel_rfl) (by simp) ?_
            refine AllReadyH.cons (o := ⟨some 4, .alloc 33, 0, _, _, _⟩) rfl (fun K hK => ?_) AllReadyH.nil
            (go_simp; (have ma := hb0.size); (have na_s := Rs.lt); (have na_p := Rp.lt); (try have na_b := Rb.lt); (have Ra := Row.new wq #[.int .i64 0, .int .i64 0, .int .i64 0, .int .i64 0, .int .u64 0, .int .u64 0, .string ⟨#[]⟩, .int .i64 0, .int .i64 0, .int .u64 0, .int .u64 0, .string ⟨#[]⟩] 33); (have hb : Below wq.heap.size wq (World.alloc wq (.cells #[.int .i64 0, .int .i64 0, .int .i64 0, .int .i64 0, .int .u64 0, .int .u64 0, .string ⟨#[]⟩, .int .i64 0, .int .i64 0, .int .u64 0, .int .u64 0, .string ⟨#[]⟩] 33)) := (Below.refl _ _).alloc (Nat.le_refl _) _); (replace Rs := Rs.later hb); (replace Rp := Rp.later hb); (try replace Rb := Rb.later hb); (replace hb0 := below_step hb0 hb); (have hSn : Row (World.alloc wq (.cells #[.int .i64 0, .int .i64 0, .int .i64 0, .int .i64 0, .int .u64 0, .int .u64 0, .string ⟨#[]⟩, .int .i64 0, .int .i64 0, .int .u64 0, .int .u64 0, .string ⟨#[]⟩] 33)) w1.heap.size #[.int .i64 s.n, .int .i64 s.d0.kind, .int .i64 s.d0.side, .int .i64 s.d0.step, .int .i64 s.d1.kind, .int .i64 s.d1.side, .int .i64 s.d1.step] 26 ∧ Row (World.alloc wq (.cells #[.int .i64 0, .int .i64 0, .int .i64 0, .int .i64 0, .int .u64 0, .int .u64 0, .string ⟨#[]⟩, .int .i64 0, .int .i64 0, .int .u64 0, .int .u64 0, .string ⟨#[]⟩] 33)) gp #[.int .i64 p.a0, .int .i64 p.a1, .int .i64 p.k0.kind, .int .i64 p.k0.len, .int .u64 p.k0.h, .int .u64 p.k0.l, .string ⟨p.k0.path.toArray⟩, .int .i64 p.k1.kind, .int .i64 p.k1.len, .int .u64 p.k1.h, .int .u64 p.k1.l, .string ⟨p.k1.path.toArray⟩] 33 := by obtain ⟨Qs, Qp⟩ := hHeld; exact ⟨Qs.later hb, Qp.later hb⟩); clear hb; generalize World.alloc wq (.cells #[.int .i64 0, .int .i64 0, .int .i64 0, .int .i64 0, .int .u64 0, .int .u64 0, .string ⟨#[]⟩, .int .i64 0, .int .i64 0, .int .u64 0, .int .u64 0, .string ⟨#[]⟩] 33) = wz at *; generalize wq.heap.size = ga at *)
            refine hK.out _ _ ?hSr58_53_8 (fun hHeld2 => ?_)
            case hSr58_53_8 => (exact hSn)
            clear hK K hHeld
            have hHeld := hHeld2
            clear hHeld2
            rename World => wq
            (try simp only [Act.put, nz1, nz2, nz3])
            refine wpAnyH_ready (rs := [10]) (by kernel_rfl) (by simp) ?_
            refine AllReadyH.cons (o := ⟨none, .store 33 (.tmp 4) (.tmp 22), 0, _, _, _⟩) rfl (fun K hK => ?_) AllReadyH.nil
            ((rw [if_pos (by rfl)]); (with_reducible refine pst 33 (.tmp 4) (.tmp 22) ?_ ga 0 #[.int .i64 a.a0, .int .i64 a.a1, .int .i64 a.k0.kind, .int .i64 a.k0.len, .int .u64 a.k0.h, .int .u64 a.k0.l, .string ⟨a.k0.path.toArray⟩, .int .i64 a.k1.kind, .int .i64 a.k1.len, .int .u64 a.k1.h, .int .u64 a.k1.l, .string ⟨a.k1.path.toArray⟩] ?_ ?_ ?_ ?_ ?_ ?_); rfl; rfl; rfl; (exact Row.thereAt Ra 0 _ (by simp)); (exact infoPx); (simp [Value.oneCell']); (rintro wz hwz); (have hHq := hHeld); (obtain ⟨Qs, Qp⟩ := hHq); (replace Qs := prf hwz Qs); (replace Qp := prf hwz Qp); (replace Rs := prf hwz Rs); (replace Rp := prf hwz Rp); (try replace Rb := prf hwz Rb); (replace hb0 := pbl hwz hb0); (replace Ra := psw hwz Ra); clear hwz)
            refine hK.out _ _ ?hSr58_54_10 (fun hHeld2 => ?_)
            case hSr58_54_10 => (exact ⟨Qs, Qp⟩)
            clear hK K hHeld
            have hHeld := hHeld2
            clear hHeld2
            rename World => wq
            (try simp only [Act.put, nz1, nz2, nz3])
            refine wpAnyH_ready (rs := [11]) (by kernel_rfl) (by simp) ?_
            refine AllReadyH.cons (o := ⟨none, .store 33 (.tmp 5) (.tmp 26), 0, _, _, _⟩) rfl (fun K hK => ?_) AllReadyH.nil
            ((rw [if_pos (by rfl)]); (with_reducible refine pst 33 (.tmp 5) (.tmp 26) ?_ gb 0 #[.int .i64 b.a0, .int .i64 b.a1, .int .i64 b.k0.kind, .int .i64 b.k0.len, .int .u64 b.k0.h, .int .u64 b.k0.l, .string ⟨b.k0.path.toArray⟩, .int .i64 b.k1.kind, .int .i64 b.k1.len, .int .u64 b.k1.h, .int .u64 b.k1.l, .string ⟨b.k1.path.toArray⟩] ?_ ?_ ?_ ?_ ?_ ?_); rfl; rfl; rfl; (exact Row.thereAt Rb 0 _ (by simp)); (exact infoPx); (simp [Value.oneCell']); (rintro wz hwz); (have hHq := hHeld); (obtain ⟨Qs, Qp⟩ := hHq); (replace Qs := prf hwz Qs); (replace Qp := prf hwz Qp); (replace Rs := prf hwz Rs); (replace Rp := prf hwz Rp); (try replace Ra := prf hwz Ra); (replace hb0 := pbl hwz hb0); (replace Rb := psw hwz Rb); clear hwz)
            refine hK.out _ _ ?hSr58_55_11 (fun hHeld2 => ?_)
            case hSr58_55_11 => (exact ⟨Qs, Qp⟩)
            clear hK K hHeld
            have hHeld := hHeld2
            clear hHeld2
            rename World => wq
            (try simp only [Act.put, nz1, nz2, nz3])
            refine wpAnyH_done (by kernel_rfl) ?_ _
            (go_wp2_with fail; go_meet; exact ⟨ga, gb, rfl, rfl, ma, mb, Ra, Rb, Rs, Rp, hb0⟩)
          refine AllReadyH.cons (o := ⟨some 4, .alloc 33, 0, _, _, _⟩) rfl (fun K hK => ?_) AllReadyH.nil
          · (go_simp; (have ma := hb0.size); (have na_s := Rs.lt); (have na_p := Rp.lt); (try have na_b := Rb.lt); (have Ra := Row.new wq #[.int .i64 0, .int .i64 0, .int .i64 0, .int .i64 0, .int .u64 0, .int .u64 0, .string ⟨#[]⟩, .int .i64 0, .int .i64 0, .int .u64 0, .int .u64 0, .string ⟨#[]⟩] 33); (have hb : Below wq.heap.size wq (World.alloc wq (.cells #[.int .i64 0, .int .i64 0, .int .i64 0, .int .i64 0, .int .u64 0, .int .u64 0, .string ⟨#[]⟩, .int .i64 0, .int .i64 0, .int .u64 0, .int .u64 0, .string ⟨#[]⟩] 33)) := (Below.refl _ _).alloc (Nat.le_refl _) _); (replace Rs := Rs.later hb); (replace Rp := Rp.later hb); (try replace Rb := Rb.later hb); (replace hb0 := below_step hb0 hb); (have hSn : Row (World.alloc wq (.cells #[.int .i64 0, .int .i64 0, .int .i64 0, .int .i64 0, .int .u64 0, .int .u64 0, .string ⟨#[]⟩, .int .i64 0, .int .i64 0, .int .u64 0, .int .u64 0, .string ⟨#[]⟩] 33)) w1.heap.size #[.int .i64 s.n, .int .i64 s.d0.kind, .int .i64 s.d0.side, .int .i64 s.d0.step, .int .i64 s.d1.kind, .int .i64 s.d1.side, .int .i64 s.d1.step] 26 ∧ Row (World.alloc wq (.cells #[.int .i64 0, .int .i64 0, .int .i64 0, .int .i64 0, .int .u64 0, .int .u64 0, .string ⟨#[]⟩, .int .i64 0, .int .i64 0, .int .u64 0, .int .u64 0, .string ⟨#[]⟩] 33)) gp #[.int .i64 p.a0, .int .i64 p.a1, .int .i64 p.k0.kind, .int .i64 p.k0.len, .int .u64 p.k0.h, .int .u64 p.k0.l, .string ⟨p.k0.path.toArray⟩, .int .i64 p.k1.kind, .int .i64 p.k1.len, .int .u64 p.k1.h, .int .u64 p.k1.l, .string ⟨p.k1.path.toArray⟩] 33 := by obtain ⟨Qs, Qp⟩ := hHeld; exact ⟨Qs.later hb, Qp.later hb⟩); clear hb; generalize World.alloc wq (.cells #[.int .i64 0, .int .i64 0, .int .i64 0, .int .i64 0, .int .u64 0, .int .u64 0, .string ⟨#[]⟩, .int .i64 0, .int .i64 0, .int .u64 0, .int .u64 0, .string ⟨#[]⟩] 33) = wz at *; generalize wq.heap.size = ga at *)
            refine hK.out _ _ ?hSr58_56_8 (fun hHeld2 => ?_)
            case hSr58_56_8 => (exact hSn)
            clear hK K hHeld
            have hHeld := hHeld2
            clear hHeld2
            rename World => wq
            (try simp only [Act.put, nz1, nz2, nz3])
            refine wpAnyH_ready (rs := [7]) (by kernel_rfl) (by simp) ?_
            refine AllReadyH.cons (o := ⟨some 26, .call { callee := .value (.func 26), args := #[.tmp 23, .tmp 24, .tmp 25], argTypes := #[26, 33, 27] }, 33, _, _, _⟩) rfl (fun K hK => ?_) AllReadyH.nil
            (go_simp; (refine (HV _).mono ?_); (rintro e wz ⟨rfl, hb⟩); (replace Rs := Rs.later hb); (replace Rp := Rp.later hb); (try replace Ra := Ra.later hb); (try replace Rb := Rb.later hb); (replace hb0 := below_step hb0 hb); go_wp2_with fail)
            refine hK.out _ _ ?hSr58_57_7 (fun hHeld2 => ?_)
            case hSr58_57_7 => (obtain ⟨Qs, Qp⟩ := hHeld; exact ⟨Qs.later hb, Qp.later hb⟩)
            clear hK K hHeld
            have hHeld := hHeld2
            clear hHeld2
            rename World => wq
            (try simp only [Act.put, nz1, nz2, nz3])
            refine wpAnyH_ready (rs := [10]) (by kernel_rfl) (by simp) ?_
            refine AllReadyH.cons (o := ⟨none, .store 33 (.tmp 4) (.tmp 22), 0, _, _, _⟩) rfl (fun K hK => ?_) AllReadyH.nil
            ((rw [if_pos (by rfl)]); (with_reducible refine pst 33 (.tmp 4) (.tmp 22) ?_ ga 0 #[.int .i64 a.a0, .int .i64 a.a1, .int .i64 a.k0.kind, .int .i64 a.k0.len, .int .u64 a.k0.h, .int .u64 a.k0.l, .string ⟨a.k0.path.toArray⟩, .int .i64 a.k1.kind, .int .i64 a.k1.len, .int .u64 a.k1.h, .int .u64 a.k1.l, .string ⟨a.k1.path.toArray⟩] ?_ ?_ ?_ ?_ ?_ ?_); rfl; rfl; rfl; (exact Row.thereAt Ra 0 _ (by simp)); (exact infoPx); (simp [Value.oneCell']); (rintro wz hwz); (have hHq := hHeld); (obtain ⟨Qs, Qp⟩ := hHq); (replace Qs := prf hwz Qs); (replace Qp := prf hwz Qp); (replace Rs := prf hwz Rs); (replace Rp := prf hwz Rp); (try replace Rb := prf hwz Rb); (replace hb0 := pbl hwz hb0); (replace Ra := psw hwz Ra); clear hwz)
            refine hK.out _ _ ?hSr58_58_10 (fun hHeld2 => ?_)
            case hSr58_58_10 => (exact ⟨Qs, Qp⟩)
            clear hK K hHeld
            have hHeld := hHeld2
            clear hHeld2
            rename World => wq
            (try simp only [Act.put, nz1, nz2, nz3])
            refine wpAnyH_ready (rs := [11]) (by kernel_rfl) (by simp) ?_
            refine AllReadyH.cons (o := ⟨none, .store 33 (.tmp 5) (.tmp 26), 0, _, _, _⟩) rfl (fun K hK => ?_) AllReadyH.nil
            ((rw [if_pos (by rfl)]); (with_reducible refine pst 33 (.tmp 5) (.tmp 26) ?_ gb 0 #[.int .i64 b.a0, .int .i64 b.a1, .int .i64 b.k0.kind, .int .i64 b.k0.len, .int .u64 b.k0.h, .int .u64 b.k0.l, .string ⟨b.k0.path.toArray⟩, .int .i64 b.k1.kind, .int .i64 b.k1.len, .int .u64 b.k1.h, .int .u64 b.k1.l, .string ⟨b.k1.path.toArray⟩] ?_ ?_ ?_ ?_ ?_ ?_); rfl; rfl; rfl; (exact Row.thereAt Rb 0 _ (by simp)); (exact infoPx); (simp [Value.oneCell']); (rintro wz hwz); (have hHq := hHeld); (obtain ⟨Qs, Qp⟩ := hHq); (replace Qs := prf hwz Qs); (replace Qp := prf hwz Qp); (replace Rs := prf hwz Rs); (replace Rp := prf hwz Rp); (try replace Ra := prf hwz Ra); (replace hb0 := pbl hwz hb0); (replace Rb := psw hwz Rb); clear hwz)
            refine hK.out _ _ ?hSr58_59_11 (fun hHeld2 => ?_)
            case hSr58_59_11 => (exact ⟨Qs, Qp⟩)
            clear hK K hHeld
            have hHeld := hHeld2
            clear hHeld2
            rename World => wq
            (try simp only [Act.put, nz1, nz2, nz3])
            refine wpAnyH_done (by kernel_rfl) ?_ _
            (go_wp2_with fail; go_meet; exact ⟨ga, gb, rfl, rfl, ma, mb, Ra, Rb, Rs, Rp, hb0⟩)
        refine AllReadyH.cons (o := ⟨some 4, .alloc 33, 0, _, _, _⟩) rfl (fun K hK => ?_) AllReadyH.nil
        · (go_simp; (have ma := hb0.size); (have na_s := Rs.lt); (have na_p := Rp.lt); (try have na_b := Rb.lt); (have Ra := Row.new wq #[.int .i64 0, .int .i64 0, .int .i64 0, .int .i64 0, .int .u64 0, .int .u64 0, .string ⟨#[]⟩, .int .i64 0, .int .i64 0, .int .u64 0, .int .u64 0, .string ⟨#[]⟩] 33); (have hb : Below wq.heap.size wq (World.alloc wq (.cells #[.int .i64 0, .int .i64 0, .int .i64 0, .int .i64 0, .int .u64 0, .int .u64 0, .string ⟨#[]⟩, .int .i64 0, .int .i64 0, .int .u64 0, .int .u64 0, .string ⟨#[]⟩] 33)) := (Below.refl _ _).alloc (Nat.le_refl _) _); (replace Rs := Rs.later hb); (replace Rp := Rp.later hb); (try replace Rb := Rb.later hb); (replace hb0 := below_step hb0 hb); (have hSn : Row (World.alloc wq (.cells #[.int .i64 0, .int .i64 0, .int .i64 0, .int .i64 0, .int .u64 0, .int .u64 0, .string ⟨#[]⟩, .int .i64 0, .int .i64 0, .int .u64 0, .int .u64 0, .string ⟨#[]⟩] 33)) w1.heap.size #[.int .i64 s.n, .int .i64 s.d0.kind, .int .i64 s.d0.side, .int .i64 s.d0.step, .int .i64 s.d1.kind, .int .i64 s.d1.side, .int .i64 s.d1.step] 26 ∧ Row (World.alloc wq (.cells #[.int .i64 0, .int .i64 0, .int .i64 0, .int .i64 0, .int .u64 0, .int .u64 0, .string ⟨#[]⟩, .int .i64 0, .int .i64 0, .int .u64 0, .int .u64 0, .string ⟨#[]⟩] 33)) gp #[.int .i64 p.a0, .int .i64 p.a1, .int .i64 p.k0.kind, .int .i64 p.k0.len, .int .u64 p.k0.h, .int .u64 p.k0.l, .string ⟨p.k0.path.toArray⟩, .int .i64 p.k1.kind, .int .i64 p.k1.len, .int .u64 p.k1.h, .int .u64 p.k1.l, .string ⟨p.k1.path.toArray⟩] 33 := by obtain ⟨Qs, Qp⟩ := hHeld; exact ⟨Qs.later hb, Qp.later hb⟩); clear hb; generalize World.alloc wq (.cells #[.int .i64 0, .int .i64 0, .int .i64 0, .int .i64 0, .int .u64 0, .int .u64 0, .string ⟨#[]⟩, .int .i64 0, .int .i64 0, .int .u64 0, .int .u64 0, .string ⟨#[]⟩] 33) = wz at *; generalize wq.heap.size = ga at *)
          refine hK.out _ _ ?hSr58_60_8 (fun hHeld2 => ?_)
          case hSr58_60_8 => (exact hSn)
          clear hK K hHeld
          have hHeld := hHeld2
          clear hHeld2
          rename World => wq
          (try simp only [Act.put, nz1, nz2, nz3])
          refine wpAnyH_ready (rs := [3]) (by kernel_rfl) (by simp) ?_
          refine AllReadyH.cons (o := ⟨some 22, .call { callee := .value (.func 26), args := #[.tmp 19, .tmp 20, .tmp 21], argTypes := #[26, 33, 27] }, 33, _, _, _⟩) rfl (fun K hK => ?_) AllReadyH.nil
          (go_simp; (refine (HU _).mono ?_); (rintro e wz ⟨rfl, hb⟩); (replace Rs := Rs.later hb); (replace Rp := Rp.later hb); (try replace Ra := Ra.later hb); (try replace Rb := Rb.later hb); (replace hb0 := below_step hb0 hb); go_wp2_with fail)
          refine hK.out _ _ ?hSr58_61_3 (fun hHeld2 => ?_)
          case hSr58_61_3 => (obtain ⟨Qs, Qp⟩ := hHeld; exact ⟨Qs.later hb, Qp.later hb⟩)
          clear hK K hHeld
          have hHeld := hHeld2
          clear hHeld2
          rename World => wq
          (try simp only [Act.put, nz1, nz2, nz3])
          refine wpAnyH_ready (rs := [7]) (by kernel_rfl) (by simp) ?_
          refine AllReadyH.cons (o := ⟨some 26, .call { callee := .value (.func 26), args := #[.tmp 23, .tmp 24, .tmp 25], argTypes := #[26, 33, 27] }, 33, _, _, _⟩) rfl (fun K hK => ?_) AllReadyH.nil
          (go_simp; (refine (HV _).mono ?_); (rintro e wz ⟨rfl, hb⟩); (replace Rs := Rs.later hb); (replace Rp := Rp.later hb); (try replace Ra := Ra.later hb); (try replace Rb := Rb.later hb); (replace hb0 := below_step hb0 hb); go_wp2_with fail)
          refine hK.out _ _ ?hSr58_62_7 (fun hHeld2 => ?_)
          case hSr58_62_7 => (obtain ⟨Qs, Qp⟩ := hHeld; exact ⟨Qs.later hb, Qp.later hb⟩)
          clear hK K hHeld
          have hHeld := hHeld2
          clear hHeld2
          rename World => wq
          (try simp only [Act.put, nz1, nz2, nz3])
          refine wpAnyH_ready (rs := [10]) (by kernel_rfl) (by simp) ?_
          refine AllReadyH.cons (o := ⟨none, .store 33 (.tmp 4) (.tmp 22), 0, _, _, _⟩) rfl (fun K hK => ?_) AllReadyH.nil
          ((rw [if_pos (by rfl)]); (with_reducible refine pst 33 (.tmp 4) (.tmp 22) ?_ ga 0 #[.int .i64 a.a0, .int .i64 a.a1, .int .i64 a.k0.kind, .int .i64 a.k0.len, .int .u64 a.k0.h, .int .u64 a.k0.l, .string ⟨a.k0.path.toArray⟩, .int .i64 a.k1.kind, .int .i64 a.k1.len, .int .u64 a.k1.h, .int .u64 a.k1.l, .string ⟨a.k1.path.toArray⟩] ?_ ?_ ?_ ?_ ?_ ?_); rfl; rfl; rfl; (exact Row.thereAt Ra 0 _ (by simp)); (exact infoPx); (simp [Value.oneCell']); (rintro wz hwz); (have hHq := hHeld); (obtain ⟨Qs, Qp⟩ := hHq); (replace Qs := prf hwz Qs); (replace Qp := prf hwz Qp); (replace Rs := prf hwz Rs); (replace Rp := prf hwz Rp); (try replace Rb := prf hwz Rb); (replace hb0 := pbl hwz hb0); (replace Ra := psw hwz Ra); clear hwz)
          refine hK.out _ _ ?hSr58_63_10 (fun hHeld2 => ?_)
          case hSr58_63_10 => (exact ⟨Qs, Qp⟩)
          clear hK K hHeld
          have hHeld := hHeld2
          clear hHeld2
          rename World => wq
          (try simp only [Act.put, nz1, nz2, nz3])
          refine wpAnyH_ready (rs := [11]) (by kernel_rfl) (by simp) ?_
          refine AllReadyH.cons (o := ⟨none, .store 33 (.tmp 5) (.tmp 26), 0, _, _, _⟩) rfl (fun K hK => ?_) AllReadyH.nil
          ((rw [if_pos (by rfl)]); (with_reducible refine pst 33 (.tmp 5) (.tmp 26) ?_ gb 0 #[.int .i64 b.a0, .int .i64 b.a1, .int .i64 b.k0.kind, .int .i64 b.k0.len, .int .u64 b.k0.h, .int .u64 b.k0.l, .string ⟨b.k0.path.toArray⟩, .int .i64 b.k1.kind, .int .i64 b.k1.len, .int .u64 b.k1.h, .int .u64 b.k1.l, .string ⟨b.k1.path.toArray⟩] ?_ ?_ ?_ ?_ ?_ ?_); rfl; rfl; rfl; (exact Row.thereAt Rb 0 _ (by simp)); (exact infoPx); (simp [Value.oneCell']); (rintro wz hwz); (have hHq := hHeld); (obtain ⟨Qs, Qp⟩ := hHq); (replace Qs := prf hwz Qs); (replace Qp := prf hwz Qp); (replace Rs := prf hwz Rs); (replace Rp := prf hwz Rp); (try replace Ra := prf hwz Ra); (replace hb0 := pbl hwz hb0); (replace Rb := psw hwz Rb); clear hwz)
          refine hK.out _ _ ?hSr58_64_11 (fun hHeld2 => ?_)
          case hSr58_64_11 => (exact ⟨Qs, Qp⟩)
          clear hK K hHeld
          have hHeld := hHeld2
          clear hHeld2
          rename World => wq
          (try simp only [Act.put, nz1, nz2, nz3])
          refine wpAnyH_done (by kernel_rfl) ?_ _
          (go_wp2_with fail; go_meet; exact ⟨ga, gb, rfl, rfl, ma, mb, Ra, Rb, Rs, Rp, hb0⟩)
    case rest =>
      clear s0 s1 s2 s3 s4 s5 s6 p0 p1 p2 p3 p4 p5 p6 p7 p8 p9 p10 p11 Rs Rp hb0
      obtain ⟨ga, gb, rfl, rfl, ma, mb, Ra, Rb, Rs, Rp, hb0⟩ := hcut
      rename World => w3
      have ls := Rs.lt
      have lp := Rp.lt
      have la := Ra.lt
      have lb := Rb.lt
      (try clear s0 s1 s2 s3 s4 s5 s6); obtain ⟨s0, s1, s2, s3, s4, s5, s6⟩ := row7 Rs
      (try clear p0 p1 p2 p3 p4 p5 p6 p7 p8 p9 p10 p11); obtain ⟨p0, p1, p2, p3, p4, p5, p6, p7, p8, p9, p10, p11⟩ := row12 Rp
      (try clear a0 a1 a2 a3 a4 a5 a6 a7 a8 a9 a10 a11); obtain ⟨a0, a1, a2, a3, a4, a5, a6, a7, a8, a9, a10, a11⟩ := row12 Ra
      (try clear b0 b1 b2 b3 b4 b5 b6 b7 b8 b9 b10 b11); obtain ⟨b0, b1, b2, b3, b4, b5, b6, b7, b8, b9, b10, b11⟩ := row12 Rb
      go_wp2_with fail
      refine (HX _).mono ?_
      rintro e w4 ⟨rfl, hb⟩
      replace Rs := Rs.later hb
      replace Rp := Rp.later hb
      replace Ra := Ra.later hb
      replace Rb := Rb.later hb
      replace hb0 := below_step hb0 hb
      clear hb
      have ls := Rs.lt
      have lp := Rp.lt
      have la := Ra.lt
      have lb := Rb.lt
      (try clear s0 s1 s2 s3 s4 s5 s6); obtain ⟨s0, s1, s2, s3, s4, s5, s6⟩ := row7 Rs
      (try clear p0 p1 p2 p3 p4 p5 p6 p7 p8 p9 p10 p11); obtain ⟨p0, p1, p2, p3, p4, p5, p6, p7, p8, p9, p10, p11⟩ := row12 Rp
      (try clear a0 a1 a2 a3 a4 a5 a6 a7 a8 a9 a10 a11); obtain ⟨a0, a1, a2, a3, a4, a5, a6, a7, a8, a9, a10, a11⟩ := row12 Ra
      (try clear b0 b1 b2 b3 b4 b5 b6 b7 b8 b9 b10 b11); obtain ⟨b0, b1, b2, b3, b4, b5, b6, b7, b8, b9, b10, b11⟩ := row12 Rb
      go_wp2_with fail
      replace Rs := Rs.alloc (.cells #[Value.int .i64 x.a0, Value.int .i64 x.a1, Value.int .i64 x.k0.kind, Value.int .i64 x.k0.len, Value.int .u64 x.k0.h, Value.int .u64 x.k0.l, Value.string ⟨x.k0.path.toArray⟩, Value.int .i64 x.k1.kind, Value.int .i64 x.k1.len, Value.int .u64 x.k1.h, Value.int .u64 x.k1.l, Value.string ⟨x.k1.path.toArray⟩] 33)
      replace Rp := Rp.alloc (.cells #[Value.int .i64 x.a0, Value.int .i64 x.a1, Value.int .i64 x.k0.kind, Value.int .i64 x.k0.len, Value.int .u64 x.k0.h, Value.int .u64 x.k0.l, Value.string ⟨x.k0.path.toArray⟩, Value.int .i64 x.k1.kind, Value.int .i64 x.k1.len, Value.int .u64 x.k1.h, Value.int .u64 x.k1.l, Value.string ⟨x.k1.path.toArray⟩] 33)
      replace Ra := Ra.alloc (.cells #[Value.int .i64 x.a0, Value.int .i64 x.a1, Value.int .i64 x.k0.kind, Value.int .i64 x.k0.len, Value.int .u64 x.k0.h, Value.int .u64 x.k0.l, Value.string ⟨x.k0.path.toArray⟩, Value.int .i64 x.k1.kind, Value.int .i64 x.k1.len, Value.int .u64 x.k1.h, Value.int .u64 x.k1.l, Value.string ⟨x.k1.path.toArray⟩] 33)
      replace Rb := Rb.alloc (.cells #[Value.int .i64 x.a0, Value.int .i64 x.a1, Value.int .i64 x.k0.kind, Value.int .i64 x.k0.len, Value.int .u64 x.k0.h, Value.int .u64 x.k0.l, Value.string ⟨x.k0.path.toArray⟩, Value.int .i64 x.k1.kind, Value.int .i64 x.k1.len, Value.int .u64 x.k1.h, Value.int .u64 x.k1.l, Value.string ⟨x.k1.path.toArray⟩] 33)
      have Rx := Row.new w4 #[Value.int .i64 x.a0, Value.int .i64 x.a1, Value.int .i64 x.k0.kind, Value.int .i64 x.k0.len, Value.int .u64 x.k0.h, Value.int .u64 x.k0.l, Value.string ⟨x.k0.path.toArray⟩, Value.int .i64 x.k1.kind, Value.int .i64 x.k1.len, Value.int .u64 x.k1.h, Value.int .u64 x.k1.l, Value.string ⟨x.k1.path.toArray⟩] 33
      have mx := hb0.size
      replace hb0 := hb0.alloc hb0.size (.cells #[Value.int .i64 x.a0, Value.int .i64 x.a1, Value.int .i64 x.k0.kind, Value.int .i64 x.k0.len, Value.int .u64 x.k0.h, Value.int .u64 x.k0.l, Value.string ⟨x.k0.path.toArray⟩, Value.int .i64 x.k1.kind, Value.int .i64 x.k1.len, Value.int .u64 x.k1.h, Value.int .u64 x.k1.l, Value.string ⟨x.k1.path.toArray⟩] 33)
      (try clear s0 s1 s2 s3 s4 s5 s6); obtain ⟨s0, s1, s2, s3, s4, s5, s6⟩ := row7 Rs
      (try clear p0 p1 p2 p3 p4 p5 p6 p7 p8 p9 p10 p11); obtain ⟨p0, p1, p2, p3, p4, p5, p6, p7, p8, p9, p10, p11⟩ := row12 Rp
      (try clear a0 a1 a2 a3 a4 a5 a6 a7 a8 a9 a10 a11); obtain ⟨a0, a1, a2, a3, a4, a5, a6, a7, a8, a9, a10, a11⟩ := row12 Ra
      (try clear b0 b1 b2 b3 b4 b5 b6 b7 b8 b9 b10 b11); obtain ⟨b0, b1, b2, b3, b4, b5, b6, b7, b8, b9, b10, b11⟩ := row12 Rb
      (try clear x0 x1 x2 x3 x4 x5 x6 x7 x8 x9 x10 x11); obtain ⟨x0, x1, x2, x3, x4, x5, x6, x7, x8, x9, x10, x11⟩ := row12 Rx
      go_cut [8, 9] (fun s8 s9 wx => ∃ gz : Nat, s8 = .pointer (some ⟨gz, 0, none⟩) ∧ s9 = .bool false ∧ w.heap.size ≤ gz ∧ Row wx gz #[.int .i64 0, .int .i64 0, .int .i64 0, .int .i64 0, .int .u64 0, .int .u64 0, .string ⟨#[]⟩, .int .i64 0, .int .i64 0, .int .u64 0, .int .u64 0, .string ⟨#[]⟩] 33 ∧ Row wx w1.heap.size #[.int .i64 s.n, .int .i64 s.d0.kind, .int .i64 s.d0.side, .int .i64 s.d0.step, .int .i64 s.d1.kind, .int .i64 s.d1.side, .int .i64 s.d1.step] 26 ∧ Row wx gp #[.int .i64 p.a0, .int .i64 p.a1, .int .i64 p.k0.kind, .int .i64 p.k0.len, .int .u64 p.k0.h, .int .u64 p.k0.l, .string ⟨p.k0.path.toArray⟩, .int .i64 p.k1.kind, .int .i64 p.k1.len, .int .u64 p.k1.h, .int .u64 p.k1.l, .string ⟨p.k1.path.toArray⟩] 33 ∧ Row wx ga #[.int .i64 a.a0, .int .i64 a.a1, .int .i64 a.k0.kind, .int .i64 a.k0.len, .int .u64 a.k0.h, .int .u64 a.k0.l, .string ⟨a.k0.path.toArray⟩, .int .i64 a.k1.kind, .int .i64 a.k1.len, .int .u64 a.k1.h, .int .u64 a.k1.l, .string ⟨a.k1.path.toArray⟩] 33 ∧ Row wx gb #[.int .i64 b.a0, .int .i64 b.a1, .int .i64 b.k0.kind, .int .i64 b.k0.len, .int .u64 b.k0.h, .int .u64 b.k0.l, .string ⟨b.k0.path.toArray⟩, .int .i64 b.k1.kind, .int .i64 b.k1.len, .int .u64 b.k1.h, .int .u64 b.k1.l, .string ⟨b.k1.path.toArray⟩] 33 ∧ Row wx w4.heap.size #[.int .i64 x.a0, .int .i64 x.a1, .int .i64 x.k0.kind, .int .i64 x.k0.len, .int .u64 x.k0.h, .int .u64 x.k0.l, .string ⟨x.k0.path.toArray⟩, .int .i64 x.k1.kind, .int .i64 x.k1.len, .int .u64 x.k1.h, .int .u64 x.k1.l, .string ⟨x.k1.path.toArray⟩] 33 ∧ Below w.heap.size w wx)
      case first =>
        refine wp_region_held_drew (S := (fun w' => Row w' w1.heap.size #[.int .i64 s.n, .int .i64 s.d0.kind, .int .i64 s.d0.side, .int .i64 s.d0.step, .int .i64 s.d1.kind, .int .i64 s.d1.side, .int .i64 s.d1.step] 26)) (by kernel_rfl) ?hSr59_ (fun hHeld => ?_)
        case hSr59_ => (exact Rs.drew)
        (clear s0 s1 s2 s3 s4 s5 s6 p0 p1 p2 p3 p4 p5 p6 p7 p8 p9 p10 p11 a0 a1 a2 a3 a4 a5 a6 a7 a8 a9 a10 a11 b0 b1 b2 b3 b4 b5 b6 b7 b8 b9 b10 b11 x0 x1 x2 x3 x4 x5 x6 x7 x8 x9 x10 x11; (replace Rs := Rs.drew); (replace Rp := Rp.drew); (replace Ra := Ra.drew); (replace Rb := Rb.drew); (replace Rx := Rx.drew); (replace hb0 := hb0.drew); (generalize World.drew (World.alloc w4 (.cells #[Value.int .i64 x.a0, Value.int .i64 x.a1, Value.int .i64 x.k0.kind, Value.int .i64 x.k0.len, Value.int .u64 x.k0.h, Value.int .u64 x.k0.l, Value.string ⟨x.k0.path.toArray⟩, Value.int .i64 x.k1.kind, Value.int .i64 x.k1.len, Value.int .u64 x.k1.h, Value.int .u64 x.k1.l, Value.string ⟨x.k1.path.toArray⟩] 33)) = wq at *))
        refine tk 0 ⟨some 35, .load 26 (.tmp 1), 26, _, _, _⟩ hHeld ?_ (v := ?vr59_1_0) (hy := ?yr59_1_0)
        case yr59_1_0 => (intro wy hSw; have Qs := hSw; (with_reducible refine pexec_load 26 (.tmp 1) ?_ w1.heap.size ?_ 26 #[.int .i64 s.n, .int .i64 s.d0.kind, .int .i64 s.d0.side, .int .i64 s.d0.step, .int .i64 s.d1.kind, .int .i64 s.d1.side, .int .i64 s.d1.step] _ Qs Try.underlying26 ?_ ?_) <;> first | rfl | exact infoSp)
        (try simp only [Act.put, nz1, nz2, nz3])
        refine tk 2 ⟨some 37, .build 30 #[], 30, _, _, _⟩ hHeld ?_
        (try simp only [Act.put, nz1, nz2, nz3])
        refine wpAnyH_ready (rs := [1, 7]) (by kernel_rfl) (by simp) ?_
        refine AllReadyH.cons (o := ⟨some 36, .call { callee := .value (.func 60), args := #[.const (.int .u32 1)], argTypes := #[69] }, 30, _, _, _⟩) rfl (fun K hK => ?_) ?_
        · (go_simp; (refine (H3 _).mono ?_); (rintro e wz ⟨rfl, hb⟩); (replace Rs := Rs.later hb); (replace Rp := Rp.later hb); (replace Ra := Ra.later hb); (replace Rb := Rb.later hb); (replace Rx := Rx.later hb); (try replace Rz := Rz.later hb); (replace hb0 := below_step hb0 hb); go_wp2_with fail)
          refine hK.out _ _ ?hSr59_3_1 (fun hHeld2 => ?_)
          case hSr59_3_1 => (exact hHeld.later hb)
          clear hK K hHeld
          have hHeld := hHeld2
          clear hHeld2
          rename World => wq
          (try simp only [Act.put, nz1, nz2, nz3])
          refine wpAnyH_ready (rs := [3, 7]) (by kernel_rfl) (by simp) ?_
          refine AllReadyH.cons (o := ⟨some 38, .call { callee := .value (.func 16), args := #[.tmp 35, .tmp 36, .tmp 37], argTypes := #[26, 30, 30] }, 34, _, _, _⟩) rfl (fun K hK => ?_) ?_
          · (go_simp; (refine (HM _).mono ?_); (rintro e wz ⟨rfl, hb⟩); (replace Rs := Rs.later hb); (replace Rp := Rp.later hb); (replace Ra := Ra.later hb); (replace Rb := Rb.later hb); (replace Rx := Rx.later hb); (try replace Rz := Rz.later hb); (replace hb0 := below_step hb0 hb); go_wp2_with fail)
            refine hK.out _ _ ?hSr59_4_3 (fun hHeld2 => ?_)
            case hSr59_4_3 => (exact hHeld.later hb)
            clear hK K hHeld
            have hHeld := hHeld2
            clear hHeld2
            rename World => wq
            (try simp only [Act.put, nz1, nz2, nz3])
            refine tk 4 ⟨some 34, .move (.tmp 38), 34, _, _, _⟩ hHeld ?_
            (try simp only [Act.put, nz1, nz2, nz3])
            refine tk 5 ⟨some 39, .extract (.tmp 34) 0, 33, _, _, _⟩ hHeld ?_
            (try simp only [Act.put, nz1, nz2, nz3])
            refine tk 6 ⟨some 40, .extract (.tmp 34) 1, 4, _, _, _⟩ hHeld ?_
            (try simp only [Act.put, nz1, nz2, nz3])
            refine wpAnyH_ready (rs := [7]) (by kernel_rfl) (by simp) ?_
            refine AllReadyH.cons (o := ⟨some 8, .alloc 33, 0, _, _, _⟩) rfl (fun K hK => ?_) AllReadyH.nil
            (go_simp; (have mz := hb0.size); (have nz_s := Rs.lt); (have nz_p := Rp.lt); (have nz_a := Ra.lt); (have nz_b := Rb.lt); (have nz_x := Rx.lt); (have Rz := Row.new wq #[.int .i64 0, .int .i64 0, .int .i64 0, .int .i64 0, .int .u64 0, .int .u64 0, .string ⟨#[]⟩, .int .i64 0, .int .i64 0, .int .u64 0, .int .u64 0, .string ⟨#[]⟩] 33); (have hb : Below wq.heap.size wq (World.alloc wq (.cells #[.int .i64 0, .int .i64 0, .int .i64 0, .int .i64 0, .int .u64 0, .int .u64 0, .string ⟨#[]⟩, .int .i64 0, .int .i64 0, .int .u64 0, .int .u64 0, .string ⟨#[]⟩] 33)) := (Below.refl _ _).alloc (Nat.le_refl _) _); (replace Rs := Rs.later hb); (replace Rp := Rp.later hb); (replace Ra := Ra.later hb); (replace Rb := Rb.later hb); (replace Rx := Rx.later hb); (replace hb0 := below_step hb0 hb); (have hSn : Row (World.alloc wq (.cells #[.int .i64 0, .int .i64 0, .int .i64 0, .int .i64 0, .int .u64 0, .int .u64 0, .string ⟨#[]⟩, .int .i64 0, .int .i64 0, .int .u64 0, .int .u64 0, .string ⟨#[]⟩] 33)) w1.heap.size #[.int .i64 s.n, .int .i64 s.d0.kind, .int .i64 s.d0.side, .int .i64 s.d0.step, .int .i64 s.d1.kind, .int .i64 s.d1.side, .int .i64 s.d1.step] 26 := by exact hHeld.later hb); clear hb; generalize World.alloc wq (.cells #[.int .i64 0, .int .i64 0, .int .i64 0, .int .i64 0, .int .u64 0, .int .u64 0, .string ⟨#[]⟩, .int .i64 0, .int .i64 0, .int .u64 0, .int .u64 0, .string ⟨#[]⟩] 33) = wz at *; generalize wq.heap.size = gz at *)
            refine hK.out _ _ ?hSr59_8_7 (fun hHeld2 => ?_)
            case hSr59_8_7 => (exact hSn)
            clear hK K hHeld
            have hHeld := hHeld2
            clear hHeld2
            rename World => wq
            (try simp only [Act.put, nz1, nz2, nz3])
            refine wpAnyH_ready (rs := [8]) (by kernel_rfl) (by simp) ?_
            refine AllReadyH.cons (o := ⟨none, .store 33 (.tmp 8) (.tmp 39), 0, _, _, _⟩) rfl (fun K hK => ?_) AllReadyH.nil
            ((rw [if_pos (by rfl)]); (with_reducible refine pst 33 (.tmp 8) (.tmp 39) ?_ gz 0 #[.int .i64 0, .int .i64 0, .int .i64 0, .int .i64 0, .int .u64 0, .int .u64 0, .string ⟨#[]⟩, .int .i64 0, .int .i64 0, .int .u64 0, .int .u64 0, .string ⟨#[]⟩] ?_ ?_ ?_ ?_ ?_ ?_); rfl; rfl; rfl; (exact Row.thereAt Rz 0 _ (by simp)); (exact infoPx); (simp [Value.oneCell']); (rintro wz hwz); (have hHq := hHeld); (have Qs := hHq); (replace Qs := prf hwz Qs); (replace Rs := prf hwz Rs); (replace Rp := prf hwz Rp); (replace Ra := prf hwz Ra); (replace Rb := prf hwz Rb); (replace Rx := prf hwz Rx); (replace hb0 := pbl hwz hb0); (replace Rz := psw hwz Rz); clear hwz)
            refine hK.out _ _ ?hSr59_9_8 (fun hHeld2 => ?_)
            case hSr59_9_8 => (exact Qs)
            clear hK K hHeld
            have hHeld := hHeld2
            clear hHeld2
            rename World => wq
            (try simp only [Act.put, nz1, nz2, nz3])
            refine tk 9 ⟨some 9, .assign (.tmp 40), 4, _, _, _⟩ hHeld ?_
            (try simp only [Act.put, nz1, nz2, nz3])
            refine wpAnyH_done (by kernel_rfl) ?_ _
            (go_wp2_with fail; go_meet; exact ⟨gz, rfl, rfl, mz, Rz, Rs, Rp, Ra, Rb, Rx, hb0⟩)
          refine AllReadyH.cons (o := ⟨some 8, .alloc 33, 0, _, _, _⟩) rfl (fun K hK => ?_) AllReadyH.nil
          · (go_simp; (have mz := hb0.size); (have nz_s := Rs.lt); (have nz_p := Rp.lt); (have nz_a := Ra.lt); (have nz_b := Rb.lt); (have nz_x := Rx.lt); (have Rz := Row.new wq #[.int .i64 0, .int .i64 0, .int .i64 0, .int .i64 0, .int .u64 0, .int .u64 0, .string ⟨#[]⟩, .int .i64 0, .int .i64 0, .int .u64 0, .int .u64 0, .string ⟨#[]⟩] 33); (have hb : Below wq.heap.size wq (World.alloc wq (.cells #[.int .i64 0, .int .i64 0, .int .i64 0, .int .i64 0, .int .u64 0, .int .u64 0, .string ⟨#[]⟩, .int .i64 0, .int .i64 0, .int .u64 0, .int .u64 0, .string ⟨#[]⟩] 33)) := (Below.refl _ _).alloc (Nat.le_refl _) _); (replace Rs := Rs.later hb); (replace Rp := Rp.later hb); (replace Ra := Ra.later hb); (replace Rb := Rb.later hb); (replace Rx := Rx.later hb); (replace hb0 := below_step hb0 hb); (have hSn : Row (World.alloc wq (.cells #[.int .i64 0, .int .i64 0, .int .i64 0, .int .i64 0, .int .u64 0, .int .u64 0, .string ⟨#[]⟩, .int .i64 0, .int .i64 0, .int .u64 0, .int .u64 0, .string ⟨#[]⟩] 33)) w1.heap.size #[.int .i64 s.n, .int .i64 s.d0.kind, .int .i64 s.d0.side, .int .i64 s.d0.step, .int .i64 s.d1.kind, .int .i64 s.d1.side, .int .i64 s.d1.step] 26 := by exact hHeld.later hb); clear hb; generalize World.alloc wq (.cells #[.int .i64 0, .int .i64 0, .int .i64 0, .int .i64 0, .int .u64 0, .int .u64 0, .string ⟨#[]⟩, .int .i64 0, .int .i64 0, .int .u64 0, .int .u64 0, .string ⟨#[]⟩] 33) = wz at *; generalize wq.heap.size = gz at *)
            refine hK.out _ _ ?hSr59_11_7 (fun hHeld2 => ?_)
            case hSr59_11_7 => (exact hSn)
            clear hK K hHeld
            have hHeld := hHeld2
            clear hHeld2
            rename World => wq
            (try simp only [Act.put, nz1, nz2, nz3])
            refine wpAnyH_ready (rs := [3]) (by kernel_rfl) (by simp) ?_
            refine AllReadyH.cons (o := ⟨some 38, .call { callee := .value (.func 16), args := #[.tmp 35, .tmp 36, .tmp 37], argTypes := #[26, 30, 30] }, 34, _, _, _⟩) rfl (fun K hK => ?_) AllReadyH.nil
            (go_simp; (refine (HM _).mono ?_); (rintro e wz ⟨rfl, hb⟩); (replace Rs := Rs.later hb); (replace Rp := Rp.later hb); (replace Ra := Ra.later hb); (replace Rb := Rb.later hb); (replace Rx := Rx.later hb); (try replace Rz := Rz.later hb); (replace hb0 := below_step hb0 hb); go_wp2_with fail)
            refine hK.out _ _ ?hSr59_12_3 (fun hHeld2 => ?_)
            case hSr59_12_3 => (exact hHeld.later hb)
            clear hK K hHeld
            have hHeld := hHeld2
            clear hHeld2
            rename World => wq
            (try simp only [Act.put, nz1, nz2, nz3])
            refine tk 4 ⟨some 34, .move (.tmp 38), 34, _, _, _⟩ hHeld ?_
            (try simp only [Act.put, nz1, nz2, nz3])
            refine tk 5 ⟨some 39, .extract (.tmp 34) 0, 33, _, _, _⟩ hHeld ?_
            (try simp only [Act.put, nz1, nz2, nz3])
            refine tk 6 ⟨some 40, .extract (.tmp 34) 1, 4, _, _, _⟩ hHeld ?_
            (try simp only [Act.put, nz1, nz2, nz3])
            refine wpAnyH_ready (rs := [8]) (by kernel_rfl) (by simp) ?_
            refine AllReadyH.cons (o := ⟨none, .store 33 (.tmp 8) (.tmp 39), 0, _, _, _⟩) rfl (fun K hK => ?_) AllReadyH.nil
            ((rw [if_pos (by rfl)]); (with_reducible refine pst 33 (.tmp 8) (.tmp 39) ?_ gz 0 #[.int .i64 0, .int .i64 0, .int .i64 0, .int .i64 0, .int .u64 0, .int .u64 0, .string ⟨#[]⟩, .int .i64 0, .int .i64 0, .int .u64 0, .int .u64 0, .string ⟨#[]⟩] ?_ ?_ ?_ ?_ ?_ ?_); rfl; rfl; rfl; (exact Row.thereAt Rz 0 _ (by simp)); (exact infoPx); (simp [Value.oneCell']); (rintro wz hwz); (have hHq := hHeld); (have Qs := hHq); (replace Qs := prf hwz Qs); (replace Rs := prf hwz Rs); (replace Rp := prf hwz Rp); (replace Ra := prf hwz Ra); (replace Rb := prf hwz Rb); (replace Rx := prf hwz Rx); (replace hb0 := pbl hwz hb0); (replace Rz := psw hwz Rz); clear hwz)
            refine hK.out _ _ ?hSr59_16_8 (fun hHeld2 => ?_)
            case hSr59_16_8 => (exact Qs)
            clear hK K hHeld
            have hHeld := hHeld2
            clear hHeld2
            rename World => wq
            (try simp only [Act.put, nz1, nz2, nz3])
            refine tk 9 ⟨some 9, .assign (.tmp 40), 4, _, _, _⟩ hHeld ?_
            (try simp only [Act.put, nz1, nz2, nz3])
            refine wpAnyH_done (by kernel_rfl) ?_ _
            (go_wp2_with fail; go_meet; exact ⟨gz, rfl, rfl, mz, Rz, Rs, Rp, Ra, Rb, Rx, hb0⟩)
        refine AllReadyH.cons (o := ⟨some 8, .alloc 33, 0, _, _, _⟩) rfl (fun K hK => ?_) AllReadyH.nil
        · (go_simp; (have mz := hb0.size); (have nz_s := Rs.lt); (have nz_p := Rp.lt); (have nz_a := Ra.lt); (have nz_b := Rb.lt); (have nz_x := Rx.lt); (have Rz := Row.new wq #[.int .i64 0, .int .i64 0, .int .i64 0, .int .i64 0, .int .u64 0, .int .u64 0, .string ⟨#[]⟩, .int .i64 0, .int .i64 0, .int .u64 0, .int .u64 0, .string ⟨#[]⟩] 33); (have hb : Below wq.heap.size wq (World.alloc wq (.cells #[.int .i64 0, .int .i64 0, .int .i64 0, .int .i64 0, .int .u64 0, .int .u64 0, .string ⟨#[]⟩, .int .i64 0, .int .i64 0, .int .u64 0, .int .u64 0, .string ⟨#[]⟩] 33)) := (Below.refl _ _).alloc (Nat.le_refl _) _); (replace Rs := Rs.later hb); (replace Rp := Rp.later hb); (replace Ra := Ra.later hb); (replace Rb := Rb.later hb); (replace Rx := Rx.later hb); (replace hb0 := below_step hb0 hb); (have hSn : Row (World.alloc wq (.cells #[.int .i64 0, .int .i64 0, .int .i64 0, .int .i64 0, .int .u64 0, .int .u64 0, .string ⟨#[]⟩, .int .i64 0, .int .i64 0, .int .u64 0, .int .u64 0, .string ⟨#[]⟩] 33)) w1.heap.size #[.int .i64 s.n, .int .i64 s.d0.kind, .int .i64 s.d0.side, .int .i64 s.d0.step, .int .i64 s.d1.kind, .int .i64 s.d1.side, .int .i64 s.d1.step] 26 := by exact hHeld.later hb); clear hb; generalize World.alloc wq (.cells #[.int .i64 0, .int .i64 0, .int .i64 0, .int .i64 0, .int .u64 0, .int .u64 0, .string ⟨#[]⟩, .int .i64 0, .int .i64 0, .int .u64 0, .int .u64 0, .string ⟨#[]⟩] 33) = wz at *; generalize wq.heap.size = gz at *)
          refine hK.out _ _ ?hSr59_18_7 (fun hHeld2 => ?_)
          case hSr59_18_7 => (exact hSn)
          clear hK K hHeld
          have hHeld := hHeld2
          clear hHeld2
          rename World => wq
          (try simp only [Act.put, nz1, nz2, nz3])
          refine wpAnyH_ready (rs := [1]) (by kernel_rfl) (by simp) ?_
          refine AllReadyH.cons (o := ⟨some 36, .call { callee := .value (.func 60), args := #[.const (.int .u32 1)], argTypes := #[69] }, 30, _, _, _⟩) rfl (fun K hK => ?_) AllReadyH.nil
          (go_simp; (refine (H3 _).mono ?_); (rintro e wz ⟨rfl, hb⟩); (replace Rs := Rs.later hb); (replace Rp := Rp.later hb); (replace Ra := Ra.later hb); (replace Rb := Rb.later hb); (replace Rx := Rx.later hb); (try replace Rz := Rz.later hb); (replace hb0 := below_step hb0 hb); go_wp2_with fail)
          refine hK.out _ _ ?hSr59_19_1 (fun hHeld2 => ?_)
          case hSr59_19_1 => (exact hHeld.later hb)
          clear hK K hHeld
          have hHeld := hHeld2
          clear hHeld2
          rename World => wq
          (try simp only [Act.put, nz1, nz2, nz3])
          refine wpAnyH_ready (rs := [3]) (by kernel_rfl) (by simp) ?_
          refine AllReadyH.cons (o := ⟨some 38, .call { callee := .value (.func 16), args := #[.tmp 35, .tmp 36, .tmp 37], argTypes := #[26, 30, 30] }, 34, _, _, _⟩) rfl (fun K hK => ?_) AllReadyH.nil
          (go_simp; (refine (HM _).mono ?_); (rintro e wz ⟨rfl, hb⟩); (replace Rs := Rs.later hb); (replace Rp := Rp.later hb); (replace Ra := Ra.later hb); (replace Rb := Rb.later hb); (replace Rx := Rx.later hb); (try replace Rz := Rz.later hb); (replace hb0 := below_step hb0 hb); go_wp2_with fail)
          refine hK.out _ _ ?hSr59_20_3 (fun hHeld2 => ?_)
          case hSr59_20_3 => (exact hHeld.later hb)
          clear hK K hHeld
          have hHeld := hHeld2
          clear hHeld2
          rename World => wq
          (try simp only [Act.put, nz1, nz2, nz3])
          refine tk 4 ⟨some 34, .move (.tmp 38), 34, _, _, _⟩ hHeld ?_
          (try simp only [Act.put, nz1, nz2, nz3])
          refine tk 5 ⟨some 39, .extract (.tmp 34) 0, 33, _, _, _⟩ hHeld ?_
          (try simp only [Act.put, nz1, nz2, nz3])
          refine tk 6 ⟨some 40, .extract (.tmp 34) 1, 4, _, _, _⟩ hHeld ?_
          (try simp only [Act.put, nz1, nz2, nz3])
          refine wpAnyH_ready (rs := [8]) (by kernel_rfl) (by simp) ?_
          refine AllReadyH.cons (o := ⟨none, .store 33 (.tmp 8) (.tmp 39), 0, _, _, _⟩) rfl (fun K hK => ?_) AllReadyH.nil
          ((rw [if_pos (by rfl)]); (with_reducible refine pst 33 (.tmp 8) (.tmp 39) ?_ gz 0 #[.int .i64 0, .int .i64 0, .int .i64 0, .int .i64 0, .int .u64 0, .int .u64 0, .string ⟨#[]⟩, .int .i64 0, .int .i64 0, .int .u64 0, .int .u64 0, .string ⟨#[]⟩] ?_ ?_ ?_ ?_ ?_ ?_); rfl; rfl; rfl; (exact Row.thereAt Rz 0 _ (by simp)); (exact infoPx); (simp [Value.oneCell']); (rintro wz hwz); (have hHq := hHeld); (have Qs := hHq); (replace Qs := prf hwz Qs); (replace Rs := prf hwz Rs); (replace Rp := prf hwz Rp); (replace Ra := prf hwz Ra); (replace Rb := prf hwz Rb); (replace Rx := prf hwz Rx); (replace hb0 := pbl hwz hb0); (replace Rz := psw hwz Rz); clear hwz)
          refine hK.out _ _ ?hSr59_24_8 (fun hHeld2 => ?_)
          case hSr59_24_8 => (exact Qs)
          clear hK K hHeld
          have hHeld := hHeld2
          clear hHeld2
          rename World => wq
          (try simp only [Act.put, nz1, nz2, nz3])
          refine tk 9 ⟨some 9, .assign (.tmp 40), 4, _, _, _⟩ hHeld ?_
          (try simp only [Act.put, nz1, nz2, nz3])
          refine wpAnyH_done (by kernel_rfl) ?_ _
          (go_wp2_with fail; go_meet; exact ⟨gz, rfl, rfl, mz, Rz, Rs, Rp, Ra, Rb, Rx, hb0⟩)
      case rest =>
        clear s0 s1 s2 s3 s4 s5 s6 p0 p1 p2 p3 p4 p5 p6 p7 p8 p9 p10 p11 a0 a1 a2 a3 a4 a5 a6 a7 a8 a9 a10 a11 b0 b1 b2 b3 b4 b5 b6 b7 b8 b9 b10 b11 x0 x1 x2 x3 x4 x5 x6 x7 x8 x9 x10 x11 Rs Rp Ra Rb Rx hb0
        obtain ⟨gz, rfl, rfl, mz, Rz, Rs, Rp, Ra, Rb, Rx, hb0⟩ := hcut
        rename World => w5
        have ls := Rs.lt
        have lp := Rp.lt
        have la := Ra.lt
        have lb := Rb.lt
        have lx := Rx.lt
        have lz := Rz.lt
        (try clear s0 s1 s2 s3 s4 s5 s6); obtain ⟨s0, s1, s2, s3, s4, s5, s6⟩ := row7 Rs
        (try clear p0 p1 p2 p3 p4 p5 p6 p7 p8 p9 p10 p11); obtain ⟨p0, p1, p2, p3, p4, p5, p6, p7, p8, p9, p10, p11⟩ := row12 Rp
        (try clear a0 a1 a2 a3 a4 a5 a6 a7 a8 a9 a10 a11); obtain ⟨a0, a1, a2, a3, a4, a5, a6, a7, a8, a9, a10, a11⟩ := row12 Ra
        (try clear b0 b1 b2 b3 b4 b5 b6 b7 b8 b9 b10 b11); obtain ⟨b0, b1, b2, b3, b4, b5, b6, b7, b8, b9, b10, b11⟩ := row12 Rb
        (try clear x0 x1 x2 x3 x4 x5 x6 x7 x8 x9 x10 x11); obtain ⟨x0, x1, x2, x3, x4, x5, x6, x7, x8, x9, x10, x11⟩ := row12 Rx
        (try clear z0 z1 z2 z3 z4 z5 z6 z7 z8 z9 z10 z11); obtain ⟨z0, z1, z2, z3, z4, z5, z6, z7, z8, z9, z10, z11⟩ := row12 Rz
        clear a0 a1 a2 a3 a4 a5 a6 a7 a8 a9 a10 a11
        clear b0 b1 b2 b3 b4 b5 b6 b7 b8 b9 b10 b11
        clear z0 z1 z2 z3 z4 z5 z6 z7 z8 z9 z10 z11
        go_wp2_with fail
        refine (HT _).mono ?_
        rintro e w6 ⟨rfl, hb⟩
        replace Rs := Rs.later hb
        replace Rp := Rp.later hb
        replace Ra := Ra.later hb
        replace Rb := Rb.later hb
        replace Rx := Rx.later hb
        replace Rz := Rz.later hb
        replace hb0 := below_step hb0 hb
        clear hb
        have ls := Rs.lt
        have lp := Rp.lt
        have la := Ra.lt
        have lb := Rb.lt
        have lx := Rx.lt
        have lz := Rz.lt
        (try clear s0 s1 s2 s3 s4 s5 s6); obtain ⟨s0, s1, s2, s3, s4, s5, s6⟩ := row7 Rs
        (try clear p0 p1 p2 p3 p4 p5 p6 p7 p8 p9 p10 p11); obtain ⟨p0, p1, p2, p3, p4, p5, p6, p7, p8, p9, p10, p11⟩ := row12 Rp
        (try clear x0 x1 x2 x3 x4 x5 x6 x7 x8 x9 x10 x11); obtain ⟨x0, x1, x2, x3, x4, x5, x6, x7, x8, x9, x10, x11⟩ := row12 Rx
        go_wp2_with fail
        replace Rs := Rs.alloc (.cells #[Value.int .i64 t.a0, Value.int .i64 t.a1, Value.int .i64 t.k0.kind, Value.int .i64 t.k0.len, Value.int .u64 t.k0.h, Value.int .u64 t.k0.l, Value.string ⟨t.k0.path.toArray⟩, Value.int .i64 t.k1.kind, Value.int .i64 t.k1.len, Value.int .u64 t.k1.h, Value.int .u64 t.k1.l, Value.string ⟨t.k1.path.toArray⟩] 33)
        replace Rp := Rp.alloc (.cells #[Value.int .i64 t.a0, Value.int .i64 t.a1, Value.int .i64 t.k0.kind, Value.int .i64 t.k0.len, Value.int .u64 t.k0.h, Value.int .u64 t.k0.l, Value.string ⟨t.k0.path.toArray⟩, Value.int .i64 t.k1.kind, Value.int .i64 t.k1.len, Value.int .u64 t.k1.h, Value.int .u64 t.k1.l, Value.string ⟨t.k1.path.toArray⟩] 33)
        replace Ra := Ra.alloc (.cells #[Value.int .i64 t.a0, Value.int .i64 t.a1, Value.int .i64 t.k0.kind, Value.int .i64 t.k0.len, Value.int .u64 t.k0.h, Value.int .u64 t.k0.l, Value.string ⟨t.k0.path.toArray⟩, Value.int .i64 t.k1.kind, Value.int .i64 t.k1.len, Value.int .u64 t.k1.h, Value.int .u64 t.k1.l, Value.string ⟨t.k1.path.toArray⟩] 33)
        replace Rb := Rb.alloc (.cells #[Value.int .i64 t.a0, Value.int .i64 t.a1, Value.int .i64 t.k0.kind, Value.int .i64 t.k0.len, Value.int .u64 t.k0.h, Value.int .u64 t.k0.l, Value.string ⟨t.k0.path.toArray⟩, Value.int .i64 t.k1.kind, Value.int .i64 t.k1.len, Value.int .u64 t.k1.h, Value.int .u64 t.k1.l, Value.string ⟨t.k1.path.toArray⟩] 33)
        replace Rx := Rx.alloc (.cells #[Value.int .i64 t.a0, Value.int .i64 t.a1, Value.int .i64 t.k0.kind, Value.int .i64 t.k0.len, Value.int .u64 t.k0.h, Value.int .u64 t.k0.l, Value.string ⟨t.k0.path.toArray⟩, Value.int .i64 t.k1.kind, Value.int .i64 t.k1.len, Value.int .u64 t.k1.h, Value.int .u64 t.k1.l, Value.string ⟨t.k1.path.toArray⟩] 33)
        replace Rz := Rz.alloc (.cells #[Value.int .i64 t.a0, Value.int .i64 t.a1, Value.int .i64 t.k0.kind, Value.int .i64 t.k0.len, Value.int .u64 t.k0.h, Value.int .u64 t.k0.l, Value.string ⟨t.k0.path.toArray⟩, Value.int .i64 t.k1.kind, Value.int .i64 t.k1.len, Value.int .u64 t.k1.h, Value.int .u64 t.k1.l, Value.string ⟨t.k1.path.toArray⟩] 33)
        have Rt := Row.new w6 #[Value.int .i64 t.a0, Value.int .i64 t.a1, Value.int .i64 t.k0.kind, Value.int .i64 t.k0.len, Value.int .u64 t.k0.h, Value.int .u64 t.k0.l, Value.string ⟨t.k0.path.toArray⟩, Value.int .i64 t.k1.kind, Value.int .i64 t.k1.len, Value.int .u64 t.k1.h, Value.int .u64 t.k1.l, Value.string ⟨t.k1.path.toArray⟩] 33
        have mt := hb0.size
        replace hb0 := hb0.alloc hb0.size (.cells #[Value.int .i64 t.a0, Value.int .i64 t.a1, Value.int .i64 t.k0.kind, Value.int .i64 t.k0.len, Value.int .u64 t.k0.h, Value.int .u64 t.k0.l, Value.string ⟨t.k0.path.toArray⟩, Value.int .i64 t.k1.kind, Value.int .i64 t.k1.len, Value.int .u64 t.k1.h, Value.int .u64 t.k1.l, Value.string ⟨t.k1.path.toArray⟩] 33)
        (try clear s0 s1 s2 s3 s4 s5 s6); obtain ⟨s0, s1, s2, s3, s4, s5, s6⟩ := row7 Rs
        (try clear p0 p1 p2 p3 p4 p5 p6 p7 p8 p9 p10 p11); obtain ⟨p0, p1, p2, p3, p4, p5, p6, p7, p8, p9, p10, p11⟩ := row12 Rp
        (try clear x0 x1 x2 x3 x4 x5 x6 x7 x8 x9 x10 x11); obtain ⟨x0, x1, x2, x3, x4, x5, x6, x7, x8, x9, x10, x11⟩ := row12 Rx
        (try clear t0 t1 t2 t3 t4 t5 t6 t7 t8 t9 t10 t11); obtain ⟨t0, t1, t2, t3, t4, t5, t6, t7, t8, t9, t10, t11⟩ := row12 Rt
        refine wp_region_held_drew (S := (fun w' => w'.cell? ⟨w1.heap.size, 1, none⟩ = some (Value.int .i64 s.d0.kind) ∧ w'.cell? ⟨w1.heap.size, 2, none⟩ = some (Value.int .i64 s.d0.side) ∧ w'.cell? ⟨w1.heap.size, 3, none⟩ = some (Value.int .i64 s.d0.step) ∧ w'.cell? ⟨w1.heap.size, 4, none⟩ = some (Value.int .i64 s.d1.kind) ∧ w'.cell? ⟨w1.heap.size, 5, none⟩ = some (Value.int .i64 s.d1.side) ∧ w'.cell? ⟨w1.heap.size, 6, none⟩ = some (Value.int .i64 s.d1.step) ∧ w'.cell? ⟨w4.heap.size, 3, none⟩ = some (Value.int .i64 x.k0.len) ∧ w'.cell? ⟨w4.heap.size, 8, none⟩ = some (Value.int .i64 x.k1.len) ∧ Row w' w1.heap.size #[.int .i64 s.n, .int .i64 s.d0.kind, .int .i64 s.d0.side, .int .i64 s.d0.step, .int .i64 s.d1.kind, .int .i64 s.d1.side, .int .i64 s.d1.step] 26 ∧ Row w' gp #[.int .i64 p.a0, .int .i64 p.a1, .int .i64 p.k0.kind, .int .i64 p.k0.len, .int .u64 p.k0.h, .int .u64 p.k0.l, .string ⟨p.k0.path.toArray⟩, .int .i64 p.k1.kind, .int .i64 p.k1.len, .int .u64 p.k1.h, .int .u64 p.k1.l, .string ⟨p.k1.path.toArray⟩] 33 ∧ Row w' w4.heap.size #[.int .i64 x.a0, .int .i64 x.a1, .int .i64 x.k0.kind, .int .i64 x.k0.len, .int .u64 x.k0.h, .int .u64 x.k0.l, .string ⟨x.k0.path.toArray⟩, .int .i64 x.k1.kind, .int .i64 x.k1.len, .int .u64 x.k1.h, .int .u64 x.k1.l, .string ⟨x.k1.path.toArray⟩] 33 ∧ Row w' w6.heap.size #[.int .i64 t.a0, .int .i64 t.a1, .int .i64 t.k0.kind, .int .i64 t.k0.len, .int .u64 t.k0.h, .int .u64 t.k0.l, .string ⟨t.k0.path.toArray⟩, .int .i64 t.k1.kind, .int .i64 t.k1.len, .int .u64 t.k1.h, .int .u64 t.k1.l, .string ⟨t.k1.path.toArray⟩] 33)) (by kernel_rfl) ?hSr60_ (fun hHeld => ?_)
        case hSr60_ => (exact ⟨s1, s2, s3, s4, s5, s6, x3, x8, Rs.drew, Rp.drew, Rx.drew, Rt.drew⟩)
        (clear s0 s1 s2 s3 s4 s5 s6 p0 p1 p2 p3 p4 p5 p6 p7 p8 p9 p10 p11 x0 x1 x2 x3 x4 x5 x6 x7 x8 x9 x10 x11 t0 t1 t2 t3 t4 t5 t6 t7 t8 t9 t10 t11; (replace Rs := Rs.drew); (replace Rp := Rp.drew); (replace Ra := Ra.drew); (replace Rb := Rb.drew); (replace Rx := Rx.drew); (replace Rz := Rz.drew); (replace Rt := Rt.drew); (replace hb0 := hb0.drew); (generalize World.drew (World.alloc w6 (.cells #[Value.int .i64 t.a0, Value.int .i64 t.a1, Value.int .i64 t.k0.kind, Value.int .i64 t.k0.len, Value.int .u64 t.k0.h, Value.int .u64 t.k0.l, Value.string ⟨t.k0.path.toArray⟩, Value.int .i64 t.k1.kind, Value.int .i64 t.k1.len, Value.int .u64 t.k1.h, Value.int .u64 t.k1.l, Value.string ⟨t.k1.path.toArray⟩] 33)) = wq at *))
        refine tkL 0 ⟨some 43, .move (.tmp 3), 4, _, _, _⟩ hHeld ?_
        (try simp only [Act.put, nz1, nz2, nz3])
        refine tkL 1 ⟨some 44, .move (.tmp 43), 4, _, _, _⟩ hHeld ?_
        (try simp only [Act.put, nz1, nz2, nz3])
        refine tkL 2 ⟨some 45, .move (.tmp 7), 4, _, _, _⟩ hHeld ?_
        (try simp only [Act.put, nz1, nz2, nz3])
        refine tkL 3 ⟨some 46, .pick (.tmp 44) (.tmp 45) (.const (.bool false)), 4, _, _, _⟩ hHeld ?_
        (try simp only [Act.put, nz1, nz2, nz3])
        refine tkL 4 ⟨some 47, .move (.tmp 46), 4, _, _, _⟩ hHeld ?_
        (try simp only [Act.put, nz1, nz2, nz3])
        refine tkL 5 ⟨some 48, .move (.tmp 9), 4, _, _, _⟩ hHeld ?_
        (try simp only [Act.put, nz1, nz2, nz3])
        refine tkL 6 ⟨some 49, .unOp .not 4 (.tmp 48), 4, _, _, _⟩ hHeld ?_
        (try simp only [Act.put, nz1, nz2, nz3])
        refine tkL 7 ⟨some 50, .pick (.tmp 47) (.tmp 49) (.const (.bool false)), 4, _, _, _⟩ hHeld ?_
        (try simp only [Act.put, nz1, nz2, nz3])
        refine tkL 8 ⟨some 51, .move (.tmp 50), 4, _, _, _⟩ hHeld ?_
        (try simp only [Act.put, nz1, nz2, nz3])
        refine tkL 9 ⟨some 52, .load 26 (.tmp 1), 26, _, _, _⟩ hHeld ?_ (v := ?vr60_10_9) (hy := ?yr60_10_9)
        case yr60_10_9 => (intro wy hSw; obtain ⟨s1, s2, s3, s4, s5, s6, x3, x8, Qs, Qp, Qx, Qt⟩ := hSw; (with_reducible refine pexec_load 26 (.tmp 1) ?_ w1.heap.size ?_ 26 #[.int .i64 s.n, .int .i64 s.d0.kind, .int .i64 s.d0.side, .int .i64 s.d0.step, .int .i64 s.d1.kind, .int .i64 s.d1.side, .int .i64 s.d1.step] _ Qs Try.underlying26 ?_ ?_) <;> first | rfl | exact infoSp)
        (try simp only [Act.put, nz1, nz2, nz3])
        refine wpAnyH_ready (rs := [10]) (by as_aux_lemma => kernel_rfl) (by simp) ?_
        refine AllReadyH.cons (o := ⟨some 53, .call { callee := .value (.func 18), args := #[.tmp 52], argTypes := #[26] }, 4, _, _, _⟩) rfl (fun K hK => ?_) AllReadyH.nil
        (go_simp; (refine (HS _).mono ?_); (rintro e wz ⟨rfl, hb⟩); (replace Rs := Rs.later hb); (replace Rp := Rp.later hb); (replace Ra := Ra.later hb); (replace Rb := Rb.later hb); (replace Rx := Rx.later hb); (replace Rz := Rz.later hb); (replace Rt := Rt.later hb); (replace hb0 := below_step hb0 hb); go_wp2_with fail)
        refine hK.out _ _ ?hSr60_11_10 (fun hHeld2 => ?_)
        case hSr60_11_10 => (obtain ⟨s1, s2, s3, s4, s5, s6, x3, x8, Qs, Qp, Qx, Qt⟩ := hHeld; exact ⟨cell_later hb s1, cell_later hb s2, cell_later hb s3, cell_later hb s4, cell_later hb s5, cell_later hb s6, cell_later hb x3, cell_later hb x8, Qs.later hb, Qp.later hb, Qx.later hb, Qt.later hb⟩)
        clear hK K hHeld
        have hHeld := hHeld2
        clear hHeld2
        rename World => wq
        (try simp only [Act.put, nz1, nz2, nz3])
        refine tkL 11 ⟨some 54, .pick (.tmp 51) (.tmp 53) (.const (.bool false)), 4, _, _, _⟩ hHeld ?_
        (try simp only [Act.put, nz1, nz2, nz3])
        refine tkL 12 ⟨some 55, .move (.tmp 54), 4, _, _, _⟩ hHeld ?_
        (try simp only [Act.put, nz1, nz2, nz3])
        refine tkL 13 ⟨some 56, .fieldAddr 26 (.tmp 1) 1, 0, _, _, _⟩ hHeld ?_
        (try simp only [Act.put, nz1, nz2, nz3])
        refine tkL 14 ⟨some 57, .load 24 (.tmp 56), 24, _, _, _⟩ hHeld ?_
        (try simp only [Act.put, nz1, nz2, nz3])
        refine tkL 15 ⟨some 58, .build 26 #[(0, .const (.int .i64 3)), (1, .tmp 57)], 26, _, _, _⟩ hHeld ?_
        (try simp only [Act.put, nz1, nz2, nz3])
        refine wpAnyH_ready (rs := [16]) (by as_aux_lemma => kernel_rfl) (by simp) ?_
        refine AllReadyH.cons (o := ⟨some 59, .call { callee := .value (.func 18), args := #[.tmp 58], argTypes := #[26] }, 4, _, _, _⟩) rfl (fun K hK => ?_) AllReadyH.nil
        (go_simp; (refine (HN _).mono ?_); (rintro e wz ⟨rfl, hb⟩); (replace Rs := Rs.later hb); (replace Rp := Rp.later hb); (replace Ra := Ra.later hb); (replace Rb := Rb.later hb); (replace Rx := Rx.later hb); (replace Rz := Rz.later hb); (replace Rt := Rt.later hb); (replace hb0 := below_step hb0 hb); go_wp2_with fail)
        refine hK.out _ _ ?hSr60_17_16 (fun hHeld2 => ?_)
        case hSr60_17_16 => (obtain ⟨s1, s2, s3, s4, s5, s6, x3, x8, Qs, Qp, Qx, Qt⟩ := hHeld; exact ⟨cell_later hb s1, cell_later hb s2, cell_later hb s3, cell_later hb s4, cell_later hb s5, cell_later hb s6, cell_later hb x3, cell_later hb x8, Qs.later hb, Qp.later hb, Qx.later hb, Qt.later hb⟩)
        clear hK K hHeld
        have hHeld := hHeld2
        clear hHeld2
        rename World => wq
        (try simp only [Act.put, nz1, nz2, nz3])
        refine tkL 17 ⟨some 60, .unOp .not 4 (.tmp 59), 4, _, _, _⟩ hHeld ?_
        (try simp only [Act.put, nz1, nz2, nz3])
        refine tkL 18 ⟨some 61, .pick (.tmp 55) (.tmp 60) (.const (.bool false)), 4, _, _, _⟩ hHeld ?_
        (try simp only [Act.put, nz1, nz2, nz3])
        refine tkL 19 ⟨some 62, .move (.tmp 61), 4, _, _, _⟩ hHeld ?_
        (try simp only [Act.put, nz1, nz2, nz3])
        refine tkL 20 ⟨some 63, .load 33 (.tmp 6), 33, _, _, _⟩ hHeld ?_ (v := ?vr60_21_20) (hy := ?yr60_21_20)
        case yr60_21_20 => (intro wy hSw; obtain ⟨s1, s2, s3, s4, s5, s6, x3, x8, Qs, Qp, Qx, Qt⟩ := hSw; (with_reducible refine pexec_load 33 (.tmp 6) ?_ w4.heap.size ?_ 33 #[.int .i64 x.a0, .int .i64 x.a1, .int .i64 x.k0.kind, .int .i64 x.k0.len, .int .u64 x.k0.h, .int .u64 x.k0.l, .string ⟨x.k0.path.toArray⟩, .int .i64 x.k1.kind, .int .i64 x.k1.len, .int .u64 x.k1.h, .int .u64 x.k1.l, .string ⟨x.k1.path.toArray⟩] _ Qx Try.underlying33 ?_ ?_) <;> first | rfl | exact infoPx)
        (try simp only [Act.put, nz1, nz2, nz3])
        refine tkL 21 ⟨some 64, .load 26 (.tmp 1), 26, _, _, _⟩ hHeld ?_ (v := ?vr60_22_21) (hy := ?yr60_22_21)
        case yr60_22_21 => (intro wy hSw; obtain ⟨s1, s2, s3, s4, s5, s6, x3, x8, Qs, Qp, Qx, Qt⟩ := hSw; (with_reducible refine pexec_load 26 (.tmp 1) ?_ w1.heap.size ?_ 26 #[.int .i64 s.n, .int .i64 s.d0.kind, .int .i64 s.d0.side, .int .i64 s.d0.step, .int .i64 s.d1.kind, .int .i64 s.d1.side, .int .i64 s.d1.step] _ Qs Try.underlying26 ?_ ?_) <;> first | rfl | exact infoSp)
        (try simp only [Act.put, nz1, nz2, nz3])
        refine tkL 22 ⟨some 65, .load 33 (.tmp 2), 33, _, _, _⟩ hHeld ?_ (v := ?vr60_23_22) (hy := ?yr60_23_22)
        case yr60_23_22 => (intro wy hSw; obtain ⟨s1, s2, s3, s4, s5, s6, x3, x8, Qs, Qp, Qx, Qt⟩ := hSw; (with_reducible refine pexec_load 33 (.tmp 2) ?_ gp ?_ 33 #[.int .i64 p.a0, .int .i64 p.a1, .int .i64 p.k0.kind, .int .i64 p.k0.len, .int .u64 p.k0.h, .int .u64 p.k0.l, .string ⟨p.k0.path.toArray⟩, .int .i64 p.k1.kind, .int .i64 p.k1.len, .int .u64 p.k1.h, .int .u64 p.k1.l, .string ⟨p.k1.path.toArray⟩] _ Qp Try.underlying33 ?_ ?_) <;> first | rfl | exact infoPx)
        (try simp only [Act.put, nz1, nz2, nz3])
        refine tkL 23 ⟨some 66, .build 27 #[(0, .const (.int .i64 3)), (1, .const (.int .i64 2))], 27, _, _, _⟩ hHeld ?_
        (try simp only [Act.put, nz1, nz2, nz3])
        refine wpAnyH_ready (rs := [24]) (by as_aux_lemma => kernel_rfl) (by simp) ?_
        refine AllReadyH.cons (o := ⟨some 67, .call { callee := .value (.func 26), args := #[.tmp 64, .tmp 65, .tmp 66], argTypes := #[26, 33, 27] }, 33, _, _, _⟩) rfl (fun K hK => ?_) AllReadyH.nil
        (go_simp; (refine (HW _).mono ?_); (rintro e wz ⟨rfl, hb⟩); (replace Rs := Rs.later hb); (replace Rp := Rp.later hb); (replace Ra := Ra.later hb); (replace Rb := Rb.later hb); (replace Rx := Rx.later hb); (replace Rz := Rz.later hb); (replace Rt := Rt.later hb); (replace hb0 := below_step hb0 hb); go_wp2_with fail)
        refine hK.out _ _ ?hSr60_25_24 (fun hHeld2 => ?_)
        case hSr60_25_24 => (obtain ⟨s1, s2, s3, s4, s5, s6, x3, x8, Qs, Qp, Qx, Qt⟩ := hHeld; exact ⟨cell_later hb s1, cell_later hb s2, cell_later hb s3, cell_later hb s4, cell_later hb s5, cell_later hb s6, cell_later hb x3, cell_later hb x8, Qs.later hb, Qp.later hb, Qx.later hb, Qt.later hb⟩)
        clear hK K hHeld
        have hHeld := hHeld2
        clear hHeld2
        rename World => wq
        (try simp only [Act.put, nz1, nz2, nz3])
        refine tkL 25 ⟨some 68, .binOp .eql 33 (.tmp 63) (.tmp 67) 33, 4, _, _, _⟩ hHeld ?_
        (try simp only [Act.put, nz1, nz2, nz3])
        refine tkL 26 ⟨some 69, .pick (.tmp 62) (.tmp 68) (.const (.bool false)), 4, _, _, _⟩ hHeld ?_
        (try simp only [Act.put, nz1, nz2, nz3])
        refine tkL 27 ⟨some 70, .move (.tmp 69), 4, _, _, _⟩ hHeld ?_
        (try simp only [Act.put, nz1, nz2, nz3])
        refine tkL 28 ⟨some 71, .fieldAddr 33 (.tmp 6) 1, 0, _, _, _⟩ hHeld ?_
        (try simp only [Act.put, nz1, nz2, nz3])
        refine tkL 29 ⟨some 72, .indexAddr 31 (.tmp 71) (.const (.int .i64 0)), 0, _, _, _⟩ hHeld ?_
        (try simp only [Act.put, nz1, nz2, nz3])
        refine tkL 30 ⟨some 73, .fieldAddr 30 (.tmp 72) 1, 0, _, _, _⟩ hHeld ?_
        (try simp only [Act.put, nz1, nz2, nz3])
        refine tkL 31 ⟨some 74, .load 3 (.tmp 73), 3, _, _, _⟩ hHeld ?_
        (try simp only [Act.put, nz1, nz2, nz3])
        refine tkL 32 ⟨some 75, .binOp .eql 3 (.tmp 74) (.const (.int .i64 8)) 3, 4, _, _, _⟩ hHeld ?_
        (try simp only [Act.put, nz1, nz2, nz3])
        refine tkL 33 ⟨some 76, .pick (.tmp 70) (.tmp 75) (.const (.bool false)), 4, _, _, _⟩ hHeld ?_
        (try simp only [Act.put, nz1, nz2, nz3])
        refine tkL 34 ⟨some 77, .move (.tmp 76), 4, _, _, _⟩ hHeld ?_
        (try simp only [Act.put, nz1, nz2, nz3])
        refine tkL 35 ⟨some 78, .fieldAddr 33 (.tmp 6) 1, 0, _, _, _⟩ hHeld ?_
        (try simp only [Act.put, nz1, nz2, nz3])
        refine tkL 36 ⟨some 79, .indexAddr 31 (.tmp 78) (.const (.int .i64 1)), 0, _, _, _⟩ hHeld ?_
        (try simp only [Act.put, nz1, nz2, nz3])
        refine tkL 37 ⟨some 80, .fieldAddr 30 (.tmp 79) 1, 0, _, _, _⟩ hHeld ?_
        (try simp only [Act.put, nz1, nz2, nz3])
        refine tkL 38 ⟨some 81, .load 3 (.tmp 80), 3, _, _, _⟩ hHeld ?_
        (try simp only [Act.put, nz1, nz2, nz3])
        refine tkL 39 ⟨some 82, .binOp .eql 3 (.tmp 81) (.const (.int .i64 16)) 3, 4, _, _, _⟩ hHeld ?_
        (try simp only [Act.put, nz1, nz2, nz3])
        refine tkL 40 ⟨some 83, .pick (.tmp 77) (.tmp 82) (.const (.bool false)), 4, _, _, _⟩ hHeld ?_
        (try simp only [Act.put, nz1, nz2, nz3])
        refine tkL 41 ⟨some 84, .move (.tmp 83), 4, _, _, _⟩ hHeld ?_
        (try simp only [Act.put, nz1, nz2, nz3])
        refine tkL 42 ⟨some 85, .load 26 (.tmp 1), 26, _, _, _⟩ hHeld ?_ (v := ?vr60_43_42) (hy := ?yr60_43_42)
        case yr60_43_42 => (intro wy hSw; obtain ⟨s1, s2, s3, s4, s5, s6, x3, x8, Qs, Qp, Qx, Qt⟩ := hSw; (with_reducible refine pexec_load 26 (.tmp 1) ?_ w1.heap.size ?_ 26 #[.int .i64 s.n, .int .i64 s.d0.kind, .int .i64 s.d0.side, .int .i64 s.d0.step, .int .i64 s.d1.kind, .int .i64 s.d1.side, .int .i64 s.d1.step] _ Qs Try.underlying26 ?_ ?_) <;> first | rfl | exact infoSp)
        (try simp only [Act.put, nz1, nz2, nz3])
        refine tkL 43 ⟨some 86, .load 33 (.tmp 6), 33, _, _, _⟩ hHeld ?_ (v := ?vr60_44_43) (hy := ?yr60_44_43)
        case yr60_44_43 => (intro wy hSw; obtain ⟨s1, s2, s3, s4, s5, s6, x3, x8, Qs, Qp, Qx, Qt⟩ := hSw; (with_reducible refine pexec_load 33 (.tmp 6) ?_ w4.heap.size ?_ 33 #[.int .i64 x.a0, .int .i64 x.a1, .int .i64 x.k0.kind, .int .i64 x.k0.len, .int .u64 x.k0.h, .int .u64 x.k0.l, .string ⟨x.k0.path.toArray⟩, .int .i64 x.k1.kind, .int .i64 x.k1.len, .int .u64 x.k1.h, .int .u64 x.k1.l, .string ⟨x.k1.path.toArray⟩] _ Qx Try.underlying33 ?_ ?_) <;> first | rfl | exact infoPx)
        (try simp only [Act.put, nz1, nz2, nz3])
        refine wpAnyH_ready (rs := [44]) (by as_aux_lemma => kernel_rfl) (by simp) ?_
        refine AllReadyH.cons (o := ⟨some 87, .call { callee := .value (.func 25), args := #[.tmp 85, .tmp 86], argTypes := #[26, 33] }, 3, _, _, _⟩) rfl (fun K hK => ?_) AllReadyH.nil
        (go_simp; (refine (HH _).mono ?_); (rintro e wz ⟨rfl, hb⟩); (replace Rs := Rs.later hb); (replace Rp := Rp.later hb); (replace Ra := Ra.later hb); (replace Rb := Rb.later hb); (replace Rx := Rx.later hb); (replace Rz := Rz.later hb); (replace Rt := Rt.later hb); (replace hb0 := below_step hb0 hb); go_wp2_with fail)
        refine hK.out _ _ ?hSr60_45_44 (fun hHeld2 => ?_)
        case hSr60_45_44 => (obtain ⟨s1, s2, s3, s4, s5, s6, x3, x8, Qs, Qp, Qx, Qt⟩ := hHeld; exact ⟨cell_later hb s1, cell_later hb s2, cell_later hb s3, cell_later hb s4, cell_later hb s5, cell_later hb s6, cell_later hb x3, cell_later hb x8, Qs.later hb, Qp.later hb, Qx.later hb, Qt.later hb⟩)
        clear hK K hHeld
        have hHeld := hHeld2
        clear hHeld2
        rename World => wq
        (try simp only [Act.put, nz1, nz2, nz3])
        refine tkL 45 ⟨some 88, .binOp .eql 3 (.tmp 87) (.const (.int .i64 5)) 3, 4, _, _, _⟩ hHeld ?_
        (try simp only [Act.put, nz1, nz2, nz3])
        refine tkL 46 ⟨some 89, .pick (.tmp 84) (.tmp 88) (.const (.bool false)), 4, _, _, _⟩ hHeld ?_
        (try simp only [Act.put, nz1, nz2, nz3])
        refine tkL 47 ⟨some 90, .move (.tmp 89), 4, _, _, _⟩ hHeld ?_
        (try simp only [Act.put, nz1, nz2, nz3])
        refine tkL 48 ⟨some 91, .load 26 (.tmp 1), 26, _, _, _⟩ hHeld ?_ (v := ?vr60_49_48) (hy := ?yr60_49_48)
        case yr60_49_48 => (intro wy hSw; obtain ⟨s1, s2, s3, s4, s5, s6, x3, x8, Qs, Qp, Qx, Qt⟩ := hSw; (with_reducible refine pexec_load 26 (.tmp 1) ?_ w1.heap.size ?_ 26 #[.int .i64 s.n, .int .i64 s.d0.kind, .int .i64 s.d0.side, .int .i64 s.d0.step, .int .i64 s.d1.kind, .int .i64 s.d1.side, .int .i64 s.d1.step] _ Qs Try.underlying26 ?_ ?_) <;> first | rfl | exact infoSp)
        (try simp only [Act.put, nz1, nz2, nz3])
        refine tkL 49 ⟨some 92, .load 33 (.tmp 10), 33, _, _, _⟩ hHeld ?_ (v := ?vr60_50_49) (hy := ?yr60_50_49)
        case yr60_50_49 => (intro wy hSw; obtain ⟨s1, s2, s3, s4, s5, s6, x3, x8, Qs, Qp, Qx, Qt⟩ := hSw; (with_reducible refine pexec_load 33 (.tmp 10) ?_ w6.heap.size ?_ 33 #[.int .i64 t.a0, .int .i64 t.a1, .int .i64 t.k0.kind, .int .i64 t.k0.len, .int .u64 t.k0.h, .int .u64 t.k0.l, .string ⟨t.k0.path.toArray⟩, .int .i64 t.k1.kind, .int .i64 t.k1.len, .int .u64 t.k1.h, .int .u64 t.k1.l, .string ⟨t.k1.path.toArray⟩] _ Qt Try.underlying33 ?_ ?_) <;> first | rfl | exact infoPx)
        (try simp only [Act.put, nz1, nz2, nz3])
        refine tkL 50 ⟨some 93, .load 33 (.tmp 2), 33, _, _, _⟩ hHeld ?_ (v := ?vr60_51_50) (hy := ?yr60_51_50)
        case yr60_51_50 => (intro wy hSw; obtain ⟨s1, s2, s3, s4, s5, s6, x3, x8, Qs, Qp, Qx, Qt⟩ := hSw; (with_reducible refine pexec_load 33 (.tmp 2) ?_ gp ?_ 33 #[.int .i64 p.a0, .int .i64 p.a1, .int .i64 p.k0.kind, .int .i64 p.k0.len, .int .u64 p.k0.h, .int .u64 p.k0.l, .string ⟨p.k0.path.toArray⟩, .int .i64 p.k1.kind, .int .i64 p.k1.len, .int .u64 p.k1.h, .int .u64 p.k1.l, .string ⟨p.k1.path.toArray⟩] _ Qp Try.underlying33 ?_ ?_) <;> first | rfl | exact infoPx)
        (try simp only [Act.put, nz1, nz2, nz3])
        refine wpAnyH_ready (rs := [51]) (by as_aux_lemma => kernel_rfl) (by simp) ?_
        refine AllReadyH.cons (o := ⟨some 94, .call { callee := .value (.func 28), args := #[.tmp 91, .tmp 92, .tmp 93], argTypes := #[26, 33, 33] }, 4, _, _, _⟩) rfl (fun K hK => ?_) AllReadyH.nil
        (go_simp; (refine (HO _).mono ?_); (rintro e wz ⟨rfl, hb⟩); (replace Rs := Rs.later hb); (replace Rp := Rp.later hb); (replace Ra := Ra.later hb); (replace Rb := Rb.later hb); (replace Rx := Rx.later hb); (replace Rz := Rz.later hb); (replace Rt := Rt.later hb); (replace hb0 := below_step hb0 hb); go_wp2_with fail)
        refine hK.out _ _ ?hSr60_52_51 (fun hHeld2 => ?_)
        case hSr60_52_51 => (obtain ⟨s1, s2, s3, s4, s5, s6, x3, x8, Qs, Qp, Qx, Qt⟩ := hHeld; exact ⟨cell_later hb s1, cell_later hb s2, cell_later hb s3, cell_later hb s4, cell_later hb s5, cell_later hb s6, cell_later hb x3, cell_later hb x8, Qs.later hb, Qp.later hb, Qx.later hb, Qt.later hb⟩)
        clear hK K hHeld
        have hHeld := hHeld2
        clear hHeld2
        rename World => wq
        (try simp only [Act.put, nz1, nz2, nz3])
        refine tkL 52 ⟨some 95, .pick (.tmp 90) (.tmp 94) (.const (.bool false)), 4, _, _, _⟩ hHeld ?_
        (try simp only [Act.put, nz1, nz2, nz3])
        refine tkL 53 ⟨some 96, .move (.tmp 95), 4, _, _, _⟩ hHeld ?_
        (try simp only [Act.put, nz1, nz2, nz3])
        refine tkL 54 ⟨some 97, .load 26 (.tmp 1), 26, _, _, _⟩ hHeld ?_ (v := ?vr60_55_54) (hy := ?yr60_55_54)
        case yr60_55_54 => (intro wy hSw; obtain ⟨s1, s2, s3, s4, s5, s6, x3, x8, Qs, Qp, Qx, Qt⟩ := hSw; (with_reducible refine pexec_load 26 (.tmp 1) ?_ w1.heap.size ?_ 26 #[.int .i64 s.n, .int .i64 s.d0.kind, .int .i64 s.d0.side, .int .i64 s.d0.step, .int .i64 s.d1.kind, .int .i64 s.d1.side, .int .i64 s.d1.step] _ Qs Try.underlying26 ?_ ?_) <;> first | rfl | exact infoSp)
        (try simp only [Act.put, nz1, nz2, nz3])
        refine tkL 55 ⟨some 98, .load 33 (.tmp 2), 33, _, _, _⟩ hHeld ?_ (v := ?vr60_56_55) (hy := ?yr60_56_55)
        case yr60_56_55 => (intro wy hSw; obtain ⟨s1, s2, s3, s4, s5, s6, x3, x8, Qs, Qp, Qx, Qt⟩ := hSw; (with_reducible refine pexec_load 33 (.tmp 2) ?_ gp ?_ 33 #[.int .i64 p.a0, .int .i64 p.a1, .int .i64 p.k0.kind, .int .i64 p.k0.len, .int .u64 p.k0.h, .int .u64 p.k0.l, .string ⟨p.k0.path.toArray⟩, .int .i64 p.k1.kind, .int .i64 p.k1.len, .int .u64 p.k1.h, .int .u64 p.k1.l, .string ⟨p.k1.path.toArray⟩] _ Qp Try.underlying33 ?_ ?_) <;> first | rfl | exact infoPx)
        (try simp only [Act.put, nz1, nz2, nz3])
        refine tkL 56 ⟨some 99, .load 33 (.tmp 10), 33, _, _, _⟩ hHeld ?_ (v := ?vr60_57_56) (hy := ?yr60_57_56)
        case yr60_57_56 => (intro wy hSw; obtain ⟨s1, s2, s3, s4, s5, s6, x3, x8, Qs, Qp, Qx, Qt⟩ := hSw; (with_reducible refine pexec_load 33 (.tmp 10) ?_ w6.heap.size ?_ 33 #[.int .i64 t.a0, .int .i64 t.a1, .int .i64 t.k0.kind, .int .i64 t.k0.len, .int .u64 t.k0.h, .int .u64 t.k0.l, .string ⟨t.k0.path.toArray⟩, .int .i64 t.k1.kind, .int .i64 t.k1.len, .int .u64 t.k1.h, .int .u64 t.k1.l, .string ⟨t.k1.path.toArray⟩] _ Qt Try.underlying33 ?_ ?_) <;> first | rfl | exact infoPx)
        (try simp only [Act.put, nz1, nz2, nz3])
        refine wpAnyH_ready (rs := [57]) (by as_aux_lemma => kernel_rfl) (by simp) ?_
        refine AllReadyH.cons (o := ⟨some 100, .call { callee := .value (.func 28), args := #[.tmp 97, .tmp 98, .tmp 99], argTypes := #[26, 33, 33] }, 4, _, _, _⟩) rfl (fun K hK => ?_) AllReadyH.nil
        (go_simp; (refine (HP _).mono ?_); (rintro e wz ⟨rfl, hb⟩); (replace Rs := Rs.later hb); (replace Rp := Rp.later hb); (replace Ra := Ra.later hb); (replace Rb := Rb.later hb); (replace Rx := Rx.later hb); (replace Rz := Rz.later hb); (replace Rt := Rt.later hb); (replace hb0 := below_step hb0 hb); go_wp2_with fail)
        refine hK.out _ _ ?hSr60_58_57 (fun hHeld2 => ?_)
        case hSr60_58_57 => (obtain ⟨s1, s2, s3, s4, s5, s6, x3, x8, Qs, Qp, Qx, Qt⟩ := hHeld; exact ⟨cell_later hb s1, cell_later hb s2, cell_later hb s3, cell_later hb s4, cell_later hb s5, cell_later hb s6, cell_later hb x3, cell_later hb x8, Qs.later hb, Qp.later hb, Qx.later hb, Qt.later hb⟩)
        clear hK K hHeld
        have hHeld := hHeld2
        clear hHeld2
        rename World => wq
        (try simp only [Act.put, nz1, nz2, nz3])
        refine tkL 58 ⟨some 101, .unOp .not 4 (.tmp 100), 4, _, _, _⟩ hHeld ?_
        (try simp only [Act.put, nz1, nz2, nz3])
        refine tkL 59 ⟨some 102, .pick (.tmp 96) (.tmp 101) (.const (.bool false)), 4, _, _, _⟩ hHeld ?_
        (try simp only [Act.put, nz1, nz2, nz3])
        refine tkL 60 ⟨some 103, .move (.tmp 102), 4, _, _, _⟩ hHeld ?_
        (try simp only [Act.put, nz1, nz2, nz3])
        refine tkL 61 ⟨some 104, .load 33 (.tmp 2), 33, _, _, _⟩ hHeld ?_ (v := ?vr60_62_61) (hy := ?yr60_62_61)
        case yr60_62_61 => (intro wy hSw; obtain ⟨s1, s2, s3, s4, s5, s6, x3, x8, Qs, Qp, Qx, Qt⟩ := hSw; (with_reducible refine pexec_load 33 (.tmp 2) ?_ gp ?_ 33 #[.int .i64 p.a0, .int .i64 p.a1, .int .i64 p.k0.kind, .int .i64 p.k0.len, .int .u64 p.k0.h, .int .u64 p.k0.l, .string ⟨p.k0.path.toArray⟩, .int .i64 p.k1.kind, .int .i64 p.k1.len, .int .u64 p.k1.h, .int .u64 p.k1.l, .string ⟨p.k1.path.toArray⟩] _ Qp Try.underlying33 ?_ ?_) <;> first | rfl | exact infoPx)
        (try simp only [Act.put, nz1, nz2, nz3])
        refine tkL 62 ⟨some 105, .load 33 (.tmp 10), 33, _, _, _⟩ hHeld ?_ (v := ?vr60_63_62) (hy := ?yr60_63_62)
        case yr60_63_62 => (intro wy hSw; obtain ⟨s1, s2, s3, s4, s5, s6, x3, x8, Qs, Qp, Qx, Qt⟩ := hSw; (with_reducible refine pexec_load 33 (.tmp 10) ?_ w6.heap.size ?_ 33 #[.int .i64 t.a0, .int .i64 t.a1, .int .i64 t.k0.kind, .int .i64 t.k0.len, .int .u64 t.k0.h, .int .u64 t.k0.l, .string ⟨t.k0.path.toArray⟩, .int .i64 t.k1.kind, .int .i64 t.k1.len, .int .u64 t.k1.h, .int .u64 t.k1.l, .string ⟨t.k1.path.toArray⟩] _ Qt Try.underlying33 ?_ ?_) <;> first | rfl | exact infoPx)
        (try simp only [Act.put, nz1, nz2, nz3])
        refine wpAnyH_ready (rs := [63]) (by as_aux_lemma => kernel_rfl) (by simp) ?_
        refine AllReadyH.cons (o := ⟨some 106, .call { callee := .value (.func 32), args := #[.tmp 104, .tmp 105], argTypes := #[33, 33] }, 3, _, _, _⟩) rfl (fun K hK => ?_) AllReadyH.nil
        (go_simp; (refine (HC _).mono ?_); (rintro e wz ⟨rfl, hb⟩); (replace Rs := Rs.later hb); (replace Rp := Rp.later hb); (replace Ra := Ra.later hb); (replace Rb := Rb.later hb); (replace Rx := Rx.later hb); (replace Rz := Rz.later hb); (replace Rt := Rt.later hb); (replace hb0 := below_step hb0 hb); go_wp2_with fail)
        refine hK.out _ _ ?hSr60_64_63 (fun hHeld2 => ?_)
        case hSr60_64_63 => (obtain ⟨s1, s2, s3, s4, s5, s6, x3, x8, Qs, Qp, Qx, Qt⟩ := hHeld; exact ⟨cell_later hb s1, cell_later hb s2, cell_later hb s3, cell_later hb s4, cell_later hb s5, cell_later hb s6, cell_later hb x3, cell_later hb x8, Qs.later hb, Qp.later hb, Qx.later hb, Qt.later hb⟩)
        clear hK K hHeld
        have hHeld := hHeld2
        clear hHeld2
        rename World => wq
        (try simp only [Act.put, nz1, nz2, nz3])
        refine tkL 64 ⟨some 107, .binOp .eql 3 (.tmp 106) (.const (.int .i64 (-1))) 3, 4, _, _, _⟩ hHeld ?_
        (try simp only [Act.put, nz1, nz2, nz3])
        refine tkL 65 ⟨some 108, .pick (.tmp 103) (.tmp 107) (.const (.bool false)), 4, _, _, _⟩ hHeld ?_
        (try simp only [Act.put, nz1, nz2, nz3])
        refine tkL 66 ⟨some 109, .move (.tmp 108), 4, _, _, _⟩ hHeld ?_
        (try simp only [Act.put, nz1, nz2, nz3])
        refine tkL 67 ⟨some 110, .load 26 (.tmp 1), 26, _, _, _⟩ hHeld ?_ (v := ?vr60_68_67) (hy := ?yr60_68_67)
        case yr60_68_67 => (intro wy hSw; obtain ⟨s1, s2, s3, s4, s5, s6, x3, x8, Qs, Qp, Qx, Qt⟩ := hSw; (with_reducible refine pexec_load 26 (.tmp 1) ?_ w1.heap.size ?_ 26 #[.int .i64 s.n, .int .i64 s.d0.kind, .int .i64 s.d0.side, .int .i64 s.d0.step, .int .i64 s.d1.kind, .int .i64 s.d1.side, .int .i64 s.d1.step] _ Qs Try.underlying26 ?_ ?_) <;> first | rfl | exact infoSp)
        (try simp only [Act.put, nz1, nz2, nz3])
        refine tkL 68 ⟨some 111, .load 33 (.tmp 6), 33, _, _, _⟩ hHeld ?_ (v := ?vr60_69_68) (hy := ?yr60_69_68)
        case yr60_69_68 => (intro wy hSw; obtain ⟨s1, s2, s3, s4, s5, s6, x3, x8, Qs, Qp, Qx, Qt⟩ := hSw; (with_reducible refine pexec_load 33 (.tmp 6) ?_ w4.heap.size ?_ 33 #[.int .i64 x.a0, .int .i64 x.a1, .int .i64 x.k0.kind, .int .i64 x.k0.len, .int .u64 x.k0.h, .int .u64 x.k0.l, .string ⟨x.k0.path.toArray⟩, .int .i64 x.k1.kind, .int .i64 x.k1.len, .int .u64 x.k1.h, .int .u64 x.k1.l, .string ⟨x.k1.path.toArray⟩] _ Qx Try.underlying33 ?_ ?_) <;> first | rfl | exact infoPx)
        (try simp only [Act.put, nz1, nz2, nz3])
        refine wpAnyH_ready (rs := [69]) (by as_aux_lemma => kernel_rfl) (by simp) ?_
        refine AllReadyH.cons (o := ⟨some 112, .call { callee := .value (.func 20), args := #[.tmp 110, .tmp 111], argTypes := #[26, 33] }, 4, _, _, _⟩) rfl (fun K hK => ?_) AllReadyH.nil
        (go_simp; (refine (HR _).mono ?_); (rintro e wz ⟨rfl, hb⟩); (replace Rs := Rs.later hb); (replace Rp := Rp.later hb); (replace Ra := Ra.later hb); (replace Rb := Rb.later hb); (replace Rx := Rx.later hb); (replace Rz := Rz.later hb); (replace Rt := Rt.later hb); (replace hb0 := below_step hb0 hb); go_wp2_with fail)
        refine hK.out _ _ ?hSr60_70_69 (fun hHeld2 => ?_)
        case hSr60_70_69 => (obtain ⟨s1, s2, s3, s4, s5, s6, x3, x8, Qs, Qp, Qx, Qt⟩ := hHeld; exact ⟨cell_later hb s1, cell_later hb s2, cell_later hb s3, cell_later hb s4, cell_later hb s5, cell_later hb s6, cell_later hb x3, cell_later hb x8, Qs.later hb, Qp.later hb, Qx.later hb, Qt.later hb⟩)
        clear hK K hHeld
        have hHeld := hHeld2
        clear hHeld2
        rename World => wq
        (try simp only [Act.put, nz1, nz2, nz3])
        refine tkL 70 ⟨some 113, .pick (.tmp 109) (.tmp 112) (.const (.bool false)), 4, _, _, _⟩ hHeld ?_
        (try simp only [Act.put, nz1, nz2, nz3])
        refine tkL 71 ⟨some 0, .assign (.tmp 113), 4, _, _, _⟩ hHeld ?_
        (try simp only [Act.put, nz1, nz2, nz3])
        refine wpAnyH_done (by as_aux_lemma => kernel_rfl) ?_ _
        clear hHeld
        rename World => w7
        have ls := Rs.lt
        have lp := Rp.lt
        have la := Ra.lt
        have lb := Rb.lt
        have lx := Rx.lt
        have lz := Rz.lt
        have lt := Rt.lt
        (try clear s0 s1 s2 s3 s4 s5 s6); obtain ⟨s0, s1, s2, s3, s4, s5, s6⟩ := row7 Rs
        (try clear p0 p1 p2 p3 p4 p5 p6 p7 p8 p9 p10 p11); obtain ⟨p0, p1, p2, p3, p4, p5, p6, p7, p8, p9, p10, p11⟩ := row12 Rp
        (try clear x0 x1 x2 x3 x4 x5 x6 x7 x8 x9 x10 x11); obtain ⟨x0, x1, x2, x3, x4, x5, x6, x7, x8, x9, x10, x11⟩ := row12 Rx
        (try clear t0 t1 t2 t3 t4 t5 t6 t7 t8 t9 t10 t11); obtain ⟨t0, t1, t2, t3, t4, t5, t6, t7, t8, t9, t10, t11⟩ := row12 Rt
        go_wp2
        go_ret
        exact ⟨rfl, hb0⟩
end Go.Proofs.Ytbekocknfpekoaa
