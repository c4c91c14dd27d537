/- GA: what the theorem needs of these texts. No conditions beyond those that are written. -/
import Derived.Test.YtbekocknfpekoaaBJG9b
import Derived.Test.YtbekocknfpekoaaBG10
namespace Go.Proofs.Ytbekocknfpekoaa
set_option linter.unusedVariables false
set_option linter.unusedSimpArgs false
open Go.RowKit
attribute [local go_sem] Oper.semAt_some
def s10 : Sp := ⟨2, ⟨1, 1, 16⟩, ⟨1, 2, 16⟩⟩
set_option maxRecDepth 100000 in
set_option maxHeartbeats 64000000 in
theorem alive10_go (ka kb : Ke) (p t u : Px) (la lpar : List Px)
    (H1 : ∀ w, Calls Try.prog 60 #[.int .u32 1] w fun e w' => e = .returned (kv ka) ∧ Below w.heap.size w w')
    (H2 : ∀ w, Calls Try.prog 60 #[.int .u32 2] w fun e w' => e = .returned (kv kb) ∧ Below w.heap.size w w')
    (HL : ∀ w, Calls Try.prog 16 #[sv s10, kv ka, kv kb] w fun e w' => e = .returned (.tuple #[pv p, .bool true]) ∧ Below w.heap.size w w')
    (HA : ∀ w, Calls Try.prog 47 #[sv s10, pv p] w fun e w' => ∃ pa ca, e = .returned (.slice pa 9 ca) ∧ XS w' (.slice pa 9 ca) la ∧ Below w.heap.size w w')
    (HP : ∀ w, Calls Try.prog 49 #[sv s10, pv p] w fun e w' => ∃ pa ca, e = .returned (.slice pa 2 ca) ∧ XS w' (.slice pa 2 ca) lpar ∧ Below w.heap.size w w')
    (a9 : la.length = 9) (l2 : lpar.length = 2) (a8 : la[8]? = some t) (l0 : lpar[0]? = some u)
    (HC : ∀ w, Calls Try.prog 35 #[sv s10] w fun e w' => e = .returned (.int .i64 9) ∧ Below w.heap.size w w')
    (HB : ∀ w, Calls Try.prog 43 #[sv s10, rv 1 1] w fun e w' => e = .returned (.int .i64 4) ∧ Below w.heap.size w w')
    (HD : ∀ w, Calls Try.prog 39 #[sv s10] w fun e w' => e = .returned (.int .i64 4) ∧ Below w.heap.size w w')
    (HO : ∀ w, Calls Try.prog 41 #[sv s10, .int .i64 1] w fun e w' => ∃ pa ca, e = .returned (.slice pa 2 ca) ∧ Below w.heap.size w w')
    (HN : ∀ w, Calls Try.prog 38 #[sv s10] w fun e w' => ∃ pa ca, e = .returned (.slice pa 9 ca) ∧ Below w.heap.size w w')
    (HT : ∀ w, Calls Try.prog 22 #[sv s10] w fun e w' => e = .returned (pv t) ∧ Below w.heap.size w w')
    (HU : ∀ w, Calls Try.prog 26 #[sv s10, pv p, rv 1 0] w fun e w' => e = .returned (pv u) ∧ Below w.heap.size w w')
    (HE : ∀ w, Calls Try.prog 43 #[sv s10, rv 3 0] w fun e w' => e = .returned (.int .i64 (-1)) ∧ Below w.heap.size w w') (w : World) :
    Calls Try.prog 34 #[] w fun e w' => e = .returned (.bool true) ∧ Below w.heap.size w w' := by
  have hb0 := Below.refl w.heap.size w
  have qt := eql_px t t
  have qu := eql_px u u
  rw [decide_eq_true rfl] at qt qu
  have HAT := Lib.hid (And.intro (And.intro a9 l2) (And.intro a8 l0))
  clear a9 l2 a8 l0
  unfold s10 at *
  unfold sv pv kv rv at *
  dsimp only at *
  go_enter Try.func34, Try.ntmps34
  go_wp2_with fail
  have Rs := Row.new w #[Value.int .i64 2, Value.int .i64 1, Value.int .i64 1, Value.int .i64 16, Value.int .i64 1, Value.int .i64 2, Value.int .i64 16] 26
  have ms := hb0.size
  replace hb0 := hb0.alloc hb0.size (.cells #[Value.int .i64 2, Value.int .i64 1, Value.int .i64 1, Value.int .i64 16, Value.int .i64 1, Value.int .i64 2, Value.int .i64 16] 26)
  (try clear s0 s1 s2 s3 s4 s5 s6); obtain ⟨s0, s1, s2, s3, s4, s5, s6⟩ := row7 Rs
  generalize (World.alloc w (.cells #[Value.int .i64 2, Value.int .i64 1, Value.int .i64 1, Value.int .i64 16, Value.int .i64 1, Value.int .i64 2, Value.int .i64 16] 26)) = w1 at *
  go_cut [2, 3] (fun s2 s3 wx => ∃ gp : Nat, s2 = .pointer (some ⟨gp, 0, none⟩) ∧ s3 = .bool true ∧ w.heap.size ≤ gp ∧ Row wx gp #[.int .i64 p.a0, .int .i64 p.a1, .int .i64 p.k0.kind, .int .i64 p.k0.len, .int .u64 p.k0.h, .int .u64 p.k0.l, .string ⟨p.k0.path.toArray⟩, .int .i64 p.k1.kind, .int .i64 p.k1.len, .int .u64 p.k1.h, .int .u64 p.k1.l, .string ⟨p.k1.path.toArray⟩] 33 ∧ Row wx w.heap.size #[.int .i64 2, .int .i64 1, .int .i64 1, .int .i64 16, .int .i64 1, .int .i64 2, .int .i64 16] 26 ∧ Below w.heap.size w wx)
  case first =>
    refine wp_region_held_drew (S := (fun w' => Row w' w.heap.size #[.int .i64 2, .int .i64 1, .int .i64 1, .int .i64 16, .int .i64 1, .int .i64 2, .int .i64 16] 26)) (by kernel_rfl) ?hSr1_ (fun hHeld => ?_)
    case hSr1_ => (exact Rs.drew)
    (clear s0 s1 s2 s3 s4 s5 s6; (replace Rs := Rs.drew); (replace hb0 := hb0.drew); (generalize World.drew w1 = wq at *))
    refine tk 0 ⟨some 11, .load 26 (.tmp 1), 26, _, _, _⟩ hHeld ?_ (v := ?vr1_1_0) (hy := ?yr1_1_0)
    case yr1_1_0 => (intro wy hSw; have Qs := hSw; (with_reducible refine pexec_load 26 (.tmp 1) ?_ w.heap.size ?_ 26 #[.int .i64 2, .int .i64 1, .int .i64 1, .int .i64 16, .int .i64 1, .int .i64 2, .int .i64 16] _ Qs Try.underlying26 ?_ ?_) <;> first | rfl | exact infoSp)
    (try simp only [Act.put, nz1, nz2, nz3])
    refine wpAnyH_ready (rs := [1, 7]) (by kernel_rfl) (by simp) ?_
    refine AllReadyH.cons (o := ⟨some 12, .call { callee := .value (.func 60), args := #[.const (.int .u32 1)], argTypes := #[69] }, 30, _, _, _⟩) rfl (fun K hK => ?_) ?_
    · (go_simp; (refine (H1 _).mono ?_); (rintro e wz ⟨rfl, hb⟩); (replace Rs := Rs.later hb); (try replace Rp := Rp.later hb); (replace hb0 := below_step hb0 hb); go_wp2_with fail)
      refine hK.out _ _ ?hSr1_2_1 (fun hHeld2 => ?_)
      case hSr1_2_1 => (exact hHeld.later hb)
      clear hK K hHeld
      have hHeld := hHeld2
      clear hHeld2
      rename World => wq
      (try simp only [Act.put, nz1, nz2, nz3])
      refine wpAnyH_ready (rs := [2, 7]) (by kernel_rfl) (by simp) ?_
      refine AllReadyH.cons (o := ⟨some 13, .call { callee := .value (.func 60), args := #[.const (.int .u32 2)], argTypes := #[69] }, 30, _, _, _⟩) rfl (fun K hK => ?_) ?_
      · (go_simp; (refine (H2 _).mono ?_); (rintro e wz ⟨rfl, hb⟩); (replace Rs := Rs.later hb); (try replace Rp := Rp.later hb); (replace hb0 := below_step hb0 hb); go_wp2_with fail)
        refine hK.out _ _ ?hSr1_3_2 (fun hHeld2 => ?_)
        case hSr1_3_2 => (exact hHeld.later hb)
        clear hK K hHeld
        have hHeld := hHeld2
        clear hHeld2
        rename World => wq
        (try simp only [Act.put, nz1, nz2, nz3])
        refine wpAnyH_ready (rs := [3, 7]) (by kernel_rfl) (by simp) ?_
        refine AllReadyH.cons (o := ⟨some 14, .call { callee := .value (.func 16), args := #[.tmp 11, .tmp 12, .tmp 13], argTypes := #[26, 30, 30] }, 34, _, _, _⟩) rfl (fun K hK => ?_) ?_
        · (go_simp; (refine (HL _).mono ?_); (rintro e wz ⟨rfl, hb⟩); (replace Rs := Rs.later hb); (try replace Rp := Rp.later hb); (replace hb0 := below_step hb0 hb); go_wp2_with fail)
          refine hK.out _ _ ?hSr1_4_3 (fun hHeld2 => ?_)
          case hSr1_4_3 => (exact hHeld.later hb)
          clear hK K hHeld
          have hHeld := hHeld2
          clear hHeld2
          rename World => wq
          (try simp only [Act.put, nz1, nz2, nz3])
          refine tk 4 ⟨some 10, .move (.tmp 14), 34, _, _, _⟩ hHeld ?_
          (try simp only [Act.put, nz1, nz2, nz3])
          refine tk 5 ⟨some 15, .extract (.tmp 10) 0, 33, _, _, _⟩ hHeld ?_
          (try simp only [Act.put, nz1, nz2, nz3])
          refine tk 6 ⟨some 16, .extract (.tmp 10) 1, 4, _, _, _⟩ hHeld ?_
          (try simp only [Act.put, nz1, nz2, nz3])
          refine wpAnyH_ready (rs := [7]) (by kernel_rfl) (by simp) ?_
          refine AllReadyH.cons (o := ⟨some 2, .alloc 33, 0, _, _, _⟩) rfl (fun K hK => ?_) AllReadyH.nil
          (go_simp; (have mp := hb0.size); (have np_s := Rs.lt); (have Rp := Row.new wq #[.int .i64 0, .int .i64 0, .int .i64 0, .int .i64 0, .int .u64 0, .int .u64 0, .string ⟨#[]⟩, .int .i64 0, .int .i64 0, .int .u64 0, .int .u64 0, .string ⟨#[]⟩] 33); (have hb : Below wq.heap.size wq (World.alloc wq (.cells #[.int .i64 0, .int .i64 0, .int .i64 0, .int .i64 0, .int .u64 0, .int .u64 0, .string ⟨#[]⟩, .int .i64 0, .int .i64 0, .int .u64 0, .int .u64 0, .string ⟨#[]⟩] 33)) := (Below.refl _ _).alloc (Nat.le_refl _) _); (replace Rs := Rs.later hb); (replace hb0 := below_step hb0 hb); (have hSn : Row (World.alloc wq (.cells #[.int .i64 0, .int .i64 0, .int .i64 0, .int .i64 0, .int .u64 0, .int .u64 0, .string ⟨#[]⟩, .int .i64 0, .int .i64 0, .int .u64 0, .int .u64 0, .string ⟨#[]⟩] 33)) w.heap.size #[.int .i64 2, .int .i64 1, .int .i64 1, .int .i64 16, .int .i64 1, .int .i64 2, .int .i64 16] 26 := by exact hHeld.later hb); clear hb; generalize World.alloc wq (.cells #[.int .i64 0, .int .i64 0, .int .i64 0, .int .i64 0, .int .u64 0, .int .u64 0, .string ⟨#[]⟩, .int .i64 0, .int .i64 0, .int .u64 0, .int .u64 0, .string ⟨#[]⟩] 33) = wz at *; generalize wq.heap.size = gp at *)
          refine hK.out _ _ ?hSr1_8_7 (fun hHeld2 => ?_)
          case hSr1_8_7 => (exact hSn)
          clear hK K hHeld
          have hHeld := hHeld2
          clear hHeld2
          rename World => wq
          (try simp only [Act.put, nz1, nz2, nz3])
          refine wpAnyH_ready (rs := [8]) (by kernel_rfl) (by simp) ?_
          refine AllReadyH.cons (o := ⟨none, .store 33 (.tmp 2) (.tmp 15), 0, _, _, _⟩) rfl (fun K hK => ?_) AllReadyH.nil
          ((rw [if_pos (by rfl)]); (with_reducible refine pst 33 (.tmp 2) (.tmp 15) ?_ gp 0 #[.int .i64 p.a0, .int .i64 p.a1, .int .i64 p.k0.kind, .int .i64 p.k0.len, .int .u64 p.k0.h, .int .u64 p.k0.l, .string ⟨p.k0.path.toArray⟩, .int .i64 p.k1.kind, .int .i64 p.k1.len, .int .u64 p.k1.h, .int .u64 p.k1.l, .string ⟨p.k1.path.toArray⟩] ?_ ?_ ?_ ?_ ?_ ?_); rfl; rfl; rfl; (exact Row.thereAt Rp 0 _ (by simp)); (exact infoPx); (simp [Value.oneCell']); (rintro wz hwz); (have hHq := hHeld); (have Qs := hHq); (replace Qs := prf hwz Qs); (replace Rs := prf hwz Rs); (replace hb0 := pbl hwz hb0); (replace Rp := psw hwz Rp); clear hwz)
          refine hK.out _ _ ?hSr1_9_8 (fun hHeld2 => ?_)
          case hSr1_9_8 => (exact Qs)
          clear hK K hHeld
          have hHeld := hHeld2
          clear hHeld2
          rename World => wq
          (try simp only [Act.put, nz1, nz2, nz3])
          refine tk 9 ⟨some 3, .assign (.tmp 16), 4, _, _, _⟩ hHeld ?_
          (try simp only [Act.put, nz1, nz2, nz3])
          refine wpAnyH_done (by kernel_rfl) ?_ _
          (go_wp2_with fail; go_meet; exact ⟨gp, rfl, rfl, mp, Rp, Rs, hb0⟩)
        refine AllReadyH.cons (o := ⟨some 2, .alloc 33, 0, _, _, _⟩) rfl (fun K hK => ?_) AllReadyH.nil
        · (go_simp; (have mp := hb0.size); (have np_s := Rs.lt); (have Rp := Row.new wq #[.int .i64 0, .int .i64 0, .int .i64 0, .int .i64 0, .int .u64 0, .int .u64 0, .string ⟨#[]⟩, .int .i64 0, .int .i64 0, .int .u64 0, .int .u64 0, .string ⟨#[]⟩] 33); (have hb : Below wq.heap.size wq (World.alloc wq (.cells #[.int .i64 0, .int .i64 0, .int .i64 0, .int .i64 0, .int .u64 0, .int .u64 0, .string ⟨#[]⟩, .int .i64 0, .int .i64 0, .int .u64 0, .int .u64 0, .string ⟨#[]⟩] 33)) := (Below.refl _ _).alloc (Nat.le_refl _) _); (replace Rs := Rs.later hb); (replace hb0 := below_step hb0 hb); (have hSn : Row (World.alloc wq (.cells #[.int .i64 0, .int .i64 0, .int .i64 0, .int .i64 0, .int .u64 0, .int .u64 0, .string ⟨#[]⟩, .int .i64 0, .int .i64 0, .int .u64 0, .int .u64 0, .string ⟨#[]⟩] 33)) w.heap.size #[.int .i64 2, .int .i64 1, .int .i64 1, .int .i64 16, .int .i64 1, .int .i64 2, .int .i64 16] 26 := by exact hHeld.later hb); clear hb; generalize World.alloc wq (.cells #[.int .i64 0, .int .i64 0, .int .i64 0, .int .i64 0, .int .u64 0, .int .u64 0, .string ⟨#[]⟩, .int .i64 0, .int .i64 0, .int .u64 0, .int .u64 0, .string ⟨#[]⟩] 33) = wz at *; generalize wq.heap.size = gp at *)
          refine hK.out _ _ ?hSr1_11_7 (fun hHeld2 => ?_)
          case hSr1_11_7 => (exact hSn)
          clear hK K hHeld
          have hHeld := hHeld2
          clear hHeld2
          rename World => wq
          (try simp only [Act.put, nz1, nz2, nz3])
          refine wpAnyH_ready (rs := [3]) (by kernel_rfl) (by simp) ?_
          refine AllReadyH.cons (o := ⟨some 14, .call { callee := .value (.func 16), args := #[.tmp 11, .tmp 12, .tmp 13], argTypes := #[26, 30, 30] }, 34, _, _, _⟩) rfl (fun K hK => ?_) AllReadyH.nil
          (go_simp; (refine (HL _).mono ?_); (rintro e wz ⟨rfl, hb⟩); (replace Rs := Rs.later hb); (try replace Rp := Rp.later hb); (replace hb0 := below_step hb0 hb); go_wp2_with fail)
          refine hK.out _ _ ?hSr1_12_3 (fun hHeld2 => ?_)
          case hSr1_12_3 => (exact hHeld.later hb)
          clear hK K hHeld
          have hHeld := hHeld2
          clear hHeld2
          rename World => wq
          (try simp only [Act.put, nz1, nz2, nz3])
          refine tk 4 ⟨some 10, .move (.tmp 14), 34, _, _, _⟩ hHeld ?_
          (try simp only [Act.put, nz1, nz2, nz3])
          refine tk 5 ⟨some 15, .extract (.tmp 10) 0, 33, _, _, _⟩ hHeld ?_
          (try simp only [Act.put, nz1, nz2, nz3])
          refine tk 6 ⟨some 16, .extract (.tmp 10) 1, 4, _, _, _⟩ hHeld ?_
          (try simp only [Act.put, nz1, nz2, nz3])
          refine wpAnyH_ready (rs := [8]) (by kernel_rfl) (by simp) ?_
          refine AllReadyH.cons (o := ⟨none, .store 33 (.tmp 2) (.tmp 15), 0, _, _, _⟩) rfl (fun K hK => ?_) AllReadyH.nil
          ((rw [if_pos (by rfl)]); (with_reducible refine pst 33 (.tmp 2) (.tmp 15) ?_ gp 0 #[.int .i64 p.a0, .int .i64 p.a1, .int .i64 p.k0.kind, .int .i64 p.k0.len, .int .u64 p.k0.h, .int .u64 p.k0.l, .string ⟨p.k0.path.toArray⟩, .int .i64 p.k1.kind, .int .i64 p.k1.len, .int .u64 p.k1.h, .int .u64 p.k1.l, .string ⟨p.k1.path.toArray⟩] ?_ ?_ ?_ ?_ ?_ ?_); rfl; rfl; rfl; (exact Row.thereAt Rp 0 _ (by simp)); (exact infoPx); (simp [Value.oneCell']); (rintro wz hwz); (have hHq := hHeld); (have Qs := hHq); (replace Qs := prf hwz Qs); (replace Rs := prf hwz Rs); (replace hb0 := pbl hwz hb0); (replace Rp := psw hwz Rp); clear hwz)
          refine hK.out _ _ ?hSr1_16_8 (fun hHeld2 => ?_)
          case hSr1_16_8 => (exact Qs)
          clear hK K hHeld
          have hHeld := hHeld2
          clear hHeld2
          rename World => wq
          (try simp only [Act.put, nz1, nz2, nz3])
          refine tk 9 ⟨some 3, .assign (.tmp 16), 4, _, _, _⟩ hHeld ?_
          (try simp only [Act.put, nz1, nz2, nz3])
          refine wpAnyH_done (by kernel_rfl) ?_ _
          (go_wp2_with fail; go_meet; exact ⟨gp, rfl, rfl, mp, Rp, Rs, hb0⟩)
      refine AllReadyH.cons (o := ⟨some 2, .alloc 33, 0, _, _, _⟩) rfl (fun K hK => ?_) AllReadyH.nil
      · (go_simp; (have mp := hb0.size); (have np_s := Rs.lt); (have Rp := Row.new wq #[.int .i64 0, .int .i64 0, .int .i64 0, .int .i64 0, .int .u64 0, .int .u64 0, .string ⟨#[]⟩, .int .i64 0, .int .i64 0, .int .u64 0, .int .u64 0, .string ⟨#[]⟩] 33); (have hb : Below wq.heap.size wq (World.alloc wq (.cells #[.int .i64 0, .int .i64 0, .int .i64 0, .int .i64 0, .int .u64 0, .int .u64 0, .string ⟨#[]⟩, .int .i64 0, .int .i64 0, .int .u64 0, .int .u64 0, .string ⟨#[]⟩] 33)) := (Below.refl _ _).alloc (Nat.le_refl _) _); (replace Rs := Rs.later hb); (replace hb0 := below_step hb0 hb); (have hSn : Row (World.alloc wq (.cells #[.int .i64 0, .int .i64 0, .int .i64 0, .int .i64 0, .int .u64 0, .int .u64 0, .string ⟨#[]⟩, .int .i64 0, .int .i64 0, .int .u64 0, .int .u64 0, .string ⟨#[]⟩] 33)) w.heap.size #[.int .i64 2, .int .i64 1, .int .i64 1, .int .i64 16, .int .i64 1, .int .i64 2, .int .i64 16] 26 := by exact hHeld.later hb); clear hb; generalize World.alloc wq (.cells #[.int .i64 0, .int .i64 0, .int .i64 0, .int .i64 0, .int .u64 0, .int .u64 0, .string ⟨#[]⟩, .int .i64 0, .int .i64 0, .int .u64 0, .int .u64 0, .string ⟨#[]⟩] 33) = wz at *; generalize wq.heap.size = gp at *)
        refine hK.out _ _ ?hSr1_18_7 (fun hHeld2 => ?_)
        case hSr1_18_7 => (exact hSn)
        clear hK K hHeld
        have hHeld := hHeld2
        clear hHeld2
        rename World => wq
        (try simp only [Act.put, nz1, nz2, nz3])
        refine wpAnyH_ready (rs := [2]) (by kernel_rfl) (by simp) ?_
        refine AllReadyH.cons (o := ⟨some 13, .call { callee := .value (.func 60), args := #[.const (.int .u32 2)], argTypes := #[69] }, 30, _, _, _⟩) rfl (fun K hK => ?_) AllReadyH.nil
        (go_simp; (refine (H2 _).mono ?_); (rintro e wz ⟨rfl, hb⟩); (replace Rs := Rs.later hb); (try replace Rp := Rp.later hb); (replace hb0 := below_step hb0 hb); go_wp2_with fail)
        refine hK.out _ _ ?hSr1_19_2 (fun hHeld2 => ?_)
        case hSr1_19_2 => (exact hHeld.later hb)
        clear hK K hHeld
        have hHeld := hHeld2
        clear hHeld2
        rename World => wq
        (try simp only [Act.put, nz1, nz2, nz3])
        refine wpAnyH_ready (rs := [3]) (by kernel_rfl) (by simp) ?_
        refine AllReadyH.cons (o := ⟨some 14, .call { callee := .value (.func 16), args := #[.tmp 11, .tmp 12, .tmp 13], argTypes := #[26, 30, 30] }, 34, _, _, _⟩) rfl (fun K hK => ?_) AllReadyH.nil
        (go_simp; (refine (HL _).mono ?_); (rintro e wz ⟨rfl, hb⟩); (replace Rs := Rs.later hb); (try replace Rp := Rp.later hb); (replace hb0 := below_step hb0 hb); go_wp2_with fail)
        refine hK.out _ _ ?hSr1_20_3 (fun hHeld2 => ?_)
        case hSr1_20_3 => (exact hHeld.later hb)
        clear hK K hHeld
        have hHeld := hHeld2
        clear hHeld2
        rename World => wq
        (try simp only [Act.put, nz1, nz2, nz3])
        refine tk 4 ⟨some 10, .move (.tmp 14), 34, _, _, _⟩ hHeld ?_
        (try simp only [Act.put, nz1, nz2, nz3])
        refine tk 5 ⟨some 15, .extract (.tmp 10) 0, 33, _, _, _⟩ hHeld ?_
        (try simp only [Act.put, nz1, nz2, nz3])
        refine tk 6 ⟨some 16, .extract (.tmp 10) 1, 4, _, _, _⟩ hHeld ?_
        (try simp only [Act.put, nz1, nz2, nz3])
        refine wpAnyH_ready (rs := [8]) (by kernel_rfl) (by simp) ?_
        refine AllReadyH.cons (o := ⟨none, .store 33 (.tmp 2) (.tmp 15), 0, _, _, _⟩) rfl (fun K hK => ?_) AllReadyH.nil
        ((rw [if_pos (by rfl)]); (with_reducible refine pst 33 (.tmp 2) (.tmp 15) ?_ gp 0 #[.int .i64 p.a0, .int .i64 p.a1, .int .i64 p.k0.kind, .int .i64 p.k0.len, .int .u64 p.k0.h, .int .u64 p.k0.l, .string ⟨p.k0.path.toArray⟩, .int .i64 p.k1.kind, .int .i64 p.k1.len, .int .u64 p.k1.h, .int .u64 p.k1.l, .string ⟨p.k1.path.toArray⟩] ?_ ?_ ?_ ?_ ?_ ?_); rfl; rfl; rfl; (exact Row.thereAt Rp 0 _ (by simp)); (exact infoPx); (simp [Value.oneCell']); (rintro wz hwz); (have hHq := hHeld); (have Qs := hHq); (replace Qs := prf hwz Qs); (replace Rs := prf hwz Rs); (replace hb0 := pbl hwz hb0); (replace Rp := psw hwz Rp); clear hwz)
        refine hK.out _ _ ?hSr1_24_8 (fun hHeld2 => ?_)
        case hSr1_24_8 => (exact Qs)
        clear hK K hHeld
        have hHeld := hHeld2
        clear hHeld2
        rename World => wq
        (try simp only [Act.put, nz1, nz2, nz3])
        refine tk 9 ⟨some 3, .assign (.tmp 16), 4, _, _, _⟩ hHeld ?_
        (try simp only [Act.put, nz1, nz2, nz3])
        refine wpAnyH_done (by kernel_rfl) ?_ _
        (go_wp2_with fail; go_meet; exact ⟨gp, rfl, rfl, mp, Rp, Rs, hb0⟩)
    refine AllReadyH.cons (o := ⟨some 2, .alloc 33, 0, _, _, _⟩) rfl (fun K hK => ?_) AllReadyH.nil
    · (go_simp; (have mp := hb0.size); (have np_s := Rs.lt); (have Rp := Row.new wq #[.int .i64 0, .int .i64 0, .int .i64 0, .int .i64 0, .int .u64 0, .int .u64 0, .string ⟨#[]⟩, .int .i64 0, .int .i64 0, .int .u64 0, .int .u64 0, .string ⟨#[]⟩] 33); (have hb : Below wq.heap.size wq (World.alloc wq (.cells #[.int .i64 0, .int .i64 0, .int .i64 0, .int .i64 0, .int .u64 0, .int .u64 0, .string ⟨#[]⟩, .int .i64 0, .int .i64 0, .int .u64 0, .int .u64 0, .string ⟨#[]⟩] 33)) := (Below.refl _ _).alloc (Nat.le_refl _) _); (replace Rs := Rs.later hb); (replace hb0 := below_step hb0 hb); (have hSn : Row (World.alloc wq (.cells #[.int .i64 0, .int .i64 0, .int .i64 0, .int .i64 0, .int .u64 0, .int .u64 0, .string ⟨#[]⟩, .int .i64 0, .int .i64 0, .int .u64 0, .int .u64 0, .string ⟨#[]⟩] 33)) w.heap.size #[.int .i64 2, .int .i64 1, .int .i64 1, .int .i64 16, .int .i64 1, .int .i64 2, .int .i64 16] 26 := by exact hHeld.later hb); clear hb; generalize World.alloc wq (.cells #[.int .i64 0, .int .i64 0, .int .i64 0, .int .i64 0, .int .u64 0, .int .u64 0, .string ⟨#[]⟩, .int .i64 0, .int .i64 0, .int .u64 0, .int .u64 0, .string ⟨#[]⟩] 33) = wz at *; generalize wq.heap.size = gp at *)
      refine hK.out _ _ ?hSr1_26_7 (fun hHeld2 => ?_)
      case hSr1_26_7 => (exact hSn)
      clear hK K hHeld
      have hHeld := hHeld2
      clear hHeld2
      rename World => wq
      (try simp only [Act.put, nz1, nz2, nz3])
      refine wpAnyH_ready (rs := [1]) (by kernel_rfl) (by simp) ?_
      refine AllReadyH.cons (o := ⟨some 12, .call { callee := .value (.func 60), args := #[.const (.int .u32 1)], argTypes := #[69] }, 30, _, _, _⟩) rfl (fun K hK => ?_) AllReadyH.nil
      (go_simp; (refine (H1 _).mono ?_); (rintro e wz ⟨rfl, hb⟩); (replace Rs := Rs.later hb); (try replace Rp := Rp.later hb); (replace hb0 := below_step hb0 hb); go_wp2_with fail)
      refine hK.out _ _ ?hSr1_27_1 (fun hHeld2 => ?_)
      case hSr1_27_1 => (exact hHeld.later hb)
      clear hK K hHeld
      have hHeld := hHeld2
      clear hHeld2
      rename World => wq
      (try simp only [Act.put, nz1, nz2, nz3])
      refine wpAnyH_ready (rs := [2]) (by kernel_rfl) (by simp) ?_
      refine AllReadyH.cons (o := ⟨some 13, .call { callee := .value (.func 60), args := #[.const (.int .u32 2)], argTypes := #[69] }, 30, _, _, _⟩) rfl (fun K hK => ?_) AllReadyH.nil
      (go_simp; (refine (H2 _).mono ?_); (rintro e wz ⟨rfl, hb⟩); (replace Rs := Rs.later hb); (try replace Rp := Rp.later hb); (replace hb0 := below_step hb0 hb); go_wp2_with fail)
      refine hK.out _ _ ?hSr1_28_2 (fun hHeld2 => ?_)
      case hSr1_28_2 => (exact hHeld.later hb)
      clear hK K hHeld
      have hHeld := hHeld2
      clear hHeld2
      rename World => wq
      (try simp only [Act.put, nz1, nz2, nz3])
      refine wpAnyH_ready (rs := [3]) (by kernel_rfl) (by simp) ?_
      refine AllReadyH.cons (o := ⟨some 14, .call { callee := .value (.func 16), args := #[.tmp 11, .tmp 12, .tmp 13], argTypes := #[26, 30, 30] }, 34, _, _, _⟩) rfl (fun K hK => ?_) AllReadyH.nil
      (go_simp; (refine (HL _).mono ?_); (rintro e wz ⟨rfl, hb⟩); (replace Rs := Rs.later hb); (try replace Rp := Rp.later hb); (replace hb0 := below_step hb0 hb); go_wp2_with fail)
      refine hK.out _ _ ?hSr1_29_3 (fun hHeld2 => ?_)
      case hSr1_29_3 => (exact hHeld.later hb)
      clear hK K hHeld
      have hHeld := hHeld2
      clear hHeld2
      rename World => wq
      (try simp only [Act.put, nz1, nz2, nz3])
      refine tk 4 ⟨some 10, .move (.tmp 14), 34, _, _, _⟩ hHeld ?_
      (try simp only [Act.put, nz1, nz2, nz3])
      refine tk 5 ⟨some 15, .extract (.tmp 10) 0, 33, _, _, _⟩ hHeld ?_
      (try simp only [Act.put, nz1, nz2, nz3])
      refine tk 6 ⟨some 16, .extract (.tmp 10) 1, 4, _, _, _⟩ hHeld ?_
      (try simp only [Act.put, nz1, nz2, nz3])
      refine wpAnyH_ready (rs := [8]) (by kernel_rfl) (by simp) ?_
      refine AllReadyH.cons (o := ⟨none, .store 33 (.tmp 2) (.tmp 15), 0, _, _, _⟩) rfl (fun K hK => ?_) AllReadyH.nil
      ((rw [if_pos (by rfl)]); (with_reducible refine pst 33 (.tmp 2) (.tmp 15) ?_ gp 0 #[.int .i64 p.a0, .int .i64 p.a1, .int .i64 p.k0.kind, .int .i64 p.k0.len, .int .u64 p.k0.h, .int .u64 p.k0.l, .string ⟨p.k0.path.toArray⟩, .int .i64 p.k1.kind, .int .i64 p.k1.len, .int .u64 p.k1.h, .int .u64 p.k1.l, .string ⟨p.k1.path.toArray⟩] ?_ ?_ ?_ ?_ ?_ ?_); rfl; rfl; rfl; (exact Row.thereAt Rp 0 _ (by simp)); (exact infoPx); (simp [Value.oneCell']); (rintro wz hwz); (have hHq := hHeld); (have Qs := hHq); (replace Qs := prf hwz Qs); (replace Rs := prf hwz Rs); (replace hb0 := pbl hwz hb0); (replace Rp := psw hwz Rp); clear hwz)
      refine hK.out _ _ ?hSr1_33_8 (fun hHeld2 => ?_)
      case hSr1_33_8 => (exact Qs)
      clear hK K hHeld
      have hHeld := hHeld2
      clear hHeld2
      rename World => wq
      (try simp only [Act.put, nz1, nz2, nz3])
      refine tk 9 ⟨some 3, .assign (.tmp 16), 4, _, _, _⟩ hHeld ?_
      (try simp only [Act.put, nz1, nz2, nz3])
      refine wpAnyH_done (by kernel_rfl) ?_ _
      (go_wp2_with fail; go_meet; exact ⟨gp, rfl, rfl, mp, Rp, Rs, hb0⟩)
  case rest =>
    clear s0 s1 s2 s3 s4 s5 s6 Rs hb0
    obtain ⟨gp, rfl, rfl, mp, Rp, Rs, hb0⟩ := hcut
    rename World => w2
    have ls := Rs.lt
    have lp := Rp.lt
    (try clear s0 s1 s2 s3 s4 s5 s6); obtain ⟨s0, s1, s2, s3, s4, s5, s6⟩ := row7 Rs
    (try clear p0 p1 p2 p3 p4 p5 p6 p7 p8 p9 p10 p11); obtain ⟨p0, p1, p2, p3, p4, p5, p6, p7, p8, p9, p10, p11⟩ := row12 Rp
    go_wp2_with fail
    go_cut [4, 5] (fun s4 s5 wx => ∃ pa ca pb cb, s4 = .slice pa 9 ca ∧ s5 = .slice pb 2 cb ∧ XS wx (.slice pa 9 ca) la ∧ XS wx (.slice pb 2 cb) lpar ∧ Row wx w.heap.size #[.int .i64 2, .int .i64 1, .int .i64 1, .int .i64 16, .int .i64 1, .int .i64 2, .int .i64 16] 26 ∧ Row wx gp #[.int .i64 p.a0, .int .i64 p.a1, .int .i64 p.k0.kind, .int .i64 p.k0.len, .int .u64 p.k0.h, .int .u64 p.k0.l, .string ⟨p.k0.path.toArray⟩, .int .i64 p.k1.kind, .int .i64 p.k1.len, .int .u64 p.k1.h, .int .u64 p.k1.l, .string ⟨p.k1.path.toArray⟩] 33 ∧ Below w.heap.size w wx)
    case first =>
      refine wp_region_held_drew (S := (fun w' => Row w' w.heap.size #[.int .i64 2, .int .i64 1, .int .i64 1, .int .i64 16, .int .i64 1, .int .i64 2, .int .i64 16] 26 ∧ Row w' gp #[.int .i64 p.a0, .int .i64 p.a1, .int .i64 p.k0.kind, .int .i64 p.k0.len, .int .u64 p.k0.h, .int .u64 p.k0.l, .string ⟨p.k0.path.toArray⟩, .int .i64 p.k1.kind, .int .i64 p.k1.len, .int .u64 p.k1.h, .int .u64 p.k1.l, .string ⟨p.k1.path.toArray⟩] 33)) (by kernel_rfl) ?hSr2_ (fun hHeld => ?_)
      case hSr2_ => (exact ⟨Rs.drew, Rp.drew⟩)
      (clear s0 s1 s2 s3 s4 s5 s6 p0 p1 p2 p3 p4 p5 p6 p7 p8 p9 p10 p11; (replace Rs := Rs.drew); (replace Rp := Rp.drew); (replace hb0 := hb0.drew); (generalize World.drew w2 = wq at *))
      refine tk 0 ⟨some 17, .load 26 (.tmp 1), 26, _, _, _⟩ hHeld ?_ (v := ?vr2_1_0) (hy := ?yr2_1_0)
      case yr2_1_0 => (intro wy hSw; obtain ⟨Qs, Qp⟩ := hSw; (with_reducible refine pexec_load 26 (.tmp 1) ?_ w.heap.size ?_ 26 #[.int .i64 2, .int .i64 1, .int .i64 1, .int .i64 16, .int .i64 1, .int .i64 2, .int .i64 16] _ Qs Try.underlying26 ?_ ?_) <;> first | rfl | exact infoSp)
      (try simp only [Act.put, nz1, nz2, nz3])
      refine tk 1 ⟨some 18, .load 33 (.tmp 2), 33, _, _, _⟩ hHeld ?_ (v := ?vr2_2_1) (hy := ?yr2_2_1)
      case yr2_2_1 => (intro wy hSw; obtain ⟨Qs, Qp⟩ := hSw; (with_reducible refine pexec_load 33 (.tmp 2) ?_ gp ?_ 33 #[.int .i64 p.a0, .int .i64 p.a1, .int .i64 p.k0.kind, .int .i64 p.k0.len, .int .u64 p.k0.h, .int .u64 p.k0.l, .string ⟨p.k0.path.toArray⟩, .int .i64 p.k1.kind, .int .i64 p.k1.len, .int .u64 p.k1.h, .int .u64 p.k1.l, .string ⟨p.k1.path.toArray⟩] _ Qp Try.underlying33 ?_ ?_) <;> first | rfl | exact infoPx)
      (try simp only [Act.put, nz1, nz2, nz3])
      refine tk 3 ⟨some 20, .load 26 (.tmp 1), 26, _, _, _⟩ hHeld ?_ (v := ?vr2_3_3) (hy := ?yr2_3_3)
      case yr2_3_3 => (intro wy hSw; obtain ⟨Qs, Qp⟩ := hSw; (with_reducible refine pexec_load 26 (.tmp 1) ?_ w.heap.size ?_ 26 #[.int .i64 2, .int .i64 1, .int .i64 1, .int .i64 16, .int .i64 1, .int .i64 2, .int .i64 16] _ Qs Try.underlying26 ?_ ?_) <;> first | rfl | exact infoSp)
      (try simp only [Act.put, nz1, nz2, nz3])
      refine tk 4 ⟨some 21, .load 33 (.tmp 2), 33, _, _, _⟩ hHeld ?_ (v := ?vr2_4_4) (hy := ?yr2_4_4)
      case yr2_4_4 => (intro wy hSw; obtain ⟨Qs, Qp⟩ := hSw; (with_reducible refine pexec_load 33 (.tmp 2) ?_ gp ?_ 33 #[.int .i64 p.a0, .int .i64 p.a1, .int .i64 p.k0.kind, .int .i64 p.k0.len, .int .u64 p.k0.h, .int .u64 p.k0.l, .string ⟨p.k0.path.toArray⟩, .int .i64 p.k1.kind, .int .i64 p.k1.len, .int .u64 p.k1.h, .int .u64 p.k1.l, .string ⟨p.k1.path.toArray⟩] _ Qp Try.underlying33 ?_ ?_) <;> first | rfl | exact infoPx)
      (try simp only [Act.put, nz1, nz2, nz3])
      refine wpAnyH_ready (rs := [2]) (by kernel_rfl) (by simp) ?_
      refine AllReadyH.cons (o := ⟨some 19, .call { callee := .value (.func 47), args := #[.tmp 17, .tmp 18], argTypes := #[26, 33] }, 60, _, _, _⟩) rfl (fun K hK => ?_) AllReadyH.nil
      (go_simp; (refine (HA _).mono ?_); (rintro e wz ⟨pa, ca, rfl, XA, hb⟩); (try replace XP := XP.later hb); (replace Rs := Rs.later hb); (replace Rp := Rp.later hb); (replace hb0 := below_step hb0 hb); go_wp2_with fail)
      refine hK.out _ _ ?hSr2_5_2 (fun hHeld2 => ?_)
      case hSr2_5_2 => (obtain ⟨Qs, Qp⟩ := hHeld; exact ⟨Qs.later hb, Qp.later hb⟩)
      clear hK K hHeld
      have hHeld := hHeld2
      clear hHeld2
      rename World => wq
      (try simp only [Act.put, nz1, nz2, nz3])
      refine wpAnyH_ready (rs := [5]) (by kernel_rfl) (by simp) ?_
      refine AllReadyH.cons (o := ⟨some 22, .call { callee := .value (.func 49), args := #[.tmp 20, .tmp 21], argTypes := #[26, 33] }, 60, _, _, _⟩) rfl (fun K hK => ?_) AllReadyH.nil
      (go_simp; (refine (HP _).mono ?_); (rintro e wz ⟨pb, cb, rfl, XP, hb⟩); (try replace XA := XA.later hb); (replace Rs := Rs.later hb); (replace Rp := Rp.later hb); (replace hb0 := below_step hb0 hb); go_wp2_with fail)
      refine hK.out _ _ ?hSr2_6_5 (fun hHeld2 => ?_)
      case hSr2_6_5 => (obtain ⟨Qs, Qp⟩ := hHeld; exact ⟨Qs.later hb, Qp.later hb⟩)
      clear hK K hHeld
      have hHeld := hHeld2
      clear hHeld2
      rename World => wq
      (try simp only [Act.put, nz1, nz2, nz3])
      refine tk 6 ⟨some 4, .assign (.tmp 19), 60, _, _, _⟩ hHeld ?_
      (try simp only [Act.put, nz1, nz2, nz3])
      refine tk 7 ⟨some 5, .assign (.tmp 22), 60, _, _, _⟩ hHeld ?_
      (try simp only [Act.put, nz1, nz2, nz3])
      refine wpAnyH_done (by kernel_rfl) ?_ _
      (go_wp2_with fail; go_meet; exact ⟨_, _, _, _, rfl, rfl, XA, XP, Rs, Rp, hb0⟩)
    case rest =>
      clear s0 s1 s2 s3 s4 s5 s6 p0 p1 p2 p3 p4 p5 p6 p7 p8 p9 p10 p11 Rs Rp hb0
      obtain ⟨pa, ca, pb, cb, rfl, rfl, XA, XP, Rs, Rp, hb0⟩ := hcut
      rename World => wK
      obtain ⟨h9, h2⟩ := HAT.out.1
      obtain ⟨zat, tat⟩ := HAT.out.2
      obtain ⟨_, _, ez, _, hz⟩ := xs_read XA
      obtain ⟨_, _, et, _, ht⟩ := xs_read XP
      rw [h9] at ez
      rw [h2] at et
      cases ez
      cases et
      obtain ⟨zg, zo, rfl, zlt, zcell⟩ := hz (by omega)
      obtain ⟨tg, tto, rfl, tlt, tcell⟩ := ht (by omega)
      have z0 : wK.cell? ⟨zg, zo + 96, none⟩ = some (Value.int .i64 t.a0) := by have h := zcell 8 _ zat 0 _ rfl; rw [show zo + (8 * 12 + 0) = zo + 96 by omega] at h; exact h
      have z1 : wK.cell? ⟨zg, zo + 96 + 1, none⟩ = some (Value.int .i64 t.a1) := by have h := zcell 8 _ zat 1 _ rfl; rw [show zo + (8 * 12 + 1) = zo + 96 + 1 by omega] at h; exact h
      have z2 : wK.cell? ⟨zg, zo + 96 + 2, none⟩ = some (Value.int .i64 t.k0.kind) := by have h := zcell 8 _ zat 2 _ rfl; rw [show zo + (8 * 12 + 2) = zo + 96 + 2 by omega] at h; exact h
      have z3 : wK.cell? ⟨zg, zo + 96 + 3, none⟩ = some (Value.int .i64 t.k0.len) := by have h := zcell 8 _ zat 3 _ rfl; rw [show zo + (8 * 12 + 3) = zo + 96 + 3 by omega] at h; exact h
      have z4 : wK.cell? ⟨zg, zo + 96 + 4, none⟩ = some (Value.int .u64 t.k0.h) := by have h := zcell 8 _ zat 4 _ rfl; rw [show zo + (8 * 12 + 4) = zo + 96 + 4 by omega] at h; exact h
      have z5 : wK.cell? ⟨zg, zo + 96 + 5, none⟩ = some (Value.int .u64 t.k0.l) := by have h := zcell 8 _ zat 5 _ rfl; rw [show zo + (8 * 12 + 5) = zo + 96 + 5 by omega] at h; exact h
      have z6 : wK.cell? ⟨zg, zo + 96 + 6, none⟩ = some (Value.string ⟨t.k0.path.toArray⟩) := by have h := zcell 8 _ zat 6 _ rfl; rw [show zo + (8 * 12 + 6) = zo + 96 + 6 by omega] at h; exact h
      have z7 : wK.cell? ⟨zg, zo + 96 + 7, none⟩ = some (Value.int .i64 t.k1.kind) := by have h := zcell 8 _ zat 7 _ rfl; rw [show zo + (8 * 12 + 7) = zo + 96 + 7 by omega] at h; exact h
      have z8 : wK.cell? ⟨zg, zo + 96 + 8, none⟩ = some (Value.int .i64 t.k1.len) := by have h := zcell 8 _ zat 8 _ rfl; rw [show zo + (8 * 12 + 8) = zo + 96 + 8 by omega] at h; exact h
      have z9 : wK.cell? ⟨zg, zo + 96 + 9, none⟩ = some (Value.int .u64 t.k1.h) := by have h := zcell 8 _ zat 9 _ rfl; rw [show zo + (8 * 12 + 9) = zo + 96 + 9 by omega] at h; exact h
      have z10 : wK.cell? ⟨zg, zo + 96 + 10, none⟩ = some (Value.int .u64 t.k1.l) := by have h := zcell 8 _ zat 10 _ rfl; rw [show zo + (8 * 12 + 10) = zo + 96 + 10 by omega] at h; exact h
      have z11 : wK.cell? ⟨zg, zo + 96 + 11, none⟩ = some (Value.string ⟨t.k1.path.toArray⟩) := by have h := zcell 8 _ zat 11 _ rfl; rw [show zo + (8 * 12 + 11) = zo + 96 + 11 by omega] at h; exact h
      have t0 : wK.cell? ⟨tg, tto, none⟩ = some (Value.int .i64 u.a0) := by have h := tcell 0 _ tat 0 _ rfl; rw [show tto + (0 * 12 + 0) = tto by omega] at h; exact h
      have t1 : wK.cell? ⟨tg, tto + 1, none⟩ = some (Value.int .i64 u.a1) := by have h := tcell 0 _ tat 1 _ rfl; rw [show tto + (0 * 12 + 1) = tto + 1 by omega] at h; exact h
      have t2 : wK.cell? ⟨tg, tto + 2, none⟩ = some (Value.int .i64 u.k0.kind) := by have h := tcell 0 _ tat 2 _ rfl; rw [show tto + (0 * 12 + 2) = tto + 2 by omega] at h; exact h
      have t3 : wK.cell? ⟨tg, tto + 3, none⟩ = some (Value.int .i64 u.k0.len) := by have h := tcell 0 _ tat 3 _ rfl; rw [show tto + (0 * 12 + 3) = tto + 3 by omega] at h; exact h
      have t4 : wK.cell? ⟨tg, tto + 4, none⟩ = some (Value.int .u64 u.k0.h) := by have h := tcell 0 _ tat 4 _ rfl; rw [show tto + (0 * 12 + 4) = tto + 4 by omega] at h; exact h
      have t5 : wK.cell? ⟨tg, tto + 5, none⟩ = some (Value.int .u64 u.k0.l) := by have h := tcell 0 _ tat 5 _ rfl; rw [show tto + (0 * 12 + 5) = tto + 5 by omega] at h; exact h
      have t6 : wK.cell? ⟨tg, tto + 6, none⟩ = some (Value.string ⟨u.k0.path.toArray⟩) := by have h := tcell 0 _ tat 6 _ rfl; rw [show tto + (0 * 12 + 6) = tto + 6 by omega] at h; exact h
      have t7 : wK.cell? ⟨tg, tto + 7, none⟩ = some (Value.int .i64 u.k1.kind) := by have h := tcell 0 _ tat 7 _ rfl; rw [show tto + (0 * 12 + 7) = tto + 7 by omega] at h; exact h
      have t8 : wK.cell? ⟨tg, tto + 8, none⟩ = some (Value.int .i64 u.k1.len) := by have h := tcell 0 _ tat 8 _ rfl; rw [show tto + (0 * 12 + 8) = tto + 8 by omega] at h; exact h
      have t9 : wK.cell? ⟨tg, tto + 9, none⟩ = some (Value.int .u64 u.k1.h) := by have h := tcell 0 _ tat 9 _ rfl; rw [show tto + (0 * 12 + 9) = tto + 9 by omega] at h; exact h
      have t10 : wK.cell? ⟨tg, tto + 10, none⟩ = some (Value.int .u64 u.k1.l) := by have h := tcell 0 _ tat 10 _ rfl; rw [show tto + (0 * 12 + 10) = tto + 10 by omega] at h; exact h
      have t11 : wK.cell? ⟨tg, tto + 11, none⟩ = some (Value.string ⟨u.k1.path.toArray⟩) := by have h := tcell 0 _ tat 11 _ rfl; rw [show tto + (0 * 12 + 11) = tto + 11 by omega] at h; exact h
      clear zcell tcell hz ht zat tat XA XP HAT h9 h2
      (try clear s0 s1 s2 s3 s4 s5 s6); obtain ⟨s0, s1, s2, s3, s4, s5, s6⟩ := row7 Rs
      (try clear p0 p1 p2 p3 p4 p5 p6 p7 p8 p9 p10 p11); obtain ⟨p0, p1, p2, p3, p4, p5, p6, p7, p8, p9, p10, p11⟩ := row12 Rp
      have ls := Rs.lt
      have lp' := Rp.lt
      go_wp2_with fail
      refine wp_region_held_drew (S := (fun w' => w'.cell? ⟨zg, zo + 96, none⟩ = some (Value.int .i64 t.a0) ∧ w'.cell? ⟨zg, zo + 96 + 1, none⟩ = some (Value.int .i64 t.a1) ∧ w'.cell? ⟨zg, zo + 96 + 2, none⟩ = some (Value.int .i64 t.k0.kind) ∧ w'.cell? ⟨zg, zo + 96 + 3, none⟩ = some (Value.int .i64 t.k0.len) ∧ w'.cell? ⟨zg, zo + 96 + 4, none⟩ = some (Value.int .u64 t.k0.h) ∧ w'.cell? ⟨zg, zo + 96 + 5, none⟩ = some (Value.int .u64 t.k0.l) ∧ w'.cell? ⟨zg, zo + 96 + 6, none⟩ = some (Value.string ⟨t.k0.path.toArray⟩) ∧ w'.cell? ⟨zg, zo + 96 + 7, none⟩ = some (Value.int .i64 t.k1.kind) ∧ w'.cell? ⟨zg, zo + 96 + 8, none⟩ = some (Value.int .i64 t.k1.len) ∧ w'.cell? ⟨zg, zo + 96 + 9, none⟩ = some (Value.int .u64 t.k1.h) ∧ w'.cell? ⟨zg, zo + 96 + 10, none⟩ = some (Value.int .u64 t.k1.l) ∧ w'.cell? ⟨zg, zo + 96 + 11, none⟩ = some (Value.string ⟨t.k1.path.toArray⟩) ∧ w'.cell? ⟨tg, tto, none⟩ = some (Value.int .i64 u.a0) ∧ w'.cell? ⟨tg, tto + 1, none⟩ = some (Value.int .i64 u.a1) ∧ w'.cell? ⟨tg, tto + 2, none⟩ = some (Value.int .i64 u.k0.kind) ∧ w'.cell? ⟨tg, tto + 3, none⟩ = some (Value.int .i64 u.k0.len) ∧ w'.cell? ⟨tg, tto + 4, none⟩ = some (Value.int .u64 u.k0.h) ∧ w'.cell? ⟨tg, tto + 5, none⟩ = some (Value.int .u64 u.k0.l) ∧ w'.cell? ⟨tg, tto + 6, none⟩ = some (Value.string ⟨u.k0.path.toArray⟩) ∧ w'.cell? ⟨tg, tto + 7, none⟩ = some (Value.int .i64 u.k1.kind) ∧ w'.cell? ⟨tg, tto + 8, none⟩ = some (Value.int .i64 u.k1.len) ∧ w'.cell? ⟨tg, tto + 9, none⟩ = some (Value.int .u64 u.k1.h) ∧ w'.cell? ⟨tg, tto + 10, none⟩ = some (Value.int .u64 u.k1.l) ∧ w'.cell? ⟨tg, tto + 11, none⟩ = some (Value.string ⟨u.k1.path.toArray⟩) ∧ Row w' w.heap.size #[.int .i64 2, .int .i64 1, .int .i64 1, .int .i64 16, .int .i64 1, .int .i64 2, .int .i64 16] 26 ∧ Row w' gp #[.int .i64 p.a0, .int .i64 p.a1, .int .i64 p.k0.kind, .int .i64 p.k0.len, .int .u64 p.k0.h, .int .u64 p.k0.l, .string ⟨p.k0.path.toArray⟩, .int .i64 p.k1.kind, .int .i64 p.k1.len, .int .u64 p.k1.h, .int .u64 p.k1.l, .string ⟨p.k1.path.toArray⟩] 33)) (by kernel_rfl) ?hSr3_ (fun hHeld => ?_)
      case hSr3_ => (exact ⟨z0, z1, z2, z3, z4, z5, z6, z7, z8, z9, z10, z11, t0, t1, t2, t3, t4, t5, t6, t7, t8, t9, t10, t11, Rs.drew, Rp.drew⟩)
      (clear s0 s1 s2 s3 s4 s5 s6 p0 p1 p2 p3 p4 p5 p6 p7 p8 p9 p10 p11; (replace Rs := Rs.drew); (replace Rp := Rp.drew); (replace hb0 := hb0.drew); (generalize World.drew wK = wq at *))
      refine tkL 0 ⟨some 23, .move (.tmp 3), 4, _, _, _⟩ hHeld ?_
      (try simp only [Act.put, nz1, nz2, nz3])
      refine tkL 1 ⟨some 24, .move (.tmp 23), 4, _, _, _⟩ hHeld ?_
      (try simp only [Act.put, nz1, nz2, nz3])
      refine tkL 2 ⟨some 25, .load 26 (.tmp 1), 26, _, _, _⟩ hHeld ?_ (v := ?vr3_3_2) (hy := ?yr3_3_2)
      case yr3_3_2 => (intro wy hSw; obtain ⟨z0, z1, z2, z3, z4, z5, z6, z7, z8, z9, z10, z11, t0, t1, t2, t3, t4, t5, t6, t7, t8, t9, t10, t11, Qs, Qp⟩ := hSw; (with_reducible refine pexec_load 26 (.tmp 1) ?_ w.heap.size ?_ 26 #[.int .i64 2, .int .i64 1, .int .i64 1, .int .i64 16, .int .i64 1, .int .i64 2, .int .i64 16] _ Qs Try.underlying26 ?_ ?_) <;> first | rfl | exact infoSp)
      (try simp only [Act.put, nz1, nz2, nz3])
      refine wpAnyH_ready (rs := [3]) (by as_aux_lemma => kernel_rfl) (by simp) ?_
      refine AllReadyH.cons (o := ⟨some 26, .call { callee := .value (.func 35), args := #[.tmp 25], argTypes := #[26] }, 3, _, _, _⟩) rfl (fun K hK => ?_) AllReadyH.nil
      (go_simp; (refine (HC _).mono ?_); (rintro e wz ⟨rfl, hb⟩); (replace Rs := Rs.later hb); (replace Rp := Rp.later hb); (replace hb0 := below_step hb0 hb); go_wp2_with fail)
      refine hK.out _ _ ?hSr3_4_3 (fun hHeld2 => ?_)
      case hSr3_4_3 => (obtain ⟨z0, z1, z2, z3, z4, z5, z6, z7, z8, z9, z10, z11, t0, t1, t2, t3, t4, t5, t6, t7, t8, t9, t10, t11, Qs, Qp⟩ := hHeld; exact ⟨cell_later hb z0, cell_later hb z1, cell_later hb z2, cell_later hb z3, cell_later hb z4, cell_later hb z5, cell_later hb z6, cell_later hb z7, cell_later hb z8, cell_later hb z9, cell_later hb z10, cell_later hb z11, cell_later hb t0, cell_later hb t1, cell_later hb t2, cell_later hb t3, cell_later hb t4, cell_later hb t5, cell_later hb t6, cell_later hb t7, cell_later hb t8, cell_later hb t9, cell_later hb t10, cell_later hb t11, Qs.later hb, Qp.later hb⟩)
      clear hK K hHeld
      have hHeld := hHeld2
      clear hHeld2
      rename World => wq
      (try simp only [Act.put, nz1, nz2, nz3])
      refine tkL 4 ⟨some 27, .binOp .eql 3 (.tmp 26) (.const (.int .i64 9)) 3, 4, _, _, _⟩ hHeld ?_
      (try simp only [Act.put, nz1, nz2, nz3])
      refine tkL 5 ⟨some 28, .pick (.tmp 24) (.tmp 27) (.const (.bool false)), 4, _, _, _⟩ hHeld ?_
      (try simp only [Act.put, nz1, nz2, nz3])
      refine tkL 6 ⟨some 29, .move (.tmp 28), 4, _, _, _⟩ hHeld ?_
      (try simp only [Act.put, nz1, nz2, nz3])
      refine tkL 7 ⟨some 30, .load 26 (.tmp 1), 26, _, _, _⟩ hHeld ?_ (v := ?vr3_8_7) (hy := ?yr3_8_7)
      case yr3_8_7 => (intro wy hSw; obtain ⟨z0, z1, z2, z3, z4, z5, z6, z7, z8, z9, z10, z11, t0, t1, t2, t3, t4, t5, t6, t7, t8, t9, t10, t11, Qs, Qp⟩ := hSw; (with_reducible refine pexec_load 26 (.tmp 1) ?_ w.heap.size ?_ 26 #[.int .i64 2, .int .i64 1, .int .i64 1, .int .i64 16, .int .i64 1, .int .i64 2, .int .i64 16] _ Qs Try.underlying26 ?_ ?_) <;> first | rfl | exact infoSp)
      (try simp only [Act.put, nz1, nz2, nz3])
      refine tkL 8 ⟨some 31, .build 27 #[(0, .const (.int .i64 1)), (1, .const (.int .i64 1))], 27, _, _, _⟩ hHeld ?_
      (try simp only [Act.put, nz1, nz2, nz3])
      refine wpAnyH_ready (rs := [9]) (by as_aux_lemma => kernel_rfl) (by simp) ?_
      refine AllReadyH.cons (o := ⟨some 32, .call { callee := .value (.func 43), args := #[.tmp 30, .tmp 31], argTypes := #[26, 27] }, 3, _, _, _⟩) rfl (fun K hK => ?_) AllReadyH.nil
      (go_simp; (refine (HB _).mono ?_); (rintro e wz ⟨rfl, hb⟩); (replace Rs := Rs.later hb); (replace Rp := Rp.later hb); (replace hb0 := below_step hb0 hb); go_wp2_with fail)
      refine hK.out _ _ ?hSr3_10_9 (fun hHeld2 => ?_)
      case hSr3_10_9 => (obtain ⟨z0, z1, z2, z3, z4, z5, z6, z7, z8, z9, z10, z11, t0, t1, t2, t3, t4, t5, t6, t7, t8, t9, t10, t11, Qs, Qp⟩ := hHeld; exact ⟨cell_later hb z0, cell_later hb z1, cell_later hb z2, cell_later hb z3, cell_later hb z4, cell_later hb z5, cell_later hb z6, cell_later hb z7, cell_later hb z8, cell_later hb z9, cell_later hb z10, cell_later hb z11, cell_later hb t0, cell_later hb t1, cell_later hb t2, cell_later hb t3, cell_later hb t4, cell_later hb t5, cell_later hb t6, cell_later hb t7, cell_later hb t8, cell_later hb t9, cell_later hb t10, cell_later hb t11, Qs.later hb, Qp.later hb⟩)
      clear hK K hHeld
      have hHeld := hHeld2
      clear hHeld2
      rename World => wq
      (try simp only [Act.put, nz1, nz2, nz3])
      refine tkL 10 ⟨some 33, .binOp .eql 3 (.tmp 32) (.const (.int .i64 4)) 3, 4, _, _, _⟩ hHeld ?_
      (try simp only [Act.put, nz1, nz2, nz3])
      refine tkL 11 ⟨some 34, .pick (.tmp 29) (.tmp 33) (.const (.bool false)), 4, _, _, _⟩ hHeld ?_
      (try simp only [Act.put, nz1, nz2, nz3])
      refine tkL 12 ⟨some 35, .move (.tmp 34), 4, _, _, _⟩ hHeld ?_
      (try simp only [Act.put, nz1, nz2, nz3])
      refine tkL 13 ⟨some 36, .load 26 (.tmp 1), 26, _, _, _⟩ hHeld ?_ (v := ?vr3_14_13) (hy := ?yr3_14_13)
      case yr3_14_13 => (intro wy hSw; obtain ⟨z0, z1, z2, z3, z4, z5, z6, z7, z8, z9, z10, z11, t0, t1, t2, t3, t4, t5, t6, t7, t8, t9, t10, t11, Qs, Qp⟩ := hSw; (with_reducible refine pexec_load 26 (.tmp 1) ?_ w.heap.size ?_ 26 #[.int .i64 2, .int .i64 1, .int .i64 1, .int .i64 16, .int .i64 1, .int .i64 2, .int .i64 16] _ Qs Try.underlying26 ?_ ?_) <;> first | rfl | exact infoSp)
      (try simp only [Act.put, nz1, nz2, nz3])
      refine wpAnyH_ready (rs := [14]) (by as_aux_lemma => kernel_rfl) (by simp) ?_
      refine AllReadyH.cons (o := ⟨some 37, .call { callee := .value (.func 39), args := #[.tmp 36], argTypes := #[26] }, 3, _, _, _⟩) rfl (fun K hK => ?_) AllReadyH.nil
      (go_simp; (refine (HD _).mono ?_); (rintro e wz ⟨rfl, hb⟩); (replace Rs := Rs.later hb); (replace Rp := Rp.later hb); (replace hb0 := below_step hb0 hb); go_wp2_with fail)
      refine hK.out _ _ ?hSr3_15_14 (fun hHeld2 => ?_)
      case hSr3_15_14 => (obtain ⟨z0, z1, z2, z3, z4, z5, z6, z7, z8, z9, z10, z11, t0, t1, t2, t3, t4, t5, t6, t7, t8, t9, t10, t11, Qs, Qp⟩ := hHeld; exact ⟨cell_later hb z0, cell_later hb z1, cell_later hb z2, cell_later hb z3, cell_later hb z4, cell_later hb z5, cell_later hb z6, cell_later hb z7, cell_later hb z8, cell_later hb z9, cell_later hb z10, cell_later hb z11, cell_later hb t0, cell_later hb t1, cell_later hb t2, cell_later hb t3, cell_later hb t4, cell_later hb t5, cell_later hb t6, cell_later hb t7, cell_later hb t8, cell_later hb t9, cell_later hb t10, cell_later hb t11, Qs.later hb, Qp.later hb⟩)
      clear hK K hHeld
      have hHeld := hHeld2
      clear hHeld2
      rename World => wq
      (try simp only [Act.put, nz1, nz2, nz3])
      refine tkL 15 ⟨some 38, .binOp .eql 3 (.tmp 37) (.const (.int .i64 4)) 3, 4, _, _, _⟩ hHeld ?_
      (try simp only [Act.put, nz1, nz2, nz3])
      refine tkL 16 ⟨some 39, .pick (.tmp 35) (.tmp 38) (.const (.bool false)), 4, _, _, _⟩ hHeld ?_
      (try simp only [Act.put, nz1, nz2, nz3])
      refine tkL 17 ⟨some 40, .move (.tmp 39), 4, _, _, _⟩ hHeld ?_
      (try simp only [Act.put, nz1, nz2, nz3])
      refine tkL 18 ⟨some 41, .load 26 (.tmp 1), 26, _, _, _⟩ hHeld ?_ (v := ?vr3_19_18) (hy := ?yr3_19_18)
      case yr3_19_18 => (intro wy hSw; obtain ⟨z0, z1, z2, z3, z4, z5, z6, z7, z8, z9, z10, z11, t0, t1, t2, t3, t4, t5, t6, t7, t8, t9, t10, t11, Qs, Qp⟩ := hSw; (with_reducible refine pexec_load 26 (.tmp 1) ?_ w.heap.size ?_ 26 #[.int .i64 2, .int .i64 1, .int .i64 1, .int .i64 16, .int .i64 1, .int .i64 2, .int .i64 16] _ Qs Try.underlying26 ?_ ?_) <;> first | rfl | exact infoSp)
      (try simp only [Act.put, nz1, nz2, nz3])
      refine wpAnyH_ready (rs := [19]) (by as_aux_lemma => kernel_rfl) (by simp) ?_
      refine AllReadyH.cons (o := ⟨some 42, .call { callee := .value (.func 41), args := #[.tmp 41, .const (.int .i64 1)], argTypes := #[26, 3] }, 49, _, _, _⟩) rfl (fun K hK => ?_) AllReadyH.nil
      (go_simp; (refine (HO _).mono ?_); (rintro e wz ⟨pc, cc, rfl, hb⟩); (replace Rs := Rs.later hb); (replace Rp := Rp.later hb); (replace hb0 := below_step hb0 hb); go_wp2_with fail)
      refine hK.out _ _ ?hSr3_20_19 (fun hHeld2 => ?_)
      case hSr3_20_19 => (obtain ⟨z0, z1, z2, z3, z4, z5, z6, z7, z8, z9, z10, z11, t0, t1, t2, t3, t4, t5, t6, t7, t8, t9, t10, t11, Qs, Qp⟩ := hHeld; exact ⟨cell_later hb z0, cell_later hb z1, cell_later hb z2, cell_later hb z3, cell_later hb z4, cell_later hb z5, cell_later hb z6, cell_later hb z7, cell_later hb z8, cell_later hb z9, cell_later hb z10, cell_later hb z11, cell_later hb t0, cell_later hb t1, cell_later hb t2, cell_later hb t3, cell_later hb t4, cell_later hb t5, cell_later hb t6, cell_later hb t7, cell_later hb t8, cell_later hb t9, cell_later hb t10, cell_later hb t11, Qs.later hb, Qp.later hb⟩)
      clear hK K hHeld
      have hHeld := hHeld2
      clear hHeld2
      rename World => wq
      (try simp only [Act.put, nz1, nz2, nz3])
      refine tkL 20 ⟨some 43, .call { callee := .builtin .len, args := #[.tmp 42], argTypes := #[49] }, 3, _, _, _⟩ hHeld ?_
      (try simp only [Act.put, nz1, nz2, nz3])
      refine tkL 21 ⟨some 44, .binOp .eql 3 (.tmp 43) (.const (.int .i64 2)) 3, 4, _, _, _⟩ hHeld ?_
      (try simp only [Act.put, nz1, nz2, nz3])
      refine tkL 22 ⟨some 45, .pick (.tmp 40) (.tmp 44) (.const (.bool false)), 4, _, _, _⟩ hHeld ?_
      (try simp only [Act.put, nz1, nz2, nz3])
      refine tkL 23 ⟨some 46, .move (.tmp 45), 4, _, _, _⟩ hHeld ?_
      (try simp only [Act.put, nz1, nz2, nz3])
      refine tkL 24 ⟨some 47, .load 26 (.tmp 1), 26, _, _, _⟩ hHeld ?_ (v := ?vr3_25_24) (hy := ?yr3_25_24)
      case yr3_25_24 => (intro wy hSw; obtain ⟨z0, z1, z2, z3, z4, z5, z6, z7, z8, z9, z10, z11, t0, t1, t2, t3, t4, t5, t6, t7, t8, t9, t10, t11, Qs, Qp⟩ := hSw; (with_reducible refine pexec_load 26 (.tmp 1) ?_ w.heap.size ?_ 26 #[.int .i64 2, .int .i64 1, .int .i64 1, .int .i64 16, .int .i64 1, .int .i64 2, .int .i64 16] _ Qs Try.underlying26 ?_ ?_) <;> first | rfl | exact infoSp)
      (try simp only [Act.put, nz1, nz2, nz3])
      refine wpAnyH_ready (rs := [25]) (by as_aux_lemma => kernel_rfl) (by simp) ?_
      refine AllReadyH.cons (o := ⟨some 48, .call { callee := .value (.func 38), args := #[.tmp 47], argTypes := #[26] }, 49, _, _, _⟩) rfl (fun K hK => ?_) AllReadyH.nil
      (go_simp; (refine (HN _).mono ?_); (rintro e wz ⟨pd, cd, rfl, hb⟩); (replace Rs := Rs.later hb); (replace Rp := Rp.later hb); (replace hb0 := below_step hb0 hb); go_wp2_with fail)
      refine hK.out _ _ ?hSr3_26_25 (fun hHeld2 => ?_)
      case hSr3_26_25 => (obtain ⟨z0, z1, z2, z3, z4, z5, z6, z7, z8, z9, z10, z11, t0, t1, t2, t3, t4, t5, t6, t7, t8, t9, t10, t11, Qs, Qp⟩ := hHeld; exact ⟨cell_later hb z0, cell_later hb z1, cell_later hb z2, cell_later hb z3, cell_later hb z4, cell_later hb z5, cell_later hb z6, cell_later hb z7, cell_later hb z8, cell_later hb z9, cell_later hb z10, cell_later hb z11, cell_later hb t0, cell_later hb t1, cell_later hb t2, cell_later hb t3, cell_later hb t4, cell_later hb t5, cell_later hb t6, cell_later hb t7, cell_later hb t8, cell_later hb t9, cell_later hb t10, cell_later hb t11, Qs.later hb, Qp.later hb⟩)
      clear hK K hHeld
      have hHeld := hHeld2
      clear hHeld2
      rename World => wq
      (try simp only [Act.put, nz1, nz2, nz3])
      refine tkL 26 ⟨some 49, .call { callee := .builtin .len, args := #[.tmp 48], argTypes := #[49] }, 3, _, _, _⟩ hHeld ?_
      (try simp only [Act.put, nz1, nz2, nz3])
      refine tkL 27 ⟨some 50, .binOp .eql 3 (.tmp 49) (.const (.int .i64 9)) 3, 4, _, _, _⟩ hHeld ?_
      (try simp only [Act.put, nz1, nz2, nz3])
      refine tkL 28 ⟨some 51, .pick (.tmp 46) (.tmp 50) (.const (.bool false)), 4, _, _, _⟩ hHeld ?_
      (try simp only [Act.put, nz1, nz2, nz3])
      refine tkL 29 ⟨some 52, .move (.tmp 51), 4, _, _, _⟩ hHeld ?_
      (try simp only [Act.put, nz1, nz2, nz3])
      refine tkL 30 ⟨some 53, .move (.tmp 4), 60, _, _, _⟩ hHeld ?_
      (try simp only [Act.put, nz1, nz2, nz3])
      refine tkL 31 ⟨some 54, .call { callee := .builtin .len, args := #[.tmp 53], argTypes := #[60] }, 3, _, _, _⟩ hHeld ?_
      (try simp only [Act.put, nz1, nz2, nz3])
      refine tkL 32 ⟨some 55, .binOp .eql 3 (.tmp 54) (.const (.int .i64 9)) 3, 4, _, _, _⟩ hHeld ?_
      (try simp only [Act.put, nz1, nz2, nz3])
      refine tkL 33 ⟨some 56, .pick (.tmp 52) (.tmp 55) (.const (.bool false)), 4, _, _, _⟩ hHeld ?_
      (try simp only [Act.put, nz1, nz2, nz3])
      refine tkL 34 ⟨some 57, .move (.tmp 56), 4, _, _, _⟩ hHeld ?_
      (try simp only [Act.put, nz1, nz2, nz3])
      refine tkL 35 ⟨some 58, .move (.tmp 4), 60, _, _, _⟩ hHeld ?_
      (try simp only [Act.put, nz1, nz2, nz3])
      refine tkL 36 ⟨some 59, .indexAddr 60 (.tmp 58) (.const (.int .i64 8)), 0, _, _, _⟩ hHeld ?_
      (try simp only [Act.put, nz1, nz2, nz3])
      refine tkL 37 ⟨some 60, .load 33 (.tmp 59), 33, _, _, _⟩ hHeld ?_
      (try simp only [Act.put, nz1, nz2, nz3])
      refine tkL 38 ⟨some 61, .load 26 (.tmp 1), 26, _, _, _⟩ hHeld ?_ (v := ?vr3_39_38) (hy := ?yr3_39_38)
      case yr3_39_38 => (intro wy hSw; obtain ⟨z0, z1, z2, z3, z4, z5, z6, z7, z8, z9, z10, z11, t0, t1, t2, t3, t4, t5, t6, t7, t8, t9, t10, t11, Qs, Qp⟩ := hSw; (with_reducible refine pexec_load 26 (.tmp 1) ?_ w.heap.size ?_ 26 #[.int .i64 2, .int .i64 1, .int .i64 1, .int .i64 16, .int .i64 1, .int .i64 2, .int .i64 16] _ Qs Try.underlying26 ?_ ?_) <;> first | rfl | exact infoSp)
      (try simp only [Act.put, nz1, nz2, nz3])
      refine wpAnyH_ready (rs := [39]) (by as_aux_lemma => kernel_rfl) (by simp) ?_
      refine AllReadyH.cons (o := ⟨some 62, .call { callee := .value (.func 22), args := #[.tmp 61], argTypes := #[26] }, 33, _, _, _⟩) rfl (fun K hK => ?_) AllReadyH.nil
      (go_simp; (refine (HT _).mono ?_); (rintro e wz ⟨rfl, hb⟩); (replace Rs := Rs.later hb); (replace Rp := Rp.later hb); (replace hb0 := below_step hb0 hb); go_wp2_with fail)
      refine hK.out _ _ ?hSr3_40_39 (fun hHeld2 => ?_)
      case hSr3_40_39 => (obtain ⟨z0, z1, z2, z3, z4, z5, z6, z7, z8, z9, z10, z11, t0, t1, t2, t3, t4, t5, t6, t7, t8, t9, t10, t11, Qs, Qp⟩ := hHeld; exact ⟨cell_later hb z0, cell_later hb z1, cell_later hb z2, cell_later hb z3, cell_later hb z4, cell_later hb z5, cell_later hb z6, cell_later hb z7, cell_later hb z8, cell_later hb z9, cell_later hb z10, cell_later hb z11, cell_later hb t0, cell_later hb t1, cell_later hb t2, cell_later hb t3, cell_later hb t4, cell_later hb t5, cell_later hb t6, cell_later hb t7, cell_later hb t8, cell_later hb t9, cell_later hb t10, cell_later hb t11, Qs.later hb, Qp.later hb⟩)
      clear hK K hHeld
      have hHeld := hHeld2
      clear hHeld2
      rename World => wq
      (try simp only [Act.put, nz1, nz2, nz3])
      refine tkL 40 ⟨some 63, .binOp .eql 33 (.tmp 60) (.tmp 62) 33, 4, _, _, _⟩ hHeld ?_
      (try simp only [Act.put, nz1, nz2, nz3])
      refine tkL 41 ⟨some 64, .pick (.tmp 57) (.tmp 63) (.const (.bool false)), 4, _, _, _⟩ hHeld ?_
      (try simp only [Act.put, nz1, nz2, nz3])
      refine tkL 42 ⟨some 65, .move (.tmp 64), 4, _, _, _⟩ hHeld ?_
      (try simp only [Act.put, nz1, nz2, nz3])
      refine tkL 43 ⟨some 66, .move (.tmp 5), 60, _, _, _⟩ hHeld ?_
      (try simp only [Act.put, nz1, nz2, nz3])
      refine tkL 44 ⟨some 67, .call { callee := .builtin .len, args := #[.tmp 66], argTypes := #[60] }, 3, _, _, _⟩ hHeld ?_
      (try simp only [Act.put, nz1, nz2, nz3])
      refine tkL 45 ⟨some 68, .binOp .eql 3 (.tmp 67) (.const (.int .i64 2)) 3, 4, _, _, _⟩ hHeld ?_
      (try simp only [Act.put, nz1, nz2, nz3])
      refine tkL 46 ⟨some 69, .pick (.tmp 65) (.tmp 68) (.const (.bool false)), 4, _, _, _⟩ hHeld ?_
      (try simp only [Act.put, nz1, nz2, nz3])
      refine tkL 47 ⟨some 70, .move (.tmp 69), 4, _, _, _⟩ hHeld ?_
      (try simp only [Act.put, nz1, nz2, nz3])
      refine tkL 48 ⟨some 71, .move (.tmp 5), 60, _, _, _⟩ hHeld ?_
      (try simp only [Act.put, nz1, nz2, nz3])
      refine tkL 49 ⟨some 72, .indexAddr 60 (.tmp 71) (.const (.int .i64 0)), 0, _, _, _⟩ hHeld ?_
      (try simp only [Act.put, nz1, nz2, nz3])
      refine tkL 50 ⟨some 73, .load 33 (.tmp 72), 33, _, _, _⟩ hHeld ?_
      (try simp only [Act.put, nz1, nz2, nz3])
      refine tkL 51 ⟨some 74, .load 26 (.tmp 1), 26, _, _, _⟩ hHeld ?_ (v := ?vr3_52_51) (hy := ?yr3_52_51)
      case yr3_52_51 => (intro wy hSw; obtain ⟨z0, z1, z2, z3, z4, z5, z6, z7, z8, z9, z10, z11, t0, t1, t2, t3, t4, t5, t6, t7, t8, t9, t10, t11, Qs, Qp⟩ := hSw; (with_reducible refine pexec_load 26 (.tmp 1) ?_ w.heap.size ?_ 26 #[.int .i64 2, .int .i64 1, .int .i64 1, .int .i64 16, .int .i64 1, .int .i64 2, .int .i64 16] _ Qs Try.underlying26 ?_ ?_) <;> first | rfl | exact infoSp)
      (try simp only [Act.put, nz1, nz2, nz3])
      refine tkL 52 ⟨some 75, .load 33 (.tmp 2), 33, _, _, _⟩ hHeld ?_ (v := ?vr3_53_52) (hy := ?yr3_53_52)
      case yr3_53_52 => (intro wy hSw; obtain ⟨z0, z1, z2, z3, z4, z5, z6, z7, z8, z9, z10, z11, t0, t1, t2, t3, t4, t5, t6, t7, t8, t9, t10, t11, Qs, Qp⟩ := hSw; (with_reducible refine pexec_load 33 (.tmp 2) ?_ gp ?_ 33 #[.int .i64 p.a0, .int .i64 p.a1, .int .i64 p.k0.kind, .int .i64 p.k0.len, .int .u64 p.k0.h, .int .u64 p.k0.l, .string ⟨p.k0.path.toArray⟩, .int .i64 p.k1.kind, .int .i64 p.k1.len, .int .u64 p.k1.h, .int .u64 p.k1.l, .string ⟨p.k1.path.toArray⟩] _ Qp Try.underlying33 ?_ ?_) <;> first | rfl | exact infoPx)
      (try simp only [Act.put, nz1, nz2, nz3])
      refine tkL 53 ⟨some 76, .build 27 #[(0, .const (.int .i64 1)), (1, .const (.int .i64 0))], 27, _, _, _⟩ hHeld ?_
      (try simp only [Act.put, nz1, nz2, nz3])
      refine wpAnyH_ready (rs := [54]) (by as_aux_lemma => kernel_rfl) (by simp) ?_
      refine AllReadyH.cons (o := ⟨some 77, .call { callee := .value (.func 26), args := #[.tmp 74, .tmp 75, .tmp 76], argTypes := #[26, 33, 27] }, 33, _, _, _⟩) rfl (fun K hK => ?_) AllReadyH.nil
      (go_simp; (refine (HU _).mono ?_); (rintro e wz ⟨rfl, hb⟩); (replace Rs := Rs.later hb); (replace Rp := Rp.later hb); (replace hb0 := below_step hb0 hb); go_wp2_with fail)
      refine hK.out _ _ ?hSr3_55_54 (fun hHeld2 => ?_)
      case hSr3_55_54 => (obtain ⟨z0, z1, z2, z3, z4, z5, z6, z7, z8, z9, z10, z11, t0, t1, t2, t3, t4, t5, t6, t7, t8, t9, t10, t11, Qs, Qp⟩ := hHeld; exact ⟨cell_later hb z0, cell_later hb z1, cell_later hb z2, cell_later hb z3, cell_later hb z4, cell_later hb z5, cell_later hb z6, cell_later hb z7, cell_later hb z8, cell_later hb z9, cell_later hb z10, cell_later hb z11, cell_later hb t0, cell_later hb t1, cell_later hb t2, cell_later hb t3, cell_later hb t4, cell_later hb t5, cell_later hb t6, cell_later hb t7, cell_later hb t8, cell_later hb t9, cell_later hb t10, cell_later hb t11, Qs.later hb, Qp.later hb⟩)
      clear hK K hHeld
      have hHeld := hHeld2
      clear hHeld2
      rename World => wq
      (try simp only [Act.put, nz1, nz2, nz3])
      refine tkL 55 ⟨some 78, .binOp .eql 33 (.tmp 73) (.tmp 77) 33, 4, _, _, _⟩ hHeld ?_
      (try simp only [Act.put, nz1, nz2, nz3])
      refine tkL 56 ⟨some 79, .pick (.tmp 70) (.tmp 78) (.const (.bool false)), 4, _, _, _⟩ hHeld ?_
      (try simp only [Act.put, nz1, nz2, nz3])
      refine tkL 57 ⟨some 80, .move (.tmp 79), 4, _, _, _⟩ hHeld ?_
      (try simp only [Act.put, nz1, nz2, nz3])
      refine tkL 58 ⟨some 81, .load 26 (.tmp 1), 26, _, _, _⟩ hHeld ?_ (v := ?vr3_59_58) (hy := ?yr3_59_58)
      case yr3_59_58 => (intro wy hSw; obtain ⟨z0, z1, z2, z3, z4, z5, z6, z7, z8, z9, z10, z11, t0, t1, t2, t3, t4, t5, t6, t7, t8, t9, t10, t11, Qs, Qp⟩ := hSw; (with_reducible refine pexec_load 26 (.tmp 1) ?_ w.heap.size ?_ 26 #[.int .i64 2, .int .i64 1, .int .i64 1, .int .i64 16, .int .i64 1, .int .i64 2, .int .i64 16] _ Qs Try.underlying26 ?_ ?_) <;> first | rfl | exact infoSp)
      (try simp only [Act.put, nz1, nz2, nz3])
      refine tkL 59 ⟨some 82, .build 27 #[(0, .const (.int .i64 3)), (1, .const (.int .i64 0))], 27, _, _, _⟩ hHeld ?_
      (try simp only [Act.put, nz1, nz2, nz3])
      refine wpAnyH_ready (rs := [60]) (by as_aux_lemma => kernel_rfl) (by simp) ?_
      refine AllReadyH.cons (o := ⟨some 83, .call { callee := .value (.func 43), args := #[.tmp 81, .tmp 82], argTypes := #[26, 27] }, 3, _, _, _⟩) rfl (fun K hK => ?_) AllReadyH.nil
      (go_simp; (refine (HE _).mono ?_); (rintro e wz ⟨rfl, hb⟩); (replace Rs := Rs.later hb); (replace Rp := Rp.later hb); (replace hb0 := below_step hb0 hb); go_wp2_with fail)
      refine hK.out _ _ ?hSr3_61_60 (fun hHeld2 => ?_)
      case hSr3_61_60 => (obtain ⟨z0, z1, z2, z3, z4, z5, z6, z7, z8, z9, z10, z11, t0, t1, t2, t3, t4, t5, t6, t7, t8, t9, t10, t11, Qs, Qp⟩ := hHeld; exact ⟨cell_later hb z0, cell_later hb z1, cell_later hb z2, cell_later hb z3, cell_later hb z4, cell_later hb z5, cell_later hb z6, cell_later hb z7, cell_later hb z8, cell_later hb z9, cell_later hb z10, cell_later hb z11, cell_later hb t0, cell_later hb t1, cell_later hb t2, cell_later hb t3, cell_later hb t4, cell_later hb t5, cell_later hb t6, cell_later hb t7, cell_later hb t8, cell_later hb t9, cell_later hb t10, cell_later hb t11, Qs.later hb, Qp.later hb⟩)
      clear hK K hHeld
      have hHeld := hHeld2
      clear hHeld2
      rename World => wq
      (try simp only [Act.put, nz1, nz2, nz3])
      refine tkL 61 ⟨some 84, .binOp .eql 3 (.tmp 83) (.const (.int .i64 (-1))) 3, 4, _, _, _⟩ hHeld ?_
      (try simp only [Act.put, nz1, nz2, nz3])
      refine tkL 62 ⟨some 85, .pick (.tmp 80) (.tmp 84) (.const (.bool false)), 4, _, _, _⟩ hHeld ?_
      (try simp only [Act.put, nz1, nz2, nz3])
      refine tkL 63 ⟨some 0, .assign (.tmp 85), 4, _, _, _⟩ hHeld ?_
      (try simp only [Act.put, nz1, nz2, nz3])
      refine wpAnyH_done (by as_aux_lemma => kernel_rfl) ?_ _
      clear hHeld
      rename World => w3
      have ls := Rs.lt
      have lp := Rp.lt
      (try clear s0 s1 s2 s3 s4 s5 s6); obtain ⟨s0, s1, s2, s3, s4, s5, s6⟩ := row7 Rs
      (try clear p0 p1 p2 p3 p4 p5 p6 p7 p8 p9 p10 p11); obtain ⟨p0, p1, p2, p3, p4, p5, p6, p7, p8, p9, p10, p11⟩ := row12 Rp
      go_wp2
      go_ret
      exact ⟨rfl, hb0⟩
def p10 : Px := ⟨0, 0, fourK 1, fourK 2⟩
theorem p10_ok : p10.ok := ⟨fourK_ok _, fourK_ok _, by decide, by decide, by decide, by decide⟩
theorem s10_A : wA s10 = 2 := by decide +kernel
theorem s10_B : wB s10 = 2 := by decide +kernel
theorem alive10_t (w : World) : Calls Try.prog 34 #[] w fun e w' => e = .returned (.bool true) ∧ Below w.heap.size w w' := by
  refine alive10_go (fourK 1) (fourK 2) p10 (topP s10) (upP s10 p10 1 0) (allP s10 p10) (parP s10 p10) (kfour_t _ (by decide) (by decide)) (kfour_t _ (by decide) (by decide)) ?_ ?_ ?_ (by decide +kernel) (by decide +kernel) (by decide +kernel) (by decide +kernel) ?_ ?_ ?_ ?_ ?_ (top9_t s10) (up9_t s10 p10 p10_ok 1 0) ?_ w
  · intro w
    have h := leaf_t s10 (fourK 1) (fourK 2) (fourK_ok _) (fourK_ok _) w
    rw [show leafP s10 (fourK 1) (fourK 2) = p10 by decide +kernel, show rightP s10 ⟨0, 0, fourK 1, fourK 2⟩ = true by decide +kernel] at h
    exact h
  · intro w
    refine (all_t s10 p10 p10_ok w).mono ?_
    rintro e w' ⟨v, rfl, hx, hb⟩
    obtain ⟨p, c, rfl, _, _⟩ := xs_read hx
    rw [show (allP s10 p10).length = 9 by decide +kernel] at hx ⊢
    exact ⟨p, c, rfl, hx, hb⟩
  · intro w
    refine (parents_t s10 p10 p10_ok w).mono ?_
    rintro e w' ⟨v, rfl, hx, hb⟩
    obtain ⟨p, c, rfl, _, _⟩ := xs_read hx
    rw [show (parP s10 p10).length = 2 by decide +kernel] at hx ⊢
    exact ⟨p, c, rfl, hx, hb⟩
  · intro w
    have h := gcount_t s10 w
    rw [s10_A, s10_B] at h
    exact h
  · intro w
    have h := place_t s10 1 1 w
    rw [s10_A, s10_B, show placeN 2 2 1 1 = 4 by decide +kernel] at h
    exact h
  · intro w
    have h := gtall_t s10 w
    rw [s10_A, s10_B] at h
    exact h
  · intro w
    refine (on_t s10 1 w).mono ?_
    rintro e w' ⟨v, rfl, hx, hb⟩
    obtain ⟨p, c, rfl, _, _⟩ := ts_read hx
    rw [s10_A, s10_B, show (lineN 2 2 1).length = 2 by decide +kernel]
    exact ⟨p, c, rfl, hb⟩
  · intro w
    refine (nodes_t s10 w).mono ?_
    rintro e w' ⟨v, rfl, hx, hb⟩
    obtain ⟨p, c, rfl, _, _⟩ := ts_read hx
    rw [s10_A, s10_B, show (walkN 2 2).length = 9 by decide +kernel]
    exact ⟨p, c, rfl, hb⟩
  · intro w
    have h := place_t s10 3 0 w
    rw [s10_A, s10_B, show placeN 2 2 3 0 = -1 by decide +kernel] at h
    exact h
end Go.Proofs.Ytbekocknfpekoaa
