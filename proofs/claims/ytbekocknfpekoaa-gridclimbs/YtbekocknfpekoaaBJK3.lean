/- K3, K4, K5, K6, K7, K8, KR1, KR2, LabR2, LabR3, LabR4, KP, KR3, KR4, KR5, KR6, KR7, KP2, KR8, U1, OpenKey: what the theorem needs of these texts. No conditions beyond those that are written. -/
import Derived.Test.YtbekocknfpekoaaBJF0
namespace Go.Proofs.Ytbekocknfpekoaa
set_option linter.unusedVariables false
set_option linter.unusedSimpArgs false
open Go.RowKit
/-- two keys are equal, told by their fields -/
def eqK (a0 a1 a2 a3 : Int) (a4 : ByteArray) (b0 b1 b2 b3 : Int) (b4 : ByteArray) : Bool := decide (a0 = b0 ∧ a1 = b1 ∧ a2 = b2 ∧ a3 = b3 ∧ a4 = b4)
theorem ba_ne {a b : ByteArray} (h : ¬ a = b) : ¬ a.toList = b.toList := fun e => h (by rw [ByteArray.toList_eq, ByteArray.toList_eq] at e; exact ByteArray.ext (Array.toList_inj.1 e))
theorem eql_key (a0 a1 a2 a3 : Int) (a4 : ByteArray) (b0 b1 b2 b3 : Int) (b4 : ByteArray) (w : World) : (binOp .eql 30 (.agg #[.int .i64 a0, .int .i64 a1, .int .u64 a2, .int .u64 a3, .string a4]) (.agg #[.int .i64 b0, .int .i64 b1, .int .u64 b2, .int .u64 b3, .string b4])).run Try.prog w = .ok (.bool (eqK a0 a1 a2 a3 a4 b0 b1 b2 b3 b4)) w := by
  unfold eqK
  by_cases h4 : a4 = b4
  · by_cases h0 : a0 = b0 <;> by_cases h1 : a1 = b1 <;> by_cases h2 : a2 = b2 <;> by_cases h3 : a3 = b3 <;> simp [go_sem, h0, h1, h2, h3, h4]
  · have h5 := ba_ne h4
    by_cases h0 : a0 = b0 <;> by_cases h1 : a1 = b1 <;> by_cases h2 : a2 = b2 <;> by_cases h3 : a3 = b3 <;> simp [go_sem, h0, h1, h2, h3, h4, h5]
theorem eqK_ke (a b : Ke) : eqK a.kind a.len a.h a.l ⟨a.path.toArray⟩ b.kind b.len b.h b.l ⟨b.path.toArray⟩ = decide (a = b) := by
  unfold eqK
  rw [decide_eq_decide]
  constructor
  · rintro ⟨h0, h1, h2, h3, h4⟩; exact ke_ext h0 h1 h2 h3 ((str_eq _ _).1 h4)
  · rintro rfl; exact ⟨rfl, rfl, rfl, rfl, rfl⟩
/-- what a key holds as an argument -/
structure Ke.ok (k : Ke) : Prop where
  h : Word k.h
  l : Word k.l
  k0 : -9223372036854775808 ≤ k.kind
  k1 : k.kind ≤ 9223372036854775807
  n0 : -9223372036854775808 ≤ k.len
  n1 : k.len ≤ 9223372036854775807
  path : k.path.length ≤ 140737488355328
set_option maxHeartbeats 4000000 in
theorem kright_t (k : Ke) (ok : k.ok) (w : World) : Calls Try.prog 97 #[kv k] w fun e w' => e = .returned (.bool (rightK k)) ∧ Below w.heap.size w w' := by
  have HT := ktop_t k k.len ok.h ok.l ok.n1 ok.path
  have HP := ofPath_t k.path ok.path
  have HE := eqK_ke k (topK k k.len)
  have HF := eqK_ke k (pathK k.path)
  have HR := right_t k.path ok.path
  have HD : rightK k = if k.kind = 1 ∨ k.kind = 2 then decide (0 ≤ k.len) && decide (k.len ≤ wid k.kind) && decide (k = topK k k.len) else if k.kind = 3 then rightB k.path && decide (k = pathK k.path) else false := rfl
  rw [← HE, ← HF] at HD
  obtain ⟨kd, len, h, l, p⟩ := k
  have okn := ok.n1
  dsimp only at *
  unfold kv at HT HP
  generalize topK ⟨kd, len, h, l, p⟩ len = t at *
  generalize pathK p = u at *
  obtain ⟨t0, t1, t2, t3, t4⟩ := t
  obtain ⟨u0, u1, u2, u3, u4⟩ := u
  dsimp only at *
  clear ok HE HF
  generalize rightB p = rp at *
  generalize rightK _ = rk at *
  have R0 := (Row.new w #[.int .i64 kd, .int .i64 len, .int .u64 h, .int .u64 l, .string ⟨p.toArray⟩] 30).drew
  have hb0 : Below w.heap.size w (w.alloc (.cells #[.int .i64 kd, .int .i64 len, .int .u64 h, .int .u64 l, .string ⟨p.toArray⟩] 30)).drew := Below.drew (by repeat (first | exact Below.refl _ _ | assumption | (with_reducible refine Below.setCell ?_ ?h _; case h => first | omega | (simp; done) | (simp; omega)) | (with_reducible refine Below.alloc ?_ ?h _; case h => first | omega | (simp; done) | (simp; omega)) | (with_reducible refine Below.drew ?_) | (with_reducible refine Below.trans ?_ (hb4.mono ?h); case h => first | omega | (simp; done) | (simp; omega)) | (with_reducible refine Below.trans ?_ (hb3.mono ?h); case h => first | omega | (simp; done) | (simp; omega)) | (with_reducible refine Below.trans ?_ (hb2.mono ?h); case h => first | omega | (simp; done) | (simp; omega)) | (with_reducible refine Below.trans ?_ (hb.mono ?h); case h => first | omega | (simp; done) | (simp; omega)) | (with_reducible refine Below.trans ?_ (hb0.mono ?h); case h => first | omega | (simp; done) | (simp; omega))))
  have c0 := ((R0).cell 0).trans (show _ = some (Value.int .i64 kd) from rfl)
  have cf0 := (R0).frozen 0
  have c1 := ((R0).cell 1).trans (show _ = some (Value.int .i64 len) from rfl)
  have cf1 := (R0).frozen 1
  have c2 := ((R0).cell 2).trans (show _ = some (Value.int .u64 h) from rfl)
  have cf2 := (R0).frozen 2
  have c3 := ((R0).cell 3).trans (show _ = some (Value.int .u64 l) from rfl)
  have cf3 := (R0).frozen 3
  have c4 := ((R0).cell 4).trans (show _ = some (Value.string ⟨p.toArray⟩) from rfl)
  have cf4 := (R0).frozen 4
  have q := eql_key
  unfold kv
  dsimp only
  have HW := width_t kd
  by_cases k1 : kd = 1 ∨ kd = 2
  · rw [if_pos k1] at HD
    by_cases n0 : 0 ≤ len
    · have d0 : decide (0 ≤ len) = true := by simpa using n0
      by_cases n1 : len ≤ wid kd
      · have HD' : rk = eqK kd len h l ⟨p.toArray⟩ t0 t1 t2 t3 ⟨t4.toArray⟩ := by rw [HD]; simp [n0, n1]
        have d1 : decide (len ≤ wid kd) = true := by simpa using n1
        rw [HD']
        generalize wid kd = wd at *
        clear HD HD' HP HR u0 u1 u2 u3 u4
        rcases k1 with rfl | rfl
        · go_enter Try.func97, Try.ntmps97
          go_wp2_with fail
          refine wp_region_held_drew (S := (fun w' => w'.cell? ⟨w.heap.size, 0, none⟩ = some (.int .i64 1) ∧ w'.cell? ⟨w.heap.size, 1, none⟩ = some (.int .i64 len) ∧ w'.cell? ⟨w.heap.size, 2, none⟩ = some (.int .u64 h) ∧ w'.cell? ⟨w.heap.size, 3, none⟩ = some (.int .u64 l) ∧ w'.cell? ⟨w.heap.size, 4, none⟩ = some (.string ⟨p.toArray⟩) ∧ Below w.heap.size w w')) (by kernel_rfl) ?hSr2_ (fun hHeld => ?_)
          case hSr2_ => (first | exact ⟨c0, c1, c2, c3, c4, hb0⟩ | (obtain ⟨s0, s1, s2, s3, s4, s5⟩ := hHeld; exact ⟨cell_later hb s0, cell_later hb s1, cell_later hb s2, cell_later hb s3, cell_later hb s4, below_step s5 hb⟩))
          refine tk 0 ⟨some 8, .fieldAddr 30 (.tmp 1) 1, 0, _, _, _⟩ hHeld ?_
          (try simp only [Act.put, nz1, nz2, nz3])
          refine tk 1 ⟨some 9, .load 3 (.tmp 8), 3, _, _, _⟩ hHeld ?_
          (try simp only [Act.put, nz1, nz2, nz3])
          refine tk 2 ⟨some 10, .binOp .geq 3 (.tmp 9) (.const (.int .i64 0)) 3, 4, _, _, _⟩ hHeld ?_
          (try simp only [Act.put, nz1, nz2, nz3])
          refine tk 3 ⟨some 11, .move (.tmp 10), 4, _, _, _⟩ hHeld ?_
          (try simp only [Act.put, nz1, nz2, nz3])
          refine tk 4 ⟨some 12, .fieldAddr 30 (.tmp 1) 1, 0, _, _, _⟩ hHeld ?_
          (try simp only [Act.put, nz1, nz2, nz3])
          refine tk 5 ⟨some 13, .load 3 (.tmp 12), 3, _, _, _⟩ hHeld ?_
          (try simp only [Act.put, nz1, nz2, nz3])
          refine tk 6 ⟨some 14, .fieldAddr 30 (.tmp 1) 0, 0, _, _, _⟩ hHeld ?_
          (try simp only [Act.put, nz1, nz2, nz3])
          refine tk 7 ⟨some 15, .load 3 (.tmp 14), 3, _, _, _⟩ hHeld ?_
          (try simp only [Act.put, nz1, nz2, nz3])
          refine wpAnyH_ready (rs := [8]) (by kernel_rfl) (by simp) ?_
          refine AllReadyH.cons (o := ⟨some 16, .call { callee := .value (.func 76), args := #[.tmp 15], argTypes := #[3] }, 3, _, _, _⟩) rfl (fun K hK => ?_) AllReadyH.nil
          go_simp
          ((refine (HW _).mono ?_); (rintro e wn ⟨rfl, hb⟩))
          go_wp2_with fail
          refine hK.out _ _ ?hSr2_9_8 (fun hHeld2 => ?_)
          case hSr2_9_8 => (first | exact ⟨c0, c1, c2, c3, c4, hb0⟩ | (obtain ⟨s0, s1, s2, s3, s4, s5⟩ := hHeld; exact ⟨cell_later hb s0, cell_later hb s1, cell_later hb s2, cell_later hb s3, cell_later hb s4, below_step s5 hb⟩))
          clear hK K hHeld
          have hHeld := hHeld2
          clear hHeld2
          (try simp only [Act.put, nz1, nz2, nz3])
          refine tk 9 ⟨some 17, .binOp .leq 3 (.tmp 13) (.tmp 16) 3, 4, _, _, _⟩ hHeld ?_
          (try simp only [Act.put, nz1, nz2, nz3])
          refine tk 10 ⟨some 18, .pick (.tmp 11) (.tmp 17) (.const (.bool false)), 4, _, _, _⟩ hHeld ?_
          (try simp only [Act.put, nz1, nz2, nz3])
          refine tk 11 ⟨some 19, .move (.tmp 18), 4, _, _, _⟩ hHeld ?_
          (try simp only [Act.put, nz1, nz2, nz3])
          refine tk 12 ⟨some 20, .load 30 (.tmp 1), 30, _, _, _⟩ hHeld ?_
          (try simp only [Act.put, nz1, nz2, nz3])
          refine tk 13 ⟨some 21, .load 30 (.tmp 1), 30, _, _, _⟩ hHeld ?_
          (try simp only [Act.put, nz1, nz2, nz3])
          refine tk 14 ⟨some 22, .fieldAddr 30 (.tmp 1) 1, 0, _, _, _⟩ hHeld ?_
          (try simp only [Act.put, nz1, nz2, nz3])
          refine tk 15 ⟨some 23, .load 3 (.tmp 22), 3, _, _, _⟩ hHeld ?_
          (try simp only [Act.put, nz1, nz2, nz3])
          refine wpAnyH_ready (rs := [16]) (by kernel_rfl) (by simp) ?_
          refine AllReadyH.cons (o := ⟨some 24, .call { callee := .value (.func 100), args := #[.tmp 21, .tmp 23], argTypes := #[30, 3] }, 30, _, _, _⟩) rfl (fun K hK => ?_) AllReadyH.nil
          go_simp
          ((refine (HT _).mono ?_); (rintro e wn ⟨rfl, hb⟩))
          go_wp2_with fail
          refine hK.out _ _ ?hSr2_17_16 (fun hHeld2 => ?_)
          case hSr2_17_16 => (first | exact ⟨c0, c1, c2, c3, c4, hb0⟩ | (obtain ⟨s0, s1, s2, s3, s4, s5⟩ := hHeld; exact ⟨cell_later hb s0, cell_later hb s1, cell_later hb s2, cell_later hb s3, cell_later hb s4, below_step s5 hb⟩))
          clear hK K hHeld
          have hHeld := hHeld2
          clear hHeld2
          (try simp only [Act.put, nz1, nz2, nz3])
          refine tk 17 ⟨some 25, .binOp .eql 30 (.tmp 20) (.tmp 24) 30, 4, _, _, _⟩ hHeld ?_
          (try simp only [Act.put, nz1, nz2, nz3])
          refine tk 18 ⟨some 26, .pick (.tmp 19) (.tmp 25) (.const (.bool false)), 4, _, _, _⟩ hHeld ?_
          (try simp only [Act.put, nz1, nz2, nz3])
          refine tk 19 ⟨some 2, .assign (.tmp 26), 4, _, _, _⟩ hHeld ?_
          (try simp only [Act.put, nz1, nz2, nz3])
          refine wpAnyH_done (by kernel_rfl) ?_ _
          go_wp2
          go_ret
          exact ⟨rfl, hHeld.2.2.2.2.2⟩
        · go_enter Try.func97, Try.ntmps97
          go_wp2_with fail
          refine wp_region_held_drew (S := (fun w' => w'.cell? ⟨w.heap.size, 0, none⟩ = some (.int .i64 2) ∧ w'.cell? ⟨w.heap.size, 1, none⟩ = some (.int .i64 len) ∧ w'.cell? ⟨w.heap.size, 2, none⟩ = some (.int .u64 h) ∧ w'.cell? ⟨w.heap.size, 3, none⟩ = some (.int .u64 l) ∧ w'.cell? ⟨w.heap.size, 4, none⟩ = some (.string ⟨p.toArray⟩) ∧ Below w.heap.size w w')) (by kernel_rfl) ?hSr3_ (fun hHeld => ?_)
          case hSr3_ => (first | exact ⟨c0, c1, c2, c3, c4, hb0⟩ | (obtain ⟨s0, s1, s2, s3, s4, s5⟩ := hHeld; exact ⟨cell_later hb s0, cell_later hb s1, cell_later hb s2, cell_later hb s3, cell_later hb s4, below_step s5 hb⟩))
          refine tk 0 ⟨some 8, .fieldAddr 30 (.tmp 1) 1, 0, _, _, _⟩ hHeld ?_
          (try simp only [Act.put, nz1, nz2, nz3])
          refine tk 1 ⟨some 9, .load 3 (.tmp 8), 3, _, _, _⟩ hHeld ?_
          (try simp only [Act.put, nz1, nz2, nz3])
          refine tk 2 ⟨some 10, .binOp .geq 3 (.tmp 9) (.const (.int .i64 0)) 3, 4, _, _, _⟩ hHeld ?_
          (try simp only [Act.put, nz1, nz2, nz3])
          refine tk 3 ⟨some 11, .move (.tmp 10), 4, _, _, _⟩ hHeld ?_
          (try simp only [Act.put, nz1, nz2, nz3])
          refine tk 4 ⟨some 12, .fieldAddr 30 (.tmp 1) 1, 0, _, _, _⟩ hHeld ?_
          (try simp only [Act.put, nz1, nz2, nz3])
          refine tk 5 ⟨some 13, .load 3 (.tmp 12), 3, _, _, _⟩ hHeld ?_
          (try simp only [Act.put, nz1, nz2, nz3])
          refine tk 6 ⟨some 14, .fieldAddr 30 (.tmp 1) 0, 0, _, _, _⟩ hHeld ?_
          (try simp only [Act.put, nz1, nz2, nz3])
          refine tk 7 ⟨some 15, .load 3 (.tmp 14), 3, _, _, _⟩ hHeld ?_
          (try simp only [Act.put, nz1, nz2, nz3])
          refine wpAnyH_ready (rs := [8]) (by kernel_rfl) (by simp) ?_
          refine AllReadyH.cons (o := ⟨some 16, .call { callee := .value (.func 76), args := #[.tmp 15], argTypes := #[3] }, 3, _, _, _⟩) rfl (fun K hK => ?_) AllReadyH.nil
          go_simp
          ((refine (HW _).mono ?_); (rintro e wn ⟨rfl, hb⟩))
          go_wp2_with fail
          refine hK.out _ _ ?hSr3_9_8 (fun hHeld2 => ?_)
          case hSr3_9_8 => (first | exact ⟨c0, c1, c2, c3, c4, hb0⟩ | (obtain ⟨s0, s1, s2, s3, s4, s5⟩ := hHeld; exact ⟨cell_later hb s0, cell_later hb s1, cell_later hb s2, cell_later hb s3, cell_later hb s4, below_step s5 hb⟩))
          clear hK K hHeld
          have hHeld := hHeld2
          clear hHeld2
          (try simp only [Act.put, nz1, nz2, nz3])
          refine tk 9 ⟨some 17, .binOp .leq 3 (.tmp 13) (.tmp 16) 3, 4, _, _, _⟩ hHeld ?_
          (try simp only [Act.put, nz1, nz2, nz3])
          refine tk 10 ⟨some 18, .pick (.tmp 11) (.tmp 17) (.const (.bool false)), 4, _, _, _⟩ hHeld ?_
          (try simp only [Act.put, nz1, nz2, nz3])
          refine tk 11 ⟨some 19, .move (.tmp 18), 4, _, _, _⟩ hHeld ?_
          (try simp only [Act.put, nz1, nz2, nz3])
          refine tk 12 ⟨some 20, .load 30 (.tmp 1), 30, _, _, _⟩ hHeld ?_
          (try simp only [Act.put, nz1, nz2, nz3])
          refine tk 13 ⟨some 21, .load 30 (.tmp 1), 30, _, _, _⟩ hHeld ?_
          (try simp only [Act.put, nz1, nz2, nz3])
          refine tk 14 ⟨some 22, .fieldAddr 30 (.tmp 1) 1, 0, _, _, _⟩ hHeld ?_
          (try simp only [Act.put, nz1, nz2, nz3])
          refine tk 15 ⟨some 23, .load 3 (.tmp 22), 3, _, _, _⟩ hHeld ?_
          (try simp only [Act.put, nz1, nz2, nz3])
          refine wpAnyH_ready (rs := [16]) (by kernel_rfl) (by simp) ?_
          refine AllReadyH.cons (o := ⟨some 24, .call { callee := .value (.func 100), args := #[.tmp 21, .tmp 23], argTypes := #[30, 3] }, 30, _, _, _⟩) rfl (fun K hK => ?_) AllReadyH.nil
          go_simp
          ((refine (HT _).mono ?_); (rintro e wn ⟨rfl, hb⟩))
          go_wp2_with fail
          refine hK.out _ _ ?hSr3_17_16 (fun hHeld2 => ?_)
          case hSr3_17_16 => (first | exact ⟨c0, c1, c2, c3, c4, hb0⟩ | (obtain ⟨s0, s1, s2, s3, s4, s5⟩ := hHeld; exact ⟨cell_later hb s0, cell_later hb s1, cell_later hb s2, cell_later hb s3, cell_later hb s4, below_step s5 hb⟩))
          clear hK K hHeld
          have hHeld := hHeld2
          clear hHeld2
          (try simp only [Act.put, nz1, nz2, nz3])
          refine tk 17 ⟨some 25, .binOp .eql 30 (.tmp 20) (.tmp 24) 30, 4, _, _, _⟩ hHeld ?_
          (try simp only [Act.put, nz1, nz2, nz3])
          refine tk 18 ⟨some 26, .pick (.tmp 19) (.tmp 25) (.const (.bool false)), 4, _, _, _⟩ hHeld ?_
          (try simp only [Act.put, nz1, nz2, nz3])
          refine tk 19 ⟨some 2, .assign (.tmp 26), 4, _, _, _⟩ hHeld ?_
          (try simp only [Act.put, nz1, nz2, nz3])
          refine wpAnyH_done (by kernel_rfl) ?_ _
          go_wp2
          go_ret
          exact ⟨rfl, hHeld.2.2.2.2.2⟩
      · have HD' : rk = false := by rw [HD]; simp [n0, n1]
        have d1 : decide (len ≤ wid kd) = false := by simpa using n1
        rw [HD']
        generalize wid kd = wd at *
        clear HD HD' HP HR u0 u1 u2 u3 u4
        rcases k1 with rfl | rfl
        · go_enter Try.func97, Try.ntmps97
          go_wp2_with fail
          refine wp_region_held_drew (S := (fun w' => w'.cell? ⟨w.heap.size, 0, none⟩ = some (.int .i64 1) ∧ w'.cell? ⟨w.heap.size, 1, none⟩ = some (.int .i64 len) ∧ w'.cell? ⟨w.heap.size, 2, none⟩ = some (.int .u64 h) ∧ w'.cell? ⟨w.heap.size, 3, none⟩ = some (.int .u64 l) ∧ w'.cell? ⟨w.heap.size, 4, none⟩ = some (.string ⟨p.toArray⟩) ∧ Below w.heap.size w w')) (by kernel_rfl) ?hSr4_ (fun hHeld => ?_)
          case hSr4_ => (first | exact ⟨c0, c1, c2, c3, c4, hb0⟩ | (obtain ⟨s0, s1, s2, s3, s4, s5⟩ := hHeld; exact ⟨cell_later hb s0, cell_later hb s1, cell_later hb s2, cell_later hb s3, cell_later hb s4, below_step s5 hb⟩))
          refine tk 0 ⟨some 8, .fieldAddr 30 (.tmp 1) 1, 0, _, _, _⟩ hHeld ?_
          (try simp only [Act.put, nz1, nz2, nz3])
          refine tk 1 ⟨some 9, .load 3 (.tmp 8), 3, _, _, _⟩ hHeld ?_
          (try simp only [Act.put, nz1, nz2, nz3])
          refine tk 2 ⟨some 10, .binOp .geq 3 (.tmp 9) (.const (.int .i64 0)) 3, 4, _, _, _⟩ hHeld ?_
          (try simp only [Act.put, nz1, nz2, nz3])
          refine tk 3 ⟨some 11, .move (.tmp 10), 4, _, _, _⟩ hHeld ?_
          (try simp only [Act.put, nz1, nz2, nz3])
          refine tk 4 ⟨some 12, .fieldAddr 30 (.tmp 1) 1, 0, _, _, _⟩ hHeld ?_
          (try simp only [Act.put, nz1, nz2, nz3])
          refine tk 5 ⟨some 13, .load 3 (.tmp 12), 3, _, _, _⟩ hHeld ?_
          (try simp only [Act.put, nz1, nz2, nz3])
          refine tk 6 ⟨some 14, .fieldAddr 30 (.tmp 1) 0, 0, _, _, _⟩ hHeld ?_
          (try simp only [Act.put, nz1, nz2, nz3])
          refine tk 7 ⟨some 15, .load 3 (.tmp 14), 3, _, _, _⟩ hHeld ?_
          (try simp only [Act.put, nz1, nz2, nz3])
          refine wpAnyH_ready (rs := [8]) (by kernel_rfl) (by simp) ?_
          refine AllReadyH.cons (o := ⟨some 16, .call { callee := .value (.func 76), args := #[.tmp 15], argTypes := #[3] }, 3, _, _, _⟩) rfl (fun K hK => ?_) AllReadyH.nil
          go_simp
          ((refine (HW _).mono ?_); (rintro e wn ⟨rfl, hb⟩))
          go_wp2_with fail
          refine hK.out _ _ ?hSr4_9_8 (fun hHeld2 => ?_)
          case hSr4_9_8 => (first | exact ⟨c0, c1, c2, c3, c4, hb0⟩ | (obtain ⟨s0, s1, s2, s3, s4, s5⟩ := hHeld; exact ⟨cell_later hb s0, cell_later hb s1, cell_later hb s2, cell_later hb s3, cell_later hb s4, below_step s5 hb⟩))
          clear hK K hHeld
          have hHeld := hHeld2
          clear hHeld2
          (try simp only [Act.put, nz1, nz2, nz3])
          refine tk 9 ⟨some 17, .binOp .leq 3 (.tmp 13) (.tmp 16) 3, 4, _, _, _⟩ hHeld ?_
          (try simp only [Act.put, nz1, nz2, nz3])
          refine tk 10 ⟨some 18, .pick (.tmp 11) (.tmp 17) (.const (.bool false)), 4, _, _, _⟩ hHeld ?_
          (try simp only [Act.put, nz1, nz2, nz3])
          refine tk 11 ⟨some 19, .move (.tmp 18), 4, _, _, _⟩ hHeld ?_
          (try simp only [Act.put, nz1, nz2, nz3])
          refine ts 12 ⟨some 20, .load 30 (.tmp 1), 30, _, _, _⟩ hHeld ?_
          (try simp only [Act.put, nz1, nz2, nz3])
          refine ts 13 ⟨some 21, .load 30 (.tmp 1), 30, _, _, _⟩ hHeld ?_
          (try simp only [Act.put, nz1, nz2, nz3])
          refine ts 14 ⟨some 22, .fieldAddr 30 (.tmp 1) 1, 0, _, _, _⟩ hHeld ?_
          (try simp only [Act.put, nz1, nz2, nz3])
          refine ts 15 ⟨some 23, .load 3 (.tmp 22), 3, _, _, _⟩ hHeld ?_
          (try simp only [Act.put, nz1, nz2, nz3])
          refine ts 16 ⟨some 24, .call { callee := .value (.func 100), args := #[.tmp 21, .tmp 23], argTypes := #[30, 3] }, 30, _, _, _⟩ hHeld ?_
          (try simp only [Act.put, nz1, nz2, nz3])
          refine ts 17 ⟨some 25, .binOp .eql 30 (.tmp 20) (.tmp 24) 30, 4, _, _, _⟩ hHeld ?_
          (try simp only [Act.put, nz1, nz2, nz3])
          refine tk 18 ⟨some 26, .pick (.tmp 19) (.tmp 25) (.const (.bool false)), 4, _, _, _⟩ hHeld ?_
          (try simp only [Act.put, nz1, nz2, nz3])
          refine tk 19 ⟨some 2, .assign (.tmp 26), 4, _, _, _⟩ hHeld ?_
          (try simp only [Act.put, nz1, nz2, nz3])
          refine wpAnyH_done (by kernel_rfl) ?_ _
          go_wp2
          go_ret
          exact ⟨rfl, hHeld.2.2.2.2.2⟩
        · go_enter Try.func97, Try.ntmps97
          go_wp2_with fail
          refine wp_region_held_drew (S := (fun w' => w'.cell? ⟨w.heap.size, 0, none⟩ = some (.int .i64 2) ∧ w'.cell? ⟨w.heap.size, 1, none⟩ = some (.int .i64 len) ∧ w'.cell? ⟨w.heap.size, 2, none⟩ = some (.int .u64 h) ∧ w'.cell? ⟨w.heap.size, 3, none⟩ = some (.int .u64 l) ∧ w'.cell? ⟨w.heap.size, 4, none⟩ = some (.string ⟨p.toArray⟩) ∧ Below w.heap.size w w')) (by kernel_rfl) ?hSr5_ (fun hHeld => ?_)
          case hSr5_ => (first | exact ⟨c0, c1, c2, c3, c4, hb0⟩ | (obtain ⟨s0, s1, s2, s3, s4, s5⟩ := hHeld; exact ⟨cell_later hb s0, cell_later hb s1, cell_later hb s2, cell_later hb s3, cell_later hb s4, below_step s5 hb⟩))
          refine tk 0 ⟨some 8, .fieldAddr 30 (.tmp 1) 1, 0, _, _, _⟩ hHeld ?_
          (try simp only [Act.put, nz1, nz2, nz3])
          refine tk 1 ⟨some 9, .load 3 (.tmp 8), 3, _, _, _⟩ hHeld ?_
          (try simp only [Act.put, nz1, nz2, nz3])
          refine tk 2 ⟨some 10, .binOp .geq 3 (.tmp 9) (.const (.int .i64 0)) 3, 4, _, _, _⟩ hHeld ?_
          (try simp only [Act.put, nz1, nz2, nz3])
          refine tk 3 ⟨some 11, .move (.tmp 10), 4, _, _, _⟩ hHeld ?_
          (try simp only [Act.put, nz1, nz2, nz3])
          refine tk 4 ⟨some 12, .fieldAddr 30 (.tmp 1) 1, 0, _, _, _⟩ hHeld ?_
          (try simp only [Act.put, nz1, nz2, nz3])
          refine tk 5 ⟨some 13, .load 3 (.tmp 12), 3, _, _, _⟩ hHeld ?_
          (try simp only [Act.put, nz1, nz2, nz3])
          refine tk 6 ⟨some 14, .fieldAddr 30 (.tmp 1) 0, 0, _, _, _⟩ hHeld ?_
          (try simp only [Act.put, nz1, nz2, nz3])
          refine tk 7 ⟨some 15, .load 3 (.tmp 14), 3, _, _, _⟩ hHeld ?_
          (try simp only [Act.put, nz1, nz2, nz3])
          refine wpAnyH_ready (rs := [8]) (by kernel_rfl) (by simp) ?_
          refine AllReadyH.cons (o := ⟨some 16, .call { callee := .value (.func 76), args := #[.tmp 15], argTypes := #[3] }, 3, _, _, _⟩) rfl (fun K hK => ?_) AllReadyH.nil
          go_simp
          ((refine (HW _).mono ?_); (rintro e wn ⟨rfl, hb⟩))
          go_wp2_with fail
          refine hK.out _ _ ?hSr5_9_8 (fun hHeld2 => ?_)
          case hSr5_9_8 => (first | exact ⟨c0, c1, c2, c3, c4, hb0⟩ | (obtain ⟨s0, s1, s2, s3, s4, s5⟩ := hHeld; exact ⟨cell_later hb s0, cell_later hb s1, cell_later hb s2, cell_later hb s3, cell_later hb s4, below_step s5 hb⟩))
          clear hK K hHeld
          have hHeld := hHeld2
          clear hHeld2
          (try simp only [Act.put, nz1, nz2, nz3])
          refine tk 9 ⟨some 17, .binOp .leq 3 (.tmp 13) (.tmp 16) 3, 4, _, _, _⟩ hHeld ?_
          (try simp only [Act.put, nz1, nz2, nz3])
          refine tk 10 ⟨some 18, .pick (.tmp 11) (.tmp 17) (.const (.bool false)), 4, _, _, _⟩ hHeld ?_
          (try simp only [Act.put, nz1, nz2, nz3])
          refine tk 11 ⟨some 19, .move (.tmp 18), 4, _, _, _⟩ hHeld ?_
          (try simp only [Act.put, nz1, nz2, nz3])
          refine ts 12 ⟨some 20, .load 30 (.tmp 1), 30, _, _, _⟩ hHeld ?_
          (try simp only [Act.put, nz1, nz2, nz3])
          refine ts 13 ⟨some 21, .load 30 (.tmp 1), 30, _, _, _⟩ hHeld ?_
          (try simp only [Act.put, nz1, nz2, nz3])
          refine ts 14 ⟨some 22, .fieldAddr 30 (.tmp 1) 1, 0, _, _, _⟩ hHeld ?_
          (try simp only [Act.put, nz1, nz2, nz3])
          refine ts 15 ⟨some 23, .load 3 (.tmp 22), 3, _, _, _⟩ hHeld ?_
          (try simp only [Act.put, nz1, nz2, nz3])
          refine ts 16 ⟨some 24, .call { callee := .value (.func 100), args := #[.tmp 21, .tmp 23], argTypes := #[30, 3] }, 30, _, _, _⟩ hHeld ?_
          (try simp only [Act.put, nz1, nz2, nz3])
          refine ts 17 ⟨some 25, .binOp .eql 30 (.tmp 20) (.tmp 24) 30, 4, _, _, _⟩ hHeld ?_
          (try simp only [Act.put, nz1, nz2, nz3])
          refine tk 18 ⟨some 26, .pick (.tmp 19) (.tmp 25) (.const (.bool false)), 4, _, _, _⟩ hHeld ?_
          (try simp only [Act.put, nz1, nz2, nz3])
          refine tk 19 ⟨some 2, .assign (.tmp 26), 4, _, _, _⟩ hHeld ?_
          (try simp only [Act.put, nz1, nz2, nz3])
          refine wpAnyH_done (by kernel_rfl) ?_ _
          go_wp2
          go_ret
          exact ⟨rfl, hHeld.2.2.2.2.2⟩
    · have HD' : rk = false := by rw [HD]; simp [n0]
      have d0 : decide (0 ≤ len) = false := by simpa using n0
      rw [HD']
      clear HD HD' HP HR u0 u1 u2 u3 u4 HW
      rcases k1 with rfl | rfl
      · go_enter Try.func97, Try.ntmps97
        go_wp2_with fail
        refine wp_region_held_drew (S := (fun w' => w'.cell? ⟨w.heap.size, 0, none⟩ = some (.int .i64 1) ∧ w'.cell? ⟨w.heap.size, 1, none⟩ = some (.int .i64 len) ∧ w'.cell? ⟨w.heap.size, 2, none⟩ = some (.int .u64 h) ∧ w'.cell? ⟨w.heap.size, 3, none⟩ = some (.int .u64 l) ∧ w'.cell? ⟨w.heap.size, 4, none⟩ = some (.string ⟨p.toArray⟩) ∧ Below w.heap.size w w')) (by kernel_rfl) ?hSr6_ (fun hHeld => ?_)
        case hSr6_ => (first | exact ⟨c0, c1, c2, c3, c4, hb0⟩ | (obtain ⟨s0, s1, s2, s3, s4, s5⟩ := hHeld; exact ⟨cell_later hb s0, cell_later hb s1, cell_later hb s2, cell_later hb s3, cell_later hb s4, below_step s5 hb⟩))
        refine tk 0 ⟨some 8, .fieldAddr 30 (.tmp 1) 1, 0, _, _, _⟩ hHeld ?_
        (try simp only [Act.put, nz1, nz2, nz3])
        refine tk 1 ⟨some 9, .load 3 (.tmp 8), 3, _, _, _⟩ hHeld ?_
        (try simp only [Act.put, nz1, nz2, nz3])
        refine tk 2 ⟨some 10, .binOp .geq 3 (.tmp 9) (.const (.int .i64 0)) 3, 4, _, _, _⟩ hHeld ?_
        (try simp only [Act.put, nz1, nz2, nz3])
        refine tk 3 ⟨some 11, .move (.tmp 10), 4, _, _, _⟩ hHeld ?_
        (try simp only [Act.put, nz1, nz2, nz3])
        refine ts 4 ⟨some 12, .fieldAddr 30 (.tmp 1) 1, 0, _, _, _⟩ hHeld ?_
        (try simp only [Act.put, nz1, nz2, nz3])
        refine ts 5 ⟨some 13, .load 3 (.tmp 12), 3, _, _, _⟩ hHeld ?_
        (try simp only [Act.put, nz1, nz2, nz3])
        refine ts 6 ⟨some 14, .fieldAddr 30 (.tmp 1) 0, 0, _, _, _⟩ hHeld ?_
        (try simp only [Act.put, nz1, nz2, nz3])
        refine ts 7 ⟨some 15, .load 3 (.tmp 14), 3, _, _, _⟩ hHeld ?_
        (try simp only [Act.put, nz1, nz2, nz3])
        refine ts 8 ⟨some 16, .call { callee := .value (.func 76), args := #[.tmp 15], argTypes := #[3] }, 3, _, _, _⟩ hHeld ?_
        (try simp only [Act.put, nz1, nz2, nz3])
        refine ts 9 ⟨some 17, .binOp .leq 3 (.tmp 13) (.tmp 16) 3, 4, _, _, _⟩ hHeld ?_
        (try simp only [Act.put, nz1, nz2, nz3])
        refine tk 10 ⟨some 18, .pick (.tmp 11) (.tmp 17) (.const (.bool false)), 4, _, _, _⟩ hHeld ?_
        (try simp only [Act.put, nz1, nz2, nz3])
        refine tk 11 ⟨some 19, .move (.tmp 18), 4, _, _, _⟩ hHeld ?_
        (try simp only [Act.put, nz1, nz2, nz3])
        refine ts 12 ⟨some 20, .load 30 (.tmp 1), 30, _, _, _⟩ hHeld ?_
        (try simp only [Act.put, nz1, nz2, nz3])
        refine ts 13 ⟨some 21, .load 30 (.tmp 1), 30, _, _, _⟩ hHeld ?_
        (try simp only [Act.put, nz1, nz2, nz3])
        refine ts 14 ⟨some 22, .fieldAddr 30 (.tmp 1) 1, 0, _, _, _⟩ hHeld ?_
        (try simp only [Act.put, nz1, nz2, nz3])
        refine ts 15 ⟨some 23, .load 3 (.tmp 22), 3, _, _, _⟩ hHeld ?_
        (try simp only [Act.put, nz1, nz2, nz3])
        refine ts 16 ⟨some 24, .call { callee := .value (.func 100), args := #[.tmp 21, .tmp 23], argTypes := #[30, 3] }, 30, _, _, _⟩ hHeld ?_
        (try simp only [Act.put, nz1, nz2, nz3])
        refine ts 17 ⟨some 25, .binOp .eql 30 (.tmp 20) (.tmp 24) 30, 4, _, _, _⟩ hHeld ?_
        (try simp only [Act.put, nz1, nz2, nz3])
        refine tk 18 ⟨some 26, .pick (.tmp 19) (.tmp 25) (.const (.bool false)), 4, _, _, _⟩ hHeld ?_
        (try simp only [Act.put, nz1, nz2, nz3])
        refine tk 19 ⟨some 2, .assign (.tmp 26), 4, _, _, _⟩ hHeld ?_
        (try simp only [Act.put, nz1, nz2, nz3])
        refine wpAnyH_done (by kernel_rfl) ?_ _
        go_wp2
        go_ret
        exact ⟨rfl, hHeld.2.2.2.2.2⟩
      · go_enter Try.func97, Try.ntmps97
        go_wp2_with fail
        refine wp_region_held_drew (S := (fun w' => w'.cell? ⟨w.heap.size, 0, none⟩ = some (.int .i64 2) ∧ w'.cell? ⟨w.heap.size, 1, none⟩ = some (.int .i64 len) ∧ w'.cell? ⟨w.heap.size, 2, none⟩ = some (.int .u64 h) ∧ w'.cell? ⟨w.heap.size, 3, none⟩ = some (.int .u64 l) ∧ w'.cell? ⟨w.heap.size, 4, none⟩ = some (.string ⟨p.toArray⟩) ∧ Below w.heap.size w w')) (by kernel_rfl) ?hSr7_ (fun hHeld => ?_)
        case hSr7_ => (first | exact ⟨c0, c1, c2, c3, c4, hb0⟩ | (obtain ⟨s0, s1, s2, s3, s4, s5⟩ := hHeld; exact ⟨cell_later hb s0, cell_later hb s1, cell_later hb s2, cell_later hb s3, cell_later hb s4, below_step s5 hb⟩))
        refine tk 0 ⟨some 8, .fieldAddr 30 (.tmp 1) 1, 0, _, _, _⟩ hHeld ?_
        (try simp only [Act.put, nz1, nz2, nz3])
        refine tk 1 ⟨some 9, .load 3 (.tmp 8), 3, _, _, _⟩ hHeld ?_
        (try simp only [Act.put, nz1, nz2, nz3])
        refine tk 2 ⟨some 10, .binOp .geq 3 (.tmp 9) (.const (.int .i64 0)) 3, 4, _, _, _⟩ hHeld ?_
        (try simp only [Act.put, nz1, nz2, nz3])
        refine tk 3 ⟨some 11, .move (.tmp 10), 4, _, _, _⟩ hHeld ?_
        (try simp only [Act.put, nz1, nz2, nz3])
        refine ts 4 ⟨some 12, .fieldAddr 30 (.tmp 1) 1, 0, _, _, _⟩ hHeld ?_
        (try simp only [Act.put, nz1, nz2, nz3])
        refine ts 5 ⟨some 13, .load 3 (.tmp 12), 3, _, _, _⟩ hHeld ?_
        (try simp only [Act.put, nz1, nz2, nz3])
        refine ts 6 ⟨some 14, .fieldAddr 30 (.tmp 1) 0, 0, _, _, _⟩ hHeld ?_
        (try simp only [Act.put, nz1, nz2, nz3])
        refine ts 7 ⟨some 15, .load 3 (.tmp 14), 3, _, _, _⟩ hHeld ?_
        (try simp only [Act.put, nz1, nz2, nz3])
        refine ts 8 ⟨some 16, .call { callee := .value (.func 76), args := #[.tmp 15], argTypes := #[3] }, 3, _, _, _⟩ hHeld ?_
        (try simp only [Act.put, nz1, nz2, nz3])
        refine ts 9 ⟨some 17, .binOp .leq 3 (.tmp 13) (.tmp 16) 3, 4, _, _, _⟩ hHeld ?_
        (try simp only [Act.put, nz1, nz2, nz3])
        refine tk 10 ⟨some 18, .pick (.tmp 11) (.tmp 17) (.const (.bool false)), 4, _, _, _⟩ hHeld ?_
        (try simp only [Act.put, nz1, nz2, nz3])
        refine tk 11 ⟨some 19, .move (.tmp 18), 4, _, _, _⟩ hHeld ?_
        (try simp only [Act.put, nz1, nz2, nz3])
        refine ts 12 ⟨some 20, .load 30 (.tmp 1), 30, _, _, _⟩ hHeld ?_
        (try simp only [Act.put, nz1, nz2, nz3])
        refine ts 13 ⟨some 21, .load 30 (.tmp 1), 30, _, _, _⟩ hHeld ?_
        (try simp only [Act.put, nz1, nz2, nz3])
        refine ts 14 ⟨some 22, .fieldAddr 30 (.tmp 1) 1, 0, _, _, _⟩ hHeld ?_
        (try simp only [Act.put, nz1, nz2, nz3])
        refine ts 15 ⟨some 23, .load 3 (.tmp 22), 3, _, _, _⟩ hHeld ?_
        (try simp only [Act.put, nz1, nz2, nz3])
        refine ts 16 ⟨some 24, .call { callee := .value (.func 100), args := #[.tmp 21, .tmp 23], argTypes := #[30, 3] }, 30, _, _, _⟩ hHeld ?_
        (try simp only [Act.put, nz1, nz2, nz3])
        refine ts 17 ⟨some 25, .binOp .eql 30 (.tmp 20) (.tmp 24) 30, 4, _, _, _⟩ hHeld ?_
        (try simp only [Act.put, nz1, nz2, nz3])
        refine tk 18 ⟨some 26, .pick (.tmp 19) (.tmp 25) (.const (.bool false)), 4, _, _, _⟩ hHeld ?_
        (try simp only [Act.put, nz1, nz2, nz3])
        refine tk 19 ⟨some 2, .assign (.tmp 26), 4, _, _, _⟩ hHeld ?_
        (try simp only [Act.put, nz1, nz2, nz3])
        refine wpAnyH_done (by kernel_rfl) ?_ _
        go_wp2
        go_ret
        exact ⟨rfl, hHeld.2.2.2.2.2⟩
  · rw [if_neg k1] at HD
    have b1 : (kd == 1) = false := by simp; omega
    have b2 : (kd == 2) = false := by simp; omega
    have b1' : ¬ kd = 1 := by omega
    have b2' : ¬ kd = 2 := by omega
    by_cases k3 : kd = 3
    · rw [if_pos k3] at HD
      subst k3
      rw [HD]
      clear HD HW HT
      cases rp with
      | true =>
        rw [Bool.true_and]
        go_enter Try.func97, Try.ntmps97
        go_wp2_with fail
        refine wp_region_held_drew (S := (fun w' => w'.cell? ⟨w.heap.size, 0, none⟩ = some (.int .i64 3) ∧ w'.cell? ⟨w.heap.size, 1, none⟩ = some (.int .i64 len) ∧ w'.cell? ⟨w.heap.size, 2, none⟩ = some (.int .u64 h) ∧ w'.cell? ⟨w.heap.size, 3, none⟩ = some (.int .u64 l) ∧ w'.cell? ⟨w.heap.size, 4, none⟩ = some (.string ⟨p.toArray⟩) ∧ Below w.heap.size w w')) (by kernel_rfl) ?hSr8_ (fun hHeld => ?_)
        case hSr8_ => (first | exact ⟨c0, c1, c2, c3, c4, hb0⟩ | (obtain ⟨s0, s1, s2, s3, s4, s5⟩ := hHeld; exact ⟨cell_later hb s0, cell_later hb s1, cell_later hb s2, cell_later hb s3, cell_later hb s4, below_step s5 hb⟩))
        refine tk 0 ⟨some 29, .fieldAddr 30 (.tmp 1) 4, 0, _, _, _⟩ hHeld ?_
        (try simp only [Act.put, nz1, nz2, nz3])
        refine tk 1 ⟨some 30, .load 9 (.tmp 29), 9, _, _, _⟩ hHeld ?_
        (try simp only [Act.put, nz1, nz2, nz3])
        refine wpAnyH_ready (rs := [2]) (by kernel_rfl) (by simp) ?_
        refine AllReadyH.cons (o := ⟨some 31, .call { callee := .value (.func 102), args := #[.tmp 30], argTypes := #[9] }, 4, _, _, _⟩) rfl (fun K hK => ?_) AllReadyH.nil
        go_simp
        ((refine (HR _).mono ?_); (rintro e wn ⟨rfl, hb⟩))
        go_wp2_with fail
        refine hK.out _ _ ?hSr8_3_2 (fun hHeld2 => ?_)
        case hSr8_3_2 => (first | exact ⟨c0, c1, c2, c3, c4, hb0⟩ | (obtain ⟨s0, s1, s2, s3, s4, s5⟩ := hHeld; exact ⟨cell_later hb s0, cell_later hb s1, cell_later hb s2, cell_later hb s3, cell_later hb s4, below_step s5 hb⟩))
        clear hK K hHeld
        have hHeld := hHeld2
        clear hHeld2
        (try simp only [Act.put, nz1, nz2, nz3])
        refine tk 3 ⟨some 32, .move (.tmp 31), 4, _, _, _⟩ hHeld ?_
        (try simp only [Act.put, nz1, nz2, nz3])
        refine tk 4 ⟨some 33, .load 30 (.tmp 1), 30, _, _, _⟩ hHeld ?_
        (try simp only [Act.put, nz1, nz2, nz3])
        refine tk 5 ⟨some 34, .fieldAddr 30 (.tmp 1) 4, 0, _, _, _⟩ hHeld ?_
        (try simp only [Act.put, nz1, nz2, nz3])
        refine tk 6 ⟨some 35, .load 9 (.tmp 34), 9, _, _, _⟩ hHeld ?_
        (try simp only [Act.put, nz1, nz2, nz3])
        refine wpAnyH_ready (rs := [7]) (by kernel_rfl) (by simp) ?_
        refine AllReadyH.cons (o := ⟨some 36, .call { callee := .value (.func 103), args := #[.tmp 35], argTypes := #[9] }, 30, _, _, _⟩) rfl (fun K hK => ?_) AllReadyH.nil
        go_simp
        ((refine (HP _).mono ?_); (rintro e wn ⟨rfl, hb⟩))
        go_wp2_with fail
        refine hK.out _ _ ?hSr8_8_7 (fun hHeld2 => ?_)
        case hSr8_8_7 => (first | exact ⟨c0, c1, c2, c3, c4, hb0⟩ | (obtain ⟨s0, s1, s2, s3, s4, s5⟩ := hHeld; exact ⟨cell_later hb s0, cell_later hb s1, cell_later hb s2, cell_later hb s3, cell_later hb s4, below_step s5 hb⟩))
        clear hK K hHeld
        have hHeld := hHeld2
        clear hHeld2
        (try simp only [Act.put, nz1, nz2, nz3])
        refine tk 8 ⟨some 37, .binOp .eql 30 (.tmp 33) (.tmp 36) 30, 4, _, _, _⟩ hHeld ?_
        (try simp only [Act.put, nz1, nz2, nz3])
        refine tk 9 ⟨some 38, .pick (.tmp 32) (.tmp 37) (.const (.bool false)), 4, _, _, _⟩ hHeld ?_
        (try simp only [Act.put, nz1, nz2, nz3])
        refine tk 10 ⟨some 2, .assign (.tmp 38), 4, _, _, _⟩ hHeld ?_
        (try simp only [Act.put, nz1, nz2, nz3])
        refine wpAnyH_done (by kernel_rfl) ?_ _
        go_wp2
        go_ret
        exact ⟨rfl, hHeld.2.2.2.2.2⟩
      | false =>
        rw [Bool.false_and]
        go_enter Try.func97, Try.ntmps97
        go_wp2_with fail
        refine wp_region_held_drew (S := (fun w' => w'.cell? ⟨w.heap.size, 0, none⟩ = some (.int .i64 3) ∧ w'.cell? ⟨w.heap.size, 1, none⟩ = some (.int .i64 len) ∧ w'.cell? ⟨w.heap.size, 2, none⟩ = some (.int .u64 h) ∧ w'.cell? ⟨w.heap.size, 3, none⟩ = some (.int .u64 l) ∧ w'.cell? ⟨w.heap.size, 4, none⟩ = some (.string ⟨p.toArray⟩) ∧ Below w.heap.size w w')) (by kernel_rfl) ?hSr9_ (fun hHeld => ?_)
        case hSr9_ => (first | exact ⟨c0, c1, c2, c3, c4, hb0⟩ | (obtain ⟨s0, s1, s2, s3, s4, s5⟩ := hHeld; exact ⟨cell_later hb s0, cell_later hb s1, cell_later hb s2, cell_later hb s3, cell_later hb s4, below_step s5 hb⟩))
        refine tk 0 ⟨some 29, .fieldAddr 30 (.tmp 1) 4, 0, _, _, _⟩ hHeld ?_
        (try simp only [Act.put, nz1, nz2, nz3])
        refine tk 1 ⟨some 30, .load 9 (.tmp 29), 9, _, _, _⟩ hHeld ?_
        (try simp only [Act.put, nz1, nz2, nz3])
        refine wpAnyH_ready (rs := [2]) (by kernel_rfl) (by simp) ?_
        refine AllReadyH.cons (o := ⟨some 31, .call { callee := .value (.func 102), args := #[.tmp 30], argTypes := #[9] }, 4, _, _, _⟩) rfl (fun K hK => ?_) AllReadyH.nil
        go_simp
        ((refine (HR _).mono ?_); (rintro e wn ⟨rfl, hb⟩))
        go_wp2_with fail
        refine hK.out _ _ ?hSr9_3_2 (fun hHeld2 => ?_)
        case hSr9_3_2 => (first | exact ⟨c0, c1, c2, c3, c4, hb0⟩ | (obtain ⟨s0, s1, s2, s3, s4, s5⟩ := hHeld; exact ⟨cell_later hb s0, cell_later hb s1, cell_later hb s2, cell_later hb s3, cell_later hb s4, below_step s5 hb⟩))
        clear hK K hHeld
        have hHeld := hHeld2
        clear hHeld2
        (try simp only [Act.put, nz1, nz2, nz3])
        refine tk 3 ⟨some 32, .move (.tmp 31), 4, _, _, _⟩ hHeld ?_
        (try simp only [Act.put, nz1, nz2, nz3])
        refine ts 4 ⟨some 33, .load 30 (.tmp 1), 30, _, _, _⟩ hHeld ?_
        (try simp only [Act.put, nz1, nz2, nz3])
        refine ts 5 ⟨some 34, .fieldAddr 30 (.tmp 1) 4, 0, _, _, _⟩ hHeld ?_
        (try simp only [Act.put, nz1, nz2, nz3])
        refine ts 6 ⟨some 35, .load 9 (.tmp 34), 9, _, _, _⟩ hHeld ?_
        (try simp only [Act.put, nz1, nz2, nz3])
        refine ts 7 ⟨some 36, .call { callee := .value (.func 103), args := #[.tmp 35], argTypes := #[9] }, 30, _, _, _⟩ hHeld ?_
        (try simp only [Act.put, nz1, nz2, nz3])
        refine ts 8 ⟨some 37, .binOp .eql 30 (.tmp 33) (.tmp 36) 30, 4, _, _, _⟩ hHeld ?_
        (try simp only [Act.put, nz1, nz2, nz3])
        refine tk 9 ⟨some 38, .pick (.tmp 32) (.tmp 37) (.const (.bool false)), 4, _, _, _⟩ hHeld ?_
        (try simp only [Act.put, nz1, nz2, nz3])
        refine tk 10 ⟨some 2, .assign (.tmp 38), 4, _, _, _⟩ hHeld ?_
        (try simp only [Act.put, nz1, nz2, nz3])
        refine wpAnyH_done (by kernel_rfl) ?_ _
        go_wp2
        go_ret
        exact ⟨rfl, hHeld.2.2.2.2.2⟩
    · rw [if_neg k3] at HD
      have b3 : (kd == 3) = false := by simpa using k3
      rw [HD]
      go_enter Try.func97, Try.ntmps97
      go_wp2
      go_ret
      exact ⟨rfl, (by repeat (first | exact Below.refl _ _ | assumption | (with_reducible refine Below.setCell ?_ ?h _; case h => first | omega | (simp; done) | (simp; omega)) | (with_reducible refine Below.alloc ?_ ?h _; case h => first | omega | (simp; done) | (simp; omega)) | (with_reducible refine Below.drew ?_) | (with_reducible refine Below.trans ?_ (hb4.mono ?h); case h => first | omega | (simp; done) | (simp; omega)) | (with_reducible refine Below.trans ?_ (hb3.mono ?h); case h => first | omega | (simp; done) | (simp; omega)) | (with_reducible refine Below.trans ?_ (hb2.mono ?h); case h => first | omega | (simp; done) | (simp; omega)) | (with_reducible refine Below.trans ?_ (hb.mono ?h); case h => first | omega | (simp; done) | (simp; omega)) | (with_reducible refine Below.trans ?_ (hb0.mono ?h); case h => first | omega | (simp; done) | (simp; omega))))⟩
end Go.Proofs.Ytbekocknfpekoaa
namespace Go.Proofs.Ytbekocknfpekoaa
set_option linter.unusedVariables false
set_option linter.unusedSimpArgs false
open Go.RowKit
theorem two_rows (w : World) (a b : Array Value) (t u : TypeId) : Row ((w.alloc (.cells a t)).alloc (.cells b u)) w.heap.size a t ∧ Row ((w.alloc (.cells a t)).alloc (.cells b u)) (w.heap.size + 1) b u ∧ Below w.heap.size w ((w.alloc (.cells a t)).alloc (.cells b u)) := by
  refine ⟨(Row.new _ _ _).alloc _, ?_, (by repeat (first | exact Below.refl _ _ | assumption | (with_reducible refine Below.setCell ?_ ?h _; case h => first | omega | (simp; done) | (simp; omega)) | (with_reducible refine Below.alloc ?_ ?h _; case h => first | omega | (simp; done) | (simp; omega)) | (with_reducible refine Below.drew ?_) | (with_reducible refine Below.trans ?_ (hb4.mono ?h); case h => first | omega | (simp; done) | (simp; omega)) | (with_reducible refine Below.trans ?_ (hb3.mono ?h); case h => first | omega | (simp; done) | (simp; omega)) | (with_reducible refine Below.trans ?_ (hb2.mono ?h); case h => first | omega | (simp; done) | (simp; omega)) | (with_reducible refine Below.trans ?_ (hb.mono ?h); case h => first | omega | (simp; done) | (simp; omega)) | (with_reducible refine Below.trans ?_ (hb0.mono ?h); case h => first | omega | (simp; done) | (simp; omega))))⟩
  have := Row.new (w.alloc (.cells a t)) b u
  rwa [World.size_alloc] at this
theorem three_rows (w : World) (a b c : Array Value) (t u v : TypeId) : Row (((w.alloc (.cells a t)).alloc (.cells b u)).alloc (.cells c v)) w.heap.size a t ∧ Row (((w.alloc (.cells a t)).alloc (.cells b u)).alloc (.cells c v)) (w.heap.size + 1) b u ∧ Row (((w.alloc (.cells a t)).alloc (.cells b u)).alloc (.cells c v)) (w.heap.size + 1 + 1) c v ∧ Below w.heap.size w (((w.alloc (.cells a t)).alloc (.cells b u)).alloc (.cells c v)) := by
  obtain ⟨h1, h2, h3⟩ := two_rows w a b t u
  refine ⟨h1.alloc _, h2.alloc _, ?_, h3.alloc h3.size _⟩
  have := Row.new ((w.alloc (.cells a t)).alloc (.cells b u)) c v
  rwa [World.size_alloc, World.size_alloc] at this
set_option maxHeartbeats 4000000 in
theorem kcut_t (k : Ke) (ok : k.ok) (n : Int) (hn : n ≤ 9223372036854775807) (w : World) : Calls Try.prog 87 #[kv k, .int .i64 n] w fun e w' => e = .returned (kv (cutK k n)) ∧ Below w.heap.size w w' := by
  have HR := kright_t k ok
  have HT := ktop_t k (max n 0) ok.h ok.l (by omega) ok.path
  have HD : cutK k n = if rightK k = true then (if k.len ≤ n then k else topK k (max n 0)) else kz := rfl
  rw [HD]
  clear HD
  generalize topK k (max n 0) = t at *
  generalize rightK k = r at *
  obtain ⟨kd, len, h, l, p⟩ := k
  obtain ⟨t0, t1, t2, t3, t4⟩ := t
  clear ok
  dsimp only
  unfold kv at HR HT
  dsimp only at *
  obtain ⟨R0, R1, hb0⟩ := two_rows w #[.int .i64 kd, .int .i64 len, .int .u64 h, .int .u64 l, .string ⟨p.toArray⟩] #[.int .i64 0, .int .i64 0, .int .u64 0, .int .u64 0, .string ⟨#[]⟩] 30 30
  cases r with
  | false =>
    rw [if_neg (by simp)]
    unfold kv kz
    dsimp only
    go_enter Try.func87, Try.ntmps87
    go_wp2_with fail
    refine (HR _).mono ?_
    rintro e w1 ⟨rfl, hb⟩
    replace R1 := R1.later hb
    replace hb0 := below_step hb0 hb
    clear HR HT hb R0
    have c0 := ((R1).cell 0).trans (show _ = some (Value.int .i64 0) from rfl)
    have cf0 := (R1).frozen 0
    have c1 := ((R1).cell 1).trans (show _ = some (Value.int .i64 0) from rfl)
    have cf1 := (R1).frozen 1
    have c2 := ((R1).cell 2).trans (show _ = some (Value.int .u64 0) from rfl)
    have cf2 := (R1).frozen 2
    have c3 := ((R1).cell 3).trans (show _ = some (Value.int .u64 0) from rfl)
    have cf3 := (R1).frozen 3
    have c4 := ((R1).cell 4).trans (show _ = some (Value.string ⟨#[]⟩) from rfl)
    have cf4 := (R1).frozen 4
    clear R1
    go_wp2
    refine bodyPost_ret (v := .agg #[.int .i64 0, .int .i64 0, .int .u64 0, .int .u64 0, .string ⟨#[]⟩]) (by simp [results, Try.results87, go_sem, c0, c1, c2, c3, c4]) rfl ⟨rfl, bset5 hb0 (by omega) _ _ _ _ _⟩
  | true =>
    rw [if_pos rfl]
    by_cases hc : len ≤ n
    · rw [if_pos hc]
      unfold kv
      dsimp only
      go_enter Try.func87, Try.ntmps87
      go_wp2_with fail
      refine (HR _).mono ?_
      rintro e w1 ⟨rfl, hb⟩
      replace R1 := R1.later hb
      replace R0 := R0.later hb
      replace hb0 := below_step hb0 hb
      clear HR HT hb
      have c0 := ((R1).cell 0).trans (show _ = some (Value.int .i64 0) from rfl)
      have cf0 := (R1).frozen 0
      have c1 := ((R1).cell 1).trans (show _ = some (Value.int .i64 0) from rfl)
      have cf1 := (R1).frozen 1
      have c2 := ((R1).cell 2).trans (show _ = some (Value.int .u64 0) from rfl)
      have cf2 := (R1).frozen 2
      have c3 := ((R1).cell 3).trans (show _ = some (Value.int .u64 0) from rfl)
      have cf3 := (R1).frozen 3
      have c4 := ((R1).cell 4).trans (show _ = some (Value.string ⟨#[]⟩) from rfl)
      have cf4 := (R1).frozen 4
      have d0 := ((R0).cell 0).trans (show _ = some (Value.int .i64 kd) from rfl)
      have df0 := (R0).frozen 0
      have d1 := ((R0).cell 1).trans (show _ = some (Value.int .i64 len) from rfl)
      have df1 := (R0).frozen 1
      have d2 := ((R0).cell 2).trans (show _ = some (Value.int .u64 h) from rfl)
      have df2 := (R0).frozen 2
      have d3 := ((R0).cell 3).trans (show _ = some (Value.int .u64 l) from rfl)
      have df3 := (R0).frozen 3
      have d4 := ((R0).cell 4).trans (show _ = some (Value.string ⟨p.toArray⟩) from rfl)
      have df4 := (R0).frozen 4
      clear R1 R0
      go_wp2
      refine bodyPost_ret (v := .agg #[.int .i64 kd, .int .i64 len, .int .u64 h, .int .u64 l, .string ⟨p.toArray⟩]) (by simp [results, Try.results87, go_sem, c0, c1, c2, c3, c4]) rfl ⟨rfl, bset5 hb0 (by omega) _ _ _ _ _⟩
    · rw [if_neg hc]
      unfold kv
      dsimp only
      go_enter Try.func87, Try.ntmps87
      go_wp2_with fail
      refine (HR _).mono ?_
      rintro e w1 ⟨rfl, hb⟩
      replace R1 := R1.later hb
      replace R0 := R0.later hb
      replace hb0 := below_step hb0 hb
      clear HR hb
      have d0 := ((R0).cell 0).trans (show _ = some (Value.int .i64 kd) from rfl)
      have df0 := (R0).frozen 0
      have d1 := ((R0).cell 1).trans (show _ = some (Value.int .i64 len) from rfl)
      have df1 := (R0).frozen 1
      have d2 := ((R0).cell 2).trans (show _ = some (Value.int .u64 h) from rfl)
      have df2 := (R0).frozen 2
      have d3 := ((R0).cell 3).trans (show _ = some (Value.int .u64 l) from rfl)
      have df3 := (R0).frozen 3
      have d4 := ((R0).cell 4).trans (show _ = some (Value.string ⟨p.toArray⟩) from rfl)
      have df4 := (R0).frozen 4
      clear R0
      go_wp2_with fail
      refine (HT _).mono ?_
      rintro e w2 ⟨rfl, hb⟩
      replace R1 := R1.later hb
      replace hb0 := below_step hb0 hb
      clear HT hb d0 d1 d2 d3 d4 df0 df1 df2 df3 df4
      have c0 := ((R1).cell 0).trans (show _ = some (Value.int .i64 0) from rfl)
      have cf0 := (R1).frozen 0
      have c1 := ((R1).cell 1).trans (show _ = some (Value.int .i64 0) from rfl)
      have cf1 := (R1).frozen 1
      have c2 := ((R1).cell 2).trans (show _ = some (Value.int .u64 0) from rfl)
      have cf2 := (R1).frozen 2
      have c3 := ((R1).cell 3).trans (show _ = some (Value.int .u64 0) from rfl)
      have cf3 := (R1).frozen 3
      have c4 := ((R1).cell 4).trans (show _ = some (Value.string ⟨#[]⟩) from rfl)
      have cf4 := (R1).frozen 4
      clear R1
      go_wp2
      refine bodyPost_ret (v := .agg #[.int .i64 t0, .int .i64 t1, .int .u64 t2, .int .u64 t3, .string ⟨t4.toArray⟩]) (by simp [results, Try.results87, go_sem, c0, c1, c2, c3, c4]) rfl ⟨rfl, bset5 hb0 (by omega) _ _ _ _ _⟩
end Go.Proofs.Ytbekocknfpekoaa
namespace Go.Proofs.Ytbekocknfpekoaa
set_option linter.unusedVariables false
set_option linter.unusedSimpArgs false
open Go.RowKit
/-- -1, 0 or 1, as the bytes of a are below, equal to or above those of b -/
def cmpB (a b : ByteArray) : Int := if Op.bytesLess a.toList b.toList = true then -1 else if a.toList = b.toList then 0 else 1
def cmpS (a b : List UInt8) : Int := if Op.bytesLess a b = true then -1 else if a = b then 0 else 1
theorem bytes_list (l : List UInt8) : (⟨l.toArray⟩ : ByteArray).toList = l := by rw [ByteArray.toList_eq]
/-- the first that is not 0 -/
def fnz : List Int → Int
  | [] => 0
  | x :: r => if x = 0 then fnz r else x
def cmpK (a b : Ke) : Int := fnz [cmpI a.kind b.kind, cmpI a.num b.num, cmpS a.path b.path, cmpI a.len b.len]
end Go.Proofs.Ytbekocknfpekoaa
namespace Go.Proofs.Ytbekocknfpekoaa
set_option linter.unusedVariables false
set_option linter.unusedSimpArgs false
open Go.RowKit
def fourK (a : Int) : Ke := ⟨1, 32, hi (a * 2 ^ 96), lo (a * 2 ^ 96), []⟩
def sixK (h l : Int) : Ke := ⟨2, 128, h, l, []⟩
def rootK (kind : Int) : Ke := if wid kind = 0 then kz else ⟨kind, 0, 0, 0, []⟩
def pathE (p : List UInt8) : Int := if rightB p = true then 0 else 3
def pathR (p : List UInt8) : Ke := if rightB p = true then pathK p else kz
set_option maxHeartbeats 1000000 in
theorem kfour_t (a : Int) (h0 : 0 ≤ a) (h1 : a < 4294967296) (w : World) : Calls Try.prog 60 #[.int .u32 a] w fun e w' => e = .returned (kv (fourK a)) ∧ Below w.heap.size w w' := by
  have ha : Word a := by unfold Word; omega
  have HO := of_any a
  have HL := left_any 0 a 96 (by unfold Word; omega) ha
  have ew : wv 0 a = a := by unfold wv; omega
  rw [ew] at HL
  have e2 : (2 : Int) ^ (96 : Int).toNat = 2 ^ 96 := rfl
  rw [e2] at HL
  unfold kv fourK
  dsimp only
  generalize hi (a * 2 ^ 96) = H at *
  generalize lo (a * 2 ^ 96) = L at *
  have HB := ofBits_t 1 32 H L
  have wr : IntKind.u64.wrap a = a := by rw [IntKind.wrap_u64]; omega
  have hb0 : Below w.heap.size w (w.alloc (.cells #[.int .i64 0, .int .i64 0, .int .u64 0, .int .u64 0, .string ⟨#[]⟩] 30)) := (by repeat (first | exact Below.refl _ _ | assumption | (with_reducible refine Below.setCell ?_ ?h _; case h => first | omega | (simp; done) | (simp; omega)) | (with_reducible refine Below.alloc ?_ ?h _; case h => first | omega | (simp; done) | (simp; omega)) | (with_reducible refine Below.drew ?_) | (with_reducible refine Below.trans ?_ (hb4.mono ?h); case h => first | omega | (simp; done) | (simp; omega)) | (with_reducible refine Below.trans ?_ (hb3.mono ?h); case h => first | omega | (simp; done) | (simp; omega)) | (with_reducible refine Below.trans ?_ (hb2.mono ?h); case h => first | omega | (simp; done) | (simp; omega)) | (with_reducible refine Below.trans ?_ (hb.mono ?h); case h => first | omega | (simp; done) | (simp; omega)) | (with_reducible refine Below.trans ?_ (hb0.mono ?h); case h => first | omega | (simp; done) | (simp; omega))))
  have R := Row.new w #[.int .i64 0, .int .i64 0, .int .u64 0, .int .u64 0, .string ⟨#[]⟩] 30
  go_enter Try.func60, Try.ntmps60
  go_wp2_with fail
  refine (HO _).mono ?_
  rintro e w1 ⟨rfl, hb⟩
  replace R := R.later hb
  replace hb0 := below_step hb0 hb
  clear hb HO
  go_wp2_with fail
  refine (HL _).mono ?_
  rintro e w2 ⟨rfl, hb⟩
  replace R := R.later hb
  replace hb0 := below_step hb0 hb
  clear hb HL
  go_wp2_with fail
  refine (HB _).mono ?_
  rintro e w3 ⟨rfl, hb⟩
  replace R := R.later hb
  replace hb0 := below_step hb0 hb
  clear hb HB
  have c0 := ((R).cell 0).trans (show _ = some (Value.int .i64 0) from rfl)
  have cf0 := (R).frozen 0
  have c1 := ((R).cell 1).trans (show _ = some (Value.int .i64 0) from rfl)
  have cf1 := (R).frozen 1
  have c2 := ((R).cell 2).trans (show _ = some (Value.int .u64 0) from rfl)
  have cf2 := (R).frozen 2
  have c3 := ((R).cell 3).trans (show _ = some (Value.int .u64 0) from rfl)
  have cf3 := (R).frozen 3
  have c4 := ((R).cell 4).trans (show _ = some (Value.string ⟨#[]⟩) from rfl)
  have cf4 := (R).frozen 4
  clear R
  go_wp2
  refine bodyPost_ret (v := .agg #[.int .i64 1, .int .i64 32, .int .u64 H, .int .u64 L, .string ⟨#[]⟩]) (by simp [results, Try.results60, go_sem, c0, c1, c2, c3, c4]) rfl ⟨rfl, bset5 hb0 (Nat.le_refl _) _ _ _ _ _⟩
set_option maxHeartbeats 1000000 in
theorem kroot_t (k : Int) (w : World) : Calls Try.prog 56 #[.int .i64 k] w fun e w' => e = .returned (kv (rootK k)) ∧ Below w.heap.size w w' := by
  have HW := width_t k
  unfold rootK
  generalize wid k = d at *
  have hb0 : Below w.heap.size w (w.alloc (.cells #[.int .i64 0, .int .i64 0, .int .u64 0, .int .u64 0, .string ⟨#[]⟩] 30)) := (by repeat (first | exact Below.refl _ _ | assumption | (with_reducible refine Below.setCell ?_ ?h _; case h => first | omega | (simp; done) | (simp; omega)) | (with_reducible refine Below.alloc ?_ ?h _; case h => first | omega | (simp; done) | (simp; omega)) | (with_reducible refine Below.drew ?_) | (with_reducible refine Below.trans ?_ (hb4.mono ?h); case h => first | omega | (simp; done) | (simp; omega)) | (with_reducible refine Below.trans ?_ (hb3.mono ?h); case h => first | omega | (simp; done) | (simp; omega)) | (with_reducible refine Below.trans ?_ (hb2.mono ?h); case h => first | omega | (simp; done) | (simp; omega)) | (with_reducible refine Below.trans ?_ (hb.mono ?h); case h => first | omega | (simp; done) | (simp; omega)) | (with_reducible refine Below.trans ?_ (hb0.mono ?h); case h => first | omega | (simp; done) | (simp; omega))))
  have R := Row.new w #[.int .i64 0, .int .i64 0, .int .u64 0, .int .u64 0, .string ⟨#[]⟩] 30
  by_cases h : d = 0
  · subst h
    rw [if_pos rfl]
    unfold kv kz
    dsimp only
    go_enter Try.func56, Try.ntmps56
    go_wp2_with fail
    refine (HW _).mono ?_
    rintro e w1 ⟨rfl, hb⟩
    replace R := R.later hb
    replace hb0 := below_step hb0 hb
    clear hb HW
    have c0 := ((R).cell 0).trans (show _ = some (Value.int .i64 0) from rfl)
    have cf0 := (R).frozen 0
    have c1 := ((R).cell 1).trans (show _ = some (Value.int .i64 0) from rfl)
    have cf1 := (R).frozen 1
    have c2 := ((R).cell 2).trans (show _ = some (Value.int .u64 0) from rfl)
    have cf2 := (R).frozen 2
    have c3 := ((R).cell 3).trans (show _ = some (Value.int .u64 0) from rfl)
    have cf3 := (R).frozen 3
    have c4 := ((R).cell 4).trans (show _ = some (Value.string ⟨#[]⟩) from rfl)
    have cf4 := (R).frozen 4
    clear R
    go_wp2
    refine bodyPost_ret (v := .agg #[.int .i64 0, .int .i64 0, .int .u64 0, .int .u64 0, .string ⟨#[]⟩]) (by simp [results, Try.results56, go_sem, c0, c1, c2, c3, c4]) rfl ⟨rfl, bset5 hb0 (by omega) _ _ _ _ _⟩
  · rw [if_neg h]
    have h' : (d == 0) = false := by simpa using h
    unfold kv
    dsimp only
    go_enter Try.func56, Try.ntmps56
    go_wp2_with fail
    refine (HW _).mono ?_
    rintro e w1 ⟨rfl, hb⟩
    replace R := R.later hb
    replace hb0 := below_step hb0 hb
    clear hb HW
    have c0 := ((R).cell 0).trans (show _ = some (Value.int .i64 0) from rfl)
    have cf0 := (R).frozen 0
    have c1 := ((R).cell 1).trans (show _ = some (Value.int .i64 0) from rfl)
    have cf1 := (R).frozen 1
    have c2 := ((R).cell 2).trans (show _ = some (Value.int .u64 0) from rfl)
    have cf2 := (R).frozen 2
    have c3 := ((R).cell 3).trans (show _ = some (Value.int .u64 0) from rfl)
    have cf3 := (R).frozen 3
    have c4 := ((R).cell 4).trans (show _ = some (Value.string ⟨#[]⟩) from rfl)
    have cf4 := (R).frozen 4
    clear R
    go_wp2
    refine bodyPost_ret (v := .agg #[.int .i64 k, .int .i64 0, .int .u64 0, .int .u64 0, .string ⟨#[]⟩]) (by simp [results, Try.results56, go_sem, c0, c1, c2, c3, c4]) rfl ⟨rfl, bset5 hb0 (by omega) _ _ _ _ _⟩
end Go.Proofs.Ytbekocknfpekoaa
namespace Go.Proofs.Ytbekocknfpekoaa
set_option linter.unusedVariables false
set_option linter.unusedSimpArgs false
open Go.RowKit
theorem rwidth_t (k : Int) (w : World) : Calls Try.prog 81 #[.int .i64 k] w fun e w' => e = .returned (.int .i64 (wid k)) ∧ Below w.heap.size w w' := by
  by_cases h1 : k = 1
  · subst h1
    go_enter Try.func81, Try.ntmps81
    go_wp2
    go_ret
    exact ⟨rfl, bw⟩
  by_cases h2 : k = 2
  · subst h2
    go_enter Try.func81, Try.ntmps81
    go_wp2
    go_ret
    exact ⟨rfl, bw⟩
  by_cases h3 : k = 3
  · subst h3
    go_enter Try.func81, Try.ntmps81
    go_wp2
    go_ret
    exact ⟨rfl, bw⟩
  have e : wid k = 0 := by unfold wid; rw [if_neg h1, if_neg h2, if_neg h3]
  rw [e]
  have b1 : (k == 1) = false := by simpa using h1
  have b2 : (k == 2) = false := by simpa using h2
  have b3 : (k == 3) = false := by simpa using h3
  go_enter Try.func81, Try.ntmps81
  go_wp2
  go_ret
  exact ⟨rfl, bw⟩
def bit01 (b : Bool) : Int := if b = true then 1 else 0
theorem bit_hi {h l : Int} (hh : Word h) (hl : Word l) {j : Nat} (hj : j < 64) : h / 2 ^ (63 - j) % 2 = bit01 (bitI (wv h l) j) := by
  rw [bit_def _ j (by omega)]
  have e : wv h l / 2 ^ (127 - j) = h / 2 ^ (63 - j) := by
    unfold wv Word at *
    have e1 : (2 : Int) ^ (127 - j) = 18446744073709551616 * 2 ^ (63 - j) := by
      rw [show (18446744073709551616 : Int) = 2 ^ 64 from rfl, ← Int.pow_add]; congr 1; omega
    rw [e1, ← Int.ediv_ediv_of_nonneg (by decide)]
    congr 1
    omega
  rw [e]
  unfold bit01
  generalize h / 2 ^ (63 - j) = y
  by_cases hy : y % 2 = 1
  · simp [hy]
  · rw [if_neg (by simpa using hy)]; omega
theorem bit_lo {h l : Int} (hh : Word h) (hl : Word l) {j : Nat} (h64 : 64 ≤ j) (hj : j < 128) : l / 2 ^ (127 - j) % 2 = bit01 (bitI (wv h l) j) := by
  rw [bit_def _ j hj]
  have e1 : (18446744073709551616 : Int) = 2 ^ (j - 63) * 2 ^ (127 - j) := by
    rw [show (18446744073709551616 : Int) = 2 ^ 64 from rfl, ← Int.pow_add]; congr 1; omega
  have e : wv h l / 2 ^ (127 - j) = h * 2 ^ (j - 63) + l / 2 ^ (127 - j) := by
    unfold wv
    rw [e1, ← Int.mul_assoc, Int.add_comm, Int.add_mul_ediv_right _ _ (pow2_ne _)]; omega
  have e2 : (2 : Int) ^ (j - 63) = 2 * 2 ^ (j - 64) := by rw [← Int.pow_succ']; congr 1; omega
  rw [e, e2]
  unfold bit01
  generalize l / 2 ^ (127 - j) = y
  generalize (2 : Int) ^ (j - 64) = z
  rw [show h * (2 * z) = 2 * (h * z) by rw [Int.mul_left_comm]]
  generalize h * z = t
  by_cases hy : y % 2 = 1
  · rw [hy, if_pos (by simp; omega)]
  · rw [if_neg (by simp; omega)]; omega
end Go.Proofs.Ytbekocknfpekoaa
namespace Go.Proofs.Ytbekocknfpekoaa
set_option linter.unusedVariables false
set_option linter.unusedSimpArgs false
open Go.RowKit
theorem word_div_nn {h : Int} (hh : Word h) (n : Nat) : 0 ≤ h / 2 ^ n := Int.ediv_nonneg hh.1 (Int.le_of_lt (Int.pow_pos (by decide)))
set_option maxHeartbeats 1000000 in
theorem rbit_t (h l : Int) (hh : Word h) (hl : Word l) (j : Nat) (hj : j < 128) (w : World) : Calls Try.prog 105 #[.int .u64 h, .int .u64 l, .int .i64 j] w fun e w' => e = .returned (.int .u64 (bit01 (bitI (wv h l) j))) ∧ Below w.heap.size w w' := by
  by_cases h64 : j < 64
  · have H := Lib.hid (bit_hi hh hl h64)
    have nn := word_div_nn hh (63 - j)
    have e1 : ((63 : Int) - (j : Int)).toNat = 63 - j := by omega
    have b1 := hh.1
    have b2 := hh.2
    have e2 : IntKind.u64.wrap (63 - (j : Int)) = 63 - (j : Int) := by rw [IntKind.wrap_u64]; omega
    clear hh hl
    go_enter Try.func105, Try.ntmps105
    go_wp2
    go_ret
    exact ⟨ret_int (by rw [← H.out]), bw⟩
  · have H := Lib.hid (bit_lo hh hl (by omega) hj)
    have nn := word_div_nn hl (127 - j)
    have e1 : ((127 : Int) - (j : Int)).toNat = 127 - j := by omega
    have b1 := hl.1
    have b2 := hl.2
    have e2 : IntKind.u64.wrap (127 - (j : Int)) = 127 - (j : Int) := by rw [IntKind.wrap_u64]; omega
    clear hh hl
    go_enter Try.func105, Try.ntmps105
    go_wp2
    go_ret
    exact ⟨ret_int (by rw [← H.out]), bw⟩
end Go.Proofs.Ytbekocknfpekoaa
namespace Go.Proofs.Ytbekocknfpekoaa
set_option linter.unusedVariables false
set_option linter.unusedSimpArgs false
open Go.RowKit
theorem take_drop_succ (l : List UInt8) (fr j : Nat) (h : fr ≤ j) (hj : j < l.length) : (l.take (j + 1)).drop fr = (l.take j).drop fr ++ [l[j]] := by
  rw [List.take_add_one, List.getElem?_eq_getElem hj, List.drop_append_of_le_length (by simp; omega)]
  rfl
theorem drop_split (l : List UInt8) (fr j : Nat) (h : fr ≤ j) (hj : j < l.length) : l.drop fr = (l.take j).drop fr ++ l[j] :: l.drop (j + 1) := by
  have h1 : l.drop fr = (l.take j ++ l.drop j).drop fr := by rw [List.take_append_drop]
  rw [h1, List.drop_append_of_le_length (by simp; omega), List.drop_eq_getElem_cons hj]
def SpInv (l : List UInt8) (fr j : Nat) (vs : List (List UInt8)) : Prop :=
  (∀ x ∈ vs, labB x = true) ∧ ((fr ≤ j ∧ j ≤ l.length ∧ (46 : UInt8) ∉ (l.take j).drop fr ∧ splitD l = vs ++ splitD (l.drop fr)) ∨ (j = l.length + 1 ∧ splitD l = vs))
theorem SpInv.next {l : List UInt8} {fr j : Nat} {vs : List (List UInt8)} (h : SpInv l fr j vs) (hj : j < l.length) (hc : l[j] ≠ 46) : SpInv l fr (j + 1) vs := by
  refine ⟨h.1, ?_⟩
  rcases h.2 with ⟨h1, h2, h3, h4⟩ | ⟨h1, _⟩
  · refine .inl ⟨by omega, by omega, ?_, h4⟩
    rw [take_drop_succ l fr j h1 hj]
    intro hm
    rcases List.mem_append.1 hm with hm | hm
    · exact h3 hm
    · simp at hm; exact hc hm.symm
  · omega
/-- what a part at place j does -/
def PartDo (l : List UInt8) (fr j : Nat) (vs : List (List UInt8)) (p : List UInt8) : Prop := fr ≤ j ∧ (labB p = true → vs.length < 8 → SpInv l (j + 1) (j + 1) (vs ++ [p])) ∧ (labB p = false ∨ 8 ≤ vs.length → rightB l = false)
theorem rb_false {l : List UInt8} (h0 : l ≠ []) {vs rest : List (List UInt8)} {p : List UInt8} (h : splitD l = vs ++ p :: rest) (hb : labB p = false ∨ 8 ≤ vs.length) : rightB l = false := by
  unfold rightB partsL
  rw [if_neg h0, h]
  rcases hb with hb | hb
  · simp [hb]
  · have : ¬ (vs ++ p :: rest).length ≤ 8 := by simp; omega
    simp only [this]; simp
theorem SpInv.part {l : List UInt8} {fr j : Nat} {vs : List (List UInt8)} (h0 : l ≠ []) (h : SpInv l fr j vs) (hj : j < l.length) (hc : l[j] = 46) : PartDo l fr j vs ((l.take j).drop fr) := by
  rcases h.2 with ⟨h1, h2, h3, h4⟩ | ⟨h1, _⟩
  · have hs : splitD (l.drop fr) = (l.take j).drop fr :: splitD (l.drop (j + 1)) := by rw [drop_split l fr j h1 hj, hc, splitD_at _ _ h3]
    rw [hs] at h4
    refine ⟨h1, fun hl h8 => ⟨?_, .inl ⟨Nat.le_refl _, by omega, ?_, ?_⟩⟩, fun hb => rb_false h0 h4 hb⟩
    · intro x hx
      rcases List.mem_append.1 hx with hx | hx
      · exact h.1 x hx
      · simp at hx; rw [hx]; exact hl
    · rw [List.drop_eq_nil_of_le (by rw [List.length_take]; omega)]; simp
    · rw [h4]; simp
  · omega
theorem SpInv.last {l : List UInt8} {fr : Nat} {vs : List (List UInt8)} (h0 : l ≠ []) (h : SpInv l fr l.length vs) : PartDo l fr l.length vs ((l.take l.length).drop fr) := by
  rcases h.2 with ⟨h1, h2, h3, h4⟩ | ⟨h1, _⟩
  · rw [List.take_length] at h3 ⊢
    rw [splitD_no _ h3] at h4
    refine ⟨h1, fun hl h8 => ⟨?_, .inr ⟨rfl, h4⟩⟩, fun hb => rb_false h0 h4 hb⟩
    intro x hx
    rcases List.mem_append.1 hx with hx | hx
    · exact h.1 x hx
    · simp at hx; rw [hx]; exact hl
  · omega
theorem SpInv.done {l : List UInt8} {fr : Nat} {vs : List (List UInt8)} (h0 : l ≠ []) (h : SpInv l fr (l.length + 1) vs) (h8 : vs.length ≤ 8) : rightB l = true ∧ labsL l = vs := by
  rcases h.2 with ⟨_, h2, _⟩ | ⟨_, h4⟩
  · omega
  · have hr : rightB l = true := by
      unfold rightB partsL
      rw [if_neg h0, h4]
      simp [h8]; exact h.1
    exact ⟨hr, by unfold labsL partsL; rw [if_pos hr, if_neg h0, h4]⟩
theorem SpInv.zero (l : List UInt8) : SpInv l 0 0 [] := ⟨by simp, .inl ⟨Nat.le_refl _, by omega, by simp, by simp⟩⟩
/-- the answer of the reference's Split -/
def RSplitPost (l : List UInt8) (w : World) (e : Ending) (w' : World) : Prop := ∃ v, e = .returned (.tuple #[v, .bool (rightB l)]) ∧ SS w' v (labsL l) ∧ Below w.heap.size w w'
theorem RSplit_bad {l : List UInt8} {w w' : World} (h : rightB l = false) (hb : Below w.heap.size w w') : RSplitPost l w (.returned (.tuple #[.slice none 0 0, .bool false])) w' := by
  refine ⟨_, by rw [h], ?_, hb⟩
  have : labsL l = [] := by unfold labsL; rw [h]; simp
  rw [this]; exact SS.nil _
set_option maxRecDepth 100000 in
set_option maxHeartbeats 8000000 in
theorem rSplit_t (l : List UInt8) (hl : l.length ≤ 140737488355328) (w : World) : Calls Try.prog 104 #[.string ⟨l.toArray⟩] w (RSplitPost l w) := by
  have hsz := bs_size l
  by_cases h0 : l = []
  · subst h0
    have hP : RSplitPost [] w (.returned (.tuple #[.slice none 0 0, .bool true])) w := ⟨_, rfl, SS.nil _, Below.refl _ _⟩
    have HP := Lib.hid hP
    clear hP
    go_enter Try.func104, Try.ntmps104
    go_wp2_with fail
    go_loopw [4, 5, 6] (fun o f i wr => o = .slice none 0 0 ∧ f = .int .i64 0 ∧ i = .int .i64 0 ∧ wr = w) (fun _ _ _ _ => 0)
    case atStart => exact ⟨rfl, rfl, rfl, rfl⟩
    case round =>
      obtain ⟨rfl, rfl, rfl, rfl⟩ := hrel
      go_wp2
      exact bodyPost_ret (v := .tuple #[.slice none 0 0, .bool true]) (by simp [results, Try.results104, go_sem]) rfl HP.out
  · have hpos : 0 < l.length := List.length_pos_iff.2 h0
    have hpos' : (0 : Int) < (l.length : Int) := by omega
    have hie : l.isEmpty = false := by cases l <;> simp_all
    have HI0 := Lib.hid (SpInv.zero l)
    have HBAD := Lib.hid (show ∀ w', rightB l = false → Below w.heap.size w w' → RSplitPost l w (.returned (.tuple #[.slice none 0 0, .bool false])) w' from fun _ h hb => RSplit_bad h hb)
    have HEND : Hid (∀ fr vs v wr, SpInv l fr (l.length + 1) vs → vs.length ≤ 8 → OwnS w.heap.size wr v vs → Below w.heap.size w wr → RSplitPost l w (.returned (.tuple #[v, .bool true])) wr) := Lib.hid fun fr vs v wr hI h8 hO hB => by
      obtain ⟨hr, hls⟩ := hI.done h0 h8
      refine ⟨v, by rw [hr], ?_, hB⟩
      rw [hls]; exact hO.read
    have HP := Lib.hid (fun fr j vs => @SpInv.part l fr j vs h0)
    have HL := Lib.hid (fun fr vs => @SpInv.last l fr vs h0)
    clear h0
    go_enter Try.func104, Try.ntmps104
    go_wp2_with fail
    go_loopw [4, 5, 6] (fun o f i wr => ∃ (fr j : Nat) (vs : List (List UInt8)) (po : Option Addr) (co : Nat), o = .slice po vs.length co ∧ f = .int .i64 (fr : Nat) ∧ i = .int .i64 (j : Nat) ∧ j ≤ l.length + 1 ∧ vs.length ≤ 8 ∧ Hid (SpInv l fr j vs) ∧ Hid (OwnS w.heap.size wr (.slice po vs.length co) vs) ∧ Hid (Below w.heap.size w wr)) (fun _ _ i _ => l.length + 1 - (intOf i).toNat)
    case atStart => exact ⟨0, 0, [], none, 0, rfl, rfl, rfl, by omega, by simp, HI0, Lib.hid (OwnS.nil _ _), Lib.hid (Below.refl _ _)⟩
    case round =>
      clear HI0
      obtain ⟨fr, j, vs, po, co, rfl, rfl, rfl, hj1, hv8, hI, hO, hB⟩ := hrel
      by_cases hj2 : j = l.length + 1
      · subst hj2
        have HE := Lib.hid (HEND.out fr vs _ wr hI.out hv8 hO.out hB.out)
        have hle' : ¬ ((l.length : Int) + 1) ≤ (l.length : Int) := by omega
        clear hI HEND HBAD HP HL
        go_wp2
        exact bodyPost_ret (v := .tuple #[.slice po vs.length co, .bool true]) (by simp [results, Try.results104, go_sem]) rfl HE.out
      have hle' : (j : Int) ≤ (l.length : Int) := by omega
      have hmain : (∃ c, c ≠ 46 ∧ ∃ h : j < l.length, l[j] = c) ∨ (PartDo l fr j vs ((l.take j).drop fr) ∧ ((∃ h : j < l.length, l[j] = 46) ∨ j = l.length)) := by
        by_cases hlt : j < l.length
        · by_cases hc : l[j] = 46
          · exact .inr ⟨HP.out fr j vs hI.out hlt hc, .inl ⟨hlt, hc⟩⟩
          · exact .inl ⟨_, hc, hlt, rfl⟩
        · have : j = l.length := by omega
          subst this
          exact .inr ⟨HL.out fr vs hI.out, .inr rfl⟩
      rcases hmain with ⟨c, hc, hlt, hlj⟩ | ⟨⟨hfj, hsome, hnone⟩, hw⟩
      · have HN := Lib.hid (hI.out.next hlt (by rw [hlj]; exact hc))
        have hsp : j < (⟨l.toArray⟩ : ByteArray).size := by rw [hsz]; exact hlt
        have hch : (⟨l.toArray⟩ : ByteArray)[j]'hsp = c := hlj
        have hc46 : ¬ (c.toNat : Int) = 46 := fun e => hc (by apply UInt8.toNat_inj.1; show c.toNat = 46; omega)
        have hc46' : ((c.toNat : Int) == 46) = false := by simpa using hc46
        have hlt' : (j : Int) < (l.length : Int) := by omega
        clear hI HEND HBAD HP HL hlj
        go_wp2
        exact ⟨⟨fr, j + 1, vs, po, co, rfl, rfl, by go_num, by omega, hv8, HN, hO, hB⟩, by simp [intOf]; omega⟩
      · have hpl : ((l.take j).drop fr).length ≤ 140737488355328 := by simp; omega
        have hG := rIsLabel_t ((l.take j).drop fr) hpl wr
        have hext := ext_l l fr j
        have hfj' : (fr : Int) ≤ (j : Int) := by omega
        have HS := Lib.hid hsome
        have HN := Lib.hid hnone
        have HG := Lib.hid hG
        clear hsome hnone hG hpl HP HL hI
        generalize (l.take j).drop fr = p at *
        have hw' : (∃ hsp : j < (⟨l.toArray⟩ : ByteArray).size, (⟨l.toArray⟩ : ByteArray)[j]'hsp = 46 ∧ (j : Int) < (l.length : Int)) ∨ j = l.length := by
          rcases hw with ⟨hlt, hlj⟩ | h
          · exact .inl ⟨by rw [hsz]; exact hlt, hlj, by omega⟩
          · exact .inr h
        clear hw
        rcases hw' with ⟨hsp, hch, hlt'⟩ | hjl
        all_goals
          try subst hjl
          go_wp2_with fail
          refine HG.out.mono ?_
          rintro e w1 ⟨rfl, rfl⟩
          cases hlb : labB p with
          | false =>
            have HE := Lib.hid (HBAD.out _ (HN.out (.inl hlb)) hB.out)
            clear HBAD HN HS HEND HG hlb
            go_wp2
            exact bodyPost_ret (v := .tuple #[.slice none 0 0, .bool false]) (by simp [results, Try.results104, go_sem]) rfl HE.out
          | true =>
            by_cases h8 : 8 ≤ vs.length
            · have HE := Lib.hid (HBAD.out _ (HN.out (.inr h8)) hB.out)
              have h8' : (8 : Int) ≤ (vs.length : Int) := by omega
              clear HBAD HN HS HEND HG hlb
              go_wp2
              exact bodyPost_ret (v := .tuple #[.slice none 0 0, .bool false]) (by simp [results, Try.results104, go_sem]) rfl HE.out
            · have HI := Lib.hid (HS.out hlb (by omega))
              have h8' : ¬ (8 : Int) ≤ (vs.length : Int) := by omega
              obtain ⟨v', w2, hrun, hown, hb2⟩ := appS_one p hO.out hB.out (by omega) hB.out.size
              obtain ⟨pv, cv, rfl, _, _⟩ := hown.read
              have HOW := Lib.hid hown
              have HB2 := Lib.hid hb2
              have HRUN := Lib.hid hrun
              clear HBAD HN HS HEND HG hlb hrun hown hb2
              have tok : True := trivial
              go_wp2_with (have _t := tok; at_builtin; refine wpList_appS rfl (.tmp 39) (.tmp 44) 107 rfl rfl rfl HRUN.out ?_; clear tok HRUN)
              refine ⟨⟨_, _, vs ++ [p], pv, cv, by simp, by go_num, by go_num, by omega, by simp; omega, HI, HOW, HB2⟩, ?_⟩
              simp [intOf] <;> omega
end Go.Proofs.Ytbekocknfpekoaa
namespace Go.Proofs.Ytbekocknfpekoaa
set_option linter.unusedVariables false
set_option linter.unusedSimpArgs false
open Go.RowKit
theorem app_ll (a b : List UInt8) : (⟨a.toArray⟩ : ByteArray) ++ ⟨b.toArray⟩ = ⟨(a ++ b).toArray⟩ := by
  apply ByteArray.ext
  simp
theorem dot_l (a : List UInt8) : (⟨a.toArray⟩ : ByteArray) ++ ⟨#[46]⟩ = ⟨(a ++ [46]).toArray⟩ := app_ll a [46]
theorem jn_take_succ {ls : List (List UInt8)} {j : Nat} {x : List UInt8} (hx : ls[j]? = some x) (hj : 0 < j) : jn (ls.take (j + 1)) = jn (ls.take j) ++ [46] ++ x := by
  have hl : j < ls.length := by rw [List.getElem?_eq_some_iff] at hx; exact hx.1
  rw [List.take_add_one, hx, jn_app (ls.take j) _ (by intro e; rw [List.take_eq_nil_iff] at e; rcases e with e | e; omega; rw [e] at hl; simp at hl) (by simp)]
  show _ ++ 46 :: jn [x] = _
  rw [jn_one]; simp
theorem jn_take_one {ls : List (List UInt8)} {x : List UInt8} (hx : ls[0]? = some x) : jn (ls.take 1) = x := by
  rw [List.take_add_one, hx]; exact jn_one x
set_option maxRecDepth 100000 in
set_option maxHeartbeats 2000000 in
theorem rJoin_t (v : Value) (ls : List (List UInt8)) (h8 : ls.length ≤ 8) (hsl : ∀ x ∈ ls, x.length ≤ 16) (w : World) (hS : SS w v ls) : Calls Try.prog 99 #[v] w fun e w' => e = .returned (.string ⟨(jn ls).toArray⟩) ∧ w = w' := by
  obtain ⟨p, c, rfl, hc, hp⟩ := hS
  have HP := Lib.hid hp
  clear hp
  have hjl : ∀ j, (jn (ls.take j)).length ≤ 17 * 8 := fun j => by
    have := jn_bound (ls.take j) (fun x hx => hsl x (List.mem_of_mem_take hx))
    rw [List.length_take] at this; omega
  have HJL := Lib.hid hjl
  clear hjl
  go_enter Try.func99, Try.ntmps99
  go_wp2_with fail
  go_loopw [3, 4] (fun o i wr => ∃ (j : Nat), j ≤ ls.length ∧ i = .int .i64 (j : Nat) ∧ o = .string ⟨(jn (ls.take j)).toArray⟩ ∧ wr = w) (fun _ i _ => ls.length - (intOf i).toNat)
  case atStart => exact ⟨0, by omega, rfl, rfl, rfl⟩
  case round =>
    obtain ⟨j, hj, rfl, rfl, rfl⟩ := hrel
    by_cases hlt : j < ls.length
    · obtain ⟨g, o, rfl, hg, hC⟩ := HP.out (by omega)
      obtain ⟨x, hx⟩ : ∃ x, ls[j]? = some x := ⟨_, List.getElem?_eq_getElem hlt⟩
      have cA := hC j x hx
      have hxl := hsl x (List.mem_of_getElem? hx)
      have hji : (j : Int) < (ls.length : Int) := by omega
      have hjb := HJL.out j
      clear hC hsl HP HJL
      rcases Nat.eq_zero_or_pos j with h0 | h0
      · subst h0
        have HN := Lib.hid (jn_take_one hx)
        have e0 : jn (ls.take 0) = [] := rfl
        have happ : (⟨#[]⟩ : ByteArray) ++ ⟨x.toArray⟩ = ⟨x.toArray⟩ := app_ll [] x
        rw [e0]
        rw [Nat.add_zero] at cA
        clear hx e0 hjb
        go_wp2
        exact ⟨⟨1, by omega, by go_num, by rw [HN.out], trivial⟩, by simp [intOf]; omega⟩
      · have HN := Lib.hid (jn_take_succ hx h0)
        have h0' : (0 : Int) < (j : Int) := by omega
        generalize jn (ls.take j) = t at *
        have a1 := dot_l t
        have a2 := app_ll (t ++ [46]) x
        have s1 : ¬ 9223372036854775807 < t.length + 1 := by omega
        have s2 : ¬ 9223372036854775807 < t.length + 1 + x.length := by omega
        clear hx
        go_wp2
        exact ⟨⟨j + 1, by omega, by go_num, by rw [HN.out]; simp, trivial⟩, by simp [intOf]; omega⟩
    · have hjl : j = ls.length := by omega
      subst hjl
      rw [List.take_length]
      go_wp2
      go_ret
      exact ⟨rfl, rfl⟩
end Go.Proofs.Ytbekocknfpekoaa
namespace Go.Proofs.Ytbekocknfpekoaa
set_option linter.unusedVariables false
set_option linter.unusedSimpArgs false
open Go.RowKit
theorem neq_key (a0 a1 a2 a3 : Int) (a4 : ByteArray) (b0 b1 b2 b3 : Int) (b4 : ByteArray) (w : World) : (binOp .neq 30 (.agg #[.int .i64 a0, .int .i64 a1, .int .u64 a2, .int .u64 a3, .string a4]) (.agg #[.int .i64 b0, .int .i64 b1, .int .u64 b2, .int .u64 b3, .string b4])).run Try.prog w = .ok (.bool (!eqK a0 a1 a2 a3 a4 b0 b1 b2 b3 b4)) w := by
  unfold eqK
  by_cases h4 : a4 = b4
  · by_cases h0 : a0 = b0 <;> by_cases h1 : a1 = b1 <;> by_cases h2 : a2 = b2 <;> by_cases h3 : a3 = b3 <;> simp [go_sem, h0, h1, h2, h3, h4]
  · have h5 := ba_ne h4
    by_cases h0 : a0 = b0 <;> by_cases h1 : a1 = b1 <;> by_cases h2 : a2 = b2 <;> by_cases h3 : a3 = b3 <;> simp [go_sem, h0, h1, h2, h3, h4, h5]
end Go.Proofs.Ytbekocknfpekoaa
namespace Go.Proofs.Ytbekocknfpekoaa
set_option linter.unusedVariables false
set_option linter.unusedSimpArgs false
open Go.RowKit
theorem one_row (w : World) (a : Array Value) (t : TypeId) : Row (w.alloc (.cells a t)) w.heap.size a t ∧ Below w.heap.size w (w.alloc (.cells a t)) := ⟨Row.new _ _ _, (by repeat (first | exact Below.refl _ _ | assumption | (with_reducible refine Below.setCell ?_ ?h _; case h => first | omega | (simp; done) | (simp; omega)) | (with_reducible refine Below.alloc ?_ ?h _; case h => first | omega | (simp; done) | (simp; omega)) | (with_reducible refine Below.drew ?_) | (with_reducible refine Below.trans ?_ (hb4.mono ?h); case h => first | omega | (simp; done) | (simp; omega)) | (with_reducible refine Below.trans ?_ (hb3.mono ?h); case h => first | omega | (simp; done) | (simp; omega)) | (with_reducible refine Below.trans ?_ (hb2.mono ?h); case h => first | omega | (simp; done) | (simp; omega)) | (with_reducible refine Below.trans ?_ (hb.mono ?h); case h => first | omega | (simp; done) | (simp; omega)) | (with_reducible refine Below.trans ?_ (hb0.mono ?h); case h => first | omega | (simp; done) | (simp; omega))))⟩
def letR (k : Ke) : List (List UInt8) := if rightK k = true then letK k else []
def LetPost (k : Ke) (w : World) (e : Ending) (w' : World) : Prop := ∃ v, e = .returned (.tuple #[v, .bool (rightK k)]) ∧ SS w' v (letR k) ∧ Below w.heap.size w w'
theorem letPost_bad {k : Ke} {w w' : World} (h : rightK k = false) (hb : Below w.heap.size w w') : LetPost k w (.returned (.tuple #[.slice none 0 0, .bool false])) w' :=
  ⟨_, by rw [h], by unfold letR; rw [h]; exact SS.nil _, hb⟩
theorem letPost_ok {k : Ke} {w w' : World} {v : Value} (h : rightK k = true) (hs : SS w' v (letK k)) (hb : Below w.heap.size w w') : LetPost k w (.returned (.tuple #[v, .bool true])) w' :=
  ⟨v, by rw [h], by unfold letR; rw [h]; exact hs, hb⟩
theorem right3 (k : Ke) (hk : k.kind = 3) : rightK k = (rightB k.path && (decide (((labsL k.path).length : Int) = k.len) && (decide (k.h = 0) && decide (k.l = 0)))) := by
  obtain ⟨a, b, c, d, p⟩ := k
  dsimp only at hk
  subst hk
  unfold rightK pathK
  rw [if_neg (by simp), if_pos rfl, Bool.eq_iff_iff]
  simp only [Bool.and_eq_true, decide_eq_true_eq, Ke.mk.injEq, true_and, and_true]
  constructor
  · rintro ⟨h1, h2, h3, h4⟩; exact ⟨h1, h2.symm, h3, h4⟩
  · rintro ⟨h1, h2, h3, h4⟩; exact ⟨h1, h2.symm, h3, h4⟩
theorem right_adr (k : Ke) (h3 : ¬ k.kind = 3) : rightK k = true → wid k.kind ≠ 0 ∧ 0 ≤ k.len ∧ k.len ≤ wid k.kind ∧ k.path = [] := by
  intro h
  rcases right_kind h with hk | hk
  · have A := adr_of_right h hk
    exact ⟨by unfold wid; rcases A.kind with e | e <;> rw [e] <;> decide, A.lo, A.up, A.path⟩
  · exact absurd hk h3
/-- the first j letters of n bits of A -/
def lets (A : Int) (n j : Nat) : List (List UInt8) := (List.range (min j n)).map fun i : Nat => bitS (bitI A i)
theorem lets_len (A : Int) (n j : Nat) : (lets A n j).length = min j n := by unfold lets; simp
theorem lets_more {A : Int} {n j : Nat} (h : j < n) : lets A n (j + 1) = lets A n j ++ [bitS (bitI A j)] := by
  unfold lets
  rw [show min (j + 1) n = min j n + 1 by omega, List.range_succ, List.map_append, show min j n = j by omega]
  rfl
theorem lets_stay {A : Int} {n j : Nat} (h : n ≤ j) : lets A n (j + 1) = lets A n j := by
  unfold lets
  rw [show min (j + 1) n = min j n by omega]
theorem adr_bits {k : Ke} {n : Nat} (hk : k.kind = 1 ∨ k.kind = 2) (hl : k.len = (n : Nat)) (hu : k.len ≤ wid k.kind) (hp : k.path = []) (hh : Word k.h) (hl2 : Word k.l) (hz : ∀ t : Nat, n ≤ t → t < 128 → bitI k.num t = false) : rightK k = true ∧ letK k = lets k.num n 128 := by
  have hw := (wid_range k.kind).2
  have hr := num_range hh hl2
  have A : Adr k := by
    refine ⟨hk, by omega, hu, hp, hh, hl2, ?_⟩
    have r := tp_range (n := k.len.toNat) hr.1 hr.2
    refine num_eq_of_bits hr.1 hr.2 r.1 (by omega) fun j hj => ?_
    rw [tp_bit _ _ j (by omega) hj]
    by_cases h : j < k.len.toNat
    · rw [if_pos h]
    · rw [if_neg h]; exact hz j (by omega) hj
  refine ⟨right_of_adr A, ?_⟩
  rw [letK_adr A]
  unfold lets
  rw [show min 128 n = k.len.toNat by omega]
theorem adr_bit_bad {k : Ke} {n t : Nat} (h3 : ¬ k.kind = 3) (hl : k.len = (n : Nat)) (ht : n ≤ t) (ht2 : t < 128) (hb : bitI k.num t = true) : rightK k = false := by
  cases h : rightK k with
  | false => rfl
  | true =>
    exfalso
    rcases right_kind h with hk | hk
    · have A := adr_of_right h hk
      have := A.len
      rw [A.num, tp_bit _ _ t (by omega) ht2, if_neg (by omega)] at hb
      cases hb
    · exact h3 hk
set_option maxRecDepth 100000 in
set_option maxHeartbeats 4000000 in
theorem letters_path (k : Ke) (hk : k.kind = 3) (hp : k.path.length ≤ 140737488355328) (w : World) : Calls Try.prog 98 #[kv k] w (LetPost k w) := by
  have hr := right3 k hk
  have HG := Lib.hid (fun (v : Value) (w' : World) (h : rightK k = true) (hs : SS w' v (letK k)) (hb : Below w.heap.size w w') => letPost_ok h hs hb)
  have HB := Lib.hid (fun (w' : World) (h : rightK k = false) (hb : Below w.heap.size w w') => letPost_bad h hb)
  have cs : ∀ w1, Calls Try.prog 104 #[.string ⟨k.path.toArray⟩] w1 fun e w' => ∃ v, e = .returned (.tuple #[v, .bool (rightB k.path)]) ∧ SS w' v (labsL k.path) ∧ Below w1.heap.size w1 w' := fun w1 => rSplit_t k.path hp w1
  have hlet : letK k = labsL k.path := by unfold letK; rw [if_pos hk]
  rw [hlet] at HG
  clear hlet
  obtain ⟨kd, len, h, l, p⟩ := k
  dsimp only at *
  subst hk
  generalize labsL p = ls at *
  generalize rightB p = rb at *
  generalize rightK ⟨3, len, h, l, p⟩ = rk at *
  generalize LetPost ⟨3, len, h, l, p⟩ w = PP at *
  replace hr := Lib.hid hr
  unfold kv
  dsimp only
  obtain ⟨RR0, hb0⟩ := one_row w #[.int .i64 3, .int .i64 len, .int .u64 h, .int .u64 l, .string ⟨p.toArray⟩] 30
  have c0 := (RR0.cell 0).trans (show _ = some (Value.int .i64 3) from rfl)
  have c1 := (RR0.cell 1).trans (show _ = some (Value.int .i64 len) from rfl)
  have c2 := (RR0.cell 2).trans (show _ = some (Value.int .u64 h) from rfl)
  have c3 := (RR0.cell 3).trans (show _ = some (Value.int .u64 l) from rfl)
  have c4 := (RR0.cell 4).trans (show _ = some (Value.string ⟨p.toArray⟩) from rfl)
  clear RR0
  cases rb with
  | false =>
    have HX := Lib.hid (fun w' => HB.out w' (by rw [hr.out]; rfl))
    clear HB HG hr
    go_enter Try.func98, Try.ntmps98
    go_wp2_with fail
    refine (cs _).mono ?_
    rintro e w1 ⟨v, rfl, hs, hb⟩
    obtain ⟨pp, cc, rfl, _, _⟩ := hs
    replace hb0 := below_step hb0 hb
    replace c1 := cell_later hb c1
    replace c2 := cell_later hb c2
    replace c3 := cell_later hb c3
    replace HX := Lib.hid (HX.out _ hb0)
    clear hb hb0 cs c0 c4
    go_wp2
    exact HX.out
  | true =>
    rw [Bool.true_and] at hr
    by_cases t1 : (ls.length : Int) = len ∧ h = 0 ∧ l = 0
    · obtain ⟨t1, rfl, rfl⟩ := t1
      have HX := Lib.hid (fun v w' => HG.out v w' (by rw [hr.out]; simp [t1]))
      subst t1
      clear HB HG hr
      go_enter Try.func98, Try.ntmps98
      go_wp2_with fail
      refine (cs _).mono ?_
      rintro e w1 ⟨v, rfl, hs, hb⟩
      replace hb0 := below_step hb0 hb
      replace c1 := cell_later hb c1
      replace c2 := cell_later hb c2
      replace c3 := cell_later hb c3
      replace HX := Lib.hid (HX.out _ _ hs hb0)
      obtain ⟨pp, cc, rfl, _, _⟩ := hs
      clear hb hb0 cs c0 c4
      go_wp2
      exact HX.out
    · have HX := Lib.hid (fun w' => HB.out w' (by
        rw [hr.out, Bool.eq_false_iff]
        intro e
        simp only [Bool.and_eq_true, decide_eq_true_eq] at e
        exact t1 e))
      have b1 : (¬ (ls.length : Int) = len) ∨ ((ls.length : Int) = len ∧ ¬ h = 0) ∨ ((ls.length : Int) = len ∧ h = 0 ∧ ¬ l = 0) := by omega
      clear HB HG hr t1
      rcases b1 with b1 | ⟨rfl, b1⟩ | ⟨rfl, rfl, b1⟩
      all_goals
        first
          | (have b2 : ((ls.length : Int) == len) = false := by simpa using b1)
          | (have b2 : (h == 0) = false := by simpa using b1)
          | (have b2 : (l == 0) = false := by simpa using b1)
        go_enter Try.func98, Try.ntmps98
        go_wp2_with fail
        refine (cs _).mono ?_
        rintro e w1 ⟨v, rfl, hs, hb⟩
        obtain ⟨pp, cc, rfl, _, _⟩ := hs
        replace hb0 := below_step hb0 hb
        replace c1 := cell_later hb c1
        replace c2 := cell_later hb c2
        replace c3 := cell_later hb c3
        replace HX := Lib.hid (HX.out _ hb0)
        clear hb hb0 cs c0 c4
        go_wp2
        exact HX.out
end Go.Proofs.Ytbekocknfpekoaa
namespace Go.Proofs.Ytbekocknfpekoaa
set_option linter.unusedVariables false
set_option linter.unusedSimpArgs false
open Go.RowKit
theorem nonempty_str {p : List UInt8} (h : p ≠ []) : ((⟨p.toArray⟩ : ByteArray).toList == (⟨#[]⟩ : ByteArray).toList) = false ∧ p.isEmpty = false ∧ ¬ p = [] := by
  rw [bytes_list]
  have e : (⟨#[]⟩ : ByteArray).toList = [] := bytes_list []
  rw [e]
  cases p with
  | nil => exact absurd rfl h
  | cons c r => exact ⟨rfl, rfl, by simp⟩
set_option maxRecDepth 100000 in
set_option maxHeartbeats 8000000 in
theorem letters_adr_bad (k : Ke) (h3 : ¬ k.kind = 3) (hb : wid k.kind = 0 ∨ k.len < 0 ∨ wid k.kind < k.len ∨ k.path ≠ []) (w : World) : Calls Try.prog 98 #[kv k] w (LetPost k w) := by
  have hr : rightK k = false := by
    rw [Bool.eq_false_iff]
    intro e
    obtain ⟨a, b, c, d⟩ := right_adr k h3 e
    rcases hb with x | x | x | x
    · exact a x
    · omega
    · omega
    · exact x d
  have HB := Lib.hid (fun (w' : World) (hb : Below w.heap.size w w') => letPost_bad hr hb)
  have HW := fun w1 => rwidth_t k.kind w1
  have hp := @nonempty_str k.path
  clear hr
  obtain ⟨kd, len, h, l, p⟩ := k
  dsimp only at *
  have hk3 : (kd == 3) = false := by simpa using h3
  generalize wid kd = wd at *
  generalize LetPost ⟨kd, len, h, l, p⟩ w = PP at *
  unfold kv
  dsimp only
  obtain ⟨RR0, hb0⟩ := one_row w #[.int .i64 kd, .int .i64 len, .int .u64 h, .int .u64 l, .string ⟨p.toArray⟩] 30
  have c0 := (RR0.cell 0).trans (show _ = some (Value.int .i64 kd) from rfl)
  have c1 := (RR0.cell 1).trans (show _ = some (Value.int .i64 len) from rfl)
  have c2 := (RR0.cell 2).trans (show _ = some (Value.int .u64 h) from rfl)
  have c3 := (RR0.cell 3).trans (show _ = some (Value.int .u64 l) from rfl)
  have c4 := (RR0.cell 4).trans (show _ = some (Value.string ⟨p.toArray⟩) from rfl)
  clear RR0
  by_cases t0 : wd = 0
  · subst t0
    clear hp hb
    go_enter Try.func98, Try.ntmps98
    go_wp2_with fail
    refine wp_region_held_drew (S := (fun w' => w'.cell? ⟨w.heap.size, 0, none⟩ = some (.int .i64 kd) ∧ w'.cell? ⟨w.heap.size, 1, none⟩ = some (.int .i64 len) ∧ w'.cell? ⟨w.heap.size, 2, none⟩ = some (.int .u64 h) ∧ w'.cell? ⟨w.heap.size, 3, none⟩ = some (.int .u64 l) ∧ w'.cell? ⟨w.heap.size, 4, none⟩ = some (.string ⟨p.toArray⟩) ∧ Below w.heap.size w w')) (by kernel_rfl) ?hSr20_ (fun hHeld => ?_)
    case hSr20_ => (first | exact ⟨c0, c1, c2, c3, c4, hb0.drew⟩ | exact ⟨c0, c1, c2, c3, c4, hb0⟩ | (obtain ⟨c0, c1, c2, c3, c4, hb0⟩ := hHeld; exact ⟨cell_later hb c0, cell_later hb c1, cell_later hb c2, cell_later hb c3, cell_later hb c4, below_step hb0 hb⟩))
    refine tk 0 ⟨some 38, .fieldAddr 30 (.tmp 1) 0, 0, _, _, _⟩ hHeld ?_
    (try simp only [Act.put, nz1, nz2, nz3])
    refine tk 1 ⟨some 39, .load 3 (.tmp 38), 3, _, _, _⟩ hHeld ?_
    (try simp only [Act.put, nz1, nz2, nz3])
    refine wpAnyH_ready (rs := [2]) (by kernel_rfl) (by simp) ?_
    refine AllReadyH.cons (o := ⟨some 40, .call { callee := .value (.func 81), args := #[.tmp 39], argTypes := #[3] }, 3, _, _, _⟩) rfl (fun K hK => ?_) AllReadyH.nil
    (go_simp; (refine (HW _).mono ?_); (rintro e wn ⟨rfl, hb⟩); go_wp2_with fail)
    refine hK.out _ _ ?hSr20_3_2 (fun hHeld2 => ?_)
    case hSr20_3_2 => (first | exact ⟨c0, c1, c2, c3, c4, hb0.drew⟩ | exact ⟨c0, c1, c2, c3, c4, hb0⟩ | (obtain ⟨c0, c1, c2, c3, c4, hb0⟩ := hHeld; exact ⟨cell_later hb c0, cell_later hb c1, cell_later hb c2, cell_later hb c3, cell_later hb c4, below_step hb0 hb⟩))
    clear hK K hHeld
    have hHeld := hHeld2
    clear hHeld2
    (try simp only [Act.put, nz1, nz2, nz3])
    refine tk 3 ⟨some 41, .binOp .eql 3 (.tmp 40) (.const (.int .i64 0)) 3, 4, _, _, _⟩ hHeld ?_
    (try simp only [Act.put, nz1, nz2, nz3])
    refine tk 4 ⟨some 42, .move (.tmp 41), 4, _, _, _⟩ hHeld ?_
    (try simp only [Act.put, nz1, nz2, nz3])
    refine ts 5 ⟨some 43, .fieldAddr 30 (.tmp 1) 1, 0, _, _, _⟩ hHeld ?_
    (try simp only [Act.put, nz1, nz2, nz3])
    refine ts 6 ⟨some 44, .load 3 (.tmp 43), 3, _, _, _⟩ hHeld ?_
    (try simp only [Act.put, nz1, nz2, nz3])
    refine ts 7 ⟨some 45, .binOp .lss 3 (.tmp 44) (.const (.int .i64 0)) 3, 4, _, _, _⟩ hHeld ?_
    (try simp only [Act.put, nz1, nz2, nz3])
    refine tk 8 ⟨some 46, .pick (.tmp 42) (.const (.bool true)) (.tmp 45), 4, _, _, _⟩ hHeld ?_
    (try simp only [Act.put, nz1, nz2, nz3])
    refine tk 9 ⟨some 47, .move (.tmp 46), 4, _, _, _⟩ hHeld ?_
    (try simp only [Act.put, nz1, nz2, nz3])
    refine ts 10 ⟨some 48, .fieldAddr 30 (.tmp 1) 1, 0, _, _, _⟩ hHeld ?_
    (try simp only [Act.put, nz1, nz2, nz3])
    refine ts 11 ⟨some 49, .load 3 (.tmp 48), 3, _, _, _⟩ hHeld ?_
    (try simp only [Act.put, nz1, nz2, nz3])
    refine ts 12 ⟨some 50, .fieldAddr 30 (.tmp 1) 0, 0, _, _, _⟩ hHeld ?_
    (try simp only [Act.put, nz1, nz2, nz3])
    refine ts 13 ⟨some 51, .load 3 (.tmp 50), 3, _, _, _⟩ hHeld ?_
    (try simp only [Act.put, nz1, nz2, nz3])
    refine ts 14 ⟨some 52, .call { callee := .value (.func 81), args := #[.tmp 51], argTypes := #[3] }, 3, _, _, _⟩ hHeld ?_
    (try simp only [Act.put, nz1, nz2, nz3])
    refine ts 15 ⟨some 53, .binOp .gtr 3 (.tmp 49) (.tmp 52) 3, 4, _, _, _⟩ hHeld ?_
    (try simp only [Act.put, nz1, nz2, nz3])
    refine tk 16 ⟨some 54, .pick (.tmp 47) (.const (.bool true)) (.tmp 53), 4, _, _, _⟩ hHeld ?_
    (try simp only [Act.put, nz1, nz2, nz3])
    refine tk 17 ⟨some 55, .move (.tmp 54), 4, _, _, _⟩ hHeld ?_
    (try simp only [Act.put, nz1, nz2, nz3])
    refine ts 18 ⟨some 56, .fieldAddr 30 (.tmp 1) 4, 0, _, _, _⟩ hHeld ?_
    (try simp only [Act.put, nz1, nz2, nz3])
    refine ts 19 ⟨some 57, .load 9 (.tmp 56), 9, _, _, _⟩ hHeld ?_
    (try simp only [Act.put, nz1, nz2, nz3])
    refine ts 20 ⟨some 58, .binOp .neq 9 (.tmp 57) (.const (.string { data := #[] })) 9, 4, _, _, _⟩ hHeld ?_
    (try simp only [Act.put, nz1, nz2, nz3])
    refine tk 21 ⟨some 59, .pick (.tmp 55) (.const (.bool true)) (.tmp 58), 4, _, _, _⟩ hHeld ?_
    (try simp only [Act.put, nz1, nz2, nz3])
    refine wpAnyH_done (by kernel_rfl) ?_ _
    clear c0 c1 c2 c3 c4 hb0
    obtain ⟨c0, c1, c2, c3, c4, hb0⟩ := hHeld
    replace HB := Lib.hid (HB.out _ hb0)
    go_wp2
    exact HB.out
  have t0' : (wd == 0) = false := by simpa using t0
  by_cases t1 : len < 0
  · clear hp hb
    go_enter Try.func98, Try.ntmps98
    go_wp2_with fail
    refine wp_region_held_drew (S := (fun w' => w'.cell? ⟨w.heap.size, 0, none⟩ = some (.int .i64 kd) ∧ w'.cell? ⟨w.heap.size, 1, none⟩ = some (.int .i64 len) ∧ w'.cell? ⟨w.heap.size, 2, none⟩ = some (.int .u64 h) ∧ w'.cell? ⟨w.heap.size, 3, none⟩ = some (.int .u64 l) ∧ w'.cell? ⟨w.heap.size, 4, none⟩ = some (.string ⟨p.toArray⟩) ∧ Below w.heap.size w w')) (by kernel_rfl) ?hSr21_ (fun hHeld => ?_)
    case hSr21_ => (first | exact ⟨c0, c1, c2, c3, c4, hb0.drew⟩ | exact ⟨c0, c1, c2, c3, c4, hb0⟩ | (obtain ⟨c0, c1, c2, c3, c4, hb0⟩ := hHeld; exact ⟨cell_later hb c0, cell_later hb c1, cell_later hb c2, cell_later hb c3, cell_later hb c4, below_step hb0 hb⟩))
    refine tk 0 ⟨some 38, .fieldAddr 30 (.tmp 1) 0, 0, _, _, _⟩ hHeld ?_
    (try simp only [Act.put, nz1, nz2, nz3])
    refine tk 1 ⟨some 39, .load 3 (.tmp 38), 3, _, _, _⟩ hHeld ?_
    (try simp only [Act.put, nz1, nz2, nz3])
    refine wpAnyH_ready (rs := [2]) (by kernel_rfl) (by simp) ?_
    refine AllReadyH.cons (o := ⟨some 40, .call { callee := .value (.func 81), args := #[.tmp 39], argTypes := #[3] }, 3, _, _, _⟩) rfl (fun K hK => ?_) AllReadyH.nil
    (go_simp; (refine (HW _).mono ?_); (rintro e wn ⟨rfl, hb⟩); go_wp2_with fail)
    refine hK.out _ _ ?hSr21_3_2 (fun hHeld2 => ?_)
    case hSr21_3_2 => (first | exact ⟨c0, c1, c2, c3, c4, hb0.drew⟩ | exact ⟨c0, c1, c2, c3, c4, hb0⟩ | (obtain ⟨c0, c1, c2, c3, c4, hb0⟩ := hHeld; exact ⟨cell_later hb c0, cell_later hb c1, cell_later hb c2, cell_later hb c3, cell_later hb c4, below_step hb0 hb⟩))
    clear hK K hHeld
    have hHeld := hHeld2
    clear hHeld2
    (try simp only [Act.put, nz1, nz2, nz3])
    refine tk 3 ⟨some 41, .binOp .eql 3 (.tmp 40) (.const (.int .i64 0)) 3, 4, _, _, _⟩ hHeld ?_
    (try simp only [Act.put, nz1, nz2, nz3])
    refine tk 4 ⟨some 42, .move (.tmp 41), 4, _, _, _⟩ hHeld ?_
    (try simp only [Act.put, nz1, nz2, nz3])
    refine tk 5 ⟨some 43, .fieldAddr 30 (.tmp 1) 1, 0, _, _, _⟩ hHeld ?_
    (try simp only [Act.put, nz1, nz2, nz3])
    refine tk 6 ⟨some 44, .load 3 (.tmp 43), 3, _, _, _⟩ hHeld ?_
    (try simp only [Act.put, nz1, nz2, nz3])
    refine tk 7 ⟨some 45, .binOp .lss 3 (.tmp 44) (.const (.int .i64 0)) 3, 4, _, _, _⟩ hHeld ?_
    (try simp only [Act.put, nz1, nz2, nz3])
    refine tk 8 ⟨some 46, .pick (.tmp 42) (.const (.bool true)) (.tmp 45), 4, _, _, _⟩ hHeld ?_
    (try simp only [Act.put, nz1, nz2, nz3])
    refine tk 9 ⟨some 47, .move (.tmp 46), 4, _, _, _⟩ hHeld ?_
    (try simp only [Act.put, nz1, nz2, nz3])
    refine ts 10 ⟨some 48, .fieldAddr 30 (.tmp 1) 1, 0, _, _, _⟩ hHeld ?_
    (try simp only [Act.put, nz1, nz2, nz3])
    refine ts 11 ⟨some 49, .load 3 (.tmp 48), 3, _, _, _⟩ hHeld ?_
    (try simp only [Act.put, nz1, nz2, nz3])
    refine ts 12 ⟨some 50, .fieldAddr 30 (.tmp 1) 0, 0, _, _, _⟩ hHeld ?_
    (try simp only [Act.put, nz1, nz2, nz3])
    refine ts 13 ⟨some 51, .load 3 (.tmp 50), 3, _, _, _⟩ hHeld ?_
    (try simp only [Act.put, nz1, nz2, nz3])
    refine ts 14 ⟨some 52, .call { callee := .value (.func 81), args := #[.tmp 51], argTypes := #[3] }, 3, _, _, _⟩ hHeld ?_
    (try simp only [Act.put, nz1, nz2, nz3])
    refine ts 15 ⟨some 53, .binOp .gtr 3 (.tmp 49) (.tmp 52) 3, 4, _, _, _⟩ hHeld ?_
    (try simp only [Act.put, nz1, nz2, nz3])
    refine tk 16 ⟨some 54, .pick (.tmp 47) (.const (.bool true)) (.tmp 53), 4, _, _, _⟩ hHeld ?_
    (try simp only [Act.put, nz1, nz2, nz3])
    refine tk 17 ⟨some 55, .move (.tmp 54), 4, _, _, _⟩ hHeld ?_
    (try simp only [Act.put, nz1, nz2, nz3])
    refine ts 18 ⟨some 56, .fieldAddr 30 (.tmp 1) 4, 0, _, _, _⟩ hHeld ?_
    (try simp only [Act.put, nz1, nz2, nz3])
    refine ts 19 ⟨some 57, .load 9 (.tmp 56), 9, _, _, _⟩ hHeld ?_
    (try simp only [Act.put, nz1, nz2, nz3])
    refine ts 20 ⟨some 58, .binOp .neq 9 (.tmp 57) (.const (.string { data := #[] })) 9, 4, _, _, _⟩ hHeld ?_
    (try simp only [Act.put, nz1, nz2, nz3])
    refine tk 21 ⟨some 59, .pick (.tmp 55) (.const (.bool true)) (.tmp 58), 4, _, _, _⟩ hHeld ?_
    (try simp only [Act.put, nz1, nz2, nz3])
    refine wpAnyH_done (by kernel_rfl) ?_ _
    clear c0 c1 c2 c3 c4 hb0
    obtain ⟨c0, c1, c2, c3, c4, hb0⟩ := hHeld
    replace HB := Lib.hid (HB.out _ hb0)
    go_wp2
    exact HB.out
  have t1' : decide (len < 0) = false := by simpa using t1
  by_cases t2 : wd < len
  · clear hp hb
    go_enter Try.func98, Try.ntmps98
    go_wp2_with fail
    refine wp_region_held_drew (S := (fun w' => w'.cell? ⟨w.heap.size, 0, none⟩ = some (.int .i64 kd) ∧ w'.cell? ⟨w.heap.size, 1, none⟩ = some (.int .i64 len) ∧ w'.cell? ⟨w.heap.size, 2, none⟩ = some (.int .u64 h) ∧ w'.cell? ⟨w.heap.size, 3, none⟩ = some (.int .u64 l) ∧ w'.cell? ⟨w.heap.size, 4, none⟩ = some (.string ⟨p.toArray⟩) ∧ Below w.heap.size w w')) (by kernel_rfl) ?hSr22_ (fun hHeld => ?_)
    case hSr22_ => (first | exact ⟨c0, c1, c2, c3, c4, hb0.drew⟩ | exact ⟨c0, c1, c2, c3, c4, hb0⟩ | (obtain ⟨c0, c1, c2, c3, c4, hb0⟩ := hHeld; exact ⟨cell_later hb c0, cell_later hb c1, cell_later hb c2, cell_later hb c3, cell_later hb c4, below_step hb0 hb⟩))
    refine tk 0 ⟨some 38, .fieldAddr 30 (.tmp 1) 0, 0, _, _, _⟩ hHeld ?_
    (try simp only [Act.put, nz1, nz2, nz3])
    refine tk 1 ⟨some 39, .load 3 (.tmp 38), 3, _, _, _⟩ hHeld ?_
    (try simp only [Act.put, nz1, nz2, nz3])
    refine wpAnyH_ready (rs := [2]) (by kernel_rfl) (by simp) ?_
    refine AllReadyH.cons (o := ⟨some 40, .call { callee := .value (.func 81), args := #[.tmp 39], argTypes := #[3] }, 3, _, _, _⟩) rfl (fun K hK => ?_) AllReadyH.nil
    (go_simp; (refine (HW _).mono ?_); (rintro e wn ⟨rfl, hb⟩); go_wp2_with fail)
    refine hK.out _ _ ?hSr22_3_2 (fun hHeld2 => ?_)
    case hSr22_3_2 => (first | exact ⟨c0, c1, c2, c3, c4, hb0.drew⟩ | exact ⟨c0, c1, c2, c3, c4, hb0⟩ | (obtain ⟨c0, c1, c2, c3, c4, hb0⟩ := hHeld; exact ⟨cell_later hb c0, cell_later hb c1, cell_later hb c2, cell_later hb c3, cell_later hb c4, below_step hb0 hb⟩))
    clear hK K hHeld
    have hHeld := hHeld2
    clear hHeld2
    (try simp only [Act.put, nz1, nz2, nz3])
    refine tk 3 ⟨some 41, .binOp .eql 3 (.tmp 40) (.const (.int .i64 0)) 3, 4, _, _, _⟩ hHeld ?_
    (try simp only [Act.put, nz1, nz2, nz3])
    refine tk 4 ⟨some 42, .move (.tmp 41), 4, _, _, _⟩ hHeld ?_
    (try simp only [Act.put, nz1, nz2, nz3])
    refine tk 5 ⟨some 43, .fieldAddr 30 (.tmp 1) 1, 0, _, _, _⟩ hHeld ?_
    (try simp only [Act.put, nz1, nz2, nz3])
    refine tk 6 ⟨some 44, .load 3 (.tmp 43), 3, _, _, _⟩ hHeld ?_
    (try simp only [Act.put, nz1, nz2, nz3])
    refine tk 7 ⟨some 45, .binOp .lss 3 (.tmp 44) (.const (.int .i64 0)) 3, 4, _, _, _⟩ hHeld ?_
    (try simp only [Act.put, nz1, nz2, nz3])
    refine tk 8 ⟨some 46, .pick (.tmp 42) (.const (.bool true)) (.tmp 45), 4, _, _, _⟩ hHeld ?_
    (try simp only [Act.put, nz1, nz2, nz3])
    refine tk 9 ⟨some 47, .move (.tmp 46), 4, _, _, _⟩ hHeld ?_
    (try simp only [Act.put, nz1, nz2, nz3])
    refine tk 10 ⟨some 48, .fieldAddr 30 (.tmp 1) 1, 0, _, _, _⟩ hHeld ?_
    (try simp only [Act.put, nz1, nz2, nz3])
    refine tk 11 ⟨some 49, .load 3 (.tmp 48), 3, _, _, _⟩ hHeld ?_
    (try simp only [Act.put, nz1, nz2, nz3])
    refine tk 12 ⟨some 50, .fieldAddr 30 (.tmp 1) 0, 0, _, _, _⟩ hHeld ?_
    (try simp only [Act.put, nz1, nz2, nz3])
    refine tk 13 ⟨some 51, .load 3 (.tmp 50), 3, _, _, _⟩ hHeld ?_
    (try simp only [Act.put, nz1, nz2, nz3])
    refine wpAnyH_ready (rs := [14]) (by kernel_rfl) (by simp) ?_
    refine AllReadyH.cons (o := ⟨some 52, .call { callee := .value (.func 81), args := #[.tmp 51], argTypes := #[3] }, 3, _, _, _⟩) rfl (fun K hK => ?_) AllReadyH.nil
    (go_simp; (refine (HW _).mono ?_); (rintro e wn ⟨rfl, hb⟩); go_wp2_with fail)
    refine hK.out _ _ ?hSr22_15_14 (fun hHeld2 => ?_)
    case hSr22_15_14 => (first | exact ⟨c0, c1, c2, c3, c4, hb0.drew⟩ | exact ⟨c0, c1, c2, c3, c4, hb0⟩ | (obtain ⟨c0, c1, c2, c3, c4, hb0⟩ := hHeld; exact ⟨cell_later hb c0, cell_later hb c1, cell_later hb c2, cell_later hb c3, cell_later hb c4, below_step hb0 hb⟩))
    clear hK K hHeld
    have hHeld := hHeld2
    clear hHeld2
    (try simp only [Act.put, nz1, nz2, nz3])
    refine tk 15 ⟨some 53, .binOp .gtr 3 (.tmp 49) (.tmp 52) 3, 4, _, _, _⟩ hHeld ?_
    (try simp only [Act.put, nz1, nz2, nz3])
    refine tk 16 ⟨some 54, .pick (.tmp 47) (.const (.bool true)) (.tmp 53), 4, _, _, _⟩ hHeld ?_
    (try simp only [Act.put, nz1, nz2, nz3])
    refine tk 17 ⟨some 55, .move (.tmp 54), 4, _, _, _⟩ hHeld ?_
    (try simp only [Act.put, nz1, nz2, nz3])
    refine ts 18 ⟨some 56, .fieldAddr 30 (.tmp 1) 4, 0, _, _, _⟩ hHeld ?_
    (try simp only [Act.put, nz1, nz2, nz3])
    refine ts 19 ⟨some 57, .load 9 (.tmp 56), 9, _, _, _⟩ hHeld ?_
    (try simp only [Act.put, nz1, nz2, nz3])
    refine ts 20 ⟨some 58, .binOp .neq 9 (.tmp 57) (.const (.string { data := #[] })) 9, 4, _, _, _⟩ hHeld ?_
    (try simp only [Act.put, nz1, nz2, nz3])
    refine tk 21 ⟨some 59, .pick (.tmp 55) (.const (.bool true)) (.tmp 58), 4, _, _, _⟩ hHeld ?_
    (try simp only [Act.put, nz1, nz2, nz3])
    refine wpAnyH_done (by kernel_rfl) ?_ _
    clear c0 c1 c2 c3 c4 hb0
    obtain ⟨c0, c1, c2, c3, c4, hb0⟩ := hHeld
    replace HB := Lib.hid (HB.out _ hb0)
    go_wp2
    exact HB.out
  have t2' : decide (wd < len) = false := by simpa using t2
  obtain ⟨p1, p2, p3⟩ := hp (by rcases hb with x | x | x | x <;> first | exact x | omega)
  clear hp hb
  go_enter Try.func98, Try.ntmps98
  go_wp2_with fail
  refine wp_region_held_drew (S := (fun w' => w'.cell? ⟨w.heap.size, 0, none⟩ = some (.int .i64 kd) ∧ w'.cell? ⟨w.heap.size, 1, none⟩ = some (.int .i64 len) ∧ w'.cell? ⟨w.heap.size, 2, none⟩ = some (.int .u64 h) ∧ w'.cell? ⟨w.heap.size, 3, none⟩ = some (.int .u64 l) ∧ w'.cell? ⟨w.heap.size, 4, none⟩ = some (.string ⟨p.toArray⟩) ∧ Below w.heap.size w w')) (by kernel_rfl) ?hSr23_ (fun hHeld => ?_)
  case hSr23_ => (first | exact ⟨c0, c1, c2, c3, c4, hb0.drew⟩ | exact ⟨c0, c1, c2, c3, c4, hb0⟩ | (obtain ⟨c0, c1, c2, c3, c4, hb0⟩ := hHeld; exact ⟨cell_later hb c0, cell_later hb c1, cell_later hb c2, cell_later hb c3, cell_later hb c4, below_step hb0 hb⟩))
  refine tk 0 ⟨some 38, .fieldAddr 30 (.tmp 1) 0, 0, _, _, _⟩ hHeld ?_
  (try simp only [Act.put, nz1, nz2, nz3])
  refine tk 1 ⟨some 39, .load 3 (.tmp 38), 3, _, _, _⟩ hHeld ?_
  (try simp only [Act.put, nz1, nz2, nz3])
  refine wpAnyH_ready (rs := [2]) (by kernel_rfl) (by simp) ?_
  refine AllReadyH.cons (o := ⟨some 40, .call { callee := .value (.func 81), args := #[.tmp 39], argTypes := #[3] }, 3, _, _, _⟩) rfl (fun K hK => ?_) AllReadyH.nil
  (go_simp; (refine (HW _).mono ?_); (rintro e wn ⟨rfl, hb⟩); go_wp2_with fail)
  refine hK.out _ _ ?hSr23_3_2 (fun hHeld2 => ?_)
  case hSr23_3_2 => (first | exact ⟨c0, c1, c2, c3, c4, hb0.drew⟩ | exact ⟨c0, c1, c2, c3, c4, hb0⟩ | (obtain ⟨c0, c1, c2, c3, c4, hb0⟩ := hHeld; exact ⟨cell_later hb c0, cell_later hb c1, cell_later hb c2, cell_later hb c3, cell_later hb c4, below_step hb0 hb⟩))
  clear hK K hHeld
  have hHeld := hHeld2
  clear hHeld2
  (try simp only [Act.put, nz1, nz2, nz3])
  refine tk 3 ⟨some 41, .binOp .eql 3 (.tmp 40) (.const (.int .i64 0)) 3, 4, _, _, _⟩ hHeld ?_
  (try simp only [Act.put, nz1, nz2, nz3])
  refine tk 4 ⟨some 42, .move (.tmp 41), 4, _, _, _⟩ hHeld ?_
  (try simp only [Act.put, nz1, nz2, nz3])
  refine tk 5 ⟨some 43, .fieldAddr 30 (.tmp 1) 1, 0, _, _, _⟩ hHeld ?_
  (try simp only [Act.put, nz1, nz2, nz3])
  refine tk 6 ⟨some 44, .load 3 (.tmp 43), 3, _, _, _⟩ hHeld ?_
  (try simp only [Act.put, nz1, nz2, nz3])
  refine tk 7 ⟨some 45, .binOp .lss 3 (.tmp 44) (.const (.int .i64 0)) 3, 4, _, _, _⟩ hHeld ?_
  (try simp only [Act.put, nz1, nz2, nz3])
  refine tk 8 ⟨some 46, .pick (.tmp 42) (.const (.bool true)) (.tmp 45), 4, _, _, _⟩ hHeld ?_
  (try simp only [Act.put, nz1, nz2, nz3])
  refine tk 9 ⟨some 47, .move (.tmp 46), 4, _, _, _⟩ hHeld ?_
  (try simp only [Act.put, nz1, nz2, nz3])
  refine tk 10 ⟨some 48, .fieldAddr 30 (.tmp 1) 1, 0, _, _, _⟩ hHeld ?_
  (try simp only [Act.put, nz1, nz2, nz3])
  refine tk 11 ⟨some 49, .load 3 (.tmp 48), 3, _, _, _⟩ hHeld ?_
  (try simp only [Act.put, nz1, nz2, nz3])
  refine tk 12 ⟨some 50, .fieldAddr 30 (.tmp 1) 0, 0, _, _, _⟩ hHeld ?_
  (try simp only [Act.put, nz1, nz2, nz3])
  refine tk 13 ⟨some 51, .load 3 (.tmp 50), 3, _, _, _⟩ hHeld ?_
  (try simp only [Act.put, nz1, nz2, nz3])
  refine wpAnyH_ready (rs := [14]) (by kernel_rfl) (by simp) ?_
  refine AllReadyH.cons (o := ⟨some 52, .call { callee := .value (.func 81), args := #[.tmp 51], argTypes := #[3] }, 3, _, _, _⟩) rfl (fun K hK => ?_) AllReadyH.nil
  (go_simp; (refine (HW _).mono ?_); (rintro e wn ⟨rfl, hb⟩); go_wp2_with fail)
  refine hK.out _ _ ?hSr23_15_14 (fun hHeld2 => ?_)
  case hSr23_15_14 => (first | exact ⟨c0, c1, c2, c3, c4, hb0.drew⟩ | exact ⟨c0, c1, c2, c3, c4, hb0⟩ | (obtain ⟨c0, c1, c2, c3, c4, hb0⟩ := hHeld; exact ⟨cell_later hb c0, cell_later hb c1, cell_later hb c2, cell_later hb c3, cell_later hb c4, below_step hb0 hb⟩))
  clear hK K hHeld
  have hHeld := hHeld2
  clear hHeld2
  (try simp only [Act.put, nz1, nz2, nz3])
  refine tk 15 ⟨some 53, .binOp .gtr 3 (.tmp 49) (.tmp 52) 3, 4, _, _, _⟩ hHeld ?_
  (try simp only [Act.put, nz1, nz2, nz3])
  refine tk 16 ⟨some 54, .pick (.tmp 47) (.const (.bool true)) (.tmp 53), 4, _, _, _⟩ hHeld ?_
  (try simp only [Act.put, nz1, nz2, nz3])
  refine tk 17 ⟨some 55, .move (.tmp 54), 4, _, _, _⟩ hHeld ?_
  (try simp only [Act.put, nz1, nz2, nz3])
  refine tk 18 ⟨some 56, .fieldAddr 30 (.tmp 1) 4, 0, _, _, _⟩ hHeld ?_
  (try simp only [Act.put, nz1, nz2, nz3])
  refine tk 19 ⟨some 57, .load 9 (.tmp 56), 9, _, _, _⟩ hHeld ?_
  (try simp only [Act.put, nz1, nz2, nz3])
  refine tk 20 ⟨some 58, .binOp .neq 9 (.tmp 57) (.const (.string { data := #[] })) 9, 4, _, _, _⟩ hHeld ?_
  (try simp only [Act.put, nz1, nz2, nz3])
  refine tk 21 ⟨some 59, .pick (.tmp 55) (.const (.bool true)) (.tmp 58), 4, _, _, _⟩ hHeld ?_
  (try simp only [Act.put, nz1, nz2, nz3])
  refine wpAnyH_done (by kernel_rfl) ?_ _
  clear c0 c1 c2 c3 c4 hb0
  obtain ⟨c0, c1, c2, c3, c4, hb0⟩ := hHeld
  replace HB := Lib.hid (HB.out _ hb0)
  go_wp2
  exact HB.out
end Go.Proofs.Ytbekocknfpekoaa
namespace Go.Proofs.Ytbekocknfpekoaa
set_option linter.unusedVariables false
set_option linter.unusedSimpArgs false
open Go.RowKit
theorem lets_zero (A : Int) (n : Nat) : lets A n 0 = [] := by unfold lets; rw [show min 0 n = 0 by omega]; rfl
set_option maxRecDepth 100000 in
set_option maxHeartbeats 8000000 in
theorem letters_adr_go (kd : Int) (n : Nat) (h l : Int) (hk : kd = 1 ∨ kd = 2) (hn : (n : Int) ≤ wid kd) (hh : Word h) (hl : Word l) (w : World) : Calls Try.prog 98 #[kv ⟨kd, n, h, l, []⟩] w (LetPost ⟨kd, n, h, l, []⟩ w) := by
  have HB := Lib.hid (fun (t : Nat) (ht : n ≤ t) (ht2 : t < 128) (hbit : bitI (wv h l) t = true) (w' : World) (hb : Below w.heap.size w w') => letPost_bad (adr_bit_bad (k := ⟨kd, n, h, l, []⟩) (n := n) (by dsimp only; omega) rfl ht ht2 hbit) hb)
  have HG := Lib.hid (fun (v : Value) (w' : World) (hz : ∀ t : Nat, n ≤ t → t < 128 → bitI (wv h l) t = false) (hs : SS w' v (lets (wv h l) n 128)) (hb : Below w.heap.size w w') => by
    obtain ⟨r1, r2⟩ := adr_bits (k := ⟨kd, n, h, l, []⟩) (n := n) hk rfl hn rfl hh hl hz
    exact letPost_ok r1 (by rw [r2]; exact hs) hb)
  have HW := fun w1 => rwidth_t kd w1
  have HT := fun (j : Nat) (hj : j < 128) (w1 : World) => rbit_t h l hh hl j hj w1
  have n8 : n ≤ 128 := by have := (wid_range kd).2; omega
  generalize LetPost ⟨kd, n, h, l, []⟩ w = PP at *
  generalize hA : wv h l = A at *
  clear hA
  have hk3 : (kd == 3) = false := by simp; omega
  have hk3' : ¬ kd = 3 := by omega
  have t0 : (wid kd == 0) = false := by rcases hk with e | e <;> subst e <;> rfl
  generalize wid kd = wd at *
  have t1 : decide ((n : Int) < 0) = false := decide_eq_false (by omega)
  have t2 : decide (wd < (n : Int)) = false := decide_eq_false (by omega)
  clear hh hl hk
  unfold kv
  dsimp only
  obtain ⟨RR0, hb0⟩ := one_row w #[.int .i64 kd, .int .i64 n, .int .u64 h, .int .u64 l, .string ⟨#[]⟩] 30
  have c0 := (RR0.cell 0).trans (show _ = some (Value.int .i64 kd) from rfl)
  have c1 := (RR0.cell 1).trans (show _ = some (Value.int .i64 n) from rfl)
  have c2 := (RR0.cell 2).trans (show _ = some (Value.int .u64 h) from rfl)
  have c3 := (RR0.cell 3).trans (show _ = some (Value.int .u64 l) from rfl)
  have c4 := (RR0.cell 4).trans (show _ = some (Value.string ⟨#[]⟩) from rfl)
  clear RR0
  go_enter Try.func98, Try.ntmps98
  go_wp2_with fail
  refine wp_region_held_drew (S := (fun w' => w'.cell? ⟨w.heap.size, 0, none⟩ = some (.int .i64 kd) ∧ w'.cell? ⟨w.heap.size, 1, none⟩ = some (.int .i64 n) ∧ w'.cell? ⟨w.heap.size, 2, none⟩ = some (.int .u64 h) ∧ w'.cell? ⟨w.heap.size, 3, none⟩ = some (.int .u64 l) ∧ w'.cell? ⟨w.heap.size, 4, none⟩ = some (.string ⟨#[]⟩) ∧ Below w.heap.size w w')) (by kernel_rfl) ?hSr24_ (fun hHeld => ?_)
  case hSr24_ => (first | exact ⟨c0, c1, c2, c3, c4, hb0.drew⟩ | exact ⟨c0, c1, c2, c3, c4, hb0⟩ | (obtain ⟨c0, c1, c2, c3, c4, hb0⟩ := hHeld; exact ⟨cell_later hb c0, cell_later hb c1, cell_later hb c2, cell_later hb c3, cell_later hb c4, below_step hb0 hb⟩))
  refine tk 0 ⟨some 38, .fieldAddr 30 (.tmp 1) 0, 0, _, _, _⟩ hHeld ?_
  (try simp only [Act.put, nz1, nz2, nz3])
  refine tk 1 ⟨some 39, .load 3 (.tmp 38), 3, _, _, _⟩ hHeld ?_
  (try simp only [Act.put, nz1, nz2, nz3])
  refine wpAnyH_ready (rs := [2]) (by kernel_rfl) (by simp) ?_
  refine AllReadyH.cons (o := ⟨some 40, .call { callee := .value (.func 81), args := #[.tmp 39], argTypes := #[3] }, 3, _, _, _⟩) rfl (fun K hK => ?_) AllReadyH.nil
  (go_simp; (refine (HW _).mono ?_); (rintro e wn ⟨rfl, hb⟩); go_wp2_with fail)
  refine hK.out _ _ ?hSr24_3_2 (fun hHeld2 => ?_)
  case hSr24_3_2 => (first | exact ⟨c0, c1, c2, c3, c4, hb0.drew⟩ | exact ⟨c0, c1, c2, c3, c4, hb0⟩ | (obtain ⟨c0, c1, c2, c3, c4, hb0⟩ := hHeld; exact ⟨cell_later hb c0, cell_later hb c1, cell_later hb c2, cell_later hb c3, cell_later hb c4, below_step hb0 hb⟩))
  clear hK K hHeld
  have hHeld := hHeld2
  clear hHeld2
  (try simp only [Act.put, nz1, nz2, nz3])
  refine tk 3 ⟨some 41, .binOp .eql 3 (.tmp 40) (.const (.int .i64 0)) 3, 4, _, _, _⟩ hHeld ?_
  (try simp only [Act.put, nz1, nz2, nz3])
  refine tk 4 ⟨some 42, .move (.tmp 41), 4, _, _, _⟩ hHeld ?_
  (try simp only [Act.put, nz1, nz2, nz3])
  refine tk 5 ⟨some 43, .fieldAddr 30 (.tmp 1) 1, 0, _, _, _⟩ hHeld ?_
  (try simp only [Act.put, nz1, nz2, nz3])
  refine tk 6 ⟨some 44, .load 3 (.tmp 43), 3, _, _, _⟩ hHeld ?_
  (try simp only [Act.put, nz1, nz2, nz3])
  refine tk 7 ⟨some 45, .binOp .lss 3 (.tmp 44) (.const (.int .i64 0)) 3, 4, _, _, _⟩ hHeld ?_
  (try simp only [Act.put, nz1, nz2, nz3])
  refine tk 8 ⟨some 46, .pick (.tmp 42) (.const (.bool true)) (.tmp 45), 4, _, _, _⟩ hHeld ?_
  (try simp only [Act.put, nz1, nz2, nz3])
  refine tk 9 ⟨some 47, .move (.tmp 46), 4, _, _, _⟩ hHeld ?_
  (try simp only [Act.put, nz1, nz2, nz3])
  refine tk 10 ⟨some 48, .fieldAddr 30 (.tmp 1) 1, 0, _, _, _⟩ hHeld ?_
  (try simp only [Act.put, nz1, nz2, nz3])
  refine tk 11 ⟨some 49, .load 3 (.tmp 48), 3, _, _, _⟩ hHeld ?_
  (try simp only [Act.put, nz1, nz2, nz3])
  refine tk 12 ⟨some 50, .fieldAddr 30 (.tmp 1) 0, 0, _, _, _⟩ hHeld ?_
  (try simp only [Act.put, nz1, nz2, nz3])
  refine tk 13 ⟨some 51, .load 3 (.tmp 50), 3, _, _, _⟩ hHeld ?_
  (try simp only [Act.put, nz1, nz2, nz3])
  refine wpAnyH_ready (rs := [14]) (by kernel_rfl) (by simp) ?_
  refine AllReadyH.cons (o := ⟨some 52, .call { callee := .value (.func 81), args := #[.tmp 51], argTypes := #[3] }, 3, _, _, _⟩) rfl (fun K hK => ?_) AllReadyH.nil
  (go_simp; (refine (HW _).mono ?_); (rintro e wn ⟨rfl, hb⟩); go_wp2_with fail)
  refine hK.out _ _ ?hSr24_15_14 (fun hHeld2 => ?_)
  case hSr24_15_14 => (first | exact ⟨c0, c1, c2, c3, c4, hb0.drew⟩ | exact ⟨c0, c1, c2, c3, c4, hb0⟩ | (obtain ⟨c0, c1, c2, c3, c4, hb0⟩ := hHeld; exact ⟨cell_later hb c0, cell_later hb c1, cell_later hb c2, cell_later hb c3, cell_later hb c4, below_step hb0 hb⟩))
  clear hK K hHeld
  have hHeld := hHeld2
  clear hHeld2
  (try simp only [Act.put, nz1, nz2, nz3])
  refine tk 15 ⟨some 53, .binOp .gtr 3 (.tmp 49) (.tmp 52) 3, 4, _, _, _⟩ hHeld ?_
  (try simp only [Act.put, nz1, nz2, nz3])
  refine tk 16 ⟨some 54, .pick (.tmp 47) (.const (.bool true)) (.tmp 53), 4, _, _, _⟩ hHeld ?_
  (try simp only [Act.put, nz1, nz2, nz3])
  refine tk 17 ⟨some 55, .move (.tmp 54), 4, _, _, _⟩ hHeld ?_
  (try simp only [Act.put, nz1, nz2, nz3])
  refine tk 18 ⟨some 56, .fieldAddr 30 (.tmp 1) 4, 0, _, _, _⟩ hHeld ?_
  (try simp only [Act.put, nz1, nz2, nz3])
  refine tk 19 ⟨some 57, .load 9 (.tmp 56), 9, _, _, _⟩ hHeld ?_
  (try simp only [Act.put, nz1, nz2, nz3])
  refine tk 20 ⟨some 58, .binOp .neq 9 (.tmp 57) (.const (.string { data := #[] })) 9, 4, _, _, _⟩ hHeld ?_
  (try simp only [Act.put, nz1, nz2, nz3])
  refine tk 21 ⟨some 59, .pick (.tmp 55) (.const (.bool true)) (.tmp 58), 4, _, _, _⟩ hHeld ?_
  (try simp only [Act.put, nz1, nz2, nz3])
  refine wpAnyH_done (by kernel_rfl) ?_ _
  clear c0 c1 c2 c3 c4 hb0
  obtain ⟨c0, c1, c2, c3, c4, hb0⟩ := hHeld
  clear HW t0 t1 t2 hn hk3 hk3'
  have lc := World.block_lt_of_cell? _ _ c0
  dsimp only at lc
  have hb0s := hb0.size
  go_wp2_with fail
  have HB0 := Lib.hid hb0
  clear hb0 c0 c4
  go_loopw [6, 7] (fun o i wr => ∃ (j m : Nat) (po : Option Addr) (co : Nat), o = .slice po m co ∧ i = .int .i64 (j : Nat) ∧ j ≤ 128 ∧ Hid (m = (lets A n j).length) ∧ Hid (∀ t : Nat, n ≤ t → t < j → bitI A t = false) ∧ Hid (OwnS wn.heap.size wr (.slice po m co) (lets A n j)) ∧ Hid (Below wn.heap.size wn wr)) (fun _ i _ => 128 - (intOf i).toNat)
  case atStart => exact ⟨0, 0, none, 0, rfl, rfl, by omega, Lib.hid (by rw [lets_zero]; rfl), Lib.hid (fun t _ h => by omega), Lib.hid (by rw [lets_zero]; exact OwnS.nil _ _), Lib.hid (Below.refl _ _)⟩
  case round =>
    obtain ⟨j, m, po, co, rfl, rfl, hj, hm, hz, hO, hB⟩ := hrel
    by_cases hlt : j < 128
    · have HTj := HT j hlt wr
      have d1 := cell_later hB.out c1
      have d2 := cell_later hB.out c2
      have d3 := cell_later hB.out c3
      have hsz := hB.out.size
      have HBj := Lib.hid (HB.out j)
      have HM := Lib.hid (@lets_more A n j)
      have HS := Lib.hid (@lets_stay A n j)
      have HZ := Lib.hid (show bitI A j = false ∨ j < n → ∀ t : Nat, n ≤ t → t < j + 1 → bitI A t = false from fun h t h1 h2 => by
        by_cases e : t = j
        · subst e
          rcases h with h | h
          · exact h
          · omega
        · exact hz.out t h1 (by omega))
      clear HB HG hz HT
      have hll8 : (lets A n j).length ≤ 128 := by rw [lets_len]; omega
      generalize bitI A j = b at *
      generalize lets A n j = ll at *
      go_wp2_with fail
      refine HTj.mono ?_
      rintro e w2 ⟨rfl, hb⟩
      replace d1 := cell_later hb d1
      replace hO := Lib.hid (hO.out.later hb)
      replace hB := Lib.hid (hB.out.trans (hb.mono hsz))
      replace hsz : wn.heap.size ≤ w2.heap.size := hB.out.size
      clear hb HTj d2 d3
      cases b with
      | true =>
        have e1 : bit01 true = 1 := rfl
        rw [e1]
        by_cases hjn : j < n
        · have hll := HM.out hjn
          obtain ⟨v', w3, hrun, hown, hb3⟩ := appS_one [49] hO.out hB.out (by omega) hsz
          rw [show bitS true = [49] from rfl] at hll
          rw [← hll] at hown
          obtain ⟨pv, cv, rfl, _, _⟩ := hown.read
          have d1n := cell_later hb3 c1
          have HOW := Lib.hid hown
          have HB3 := Lib.hid hb3
          have HRUN := Lib.hid hrun
          have HZ' := Lib.hid (HZ.out (.inr hjn))
          clear hrun hown hb3 HZ HM HS HBj hO hB hm
          generalize hm' : (lets A n (j + 1)).length = m' at *
          have HM' := Lib.hid hm'.symm
          clear hm' hll
          have tok : True := trivial
          go_wp2_with (have _t := tok; at_builtin; refine wpList_appS rfl (.tmp 85) (.tmp 86) 107 rfl rfl rfl HRUN.out ?_; clear tok HRUN)
          exact ⟨⟨j + 1, m', pv, cv, rfl, by go_num, by omega, HM', HZ', HOW, HB3⟩, by simp [intOf]; omega⟩
        · have hjn' : n ≤ j := by omega
          have HX := Lib.hid (HBj.out hjn' hlt rfl _ (below_step HB0.out hB.out))
          clear HZ HM HS HBj hO hB hm
          go_wp2
          exact HX.out
      | false =>
        have e1 : bit01 false = 0 := rfl
        rw [e1]
        have HZ' := Lib.hid (HZ.out (.inl rfl))
        by_cases hjn : j < n
        · have hll := HM.out hjn
          obtain ⟨v', w3, hrun, hown, hb3⟩ := appS_one [48] hO.out hB.out (by omega) hsz
          rw [show bitS false = [48] from rfl] at hll
          rw [← hll] at hown
          obtain ⟨pv, cv, rfl, _, _⟩ := hown.read
          have HOW := Lib.hid hown
          have HB3 := Lib.hid hb3
          have HRUN := Lib.hid hrun
          clear hrun hown hb3 HZ HM HS HBj hO hB hm
          generalize hm' : (lets A n (j + 1)).length = m' at *
          have HM' := Lib.hid hm'.symm
          clear hm' hll
          have tok : True := trivial
          go_wp2_with (have _t := tok; at_builtin; refine wpList_appS rfl (.tmp 96) (.tmp 97) 107 rfl rfl rfl HRUN.out ?_; clear tok HRUN)
          exact ⟨⟨j + 1, m', pv, cv, rfl, by go_num, by omega, HM', HZ', HOW, HB3⟩, by simp [intOf]; omega⟩
        · have hjn' : n ≤ j := by omega
          have hst := HS.out hjn'
          rw [← hst] at hO hm
          clear HZ HM HS HBj hst
          go_wp2
          exact ⟨⟨j + 1, m, po, co, rfl, by go_num, by omega, hm, HZ', hO, hB⟩, by simp [intOf]; omega⟩
    · have hj8 : j = 128 := by omega
      subst hj8
      have HX := Lib.hid (HG.out _ _ (fun t h1 h2 => hz.out t h1 h2) hO.out.read (below_step HB0.out hB.out))
      clear HB HG hz HT hO hB hm
      go_wp2
      exact HX.out
end Go.Proofs.Ytbekocknfpekoaa
namespace Go.Proofs.Ytbekocknfpekoaa
set_option linter.unusedVariables false
set_option linter.unusedSimpArgs false
open Go.RowKit
theorem tp_succ {A : Int} {i : Nat} (h0 : 0 ≤ A) (hi : i < 128) : tp A (i + 1) = tp A i + (if bitI A i = true then 2 ^ (127 - i) else 0) := by
  rw [bit_def A i hi]
  unfold tp
  have e : (2 : Int) ^ (128 - i) = 2 ^ (127 - i) * 2 := by rw [← Int.pow_succ]; congr 1; omega
  rw [show 128 - (i + 1) = 127 - i by omega, e, ← Int.ediv_ediv_of_nonneg (Int.le_of_lt (Int.pow_pos (by decide)))]
  generalize A / 2 ^ (127 - i) = q
  generalize (2 : Int) ^ (127 - i) = P
  have hq : q = q / 2 * 2 + q % 2 := by omega
  by_cases h : q % 2 = 1
  · rw [if_pos (by simpa using h)]
    rw [h] at hq
    generalize q / 2 = z at *
    subst hq
    rw [Int.add_mul, Int.one_mul, Int.mul_assoc, Int.mul_comm 2 P]
  · rw [if_neg (by simpa using h)]
    have h2 : q % 2 = 0 := by omega
    rw [h2] at hq
    generalize q / 2 = z at *
    rw [Int.add_zero] at hq
    subst hq
    rw [Int.mul_assoc, Int.mul_comm 2 P]; omega
theorem pow_pos2 (n : Nat) : (0 : Int) < 2 ^ n := Int.pow_pos (by decide)
theorem pow_word (q : Nat) (h : q < 64) : (1 : Int) ≤ 2 ^ q ∧ (2 : Int) ^ q ≤ 9223372036854775808 := by
  have h1 : (2 : Int) ^ 63 = 2 ^ q * 2 ^ (63 - q) := by rw [← Int.pow_add]; congr 1; omega
  have h2 : (2 : Int) ^ 63 = 9223372036854775808 := by decide
  have p1 := pow_pos2 q
  have p2 := pow_pos2 (63 - q)
  refine ⟨by omega, ?_⟩
  rw [← h2, h1]
  have p3 : (2 : Int) ^ q * 1 ≤ 2 ^ q * 2 ^ (63 - q) := Int.mul_le_mul_of_nonneg_left (by omega) (by omega)
  omega
/-- a set bit among the first 64 -/
theorem two64 : (18446744073709551616 : Int) = 2 ^ 64 := by decide
theorem tp_hi_set {A : Int} {i : Nat} (h0 : 0 ≤ A) (h1 : A < MM) (hi64 : i < 64) (hb : bitI A i = true) : hi (tp A (i + 1)) = hi (tp A i) + 2 ^ (63 - i) ∧ lo (tp A (i + 1)) = lo (tp A i) := by
  have e := tp_succ h0 (i := i) (by omega)
  rw [if_pos hb] at e
  have r := tp_range (n := i + 1) h0 h1
  have r0 := tp_range (n := i) h0 h1
  have e1 : (2 : Int) ^ (127 - i) = 2 ^ (63 - i) * 18446744073709551616 := by
    have h := Int.pow_add (2 : Int) (63 - i) 64
    rw [show 63 - i + 64 = 127 - i by omega] at h
    rw [two64]; exact h
  have p := pow_pos2 (63 - i)
  rw [e1] at e
  generalize (2 : Int) ^ (63 - i) = P at *
  unfold MM at h1
  generalize tp A (i + 1) = x at *
  generalize tp A i = y at *
  subst e
  unfold hi lo
  constructor <;> omega
theorem tp_lo_mul {A : Int} {i : Nat} (hi64 : 64 ≤ i) (hi2 : i < 128) : ∃ z : Int, tp A i = z * (2 * 2 ^ (127 - i)) := by
  unfold tp
  refine ⟨A / 2 ^ (128 - i), ?_⟩
  congr 1
  rw [← Int.pow_succ']; congr 1; omega
theorem tp_lo_set {A : Int} {i : Nat} (h0 : 0 ≤ A) (h1 : A < MM) (hi64 : 64 ≤ i) (hi2 : i < 128) (hb : bitI A i = true) : hi (tp A (i + 1)) = hi (tp A i) ∧ lo (tp A (i + 1)) = lo (tp A i) + 2 ^ (127 - i) := by
  have e := tp_succ h0 hi2
  rw [if_pos hb] at e
  have r := tp_range (n := i + 1) h0 h1
  have r0 := tp_range (n := i) h0 h1
  obtain ⟨z, hz⟩ := tp_lo_mul (A := A) hi64 hi2
  have e1 : (18446744073709551616 : Int) = 2 ^ (i - 64) * (2 * 2 ^ (127 - i)) := by
    have h := Int.pow_add (2 : Int) (i - 64) (127 - i + 1)
    rw [show i - 64 + (127 - i + 1) = 64 by omega, Int.pow_succ' (2 : Int) (127 - i)] at h
    rw [two64]; exact h
  have p := pow_pos2 (127 - i)
  have p2 := pow_pos2 (i - 64)
  -- the low word is a multiple of D, and so is 2^64
  have hl : ∃ u : Int, lo (tp A i) = u * (2 * 2 ^ (127 - i)) := by
    have hlo : lo (tp A i) = tp A i - 18446744073709551616 * (tp A i / 18446744073709551616) := by unfold lo; exact Int.emod_def _ _
    generalize tp A i / 18446744073709551616 = v at hlo
    refine ⟨z - 2 ^ (i - 64) * v, ?_⟩
    rw [hlo, hz, e1, Int.sub_mul, Int.mul_right_comm]
  obtain ⟨u, hu⟩ := hl
  have hlt : lo (tp A i) + 2 ^ (127 - i) < 18446744073709551616 := by
    have hlo : lo (tp A i) < 18446744073709551616 := by have := lo_le (tp A i); omega
    rw [hu] at hlo ⊢
    rw [e1] at hlo ⊢
    generalize (2 : Int) ^ (127 - i) = P at *
    generalize (2 : Int) ^ (i - 64) = Q at *
    have hD : (0 : Int) < 2 * P := by omega
    have huQ : u < Q := Int.lt_of_mul_lt_mul_right hlo (Int.le_of_lt hD)
    have : (u + 1) * (2 * P) ≤ Q * (2 * P) := Int.mul_le_mul_of_nonneg_right (by omega) (Int.le_of_lt hD)
    rw [Int.add_mul, Int.one_mul] at this
    omega
  rw [e]
  clear e e1 hz hu u z hb
  generalize (2 : Int) ^ (127 - i) = P at *
  generalize tp A i = y at *
  unfold hi lo at *
  constructor <;> omega
theorem tp_clear {A : Int} {i : Nat} (h0 : 0 ≤ A) (hi2 : i < 128) (hb : bitI A i = false) : tp A (i + 1) = tp A i := by
  rw [tp_succ h0 hi2, hb]; simp
theorem row_set2 {w : World} {g : Nat} {a b c d e v : Value} {t : TypeId} (h : Row w g #[a, b, c, d, e] t) : Row (w.setCell ⟨g, 2, none⟩ v) g #[a, b, v, d, e] t := by simpa using h.set 2 v
theorem row_set3 {w : World} {g : Nat} {a b c d e v : Value} {t : TypeId} (h : Row w g #[a, b, c, d, e] t) : Row (w.setCell ⟨g, 3, none⟩ v) g #[a, b, c, v, e] t := by simpa using h.set 3 v
set_option maxRecDepth 100000 in
set_option maxHeartbeats 4000000 in
theorem rof_path (v : Value) (ls : List (List UInt8)) (h8 : ls.length ≤ 8) (hsl : ∀ x ∈ ls, x.length ≤ 16) (w : World) (hS : SS w v ls) : Calls Try.prog 82 #[.int .i64 3, v] w fun e w' => e = .returned (kv ⟨3, ls.length, 0, 0, jn ls⟩) ∧ Below w.heap.size w w' := by
  have HJ := Lib.hid (fun (w1 : World) (hS1 : SS w1 v ls) => rJoin_t v ls h8 hsl w1 hS1)
  have HS := Lib.hid (fun (w1 : World) (hb : Below w.heap.size w w1) => hS.later hb)
  obtain ⟨p, c, rfl, _, _⟩ := hS
  clear hsl
  generalize jn ls = q at *
  generalize hn : ls.length = n at *
  clear hn
  obtain ⟨R0, R1, hb0⟩ := two_rows w #[.int .i64 0, .int .i64 0, .int .u64 0, .int .u64 0, .string ⟨#[]⟩] #[.int .i64 3, .int .i64 n, .int .u64 0, .int .u64 0, .string ⟨#[]⟩] 30 30
  have HJ2 := Lib.hid (HJ.out _ (HS.out _ hb0))
  clear HJ HS
  have c0 := ((R0).cell 0).trans (show _ = some (Value.int .i64 0) from rfl)
  have cf0 := (R0).frozen 0
  have c1 := ((R0).cell 1).trans (show _ = some (Value.int .i64 0) from rfl)
  have cf1 := (R0).frozen 1
  have c2 := ((R0).cell 2).trans (show _ = some (Value.int .u64 0) from rfl)
  have cf2 := (R0).frozen 2
  have c3 := ((R0).cell 3).trans (show _ = some (Value.int .u64 0) from rfl)
  have cf3 := (R0).frozen 3
  have c4 := ((R0).cell 4).trans (show _ = some (Value.string ⟨#[]⟩) from rfl)
  have cf4 := (R0).frozen 4
  have d0 := ((R1).cell 0).trans (show _ = some (Value.int .i64 3) from rfl)
  have df0 := (R1).frozen 0
  have d1 := ((R1).cell 1).trans (show _ = some (Value.int .i64 n) from rfl)
  have df1 := (R1).frozen 1
  have d2 := ((R1).cell 2).trans (show _ = some (Value.int .u64 0) from rfl)
  have df2 := (R1).frozen 2
  have d3 := ((R1).cell 3).trans (show _ = some (Value.int .u64 0) from rfl)
  have df3 := (R1).frozen 3
  have d4 := ((R1).cell 4).trans (show _ = some (Value.string ⟨#[]⟩) from rfl)
  have df4 := (R1).frozen 4
  clear R0 R1
  unfold kv
  dsimp only
  go_enter Try.func82, Try.ntmps82
  go_wp2_with fail
  refine HJ2.out.mono ?_
  rintro e w1 ⟨rfl, rfl⟩
  clear HJ2
  go_wp2
  refine bodyPost_ret (v := .agg #[.int .i64 3, .int .i64 n, .int .u64 0, .int .u64 0, .string ⟨q.toArray⟩]) (by simp [results, Try.results82, go_sem]) rfl ⟨rfl, (by repeat (first | exact Below.refl _ _ | assumption | (with_reducible refine Below.setCell ?_ ?h _; case h => first | omega | (simp; done) | (simp; omega)) | (with_reducible refine Below.alloc ?_ ?h _; case h => first | omega | (simp; done) | (simp; omega)) | (with_reducible refine Below.drew ?_) | (with_reducible refine Below.trans ?_ (hb4.mono ?h); case h => first | omega | (simp; done) | (simp; omega)) | (with_reducible refine Below.trans ?_ (hb3.mono ?h); case h => first | omega | (simp; done) | (simp; omega)) | (with_reducible refine Below.trans ?_ (hb2.mono ?h); case h => first | omega | (simp; done) | (simp; omega)) | (with_reducible refine Below.trans ?_ (hb.mono ?h); case h => first | omega | (simp; done) | (simp; omega)) | (with_reducible refine Below.trans ?_ (hb0.mono ?h); case h => first | omega | (simp; done) | (simp; omega))))⟩
end Go.Proofs.Ytbekocknfpekoaa
namespace Go.Proofs.Ytbekocknfpekoaa
set_option linter.unusedVariables false
set_option linter.unusedSimpArgs false
open Go.RowKit
theorem hi_tp0 (A : Int) (h0 : 0 ≤ A) (h1 : A < MM) : hi (tp A 0) = 0 ∧ lo (tp A 0) = 0 := by
  have e : tp A 0 = 0 := by
    unfold tp
    have : A / 2 ^ (128 - 0) = 0 := Int.ediv_eq_zero_of_lt h0 (by unfold MM at h1; exact h1)
    rw [this, Int.zero_mul]
  rw [e]; exact ⟨rfl, rfl⟩
/-- what a round of the loop does to the two words -/
theorem of_step {A : Int} (h0 : 0 ≤ A) (h1 : A < MM) {i : Nat} (hi2 : i < 128) :
    (bitI A i = false ∧ hi (tp A (i + 1)) = hi (tp A i) ∧ lo (tp A (i + 1)) = lo (tp A i)) ∨
    (bitI A i = true ∧ i < 64 ∧ hi (tp A (i + 1)) = hi (tp A i) + 2 ^ (63 - i) ∧ lo (tp A (i + 1)) = lo (tp A i)) ∨
    (bitI A i = true ∧ 64 ≤ i ∧ hi (tp A (i + 1)) = hi (tp A i) ∧ lo (tp A (i + 1)) = lo (tp A i) + 2 ^ (127 - i)) := by
  cases hb : bitI A i with
  | false => left; rw [tp_clear h0 hi2 hb]; exact ⟨rfl, rfl, rfl⟩
  | true =>
    right
    by_cases h : i < 64
    · exact .inl ⟨rfl, h, tp_hi_set h0 h1 h hb⟩
    · exact .inr ⟨rfl, by omega, tp_lo_set h0 h1 (by omega) hi2 hb⟩
theorem bit_text (b : Bool) : ((⟨(bitS b).toArray⟩ : ByteArray).toList == (⟨#[49]⟩ : ByteArray).toList) = b := by
  cases b <;> decide +kernel
theorem bit_text2 (b : Bool) : ((⟨(bitS b).toArray⟩ : ByteArray).toList == [49]) = b := by
  cases b <;> decide +kernel
set_option maxRecDepth 100000 in
set_option maxHeartbeats 8000000 in
theorem rof_adr (kd : Int) (hk : ¬ kd = 3) (A : Int) (h0 : 0 ≤ A) (h1 : A < MM) (n : Nat) (hn : n ≤ 128) (v : Value) (w : World) (hS : SS w v ((List.range n).map fun i : Nat => bitS (bitI A i))) :
    Calls Try.prog 82 #[.int .i64 kd, v] w fun e w' => e = .returned (kv ⟨kd, n, hi (tp A n), lo (tp A n), []⟩) ∧ Below w.heap.size w w' := by
  have HST := Lib.hid (fun (i : Nat) (h : i < 128) => of_step h0 h1 (i := i) h)
  obtain ⟨z1, z2⟩ := hi_tp0 A h0 h1
  obtain ⟨p, c, rfl, hc, hp⟩ := hS
  rw [List.length_map, List.length_range] at hp hc ⊢
  have HP := Lib.hid (show 0 < n → ∃ g o, p = some ⟨g, o, none⟩ ∧ g < w.heap.size ∧ ∀ j : Nat, j < n → w.cell? ⟨g, o + j, none⟩ = some (.string ⟨(bitS (bitI A j)).toArray⟩) from fun h => by
    obtain ⟨g, o, e1, e2, e3⟩ := hp h
    exact ⟨g, o, e1, e2, fun j hj => e3 j _ (by rw [List.getElem?_map, List.getElem?_range hj]; rfl)⟩)
  clear hp hc
  have hk3 : (kd == 3) = false := by simpa using hk
  obtain ⟨R0, R1, hb0⟩ := two_rows w #[.int .i64 0, .int .i64 0, .int .u64 0, .int .u64 0, .string ⟨#[]⟩] #[.int .i64 kd, .int .i64 n, .int .u64 0, .int .u64 0, .string ⟨#[]⟩] 30 30
  replace R0 := Lib.hid R0
  have HR1 : Hid (Row ((w.alloc (.cells #[.int .i64 0, .int .i64 0, .int .u64 0, .int .u64 0, .string ⟨#[]⟩] 30)).alloc (.cells #[.int .i64 kd, .int .i64 n, .int .u64 0, .int .u64 0, .string ⟨#[]⟩] 30)) (w.heap.size + 1) #[.int .i64 kd, .int .i64 n, .int .u64 (hi (tp A 0)), .int .u64 (lo (tp A 0)), .string ⟨#[]⟩] 30) := Lib.hid (by rw [z1, z2]; exact R1)
  replace hb0 := Lib.hid hb0
  clear R1 z1 z2 h0 h1
  unfold kv
  dsimp only
  have hHL : ∀ x, hi (tp A x) ≤ 18446744073709551615 ∧ lo (tp A x) ≤ 18446744073709551615 := fun x => ⟨hi_le _, lo_le _⟩
  have HHL := Lib.hid hHL
  have HNN := Lib.hid (fun x => (⟨hi_nonneg (tp A x), lo_nonneg (tp A x)⟩ : 0 ≤ hi (tp A x) ∧ 0 ≤ lo (tp A x)))
  clear hHL
  obtain ⟨H, hH⟩ : ∃ H : Nat → Int, ∀ x, H x = hi (tp A x) := ⟨_, fun _ => rfl⟩
  obtain ⟨L, hL⟩ : ∃ L : Nat → Int, ∀ x, L x = lo (tp A x) := ⟨_, fun _ => rfl⟩
  simp only [← hH, ← hL] at *
  clear hH hL
  go_enter Try.func82, Try.ntmps82
  go_wp2_with fail
  go_loopw [6] (fun i wr => ∃ j : Nat, j ≤ n ∧ i = .int .i64 (j : Nat) ∧ Hid (Row wr w.heap.size #[.int .i64 0, .int .i64 0, .int .u64 0, .int .u64 0, .string ⟨#[]⟩] 30) ∧ Hid (Row wr (w.heap.size + 1) #[.int .i64 kd, .int .i64 n, .int .u64 (H j), .int .u64 (L j), .string ⟨#[]⟩] 30) ∧ Hid (Below w.heap.size w wr)) (fun i _ => n - (intOf i).toNat)
  case atStart => exact ⟨0, Nat.zero_le _, rfl, R0, HR1, hb0⟩
  case round =>
    clear R0 HR1 hb0
    obtain ⟨j, hj, rfl, R0, R1, hB⟩ := hrel
    by_cases hlt : j < n
    · obtain ⟨g, o, rfl, hg, hC⟩ := HP.out (by omega)
      have cA := (hB.out.cell (p := ⟨g, o + j, none⟩) hg).trans (hC j hlt)
      have tb := bit_text (bitI A j)
      have tb2 := bit_text2 (bitI A j)
      have hst := HST.out j (by omega)
      have b1 := (HHL.out (j + 1))
      have b2 := (HNN.out j)
      have b3 := (HHL.out j)
      clear HST HHL HNN HP hC
      generalize bitI A j = b at *
      generalize (⟨(bitS b).toArray⟩ : ByteArray) = tx at *
      have hsz : w.heap.size ≤ w.heap.size + 1 := by omega
      rcases hst with ⟨rfl, e1, e2⟩ | ⟨rfl, h64, e1, e2⟩ | ⟨rfl, h64, e1, e2⟩
      · rw [← e1, ← e2] at R1
        clear e1 e2 b1 b2 b3
        go_wp2
        exact ⟨⟨j + 1, by omega, by go_num, R0, R1, hB⟩, by simp [intOf]; omega⟩
      · have d2 := (R1.out.cell 2).trans (show _ = some (Value.int .u64 (H j)) from rfl)
        have df2 := R1.out.frozen 2
        obtain ⟨q, hq⟩ : ∃ q, 63 - j = q := ⟨_, rfl⟩
        rw [hq] at e1
        have pw := pow_word q (by omega)
        have t1 : ((63 : Int) - (j : Int)).toNat = q := by omega
        have t2 : IntKind.u64.wrap (63 - (j : Int)) = 63 - (j : Int) := by rw [IntKind.wrap_u64]; omega
        have t3 : IntKind.u64.wrap (2 ^ q) = 2 ^ q := by rw [IntKind.wrap_u64]; omega
        have t4 : IntKind.u64.wrap (H j + 2 ^ q) = H j + 2 ^ q := by rw [IntKind.wrap_u64]; omega
        have RN := Lib.hid (row_set2 (v := .int .u64 (H j + 2 ^ q)) R1.out)
        rw [← e2] at RN
        have R0N := Lib.hid (R0.out.set_far ⟨w.heap.size + 1, 2, none⟩ (.int .u64 (H j + 2 ^ q)) (by simp))
        have HBN := Lib.hid (hB.out.setCell (p := ⟨w.heap.size + 1, 2, none⟩) hsz (.int .u64 (H j + 2 ^ q)))
        have E1 := Lib.hid e1
        have lt : (j : Int) < 64 := by omega
        have lt' : ¬ (64 : Int) ≤ (j : Int) := by omega
        clear hq e1 e2 b1 b2 b3 hB R0 R1 pw
        go_wp2
        exact ⟨⟨j + 1, by omega, by go_num, R0N, by rw [E1.out]; exact RN, HBN⟩, by simp [intOf]; omega⟩
      · have d2 := (R1.out.cell 3).trans (show _ = some (Value.int .u64 (L j)) from rfl)
        have df2 := R1.out.frozen 3
        obtain ⟨q, hq⟩ : ∃ q, 127 - j = q := ⟨_, rfl⟩
        rw [hq] at e2
        have pw := pow_word q (by omega)
        have t1 : ((127 : Int) - (j : Int)).toNat = q := by omega
        have t2 : IntKind.u64.wrap (127 - (j : Int)) = 127 - (j : Int) := by rw [IntKind.wrap_u64]; omega
        have t3 : IntKind.u64.wrap (2 ^ q) = 2 ^ q := by rw [IntKind.wrap_u64]; omega
        have t4 : IntKind.u64.wrap (L j + 2 ^ q) = L j + 2 ^ q := by rw [IntKind.wrap_u64]; omega
        have RN := Lib.hid (row_set3 (v := .int .u64 (L j + 2 ^ q)) R1.out)
        rw [← e1] at RN
        have R0N := Lib.hid (R0.out.set_far ⟨w.heap.size + 1, 3, none⟩ (.int .u64 (L j + 2 ^ q)) (by simp))
        have HBN := Lib.hid (hB.out.setCell (p := ⟨w.heap.size + 1, 3, none⟩) hsz (.int .u64 (L j + 2 ^ q)))
        have E1 := Lib.hid e2
        have lt : ¬ (j : Int) < 64 := by omega
        have lt' : (64 : Int) ≤ (j : Int) := by omega
        clear hq e1 e2 b1 b2 b3 hB R0 R1 pw
        go_wp2
        exact ⟨⟨j + 1, by omega, by go_num, R0N, by rw [E1.out]; exact RN, HBN⟩, by simp [intOf]; omega⟩
    · have hjn : j = n := by omega
      subst hjn
      have HB := hB.out
      have c0 := ((R0.out).cell 0).trans (show _ = some (Value.int .i64 0) from rfl)
      have cf0 := (R0.out).frozen 0
      have c1 := ((R0.out).cell 1).trans (show _ = some (Value.int .i64 0) from rfl)
      have cf1 := (R0.out).frozen 1
      have c2 := ((R0.out).cell 2).trans (show _ = some (Value.int .u64 0) from rfl)
      have cf2 := (R0.out).frozen 2
      have c3 := ((R0.out).cell 3).trans (show _ = some (Value.int .u64 0) from rfl)
      have cf3 := (R0.out).frozen 3
      have c4 := ((R0.out).cell 4).trans (show _ = some (Value.string ⟨#[]⟩) from rfl)
      have cf4 := (R0.out).frozen 4
      have d0 := ((R1.out).cell 0).trans (show _ = some (Value.int .i64 kd) from rfl)
      have df0 := (R1.out).frozen 0
      have d1 := ((R1.out).cell 1).trans (show _ = some (Value.int .i64 j) from rfl)
      have df1 := (R1.out).frozen 1
      have d2 := ((R1.out).cell 2).trans (show _ = some (Value.int .u64 (H j)) from rfl)
      have df2 := (R1.out).frozen 2
      have d3 := ((R1.out).cell 3).trans (show _ = some (Value.int .u64 (L j)) from rfl)
      have df3 := (R1.out).frozen 3
      have d4 := ((R1.out).cell 4).trans (show _ = some (Value.string ⟨#[]⟩) from rfl)
      have df4 := (R1.out).frozen 4
      clear R0 R1 HST HHL HNN HP hB
      go_wp2
      refine bodyPost_ret (v := .agg #[.int .i64 kd, .int .i64 j, .int .u64 (H j), .int .u64 (L j), .string ⟨#[]⟩]) (by simp [results, Try.results82, go_sem, c0, c1, c2, c3, c4]) rfl ⟨rfl, bset5 HB (Nat.le_refl _) _ _ _ _ _⟩
end Go.Proofs.Ytbekocknfpekoaa
namespace Go.Proofs.Ytbekocknfpekoaa
set_option linter.unusedVariables false
set_option linter.unusedSimpArgs false
open Go.RowKit
theorem cut_bad {k : Ke} (h : rightK k = false) (n : Int) : cutK k n = kz := by unfold cutK; rw [h]; rfl
theorem kz_ok : kz.ok := ⟨by unfold Word kz; decide, by unfold Word kz; decide, by unfold kz; decide, by unfold kz; decide, by unfold kz; decide, by unfold kz; decide, by unfold kz; decide⟩
theorem top_ok {k : Ke} (ok : k.ok) (n : Int) (n0 : -9223372036854775808 ≤ n) (n1 : n ≤ 9223372036854775807) : (topK k n).ok := by
  unfold topK
  split
  · exact ⟨by unfold Word; dsimp only; decide, by unfold Word; dsimp only; decide, by dsimp only; decide, by dsimp only; decide, n0, n1, top_len _ _⟩
  · exact ⟨word_hi _, word_lo _, ok.k0, ok.k1, n0, n1, by dsimp only; simp⟩
theorem cut_ok {k : Ke} (ok : k.ok) (n : Int) (n1 : n ≤ 9223372036854775807) : (cutK k n).ok := by
  unfold cutK
  split
  · split
    · exact ok
    · exact top_ok ok _ (by omega) (by omega)
  · exact kz_ok
end Go.Proofs.Ytbekocknfpekoaa
namespace Go.Proofs.Ytbekocknfpekoaa
set_option linter.unusedVariables false
set_option linter.unusedSimpArgs false
open Go.RowKit
theorem letters_t (k : Ke) (ok : k.ok) (w : World) : Calls Try.prog 98 #[kv k] w (LetPost k w) := by
  by_cases h3 : k.kind = 3
  · exact letters_path k h3 ok.path w
  · by_cases hb : wid k.kind = 0 ∨ k.len < 0 ∨ wid k.kind < k.len ∨ k.path ≠ []
    · exact letters_adr_bad k h3 hb w
    · obtain ⟨kd, len, h, l, p⟩ := k
      have o1 := ok.h
      have o2 := ok.l
      clear ok
      dsimp only at *
      have hp : p = [] := Classical.byContradiction fun e => hb (.inr (.inr (.inr e)))
      subst hp
      have hl0 : 0 ≤ len := by omega
      obtain ⟨n, rfl⟩ := Int.eq_ofNat_of_zero_le hl0
      refine letters_adr_go kd n h l ?_ (by omega) o1 o2 w
      by_cases h1 : kd = 1
      · exact .inl h1
      · by_cases h2 : kd = 2
        · exact .inr h2
        · exfalso
          apply hb
          left
          unfold wid; rw [if_neg h1, if_neg h2, if_neg h3]
theorem ss_take {w : World} {p : Option Addr} {n c : Nat} {ls : List (List UInt8)} (h : SS w (.slice p n c) ls) (m : Nat) (hm : m ≤ ls.length) : SS w (.slice p m c) (ls.take m) ∧ m ≤ c := by
  obtain ⟨p', c', e, hc, hp⟩ := h
  cases e
  refine ⟨⟨p, c, by rw [List.length_take, Nat.min_eq_left hm], by rw [List.length_take]; omega, fun h0 => ?_⟩, by omega⟩
  rw [List.length_take] at h0
  obtain ⟨g, o, e1, e2, e3⟩ := hp (by omega)
  refine ⟨g, o, e1, e2, fun j x hx => e3 j x ?_⟩
  rw [List.getElem?_take] at hx
  split at hx
  · exact hx
  · cases hx
theorem letK_small {k : Ke} (h : rightK k = true) : (letK k).length ≤ 128 := by
  have h1 := letK_len h
  have h2 := len_range h
  omega
theorem rof_take (k : Ke) (ok : k.ok) (hr : rightK k = true) (m : Nat) (hm : m ≤ (letK k).length) (v : Value) (w : World) (hS : SS w v ((letK k).take m)) : Calls Try.prog 82 #[.int .i64 k.kind, v] w fun e w' => e = .returned (kv (topK k m)) ∧ Below w.heap.size w w' := by
  rcases right_kind hr with hk | hk
  · have A := adr_of_right hr hk
    have hl := letK_len hr
    have h8 := letK_small hr
    have e : (letK k).take m = (List.range m).map fun i : Nat => bitS (bitI k.num i) := by
      rw [letK_adr A, ← List.map_take, List.take_range, Nat.min_eq_left (by omega)]
    rw [e] at hS
    have h := rof_adr k.kind A.ne k.num A.range.1 A.range.2 m (by omega) v w hS
    have et : topK k m = ⟨k.kind, m, hi (tp k.num m), lo (tp k.num m), []⟩ := by
      unfold topK
      rw [if_neg A.ne, tp_eq k.num m A.range.1 A.range.2 (by omega), Int.toNat_natCast]
    rw [et]
    exact h
  · have e : letK k = labsL k.path := by unfold letK; rw [if_pos hk]
    rw [e] at hS hm
    have h8 := labsL_len k.path
    have h := rof_path v ((labsL k.path).take m) (by rw [List.length_take]; omega) (fun x hx => labB_len (labs_all k.path x (List.mem_of_mem_take hx))) w hS
    have et : topK k m = ⟨3, m, 0, 0, jn ((labsL k.path).take m)⟩ := by
      unfold topK topL
      rw [if_pos hk, Int.toNat_natCast]
    rw [et, hk]
    rw [List.length_take, Nat.min_eq_left hm] at h
    exact h
set_option maxHeartbeats 1000000 in
theorem rright_t (k : Ke) (ok : k.ok) (w : World) : Calls Try.prog 80 #[kv k] w fun e w' => e = .returned (.bool (rightK k)) ∧ Below w.heap.size w w' := by
  have HL : ∀ w1, Calls Try.prog 98 #[kv k] w1 fun e w' => ∃ v, e = .returned (.tuple #[v, .bool (rightK k)]) ∧ SS w' v (letR k) ∧ Below w1.heap.size w1 w' := fun w1 => letters_t k ok w1
  generalize rightK k = r at *
  generalize letR k = ls at *
  clear ok
  unfold kv at *
  have hb0 : Below w.heap.size w (w.alloc (.cells #[.int .i64 k.kind, .int .i64 k.len, .int .u64 k.h, .int .u64 k.l, .string ⟨k.path.toArray⟩] 30)) := (by repeat (first | exact Below.refl _ _ | assumption | (with_reducible refine Below.setCell ?_ ?h _; case h => first | omega | (simp; done) | (simp; omega)) | (with_reducible refine Below.alloc ?_ ?h _; case h => first | omega | (simp; done) | (simp; omega)) | (with_reducible refine Below.drew ?_) | (with_reducible refine Below.trans ?_ (hb4.mono ?h); case h => first | omega | (simp; done) | (simp; omega)) | (with_reducible refine Below.trans ?_ (hb3.mono ?h); case h => first | omega | (simp; done) | (simp; omega)) | (with_reducible refine Below.trans ?_ (hb2.mono ?h); case h => first | omega | (simp; done) | (simp; omega)) | (with_reducible refine Below.trans ?_ (hb.mono ?h); case h => first | omega | (simp; done) | (simp; omega)) | (with_reducible refine Below.trans ?_ (hb0.mono ?h); case h => first | omega | (simp; done) | (simp; omega))))
  go_enter Try.func80, Try.ntmps80
  go_wp2_with fail
  refine (HL _).mono ?_
  rintro e w1 ⟨v, rfl, _, hb⟩
  replace hb0 := below_step hb0 hb
  clear hb HL
  go_wp2
  go_ret
  exact ⟨rfl, hb0⟩
end Go.Proofs.Ytbekocknfpekoaa
namespace Go.Proofs.Ytbekocknfpekoaa
set_option linter.unusedVariables false
set_option linter.unusedSimpArgs false
open Go.RowKit
def cellsK (k : Ke) : List Value := [.int .i64 k.kind, .int .i64 k.len, .int .u64 k.h, .int .u64 k.l, .string ⟨k.path.toArray⟩]
def valsK (ls : List Ke) : List Value := ls.flatMap cellsK
theorem valsK_cons (k : Ke) (ls : List Ke) : valsK (k :: ls) = cellsK k ++ valsK ls := by unfold valsK; rw [List.flatMap_cons]
theorem valsK_app (a b : List Ke) : valsK (a ++ b) = valsK a ++ valsK b := by unfold valsK; rw [List.flatMap_append]
theorem valsK_length : ∀ (ls : List Ke), (valsK ls).length = ls.length * 5
  | [] => rfl
  | k :: r => by rw [valsK_cons, List.length_append, valsK_length r, List.length_cons]; show 5 + _ = _; omega
theorem valsK_one : ∀ (ls : List Ke), ∀ x ∈ valsK ls, x.oneCell' = true
  | [], x, h => by cases h
  | k :: r, x, h => by
    rw [valsK_cons] at h
    rcases List.mem_append.1 h with h | h
    · simp only [cellsK, List.mem_cons, List.not_mem_nil, or_false] at h
      rcases h with rfl | rfl | rfl | rfl | rfl <;> rfl
    · exact valsK_one r x h
theorem valsK_get : ∀ (ls : List Ke) (j i : Nat) (k : Ke), ls[j]? = some k → i < 5 → (valsK ls)[j * 5 + i]? = (cellsK k)[i]?
  | [], j, i, k, h, _ => by simp at h
  | a :: r, 0, i, k, h, hi => by
    simp at h; subst h
    rw [valsK_cons, Nat.zero_mul, Nat.zero_add, List.getElem?_append_left (by show i < 5; exact hi)]
  | a :: r, j + 1, i, k, h, hi => by
    rw [valsK_cons, List.getElem?_append_right (by show 5 ≤ _; omega)]
    rw [show (j + 1) * 5 + i - (cellsK a).length = j * 5 + i by show (j + 1) * 5 + i - 5 = _; omega]
    exact valsK_get r j i k (by simpa using h) hi
/-- the value v, a slice, reads as the keys ls -/
def KS (w : World) (v : Value) (ls : List Ke) : Prop := ∃ p c, v = .slice p ls.length c ∧ ls.length ≤ c ∧ (0 < ls.length → ∃ g o, p = some ⟨g, o, none⟩ ∧ g < w.heap.size ∧ ∀ (j : Nat) k, ls[j]? = some k → ∀ i x, (cellsK k)[i]? = some x → w.cell? ⟨g, o + (j * 5 + i), none⟩ = some x)
theorem KS.later {w w' : World} {v : Value} {ls : List Ke} (h : KS w v ls) (hb : Below w.heap.size w w') : KS w' v ls := by
  obtain ⟨p, c, rfl, h1, h2⟩ := h
  refine ⟨p, c, rfl, h1, fun h0 => ?_⟩
  obtain ⟨g, o, rfl, h3, h4⟩ := h2 h0
  exact ⟨g, o, rfl, Nat.lt_of_lt_of_le h3 hb.size, fun j k hk i x hx => cell_later hb (h4 j k hk i x hx)⟩
theorem KS.nil (w : World) : KS w (.slice none 0 0) [] := ⟨none, 0, rfl, Nat.le_refl _, fun h => by cases h⟩
def OwnK (base : Nat) (w : World) (v : Value) (ls : List Ke) : Prop := w.ownsRow base 30 5 v ls.length (valsK ls)
theorem OwnK.nil (base : Nat) (w : World) : OwnK base w (.slice none 0 0) [] := ⟨rfl, .inl ⟨rfl, rfl⟩⟩
/-- the row's block stands in another world as it stood -/
theorem OwnK.kept {base : Nat} {w w' : World} {v : Value} {l : List Ke} (h : OwnK base w v l) (hb : ∀ (g : Nat) (cs : Array Value) (t : TypeId) (fr : Nat × Nat), w.heap[g]? = some (.cells cs t fr) → w'.heap[g]? = some (.cells cs t fr)) : OwnK base w' v l := by
  obtain ⟨hl, h⟩ := h
  refine ⟨hl, ?_⟩
  rcases h with h | ⟨g, cap, cur, hv, hbs, hg, h1⟩
  · exact .inl h
  · exact .inr ⟨g, cap, cur, hv, hbs, hb _ _ _ _ hg, h1⟩
theorem OwnK.later {base : Nat} {w w' : World} {v : Value} {l : List Ke} (h : OwnK base w v l) (hb : Below w.heap.size w w') : OwnK base w' v l :=
  h.kept (fun g cs t fr hg => (hb.block g (Array.getElem?_eq_some_iff.1 hg).1).trans hg)
theorem OwnK.block {base : Nat} {w : World} {v : Value} {l : List Ke} (h : OwnK base w v l) (g : Nat) (hg : v.ownBlock = some g) : base ≤ g ∧ g < w.heap.size ∧ ∃ o : Obj, w.heap[g]? = some o ∧ o.isCells = true := by
  rcases h.2 with ⟨rfl, _⟩ | ⟨g', cap, cur, rfl, hbs, hr, _⟩
  · cases hg
  · have : g' = g := by simpa [Value.ownBlock] using hg
    subst this
    exact ⟨hbs, Row.lt (t := 30) hr, _, hr, rfl⟩
theorem OwnK.read {base : Nat} {w : World} {v : Value} {l : List Ke} (h : OwnK base w v l) : KS w v l := by
  obtain ⟨hl, h⟩ := h
  rcases h with ⟨rfl, h0⟩ | ⟨g, cap, cur, rfl, hb, hg, h1, h2, h3, h4⟩
  · exact ⟨none, 0, by rw [h0], by omega, fun h => by omega⟩
  · refine ⟨_, cap, rfl, by omega, fun _ => ⟨g, 0, rfl, Row.lt (t := 30) hg, fun j k hk i x hx => ?_⟩⟩
    rw [Nat.zero_add, cell_of_row w g _ cur _ _ hg, ← Array.getElem?_toList]
    have hj : j < l.length := (List.getElem?_eq_some_iff.1 hk).1
    have hi : i < 5 := (List.getElem?_eq_some_iff.1 hx).1
    have := valsK_get l j i k hk hi
    rw [hx, ← h4, List.getElem?_take, if_pos (by omega)] at this
    exact this
theorem infoK : ∃ i, Try.prog.info? 30 = some i ∧ i.zero = some (.agg #[.int .i64 0, .int .i64 0, .int .u64 0, .int .u64 0, .string ⟨#[]⟩]) ∧ i.size = 5 ∧ i.bytes = 48 := by
  have h1 : (Try.prog.info? 30).bind (·.zero) = some (.agg #[.int .i64 0, .int .i64 0, .int .u64 0, .int .u64 0, .string ⟨#[]⟩]) := by kernel_rfl
  have h2 : (Try.prog.info? 30).map (·.size) = some 5 := by kernel_rfl
  have h3 : (Try.prog.info? 30).map (·.bytes) = some 48 := by kernel_rfl
  cases hq : Try.prog.info? 30 with
  | none => rw [hq] at h2; cases h2
  | some i =>
    rw [hq] at h1 h2 h3
    exact ⟨i, rfl, by simpa using h1, by simpa using h2, by simpa using h3⟩
/-- one key appended that lies in a new block -/
theorem appK_one {base : Nat} {w : World} {v : Value} {l : List Ke} (k : Ke) (ho : OwnK base w v l) (hl : l.length ≤ 1000000) (hbase : base ≤ w.heap.size) :
    ∃ v' w', (Builtin.append_ #[71, 71] 71 #[v, .slice (some ⟨w.heap.size, 0, none⟩) 1 1]).run Try.prog (w.alloc (.cells #[.int .i64 k.kind, .int .i64 k.len, .int .u64 k.h, .int .u64 k.l, .string ⟨k.path.toArray⟩] 30)) = .ok v' w' ∧ OwnK base w' v' (l ++ [k]) ∧
      (w.alloc (.cells #[.int .i64 k.kind, .int .i64 k.len, .int .u64 k.h, .int .u64 k.l, .string ⟨k.path.toArray⟩] 30)).grownBy w' v.ownBlock := by
  have R1 := Row.new w #[.int .i64 k.kind, .int .i64 k.len, .int .u64 k.h, .int .u64 k.l, .string ⟨k.path.toArray⟩] 30
  have hbn : Below w.heap.size w (w.alloc (.cells #[.int .i64 k.kind, .int .i64 k.len, .int .u64 k.h, .int .u64 k.l, .string ⟨k.path.toArray⟩] 30)) := (Below.refl _ _).alloc (Nat.le_refl _) _
  have ho2 := ho.later hbn
  obtain ⟨i, i1, i2, i3, i4⟩ := infoK
  have hs : ∀ j u, (valsK [k])[j]? = some u → (w.alloc (.cells #[.int .i64 k.kind, .int .i64 k.len, .int .u64 k.h, .int .u64 k.l, .string ⟨k.path.toArray⟩] 30)).cell? ((⟨w.heap.size, 0, none⟩ : Addr).add j) = some u := by
    intro j u hu
    rw [Addr.add_mid, Nat.zero_add, R1.cell j]
    rw [valsK_cons] at hu
    have e : cellsK k ++ valsK [] = cellsK k := by show cellsK k ++ [] = _; rw [List.append_nil]
    rw [e] at hu
    rw [← hu, ← Array.getElem?_toList]
    rfl
  obtain ⟨v', w2, hr, k1, k2, _, k4⟩ := run_append_own_at (P := Try.prog) _ base 71 71 30 i (.agg #[.int .i64 0, .int .i64 0, .int .u64 0, .int .u64 0, .string ⟨#[]⟩]) 5 48 Try.underlying71 i1 i2 i3 i4 rfl (by decide) v l.length (valsK l) ho2 ⟨w.heap.size, 0, none⟩ 1 1 (valsK [k]) (by rw [valsK_length]; rfl) hs (valsK_one [k]) (by unfold maxLen; omega) (by omega) (Nat.le_trans hbase hbn.size)
  refine ⟨v', w2, hr, ?_, k2⟩
  unfold OwnK
  rw [List.length_append, valsK_app]
  exact k1
end Go.Proofs.Ytbekocknfpekoaa
namespace Go.Proofs.Ytbekocknfpekoaa
set_option linter.unusedVariables false
set_option linter.unusedSimpArgs false
open Go.ChangeShapes Go.WideShapes Go.ChangeAt Go.RowKit Go.Joins Go.Deep
theorem cellsKey : Try.prog.cellsOf 30 = 5 := by kernel_rfl
theorem cellsDim : Try.prog.cellsOf 23 = 3 := by kernel_rfl
/-- what a key holds as an argument, its path's length aside -/
structure Ke.okL (k : Ke) : Prop where
  h : Word k.h
  l : Word k.l
  k0 : -9223372036854775808 ≤ k.kind
  k1 : k.kind ≤ 9223372036854775807
  n0 : -9223372036854775808 ≤ k.len
  n1 : k.len ≤ 9223372036854775807
section
variable {H : Type} {enc : TypeId × Value → H} {W : World} {base : Nat} {sp : Nat → Bool} {held : Bool}
/-- a struct whose fields take one cell each: field i is read from cell i -/
theorem field_at {fs : Array Field} {t : TypeId} {fuel : Nat} {cs : List Value} {x : DataW H × List MemPlace} (hs : Try.prog.underlying t = some (.struct fs)) (hone : oneCellFields Try.prog fs = true)
    (hf : DataW.trod enc Try.prog W base sp held fuel t cs = some x) (i : Nat) (f : Field) (v : Value) (hi : fs[i]? = some f) (hv : cs[i]? = some v) : ∃ n y, DataW.trod enc Try.prog W base sp held n f.type [v] = some y ∧ ∃ ys : List (DataW H), x.1 = .agg ys ∧ ys.length = fs.size ∧ ys[i]? = some y.1 := by
  obtain ⟨xs, n, _, hx, _, hlen, hg⟩ := DataW.trod_struct hs hf
  obtain ⟨ho, hk⟩ := hone_of hone i f hi
  have h := hg i f hi
  have hil : i < fs.size := (Array.getElem?_eq_some_iff.1 hi).1
  rw [ho, hk, List.getElem?_eq_getElem (by omega)] at h
  have hc : (cs.drop i).take 1 = [v] := by
    obtain ⟨hlt, rfl⟩ := List.getElem?_eq_some_iff.1 hv
    rw [List.drop_eq_getElem_cons hlt]; rfl
  rw [hc] at h
  exact ⟨n, _, h, xs.map (·.1), by rw [hx], by simp [hlen], by rw [List.getElem?_map, List.getElem?_eq_getElem (by omega)]; rfl⟩
structure Dm where
  kind : Int
  side : Int
  step : Int
  deriving DecidableEq
def dv (d : Dm) : Value := .agg #[.int .i64 d.kind, .int .i64 d.side, .int .i64 d.step]
structure Dm.ok (d : Dm) : Prop where
  k0 : -9223372036854775808 ≤ d.kind
  k1 : d.kind ≤ 9223372036854775807
  s0 : -9223372036854775808 ≤ d.side
  s1 : d.side ≤ 9223372036854775807
  t0 : -9223372036854775808 ≤ d.step
  t1 : d.step ≤ 9223372036854775807
end
end Go.Proofs.Ytbekocknfpekoaa
