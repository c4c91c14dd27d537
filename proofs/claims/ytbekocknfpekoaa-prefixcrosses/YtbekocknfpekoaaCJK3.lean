/- K3, K4, K5, K6, K7, KP, OpenKey, K8, KR1, KR2, LabR1, LabR2, LabR3, LabR4, KR3, D1: what the theorem needs of these texts. No conditions beyond those that are written. -/
import Derived.Test.YtbekocknfpekoaaCJF0
namespace Go.Proofs.Ytbekocknfpekoaa
set_option linter.unusedVariables false
set_option maxHeartbeats 8000000
set_option linter.unusedSimpArgs false
open Go.RowKit
def eqK (a0 a1 a2 a3 : Int) (a4 : ByteArray) (b0 b1 b2 b3 : Int) (b4 : ByteArray) : Bool := decide (a0 = b0 ∧ a1 = b1 ∧ a2 = b2 ∧ a3 = b3 ∧ a4 = b4)
theorem ba_ne {a b : ByteArray} (h : ¬ a = b) : ¬ a.toList = b.toList := fun e => h (by rw [ByteArray.toList_eq, ByteArray.toList_eq] at e; exact ByteArray.ext (Array.toList_inj.1 e))
theorem eql_key (a0 a1 a2 a3 : Int) (a4 : ByteArray) (b0 b1 b2 b3 : Int) (b4 : ByteArray) (w : World) : (binOp .eql 30 (.agg #[.int .i64 a0, .int .i64 a1, .int .u64 a2, .int .u64 a3, .string a4]) (.agg #[.int .i64 b0, .int .i64 b1, .int .u64 b2, .int .u64 b3, .string b4])).run Try.prog w = .ok (.bool (eqK a0 a1 a2 a3 a4 b0 b1 b2 b3 b4)) w := by
  unfold eqK
  by_cases h4 : a4 = b4
  · by_cases h0 : a0 = b0 <;> by_cases h1 : a1 = b1 <;> by_cases h2 : a2 = b2 <;> by_cases h3 : a3 = b3 <;> simp [go_sem, h0, h1, h2, h3, h4]
  · have h5 := ba_ne h4
    by_cases h0 : a0 = b0 <;> by_cases h1 : a1 = b1 <;> by_cases h2 : a2 = b2 <;> by_cases h3 : a3 = b3 <;> simp [go_sem, h0, h1, h2, h3, h4, h5]
theorem eqK_ke (a b : Ke) : eqK a.kind a.len a.h a.l ⟨a.path.toArray⟩ b.kind b.len b.h b.l ⟨b.path.toArray⟩ = decide (a = b) := by
  unfold eqK
  rw [decide_eq_decide]
  constructor
  · rintro ⟨h0, h1, h2, h3, h4⟩; exact ke_ext h0 h1 h2 h3 ((str_eq _ _).1 h4)
  · rintro rfl; exact ⟨rfl, rfl, rfl, rfl, rfl⟩
structure Ke.ok (k : Ke) : Prop where
  h : Word k.h
  l : Word k.l
  k0 : -9223372036854775808 ≤ k.kind
  k1 : k.kind ≤ 9223372036854775807
  n0 : -9223372036854775808 ≤ k.len
  n1 : k.len ≤ 9223372036854775807
  path : k.path.length ≤ 140737488355328
theorem kright_t (k : Ke) (ok : k.ok) (w : World) : Calls Try.prog 97 #[kv k] w fun e w' => e = .returned (.bool (rightK k)) ∧ Below w.heap.size w w' := by
  have HT := ktop_t k k.len ok.h ok.l ok.n1 ok.path
  have HP := ofPath_t k.path ok.path
  have HE := eqK_ke k (topK k k.len)
  have HF := eqK_ke k (pathK k.path)
  have HR := right_t k.path ok.path
  have HD : rightK k = if k.kind = 1 ∨ k.kind = 2 then decide (0 ≤ k.len) && decide (k.len ≤ wid k.kind) && decide (k = topK k k.len) else if k.kind = 3 then rightB k.path && decide (k = pathK k.path) else false := rfl
  rw [← HE, ← HF] at HD
  obtain ⟨kd, len, h, l, p⟩ := k
  have okn := ok.n1
  dsimp only at *
  unfold kv at HT HP
  generalize topK ⟨kd, len, h, l, p⟩ len = t at *
  generalize pathK p = u at *
  obtain ⟨t0, t1, t2, t3, t4⟩ := t
  obtain ⟨u0, u1, u2, u3, u4⟩ := u
  dsimp only at *
  clear ok HE HF
  generalize rightB p = rp at *
  generalize rightK _ = rk at *
  have R0 := (Row.new w #[.int .i64 kd, .int .i64 len, .int .u64 h, .int .u64 l, .string ⟨p.toArray⟩] 30).drew
  have hb0 : Below w.heap.size w (w.alloc (.cells #[.int .i64 kd, .int .i64 len, .int .u64 h, .int .u64 l, .string ⟨p.toArray⟩] 30)).drew := Below.drew (by repeat (first | exact Below.refl _ _ | assumption | (with_reducible refine Below.setCell ?_ ?h _; case h => first | omega | (simp; done) | (simp; omega)) | (with_reducible refine Below.alloc ?_ ?h _; case h => first | omega | (simp; done) | (simp; omega)) | (with_reducible refine Below.drew ?_) | (with_reducible refine Below.trans ?_ (hb4.mono ?h); case h => first | omega | (simp; done) | (simp; omega)) | (with_reducible refine Below.trans ?_ (hb3.mono ?h); case h => first | omega | (simp; done) | (simp; omega)) | (with_reducible refine Below.trans ?_ (hb2.mono ?h); case h => first | omega | (simp; done) | (simp; omega)) | (with_reducible refine Below.trans ?_ (hb.mono ?h); case h => first | omega | (simp; done) | (simp; omega)) | (with_reducible refine Below.trans ?_ (hb0.mono ?h); case h => first | omega | (simp; done) | (simp; omega))))
  have c0 := ((R0).cell 0).trans (show _ = some (Value.int .i64 kd) from rfl)
  have cf0 := (R0).frozen 0
  have c1 := ((R0).cell 1).trans (show _ = some (Value.int .i64 len) from rfl)
  have cf1 := (R0).frozen 1
  have c2 := ((R0).cell 2).trans (show _ = some (Value.int .u64 h) from rfl)
  have cf2 := (R0).frozen 2
  have c3 := ((R0).cell 3).trans (show _ = some (Value.int .u64 l) from rfl)
  have cf3 := (R0).frozen 3
  have c4 := ((R0).cell 4).trans (show _ = some (Value.string ⟨p.toArray⟩) from rfl)
  have cf4 := (R0).frozen 4
  have q := eql_key
  unfold kv
  dsimp only
  have HW := width_t kd
  by_cases k1 : kd = 1 ∨ kd = 2
  · rw [if_pos k1] at HD
    by_cases n0 : 0 ≤ len
    · have d0 : decide (0 ≤ len) = true := by simpa using n0
      by_cases n1 : len ≤ wid kd
      · have HD' : rk = eqK kd len h l ⟨p.toArray⟩ t0 t1 t2 t3 ⟨t4.toArray⟩ := by rw [HD]; simp [n0, n1]
        have d1 : decide (len ≤ wid kd) = true := by simpa using n1
        rw [HD']
        generalize wid kd = wd at *
        clear HD HD' HP HR u0 u1 u2 u3 u4
        rcases k1 with rfl | rfl
        · go_enter Try.func97, Try.ntmps97
          go_wp2_with fail
          refine wp_region_held_drew (S := (fun w' => w'.cell? ⟨w.heap.size, 0, none⟩ = some (.int .i64 1) ∧ w'.cell? ⟨w.heap.size, 1, none⟩ = some (.int .i64 len) ∧ w'.cell? ⟨w.heap.size, 2, none⟩ = some (.int .u64 h) ∧ w'.cell? ⟨w.heap.size, 3, none⟩ = some (.int .u64 l) ∧ w'.cell? ⟨w.heap.size, 4, none⟩ = some (.string ⟨p.toArray⟩) ∧ Below w.heap.size w w')) (by kernel_rfl) ?hSr2_ (fun hHeld => ?_)
          case hSr2_ => (first | exact ⟨c0, c1, c2, c3, c4, hb0⟩ | (obtain ⟨s0, s1, s2, s3, s4, s5⟩ := hHeld; exact ⟨cell_later hb s0, cell_later hb s1, cell_later hb s2, cell_later hb s3, cell_later hb s4, below_step s5 hb⟩))
          refine tk 0 ⟨some 8, .fieldAddr 30 (.tmp 1) 1, 0, _, _, _⟩ hHeld ?_
          (try simp only [Act.put, nz1, nz2, nz3])
          refine tk 1 ⟨some 9, .load 3 (.tmp 8), 3, _, _, _⟩ hHeld ?_
          (try simp only [Act.put, nz1, nz2, nz3])
          refine tk 2 ⟨some 10, .binOp .geq 3 (.tmp 9) (.const (.int .i64 0)) 3, 4, _, _, _⟩ hHeld ?_
          (try simp only [Act.put, nz1, nz2, nz3])
          refine tk 3 ⟨some 11, .move (.tmp 10), 4, _, _, _⟩ hHeld ?_
          (try simp only [Act.put, nz1, nz2, nz3])
          refine tk 4 ⟨some 12, .fieldAddr 30 (.tmp 1) 1, 0, _, _, _⟩ hHeld ?_
          (try simp only [Act.put, nz1, nz2, nz3])
          refine tk 5 ⟨some 13, .load 3 (.tmp 12), 3, _, _, _⟩ hHeld ?_
          (try simp only [Act.put, nz1, nz2, nz3])
          refine tk 6 ⟨some 14, .fieldAddr 30 (.tmp 1) 0, 0, _, _, _⟩ hHeld ?_
          (try simp only [Act.put, nz1, nz2, nz3])
          refine tk 7 ⟨some 15, .load 3 (.tmp 14), 3, _, _, _⟩ hHeld ?_
          (try simp only [Act.put, nz1, nz2, nz3])
          refine wpAnyH_ready (rs := [8]) (by kernel_rfl) (by simp) ?_
          refine AllReadyH.cons (o := ⟨some 16, .call { callee := .value (.func 76), args := #[.tmp 15], argTypes := #[3] }, 3, _, _, _⟩) rfl (fun K hK => ?_) AllReadyH.nil
          go_simp
          ((refine (HW _).mono ?_); (rintro e wn ⟨rfl, hb⟩))
          go_wp2_with fail
          refine hK.out _ _ ?hSr2_9_8 (fun hHeld2 => ?_)
          case hSr2_9_8 => (first | exact ⟨c0, c1, c2, c3, c4, hb0⟩ | (obtain ⟨s0, s1, s2, s3, s4, s5⟩ := hHeld; exact ⟨cell_later hb s0, cell_later hb s1, cell_later hb s2, cell_later hb s3, cell_later hb s4, below_step s5 hb⟩))
          clear hK K hHeld
          have hHeld := hHeld2
          clear hHeld2
          (try simp only [Act.put, nz1, nz2, nz3])
          refine tk 9 ⟨some 17, .binOp .leq 3 (.tmp 13) (.tmp 16) 3, 4, _, _, _⟩ hHeld ?_
          (try simp only [Act.put, nz1, nz2, nz3])
          refine tk 10 ⟨some 18, .pick (.tmp 11) (.tmp 17) (.const (.bool false)), 4, _, _, _⟩ hHeld ?_
          (try simp only [Act.put, nz1, nz2, nz3])
          refine tk 11 ⟨some 19, .move (.tmp 18), 4, _, _, _⟩ hHeld ?_
          (try simp only [Act.put, nz1, nz2, nz3])
          refine tk 12 ⟨some 20, .load 30 (.tmp 1), 30, _, _, _⟩ hHeld ?_
          (try simp only [Act.put, nz1, nz2, nz3])
          refine tk 13 ⟨some 21, .load 30 (.tmp 1), 30, _, _, _⟩ hHeld ?_
          (try simp only [Act.put, nz1, nz2, nz3])
          refine tk 14 ⟨some 22, .fieldAddr 30 (.tmp 1) 1, 0, _, _, _⟩ hHeld ?_
          (try simp only [Act.put, nz1, nz2, nz3])
          refine tk 15 ⟨some 23, .load 3 (.tmp 22), 3, _, _, _⟩ hHeld ?_
          (try simp only [Act.put, nz1, nz2, nz3])
          refine wpAnyH_ready (rs := [16]) (by kernel_rfl) (by simp) ?_
          refine AllReadyH.cons (o := ⟨some 24, .call { callee := .value (.func 100), args := #[.tmp 21, .tmp 23], argTypes := #[30, 3] }, 30, _, _, _⟩) rfl (fun K hK => ?_) AllReadyH.nil
          go_simp
          ((refine (HT _).mono ?_); (rintro e wn ⟨rfl, hb⟩))
          go_wp2_with fail
          refine hK.out _ _ ?hSr2_17_16 (fun hHeld2 => ?_)
          case hSr2_17_16 => (first | exact ⟨c0, c1, c2, c3, c4, hb0⟩ | (obtain ⟨s0, s1, s2, s3, s4, s5⟩ := hHeld; exact ⟨cell_later hb s0, cell_later hb s1, cell_later hb s2, cell_later hb s3, cell_later hb s4, below_step s5 hb⟩))
          clear hK K hHeld
          have hHeld := hHeld2
          clear hHeld2
          (try simp only [Act.put, nz1, nz2, nz3])
          refine tk 17 ⟨some 25, .binOp .eql 30 (.tmp 20) (.tmp 24) 30, 4, _, _, _⟩ hHeld ?_
          (try simp only [Act.put, nz1, nz2, nz3])
          refine tk 18 ⟨some 26, .pick (.tmp 19) (.tmp 25) (.const (.bool false)), 4, _, _, _⟩ hHeld ?_
          (try simp only [Act.put, nz1, nz2, nz3])
          refine tk 19 ⟨some 2, .assign (.tmp 26), 4, _, _, _⟩ hHeld ?_
          (try simp only [Act.put, nz1, nz2, nz3])
          refine wpAnyH_done (by kernel_rfl) ?_ _
          go_wp2
          go_ret
          exact ⟨rfl, hHeld.2.2.2.2.2⟩
        · go_enter Try.func97, Try.ntmps97
          go_wp2_with fail
          refine wp_region_held_drew (S := (fun w' => w'.cell? ⟨w.heap.size, 0, none⟩ = some (.int .i64 2) ∧ w'.cell? ⟨w.heap.size, 1, none⟩ = some (.int .i64 len) ∧ w'.cell? ⟨w.heap.size, 2, none⟩ = some (.int .u64 h) ∧ w'.cell? ⟨w.heap.size, 3, none⟩ = some (.int .u64 l) ∧ w'.cell? ⟨w.heap.size, 4, none⟩ = some (.string ⟨p.toArray⟩) ∧ Below w.heap.size w w')) (by kernel_rfl) ?hSr3_ (fun hHeld => ?_)
          case hSr3_ => (first | exact ⟨c0, c1, c2, c3, c4, hb0⟩ | (obtain ⟨s0, s1, s2, s3, s4, s5⟩ := hHeld; exact ⟨cell_later hb s0, cell_later hb s1, cell_later hb s2, cell_later hb s3, cell_later hb s4, below_step s5 hb⟩))
          refine tk 0 ⟨some 8, .fieldAddr 30 (.tmp 1) 1, 0, _, _, _⟩ hHeld ?_
          (try simp only [Act.put, nz1, nz2, nz3])
          refine tk 1 ⟨some 9, .load 3 (.tmp 8), 3, _, _, _⟩ hHeld ?_
          (try simp only [Act.put, nz1, nz2, nz3])
          refine tk 2 ⟨some 10, .binOp .geq 3 (.tmp 9) (.const (.int .i64 0)) 3, 4, _, _, _⟩ hHeld ?_
          (try simp only [Act.put, nz1, nz2, nz3])
          refine tk 3 ⟨some 11, .move (.tmp 10), 4, _, _, _⟩ hHeld ?_
          (try simp only [Act.put, nz1, nz2, nz3])
          refine tk 4 ⟨some 12, .fieldAddr 30 (.tmp 1) 1, 0, _, _, _⟩ hHeld ?_
          (try simp only [Act.put, nz1, nz2, nz3])
          refine tk 5 ⟨some 13, .load 3 (.tmp 12), 3, _, _, _⟩ hHeld ?_
          (try simp only [Act.put, nz1, nz2, nz3])
          refine tk 6 ⟨some 14, .fieldAddr 30 (.tmp 1) 0, 0, _, _, _⟩ hHeld ?_
          (try simp only [Act.put, nz1, nz2, nz3])
          refine tk 7 ⟨some 15, .load 3 (.tmp 14), 3, _, _, _⟩ hHeld ?_
          (try simp only [Act.put, nz1, nz2, nz3])
          refine wpAnyH_ready (rs := [8]) (by kernel_rfl) (by simp) ?_
          refine AllReadyH.cons (o := ⟨some 16, .call { callee := .value (.func 76), args := #[.tmp 15], argTypes := #[3] }, 3, _, _, _⟩) rfl (fun K hK => ?_) AllReadyH.nil
          go_simp
          ((refine (HW _).mono ?_); (rintro e wn ⟨rfl, hb⟩))
          go_wp2_with fail
          refine hK.out _ _ ?hSr3_9_8 (fun hHeld2 => ?_)
          case hSr3_9_8 => (first | exact ⟨c0, c1, c2, c3, c4, hb0⟩ | (obtain ⟨s0, s1, s2, s3, s4, s5⟩ := hHeld; exact ⟨cell_later hb s0, cell_later hb s1, cell_later hb s2, cell_later hb s3, cell_later hb s4, below_step s5 hb⟩))
          clear hK K hHeld
          have hHeld := hHeld2
          clear hHeld2
          (try simp only [Act.put, nz1, nz2, nz3])
          refine tk 9 ⟨some 17, .binOp .leq 3 (.tmp 13) (.tmp 16) 3, 4, _, _, _⟩ hHeld ?_
          (try simp only [Act.put, nz1, nz2, nz3])
          refine tk 10 ⟨some 18, .pick (.tmp 11) (.tmp 17) (.const (.bool false)), 4, _, _, _⟩ hHeld ?_
          (try simp only [Act.put, nz1, nz2, nz3])
          refine tk 11 ⟨some 19, .move (.tmp 18), 4, _, _, _⟩ hHeld ?_
          (try simp only [Act.put, nz1, nz2, nz3])
          refine tk 12 ⟨some 20, .load 30 (.tmp 1), 30, _, _, _⟩ hHeld ?_
          (try simp only [Act.put, nz1, nz2, nz3])
          refine tk 13 ⟨some 21, .load 30 (.tmp 1), 30, _, _, _⟩ hHeld ?_
          (try simp only [Act.put, nz1, nz2, nz3])
          refine tk 14 ⟨some 22, .fieldAddr 30 (.tmp 1) 1, 0, _, _, _⟩ hHeld ?_
          (try simp only [Act.put, nz1, nz2, nz3])
          refine tk 15 ⟨some 23, .load 3 (.tmp 22), 3, _, _, _⟩ hHeld ?_
          (try simp only [Act.put, nz1, nz2, nz3])
          refine wpAnyH_ready (rs := [16]) (by kernel_rfl) (by simp) ?_
          refine AllReadyH.cons (o := ⟨some 24, .call { callee := .value (.func 100), args := #[.tmp 21, .tmp 23], argTypes := #[30, 3] }, 30, _, _, _⟩) rfl (fun K hK => ?_) AllReadyH.nil
          go_simp
          ((refine (HT _).mono ?_); (rintro e wn ⟨rfl, hb⟩))
          go_wp2_with fail
          refine hK.out _ _ ?hSr3_17_16 (fun hHeld2 => ?_)
          case hSr3_17_16 => (first | exact ⟨c0, c1, c2, c3, c4, hb0⟩ | (obtain ⟨s0, s1, s2, s3, s4, s5⟩ := hHeld; exact ⟨cell_later hb s0, cell_later hb s1, cell_later hb s2, cell_later hb s3, cell_later hb s4, below_step s5 hb⟩))
          clear hK K hHeld
          have hHeld := hHeld2
          clear hHeld2
          (try simp only [Act.put, nz1, nz2, nz3])
          refine tk 17 ⟨some 25, .binOp .eql 30 (.tmp 20) (.tmp 24) 30, 4, _, _, _⟩ hHeld ?_
          (try simp only [Act.put, nz1, nz2, nz3])
          refine tk 18 ⟨some 26, .pick (.tmp 19) (.tmp 25) (.const (.bool false)), 4, _, _, _⟩ hHeld ?_
          (try simp only [Act.put, nz1, nz2, nz3])
          refine tk 19 ⟨some 2, .assign (.tmp 26), 4, _, _, _⟩ hHeld ?_
          (try simp only [Act.put, nz1, nz2, nz3])
          refine wpAnyH_done (by kernel_rfl) ?_ _
          go_wp2
          go_ret
          exact ⟨rfl, hHeld.2.2.2.2.2⟩
      · have HD' : rk = false := by rw [HD]; simp [n0, n1]
        have d1 : decide (len ≤ wid kd) = false := by simpa using n1
        rw [HD']
        generalize wid kd = wd at *
        clear HD HD' HP HR u0 u1 u2 u3 u4
        rcases k1 with rfl | rfl
        · go_enter Try.func97, Try.ntmps97
          go_wp2_with fail
          refine wp_region_held_drew (S := (fun w' => w'.cell? ⟨w.heap.size, 0, none⟩ = some (.int .i64 1) ∧ w'.cell? ⟨w.heap.size, 1, none⟩ = some (.int .i64 len) ∧ w'.cell? ⟨w.heap.size, 2, none⟩ = some (.int .u64 h) ∧ w'.cell? ⟨w.heap.size, 3, none⟩ = some (.int .u64 l) ∧ w'.cell? ⟨w.heap.size, 4, none⟩ = some (.string ⟨p.toArray⟩) ∧ Below w.heap.size w w')) (by kernel_rfl) ?hSr4_ (fun hHeld => ?_)
          case hSr4_ => (first | exact ⟨c0, c1, c2, c3, c4, hb0⟩ | (obtain ⟨s0, s1, s2, s3, s4, s5⟩ := hHeld; exact ⟨cell_later hb s0, cell_later hb s1, cell_later hb s2, cell_later hb s3, cell_later hb s4, below_step s5 hb⟩))
          refine tk 0 ⟨some 8, .fieldAddr 30 (.tmp 1) 1, 0, _, _, _⟩ hHeld ?_
          (try simp only [Act.put, nz1, nz2, nz3])
          refine tk 1 ⟨some 9, .load 3 (.tmp 8), 3, _, _, _⟩ hHeld ?_
          (try simp only [Act.put, nz1, nz2, nz3])
          refine tk 2 ⟨some 10, .binOp .geq 3 (.tmp 9) (.const (.int .i64 0)) 3, 4, _, _, _⟩ hHeld ?_
          (try simp only [Act.put, nz1, nz2, nz3])
          refine tk 3 ⟨some 11, .move (.tmp 10), 4, _, _, _⟩ hHeld ?_
          (try simp only [Act.put, nz1, nz2, nz3])
          refine tk 4 ⟨some 12, .fieldAddr 30 (.tmp 1) 1, 0, _, _, _⟩ hHeld ?_
          (try simp only [Act.put, nz1, nz2, nz3])
          refine tk 5 ⟨some 13, .load 3 (.tmp 12), 3, _, _, _⟩ hHeld ?_
          (try simp only [Act.put, nz1, nz2, nz3])
          refine tk 6 ⟨some 14, .fieldAddr 30 (.tmp 1) 0, 0, _, _, _⟩ hHeld ?_
          (try simp only [Act.put, nz1, nz2, nz3])
          refine tk 7 ⟨some 15, .load 3 (.tmp 14), 3, _, _, _⟩ hHeld ?_
          (try simp only [Act.put, nz1, nz2, nz3])
          refine wpAnyH_ready (rs := [8]) (by kernel_rfl) (by simp) ?_
          refine AllReadyH.cons (o := ⟨some 16, .call { callee := .value (.func 76), args := #[.tmp 15], argTypes := #[3] }, 3, _, _, _⟩) rfl (fun K hK => ?_) AllReadyH.nil
          go_simp
          ((refine (HW _).mono ?_); (rintro e wn ⟨rfl, hb⟩))
          go_wp2_with fail
          refine hK.out _ _ ?hSr4_9_8 (fun hHeld2 => ?_)
          case hSr4_9_8 => (first | exact ⟨c0, c1, c2, c3, c4, hb0⟩ | (obtain ⟨s0, s1, s2, s3, s4, s5⟩ := hHeld; exact ⟨cell_later hb s0, cell_later hb s1, cell_later hb s2, cell_later hb s3, cell_later hb s4, below_step s5 hb⟩))
          clear hK K hHeld
          have hHeld := hHeld2
          clear hHeld2
          (try simp only [Act.put, nz1, nz2, nz3])
          refine tk 9 ⟨some 17, .binOp .leq 3 (.tmp 13) (.tmp 16) 3, 4, _, _, _⟩ hHeld ?_
          (try simp only [Act.put, nz1, nz2, nz3])
          refine tk 10 ⟨some 18, .pick (.tmp 11) (.tmp 17) (.const (.bool false)), 4, _, _, _⟩ hHeld ?_
          (try simp only [Act.put, nz1, nz2, nz3])
          refine tk 11 ⟨some 19, .move (.tmp 18), 4, _, _, _⟩ hHeld ?_
          (try simp only [Act.put, nz1, nz2, nz3])
          refine ts 12 ⟨some 20, .load 30 (.tmp 1), 30, _, _, _⟩ hHeld ?_
          (try simp only [Act.put, nz1, nz2, nz3])
          refine ts 13 ⟨some 21, .load 30 (.tmp 1), 30, _, _, _⟩ hHeld ?_
          (try simp only [Act.put, nz1, nz2, nz3])
          refine ts 14 ⟨some 22, .fieldAddr 30 (.tmp 1) 1, 0, _, _, _⟩ hHeld ?_
          (try simp only [Act.put, nz1, nz2, nz3])
          refine ts 15 ⟨some 23, .load 3 (.tmp 22), 3, _, _, _⟩ hHeld ?_
          (try simp only [Act.put, nz1, nz2, nz3])
          refine ts 16 ⟨some 24, .call { callee := .value (.func 100), args := #[.tmp 21, .tmp 23], argTypes := #[30, 3] }, 30, _, _, _⟩ hHeld ?_
          (try simp only [Act.put, nz1, nz2, nz3])
          refine ts 17 ⟨some 25, .binOp .eql 30 (.tmp 20) (.tmp 24) 30, 4, _, _, _⟩ hHeld ?_
          (try simp only [Act.put, nz1, nz2, nz3])
          refine tk 18 ⟨some 26, .pick (.tmp 19) (.tmp 25) (.const (.bool false)), 4, _, _, _⟩ hHeld ?_
          (try simp only [Act.put, nz1, nz2, nz3])
          refine tk 19 ⟨some 2, .assign (.tmp 26), 4, _, _, _⟩ hHeld ?_
          (try simp only [Act.put, nz1, nz2, nz3])
          refine wpAnyH_done (by kernel_rfl) ?_ _
          go_wp2
          go_ret
          exact ⟨rfl, hHeld.2.2.2.2.2⟩
        · go_enter Try.func97, Try.ntmps97
          go_wp2_with fail
          refine wp_region_held_drew (S := (fun w' => w'.cell? ⟨w.heap.size, 0, none⟩ = some (.int .i64 2) ∧ w'.cell? ⟨w.heap.size, 1, none⟩ = some (.int .i64 len) ∧ w'.cell? ⟨w.heap.size, 2, none⟩ = some (.int .u64 h) ∧ w'.cell? ⟨w.heap.size, 3, none⟩ = some (.int .u64 l) ∧ w'.cell? ⟨w.heap.size, 4, none⟩ = some (.string ⟨p.toArray⟩) ∧ Below w.heap.size w w')) (by kernel_rfl) ?hSr5_ (fun hHeld => ?_)
          case hSr5_ => (first | exact ⟨c0, c1, c2, c3, c4, hb0⟩ | (obtain ⟨s0, s1, s2, s3, s4, s5⟩ := hHeld; exact ⟨cell_later hb s0, cell_later hb s1, cell_later hb s2, cell_later hb s3, cell_later hb s4, below_step s5 hb⟩))
          refine tk 0 ⟨some 8, .fieldAddr 30 (.tmp 1) 1, 0, _, _, _⟩ hHeld ?_
          (try simp only [Act.put, nz1, nz2, nz3])
          refine tk 1 ⟨some 9, .load 3 (.tmp 8), 3, _, _, _⟩ hHeld ?_
          (try simp only [Act.put, nz1, nz2, nz3])
          refine tk 2 ⟨some 10, .binOp .geq 3 (.tmp 9) (.const (.int .i64 0)) 3, 4, _, _, _⟩ hHeld ?_
          (try simp only [Act.put, nz1, nz2, nz3])
          refine tk 3 ⟨some 11, .move (.tmp 10), 4, _, _, _⟩ hHeld ?_
          (try simp only [Act.put, nz1, nz2, nz3])
          refine tk 4 ⟨some 12, .fieldAddr 30 (.tmp 1) 1, 0, _, _, _⟩ hHeld ?_
          (try simp only [Act.put, nz1, nz2, nz3])
          refine tk 5 ⟨some 13, .load 3 (.tmp 12), 3, _, _, _⟩ hHeld ?_
          (try simp only [Act.put, nz1, nz2, nz3])
          refine tk 6 ⟨some 14, .fieldAddr 30 (.tmp 1) 0, 0, _, _, _⟩ hHeld ?_
          (try simp only [Act.put, nz1, nz2, nz3])
          refine tk 7 ⟨some 15, .load 3 (.tmp 14), 3, _, _, _⟩ hHeld ?_
          (try simp only [Act.put, nz1, nz2, nz3])
          refine wpAnyH_ready (rs := [8]) (by kernel_rfl) (by simp) ?_
          refine AllReadyH.cons (o := ⟨some 16, .call { callee := .value (.func 76), args := #[.tmp 15], argTypes := #[3] }, 3, _, _, _⟩) rfl (fun K hK => ?_) AllReadyH.nil
          go_simp
          ((refine (HW _).mono ?_); (rintro e wn ⟨rfl, hb⟩))
          go_wp2_with fail
          refine hK.out _ _ ?hSr5_9_8 (fun hHeld2 => ?_)
          case hSr5_9_8 => (first | exact ⟨c0, c1, c2, c3, c4, hb0⟩ | (obtain ⟨s0, s1, s2, s3, s4, s5⟩ := hHeld; exact ⟨cell_later hb s0, cell_later hb s1, cell_later hb s2, cell_later hb s3, cell_later hb s4, below_step s5 hb⟩))
          clear hK K hHeld
          have hHeld := hHeld2
          clear hHeld2
          (try simp only [Act.put, nz1, nz2, nz3])
          refine tk 9 ⟨some 17, .binOp .leq 3 (.tmp 13) (.tmp 16) 3, 4, _, _, _⟩ hHeld ?_
          (try simp only [Act.put, nz1, nz2, nz3])
          refine tk 10 ⟨some 18, .pick (.tmp 11) (.tmp 17) (.const (.bool false)), 4, _, _, _⟩ hHeld ?_
          (try simp only [Act.put, nz1, nz2, nz3])
          refine tk 11 ⟨some 19, .move (.tmp 18), 4, _, _, _⟩ hHeld ?_
          (try simp only [Act.put, nz1, nz2, nz3])
          refine ts 12 ⟨some 20, .load 30 (.tmp 1), 30, _, _, _⟩ hHeld ?_
          (try simp only [Act.put, nz1, nz2, nz3])
          refine ts 13 ⟨some 21, .load 30 (.tmp 1), 30, _, _, _⟩ hHeld ?_
          (try simp only [Act.put, nz1, nz2, nz3])
          refine ts 14 ⟨some 22, .fieldAddr 30 (.tmp 1) 1, 0, _, _, _⟩ hHeld ?_
          (try simp only [Act.put, nz1, nz2, nz3])
          refine ts 15 ⟨some 23, .load 3 (.tmp 22), 3, _, _, _⟩ hHeld ?_
          (try simp only [Act.put, nz1, nz2, nz3])
          refine ts 16 ⟨some 24, .call { callee := .value (.func 100), args := #[.tmp 21, .tmp 23], argTypes := #[30, 3] }, 30, _, _, _⟩ hHeld ?_
          (try simp only [Act.put, nz1, nz2, nz3])
          refine ts 17 ⟨some 25, .binOp .eql 30 (.tmp 20) (.tmp 24) 30, 4, _, _, _⟩ hHeld ?_
          (try simp only [Act.put, nz1, nz2, nz3])
          refine tk 18 ⟨some 26, .pick (.tmp 19) (.tmp 25) (.const (.bool false)), 4, _, _, _⟩ hHeld ?_
          (try simp only [Act.put, nz1, nz2, nz3])
          refine tk 19 ⟨some 2, .assign (.tmp 26), 4, _, _, _⟩ hHeld ?_
          (try simp only [Act.put, nz1, nz2, nz3])
          refine wpAnyH_done (by kernel_rfl) ?_ _
          go_wp2
          go_ret
          exact ⟨rfl, hHeld.2.2.2.2.2⟩
    · have HD' : rk = false := by rw [HD]; simp [n0]
      have d0 : decide (0 ≤ len) = false := by simpa using n0
      rw [HD']
      clear HD HD' HP HR u0 u1 u2 u3 u4 HW
      rcases k1 with rfl | rfl
      · go_enter Try.func97, Try.ntmps97
        go_wp2_with fail
        refine wp_region_held_drew (S := (fun w' => w'.cell? ⟨w.heap.size, 0, none⟩ = some (.int .i64 1) ∧ w'.cell? ⟨w.heap.size, 1, none⟩ = some (.int .i64 len) ∧ w'.cell? ⟨w.heap.size, 2, none⟩ = some (.int .u64 h) ∧ w'.cell? ⟨w.heap.size, 3, none⟩ = some (.int .u64 l) ∧ w'.cell? ⟨w.heap.size, 4, none⟩ = some (.string ⟨p.toArray⟩) ∧ Below w.heap.size w w')) (by kernel_rfl) ?hSr6_ (fun hHeld => ?_)
        case hSr6_ => (first | exact ⟨c0, c1, c2, c3, c4, hb0⟩ | (obtain ⟨s0, s1, s2, s3, s4, s5⟩ := hHeld; exact ⟨cell_later hb s0, cell_later hb s1, cell_later hb s2, cell_later hb s3, cell_later hb s4, below_step s5 hb⟩))
        refine tk 0 ⟨some 8, .fieldAddr 30 (.tmp 1) 1, 0, _, _, _⟩ hHeld ?_
        (try simp only [Act.put, nz1, nz2, nz3])
        refine tk 1 ⟨some 9, .load 3 (.tmp 8), 3, _, _, _⟩ hHeld ?_
        (try simp only [Act.put, nz1, nz2, nz3])
        refine tk 2 ⟨some 10, .binOp .geq 3 (.tmp 9) (.const (.int .i64 0)) 3, 4, _, _, _⟩ hHeld ?_
        (try simp only [Act.put, nz1, nz2, nz3])
        refine tk 3 ⟨some 11, .move (.tmp 10), 4, _, _, _⟩ hHeld ?_
        (try simp only [Act.put, nz1, nz2, nz3])
        refine ts 4 ⟨some 12, .fieldAddr 30 (.tmp 1) 1, 0, _, _, _⟩ hHeld ?_
        (try simp only [Act.put, nz1, nz2, nz3])
        refine ts 5 ⟨some 13, .load 3 (.tmp 12), 3, _, _, _⟩ hHeld ?_
        (try simp only [Act.put, nz1, nz2, nz3])
        refine ts 6 ⟨some 14, .fieldAddr 30 (.tmp 1) 0, 0, _, _, _⟩ hHeld ?_
        (try simp only [Act.put, nz1, nz2, nz3])
        refine ts 7 ⟨some 15, .load 3 (.tmp 14), 3, _, _, _⟩ hHeld ?_
        (try simp only [Act.put, nz1, nz2, nz3])
        refine ts 8 ⟨some 16, .call { callee := .value (.func 76), args := #[.tmp 15], argTypes := #[3] }, 3, _, _, _⟩ hHeld ?_
        (try simp only [Act.put, nz1, nz2, nz3])
        refine ts 9 ⟨some 17, .binOp .leq 3 (.tmp 13) (.tmp 16) 3, 4, _, _, _⟩ hHeld ?_
        (try simp only [Act.put, nz1, nz2, nz3])
        refine tk 10 ⟨some 18, .pick (.tmp 11) (.tmp 17) (.const (.bool false)), 4, _, _, _⟩ hHeld ?_
        (try simp only [Act.put, nz1, nz2, nz3])
        refine tk 11 ⟨some 19, .move (.tmp 18), 4, _, _, _⟩ hHeld ?_
        (try simp only [Act.put, nz1, nz2, nz3])
        refine ts 12 ⟨some 20, .load 30 (.tmp 1), 30, _, _, _⟩ hHeld ?_
        (try simp only [Act.put, nz1, nz2, nz3])
        refine ts 13 ⟨some 21, .load 30 (.tmp 1), 30, _, _, _⟩ hHeld ?_
        (try simp only [Act.put, nz1, nz2, nz3])
        refine ts 14 ⟨some 22, .fieldAddr 30 (.tmp 1) 1, 0, _, _, _⟩ hHeld ?_
        (try simp only [Act.put, nz1, nz2, nz3])
        refine ts 15 ⟨some 23, .load 3 (.tmp 22), 3, _, _, _⟩ hHeld ?_
        (try simp only [Act.put, nz1, nz2, nz3])
        refine ts 16 ⟨some 24, .call { callee := .value (.func 100), args := #[.tmp 21, .tmp 23], argTypes := #[30, 3] }, 30, _, _, _⟩ hHeld ?_
        (try simp only [Act.put, nz1, nz2, nz3])
        refine ts 17 ⟨some 25, .binOp .eql 30 (.tmp 20) (.tmp 24) 30, 4, _, _, _⟩ hHeld ?_
        (try simp only [Act.put, nz1, nz2, nz3])
        refine tk 18 ⟨some 26, .pick (.tmp 19) (.tmp 25) (.const (.bool false)), 4, _, _, _⟩ hHeld ?_
        (try simp only [Act.put, nz1, nz2, nz3])
        refine tk 19 ⟨some 2, .assign (.tmp 26), 4, _, _, _⟩ hHeld ?_
        (try simp only [Act.put, nz1, nz2, nz3])
        refine wpAnyH_done (by kernel_rfl) ?_ _
        go_wp2
        go_ret
        exact ⟨rfl, hHeld.2.2.2.2.2⟩
      · go_enter Try.func97, Try.ntmps97
        go_wp2_with fail
        refine wp_region_held_drew (S := (fun w' => w'.cell? ⟨w.heap.size, 0, none⟩ = some (.int .i64 2) ∧ w'.cell? ⟨w.heap.size, 1, none⟩ = some (.int .i64 len) ∧ w'.cell? ⟨w.heap.size, 2, none⟩ = some (.int .u64 h) ∧ w'.cell? ⟨w.heap.size, 3, none⟩ = some (.int .u64 l) ∧ w'.cell? ⟨w.heap.size, 4, none⟩ = some (.string ⟨p.toArray⟩) ∧ Below w.heap.size w w')) (by kernel_rfl) ?hSr7_ (fun hHeld => ?_)
        case hSr7_ => (first | exact ⟨c0, c1, c2, c3, c4, hb0⟩ | (obtain ⟨s0, s1, s2, s3, s4, s5⟩ := hHeld; exact ⟨cell_later hb s0, cell_later hb s1, cell_later hb s2, cell_later hb s3, cell_later hb s4, below_step s5 hb⟩))
        refine tk 0 ⟨some 8, .fieldAddr 30 (.tmp 1) 1, 0, _, _, _⟩ hHeld ?_
        (try simp only [Act.put, nz1, nz2, nz3])
        refine tk 1 ⟨some 9, .load 3 (.tmp 8), 3, _, _, _⟩ hHeld ?_
        (try simp only [Act.put, nz1, nz2, nz3])
        refine tk 2 ⟨some 10, .binOp .geq 3 (.tmp 9) (.const (.int .i64 0)) 3, 4, _, _, _⟩ hHeld ?_
        (try simp only [Act.put, nz1, nz2, nz3])
        refine tk 3 ⟨some 11, .move (.tmp 10), 4, _, _, _⟩ hHeld ?_
        (try simp only [Act.put, nz1, nz2, nz3])
        refine ts 4 ⟨some 12, .fieldAddr 30 (.tmp 1) 1, 0, _, _, _⟩ hHeld ?_
        (try simp only [Act.put, nz1, nz2, nz3])
        refine ts 5 ⟨some 13, .load 3 (.tmp 12), 3, _, _, _⟩ hHeld ?_
        (try simp only [Act.put, nz1, nz2, nz3])
        refine ts 6 ⟨some 14, .fieldAddr 30 (.tmp 1) 0, 0, _, _, _⟩ hHeld ?_
        (try simp only [Act.put, nz1, nz2, nz3])
        refine ts 7 ⟨some 15, .load 3 (.tmp 14), 3, _, _, _⟩ hHeld ?_
        (try simp only [Act.put, nz1, nz2, nz3])
        refine ts 8 ⟨some 16, .call { callee := .value (.func 76), args := #[.tmp 15], argTypes := #[3] }, 3, _, _, _⟩ hHeld ?_
        (try simp only [Act.put, nz1, nz2, nz3])
        refine ts 9 ⟨some 17, .binOp .leq 3 (.tmp 13) (.tmp 16) 3, 4, _, _, _⟩ hHeld ?_
        (try simp only [Act.put, nz1, nz2, nz3])
        refine tk 10 ⟨some 18, .pick (.tmp 11) (.tmp 17) (.const (.bool false)), 4, _, _, _⟩ hHeld ?_
        (try simp only [Act.put, nz1, nz2, nz3])
        refine tk 11 ⟨some 19, .move (.tmp 18), 4, _, _, _⟩ hHeld ?_
        (try simp only [Act.put, nz1, nz2, nz3])
        refine ts 12 ⟨some 20, .load 30 (.tmp 1), 30, _, _, _⟩ hHeld ?_
        (try simp only [Act.put, nz1, nz2, nz3])
        refine ts 13 ⟨some 21, .load 30 (.tmp 1), 30, _, _, _⟩ hHeld ?_
        (try simp only [Act.put, nz1, nz2, nz3])
        refine ts 14 ⟨some 22, .fieldAddr 30 (.tmp 1) 1, 0, _, _, _⟩ hHeld ?_
        (try simp only [Act.put, nz1, nz2, nz3])
        refine ts 15 ⟨some 23, .load 3 (.tmp 22), 3, _, _, _⟩ hHeld ?_
        (try simp only [Act.put, nz1, nz2, nz3])
        refine ts 16 ⟨some 24, .call { callee := .value (.func 100), args := #[.tmp 21, .tmp 23], argTypes := #[30, 3] }, 30, _, _, _⟩ hHeld ?_
        (try simp only [Act.put, nz1, nz2, nz3])
        refine ts 17 ⟨some 25, .binOp .eql 30 (.tmp 20) (.tmp 24) 30, 4, _, _, _⟩ hHeld ?_
        (try simp only [Act.put, nz1, nz2, nz3])
        refine tk 18 ⟨some 26, .pick (.tmp 19) (.tmp 25) (.const (.bool false)), 4, _, _, _⟩ hHeld ?_
        (try simp only [Act.put, nz1, nz2, nz3])
        refine tk 19 ⟨some 2, .assign (.tmp 26), 4, _, _, _⟩ hHeld ?_
        (try simp only [Act.put, nz1, nz2, nz3])
        refine wpAnyH_done (by kernel_rfl) ?_ _
        go_wp2
        go_ret
        exact ⟨rfl, hHeld.2.2.2.2.2⟩
  · rw [if_neg k1] at HD
    have b1 : (kd == 1) = false := by simp; omega
    have b2 : (kd == 2) = false := by simp; omega
    have b1' : ¬ kd = 1 := by omega
    have b2' : ¬ kd = 2 := by omega
    by_cases k3 : kd = 3
    · rw [if_pos k3] at HD
      subst k3
      rw [HD]
      clear HD HW HT
      cases rp with
      | true =>
        rw [Bool.true_and]
        go_enter Try.func97, Try.ntmps97
        go_wp2_with fail
        refine wp_region_held_drew (S := (fun w' => w'.cell? ⟨w.heap.size, 0, none⟩ = some (.int .i64 3) ∧ w'.cell? ⟨w.heap.size, 1, none⟩ = some (.int .i64 len) ∧ w'.cell? ⟨w.heap.size, 2, none⟩ = some (.int .u64 h) ∧ w'.cell? ⟨w.heap.size, 3, none⟩ = some (.int .u64 l) ∧ w'.cell? ⟨w.heap.size, 4, none⟩ = some (.string ⟨p.toArray⟩) ∧ Below w.heap.size w w')) (by kernel_rfl) ?hSr8_ (fun hHeld => ?_)
        case hSr8_ => (first | exact ⟨c0, c1, c2, c3, c4, hb0⟩ | (obtain ⟨s0, s1, s2, s3, s4, s5⟩ := hHeld; exact ⟨cell_later hb s0, cell_later hb s1, cell_later hb s2, cell_later hb s3, cell_later hb s4, below_step s5 hb⟩))
        refine tk 0 ⟨some 29, .fieldAddr 30 (.tmp 1) 4, 0, _, _, _⟩ hHeld ?_
        (try simp only [Act.put, nz1, nz2, nz3])
        refine tk 1 ⟨some 30, .load 9 (.tmp 29), 9, _, _, _⟩ hHeld ?_
        (try simp only [Act.put, nz1, nz2, nz3])
        refine wpAnyH_ready (rs := [2]) (by kernel_rfl) (by simp) ?_
        refine AllReadyH.cons (o := ⟨some 31, .call { callee := .value (.func 102), args := #[.tmp 30], argTypes := #[9] }, 4, _, _, _⟩) rfl (fun K hK => ?_) AllReadyH.nil
        go_simp
        ((refine (HR _).mono ?_); (rintro e wn ⟨rfl, hb⟩))
        go_wp2_with fail
        refine hK.out _ _ ?hSr8_3_2 (fun hHeld2 => ?_)
        case hSr8_3_2 => (first | exact ⟨c0, c1, c2, c3, c4, hb0⟩ | (obtain ⟨s0, s1, s2, s3, s4, s5⟩ := hHeld; exact ⟨cell_later hb s0, cell_later hb s1, cell_later hb s2, cell_later hb s3, cell_later hb s4, below_step s5 hb⟩))
        clear hK K hHeld
        have hHeld := hHeld2
        clear hHeld2
        (try simp only [Act.put, nz1, nz2, nz3])
        refine tk 3 ⟨some 32, .move (.tmp 31), 4, _, _, _⟩ hHeld ?_
        (try simp only [Act.put, nz1, nz2, nz3])
        refine tk 4 ⟨some 33, .load 30 (.tmp 1), 30, _, _, _⟩ hHeld ?_
        (try simp only [Act.put, nz1, nz2, nz3])
        refine tk 5 ⟨some 34, .fieldAddr 30 (.tmp 1) 4, 0, _, _, _⟩ hHeld ?_
        (try simp only [Act.put, nz1, nz2, nz3])
        refine tk 6 ⟨some 35, .load 9 (.tmp 34), 9, _, _, _⟩ hHeld ?_
        (try simp only [Act.put, nz1, nz2, nz3])
        refine wpAnyH_ready (rs := [7]) (by kernel_rfl) (by simp) ?_
        refine AllReadyH.cons (o := ⟨some 36, .call { callee := .value (.func 103), args := #[.tmp 35], argTypes := #[9] }, 30, _, _, _⟩) rfl (fun K hK => ?_) AllReadyH.nil
        go_simp
        ((refine (HP _).mono ?_); (rintro e wn ⟨rfl, hb⟩))
        go_wp2_with fail
        refine hK.out _ _ ?hSr8_8_7 (fun hHeld2 => ?_)
        case hSr8_8_7 => (first | exact ⟨c0, c1, c2, c3, c4, hb0⟩ | (obtain ⟨s0, s1, s2, s3, s4, s5⟩ := hHeld; exact ⟨cell_later hb s0, cell_later hb s1, cell_later hb s2, cell_later hb s3, cell_later hb s4, below_step s5 hb⟩))
        clear hK K hHeld
        have hHeld := hHeld2
        clear hHeld2
        (try simp only [Act.put, nz1, nz2, nz3])
        refine tk 8 ⟨some 37, .binOp .eql 30 (.tmp 33) (.tmp 36) 30, 4, _, _, _⟩ hHeld ?_
        (try simp only [Act.put, nz1, nz2, nz3])
        refine tk 9 ⟨some 38, .pick (.tmp 32) (.tmp 37) (.const (.bool false)), 4, _, _, _⟩ hHeld ?_
        (try simp only [Act.put, nz1, nz2, nz3])
        refine tk 10 ⟨some 2, .assign (.tmp 38), 4, _, _, _⟩ hHeld ?_
        (try simp only [Act.put, nz1, nz2, nz3])
        refine wpAnyH_done (by kernel_rfl) ?_ _
        go_wp2
        go_ret
        exact ⟨rfl, hHeld.2.2.2.2.2⟩
      | false =>
        rw [Bool.false_and]
        go_enter Try.func97, Try.ntmps97
        go_wp2_with fail
        refine wp_region_held_drew (S := (fun w' => w'.cell? ⟨w.heap.size, 0, none⟩ = some (.int .i64 3) ∧ w'.cell? ⟨w.heap.size, 1, none⟩ = some (.int .i64 len) ∧ w'.cell? ⟨w.heap.size, 2, none⟩ = some (.int .u64 h) ∧ w'.cell? ⟨w.heap.size, 3, none⟩ = some (.int .u64 l) ∧ w'.cell? ⟨w.heap.size, 4, none⟩ = some (.string ⟨p.toArray⟩) ∧ Below w.heap.size w w')) (by kernel_rfl) ?hSr9_ (fun hHeld => ?_)
        case hSr9_ => (first | exact ⟨c0, c1, c2, c3, c4, hb0⟩ | (obtain ⟨s0, s1, s2, s3, s4, s5⟩ := hHeld; exact ⟨cell_later hb s0, cell_later hb s1, cell_later hb s2, cell_later hb s3, cell_later hb s4, below_step s5 hb⟩))
        refine tk 0 ⟨some 29, .fieldAddr 30 (.tmp 1) 4, 0, _, _, _⟩ hHeld ?_
        (try simp only [Act.put, nz1, nz2, nz3])
        refine tk 1 ⟨some 30, .load 9 (.tmp 29), 9, _, _, _⟩ hHeld ?_
        (try simp only [Act.put, nz1, nz2, nz3])
        refine wpAnyH_ready (rs := [2]) (by kernel_rfl) (by simp) ?_
        refine AllReadyH.cons (o := ⟨some 31, .call { callee := .value (.func 102), args := #[.tmp 30], argTypes := #[9] }, 4, _, _, _⟩) rfl (fun K hK => ?_) AllReadyH.nil
        go_simp
        ((refine (HR _).mono ?_); (rintro e wn ⟨rfl, hb⟩))
        go_wp2_with fail
        refine hK.out _ _ ?hSr9_3_2 (fun hHeld2 => ?_)
        case hSr9_3_2 => (first | exact ⟨c0, c1, c2, c3, c4, hb0⟩ | (obtain ⟨s0, s1, s2, s3, s4, s5⟩ := hHeld; exact ⟨cell_later hb s0, cell_later hb s1, cell_later hb s2, cell_later hb s3, cell_later hb s4, below_step s5 hb⟩))
        clear hK K hHeld
        have hHeld := hHeld2
        clear hHeld2
        (try simp only [Act.put, nz1, nz2, nz3])
        refine tk 3 ⟨some 32, .move (.tmp 31), 4, _, _, _⟩ hHeld ?_
        (try simp only [Act.put, nz1, nz2, nz3])
        refine ts 4 ⟨some 33, .load 30 (.tmp 1), 30, _, _, _⟩ hHeld ?_
        (try simp only [Act.put, nz1, nz2, nz3])
        refine ts 5 ⟨some 34, .fieldAddr 30 (.tmp 1) 4, 0, _, _, _⟩ hHeld ?_
        (try simp only [Act.put, nz1, nz2, nz3])
        refine ts 6 ⟨some 35, .load 9 (.tmp 34), 9, _, _, _⟩ hHeld ?_
        (try simp only [Act.put, nz1, nz2, nz3])
        refine ts 7 ⟨some 36, .call { callee := .value (.func 103), args := #[.tmp 35], argTypes := #[9] }, 30, _, _, _⟩ hHeld ?_
        (try simp only [Act.put, nz1, nz2, nz3])
        refine ts 8 ⟨some 37, .binOp .eql 30 (.tmp 33) (.tmp 36) 30, 4, _, _, _⟩ hHeld ?_
        (try simp only [Act.put, nz1, nz2, nz3])
        refine tk 9 ⟨some 38, .pick (.tmp 32) (.tmp 37) (.const (.bool false)), 4, _, _, _⟩ hHeld ?_
        (try simp only [Act.put, nz1, nz2, nz3])
        refine tk 10 ⟨some 2, .assign (.tmp 38), 4, _, _, _⟩ hHeld ?_
        (try simp only [Act.put, nz1, nz2, nz3])
        refine wpAnyH_done (by kernel_rfl) ?_ _
        go_wp2
        go_ret
        exact ⟨rfl, hHeld.2.2.2.2.2⟩
    · rw [if_neg k3] at HD
      have b3 : (kd == 3) = false := by simpa using k3
      rw [HD]
      go_enter Try.func97, Try.ntmps97
      go_wp2
      go_ret
      exact ⟨rfl, (by repeat (first | exact Below.refl _ _ | assumption | (with_reducible refine Below.setCell ?_ ?h _; case h => first | omega | (simp; done) | (simp; omega)) | (with_reducible refine Below.alloc ?_ ?h _; case h => first | omega | (simp; done) | (simp; omega)) | (with_reducible refine Below.drew ?_) | (with_reducible refine Below.trans ?_ (hb4.mono ?h); case h => first | omega | (simp; done) | (simp; omega)) | (with_reducible refine Below.trans ?_ (hb3.mono ?h); case h => first | omega | (simp; done) | (simp; omega)) | (with_reducible refine Below.trans ?_ (hb2.mono ?h); case h => first | omega | (simp; done) | (simp; omega)) | (with_reducible refine Below.trans ?_ (hb.mono ?h); case h => first | omega | (simp; done) | (simp; omega)) | (with_reducible refine Below.trans ?_ (hb0.mono ?h); case h => first | omega | (simp; done) | (simp; omega))))⟩
end Go.Proofs.Ytbekocknfpekoaa
namespace Go.Proofs.Ytbekocknfpekoaa
set_option linter.unusedVariables false
set_option linter.unusedSimpArgs false
open Go.RowKit
theorem two_rows (w : World) (a b : Array Value) (t u : TypeId) : Row ((w.alloc (.cells a t)).alloc (.cells b u)) w.heap.size a t ∧ Row ((w.alloc (.cells a t)).alloc (.cells b u)) (w.heap.size + 1) b u ∧ Below w.heap.size w ((w.alloc (.cells a t)).alloc (.cells b u)) := by
  refine ⟨(Row.new _ _ _).alloc _, ?_, (by repeat (first | exact Below.refl _ _ | assumption | (with_reducible refine Below.setCell ?_ ?h _; case h => first | omega | (simp; done) | (simp; omega)) | (with_reducible refine Below.alloc ?_ ?h _; case h => first | omega | (simp; done) | (simp; omega)) | (with_reducible refine Below.drew ?_) | (with_reducible refine Below.trans ?_ (hb4.mono ?h); case h => first | omega | (simp; done) | (simp; omega)) | (with_reducible refine Below.trans ?_ (hb3.mono ?h); case h => first | omega | (simp; done) | (simp; omega)) | (with_reducible refine Below.trans ?_ (hb2.mono ?h); case h => first | omega | (simp; done) | (simp; omega)) | (with_reducible refine Below.trans ?_ (hb.mono ?h); case h => first | omega | (simp; done) | (simp; omega)) | (with_reducible refine Below.trans ?_ (hb0.mono ?h); case h => first | omega | (simp; done) | (simp; omega))))⟩
  have := Row.new (w.alloc (.cells a t)) b u
  rwa [World.size_alloc] at this
theorem three_rows (w : World) (a b c : Array Value) (t u v : TypeId) : Row (((w.alloc (.cells a t)).alloc (.cells b u)).alloc (.cells c v)) w.heap.size a t ∧ Row (((w.alloc (.cells a t)).alloc (.cells b u)).alloc (.cells c v)) (w.heap.size + 1) b u ∧ Row (((w.alloc (.cells a t)).alloc (.cells b u)).alloc (.cells c v)) (w.heap.size + 1 + 1) c v ∧ Below w.heap.size w (((w.alloc (.cells a t)).alloc (.cells b u)).alloc (.cells c v)) := by
  obtain ⟨h1, h2, h3⟩ := two_rows w a b t u
  refine ⟨h1.alloc _, h2.alloc _, ?_, h3.alloc h3.size _⟩
  have := Row.new ((w.alloc (.cells a t)).alloc (.cells b u)) c v
  rwa [World.size_alloc, World.size_alloc] at this
theorem kcut_t (k : Ke) (ok : k.ok) (n : Int) (hn : n ≤ 9223372036854775807) (w : World) : Calls Try.prog 87 #[kv k, .int .i64 n] w fun e w' => e = .returned (kv (cutK k n)) ∧ Below w.heap.size w w' := by
  have HR := kright_t k ok
  have HT := ktop_t k (max n 0) ok.h ok.l (by omega) ok.path
  have HD : cutK k n = if rightK k = true then (if k.len ≤ n then k else topK k (max n 0)) else kz := rfl
  rw [HD]
  clear HD
  generalize topK k (max n 0) = t at *
  generalize rightK k = r at *
  obtain ⟨kd, len, h, l, p⟩ := k
  obtain ⟨t0, t1, t2, t3, t4⟩ := t
  clear ok
  dsimp only
  unfold kv at HR HT
  dsimp only at *
  obtain ⟨R0, R1, hb0⟩ := two_rows w #[.int .i64 kd, .int .i64 len, .int .u64 h, .int .u64 l, .string ⟨p.toArray⟩] #[.int .i64 0, .int .i64 0, .int .u64 0, .int .u64 0, .string ⟨#[]⟩] 30 30
  cases r with
  | false =>
    rw [if_neg (by simp)]
    unfold kv kz
    dsimp only
    go_enter Try.func87, Try.ntmps87
    go_wp2_with fail
    refine (HR _).mono ?_
    rintro e w1 ⟨rfl, hb⟩
    replace R1 := R1.later hb
    replace hb0 := below_step hb0 hb
    clear HR HT hb R0
    have c0 := ((R1).cell 0).trans (show _ = some (Value.int .i64 0) from rfl)
    have cf0 := (R1).frozen 0
    have c1 := ((R1).cell 1).trans (show _ = some (Value.int .i64 0) from rfl)
    have cf1 := (R1).frozen 1
    have c2 := ((R1).cell 2).trans (show _ = some (Value.int .u64 0) from rfl)
    have cf2 := (R1).frozen 2
    have c3 := ((R1).cell 3).trans (show _ = some (Value.int .u64 0) from rfl)
    have cf3 := (R1).frozen 3
    have c4 := ((R1).cell 4).trans (show _ = some (Value.string ⟨#[]⟩) from rfl)
    have cf4 := (R1).frozen 4
    clear R1
    go_wp2
    refine bodyPost_ret (v := .agg #[.int .i64 0, .int .i64 0, .int .u64 0, .int .u64 0, .string ⟨#[]⟩]) (by simp [results, Try.results87, go_sem, c0, c1, c2, c3, c4]) rfl ⟨rfl, bset5 hb0 (by omega) _ _ _ _ _⟩
  | true =>
    rw [if_pos rfl]
    by_cases hc : len ≤ n
    · rw [if_pos hc]
      unfold kv
      dsimp only
      go_enter Try.func87, Try.ntmps87
      go_wp2_with fail
      refine (HR _).mono ?_
      rintro e w1 ⟨rfl, hb⟩
      replace R1 := R1.later hb
      replace R0 := R0.later hb
      replace hb0 := below_step hb0 hb
      clear HR HT hb
      have c0 := ((R1).cell 0).trans (show _ = some (Value.int .i64 0) from rfl)
      have cf0 := (R1).frozen 0
      have c1 := ((R1).cell 1).trans (show _ = some (Value.int .i64 0) from rfl)
      have cf1 := (R1).frozen 1
      have c2 := ((R1).cell 2).trans (show _ = some (Value.int .u64 0) from rfl)
      have cf2 := (R1).frozen 2
      have c3 := ((R1).cell 3).trans (show _ = some (Value.int .u64 0) from rfl)
      have cf3 := (R1).frozen 3
      have c4 := ((R1).cell 4).trans (show _ = some (Value.string ⟨#[]⟩) from rfl)
      have cf4 := (R1).frozen 4
      have d0 := ((R0).cell 0).trans (show _ = some (Value.int .i64 kd) from rfl)
      have df0 := (R0).frozen 0
      have d1 := ((R0).cell 1).trans (show _ = some (Value.int .i64 len) from rfl)
      have df1 := (R0).frozen 1
      have d2 := ((R0).cell 2).trans (show _ = some (Value.int .u64 h) from rfl)
      have df2 := (R0).frozen 2
      have d3 := ((R0).cell 3).trans (show _ = some (Value.int .u64 l) from rfl)
      have df3 := (R0).frozen 3
      have d4 := ((R0).cell 4).trans (show _ = some (Value.string ⟨p.toArray⟩) from rfl)
      have df4 := (R0).frozen 4
      clear R1 R0
      go_wp2
      refine bodyPost_ret (v := .agg #[.int .i64 kd, .int .i64 len, .int .u64 h, .int .u64 l, .string ⟨p.toArray⟩]) (by simp [results, Try.results87, go_sem, c0, c1, c2, c3, c4]) rfl ⟨rfl, bset5 hb0 (by omega) _ _ _ _ _⟩
    · rw [if_neg hc]
      unfold kv
      dsimp only
      go_enter Try.func87, Try.ntmps87
      go_wp2_with fail
      refine (HR _).mono ?_
      rintro e w1 ⟨rfl, hb⟩
      replace R1 := R1.later hb
      replace R0 := R0.later hb
      replace hb0 := below_step hb0 hb
      clear HR hb
      have d0 := ((R0).cell 0).trans (show _ = some (Value.int .i64 kd) from rfl)
      have df0 := (R0).frozen 0
      have d1 := ((R0).cell 1).trans (show _ = some (Value.int .i64 len) from rfl)
      have df1 := (R0).frozen 1
      have d2 := ((R0).cell 2).trans (show _ = some (Value.int .u64 h) from rfl)
      have df2 := (R0).frozen 2
      have d3 := ((R0).cell 3).trans (show _ = some (Value.int .u64 l) from rfl)
      have df3 := (R0).frozen 3
      have d4 := ((R0).cell 4).trans (show _ = some (Value.string ⟨p.toArray⟩) from rfl)
      have df4 := (R0).frozen 4
      clear R0
      go_wp2_with fail
      refine (HT _).mono ?_
      rintro e w2 ⟨rfl, hb⟩
      replace R1 := R1.later hb
      replace hb0 := below_step hb0 hb
      clear HT hb d0 d1 d2 d3 d4 df0 df1 df2 df3 df4
      have c0 := ((R1).cell 0).trans (show _ = some (Value.int .i64 0) from rfl)
      have cf0 := (R1).frozen 0
      have c1 := ((R1).cell 1).trans (show _ = some (Value.int .i64 0) from rfl)
      have cf1 := (R1).frozen 1
      have c2 := ((R1).cell 2).trans (show _ = some (Value.int .u64 0) from rfl)
      have cf2 := (R1).frozen 2
      have c3 := ((R1).cell 3).trans (show _ = some (Value.int .u64 0) from rfl)
      have cf3 := (R1).frozen 3
      have c4 := ((R1).cell 4).trans (show _ = some (Value.string ⟨#[]⟩) from rfl)
      have cf4 := (R1).frozen 4
      clear R1
      go_wp2
      refine bodyPost_ret (v := .agg #[.int .i64 t0, .int .i64 t1, .int .u64 t2, .int .u64 t3, .string ⟨t4.toArray⟩]) (by simp [results, Try.results87, go_sem, c0, c1, c2, c3, c4]) rfl ⟨rfl, bset5 hb0 (by omega) _ _ _ _ _⟩
end Go.Proofs.Ytbekocknfpekoaa
namespace Go.Proofs.Ytbekocknfpekoaa
set_option linter.unusedVariables false
set_option linter.unusedSimpArgs false
open Go.RowKit
def cmpB (a b : ByteArray) : Int := if Op.bytesLess a.toList b.toList = true then -1 else if a.toList = b.toList then 0 else 1
def cmpS (a b : List UInt8) : Int := if Op.bytesLess a b = true then -1 else if a = b then 0 else 1
theorem bytes_list (l : List UInt8) : (⟨l.toArray⟩ : ByteArray).toList = l := by rw [ByteArray.toList_eq]
theorem cmpB_eq (a b : List UInt8) : cmpB ⟨a.toArray⟩ ⟨b.toArray⟩ = cmpS a b := by unfold cmpB cmpS; rw [bytes_list, bytes_list]
theorem nan_i (a : Int) (w : World) : Calls Try.prog 89 #[.int .i64 a] w fun e w' => e = .returned (.bool false) ∧ w = w' := by
  go_enter Try.func89, Try.ntmps89
  go_wp2
  go_ret
  exact ⟨by simp, rfl⟩
theorem nan_s (a : ByteArray) (w : World) : Calls Try.prog 101 #[.string a] w fun e w' => e = .returned (.bool false) ∧ w = w' := by
  go_enter Try.func101, Try.ntmps101
  go_wp2
  go_ret
  exact ⟨by simp, rfl⟩
theorem compare_i (a b : Int) (w : World) : Calls Try.prog 63 #[.int .i64 a, .int .i64 b] w fun e w' => e = .returned (.int .i64 (cmpI a b)) ∧ Below w.heap.size w w' := by
  have e1 : cmpI a b = if a < b then -1 else if a = b then 0 else 1 := rfl
  rw [e1]
  clear e1
  by_cases h1 : a < b
  · rw [if_pos h1]
    go_enter Try.func63, Try.ntmps63
    go_wp2_with fail
    refine (nan_i _ _).mono ?_
    rintro e w1 ⟨rfl, rfl⟩
    go_wp2_with fail
    refine (nan_i _ _).mono ?_
    rintro e w1 ⟨rfl, rfl⟩
    go_wp2
    go_ret
    exact ⟨rfl, bw⟩
  · rw [if_neg h1]
    by_cases h2 : a = b
    · subst h2
      rw [if_pos rfl]
      go_enter Try.func63, Try.ntmps63
      go_wp2_with fail
      refine (nan_i _ _).mono ?_
      rintro e w1 ⟨rfl, rfl⟩
      go_wp2_with fail
      refine (nan_i _ _).mono ?_
      rintro e w1 ⟨rfl, rfl⟩
      go_wp2
      go_ret
      exact ⟨rfl, bw⟩
    · rw [if_neg h2]
      have h3 : b < a := by omega
      clear h2
      go_enter Try.func63, Try.ntmps63
      go_wp2_with fail
      refine (nan_i _ _).mono ?_
      rintro e w1 ⟨rfl, rfl⟩
      go_wp2_with fail
      refine (nan_i _ _).mono ?_
      rintro e w1 ⟨rfl, rfl⟩
      go_wp2
      go_ret
      exact ⟨rfl, bw⟩
theorem compare_s (a b : ByteArray) (w : World) : Calls Try.prog 93 #[.string a, .string b] w fun e w' => e = .returned (.int .i64 (cmpB a b)) ∧ Below w.heap.size w w' := by
  have e1 : cmpB a b = if Op.bytesLess a.toList b.toList = true then -1 else if a.toList = b.toList then 0 else 1 := rfl
  rw [e1]
  clear e1
  cases h1 : Op.bytesLess a.toList b.toList with
  | true =>
    rw [if_pos rfl]
    go_enter Try.func93, Try.ntmps93
    go_wp2_with fail
    refine (nan_s _ _).mono ?_
    rintro e w1 ⟨rfl, rfl⟩
    go_wp2_with fail
    refine (nan_s _ _).mono ?_
    rintro e w1 ⟨rfl, rfl⟩
    go_wp2
    go_ret
    exact ⟨rfl, bw⟩
  | false =>
    rw [if_neg (by simp)]
    by_cases h2 : a.toList = b.toList
    · have h3 : (a.toList == b.toList) = true := by simpa using h2
      rw [if_pos h2]
      clear h2
      go_enter Try.func93, Try.ntmps93
      go_wp2_with fail
      refine (nan_s _ _).mono ?_
      rintro e w1 ⟨rfl, rfl⟩
      go_wp2_with fail
      refine (nan_s _ _).mono ?_
      rintro e w1 ⟨rfl, rfl⟩
      go_wp2
      go_ret
      exact ⟨rfl, bw⟩
    · have h3 : (a.toList == b.toList) = false := by simpa using h2
      rw [if_neg h2]
      clear h2
      go_enter Try.func93, Try.ntmps93
      go_wp2_with fail
      refine (nan_s _ _).mono ?_
      rintro e w1 ⟨rfl, rfl⟩
      go_wp2_with fail
      refine (nan_s _ _).mono ?_
      rintro e w1 ⟨rfl, rfl⟩
      go_wp2
      go_ret
      exact ⟨rfl, bw⟩
def fnz : List Int → Int
  | [] => 0
  | x :: r => if x = 0 then fnz r else x
theorem fnz_at : ∀ (l : List Int) (k : Nat) (x : Int), (∀ j y, j < k → l[j]? = some y → y = 0) → l[k]? = some x → x ≠ 0 → fnz l = x
  | [], k, x, _, h, _ => by simp at h
  | y :: r, 0, x, _, h, hx => by simp at h; subst h; rw [fnz, if_neg hx]
  | y :: r, k + 1, x, h0, h, hx => by
    rw [fnz, if_pos (h0 0 y (by omega) rfl)]
    exact fnz_at r k x (fun j z hj hz => h0 (j + 1) z (by omega) (by simpa using hz)) (by simpa using h) hx
theorem fnz_none : ∀ (l : List Int), (∀ j y, j < l.length → l[j]? = some y → y = 0) → fnz l = 0
  | [], _ => rfl
  | y :: r, h0 => by
    rw [fnz, if_pos (h0 0 y (by simp) rfl)]
    exact fnz_none r (fun j z hj hz => h0 (j + 1) z (by simp; omega) (by simpa using hz))
theorem or_t (l : List Int) (n : Nat) (hn : n = l.length) (g : Nat) (w : World) (h8 : l.length ≤ 1000) (h : ∀ j x, l[j]? = some x → w.cell? ⟨g, j, none⟩ = some (.int .i64 x)) :
    Calls Try.prog 90 #[.slice (some ⟨g, 0, none⟩) n n] w fun e w' => e = .returned (.int .i64 (fnz l)) ∧ Below w.heap.size w w' := by
  have H := Lib.hid h
  have HS := Lib.hid (fnz_at l)
  have HN := Lib.hid (fnz_none l)
  replace hn := Lib.hid hn
  have n8 : n ≤ 1000 := by rw [hn.out]; exact h8
  clear h h8
  go_enter Try.func90, Try.ntmps90
  go_wp2_with fail
  go_loop [8] (fun i => ∃ k : Nat, k ≤ n ∧ i = .int .i64 k ∧ Hid (∀ j y, j < k → l[j]? = some y → y = 0)) (fun i => n - (intOf i).toNat)
  case atStart => exact ⟨0, Nat.zero_le _, rfl, Lib.hid (fun j y hj => by omega)⟩
  case round =>
    obtain ⟨k, hk, rfl, hz⟩ := hrel
    by_cases hlt : k < n
    · obtain ⟨x, hx⟩ : ∃ x, l[k]? = some x := ⟨_, List.getElem?_eq_getElem (by have := hn.out; omega)⟩
      have c := H.out k x hx
      by_cases h0 : x = 0
      · subst h0
        have hz' := Lib.hid (show ∀ j y, j < k + 1 → l[j]? = some y → y = 0 from fun j y hj hy => by
          by_cases e : j = k
          · subst e; rw [hx] at hy; exact (Option.some.inj hy).symm
          · exact hz.out j y (by omega) hy)
        clear hx hz
        go_wp2
        go_round
        case rel => exact ⟨k + 1, by omega, by go_num, hz'⟩
        case measure => simp [intOf]; omega
      · have e := Lib.hid (HS.out k x hz.out hx h0)
        have h0' : (x == 0) = false := by simpa using h0
        clear hx hz
        go_wp2
        go_ret
        exact ⟨ret_int e.out.symm, bw⟩
    · have e := Lib.hid (HN.out (fun j y hj hy => hz.out j y (by have := hn.out; omega) hy))
      clear hz
      go_wp2
      go_ret
      exact ⟨ret_int e.out.symm, bw⟩
theorem or_cells {w : World} {g : Nat} {a b c d : Int} {t : TypeId} (R : Row w g #[.int .i64 a, .int .i64 b, .int .i64 c, .int .i64 d] t) : ∀ j x, [a, b, c, d][j]? = some x → w.cell? ⟨g, j, none⟩ = some (.int .i64 x) := fun j x hx => by
  rw [R.cell j]
  match j with
  | 0 | 1 | 2 | 3 => simp at hx; simp [hx]
  | n + 4 => simp at hx
def cmpK (a b : Ke) : Int := fnz [cmpI a.kind b.kind, cmpI a.num b.num, cmpS a.path b.path, cmpI a.len b.len]
theorem kcmp_t (a b : Ke) (ha : a.ok) (hb' : b.ok) (w : World) : Calls Try.prog 64 #[kv a, kv b] w fun e w' => e = .returned (.int .i64 (cmpK a b)) ∧ Below w.heap.size w w' := by
  have HW := cmp_any a.h a.l b.h b.l ha.h ha.l hb'.h hb'.l
  have HS := compare_s ⟨a.path.toArray⟩ ⟨b.path.toArray⟩
  rw [cmpB_eq] at HS
  have HD : cmpK a b = fnz [cmpI a.kind b.kind, cmpI a.num b.num, cmpS a.path b.path, cmpI a.len b.len] := rfl
  unfold Ke.num at HD
  rw [HD]
  clear HD
  have HO := fun g w h => or_t [cmpI a.kind b.kind, cmpI (wv a.h a.l) (wv b.h b.l), cmpS a.path b.path, cmpI a.len b.len] 4 rfl g w (by simp) h
  obtain ⟨ak, an, ah, al, ap⟩ := a
  obtain ⟨bk, bn, bh, bl, bp⟩ := b
  clear ha hb'
  dsimp only at *
  have HK := compare_i ak bk
  have HL := compare_i an bn
  generalize cmpI (wv ah al) (wv bh bl) = x1 at *
  generalize cmpI ak bk = x0 at *
  generalize cmpS ap bp = x2 at *
  generalize cmpI an bn = x3 at *
  have HBa := bits_t ak an ah al ⟨ap.toArray⟩
  have HBb := bits_t bk bn bh bl ⟨bp.toArray⟩
  obtain ⟨R0, R1, hb0⟩ := two_rows w #[.int .i64 ak, .int .i64 an, .int .u64 ah, .int .u64 al, .string ⟨ap.toArray⟩] #[.int .i64 bk, .int .i64 bn, .int .u64 bh, .int .u64 bl, .string ⟨bp.toArray⟩] 30 30
  replace R0 := R0.drew
  replace R1 := R1.drew
  replace hb0 := hb0.drew
  have c0 := ((R0).cell 0).trans (show _ = some (Value.int .i64 ak) from rfl)
  have cf0 := (R0).frozen 0
  have c1 := ((R0).cell 1).trans (show _ = some (Value.int .i64 an) from rfl)
  have cf1 := (R0).frozen 1
  have c2 := ((R0).cell 2).trans (show _ = some (Value.int .u64 ah) from rfl)
  have cf2 := (R0).frozen 2
  have c3 := ((R0).cell 3).trans (show _ = some (Value.int .u64 al) from rfl)
  have cf3 := (R0).frozen 3
  have c4 := ((R0).cell 4).trans (show _ = some (Value.string ⟨ap.toArray⟩) from rfl)
  have cf4 := (R0).frozen 4
  have d0 := ((R1).cell 0).trans (show _ = some (Value.int .i64 bk) from rfl)
  have df0 := (R1).frozen 0
  have d1 := ((R1).cell 1).trans (show _ = some (Value.int .i64 bn) from rfl)
  have df1 := (R1).frozen 1
  have d2 := ((R1).cell 2).trans (show _ = some (Value.int .u64 bh) from rfl)
  have df2 := (R1).frozen 2
  have d3 := ((R1).cell 3).trans (show _ = some (Value.int .u64 bl) from rfl)
  have df3 := (R1).frozen 3
  have d4 := ((R1).cell 4).trans (show _ = some (Value.string ⟨bp.toArray⟩) from rfl)
  have df4 := (R1).frozen 4
  clear R0 R1
  unfold kv
  dsimp only
  generalize fnz [x0, x1, x2, x3] = r at *
  go_enter Try.func64, Try.ntmps64
  go_wp2_with fail
  refine wp_region_held_drew (S := (fun w' => w'.cell? ⟨w.heap.size, 0, none⟩ = some (.int .i64 ak) ∧ w'.cell? ⟨w.heap.size, 1, none⟩ = some (.int .i64 an) ∧ w'.cell? ⟨w.heap.size, 2, none⟩ = some (.int .u64 ah) ∧ w'.cell? ⟨w.heap.size, 3, none⟩ = some (.int .u64 al) ∧ w'.cell? ⟨w.heap.size, 4, none⟩ = some (.string ⟨ap.toArray⟩) ∧ w'.cell? ⟨w.heap.size + 1, 0, none⟩ = some (.int .i64 bk) ∧ w'.cell? ⟨w.heap.size + 1, 1, none⟩ = some (.int .i64 bn) ∧ w'.cell? ⟨w.heap.size + 1, 2, none⟩ = some (.int .u64 bh) ∧ w'.cell? ⟨w.heap.size + 1, 3, none⟩ = some (.int .u64 bl) ∧ w'.cell? ⟨w.heap.size + 1, 4, none⟩ = some (.string ⟨bp.toArray⟩) ∧ Below w.heap.size w w')) (by kernel_rfl) ?hSr10_ (fun hHeld => ?_)
  case hSr10_ => (first | exact ⟨c0, c1, c2, c3, c4, d0, d1, d2, d3, d4, hb0⟩ | (obtain ⟨s0, s1, s2, s3, s4, t0, t1, t2, t3, t4, s5⟩ := hHeld; exact ⟨cell_later hb s0, cell_later hb s1, cell_later hb s2, cell_later hb s3, cell_later hb s4, cell_later hb t0, cell_later hb t1, cell_later hb t2, cell_later hb t3, cell_later hb t4, below_step s5 hb⟩))
  refine tk 0 ⟨some 5, .fieldAddr 30 (.tmp 2) 0, 0, _, _, _⟩ hHeld ?_
  (try simp only [Act.put, nz1, nz2, nz3])
  refine tk 1 ⟨some 6, .load 3 (.tmp 5), 3, _, _, _⟩ hHeld ?_
  (try simp only [Act.put, nz1, nz2, nz3])
  refine tk 2 ⟨some 7, .fieldAddr 30 (.tmp 3) 0, 0, _, _, _⟩ hHeld ?_
  (try simp only [Act.put, nz1, nz2, nz3])
  refine tk 3 ⟨some 8, .load 3 (.tmp 7), 3, _, _, _⟩ hHeld ?_
  (try simp only [Act.put, nz1, nz2, nz3])
  refine tk 5 ⟨some 10, .load 30 (.tmp 2), 30, _, _, _⟩ hHeld ?_
  (try simp only [Act.put, nz1, nz2, nz3])
  refine tk 7 ⟨some 12, .load 30 (.tmp 3), 30, _, _, _⟩ hHeld ?_
  (try simp only [Act.put, nz1, nz2, nz3])
  refine tk 10 ⟨some 15, .fieldAddr 30 (.tmp 2) 4, 0, _, _, _⟩ hHeld ?_
  (try simp only [Act.put, nz1, nz2, nz3])
  refine tk 11 ⟨some 16, .load 9 (.tmp 15), 9, _, _, _⟩ hHeld ?_
  (try simp only [Act.put, nz1, nz2, nz3])
  refine tk 12 ⟨some 17, .fieldAddr 30 (.tmp 3) 4, 0, _, _, _⟩ hHeld ?_
  (try simp only [Act.put, nz1, nz2, nz3])
  refine tk 13 ⟨some 18, .load 9 (.tmp 17), 9, _, _, _⟩ hHeld ?_
  (try simp only [Act.put, nz1, nz2, nz3])
  refine tk 15 ⟨some 20, .fieldAddr 30 (.tmp 2) 1, 0, _, _, _⟩ hHeld ?_
  (try simp only [Act.put, nz1, nz2, nz3])
  refine tk 16 ⟨some 21, .load 3 (.tmp 20), 3, _, _, _⟩ hHeld ?_
  (try simp only [Act.put, nz1, nz2, nz3])
  refine tk 17 ⟨some 22, .fieldAddr 30 (.tmp 3) 1, 0, _, _, _⟩ hHeld ?_
  (try simp only [Act.put, nz1, nz2, nz3])
  refine tk 18 ⟨some 23, .load 3 (.tmp 22), 3, _, _, _⟩ hHeld ?_
  (try simp only [Act.put, nz1, nz2, nz3])
  refine wpAnyH_ready (rs := [4]) (by kernel_rfl) (by simp) ?_
  refine AllReadyH.cons (o := ⟨some 9, .call { callee := .value (.func 63), args := #[.tmp 6, .tmp 8], argTypes := #[3, 3] }, 3, _, _, _⟩) rfl (fun K hK => ?_) AllReadyH.nil
  (go_simp; (refine (HK _).mono ?_); (rintro e wn ⟨rfl, hb⟩); go_wp2_with fail)
  refine hK.out _ _ ?hSr10_15_4 (fun hHeld2 => ?_)
  case hSr10_15_4 => (first | exact ⟨c0, c1, c2, c3, c4, d0, d1, d2, d3, d4, hb0⟩ | (obtain ⟨s0, s1, s2, s3, s4, t0, t1, t2, t3, t4, s5⟩ := hHeld; exact ⟨cell_later hb s0, cell_later hb s1, cell_later hb s2, cell_later hb s3, cell_later hb s4, cell_later hb t0, cell_later hb t1, cell_later hb t2, cell_later hb t3, cell_later hb t4, below_step s5 hb⟩))
  clear hK K hHeld
  have hHeld := hHeld2
  clear hHeld2
  (try simp only [Act.put, nz1, nz2, nz3])
  refine wpAnyH_ready (rs := [6]) (by kernel_rfl) (by simp) ?_
  refine AllReadyH.cons (o := ⟨some 11, .call { callee := .value (.func 92), args := #[.tmp 10], argTypes := #[30] }, 96, _, _, _⟩) rfl (fun K hK => ?_) AllReadyH.nil
  (go_simp; (refine (HBa _).mono ?_); (rintro e wn ⟨rfl, hb⟩); go_wp2_with fail)
  refine hK.out _ _ ?hSr10_16_6 (fun hHeld2 => ?_)
  case hSr10_16_6 => (first | exact ⟨c0, c1, c2, c3, c4, d0, d1, d2, d3, d4, hb0⟩ | (obtain ⟨s0, s1, s2, s3, s4, t0, t1, t2, t3, t4, s5⟩ := hHeld; exact ⟨cell_later hb s0, cell_later hb s1, cell_later hb s2, cell_later hb s3, cell_later hb s4, cell_later hb t0, cell_later hb t1, cell_later hb t2, cell_later hb t3, cell_later hb t4, below_step s5 hb⟩))
  clear hK K hHeld
  have hHeld := hHeld2
  clear hHeld2
  (try simp only [Act.put, nz1, nz2, nz3])
  refine wpAnyH_ready (rs := [8]) (by kernel_rfl) (by simp) ?_
  refine AllReadyH.cons (o := ⟨some 13, .call { callee := .value (.func 92), args := #[.tmp 12], argTypes := #[30] }, 96, _, _, _⟩) rfl (fun K hK => ?_) AllReadyH.nil
  (go_simp; (refine (HBb _).mono ?_); (rintro e wn ⟨rfl, hb⟩); go_wp2_with fail)
  refine hK.out _ _ ?hSr10_17_8 (fun hHeld2 => ?_)
  case hSr10_17_8 => (first | exact ⟨c0, c1, c2, c3, c4, d0, d1, d2, d3, d4, hb0⟩ | (obtain ⟨s0, s1, s2, s3, s4, t0, t1, t2, t3, t4, s5⟩ := hHeld; exact ⟨cell_later hb s0, cell_later hb s1, cell_later hb s2, cell_later hb s3, cell_later hb s4, cell_later hb t0, cell_later hb t1, cell_later hb t2, cell_later hb t3, cell_later hb t4, below_step s5 hb⟩))
  clear hK K hHeld
  have hHeld := hHeld2
  clear hHeld2
  (try simp only [Act.put, nz1, nz2, nz3])
  refine wpAnyH_ready (rs := [9]) (by kernel_rfl) (by simp) ?_
  refine AllReadyH.cons (o := ⟨some 14, .call { callee := .value (.func 91), args := #[.tmp 11, .tmp 13], argTypes := #[96, 96] }, 3, _, _, _⟩) rfl (fun K hK => ?_) AllReadyH.nil
  go_simp
  ((refine (HW _).mono ?_); (rintro e wn ⟨rfl, hb⟩))
  go_wp2_with fail
  refine hK.out _ _ ?hSr10_18_9 (fun hHeld2 => ?_)
  case hSr10_18_9 => (first | exact ⟨c0, c1, c2, c3, c4, d0, d1, d2, d3, d4, hb0⟩ | (obtain ⟨s0, s1, s2, s3, s4, t0, t1, t2, t3, t4, s5⟩ := hHeld; exact ⟨cell_later hb s0, cell_later hb s1, cell_later hb s2, cell_later hb s3, cell_later hb s4, cell_later hb t0, cell_later hb t1, cell_later hb t2, cell_later hb t3, cell_later hb t4, below_step s5 hb⟩))
  clear hK K hHeld
  have hHeld := hHeld2
  clear hHeld2
  (try simp only [Act.put, nz1, nz2, nz3])
  refine wpAnyH_ready (rs := [14]) (by kernel_rfl) (by simp) ?_
  refine AllReadyH.cons (o := ⟨some 19, .call { callee := .value (.func 93), args := #[.tmp 16, .tmp 18], argTypes := #[9, 9] }, 3, _, _, _⟩) rfl (fun K hK => ?_) AllReadyH.nil
  go_simp
  ((refine (HS _).mono ?_); (rintro e wn ⟨rfl, hb⟩))
  go_wp2_with fail
  refine hK.out _ _ ?hSr10_19_14 (fun hHeld2 => ?_)
  case hSr10_19_14 => (first | exact ⟨c0, c1, c2, c3, c4, d0, d1, d2, d3, d4, hb0⟩ | (obtain ⟨s0, s1, s2, s3, s4, t0, t1, t2, t3, t4, s5⟩ := hHeld; exact ⟨cell_later hb s0, cell_later hb s1, cell_later hb s2, cell_later hb s3, cell_later hb s4, cell_later hb t0, cell_later hb t1, cell_later hb t2, cell_later hb t3, cell_later hb t4, below_step s5 hb⟩))
  clear hK K hHeld
  have hHeld := hHeld2
  clear hHeld2
  (try simp only [Act.put, nz1, nz2, nz3])
  refine wpAnyH_ready (rs := [19]) (by kernel_rfl) (by simp) ?_
  refine AllReadyH.cons (o := ⟨some 24, .call { callee := .value (.func 63), args := #[.tmp 21, .tmp 23], argTypes := #[3, 3] }, 3, _, _, _⟩) rfl (fun K hK => ?_) AllReadyH.nil
  (go_simp; (refine (HL _).mono ?_); (rintro e wn ⟨rfl, hb⟩); go_wp2_with fail)
  refine hK.out _ _ ?hSr10_20_19 (fun hHeld2 => ?_)
  case hSr10_20_19 => (first | exact ⟨c0, c1, c2, c3, c4, d0, d1, d2, d3, d4, hb0⟩ | (obtain ⟨s0, s1, s2, s3, s4, t0, t1, t2, t3, t4, s5⟩ := hHeld; exact ⟨cell_later hb s0, cell_later hb s1, cell_later hb s2, cell_later hb s3, cell_later hb s4, cell_later hb t0, cell_later hb t1, cell_later hb t2, cell_later hb t3, cell_later hb t4, below_step s5 hb⟩))
  clear hK K hHeld
  have hHeld := hHeld2
  clear hHeld2
  (try simp only [Act.put, nz1, nz2, nz3])
  refine wpAnyH_ready (rs := [20]) (by kernel_rfl) (by simp) ?_
  refine AllReadyH.cons (o := ⟨some 25, .buildSlice 89 4 #[(0, .tmp 9), (1, .tmp 14), (2, .tmp 19), (3, .tmp 24)], 89, _, _, _⟩) rfl (fun K hK => ?_) AllReadyH.nil
  (go_simp; (have R4 := Row.new wn #[.int .i64 x0, .int .i64 x1, .int .i64 x2, .int .i64 x3] 3); (have hb : Below wn.heap.size wn (wn.alloc (.cells #[.int .i64 x0, .int .i64 x1, .int .i64 x2, .int .i64 x3] 3)) := (Below.refl _ _).alloc (Nat.le_refl _) _); (have HO4 := Lib.hid (HO _ _ (or_cells R4))); generalize wn.alloc (.cells #[.int .i64 x0, .int .i64 x1, .int .i64 x2, .int .i64 x3] 3) = wm at *)
  refine hK.out _ _ ?hSr10_21_20 (fun hHeld2 => ?_)
  case hSr10_21_20 => (first | exact ⟨c0, c1, c2, c3, c4, d0, d1, d2, d3, d4, hb0⟩ | (obtain ⟨s0, s1, s2, s3, s4, t0, t1, t2, t3, t4, s5⟩ := hHeld; exact ⟨cell_later hb s0, cell_later hb s1, cell_later hb s2, cell_later hb s3, cell_later hb s4, cell_later hb t0, cell_later hb t1, cell_later hb t2, cell_later hb t3, cell_later hb t4, below_step s5 hb⟩))
  clear hK K hHeld
  have hHeld := hHeld2
  clear hHeld2
  (try simp only [Act.put, nz1, nz2, nz3])
  refine wpAnyH_ready (rs := [21]) (by kernel_rfl) (by simp) ?_
  refine AllReadyH.cons (o := ⟨some 26, .call { callee := .value (.func 90), args := #[.tmp 25], argTypes := #[89] }, 3, _, _, _⟩) rfl (fun K hK => ?_) AllReadyH.nil
  (go_simp; (refine HO4.out.mono ?_); (rintro e wo ⟨rfl, hb⟩); go_wp2_with fail)
  refine hK.out _ _ ?hSr10_22_21 (fun hHeld2 => ?_)
  case hSr10_22_21 => (first | exact ⟨c0, c1, c2, c3, c4, d0, d1, d2, d3, d4, hb0⟩ | (obtain ⟨s0, s1, s2, s3, s4, t0, t1, t2, t3, t4, s5⟩ := hHeld; exact ⟨cell_later hb s0, cell_later hb s1, cell_later hb s2, cell_later hb s3, cell_later hb s4, cell_later hb t0, cell_later hb t1, cell_later hb t2, cell_later hb t3, cell_later hb t4, below_step s5 hb⟩))
  clear hK K hHeld
  have hHeld := hHeld2
  clear hHeld2
  (try simp only [Act.put, nz1, nz2, nz3])
  refine tk 22 ⟨some 4, .assign (.tmp 26), 3, _, _, _⟩ hHeld ?_
  (try simp only [Act.put, nz1, nz2, nz3])
  refine wpAnyH_done (by kernel_rfl) ?_ _
  (go_wp2; go_ret; exact ⟨rfl, hHeld.2.2.2.2.2.2.2.2.2.2⟩)
end Go.Proofs.Ytbekocknfpekoaa
namespace Go.Proofs.Ytbekocknfpekoaa
set_option linter.unusedVariables false
set_option linter.unusedSimpArgs false
open Go.RowKit
theorem neq_key (a0 a1 a2 a3 : Int) (a4 : ByteArray) (b0 b1 b2 b3 : Int) (b4 : ByteArray) (w : World) : (binOp .neq 30 (.agg #[.int .i64 a0, .int .i64 a1, .int .u64 a2, .int .u64 a3, .string a4]) (.agg #[.int .i64 b0, .int .i64 b1, .int .u64 b2, .int .u64 b3, .string b4])).run Try.prog w = .ok (.bool (!eqK a0 a1 a2 a3 a4 b0 b1 b2 b3 b4)) w := by
  unfold eqK
  by_cases h4 : a4 = b4
  · by_cases h0 : a0 = b0 <;> by_cases h1 : a1 = b1 <;> by_cases h2 : a2 = b2 <;> by_cases h3 : a3 = b3 <;> simp [go_sem, h0, h1, h2, h3, h4]
  · have h5 := ba_ne h4
    by_cases h0 : a0 = b0 <;> by_cases h1 : a1 = b1 <;> by_cases h2 : a2 = b2 <;> by_cases h3 : a3 = b3 <;> simp [go_sem, h0, h1, h2, h3, h4, h5]
theorem eqK_self (a0 a1 a2 a3 : Int) (a4 : ByteArray) : eqK a0 a1 a2 a3 a4 a0 a1 a2 a3 a4 = true := by unfold eqK; simp
end Go.Proofs.Ytbekocknfpekoaa
namespace Go.Proofs.Ytbekocknfpekoaa
set_option linter.unusedVariables false
set_option linter.unusedSimpArgs false
open Go.ChangeShapes Go.WideShapes Go.ChangeAt Go.RowKit Go.Joins Go.Deep
theorem cellsKey : Try.prog.cellsOf 30 = 5 := by kernel_rfl
theorem cellsDim : Try.prog.cellsOf 23 = 3 := by kernel_rfl
structure Ke.okL (k : Ke) : Prop where
  h : Word k.h
  l : Word k.l
  k0 : -9223372036854775808 ≤ k.kind
  k1 : k.kind ≤ 9223372036854775807
  n0 : -9223372036854775808 ≤ k.len
  n1 : k.len ≤ 9223372036854775807
section
variable {H : Type} {enc : TypeId × Value → H} {W : World} {base : Nat} {sp : Nat → Bool} {held : Bool}
theorem field_at {fs : Array Field} {t : TypeId} {fuel : Nat} {cs : List Value} {x : DataW H × List MemPlace} (hs : Try.prog.underlying t = some (.struct fs)) (hone : oneCellFields Try.prog fs = true)
    (hf : DataW.trod enc Try.prog W base sp held fuel t cs = some x) (i : Nat) (f : Field) (v : Value) (hi : fs[i]? = some f) (hv : cs[i]? = some v) : ∃ n y, DataW.trod enc Try.prog W base sp held n f.type [v] = some y ∧ ∃ ys : List (DataW H), x.1 = .agg ys ∧ ys.length = fs.size ∧ ys[i]? = some y.1 := by
  obtain ⟨xs, n, _, hx, _, hlen, hg⟩ := DataW.trod_struct hs hf
  obtain ⟨ho, hk⟩ := hone_of hone i f hi
  have h := hg i f hi
  have hil : i < fs.size := (Array.getElem?_eq_some_iff.1 hi).1
  rw [ho, hk, List.getElem?_eq_getElem (by omega)] at h
  have hc : (cs.drop i).take 1 = [v] := by
    obtain ⟨hlt, rfl⟩ := List.getElem?_eq_some_iff.1 hv
    rw [List.drop_eq_getElem_cons hlt]; rfl
  rw [hc] at h
  exact ⟨n, _, h, xs.map (·.1), by rw [hx], by simp [hlen], by rw [List.getElem?_map, List.getElem?_eq_getElem (by omega)]; rfl⟩
structure Dm where
  kind : Int
  side : Int
  step : Int
  deriving DecidableEq
def dv (d : Dm) : Value := .agg #[.int .i64 d.kind, .int .i64 d.side, .int .i64 d.step]
structure Dm.ok (d : Dm) : Prop where
  k0 : -9223372036854775808 ≤ d.kind
  k1 : d.kind ≤ 9223372036854775807
  s0 : -9223372036854775808 ≤ d.side
  s1 : d.side ≤ 9223372036854775807
  t0 : -9223372036854775808 ≤ d.step
  t1 : d.step ≤ 9223372036854775807
end
end Go.Proofs.Ytbekocknfpekoaa
namespace Go.Proofs.Ytbekocknfpekoaa
set_option linter.unusedVariables false
set_option linter.unusedSimpArgs false
open Go.RowKit
def fourK (a : Int) : Ke := ⟨1, 32, hi (a * 2 ^ 96), lo (a * 2 ^ 96), []⟩
def sixK (h l : Int) : Ke := ⟨2, 128, h, l, []⟩
def rootK (kind : Int) : Ke := if wid kind = 0 then kz else ⟨kind, 0, 0, 0, []⟩
def pathE (p : List UInt8) : Int := if rightB p = true then 0 else 3
def pathR (p : List UInt8) : Ke := if rightB p = true then pathK p else kz
theorem kfour_t (a : Int) (h0 : 0 ≤ a) (h1 : a < 4294967296) (w : World) : Calls Try.prog 60 #[.int .u32 a] w fun e w' => e = .returned (kv (fourK a)) ∧ Below w.heap.size w w' := by
  have ha : Word a := by unfold Word; omega
  have HO := of_any a
  have HL := left_any 0 a 96 (by unfold Word; omega) ha
  have ew : wv 0 a = a := by unfold wv; omega
  rw [ew] at HL
  have e2 : (2 : Int) ^ (96 : Int).toNat = 2 ^ 96 := rfl
  rw [e2] at HL
  unfold kv fourK
  dsimp only
  generalize hi (a * 2 ^ 96) = H at *
  generalize lo (a * 2 ^ 96) = L at *
  have HB := ofBits_t 1 32 H L
  have wr : IntKind.u64.wrap a = a := by rw [IntKind.wrap_u64]; omega
  have hb0 : Below w.heap.size w (w.alloc (.cells #[.int .i64 0, .int .i64 0, .int .u64 0, .int .u64 0, .string ⟨#[]⟩] 30)) := (by repeat (first | exact Below.refl _ _ | assumption | (with_reducible refine Below.setCell ?_ ?h _; case h => first | omega | (simp; done) | (simp; omega)) | (with_reducible refine Below.alloc ?_ ?h _; case h => first | omega | (simp; done) | (simp; omega)) | (with_reducible refine Below.drew ?_) | (with_reducible refine Below.trans ?_ (hb4.mono ?h); case h => first | omega | (simp; done) | (simp; omega)) | (with_reducible refine Below.trans ?_ (hb3.mono ?h); case h => first | omega | (simp; done) | (simp; omega)) | (with_reducible refine Below.trans ?_ (hb2.mono ?h); case h => first | omega | (simp; done) | (simp; omega)) | (with_reducible refine Below.trans ?_ (hb.mono ?h); case h => first | omega | (simp; done) | (simp; omega)) | (with_reducible refine Below.trans ?_ (hb0.mono ?h); case h => first | omega | (simp; done) | (simp; omega))))
  have R := Row.new w #[.int .i64 0, .int .i64 0, .int .u64 0, .int .u64 0, .string ⟨#[]⟩] 30
  go_enter Try.func60, Try.ntmps60
  go_wp2_with fail
  refine (HO _).mono ?_
  rintro e w1 ⟨rfl, hb⟩
  replace R := R.later hb
  replace hb0 := below_step hb0 hb
  clear hb HO
  go_wp2_with fail
  refine (HL _).mono ?_
  rintro e w2 ⟨rfl, hb⟩
  replace R := R.later hb
  replace hb0 := below_step hb0 hb
  clear hb HL
  go_wp2_with fail
  refine (HB _).mono ?_
  rintro e w3 ⟨rfl, hb⟩
  replace R := R.later hb
  replace hb0 := below_step hb0 hb
  clear hb HB
  have c0 := ((R).cell 0).trans (show _ = some (Value.int .i64 0) from rfl)
  have cf0 := (R).frozen 0
  have c1 := ((R).cell 1).trans (show _ = some (Value.int .i64 0) from rfl)
  have cf1 := (R).frozen 1
  have c2 := ((R).cell 2).trans (show _ = some (Value.int .u64 0) from rfl)
  have cf2 := (R).frozen 2
  have c3 := ((R).cell 3).trans (show _ = some (Value.int .u64 0) from rfl)
  have cf3 := (R).frozen 3
  have c4 := ((R).cell 4).trans (show _ = some (Value.string ⟨#[]⟩) from rfl)
  have cf4 := (R).frozen 4
  clear R
  go_wp2
  refine bodyPost_ret (v := .agg #[.int .i64 1, .int .i64 32, .int .u64 H, .int .u64 L, .string ⟨#[]⟩]) (by simp [results, Try.results60, go_sem, c0, c1, c2, c3, c4]) rfl ⟨rfl, bset5 hb0 (Nat.le_refl _) _ _ _ _ _⟩
theorem kroot_t (k : Int) (w : World) : Calls Try.prog 56 #[.int .i64 k] w fun e w' => e = .returned (kv (rootK k)) ∧ Below w.heap.size w w' := by
  have HW := width_t k
  unfold rootK
  generalize wid k = d at *
  have hb0 : Below w.heap.size w (w.alloc (.cells #[.int .i64 0, .int .i64 0, .int .u64 0, .int .u64 0, .string ⟨#[]⟩] 30)) := (by repeat (first | exact Below.refl _ _ | assumption | (with_reducible refine Below.setCell ?_ ?h _; case h => first | omega | (simp; done) | (simp; omega)) | (with_reducible refine Below.alloc ?_ ?h _; case h => first | omega | (simp; done) | (simp; omega)) | (with_reducible refine Below.drew ?_) | (with_reducible refine Below.trans ?_ (hb4.mono ?h); case h => first | omega | (simp; done) | (simp; omega)) | (with_reducible refine Below.trans ?_ (hb3.mono ?h); case h => first | omega | (simp; done) | (simp; omega)) | (with_reducible refine Below.trans ?_ (hb2.mono ?h); case h => first | omega | (simp; done) | (simp; omega)) | (with_reducible refine Below.trans ?_ (hb.mono ?h); case h => first | omega | (simp; done) | (simp; omega)) | (with_reducible refine Below.trans ?_ (hb0.mono ?h); case h => first | omega | (simp; done) | (simp; omega))))
  have R := Row.new w #[.int .i64 0, .int .i64 0, .int .u64 0, .int .u64 0, .string ⟨#[]⟩] 30
  by_cases h : d = 0
  · subst h
    rw [if_pos rfl]
    unfold kv kz
    dsimp only
    go_enter Try.func56, Try.ntmps56
    go_wp2_with fail
    refine (HW _).mono ?_
    rintro e w1 ⟨rfl, hb⟩
    replace R := R.later hb
    replace hb0 := below_step hb0 hb
    clear hb HW
    have c0 := ((R).cell 0).trans (show _ = some (Value.int .i64 0) from rfl)
    have cf0 := (R).frozen 0
    have c1 := ((R).cell 1).trans (show _ = some (Value.int .i64 0) from rfl)
    have cf1 := (R).frozen 1
    have c2 := ((R).cell 2).trans (show _ = some (Value.int .u64 0) from rfl)
    have cf2 := (R).frozen 2
    have c3 := ((R).cell 3).trans (show _ = some (Value.int .u64 0) from rfl)
    have cf3 := (R).frozen 3
    have c4 := ((R).cell 4).trans (show _ = some (Value.string ⟨#[]⟩) from rfl)
    have cf4 := (R).frozen 4
    clear R
    go_wp2
    refine bodyPost_ret (v := .agg #[.int .i64 0, .int .i64 0, .int .u64 0, .int .u64 0, .string ⟨#[]⟩]) (by simp [results, Try.results56, go_sem, c0, c1, c2, c3, c4]) rfl ⟨rfl, bset5 hb0 (by omega) _ _ _ _ _⟩
  · rw [if_neg h]
    have h' : (d == 0) = false := by simpa using h
    unfold kv
    dsimp only
    go_enter Try.func56, Try.ntmps56
    go_wp2_with fail
    refine (HW _).mono ?_
    rintro e w1 ⟨rfl, hb⟩
    replace R := R.later hb
    replace hb0 := below_step hb0 hb
    clear hb HW
    have c0 := ((R).cell 0).trans (show _ = some (Value.int .i64 0) from rfl)
    have cf0 := (R).frozen 0
    have c1 := ((R).cell 1).trans (show _ = some (Value.int .i64 0) from rfl)
    have cf1 := (R).frozen 1
    have c2 := ((R).cell 2).trans (show _ = some (Value.int .u64 0) from rfl)
    have cf2 := (R).frozen 2
    have c3 := ((R).cell 3).trans (show _ = some (Value.int .u64 0) from rfl)
    have cf3 := (R).frozen 3
    have c4 := ((R).cell 4).trans (show _ = some (Value.string ⟨#[]⟩) from rfl)
    have cf4 := (R).frozen 4
    clear R
    go_wp2
    refine bodyPost_ret (v := .agg #[.int .i64 k, .int .i64 0, .int .u64 0, .int .u64 0, .string ⟨#[]⟩]) (by simp [results, Try.results56, go_sem, c0, c1, c2, c3, c4]) rfl ⟨rfl, bset5 hb0 (by omega) _ _ _ _ _⟩
end Go.Proofs.Ytbekocknfpekoaa
namespace Go.Proofs.Ytbekocknfpekoaa
set_option linter.unusedVariables false
set_option linter.unusedSimpArgs false
open Go.RowKit
theorem rwidth_t (k : Int) (w : World) : Calls Try.prog 81 #[.int .i64 k] w fun e w' => e = .returned (.int .i64 (wid k)) ∧ Below w.heap.size w w' := by
  by_cases h1 : k = 1
  · subst h1
    go_enter Try.func81, Try.ntmps81
    go_wp2
    go_ret
    exact ⟨rfl, bw⟩
  by_cases h2 : k = 2
  · subst h2
    go_enter Try.func81, Try.ntmps81
    go_wp2
    go_ret
    exact ⟨rfl, bw⟩
  by_cases h3 : k = 3
  · subst h3
    go_enter Try.func81, Try.ntmps81
    go_wp2
    go_ret
    exact ⟨rfl, bw⟩
  have e : wid k = 0 := by unfold wid; rw [if_neg h1, if_neg h2, if_neg h3]
  rw [e]
  have b1 : (k == 1) = false := by simpa using h1
  have b2 : (k == 2) = false := by simpa using h2
  have b3 : (k == 3) = false := by simpa using h3
  go_enter Try.func81, Try.ntmps81
  go_wp2
  go_ret
  exact ⟨rfl, bw⟩
def bit01 (b : Bool) : Int := if b = true then 1 else 0
theorem bit_hi {h l : Int} (hh : Word h) (hl : Word l) {j : Nat} (hj : j < 64) : h / 2 ^ (63 - j) % 2 = bit01 (bitI (wv h l) j) := by
  rw [bit_def _ j (by omega)]
  have e : wv h l / 2 ^ (127 - j) = h / 2 ^ (63 - j) := by
    unfold wv Word at *
    have e1 : (2 : Int) ^ (127 - j) = 18446744073709551616 * 2 ^ (63 - j) := by
      rw [show (18446744073709551616 : Int) = 2 ^ 64 from rfl, ← Int.pow_add]; congr 1; omega
    rw [e1, ← Int.ediv_ediv_of_nonneg (by decide)]
    congr 1
    omega
  rw [e]
  unfold bit01
  generalize h / 2 ^ (63 - j) = y
  by_cases hy : y % 2 = 1
  · simp [hy]
  · rw [if_neg (by simpa using hy)]; omega
theorem bit_lo {h l : Int} (hh : Word h) (hl : Word l) {j : Nat} (h64 : 64 ≤ j) (hj : j < 128) : l / 2 ^ (127 - j) % 2 = bit01 (bitI (wv h l) j) := by
  rw [bit_def _ j hj]
  have e1 : (18446744073709551616 : Int) = 2 ^ (j - 63) * 2 ^ (127 - j) := by
    rw [show (18446744073709551616 : Int) = 2 ^ 64 from rfl, ← Int.pow_add]; congr 1; omega
  have e : wv h l / 2 ^ (127 - j) = h * 2 ^ (j - 63) + l / 2 ^ (127 - j) := by
    unfold wv
    rw [e1, ← Int.mul_assoc, Int.add_comm, Int.add_mul_ediv_right _ _ (pow2_ne _)]; omega
  have e2 : (2 : Int) ^ (j - 63) = 2 * 2 ^ (j - 64) := by rw [← Int.pow_succ']; congr 1; omega
  rw [e, e2]
  unfold bit01
  generalize l / 2 ^ (127 - j) = y
  generalize (2 : Int) ^ (j - 64) = z
  rw [show h * (2 * z) = 2 * (h * z) by rw [Int.mul_left_comm]]
  generalize h * z = t
  by_cases hy : y % 2 = 1
  · rw [hy, if_pos (by simp; omega)]
  · rw [if_neg (by simp; omega)]; omega
end Go.Proofs.Ytbekocknfpekoaa
namespace Go.Proofs.Ytbekocknfpekoaa
set_option linter.unusedVariables false
set_option linter.unusedSimpArgs false
open Go.RowKit
theorem word_div_nn {h : Int} (hh : Word h) (n : Nat) : 0 ≤ h / 2 ^ n := Int.ediv_nonneg hh.1 (Int.le_of_lt (Int.pow_pos (by decide)))
theorem rbit_t (h l : Int) (hh : Word h) (hl : Word l) (j : Nat) (hj : j < 128) (w : World) : Calls Try.prog 105 #[.int .u64 h, .int .u64 l, .int .i64 j] w fun e w' => e = .returned (.int .u64 (bit01 (bitI (wv h l) j))) ∧ Below w.heap.size w w' := by
  by_cases h64 : j < 64
  · have H := Lib.hid (bit_hi hh hl h64)
    have nn := word_div_nn hh (63 - j)
    have e1 : ((63 : Int) - (j : Int)).toNat = 63 - j := by omega
    have b1 := hh.1
    have b2 := hh.2
    have e2 : IntKind.u64.wrap (63 - (j : Int)) = 63 - (j : Int) := by rw [IntKind.wrap_u64]; omega
    clear hh hl
    go_enter Try.func105, Try.ntmps105
    go_wp2
    go_ret
    exact ⟨ret_int (by rw [← H.out]), bw⟩
  · have H := Lib.hid (bit_lo hh hl (by omega) hj)
    have nn := word_div_nn hl (127 - j)
    have e1 : ((127 : Int) - (j : Int)).toNat = 127 - j := by omega
    have b1 := hl.1
    have b2 := hl.2
    have e2 : IntKind.u64.wrap (127 - (j : Int)) = 127 - (j : Int) := by rw [IntKind.wrap_u64]; omega
    clear hh hl
    go_enter Try.func105, Try.ntmps105
    go_wp2
    go_ret
    exact ⟨ret_int (by rw [← H.out]), bw⟩
end Go.Proofs.Ytbekocknfpekoaa
namespace Go.Proofs.Ytbekocknfpekoaa
set_option linter.unusedVariables false
set_option linter.unusedSimpArgs false
open Go.RowKit
def valsS (ls : List (List UInt8)) : List Value := ls.map fun x => Value.string ⟨x.toArray⟩
theorem valsS_length (ls : List (List UInt8)) : (valsS ls).length = ls.length := by simp [valsS]
theorem valsS_one (ls : List (List UInt8)) : ∀ x ∈ valsS ls, x.oneCell' = true := by
  intro x hx
  unfold valsS at hx
  obtain ⟨a, _, rfl⟩ := List.mem_map.1 hx
  rfl
def OwnS (base : Nat) (w : World) (v : Value) (ls : List (List UInt8)) : Prop := w.ownsRow base 9 1 v ls.length (valsS ls)
theorem OwnS.later {base : Nat} {w w' : World} {v : Value} {l : List (List UInt8)} (h : OwnS base w v l) (hb : Below w.heap.size w w') : OwnS base w' v l := by
  obtain ⟨hl, h⟩ := h
  refine ⟨hl, ?_⟩
  rcases h with h | ⟨g, cap, cur, hv, hbs, hg, h1⟩
  · exact .inl h
  · exact .inr ⟨g, cap, cur, hv, hbs, (Row.later (t := 9) hg hb), h1⟩
theorem OwnS.block {base : Nat} {w : World} {v : Value} {l : List (List UInt8)} (h : OwnS base w v l) (g : Nat) (hg : v.ownBlock = some g) : base ≤ g ∧ g < w.heap.size := by
  rcases h.2 with ⟨rfl, _⟩ | ⟨g', cap, cur, rfl, hbs, hr, _⟩
  · cases hg
  · have : g' = g := by simpa [Value.ownBlock] using hg
    subst this
    exact ⟨hbs, Row.lt (t := 9) hr⟩
theorem OwnS.nil (base : Nat) (w : World) : OwnS base w (.slice none 0 0) [] := ⟨rfl, .inl ⟨rfl, rfl⟩⟩
theorem OwnS.read {base : Nat} {w : World} {v : Value} {l : List (List UInt8)} (h : OwnS base w v l) : SS w v l := by
  obtain ⟨hl, h⟩ := h
  rcases h with ⟨rfl, h0⟩ | ⟨g, cap, cur, rfl, hb, hg, h1, h2, h3, h4⟩
  · exact ⟨none, 0, by rw [h0], by omega, fun h => by omega⟩
  · refine ⟨_, cap, rfl, by omega, fun _ => ⟨g, 0, rfl, Row.lt (t := 9) hg, fun j x hx => ?_⟩⟩
    rw [Nat.zero_add, cell_of_row w g j cur _ _ hg, ← Array.getElem?_toList]
    have hj : j < l.length := by rw [List.getElem?_eq_some_iff] at hx; exact hx.1
    have : (valsS l)[j]? = some (.string ⟨x.toArray⟩) := by unfold valsS; rw [List.getElem?_map, hx]; rfl
    rw [← h4, List.getElem?_take, if_pos (by omega)] at this
    exact this
theorem infoS : ∃ i, Try.prog.info? 9 = some i ∧ i.zero = some (.string ⟨#[]⟩) ∧ i.size = 1 ∧ i.bytes = 16 := by
  have h1 : (Try.prog.info? 9).bind (·.zero) = some (.string ⟨#[]⟩) := by kernel_rfl
  have h2 : (Try.prog.info? 9).map (·.size) = some 1 := by kernel_rfl
  have h3 : (Try.prog.info? 9).map (·.bytes) = some 16 := by kernel_rfl
  cases hq : Try.prog.info? 9 with
  | none => rw [hq] at h2; cases h2
  | some i =>
    rw [hq] at h1 h2 h3
    exact ⟨i, rfl, by simpa using h1, by simpa using h2, by simpa using h3⟩
theorem appS_run {base : Nat} {w : World} {v : Value} {l m : List (List UInt8)} (ty : TypeId) (ho : OwnS base w v l) (gs c : Nat) (hsrc : ∀ (j : Nat) x, m[j]? = some x → w.cell? ⟨gs, j, none⟩ = some (.string ⟨x.toArray⟩)) (hl : l.length + m.length ≤ 2147483647) (hbase : base ≤ w.heap.size) :
    ∃ v' w', (Builtin.append_ #[107, 107] ty #[v, .slice (some ⟨gs, 0, none⟩) m.length c]).run Try.prog w = .ok v' w' ∧ OwnS base w' v' (l ++ m) ∧ w.grownBy w' v.ownBlock := by
  obtain ⟨i, i1, i2, i3, i4⟩ := infoS
  have hs : ∀ j u, (valsS m)[j]? = some u → w.cell? ((⟨gs, 0, none⟩ : Addr).add j) = some u := by
    intro j u hu
    unfold valsS at hu
    rw [List.getElem?_map, Option.map_eq_some_iff] at hu
    obtain ⟨x, hx, rfl⟩ := hu
    rw [Addr.add_mid, Nat.zero_add]
    exact hsrc j x hx
  obtain ⟨v', w', hr, k1, k2, _, k4⟩ := run_append_own_at (P := Try.prog) w base 107 ty 9 i (.string ⟨#[]⟩) 1 16 Try.underlying107 i1 i2 i3 i4 rfl (by decide) v l.length (valsS l) ho ⟨gs, 0, none⟩ m.length c (valsS m) (by rw [valsS_length, Nat.mul_one]) hs (valsS_one m) (by unfold maxLen; omega) (by omega) hbase
  refine ⟨v', w', hr, ?_, k2⟩
  have hbm : valsS (l ++ m) = valsS l ++ valsS m := by unfold valsS; rw [List.map_append]
  unfold OwnS
  rw [List.length_append, hbm]
  exact k1
theorem appS_one {base : Nat} {w0 w : World} {v : Value} {l : List (List UInt8)} (x : List UInt8) (ho : OwnS base w v l) (hB : Below base w0 w) (hl : l.length ≤ 2147483600) (hbase : base ≤ w.heap.size) :
    ∃ v' w', (Builtin.append_ #[107, 107] 107 #[v, .slice (some ⟨w.heap.size, 0, none⟩) 1 1]).run Try.prog (w.alloc (.cells #[.string ⟨x.toArray⟩] 9)) = .ok v' w' ∧ OwnS base w' v' (l ++ [x]) ∧ Below base w0 w' := by
  have R1 := Row.new w #[.string ⟨x.toArray⟩] 9
  have hbn : Below w.heap.size w (w.alloc (.cells #[.string ⟨x.toArray⟩] 9)) := (Below.refl _ _).alloc (Nat.le_refl _) _
  obtain ⟨v', w2, hrun, hown, hgrow⟩ := appS_run (m := [x]) 107 (ho.later hbn) w.heap.size 1 (fun j y hy => by
    rcases j with _ | j
    · cases hy; exact (R1.cell 0).trans rfl
    · simp at hy) (by simp; omega) (Nat.le_trans hbase hbn.size)
  exact ⟨v', w2, hrun, hown, (hB.trans (hbn.mono hbase)).grown hgrow (Nat.le_trans hbase hbn.size) (fun k hk => ((ho.later hbn).block _ hk).1)⟩
theorem wp_appS {P : Program} {w w' : World} {o : Oper} {a : Act} {K : Act → World → Prop} {Q : Exit → Act → World → Prop} (s x : Operand) (t : TypeId) {v bv v' : Value}
    (ho : o.op = .call { callee := .builtin .append, args := #[s, x], argTypes := #[t, t] }) (hs : a.eval s = v) (hx : a.eval x = bv)
    (hr : (Builtin.append_ #[t, t] o.type #[v, bv]).run P w = .ok v' w') (h : K (a.put o.dst v') w') : o.wp P a w K Q := by
  unfold Oper.wp execOp
  simp only [ho, resolve, invoke, builtin, Sem.run_bind, Sem.run_pure, Result.andThen_ok, List.map_toArray, List.map_cons, List.map_nil, hs, hx, hr]
  exact h
theorem wpList_appS {P : Program} {w w' : World} {ops : Array Oper} {rest : List Oper} {o : Oper} {a : Act} {Q : Exit → Act → World → Prop} (hg : o.guard = none) (s x : Operand) (t : TypeId) (hop : o.op = .call { callee := .builtin .append, args := #[s, x], argTypes := #[t, t] })
    {v bv v' : Value} (hs : a.eval s = v) (hx : a.eval x = bv) (hr : (Builtin.append_ #[t, t] o.type #[v, bv]).run P w = .ok v' w') (hK : wpList P ops Q rest (a.put o.dst v') w') : wpList P ops Q (o :: rest) a w := by
  refine wpList_plain hg fun K hK' => ?_
  exact wp_appS s x t hop hs hx hr (hK' _ _ hK)
/-! the reference's IsLabel -/
theorem memB_bad {l : List UInt8} {j : Nat} (hj : j < l.length) (h : memB l[j] = false) : labB l = false := labB_bad hj (.inr h)
theorem rIsLabel_t (l : List UInt8) (hl : l.length ≤ 140737488355328) (w : World) : Calls Try.prog 111 #[.string ⟨l.toArray⟩] w fun e w' => e = .returned (.bool (labB l)) ∧ w = w' := by
  have hsz := bs_size l
  go_enter Try.func111, Try.ntmps111
  go_wp2_with fail
  go_loopw [3] (fun i wr => ∃ (j : Nat), j ≤ l.length ∧ i = .int .i64 j ∧ Hid (∀ i (hi : i < j) (hl : i < l.length), memB l[i] = true) ∧ wr = w) (fun i _ => l.length - (intOf i).toNat)
  case atStart => exact ⟨0, by omega, rfl, Lib.hid (fun i hi => by omega), rfl⟩
  case round =>
    obtain ⟨j, hj, rfl, hm, rfl⟩ := hrel
    by_cases hlt : j < l.length
    · obtain ⟨c, hlj⟩ : ∃ c, l[j] = c := ⟨_, rfl⟩
      have hsp : j < (⟨l.toArray⟩ : ByteArray).size := by rw [hsz]; exact hlt
      have hch : (⟨l.toArray⟩ : ByteArray)[j]'hsp = c := hlj
      have hcn : c.toNat < 256 := c.toNat_lt
      have HT := Lib.hid (show memB c = true → ∀ i (hi : i < j + 1) (hl : i < l.length), memB l[i] = true from fun hmb i hi hl => by
          by_cases e : i = j
          · subst e; rw [hlj]; exact hmb
          · exact hm.out i (by omega) hl)
      have HF := Lib.hid (show memB c = false → labB l = false from fun h => memB_bad hlt (by rw [hlj]; exact h))
      clear hm hlj
      have hcase : (97 ≤ c.toNat ∧ c.toNat ≤ 122) ∨ (48 ≤ c.toNat ∧ c.toNat ≤ 57) ∨ c.toNat = 95 ∨ (122 < c.toNat) ∨ (c.toNat < 48) ∨ (57 < c.toNat ∧ c.toNat < 97 ∧ c.toNat ≠ 95) := by omega
      have hmb : memB c = ((decide (97 ≤ c.toNat) && decide (c.toNat ≤ 122)) || (decide (48 ≤ c.toNat) && decide (c.toNat ≤ 57)) || decide (c.toNat = 95)) := rfl
      rcases hcase with ⟨h1, h2⟩ | ⟨h1, h2⟩ | h1 | h1 | h1 | ⟨h1, h2, h3⟩
      · have HN := Lib.hid (HT.out (by rw [hmb]; simp [h1, h2]))
        have h1' : (97 : Int) ≤ c.toNat := by omega
        have h2' : (c.toNat : Int) ≤ 122 := by omega
        clear HT HF hmb
        go_wp2
        exact ⟨⟨j + 1, by omega, by go_num, HN, trivial⟩, by simp [intOf]; omega⟩
      · have HN := Lib.hid (HT.out (by rw [hmb]; simp [h1, h2]))
        have h1' : (48 : Int) ≤ c.toNat := by omega
        have h2' : (c.toNat : Int) ≤ 57 := by omega
        have h3' : ¬ (97 : Int) ≤ c.toNat := by omega
        clear HT HF hmb
        go_wp2
        exact ⟨⟨j + 1, by omega, by go_num, HN, trivial⟩, by simp [intOf]; omega⟩
      · have HN := Lib.hid (HT.out (by rw [hmb]; simp [h1]))
        have h3' : ¬ (97 : Int) ≤ c.toNat := by omega
        have h4' : (48 : Int) ≤ c.toNat := by omega
        have h5' : ¬ (c.toNat : Int) ≤ 57 := by omega
        have h6' : ((c.toNat : Int) == 95) = true := by simp; omega
        have h7' : (c.toNat : Int) = 95 := by omega
        clear HT HF hmb
        go_wp2
        exact ⟨⟨j + 1, by omega, by go_num, HN, trivial⟩, by simp [intOf]; omega⟩
      · have HB := Lib.hid (HF.out (by rw [hmb]; simp <;> omega))
        have h3' : (97 : Int) ≤ c.toNat := by omega
        have h4' : ¬ (c.toNat : Int) ≤ 122 := by omega
        have h5' : (48 : Int) ≤ c.toNat := by omega
        have h6' : ¬ (c.toNat : Int) ≤ 57 := by omega
        have h7' : ((c.toNat : Int) == 95) = false := by simp; omega
        have h8' : ¬ (c.toNat : Int) = 95 := by omega
        clear HT HF hmb
        go_wp2
        go_ret
        exact ⟨by rw [HB.out]; rfl, rfl⟩
      · have HB := Lib.hid (HF.out (by rw [hmb]; simp <;> omega))
        have h3' : ¬ (97 : Int) ≤ c.toNat := by omega
        have h5' : ¬ (48 : Int) ≤ c.toNat := by omega
        have h7' : ((c.toNat : Int) == 95) = false := by simp; omega
        have h8' : ¬ (c.toNat : Int) = 95 := by omega
        clear HT HF hmb
        go_wp2
        go_ret
        exact ⟨by rw [HB.out]; rfl, rfl⟩
      · have HB := Lib.hid (HF.out (by rw [hmb]; simp <;> omega))
        have h3' : ¬ (97 : Int) ≤ c.toNat := by omega
        have h5' : (48 : Int) ≤ c.toNat := by omega
        have h6' : ¬ (c.toNat : Int) ≤ 57 := by omega
        have h7' : ((c.toNat : Int) == 95) = false := by simp; omega
        have h8' : ¬ (c.toNat : Int) = 95 := by omega
        clear HT HF hmb
        go_wp2
        go_ret
        exact ⟨by rw [HB.out]; rfl, rfl⟩
    · have hjl : j = l.length := by omega
      have hall : l.all memB = true := by rw [List.all_eq_true]; intro x hx; obtain ⟨i, hi, rfl⟩ := List.getElem_of_mem hx; exact hm.out i (by omega) hi
      have HB : Hid (labB l = (decide (0 < (l.length : Int)) && decide ((l.length : Int) < 17))) := Lib.hid (by
        unfold labB; rw [hall, Bool.eq_iff_iff]; simp
        constructor
        · rintro ⟨a, b⟩; exact ⟨List.length_pos_iff.2 a, by omega⟩
        · rintro ⟨a, b⟩; exact ⟨List.length_pos_iff.1 a, by omega⟩)
      clear hm hall
      subst hjl
      by_cases h0 : l = []
      · subst h0
        go_wp2
        go_ret
        exact ⟨by rw [HB.out]; rfl, rfl⟩
      · have hpos : (0 : Int) < (l.length : Int) := by have := List.length_pos_iff.2 h0; omega
        have hie : l.isEmpty = false := by cases l <;> simp_all
        go_wp2
        go_ret
        exact ⟨by rw [HB.out]; simp [h0]; intro _; omega, rfl⟩
end Go.Proofs.Ytbekocknfpekoaa
namespace Go.Proofs.Ytbekocknfpekoaa
set_option linter.unusedVariables false
set_option linter.unusedSimpArgs false
open Go.RowKit
theorem take_drop_succ (l : List UInt8) (fr j : Nat) (h : fr ≤ j) (hj : j < l.length) : (l.take (j + 1)).drop fr = (l.take j).drop fr ++ [l[j]] := by
  rw [List.take_add_one, List.getElem?_eq_getElem hj, List.drop_append_of_le_length (by simp; omega)]
  rfl
theorem drop_split (l : List UInt8) (fr j : Nat) (h : fr ≤ j) (hj : j < l.length) : l.drop fr = (l.take j).drop fr ++ l[j] :: l.drop (j + 1) := by
  have h1 : l.drop fr = (l.take j ++ l.drop j).drop fr := by rw [List.take_append_drop]
  rw [h1, List.drop_append_of_le_length (by simp; omega), List.drop_eq_getElem_cons hj]
def SpInv (l : List UInt8) (fr j : Nat) (vs : List (List UInt8)) : Prop :=
  (∀ x ∈ vs, labB x = true) ∧ ((fr ≤ j ∧ j ≤ l.length ∧ (46 : UInt8) ∉ (l.take j).drop fr ∧ splitD l = vs ++ splitD (l.drop fr)) ∨ (j = l.length + 1 ∧ splitD l = vs))
theorem SpInv.next {l : List UInt8} {fr j : Nat} {vs : List (List UInt8)} (h : SpInv l fr j vs) (hj : j < l.length) (hc : l[j] ≠ 46) : SpInv l fr (j + 1) vs := by
  refine ⟨h.1, ?_⟩
  rcases h.2 with ⟨h1, h2, h3, h4⟩ | ⟨h1, _⟩
  · refine .inl ⟨by omega, by omega, ?_, h4⟩
    rw [take_drop_succ l fr j h1 hj]
    intro hm
    rcases List.mem_append.1 hm with hm | hm
    · exact h3 hm
    · simp at hm; exact hc hm.symm
  · omega
def PartDo (l : List UInt8) (fr j : Nat) (vs : List (List UInt8)) (p : List UInt8) : Prop := fr ≤ j ∧ (labB p = true → vs.length < 8 → SpInv l (j + 1) (j + 1) (vs ++ [p])) ∧ (labB p = false ∨ 8 ≤ vs.length → rightB l = false)
theorem rb_false {l : List UInt8} (h0 : l ≠ []) {vs rest : List (List UInt8)} {p : List UInt8} (h : splitD l = vs ++ p :: rest) (hb : labB p = false ∨ 8 ≤ vs.length) : rightB l = false := by
  unfold rightB partsL
  rw [if_neg h0, h]
  rcases hb with hb | hb
  · simp [hb]
  · have : ¬ (vs ++ p :: rest).length ≤ 8 := by simp; omega
    simp only [this]; simp
theorem SpInv.part {l : List UInt8} {fr j : Nat} {vs : List (List UInt8)} (h0 : l ≠ []) (h : SpInv l fr j vs) (hj : j < l.length) (hc : l[j] = 46) : PartDo l fr j vs ((l.take j).drop fr) := by
  rcases h.2 with ⟨h1, h2, h3, h4⟩ | ⟨h1, _⟩
  · have hs : splitD (l.drop fr) = (l.take j).drop fr :: splitD (l.drop (j + 1)) := by rw [drop_split l fr j h1 hj, hc, splitD_at _ _ h3]
    rw [hs] at h4
    refine ⟨h1, fun hl h8 => ⟨?_, .inl ⟨Nat.le_refl _, by omega, ?_, ?_⟩⟩, fun hb => rb_false h0 h4 hb⟩
    · intro x hx
      rcases List.mem_append.1 hx with hx | hx
      · exact h.1 x hx
      · simp at hx; rw [hx]; exact hl
    · rw [List.drop_eq_nil_of_le (by rw [List.length_take]; omega)]; simp
    · rw [h4]; simp
  · omega
theorem SpInv.last {l : List UInt8} {fr : Nat} {vs : List (List UInt8)} (h0 : l ≠ []) (h : SpInv l fr l.length vs) : PartDo l fr l.length vs ((l.take l.length).drop fr) := by
  rcases h.2 with ⟨h1, h2, h3, h4⟩ | ⟨h1, _⟩
  · rw [List.take_length] at h3 ⊢
    rw [splitD_no _ h3] at h4
    refine ⟨h1, fun hl h8 => ⟨?_, .inr ⟨rfl, h4⟩⟩, fun hb => rb_false h0 h4 hb⟩
    intro x hx
    rcases List.mem_append.1 hx with hx | hx
    · exact h.1 x hx
    · simp at hx; rw [hx]; exact hl
  · omega
theorem SpInv.done {l : List UInt8} {fr : Nat} {vs : List (List UInt8)} (h0 : l ≠ []) (h : SpInv l fr (l.length + 1) vs) (h8 : vs.length ≤ 8) : rightB l = true ∧ labsL l = vs := by
  rcases h.2 with ⟨_, h2, _⟩ | ⟨_, h4⟩
  · omega
  · have hr : rightB l = true := by
      unfold rightB partsL
      rw [if_neg h0, h4]
      simp [h8]; exact h.1
    exact ⟨hr, by unfold labsL partsL; rw [if_pos hr, if_neg h0, h4]⟩
theorem SpInv.zero (l : List UInt8) : SpInv l 0 0 [] := ⟨by simp, .inl ⟨Nat.le_refl _, by omega, by simp, by simp⟩⟩
def RSplitPost (l : List UInt8) (w : World) (e : Ending) (w' : World) : Prop := ∃ v, e = .returned (.tuple #[v, .bool (rightB l)]) ∧ SS w' v (labsL l) ∧ Below w.heap.size w w'
theorem RSplit_bad {l : List UInt8} {w w' : World} (h : rightB l = false) (hb : Below w.heap.size w w') : RSplitPost l w (.returned (.tuple #[.slice none 0 0, .bool false])) w' := by
  refine ⟨_, by rw [h], ?_, hb⟩
  have : labsL l = [] := by unfold labsL; rw [h]; simp
  rw [this]; exact SS.nil _
set_option maxRecDepth 100000 in
theorem rSplit_t (l : List UInt8) (hl : l.length ≤ 140737488355328) (w : World) : Calls Try.prog 104 #[.string ⟨l.toArray⟩] w (RSplitPost l w) := by
  have hsz := bs_size l
  by_cases h0 : l = []
  · subst h0
    have hP : RSplitPost [] w (.returned (.tuple #[.slice none 0 0, .bool true])) w := ⟨_, rfl, SS.nil _, Below.refl _ _⟩
    have HP := Lib.hid hP
    clear hP
    go_enter Try.func104, Try.ntmps104
    go_wp2_with fail
    go_loopw [4, 5, 6] (fun o f i wr => o = .slice none 0 0 ∧ f = .int .i64 0 ∧ i = .int .i64 0 ∧ wr = w) (fun _ _ _ _ => 0)
    case atStart => exact ⟨rfl, rfl, rfl, rfl⟩
    case round =>
      obtain ⟨rfl, rfl, rfl, rfl⟩ := hrel
      go_wp2
      exact bodyPost_ret (v := .tuple #[.slice none 0 0, .bool true]) (by simp [results, Try.results104, go_sem]) rfl HP.out
  · have hpos : 0 < l.length := List.length_pos_iff.2 h0
    have hpos' : (0 : Int) < (l.length : Int) := by omega
    have hie : l.isEmpty = false := by cases l <;> simp_all
    have HI0 := Lib.hid (SpInv.zero l)
    have HBAD := Lib.hid (show ∀ w', rightB l = false → Below w.heap.size w w' → RSplitPost l w (.returned (.tuple #[.slice none 0 0, .bool false])) w' from fun _ h hb => RSplit_bad h hb)
    have HEND : Hid (∀ fr vs v wr, SpInv l fr (l.length + 1) vs → vs.length ≤ 8 → OwnS w.heap.size wr v vs → Below w.heap.size w wr → RSplitPost l w (.returned (.tuple #[v, .bool true])) wr) := Lib.hid fun fr vs v wr hI h8 hO hB => by
      obtain ⟨hr, hls⟩ := hI.done h0 h8
      refine ⟨v, by rw [hr], ?_, hB⟩
      rw [hls]; exact hO.read
    have HP := Lib.hid (fun fr j vs => @SpInv.part l fr j vs h0)
    have HL := Lib.hid (fun fr vs => @SpInv.last l fr vs h0)
    clear h0
    go_enter Try.func104, Try.ntmps104
    go_wp2_with fail
    go_loopw [4, 5, 6] (fun o f i wr => ∃ (fr j : Nat) (vs : List (List UInt8)) (po : Option Addr) (co : Nat), o = .slice po vs.length co ∧ f = .int .i64 (fr : Nat) ∧ i = .int .i64 (j : Nat) ∧ j ≤ l.length + 1 ∧ vs.length ≤ 8 ∧ Hid (SpInv l fr j vs) ∧ Hid (OwnS w.heap.size wr (.slice po vs.length co) vs) ∧ Hid (Below w.heap.size w wr)) (fun _ _ i _ => l.length + 1 - (intOf i).toNat)
    case atStart => exact ⟨0, 0, [], none, 0, rfl, rfl, rfl, by omega, by simp, HI0, Lib.hid (OwnS.nil _ _), Lib.hid (Below.refl _ _)⟩
    case round =>
      clear HI0
      obtain ⟨fr, j, vs, po, co, rfl, rfl, rfl, hj1, hv8, hI, hO, hB⟩ := hrel
      by_cases hj2 : j = l.length + 1
      · subst hj2
        have HE := Lib.hid (HEND.out fr vs _ wr hI.out hv8 hO.out hB.out)
        have hle' : ¬ ((l.length : Int) + 1) ≤ (l.length : Int) := by omega
        clear hI HEND HBAD HP HL
        go_wp2
        exact bodyPost_ret (v := .tuple #[.slice po vs.length co, .bool true]) (by simp [results, Try.results104, go_sem]) rfl HE.out
      have hle' : (j : Int) ≤ (l.length : Int) := by omega
      have hmain : (∃ c, c ≠ 46 ∧ ∃ h : j < l.length, l[j] = c) ∨ (PartDo l fr j vs ((l.take j).drop fr) ∧ ((∃ h : j < l.length, l[j] = 46) ∨ j = l.length)) := by
        by_cases hlt : j < l.length
        · by_cases hc : l[j] = 46
          · exact .inr ⟨HP.out fr j vs hI.out hlt hc, .inl ⟨hlt, hc⟩⟩
          · exact .inl ⟨_, hc, hlt, rfl⟩
        · have : j = l.length := by omega
          subst this
          exact .inr ⟨HL.out fr vs hI.out, .inr rfl⟩
      rcases hmain with ⟨c, hc, hlt, hlj⟩ | ⟨⟨hfj, hsome, hnone⟩, hw⟩
      · have HN := Lib.hid (hI.out.next hlt (by rw [hlj]; exact hc))
        have hsp : j < (⟨l.toArray⟩ : ByteArray).size := by rw [hsz]; exact hlt
        have hch : (⟨l.toArray⟩ : ByteArray)[j]'hsp = c := hlj
        have hc46 : ¬ (c.toNat : Int) = 46 := fun e => hc (by apply UInt8.toNat_inj.1; show c.toNat = 46; omega)
        have hc46' : ((c.toNat : Int) == 46) = false := by simpa using hc46
        have hlt' : (j : Int) < (l.length : Int) := by omega
        clear hI HEND HBAD HP HL hlj
        go_wp2
        exact ⟨⟨fr, j + 1, vs, po, co, rfl, rfl, by go_num, by omega, hv8, HN, hO, hB⟩, by simp [intOf]; omega⟩
      · have hpl : ((l.take j).drop fr).length ≤ 140737488355328 := by simp; omega
        have hG := rIsLabel_t ((l.take j).drop fr) hpl wr
        have hext := ext_l l fr j
        have hfj' : (fr : Int) ≤ (j : Int) := by omega
        have HS := Lib.hid hsome
        have HN := Lib.hid hnone
        have HG := Lib.hid hG
        clear hsome hnone hG hpl HP HL hI
        generalize (l.take j).drop fr = p at *
        have hw' : (∃ hsp : j < (⟨l.toArray⟩ : ByteArray).size, (⟨l.toArray⟩ : ByteArray)[j]'hsp = 46 ∧ (j : Int) < (l.length : Int)) ∨ j = l.length := by
          rcases hw with ⟨hlt, hlj⟩ | h
          · exact .inl ⟨by rw [hsz]; exact hlt, hlj, by omega⟩
          · exact .inr h
        clear hw
        rcases hw' with ⟨hsp, hch, hlt'⟩ | hjl
        all_goals
          try subst hjl
          go_wp2_with fail
          refine HG.out.mono ?_
          rintro e w1 ⟨rfl, rfl⟩
          cases hlb : labB p with
          | false =>
            have HE := Lib.hid (HBAD.out _ (HN.out (.inl hlb)) hB.out)
            clear HBAD HN HS HEND HG hlb
            go_wp2
            exact bodyPost_ret (v := .tuple #[.slice none 0 0, .bool false]) (by simp [results, Try.results104, go_sem]) rfl HE.out
          | true =>
            by_cases h8 : 8 ≤ vs.length
            · have HE := Lib.hid (HBAD.out _ (HN.out (.inr h8)) hB.out)
              have h8' : (8 : Int) ≤ (vs.length : Int) := by omega
              clear HBAD HN HS HEND HG hlb
              go_wp2
              exact bodyPost_ret (v := .tuple #[.slice none 0 0, .bool false]) (by simp [results, Try.results104, go_sem]) rfl HE.out
            · have HI := Lib.hid (HS.out hlb (by omega))
              have h8' : ¬ (8 : Int) ≤ (vs.length : Int) := by omega
              obtain ⟨v', w2, hrun, hown, hb2⟩ := appS_one p hO.out hB.out (by omega) hB.out.size
              obtain ⟨pv, cv, rfl, _, _⟩ := hown.read
              have HOW := Lib.hid hown
              have HB2 := Lib.hid hb2
              have HRUN := Lib.hid hrun
              clear HBAD HN HS HEND HG hlb hrun hown hb2
              have tok : True := trivial
              go_wp2_with (have _t := tok; at_builtin; refine wpList_appS rfl (.tmp 39) (.tmp 44) 107 rfl rfl rfl HRUN.out ?_; clear tok HRUN)
              refine ⟨⟨_, _, vs ++ [p], pv, cv, by simp, by go_num, by go_num, by omega, by simp; omega, HI, HOW, HB2⟩, ?_⟩
              simp [intOf] <;> omega
end Go.Proofs.Ytbekocknfpekoaa
namespace Go.Proofs.Ytbekocknfpekoaa
set_option linter.unusedVariables false
set_option linter.unusedSimpArgs false
open Go.RowKit
theorem app_ll (a b : List UInt8) : (⟨a.toArray⟩ : ByteArray) ++ ⟨b.toArray⟩ = ⟨(a ++ b).toArray⟩ := by
  apply ByteArray.ext
  simp
theorem dot_l (a : List UInt8) : (⟨a.toArray⟩ : ByteArray) ++ ⟨#[46]⟩ = ⟨(a ++ [46]).toArray⟩ := app_ll a [46]
theorem jn_take_succ {ls : List (List UInt8)} {j : Nat} {x : List UInt8} (hx : ls[j]? = some x) (hj : 0 < j) : jn (ls.take (j + 1)) = jn (ls.take j) ++ [46] ++ x := by
  have hl : j < ls.length := by rw [List.getElem?_eq_some_iff] at hx; exact hx.1
  rw [List.take_add_one, hx, jn_app (ls.take j) _ (by intro e; rw [List.take_eq_nil_iff] at e; rcases e with e | e; omega; rw [e] at hl; simp at hl) (by simp)]
  show _ ++ 46 :: jn [x] = _
  rw [jn_one]; simp
theorem jn_take_one {ls : List (List UInt8)} {x : List UInt8} (hx : ls[0]? = some x) : jn (ls.take 1) = x := by
  rw [List.take_add_one, hx]; exact jn_one x
set_option maxRecDepth 100000 in
theorem rJoin_t (v : Value) (ls : List (List UInt8)) (h8 : ls.length ≤ 8) (hsl : ∀ x ∈ ls, x.length ≤ 16) (w : World) (hS : SS w v ls) : Calls Try.prog 99 #[v] w fun e w' => e = .returned (.string ⟨(jn ls).toArray⟩) ∧ w = w' := by
  obtain ⟨p, c, rfl, hc, hp⟩ := hS
  have HP := Lib.hid hp
  clear hp
  have hjl : ∀ j, (jn (ls.take j)).length ≤ 17 * 8 := fun j => by
    have := jn_bound (ls.take j) (fun x hx => hsl x (List.mem_of_mem_take hx))
    rw [List.length_take] at this; omega
  have HJL := Lib.hid hjl
  clear hjl
  go_enter Try.func99, Try.ntmps99
  go_wp2_with fail
  go_loopw [3, 4] (fun o i wr => ∃ (j : Nat), j ≤ ls.length ∧ i = .int .i64 (j : Nat) ∧ o = .string ⟨(jn (ls.take j)).toArray⟩ ∧ wr = w) (fun _ i _ => ls.length - (intOf i).toNat)
  case atStart => exact ⟨0, by omega, rfl, rfl, rfl⟩
  case round =>
    obtain ⟨j, hj, rfl, rfl, rfl⟩ := hrel
    by_cases hlt : j < ls.length
    · obtain ⟨g, o, rfl, hg, hC⟩ := HP.out (by omega)
      obtain ⟨x, hx⟩ : ∃ x, ls[j]? = some x := ⟨_, List.getElem?_eq_getElem hlt⟩
      have cA := hC j x hx
      have hxl := hsl x (List.mem_of_getElem? hx)
      have hji : (j : Int) < (ls.length : Int) := by omega
      have hjb := HJL.out j
      clear hC hsl HP HJL
      rcases Nat.eq_zero_or_pos j with h0 | h0
      · subst h0
        have HN := Lib.hid (jn_take_one hx)
        have e0 : jn (ls.take 0) = [] := rfl
        have happ : (⟨#[]⟩ : ByteArray) ++ ⟨x.toArray⟩ = ⟨x.toArray⟩ := app_ll [] x
        rw [e0]
        rw [Nat.add_zero] at cA
        clear hx e0 hjb
        go_wp2
        exact ⟨⟨1, by omega, by go_num, by rw [HN.out], trivial⟩, by simp [intOf]; omega⟩
      · have HN := Lib.hid (jn_take_succ hx h0)
        have h0' : (0 : Int) < (j : Int) := by omega
        generalize jn (ls.take j) = t at *
        have a1 := dot_l t
        have a2 := app_ll (t ++ [46]) x
        have s1 : ¬ 9223372036854775807 < t.length + 1 := by omega
        have s2 : ¬ 9223372036854775807 < t.length + 1 + x.length := by omega
        clear hx
        go_wp2
        exact ⟨⟨j + 1, by omega, by go_num, by rw [HN.out]; simp, trivial⟩, by simp [intOf]; omega⟩
    · have hjl : j = ls.length := by omega
      subst hjl
      rw [List.take_length]
      go_wp2
      go_ret
      exact ⟨rfl, rfl⟩
end Go.Proofs.Ytbekocknfpekoaa
namespace Go.Proofs.Ytbekocknfpekoaa
set_option linter.unusedVariables false
set_option linter.unusedSimpArgs false
open Go.RowKit
theorem one_row (w : World) (a : Array Value) (t : TypeId) : Row (w.alloc (.cells a t)) w.heap.size a t ∧ Below w.heap.size w (w.alloc (.cells a t)) := ⟨Row.new _ _ _, (by repeat (first | exact Below.refl _ _ | assumption | (with_reducible refine Below.setCell ?_ ?h _; case h => first | omega | (simp; done) | (simp; omega)) | (with_reducible refine Below.alloc ?_ ?h _; case h => first | omega | (simp; done) | (simp; omega)) | (with_reducible refine Below.drew ?_) | (with_reducible refine Below.trans ?_ (hb4.mono ?h); case h => first | omega | (simp; done) | (simp; omega)) | (with_reducible refine Below.trans ?_ (hb3.mono ?h); case h => first | omega | (simp; done) | (simp; omega)) | (with_reducible refine Below.trans ?_ (hb2.mono ?h); case h => first | omega | (simp; done) | (simp; omega)) | (with_reducible refine Below.trans ?_ (hb.mono ?h); case h => first | omega | (simp; done) | (simp; omega)) | (with_reducible refine Below.trans ?_ (hb0.mono ?h); case h => first | omega | (simp; done) | (simp; omega))))⟩
def letR (k : Ke) : List (List UInt8) := if rightK k = true then letK k else []
def LetPost (k : Ke) (w : World) (e : Ending) (w' : World) : Prop := ∃ v, e = .returned (.tuple #[v, .bool (rightK k)]) ∧ SS w' v (letR k) ∧ Below w.heap.size w w'
theorem letPost_bad {k : Ke} {w w' : World} (h : rightK k = false) (hb : Below w.heap.size w w') : LetPost k w (.returned (.tuple #[.slice none 0 0, .bool false])) w' :=
  ⟨_, by rw [h], by unfold letR; rw [h]; exact SS.nil _, hb⟩
theorem letPost_ok {k : Ke} {w w' : World} {v : Value} (h : rightK k = true) (hs : SS w' v (letK k)) (hb : Below w.heap.size w w') : LetPost k w (.returned (.tuple #[v, .bool true])) w' :=
  ⟨v, by rw [h], by unfold letR; rw [h]; exact hs, hb⟩
theorem right3 (k : Ke) (hk : k.kind = 3) : rightK k = (rightB k.path && (decide (((labsL k.path).length : Int) = k.len) && (decide (k.h = 0) && decide (k.l = 0)))) := by
  obtain ⟨a, b, c, d, p⟩ := k
  dsimp only at hk
  subst hk
  unfold rightK pathK
  rw [if_neg (by simp), if_pos rfl, Bool.eq_iff_iff]
  simp only [Bool.and_eq_true, decide_eq_true_eq, Ke.mk.injEq, true_and, and_true]
  constructor
  · rintro ⟨h1, h2, h3, h4⟩; exact ⟨h1, h2.symm, h3, h4⟩
  · rintro ⟨h1, h2, h3, h4⟩; exact ⟨h1, h2.symm, h3, h4⟩
theorem right_adr (k : Ke) (h3 : ¬ k.kind = 3) : rightK k = true → wid k.kind ≠ 0 ∧ 0 ≤ k.len ∧ k.len ≤ wid k.kind ∧ k.path = [] := by
  intro h
  rcases right_kind h with hk | hk
  · have A := adr_of_right h hk
    exact ⟨by unfold wid; rcases A.kind with e | e <;> rw [e] <;> decide, A.lo, A.up, A.path⟩
  · exact absurd hk h3
def lets (A : Int) (n j : Nat) : List (List UInt8) := (List.range (min j n)).map fun i : Nat => bitS (bitI A i)
theorem lets_len (A : Int) (n j : Nat) : (lets A n j).length = min j n := by unfold lets; simp
theorem lets_more {A : Int} {n j : Nat} (h : j < n) : lets A n (j + 1) = lets A n j ++ [bitS (bitI A j)] := by
  unfold lets
  rw [show min (j + 1) n = min j n + 1 by omega, List.range_succ, List.map_append, show min j n = j by omega]
  rfl
theorem lets_stay {A : Int} {n j : Nat} (h : n ≤ j) : lets A n (j + 1) = lets A n j := by
  unfold lets
  rw [show min (j + 1) n = min j n by omega]
theorem adr_bits {k : Ke} {n : Nat} (hk : k.kind = 1 ∨ k.kind = 2) (hl : k.len = (n : Nat)) (hu : k.len ≤ wid k.kind) (hp : k.path = []) (hh : Word k.h) (hl2 : Word k.l) (hz : ∀ t : Nat, n ≤ t → t < 128 → bitI k.num t = false) : rightK k = true ∧ letK k = lets k.num n 128 := by
  have hw := (wid_range k.kind).2
  have hr := num_range hh hl2
  have A : Adr k := by
    refine ⟨hk, by omega, hu, hp, hh, hl2, ?_⟩
    have r := tp_range (n := k.len.toNat) hr.1 hr.2
    refine num_eq_of_bits hr.1 hr.2 r.1 (by omega) fun j hj => ?_
    rw [tp_bit _ _ j (by omega) hj]
    by_cases h : j < k.len.toNat
    · rw [if_pos h]
    · rw [if_neg h]; exact hz j (by omega) hj
  refine ⟨right_of_adr A, ?_⟩
  rw [letK_adr A]
  unfold lets
  rw [show min 128 n = k.len.toNat by omega]
theorem adr_bit_bad {k : Ke} {n t : Nat} (h3 : ¬ k.kind = 3) (hl : k.len = (n : Nat)) (ht : n ≤ t) (ht2 : t < 128) (hb : bitI k.num t = true) : rightK k = false := by
  cases h : rightK k with
  | false => rfl
  | true =>
    exfalso
    rcases right_kind h with hk | hk
    · have A := adr_of_right h hk
      have := A.len
      rw [A.num, tp_bit _ _ t (by omega) ht2, if_neg (by omega)] at hb
      cases hb
    · exact h3 hk
set_option maxRecDepth 100000 in
theorem letters_path (k : Ke) (hk : k.kind = 3) (hp : k.path.length ≤ 140737488355328) (w : World) : Calls Try.prog 98 #[kv k] w (LetPost k w) := by
  have hr := right3 k hk
  have HG := Lib.hid (fun (v : Value) (w' : World) (h : rightK k = true) (hs : SS w' v (letK k)) (hb : Below w.heap.size w w') => letPost_ok h hs hb)
  have HB := Lib.hid (fun (w' : World) (h : rightK k = false) (hb : Below w.heap.size w w') => letPost_bad h hb)
  have cs : ∀ w1, Calls Try.prog 104 #[.string ⟨k.path.toArray⟩] w1 fun e w' => ∃ v, e = .returned (.tuple #[v, .bool (rightB k.path)]) ∧ SS w' v (labsL k.path) ∧ Below w1.heap.size w1 w' := fun w1 => rSplit_t k.path hp w1
  have hlet : letK k = labsL k.path := by unfold letK; rw [if_pos hk]
  rw [hlet] at HG
  clear hlet
  obtain ⟨kd, len, h, l, p⟩ := k
  dsimp only at *
  subst hk
  generalize labsL p = ls at *
  generalize rightB p = rb at *
  generalize rightK ⟨3, len, h, l, p⟩ = rk at *
  generalize LetPost ⟨3, len, h, l, p⟩ w = PP at *
  replace hr := Lib.hid hr
  unfold kv
  dsimp only
  obtain ⟨RR0, hb0⟩ := one_row w #[.int .i64 3, .int .i64 len, .int .u64 h, .int .u64 l, .string ⟨p.toArray⟩] 30
  have c0 := (RR0.cell 0).trans (show _ = some (Value.int .i64 3) from rfl)
  have c1 := (RR0.cell 1).trans (show _ = some (Value.int .i64 len) from rfl)
  have c2 := (RR0.cell 2).trans (show _ = some (Value.int .u64 h) from rfl)
  have c3 := (RR0.cell 3).trans (show _ = some (Value.int .u64 l) from rfl)
  have c4 := (RR0.cell 4).trans (show _ = some (Value.string ⟨p.toArray⟩) from rfl)
  clear RR0
  cases rb with
  | false =>
    have HX := Lib.hid (fun w' => HB.out w' (by rw [hr.out]; rfl))
    clear HB HG hr
    go_enter Try.func98, Try.ntmps98
    go_wp2_with fail
    refine (cs _).mono ?_
    rintro e w1 ⟨v, rfl, hs, hb⟩
    obtain ⟨pp, cc, rfl, _, _⟩ := hs
    replace hb0 := below_step hb0 hb
    replace c1 := cell_later hb c1
    replace c2 := cell_later hb c2
    replace c3 := cell_later hb c3
    replace HX := Lib.hid (HX.out _ hb0)
    clear hb hb0 cs c0 c4
    go_wp2
    exact HX.out
  | true =>
    rw [Bool.true_and] at hr
    by_cases t1 : (ls.length : Int) = len ∧ h = 0 ∧ l = 0
    · obtain ⟨t1, rfl, rfl⟩ := t1
      have HX := Lib.hid (fun v w' => HG.out v w' (by rw [hr.out]; simp [t1]))
      subst t1
      clear HB HG hr
      go_enter Try.func98, Try.ntmps98
      go_wp2_with fail
      refine (cs _).mono ?_
      rintro e w1 ⟨v, rfl, hs, hb⟩
      replace hb0 := below_step hb0 hb
      replace c1 := cell_later hb c1
      replace c2 := cell_later hb c2
      replace c3 := cell_later hb c3
      replace HX := Lib.hid (HX.out _ _ hs hb0)
      obtain ⟨pp, cc, rfl, _, _⟩ := hs
      clear hb hb0 cs c0 c4
      go_wp2
      exact HX.out
    · have HX := Lib.hid (fun w' => HB.out w' (by
        rw [hr.out, Bool.eq_false_iff]
        intro e
        simp only [Bool.and_eq_true, decide_eq_true_eq] at e
        exact t1 e))
      have b1 : (¬ (ls.length : Int) = len) ∨ ((ls.length : Int) = len ∧ ¬ h = 0) ∨ ((ls.length : Int) = len ∧ h = 0 ∧ ¬ l = 0) := by omega
      clear HB HG hr t1
      rcases b1 with b1 | ⟨rfl, b1⟩ | ⟨rfl, rfl, b1⟩
      all_goals
        first
          | (have b2 : ((ls.length : Int) == len) = false := by simpa using b1)
          | (have b2 : (h == 0) = false := by simpa using b1)
          | (have b2 : (l == 0) = false := by simpa using b1)
        go_enter Try.func98, Try.ntmps98
        go_wp2_with fail
        refine (cs _).mono ?_
        rintro e w1 ⟨v, rfl, hs, hb⟩
        obtain ⟨pp, cc, rfl, _, _⟩ := hs
        replace hb0 := below_step hb0 hb
        replace c1 := cell_later hb c1
        replace c2 := cell_later hb c2
        replace c3 := cell_later hb c3
        replace HX := Lib.hid (HX.out _ hb0)
        clear hb hb0 cs c0 c4
        go_wp2
        exact HX.out
end Go.Proofs.Ytbekocknfpekoaa
namespace Go.Proofs.Ytbekocknfpekoaa
set_option linter.unusedVariables false
set_option linter.unusedSimpArgs false
open Go.RowKit
def rightD (d : Dm) : Bool := (decide (d.side = 1) || decide (d.side = 2)) && (decide (1 ≤ d.step) && decide (d.step ≤ wid d.kind))
def depthD (d : Dm) : Int := if rightD d = true then (wid d.kind + d.step - 1) / d.step else 0
def lenD (d : Dm) (l : Int) : Int := if rightD d = true ∧ 0 ≤ l ∧ l ≤ depthD d then max (wid d.kind - l * d.step) 0 else -1
theorem rightD_iff (d : Dm) : rightD d = true ↔ (d.side = 1 ∨ d.side = 2) ∧ 1 ≤ d.step ∧ d.step ≤ wid d.kind := by
  unfold rightD; simp
theorem depth_range {d : Dm} (h : rightD d = true) : 1 ≤ depthD d ∧ depthD d ≤ 128 ∧ wid d.kind ≤ depthD d * d.step ∧ (depthD d - 1) * d.step < wid d.kind := by
  obtain ⟨_, s1, s2⟩ := (rightD_iff d).1 h
  have hw := wid_range d.kind
  unfold depthD
  rw [if_pos h]
  generalize wid d.kind = W at *
  generalize d.step = s at *
  have hm := Int.mul_ediv_self_le (x := W + s - 1) (k := s) (by omega)
  have hl := Int.lt_mul_ediv_self_add (x := W + s - 1) (k := s) (by omega)
  generalize (W + s - 1) / s = q at *
  have e1 : s * q = q * s := Int.mul_comm _ _
  rw [e1] at hm hl
  have hq1 : 1 ≤ q := by
    by_cases h : q < 1
    · exfalso
      have : q * s ≤ 0 * s := Int.mul_le_mul_of_nonneg_right (by omega) (by omega)
      omega
    · omega
  have hq2 : q ≤ 128 := by
    by_cases h : 128 < q
    · exfalso
      have h1 : (129 : Int) * s ≤ q * s := Int.mul_le_mul_of_nonneg_right (by omega) (by omega)
      omega
    · omega
  refine ⟨hq1, hq2, by omega, ?_⟩
  rw [Int.sub_mul]; omega
set_option maxRecDepth 100000 in
theorem dright_t (d : Dm) (w : World) : Calls Try.prog 51 #[dv d] w fun e w' => e = .returned (.bool (rightD d)) ∧ Below w.heap.size w w' := by
  have HW := width_t d.kind
  have hd : rightD d = ((decide (d.side = 1) || decide (d.side = 2)) && (decide (1 ≤ d.step) && decide (d.step ≤ wid d.kind))) := rfl
  obtain ⟨kd, sd, st⟩ := d
  dsimp only at *
  generalize rightD ⟨kd, sd, st⟩ = r at *
  generalize wid kd = wd at *
  unfold dv
  dsimp only
  obtain ⟨RR0, hb0⟩ := one_row w #[.int .i64 kd, .int .i64 sd, .int .i64 st] 23
  have c0 := (RR0.cell 0).trans (show _ = some (Value.int .i64 kd) from rfl)
  have c1 := (RR0.cell 1).trans (show _ = some (Value.int .i64 sd) from rfl)
  have c2 := (RR0.cell 2).trans (show _ = some (Value.int .i64 st) from rfl)
  clear RR0
  by_cases s0 : sd = 1 ∨ sd = 2
  · have hd2 : r = (decide (1 ≤ st) && decide (st ≤ wd)) := by rw [hd]; rcases s0 with e | e <;> subst e <;> simp
    clear hd
    by_cases t1 : 1 ≤ st
    · by_cases t2 : st ≤ wd
      · have e : r = true := by rw [hd2]; simp [t1, t2]
        subst e
        clear hd2
        rcases s0 with rfl | rfl
        · go_enter Try.func51, Try.ntmps51
          go_wp2_with fail
          refine wp_region_held_drew (S := (fun w' => w'.cell? ⟨w.heap.size, 0, none⟩ = some (.int .i64 kd) ∧ w'.cell? ⟨w.heap.size, 1, none⟩ = some (.int .i64 1) ∧ w'.cell? ⟨w.heap.size, 2, none⟩ = some (.int .i64 st) ∧ Below w.heap.size w w')) (by kernel_rfl) ?hSr11_ (fun hHeld => ?_)
          case hSr11_ => (first | exact ⟨c0, c1, c2, hb0.drew⟩ | exact ⟨c0, c1, c2, hb0⟩ | (obtain ⟨c0, c1, c2, hb0⟩ := hHeld; exact ⟨cell_later hb c0, cell_later hb c1, cell_later hb c2, below_step hb0 hb⟩))
          refine tk 0 ⟨some 3, .fieldAddr 23 (.tmp 1) 1, 0, _, _, _⟩ hHeld ?_
          (try simp only [Act.put, nz1, nz2, nz3])
          refine tk 1 ⟨some 4, .load 3 (.tmp 3), 3, _, _, _⟩ hHeld ?_
          (try simp only [Act.put, nz1, nz2, nz3])
          refine tk 2 ⟨some 5, .binOp .eql 3 (.tmp 4) (.const (.int .i64 1)) 3, 4, _, _, _⟩ hHeld ?_
          (try simp only [Act.put, nz1, nz2, nz3])
          refine tk 3 ⟨some 6, .move (.tmp 5), 4, _, _, _⟩ hHeld ?_
          (try simp only [Act.put, nz1, nz2, nz3])
          refine ts 4 ⟨some 7, .fieldAddr 23 (.tmp 1) 1, 0, _, _, _⟩ hHeld ?_
          (try simp only [Act.put, nz1, nz2, nz3])
          refine ts 5 ⟨some 8, .load 3 (.tmp 7), 3, _, _, _⟩ hHeld ?_
          (try simp only [Act.put, nz1, nz2, nz3])
          refine ts 6 ⟨some 9, .binOp .eql 3 (.tmp 8) (.const (.int .i64 2)) 3, 4, _, _, _⟩ hHeld ?_
          (try simp only [Act.put, nz1, nz2, nz3])
          refine tk 7 ⟨some 10, .pick (.tmp 6) (.const (.bool true)) (.tmp 9), 4, _, _, _⟩ hHeld ?_
          (try simp only [Act.put, nz1, nz2, nz3])
          refine tk 8 ⟨some 11, .move (.tmp 10), 4, _, _, _⟩ hHeld ?_
          (try simp only [Act.put, nz1, nz2, nz3])
          refine tk 9 ⟨some 12, .fieldAddr 23 (.tmp 1) 2, 0, _, _, _⟩ hHeld ?_
          (try simp only [Act.put, nz1, nz2, nz3])
          refine tk 10 ⟨some 13, .load 3 (.tmp 12), 3, _, _, _⟩ hHeld ?_
          (try simp only [Act.put, nz1, nz2, nz3])
          refine tk 11 ⟨some 14, .binOp .geq 3 (.tmp 13) (.const (.int .i64 1)) 3, 4, _, _, _⟩ hHeld ?_
          (try simp only [Act.put, nz1, nz2, nz3])
          refine tk 12 ⟨some 15, .pick (.tmp 11) (.tmp 14) (.const (.bool false)), 4, _, _, _⟩ hHeld ?_
          (try simp only [Act.put, nz1, nz2, nz3])
          refine tk 13 ⟨some 16, .move (.tmp 15), 4, _, _, _⟩ hHeld ?_
          (try simp only [Act.put, nz1, nz2, nz3])
          refine tk 14 ⟨some 17, .fieldAddr 23 (.tmp 1) 2, 0, _, _, _⟩ hHeld ?_
          (try simp only [Act.put, nz1, nz2, nz3])
          refine tk 15 ⟨some 18, .load 3 (.tmp 17), 3, _, _, _⟩ hHeld ?_
          (try simp only [Act.put, nz1, nz2, nz3])
          refine tk 16 ⟨some 19, .fieldAddr 23 (.tmp 1) 0, 0, _, _, _⟩ hHeld ?_
          (try simp only [Act.put, nz1, nz2, nz3])
          refine tk 17 ⟨some 20, .load 3 (.tmp 19), 3, _, _, _⟩ hHeld ?_
          (try simp only [Act.put, nz1, nz2, nz3])
          refine wpAnyH_ready (rs := [18]) (by kernel_rfl) (by simp) ?_
          refine AllReadyH.cons (o := ⟨some 21, .call { callee := .value (.func 76), args := #[.tmp 20], argTypes := #[3] }, 3, _, _, _⟩) rfl (fun K hK => ?_) AllReadyH.nil
          (go_simp; (refine (HW _).mono ?_); (rintro e wn ⟨rfl, hb⟩); go_wp2_with fail)
          refine hK.out _ _ ?hSr11_19_18 (fun hHeld2 => ?_)
          case hSr11_19_18 => (first | exact ⟨c0, c1, c2, hb0.drew⟩ | exact ⟨c0, c1, c2, hb0⟩ | (obtain ⟨c0, c1, c2, hb0⟩ := hHeld; exact ⟨cell_later hb c0, cell_later hb c1, cell_later hb c2, below_step hb0 hb⟩))
          clear hK K hHeld
          have hHeld := hHeld2
          clear hHeld2
          (try simp only [Act.put, nz1, nz2, nz3])
          refine tk 19 ⟨some 22, .binOp .leq 3 (.tmp 18) (.tmp 21) 3, 4, _, _, _⟩ hHeld ?_
          (try simp only [Act.put, nz1, nz2, nz3])
          refine tk 20 ⟨some 23, .pick (.tmp 16) (.tmp 22) (.const (.bool false)), 4, _, _, _⟩ hHeld ?_
          (try simp only [Act.put, nz1, nz2, nz3])
          refine tk 21 ⟨some 2, .assign (.tmp 23), 4, _, _, _⟩ hHeld ?_
          (try simp only [Act.put, nz1, nz2, nz3])
          refine wpAnyH_done (by kernel_rfl) ?_ _
          clear c0 c1 c2 hb0
          obtain ⟨c0, c1, c2, hb0⟩ := hHeld
          go_wp2
          go_ret
          exact ⟨rfl, hb0⟩
        · go_enter Try.func51, Try.ntmps51
          go_wp2_with fail
          refine wp_region_held_drew (S := (fun w' => w'.cell? ⟨w.heap.size, 0, none⟩ = some (.int .i64 kd) ∧ w'.cell? ⟨w.heap.size, 1, none⟩ = some (.int .i64 2) ∧ w'.cell? ⟨w.heap.size, 2, none⟩ = some (.int .i64 st) ∧ Below w.heap.size w w')) (by kernel_rfl) ?hSr12_ (fun hHeld => ?_)
          case hSr12_ => (first | exact ⟨c0, c1, c2, hb0.drew⟩ | exact ⟨c0, c1, c2, hb0⟩ | (obtain ⟨c0, c1, c2, hb0⟩ := hHeld; exact ⟨cell_later hb c0, cell_later hb c1, cell_later hb c2, below_step hb0 hb⟩))
          refine tk 0 ⟨some 3, .fieldAddr 23 (.tmp 1) 1, 0, _, _, _⟩ hHeld ?_
          (try simp only [Act.put, nz1, nz2, nz3])
          refine tk 1 ⟨some 4, .load 3 (.tmp 3), 3, _, _, _⟩ hHeld ?_
          (try simp only [Act.put, nz1, nz2, nz3])
          refine tk 2 ⟨some 5, .binOp .eql 3 (.tmp 4) (.const (.int .i64 1)) 3, 4, _, _, _⟩ hHeld ?_
          (try simp only [Act.put, nz1, nz2, nz3])
          refine tk 3 ⟨some 6, .move (.tmp 5), 4, _, _, _⟩ hHeld ?_
          (try simp only [Act.put, nz1, nz2, nz3])
          refine tk 4 ⟨some 7, .fieldAddr 23 (.tmp 1) 1, 0, _, _, _⟩ hHeld ?_
          (try simp only [Act.put, nz1, nz2, nz3])
          refine tk 5 ⟨some 8, .load 3 (.tmp 7), 3, _, _, _⟩ hHeld ?_
          (try simp only [Act.put, nz1, nz2, nz3])
          refine tk 6 ⟨some 9, .binOp .eql 3 (.tmp 8) (.const (.int .i64 2)) 3, 4, _, _, _⟩ hHeld ?_
          (try simp only [Act.put, nz1, nz2, nz3])
          refine tk 7 ⟨some 10, .pick (.tmp 6) (.const (.bool true)) (.tmp 9), 4, _, _, _⟩ hHeld ?_
          (try simp only [Act.put, nz1, nz2, nz3])
          refine tk 8 ⟨some 11, .move (.tmp 10), 4, _, _, _⟩ hHeld ?_
          (try simp only [Act.put, nz1, nz2, nz3])
          refine tk 9 ⟨some 12, .fieldAddr 23 (.tmp 1) 2, 0, _, _, _⟩ hHeld ?_
          (try simp only [Act.put, nz1, nz2, nz3])
          refine tk 10 ⟨some 13, .load 3 (.tmp 12), 3, _, _, _⟩ hHeld ?_
          (try simp only [Act.put, nz1, nz2, nz3])
          refine tk 11 ⟨some 14, .binOp .geq 3 (.tmp 13) (.const (.int .i64 1)) 3, 4, _, _, _⟩ hHeld ?_
          (try simp only [Act.put, nz1, nz2, nz3])
          refine tk 12 ⟨some 15, .pick (.tmp 11) (.tmp 14) (.const (.bool false)), 4, _, _, _⟩ hHeld ?_
          (try simp only [Act.put, nz1, nz2, nz3])
          refine tk 13 ⟨some 16, .move (.tmp 15), 4, _, _, _⟩ hHeld ?_
          (try simp only [Act.put, nz1, nz2, nz3])
          refine tk 14 ⟨some 17, .fieldAddr 23 (.tmp 1) 2, 0, _, _, _⟩ hHeld ?_
          (try simp only [Act.put, nz1, nz2, nz3])
          refine tk 15 ⟨some 18, .load 3 (.tmp 17), 3, _, _, _⟩ hHeld ?_
          (try simp only [Act.put, nz1, nz2, nz3])
          refine tk 16 ⟨some 19, .fieldAddr 23 (.tmp 1) 0, 0, _, _, _⟩ hHeld ?_
          (try simp only [Act.put, nz1, nz2, nz3])
          refine tk 17 ⟨some 20, .load 3 (.tmp 19), 3, _, _, _⟩ hHeld ?_
          (try simp only [Act.put, nz1, nz2, nz3])
          refine wpAnyH_ready (rs := [18]) (by kernel_rfl) (by simp) ?_
          refine AllReadyH.cons (o := ⟨some 21, .call { callee := .value (.func 76), args := #[.tmp 20], argTypes := #[3] }, 3, _, _, _⟩) rfl (fun K hK => ?_) AllReadyH.nil
          (go_simp; (refine (HW _).mono ?_); (rintro e wn ⟨rfl, hb⟩); go_wp2_with fail)
          refine hK.out _ _ ?hSr12_19_18 (fun hHeld2 => ?_)
          case hSr12_19_18 => (first | exact ⟨c0, c1, c2, hb0.drew⟩ | exact ⟨c0, c1, c2, hb0⟩ | (obtain ⟨c0, c1, c2, hb0⟩ := hHeld; exact ⟨cell_later hb c0, cell_later hb c1, cell_later hb c2, below_step hb0 hb⟩))
          clear hK K hHeld
          have hHeld := hHeld2
          clear hHeld2
          (try simp only [Act.put, nz1, nz2, nz3])
          refine tk 19 ⟨some 22, .binOp .leq 3 (.tmp 18) (.tmp 21) 3, 4, _, _, _⟩ hHeld ?_
          (try simp only [Act.put, nz1, nz2, nz3])
          refine tk 20 ⟨some 23, .pick (.tmp 16) (.tmp 22) (.const (.bool false)), 4, _, _, _⟩ hHeld ?_
          (try simp only [Act.put, nz1, nz2, nz3])
          refine tk 21 ⟨some 2, .assign (.tmp 23), 4, _, _, _⟩ hHeld ?_
          (try simp only [Act.put, nz1, nz2, nz3])
          refine wpAnyH_done (by kernel_rfl) ?_ _
          clear c0 c1 c2 hb0
          obtain ⟨c0, c1, c2, hb0⟩ := hHeld
          go_wp2
          go_ret
          exact ⟨rfl, hb0⟩
      · have e : r = false := by rw [hd2]; simp [t2]
        have t2' : decide (st ≤ wd) = false := decide_eq_false t2
        subst e
        clear hd2
        rcases s0 with rfl | rfl
        · go_enter Try.func51, Try.ntmps51
          go_wp2_with fail
          refine wp_region_held_drew (S := (fun w' => w'.cell? ⟨w.heap.size, 0, none⟩ = some (.int .i64 kd) ∧ w'.cell? ⟨w.heap.size, 1, none⟩ = some (.int .i64 1) ∧ w'.cell? ⟨w.heap.size, 2, none⟩ = some (.int .i64 st) ∧ Below w.heap.size w w')) (by kernel_rfl) ?hSr13_ (fun hHeld => ?_)
          case hSr13_ => (first | exact ⟨c0, c1, c2, hb0.drew⟩ | exact ⟨c0, c1, c2, hb0⟩ | (obtain ⟨c0, c1, c2, hb0⟩ := hHeld; exact ⟨cell_later hb c0, cell_later hb c1, cell_later hb c2, below_step hb0 hb⟩))
          refine tk 0 ⟨some 3, .fieldAddr 23 (.tmp 1) 1, 0, _, _, _⟩ hHeld ?_
          (try simp only [Act.put, nz1, nz2, nz3])
          refine tk 1 ⟨some 4, .load 3 (.tmp 3), 3, _, _, _⟩ hHeld ?_
          (try simp only [Act.put, nz1, nz2, nz3])
          refine tk 2 ⟨some 5, .binOp .eql 3 (.tmp 4) (.const (.int .i64 1)) 3, 4, _, _, _⟩ hHeld ?_
          (try simp only [Act.put, nz1, nz2, nz3])
          refine tk 3 ⟨some 6, .move (.tmp 5), 4, _, _, _⟩ hHeld ?_
          (try simp only [Act.put, nz1, nz2, nz3])
          refine ts 4 ⟨some 7, .fieldAddr 23 (.tmp 1) 1, 0, _, _, _⟩ hHeld ?_
          (try simp only [Act.put, nz1, nz2, nz3])
          refine ts 5 ⟨some 8, .load 3 (.tmp 7), 3, _, _, _⟩ hHeld ?_
          (try simp only [Act.put, nz1, nz2, nz3])
          refine ts 6 ⟨some 9, .binOp .eql 3 (.tmp 8) (.const (.int .i64 2)) 3, 4, _, _, _⟩ hHeld ?_
          (try simp only [Act.put, nz1, nz2, nz3])
          refine tk 7 ⟨some 10, .pick (.tmp 6) (.const (.bool true)) (.tmp 9), 4, _, _, _⟩ hHeld ?_
          (try simp only [Act.put, nz1, nz2, nz3])
          refine tk 8 ⟨some 11, .move (.tmp 10), 4, _, _, _⟩ hHeld ?_
          (try simp only [Act.put, nz1, nz2, nz3])
          refine tk 9 ⟨some 12, .fieldAddr 23 (.tmp 1) 2, 0, _, _, _⟩ hHeld ?_
          (try simp only [Act.put, nz1, nz2, nz3])
          refine tk 10 ⟨some 13, .load 3 (.tmp 12), 3, _, _, _⟩ hHeld ?_
          (try simp only [Act.put, nz1, nz2, nz3])
          refine tk 11 ⟨some 14, .binOp .geq 3 (.tmp 13) (.const (.int .i64 1)) 3, 4, _, _, _⟩ hHeld ?_
          (try simp only [Act.put, nz1, nz2, nz3])
          refine tk 12 ⟨some 15, .pick (.tmp 11) (.tmp 14) (.const (.bool false)), 4, _, _, _⟩ hHeld ?_
          (try simp only [Act.put, nz1, nz2, nz3])
          refine tk 13 ⟨some 16, .move (.tmp 15), 4, _, _, _⟩ hHeld ?_
          (try simp only [Act.put, nz1, nz2, nz3])
          refine tk 14 ⟨some 17, .fieldAddr 23 (.tmp 1) 2, 0, _, _, _⟩ hHeld ?_
          (try simp only [Act.put, nz1, nz2, nz3])
          refine tk 15 ⟨some 18, .load 3 (.tmp 17), 3, _, _, _⟩ hHeld ?_
          (try simp only [Act.put, nz1, nz2, nz3])
          refine tk 16 ⟨some 19, .fieldAddr 23 (.tmp 1) 0, 0, _, _, _⟩ hHeld ?_
          (try simp only [Act.put, nz1, nz2, nz3])
          refine tk 17 ⟨some 20, .load 3 (.tmp 19), 3, _, _, _⟩ hHeld ?_
          (try simp only [Act.put, nz1, nz2, nz3])
          refine wpAnyH_ready (rs := [18]) (by kernel_rfl) (by simp) ?_
          refine AllReadyH.cons (o := ⟨some 21, .call { callee := .value (.func 76), args := #[.tmp 20], argTypes := #[3] }, 3, _, _, _⟩) rfl (fun K hK => ?_) AllReadyH.nil
          (go_simp; (refine (HW _).mono ?_); (rintro e wn ⟨rfl, hb⟩); go_wp2_with fail)
          refine hK.out _ _ ?hSr13_19_18 (fun hHeld2 => ?_)
          case hSr13_19_18 => (first | exact ⟨c0, c1, c2, hb0.drew⟩ | exact ⟨c0, c1, c2, hb0⟩ | (obtain ⟨c0, c1, c2, hb0⟩ := hHeld; exact ⟨cell_later hb c0, cell_later hb c1, cell_later hb c2, below_step hb0 hb⟩))
          clear hK K hHeld
          have hHeld := hHeld2
          clear hHeld2
          (try simp only [Act.put, nz1, nz2, nz3])
          refine tk 19 ⟨some 22, .binOp .leq 3 (.tmp 18) (.tmp 21) 3, 4, _, _, _⟩ hHeld ?_
          (try simp only [Act.put, nz1, nz2, nz3])
          refine tk 20 ⟨some 23, .pick (.tmp 16) (.tmp 22) (.const (.bool false)), 4, _, _, _⟩ hHeld ?_
          (try simp only [Act.put, nz1, nz2, nz3])
          refine tk 21 ⟨some 2, .assign (.tmp 23), 4, _, _, _⟩ hHeld ?_
          (try simp only [Act.put, nz1, nz2, nz3])
          refine wpAnyH_done (by kernel_rfl) ?_ _
          clear c0 c1 c2 hb0
          obtain ⟨c0, c1, c2, hb0⟩ := hHeld
          go_wp2
          go_ret
          exact ⟨rfl, hb0⟩
        · go_enter Try.func51, Try.ntmps51
          go_wp2_with fail
          refine wp_region_held_drew (S := (fun w' => w'.cell? ⟨w.heap.size, 0, none⟩ = some (.int .i64 kd) ∧ w'.cell? ⟨w.heap.size, 1, none⟩ = some (.int .i64 2) ∧ w'.cell? ⟨w.heap.size, 2, none⟩ = some (.int .i64 st) ∧ Below w.heap.size w w')) (by kernel_rfl) ?hSr14_ (fun hHeld => ?_)
          case hSr14_ => (first | exact ⟨c0, c1, c2, hb0.drew⟩ | exact ⟨c0, c1, c2, hb0⟩ | (obtain ⟨c0, c1, c2, hb0⟩ := hHeld; exact ⟨cell_later hb c0, cell_later hb c1, cell_later hb c2, below_step hb0 hb⟩))
          refine tk 0 ⟨some 3, .fieldAddr 23 (.tmp 1) 1, 0, _, _, _⟩ hHeld ?_
          (try simp only [Act.put, nz1, nz2, nz3])
          refine tk 1 ⟨some 4, .load 3 (.tmp 3), 3, _, _, _⟩ hHeld ?_
          (try simp only [Act.put, nz1, nz2, nz3])
          refine tk 2 ⟨some 5, .binOp .eql 3 (.tmp 4) (.const (.int .i64 1)) 3, 4, _, _, _⟩ hHeld ?_
          (try simp only [Act.put, nz1, nz2, nz3])
          refine tk 3 ⟨some 6, .move (.tmp 5), 4, _, _, _⟩ hHeld ?_
          (try simp only [Act.put, nz1, nz2, nz3])
          refine tk 4 ⟨some 7, .fieldAddr 23 (.tmp 1) 1, 0, _, _, _⟩ hHeld ?_
          (try simp only [Act.put, nz1, nz2, nz3])
          refine tk 5 ⟨some 8, .load 3 (.tmp 7), 3, _, _, _⟩ hHeld ?_
          (try simp only [Act.put, nz1, nz2, nz3])
          refine tk 6 ⟨some 9, .binOp .eql 3 (.tmp 8) (.const (.int .i64 2)) 3, 4, _, _, _⟩ hHeld ?_
          (try simp only [Act.put, nz1, nz2, nz3])
          refine tk 7 ⟨some 10, .pick (.tmp 6) (.const (.bool true)) (.tmp 9), 4, _, _, _⟩ hHeld ?_
          (try simp only [Act.put, nz1, nz2, nz3])
          refine tk 8 ⟨some 11, .move (.tmp 10), 4, _, _, _⟩ hHeld ?_
          (try simp only [Act.put, nz1, nz2, nz3])
          refine tk 9 ⟨some 12, .fieldAddr 23 (.tmp 1) 2, 0, _, _, _⟩ hHeld ?_
          (try simp only [Act.put, nz1, nz2, nz3])
          refine tk 10 ⟨some 13, .load 3 (.tmp 12), 3, _, _, _⟩ hHeld ?_
          (try simp only [Act.put, nz1, nz2, nz3])
          refine tk 11 ⟨some 14, .binOp .geq 3 (.tmp 13) (.const (.int .i64 1)) 3, 4, _, _, _⟩ hHeld ?_
          (try simp only [Act.put, nz1, nz2, nz3])
          refine tk 12 ⟨some 15, .pick (.tmp 11) (.tmp 14) (.const (.bool false)), 4, _, _, _⟩ hHeld ?_
          (try simp only [Act.put, nz1, nz2, nz3])
          refine tk 13 ⟨some 16, .move (.tmp 15), 4, _, _, _⟩ hHeld ?_
          (try simp only [Act.put, nz1, nz2, nz3])
          refine tk 14 ⟨some 17, .fieldAddr 23 (.tmp 1) 2, 0, _, _, _⟩ hHeld ?_
          (try simp only [Act.put, nz1, nz2, nz3])
          refine tk 15 ⟨some 18, .load 3 (.tmp 17), 3, _, _, _⟩ hHeld ?_
          (try simp only [Act.put, nz1, nz2, nz3])
          refine tk 16 ⟨some 19, .fieldAddr 23 (.tmp 1) 0, 0, _, _, _⟩ hHeld ?_
          (try simp only [Act.put, nz1, nz2, nz3])
          refine tk 17 ⟨some 20, .load 3 (.tmp 19), 3, _, _, _⟩ hHeld ?_
          (try simp only [Act.put, nz1, nz2, nz3])
          refine wpAnyH_ready (rs := [18]) (by kernel_rfl) (by simp) ?_
          refine AllReadyH.cons (o := ⟨some 21, .call { callee := .value (.func 76), args := #[.tmp 20], argTypes := #[3] }, 3, _, _, _⟩) rfl (fun K hK => ?_) AllReadyH.nil
          (go_simp; (refine (HW _).mono ?_); (rintro e wn ⟨rfl, hb⟩); go_wp2_with fail)
          refine hK.out _ _ ?hSr14_19_18 (fun hHeld2 => ?_)
          case hSr14_19_18 => (first | exact ⟨c0, c1, c2, hb0.drew⟩ | exact ⟨c0, c1, c2, hb0⟩ | (obtain ⟨c0, c1, c2, hb0⟩ := hHeld; exact ⟨cell_later hb c0, cell_later hb c1, cell_later hb c2, below_step hb0 hb⟩))
          clear hK K hHeld
          have hHeld := hHeld2
          clear hHeld2
          (try simp only [Act.put, nz1, nz2, nz3])
          refine tk 19 ⟨some 22, .binOp .leq 3 (.tmp 18) (.tmp 21) 3, 4, _, _, _⟩ hHeld ?_
          (try simp only [Act.put, nz1, nz2, nz3])
          refine tk 20 ⟨some 23, .pick (.tmp 16) (.tmp 22) (.const (.bool false)), 4, _, _, _⟩ hHeld ?_
          (try simp only [Act.put, nz1, nz2, nz3])
          refine tk 21 ⟨some 2, .assign (.tmp 23), 4, _, _, _⟩ hHeld ?_
          (try simp only [Act.put, nz1, nz2, nz3])
          refine wpAnyH_done (by kernel_rfl) ?_ _
          clear c0 c1 c2 hb0
          obtain ⟨c0, c1, c2, hb0⟩ := hHeld
          go_wp2
          go_ret
          exact ⟨rfl, hb0⟩
    · have e : r = false := by rw [hd2]; simp [t1]
      have t1' : decide (1 ≤ st) = false := decide_eq_false t1
      subst e
      clear hd2
      rcases s0 with rfl | rfl
      · go_enter Try.func51, Try.ntmps51
        go_wp2_with fail
        refine wp_region_held_drew (S := (fun w' => w'.cell? ⟨w.heap.size, 0, none⟩ = some (.int .i64 kd) ∧ w'.cell? ⟨w.heap.size, 1, none⟩ = some (.int .i64 1) ∧ w'.cell? ⟨w.heap.size, 2, none⟩ = some (.int .i64 st) ∧ Below w.heap.size w w')) (by kernel_rfl) ?hSr15_ (fun hHeld => ?_)
        case hSr15_ => (exact ⟨c0, c1, c2, hb0.drew⟩)
        (generalize World.drew _ = wn at *)
        refine tk 0 ⟨some 3, .fieldAddr 23 (.tmp 1) 1, 0, _, _, _⟩ hHeld ?_
        (try simp only [Act.put, nz1, nz2, nz3])
        refine tk 1 ⟨some 4, .load 3 (.tmp 3), 3, _, _, _⟩ hHeld ?_
        (try simp only [Act.put, nz1, nz2, nz3])
        refine tk 2 ⟨some 5, .binOp .eql 3 (.tmp 4) (.const (.int .i64 1)) 3, 4, _, _, _⟩ hHeld ?_
        (try simp only [Act.put, nz1, nz2, nz3])
        refine tk 3 ⟨some 6, .move (.tmp 5), 4, _, _, _⟩ hHeld ?_
        (try simp only [Act.put, nz1, nz2, nz3])
        refine ts 4 ⟨some 7, .fieldAddr 23 (.tmp 1) 1, 0, _, _, _⟩ hHeld ?_
        (try simp only [Act.put, nz1, nz2, nz3])
        refine ts 5 ⟨some 8, .load 3 (.tmp 7), 3, _, _, _⟩ hHeld ?_
        (try simp only [Act.put, nz1, nz2, nz3])
        refine ts 6 ⟨some 9, .binOp .eql 3 (.tmp 8) (.const (.int .i64 2)) 3, 4, _, _, _⟩ hHeld ?_
        (try simp only [Act.put, nz1, nz2, nz3])
        refine tk 7 ⟨some 10, .pick (.tmp 6) (.const (.bool true)) (.tmp 9), 4, _, _, _⟩ hHeld ?_
        (try simp only [Act.put, nz1, nz2, nz3])
        refine tk 8 ⟨some 11, .move (.tmp 10), 4, _, _, _⟩ hHeld ?_
        (try simp only [Act.put, nz1, nz2, nz3])
        refine tk 9 ⟨some 12, .fieldAddr 23 (.tmp 1) 2, 0, _, _, _⟩ hHeld ?_
        (try simp only [Act.put, nz1, nz2, nz3])
        refine tk 10 ⟨some 13, .load 3 (.tmp 12), 3, _, _, _⟩ hHeld ?_
        (try simp only [Act.put, nz1, nz2, nz3])
        refine tk 11 ⟨some 14, .binOp .geq 3 (.tmp 13) (.const (.int .i64 1)) 3, 4, _, _, _⟩ hHeld ?_
        (try simp only [Act.put, nz1, nz2, nz3])
        refine tk 12 ⟨some 15, .pick (.tmp 11) (.tmp 14) (.const (.bool false)), 4, _, _, _⟩ hHeld ?_
        (try simp only [Act.put, nz1, nz2, nz3])
        refine tk 13 ⟨some 16, .move (.tmp 15), 4, _, _, _⟩ hHeld ?_
        (try simp only [Act.put, nz1, nz2, nz3])
        refine ts 14 ⟨some 17, .fieldAddr 23 (.tmp 1) 2, 0, _, _, _⟩ hHeld ?_
        (try simp only [Act.put, nz1, nz2, nz3])
        refine ts 15 ⟨some 18, .load 3 (.tmp 17), 3, _, _, _⟩ hHeld ?_
        (try simp only [Act.put, nz1, nz2, nz3])
        refine ts 16 ⟨some 19, .fieldAddr 23 (.tmp 1) 0, 0, _, _, _⟩ hHeld ?_
        (try simp only [Act.put, nz1, nz2, nz3])
        refine ts 17 ⟨some 20, .load 3 (.tmp 19), 3, _, _, _⟩ hHeld ?_
        (try simp only [Act.put, nz1, nz2, nz3])
        refine ts 18 ⟨some 21, .call { callee := .value (.func 76), args := #[.tmp 20], argTypes := #[3] }, 3, _, _, _⟩ hHeld ?_
        (try simp only [Act.put, nz1, nz2, nz3])
        refine ts 19 ⟨some 22, .binOp .leq 3 (.tmp 18) (.tmp 21) 3, 4, _, _, _⟩ hHeld ?_
        (try simp only [Act.put, nz1, nz2, nz3])
        refine tk 20 ⟨some 23, .pick (.tmp 16) (.tmp 22) (.const (.bool false)), 4, _, _, _⟩ hHeld ?_
        (try simp only [Act.put, nz1, nz2, nz3])
        refine tk 21 ⟨some 2, .assign (.tmp 23), 4, _, _, _⟩ hHeld ?_
        (try simp only [Act.put, nz1, nz2, nz3])
        refine wpAnyH_done (by kernel_rfl) ?_ _
        clear c0 c1 c2 hb0
        obtain ⟨c0, c1, c2, hb0⟩ := hHeld
        go_wp2
        go_ret
        exact ⟨rfl, hb0⟩
      · go_enter Try.func51, Try.ntmps51
        go_wp2_with fail
        refine wp_region_held_drew (S := (fun w' => w'.cell? ⟨w.heap.size, 0, none⟩ = some (.int .i64 kd) ∧ w'.cell? ⟨w.heap.size, 1, none⟩ = some (.int .i64 2) ∧ w'.cell? ⟨w.heap.size, 2, none⟩ = some (.int .i64 st) ∧ Below w.heap.size w w')) (by kernel_rfl) ?hSr16_ (fun hHeld => ?_)
        case hSr16_ => (exact ⟨c0, c1, c2, hb0.drew⟩)
        (generalize World.drew _ = wn at *)
        refine tk 0 ⟨some 3, .fieldAddr 23 (.tmp 1) 1, 0, _, _, _⟩ hHeld ?_
        (try simp only [Act.put, nz1, nz2, nz3])
        refine tk 1 ⟨some 4, .load 3 (.tmp 3), 3, _, _, _⟩ hHeld ?_
        (try simp only [Act.put, nz1, nz2, nz3])
        refine tk 2 ⟨some 5, .binOp .eql 3 (.tmp 4) (.const (.int .i64 1)) 3, 4, _, _, _⟩ hHeld ?_
        (try simp only [Act.put, nz1, nz2, nz3])
        refine tk 3 ⟨some 6, .move (.tmp 5), 4, _, _, _⟩ hHeld ?_
        (try simp only [Act.put, nz1, nz2, nz3])
        refine tk 4 ⟨some 7, .fieldAddr 23 (.tmp 1) 1, 0, _, _, _⟩ hHeld ?_
        (try simp only [Act.put, nz1, nz2, nz3])
        refine tk 5 ⟨some 8, .load 3 (.tmp 7), 3, _, _, _⟩ hHeld ?_
        (try simp only [Act.put, nz1, nz2, nz3])
        refine tk 6 ⟨some 9, .binOp .eql 3 (.tmp 8) (.const (.int .i64 2)) 3, 4, _, _, _⟩ hHeld ?_
        (try simp only [Act.put, nz1, nz2, nz3])
        refine tk 7 ⟨some 10, .pick (.tmp 6) (.const (.bool true)) (.tmp 9), 4, _, _, _⟩ hHeld ?_
        (try simp only [Act.put, nz1, nz2, nz3])
        refine tk 8 ⟨some 11, .move (.tmp 10), 4, _, _, _⟩ hHeld ?_
        (try simp only [Act.put, nz1, nz2, nz3])
        refine tk 9 ⟨some 12, .fieldAddr 23 (.tmp 1) 2, 0, _, _, _⟩ hHeld ?_
        (try simp only [Act.put, nz1, nz2, nz3])
        refine tk 10 ⟨some 13, .load 3 (.tmp 12), 3, _, _, _⟩ hHeld ?_
        (try simp only [Act.put, nz1, nz2, nz3])
        refine tk 11 ⟨some 14, .binOp .geq 3 (.tmp 13) (.const (.int .i64 1)) 3, 4, _, _, _⟩ hHeld ?_
        (try simp only [Act.put, nz1, nz2, nz3])
        refine tk 12 ⟨some 15, .pick (.tmp 11) (.tmp 14) (.const (.bool false)), 4, _, _, _⟩ hHeld ?_
        (try simp only [Act.put, nz1, nz2, nz3])
        refine tk 13 ⟨some 16, .move (.tmp 15), 4, _, _, _⟩ hHeld ?_
        (try simp only [Act.put, nz1, nz2, nz3])
        refine ts 14 ⟨some 17, .fieldAddr 23 (.tmp 1) 2, 0, _, _, _⟩ hHeld ?_
        (try simp only [Act.put, nz1, nz2, nz3])
        refine ts 15 ⟨some 18, .load 3 (.tmp 17), 3, _, _, _⟩ hHeld ?_
        (try simp only [Act.put, nz1, nz2, nz3])
        refine ts 16 ⟨some 19, .fieldAddr 23 (.tmp 1) 0, 0, _, _, _⟩ hHeld ?_
        (try simp only [Act.put, nz1, nz2, nz3])
        refine ts 17 ⟨some 20, .load 3 (.tmp 19), 3, _, _, _⟩ hHeld ?_
        (try simp only [Act.put, nz1, nz2, nz3])
        refine ts 18 ⟨some 21, .call { callee := .value (.func 76), args := #[.tmp 20], argTypes := #[3] }, 3, _, _, _⟩ hHeld ?_
        (try simp only [Act.put, nz1, nz2, nz3])
        refine ts 19 ⟨some 22, .binOp .leq 3 (.tmp 18) (.tmp 21) 3, 4, _, _, _⟩ hHeld ?_
        (try simp only [Act.put, nz1, nz2, nz3])
        refine tk 20 ⟨some 23, .pick (.tmp 16) (.tmp 22) (.const (.bool false)), 4, _, _, _⟩ hHeld ?_
        (try simp only [Act.put, nz1, nz2, nz3])
        refine tk 21 ⟨some 2, .assign (.tmp 23), 4, _, _, _⟩ hHeld ?_
        (try simp only [Act.put, nz1, nz2, nz3])
        refine wpAnyH_done (by kernel_rfl) ?_ _
        clear c0 c1 c2 hb0
        obtain ⟨c0, c1, c2, hb0⟩ := hHeld
        go_wp2
        go_ret
        exact ⟨rfl, hb0⟩
  · have e : r = false := by
      rw [hd, decide_eq_false (fun h => s0 (.inl h)), decide_eq_false (fun h => s0 (.inr h))]; rfl
    have x1 : (sd == 1) = false := by simp; omega
    have x2 : (sd == 2) = false := by simp; omega
    subst e
    clear hd s0 HW
    go_enter Try.func51, Try.ntmps51
    go_wp2_with fail
    refine wp_region_held_drew (S := (fun w' => w'.cell? ⟨w.heap.size, 0, none⟩ = some (.int .i64 kd) ∧ w'.cell? ⟨w.heap.size, 1, none⟩ = some (.int .i64 sd) ∧ w'.cell? ⟨w.heap.size, 2, none⟩ = some (.int .i64 st) ∧ Below w.heap.size w w')) (by kernel_rfl) ?hSr17_ (fun hHeld => ?_)
    case hSr17_ => (exact ⟨c0, c1, c2, hb0.drew⟩)
    (generalize World.drew _ = wn at *)
    refine tk 0 ⟨some 3, .fieldAddr 23 (.tmp 1) 1, 0, _, _, _⟩ hHeld ?_
    (try simp only [Act.put, nz1, nz2, nz3])
    refine tk 1 ⟨some 4, .load 3 (.tmp 3), 3, _, _, _⟩ hHeld ?_
    (try simp only [Act.put, nz1, nz2, nz3])
    refine tk 2 ⟨some 5, .binOp .eql 3 (.tmp 4) (.const (.int .i64 1)) 3, 4, _, _, _⟩ hHeld ?_
    (try simp only [Act.put, nz1, nz2, nz3])
    refine tk 3 ⟨some 6, .move (.tmp 5), 4, _, _, _⟩ hHeld ?_
    (try simp only [Act.put, nz1, nz2, nz3])
    refine tk 4 ⟨some 7, .fieldAddr 23 (.tmp 1) 1, 0, _, _, _⟩ hHeld ?_
    (try simp only [Act.put, nz1, nz2, nz3])
    refine tk 5 ⟨some 8, .load 3 (.tmp 7), 3, _, _, _⟩ hHeld ?_
    (try simp only [Act.put, nz1, nz2, nz3])
    refine tk 6 ⟨some 9, .binOp .eql 3 (.tmp 8) (.const (.int .i64 2)) 3, 4, _, _, _⟩ hHeld ?_
    (try simp only [Act.put, nz1, nz2, nz3])
    refine tk 7 ⟨some 10, .pick (.tmp 6) (.const (.bool true)) (.tmp 9), 4, _, _, _⟩ hHeld ?_
    (try simp only [Act.put, nz1, nz2, nz3])
    refine tk 8 ⟨some 11, .move (.tmp 10), 4, _, _, _⟩ hHeld ?_
    (try simp only [Act.put, nz1, nz2, nz3])
    refine ts 9 ⟨some 12, .fieldAddr 23 (.tmp 1) 2, 0, _, _, _⟩ hHeld ?_
    (try simp only [Act.put, nz1, nz2, nz3])
    refine ts 10 ⟨some 13, .load 3 (.tmp 12), 3, _, _, _⟩ hHeld ?_
    (try simp only [Act.put, nz1, nz2, nz3])
    refine ts 11 ⟨some 14, .binOp .geq 3 (.tmp 13) (.const (.int .i64 1)) 3, 4, _, _, _⟩ hHeld ?_
    (try simp only [Act.put, nz1, nz2, nz3])
    refine tk 12 ⟨some 15, .pick (.tmp 11) (.tmp 14) (.const (.bool false)), 4, _, _, _⟩ hHeld ?_
    (try simp only [Act.put, nz1, nz2, nz3])
    refine tk 13 ⟨some 16, .move (.tmp 15), 4, _, _, _⟩ hHeld ?_
    (try simp only [Act.put, nz1, nz2, nz3])
    refine ts 14 ⟨some 17, .fieldAddr 23 (.tmp 1) 2, 0, _, _, _⟩ hHeld ?_
    (try simp only [Act.put, nz1, nz2, nz3])
    refine ts 15 ⟨some 18, .load 3 (.tmp 17), 3, _, _, _⟩ hHeld ?_
    (try simp only [Act.put, nz1, nz2, nz3])
    refine ts 16 ⟨some 19, .fieldAddr 23 (.tmp 1) 0, 0, _, _, _⟩ hHeld ?_
    (try simp only [Act.put, nz1, nz2, nz3])
    refine ts 17 ⟨some 20, .load 3 (.tmp 19), 3, _, _, _⟩ hHeld ?_
    (try simp only [Act.put, nz1, nz2, nz3])
    refine ts 18 ⟨some 21, .call { callee := .value (.func 76), args := #[.tmp 20], argTypes := #[3] }, 3, _, _, _⟩ hHeld ?_
    (try simp only [Act.put, nz1, nz2, nz3])
    refine ts 19 ⟨some 22, .binOp .leq 3 (.tmp 18) (.tmp 21) 3, 4, _, _, _⟩ hHeld ?_
    (try simp only [Act.put, nz1, nz2, nz3])
    refine tk 20 ⟨some 23, .pick (.tmp 16) (.tmp 22) (.const (.bool false)), 4, _, _, _⟩ hHeld ?_
    (try simp only [Act.put, nz1, nz2, nz3])
    refine tk 21 ⟨some 2, .assign (.tmp 23), 4, _, _, _⟩ hHeld ?_
    (try simp only [Act.put, nz1, nz2, nz3])
    refine wpAnyH_done (by kernel_rfl) ?_ _
    clear c0 c1 c2 hb0
    obtain ⟨c0, c1, c2, hb0⟩ := hHeld
    go_wp2
    go_ret
    exact ⟨rfl, hb0⟩
end Go.Proofs.Ytbekocknfpekoaa
