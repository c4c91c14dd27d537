/- K3, K4, K5, K6, K7, KP, OpenKey, K8, KR1, KR2, LabR1, LabR2, LabR3, LabR4, KR3, D1, D2, KP2, D3, D4, D5, D6: what the theorem needs of these texts. No conditions beyond those that are written. -/
import Derived.Test.YtbekocknfpekoaaJ0
import Derived.Lib.SmallJoins
import Derived.Deep.Fields
import Derived.ProofKit
import Derived.SizedLaws
import Derived.OwnWalk
import Derived.Deep.AppendLies
import Derived.BigQuiet
import Derived.IntWalk
namespace Go.Proofs.Ytbekocknfpekoaa
set_option linter.unusedVariables false
set_option linter.unusedSimpArgs false
open Go.RowKit
/-- two keys are equal, told by their fields -/
def eqK (a0 a1 a2 a3 : Int) (a4 : ByteArray) (b0 b1 b2 b3 : Int) (b4 : ByteArray) : Bool := decide (a0 = b0 ∧ a1 = b1 ∧ a2 = b2 ∧ a3 = b3 ∧ a4 = b4)
theorem ba_ne {a b : ByteArray} (h : ¬ a = b) : ¬ a.toList = b.toList := fun e => h (by rw [ByteArray.toList_eq, ByteArray.toList_eq] at e; exact ByteArray.ext (Array.toList_inj.1 e))
theorem eql_key (a0 a1 a2 a3 : Int) (a4 : ByteArray) (b0 b1 b2 b3 : Int) (b4 : ByteArray) (w : World) : (binOp .eql 30 (.agg #[.int .i64 a0, .int .i64 a1, .int .u64 a2, .int .u64 a3, .string a4]) (.agg #[.int .i64 b0, .int .i64 b1, .int .u64 b2, .int .u64 b3, .string b4])).run Try.prog w = .ok (.bool (eqK a0 a1 a2 a3 a4 b0 b1 b2 b3 b4)) w := by
  unfold eqK
  by_cases h4 : a4 = b4
  · by_cases h0 : a0 = b0 <;> by_cases h1 : a1 = b1 <;> by_cases h2 : a2 = b2 <;> by_cases h3 : a3 = b3 <;> simp [go_sem, h0, h1, h2, h3, h4]
  · have h5 := ba_ne h4
    by_cases h0 : a0 = b0 <;> by_cases h1 : a1 = b1 <;> by_cases h2 : a2 = b2 <;> by_cases h3 : a3 = b3 <;> simp [go_sem, h0, h1, h2, h3, h4, h5]
theorem eqK_ke (a b : Ke) : eqK a.kind a.len a.h a.l ⟨a.path.toArray⟩ b.kind b.len b.h b.l ⟨b.path.toArray⟩ = decide (a = b) := by
  unfold eqK
  rw [decide_eq_decide]
  constructor
  · rintro ⟨h0, h1, h2, h3, h4⟩; exact ke_ext h0 h1 h2 h3 ((str_eq _ _).1 h4)
  · rintro rfl; exact ⟨rfl, rfl, rfl, rfl, rfl⟩
/-- what a key holds as an argument -/
structure Ke.ok (k : Ke) : Prop where
  h : Word k.h
  l : Word k.l
  k0 : -9223372036854775808 ≤ k.kind
  k1 : k.kind ≤ 9223372036854775807
  n0 : -9223372036854775808 ≤ k.len
  n1 : k.len ≤ 9223372036854775807
  path : k.path.length ≤ 140737488355328
set_option maxHeartbeats 4000000 in
theorem kright_t (k : Ke) (ok : k.ok) (w : World) : Calls Try.prog 97 #[kv k] w fun e w' => e = .returned (.bool (rightK k)) ∧ Below w.heap.size w w' := by
  have HT := ktop_t k k.len ok.h ok.l ok.n1 ok.path
  have HP := ofPath_t k.path ok.path
  have HE := eqK_ke k (topK k k.len)
  have HF := eqK_ke k (pathK k.path)
  have HR := right_t k.path ok.path
  have HD : rightK k = if k.kind = 1 ∨ k.kind = 2 then decide (0 ≤ k.len) && decide (k.len ≤ wid k.kind) && decide (k = topK k k.len) else if k.kind = 3 then rightB k.path && decide (k = pathK k.path) else false := rfl
  rw [← HE, ← HF] at HD
  obtain ⟨kd, len, h, l, p⟩ := k
  have okn := ok.n1
  dsimp only at *
  unfold kv at HT HP
  generalize topK ⟨kd, len, h, l, p⟩ len = t at *
  generalize pathK p = u at *
  obtain ⟨t0, t1, t2, t3, t4⟩ := t
  obtain ⟨u0, u1, u2, u3, u4⟩ := u
  dsimp only at *
  clear ok HE HF
  generalize rightB p = rp at *
  generalize rightK _ = rk at *
  have R0 := (Row.new w #[.int .i64 kd, .int .i64 len, .int .u64 h, .int .u64 l, .string ⟨p.toArray⟩] 30).drew
  have hb0 : Below w.heap.size w (w.alloc (.cells #[.int .i64 kd, .int .i64 len, .int .u64 h, .int .u64 l, .string ⟨p.toArray⟩] 30)).drew := Below.drew (by repeat (first | exact Below.refl _ _ | assumption | (with_reducible refine Below.setCell ?_ ?h _; case h => first | omega | (simp; done) | (simp; omega)) | (with_reducible refine Below.alloc ?_ ?h _; case h => first | omega | (simp; done) | (simp; omega)) | (with_reducible refine Below.drew ?_) | (with_reducible refine Below.trans ?_ (hb4.mono ?h); case h => first | omega | (simp; done) | (simp; omega)) | (with_reducible refine Below.trans ?_ (hb3.mono ?h); case h => first | omega | (simp; done) | (simp; omega)) | (with_reducible refine Below.trans ?_ (hb2.mono ?h); case h => first | omega | (simp; done) | (simp; omega)) | (with_reducible refine Below.trans ?_ (hb.mono ?h); case h => first | omega | (simp; done) | (simp; omega)) | (with_reducible refine Below.trans ?_ (hb0.mono ?h); case h => first | omega | (simp; done) | (simp; omega))))
  have c0 := ((R0).cell 0).trans (show _ = some (Value.int .i64 kd) from rfl)
  have cf0 := (R0).frozen 0
  have c1 := ((R0).cell 1).trans (show _ = some (Value.int .i64 len) from rfl)
  have cf1 := (R0).frozen 1
  have c2 := ((R0).cell 2).trans (show _ = some (Value.int .u64 h) from rfl)
  have cf2 := (R0).frozen 2
  have c3 := ((R0).cell 3).trans (show _ = some (Value.int .u64 l) from rfl)
  have cf3 := (R0).frozen 3
  have c4 := ((R0).cell 4).trans (show _ = some (Value.string ⟨p.toArray⟩) from rfl)
  have cf4 := (R0).frozen 4
  have q := eql_key
  unfold kv
  dsimp only
  have HW := width_t kd
  by_cases k1 : kd = 1 ∨ kd = 2
  · rw [if_pos k1] at HD
    by_cases n0 : 0 ≤ len
    · have d0 : decide (0 ≤ len) = true := by simpa using n0
      by_cases n1 : len ≤ wid kd
      · have HD' : rk = eqK kd len h l ⟨p.toArray⟩ t0 t1 t2 t3 ⟨t4.toArray⟩ := by rw [HD]; simp [n0, n1]
        have d1 : decide (len ≤ wid kd) = true := by simpa using n1
        rw [HD']
        generalize wid kd = wd at *
        clear HD HD' HP HR u0 u1 u2 u3 u4
        rcases k1 with rfl | rfl
        · go_enter Try.func97, Try.ntmps97
          go_wp2_with fail
          refine wp_region_held_drew (S := (fun w' => w'.cell? ⟨w.heap.size, 0, none⟩ = some (.int .i64 1) ∧ w'.cell? ⟨w.heap.size, 1, none⟩ = some (.int .i64 len) ∧ w'.cell? ⟨w.heap.size, 2, none⟩ = some (.int .u64 h) ∧ w'.cell? ⟨w.heap.size, 3, none⟩ = some (.int .u64 l) ∧ w'.cell? ⟨w.heap.size, 4, none⟩ = some (.string ⟨p.toArray⟩) ∧ Below w.heap.size w w')) (by kernel_rfl) ?hSr2_ (fun hHeld => ?_)
          case hSr2_ => (first | exact ⟨c0, c1, c2, c3, c4, hb0⟩ | (obtain ⟨s0, s1, s2, s3, s4, s5⟩ := hHeld; exact ⟨cell_later hb s0, cell_later hb s1, cell_later hb s2, cell_later hb s3, cell_later hb s4, below_step s5 hb⟩))
          refine tk 0 ⟨some 8, .fieldAddr 30 (.tmp 1) 1, 0, _, _, _⟩ hHeld ?_
          (try simp only [Act.put, nz1, nz2, nz3])
          refine tk 1 ⟨some 9, .load 3 (.tmp 8), 3, _, _, _⟩ hHeld ?_
          (try simp only [Act.put, nz1, nz2, nz3])
          refine tk 2 ⟨some 10, .binOp .geq 3 (.tmp 9) (.const (.int .i64 0)) 3, 4, _, _, _⟩ hHeld ?_
          (try simp only [Act.put, nz1, nz2, nz3])
          refine tk 3 ⟨some 11, .move (.tmp 10), 4, _, _, _⟩ hHeld ?_
          (try simp only [Act.put, nz1, nz2, nz3])
          refine tk 4 ⟨some 12, .fieldAddr 30 (.tmp 1) 1, 0, _, _, _⟩ hHeld ?_
          (try simp only [Act.put, nz1, nz2, nz3])
          refine tk 5 ⟨some 13, .load 3 (.tmp 12), 3, _, _, _⟩ hHeld ?_
          (try simp only [Act.put, nz1, nz2, nz3])
          refine tk 6 ⟨some 14, .fieldAddr 30 (.tmp 1) 0, 0, _, _, _⟩ hHeld ?_
          (try simp only [Act.put, nz1, nz2, nz3])
          refine tk 7 ⟨some 15, .load 3 (.tmp 14), 3, _, _, _⟩ hHeld ?_
          (try simp only [Act.put, nz1, nz2, nz3])
          refine wpAnyH_ready (rs := [8]) (by kernel_rfl) (by simp) ?_
          refine AllReadyH.cons (o := ⟨some 16, .call { callee := .value (.func 76), args := #[.tmp 15], argTypes := #[3] }, 3, _, _, _⟩) rfl (fun K hK => ?_) AllReadyH.nil
          go_simp
          ((refine (HW _).mono ?_); (rintro e wn ⟨rfl, hb⟩))
          go_wp2_with fail
          refine hK.out _ _ ?hSr2_9_8 (fun hHeld2 => ?_)
          case hSr2_9_8 => (first | exact ⟨c0, c1, c2, c3, c4, hb0⟩ | (obtain ⟨s0, s1, s2, s3, s4, s5⟩ := hHeld; exact ⟨cell_later hb s0, cell_later hb s1, cell_later hb s2, cell_later hb s3, cell_later hb s4, below_step s5 hb⟩))
          clear hK K hHeld
          have hHeld := hHeld2
          clear hHeld2
          (try simp only [Act.put, nz1, nz2, nz3])
          refine tk 9 ⟨some 17, .binOp .leq 3 (.tmp 13) (.tmp 16) 3, 4, _, _, _⟩ hHeld ?_
          (try simp only [Act.put, nz1, nz2, nz3])
          refine tk 10 ⟨some 18, .pick (.tmp 11) (.tmp 17) (.const (.bool false)), 4, _, _, _⟩ hHeld ?_
          (try simp only [Act.put, nz1, nz2, nz3])
          refine tk 11 ⟨some 19, .move (.tmp 18), 4, _, _, _⟩ hHeld ?_
          (try simp only [Act.put, nz1, nz2, nz3])
          refine tk 12 ⟨some 20, .load 30 (.tmp 1), 30, _, _, _⟩ hHeld ?_
          (try simp only [Act.put, nz1, nz2, nz3])
          refine tk 13 ⟨some 21, .load 30 (.tmp 1), 30, _, _, _⟩ hHeld ?_
          (try simp only [Act.put, nz1, nz2, nz3])
          refine tk 14 ⟨some 22, .fieldAddr 30 (.tmp 1) 1, 0, _, _, _⟩ hHeld ?_
          (try simp only [Act.put, nz1, nz2, nz3])
          refine tk 15 ⟨some 23, .load 3 (.tmp 22), 3, _, _, _⟩ hHeld ?_
          (try simp only [Act.put, nz1, nz2, nz3])
          refine wpAnyH_ready (rs := [16]) (by kernel_rfl) (by simp) ?_
          refine AllReadyH.cons (o := ⟨some 24, .call { callee := .value (.func 100), args := #[.tmp 21, .tmp 23], argTypes := #[30, 3] }, 30, _, _, _⟩) rfl (fun K hK => ?_) AllReadyH.nil
          go_simp
          ((refine (HT _).mono ?_); (rintro e wn ⟨rfl, hb⟩))
          go_wp2_with fail
          refine hK.out _ _ ?hSr2_17_16 (fun hHeld2 => ?_)
          case hSr2_17_16 => (first | exact ⟨c0, c1, c2, c3, c4, hb0⟩ | (obtain ⟨s0, s1, s2, s3, s4, s5⟩ := hHeld; exact ⟨cell_later hb s0, cell_later hb s1, cell_later hb s2, cell_later hb s3, cell_later hb s4, below_step s5 hb⟩))
          clear hK K hHeld
          have hHeld := hHeld2
          clear hHeld2
          (try simp only [Act.put, nz1, nz2, nz3])
          refine tk 17 ⟨some 25, .binOp .eql 30 (.tmp 20) (.tmp 24) 30, 4, _, _, _⟩ hHeld ?_
          (try simp only [Act.put, nz1, nz2, nz3])
          refine tk 18 ⟨some 26, .pick (.tmp 19) (.tmp 25) (.const (.bool false)), 4, _, _, _⟩ hHeld ?_
          (try simp only [Act.put, nz1, nz2, nz3])
          refine tk 19 ⟨some 2, .assign (.tmp 26), 4, _, _, _⟩ hHeld ?_
          (try simp only [Act.put, nz1, nz2, nz3])
          refine wpAnyH_done (by kernel_rfl) ?_ _
          go_wp2
          go_ret
          exact ⟨rfl, hHeld.2.2.2.2.2⟩
        · go_enter Try.func97, Try.ntmps97
          go_wp2_with fail
          refine wp_region_held_drew (S := (fun w' => w'.cell? ⟨w.heap.size, 0, none⟩ = some (.int .i64 2) ∧ w'.cell? ⟨w.heap.size, 1, none⟩ = some (.int .i64 len) ∧ w'.cell? ⟨w.heap.size, 2, none⟩ = some (.int .u64 h) ∧ w'.cell? ⟨w.heap.size, 3, none⟩ = some (.int .u64 l) ∧ w'.cell? ⟨w.heap.size, 4, none⟩ = some (.string ⟨p.toArray⟩) ∧ Below w.heap.size w w')) (by kernel_rfl) ?hSr3_ (fun hHeld => ?_)
          case hSr3_ => (first | exact ⟨c0, c1, c2, c3, c4, hb0⟩ | (obtain ⟨s0, s1, s2, s3, s4, s5⟩ := hHeld; exact ⟨cell_later hb s0, cell_later hb s1, cell_later hb s2, cell_later hb s3, cell_later hb s4, below_step s5 hb⟩))
          refine tk 0 ⟨some 8, .fieldAddr 30 (.tmp 1) 1, 0, _, _, _⟩ hHeld ?_
          (try simp only [Act.put, nz1, nz2, nz3])
          refine tk 1 ⟨some 9, .load 3 (.tmp 8), 3, _, _, _⟩ hHeld ?_
          (try simp only [Act.put, nz1, nz2, nz3])
          refine tk 2 ⟨some 10, .binOp .geq 3 (.tmp 9) (.const (.int .i64 0)) 3, 4, _, _, _⟩ hHeld ?_
          (try simp only [Act.put, nz1, nz2, nz3])
          refine tk 3 ⟨some 11, .move (.tmp 10), 4, _, _, _⟩ hHeld ?_
          (try simp only [Act.put, nz1, nz2, nz3])
          refine tk 4 ⟨some 12, .fieldAddr 30 (.tmp 1) 1, 0, _, _, _⟩ hHeld ?_
          (try simp only [Act.put, nz1, nz2, nz3])
          refine tk 5 ⟨some 13, .load 3 (.tmp 12), 3, _, _, _⟩ hHeld ?_
          (try simp only [Act.put, nz1, nz2, nz3])
          refine tk 6 ⟨some 14, .fieldAddr 30 (.tmp 1) 0, 0, _, _, _⟩ hHeld ?_
          (try simp only [Act.put, nz1, nz2, nz3])
          refine tk 7 ⟨some 15, .load 3 (.tmp 14), 3, _, _, _⟩ hHeld ?_
          (try simp only [Act.put, nz1, nz2, nz3])
          refine wpAnyH_ready (rs := [8]) (by kernel_rfl) (by simp) ?_
          refine AllReadyH.cons (o := ⟨some 16, .call { callee := .value (.func 76), args := #[.tmp 15], argTypes := #[3] }, 3, _, _, _⟩) rfl (fun K hK => ?_) AllReadyH.nil
          go_simp
          ((refine (HW _).mono ?_); (rintro e wn ⟨rfl, hb⟩))
          go_wp2_with fail
          refine hK.out _ _ ?hSr3_9_8 (fun hHeld2 => ?_)
          case hSr3_9_8 => (first | exact ⟨c0, c1, c2, c3, c4, hb0⟩ | (obtain ⟨s0, s1, s2, s3, s4, s5⟩ := hHeld; exact ⟨cell_later hb s0, cell_later hb s1, cell_later hb s2, cell_later hb s3, cell_later hb s4, below_step s5 hb⟩))
          clear hK K hHeld
          have hHeld := hHeld2
          clear hHeld2
          (try simp only [Act.put, nz1, nz2, nz3])
          refine tk 9 ⟨some 17, .binOp .leq 3 (.tmp 13) (.tmp 16) 3, 4, _, _, _⟩ hHeld ?_
          (try simp only [Act.put, nz1, nz2, nz3])
          refine tk 10 ⟨some 18, .pick (.tmp 11) (.tmp 17) (.const (.bool false)), 4, _, _, _⟩ hHeld ?_
          (try simp only [Act.put, nz1, nz2, nz3])
          refine tk 11 ⟨some 19, .move (.tmp 18), 4, _, _, _⟩ hHeld ?_
          (try simp only [Act.put, nz1, nz2, nz3])
          refine tk 12 ⟨some 20, .load 30 (.tmp 1), 30, _, _, _⟩ hHeld ?_
          (try simp only [Act.put, nz1, nz2, nz3])
          refine tk 13 ⟨some 21, .load 30 (.tmp 1), 30, _, _, _⟩ hHeld ?_
          (try simp only [Act.put, nz1, nz2, nz3])
          refine tk 14 ⟨some 22, .fieldAddr 30 (.tmp 1) 1, 0, _, _, _⟩ hHeld ?_
          (try simp only [Act.put, nz1, nz2, nz3])
          refine tk 15 ⟨some 23, .load 3 (.tmp 22), 3, _, _, _⟩ hHeld ?_
          (try simp only [Act.put, nz1, nz2, nz3])
          refine wpAnyH_ready (rs := [16]) (by kernel_rfl) (by simp) ?_
          refine AllReadyH.cons (o := ⟨some 24, .call { callee := .value (.func 100), args := #[.tmp 21, .tmp 23], argTypes := #[30, 3] }, 30, _, _, _⟩) rfl (fun K hK => ?_) AllReadyH.nil
          go_simp
          ((refine (HT _).mono ?_); (rintro e wn ⟨rfl, hb⟩))
          go_wp2_with fail
          refine hK.out _ _ ?hSr3_17_16 (fun hHeld2 => ?_)
          case hSr3_17_16 => (first | exact ⟨c0, c1, c2, c3, c4, hb0⟩ | (obtain ⟨s0, s1, s2, s3, s4, s5⟩ := hHeld; exact ⟨cell_later hb s0, cell_later hb s1, cell_later hb s2, cell_later hb s3, cell_later hb s4, below_step s5 hb⟩))
          clear hK K hHeld
          have hHeld := hHeld2
          clear hHeld2
          (try simp only [Act.put, nz1, nz2, nz3])
          refine tk 17 ⟨some 25, .binOp .eql 30 (.tmp 20) (.tmp 24) 30, 4, _, _, _⟩ hHeld ?_
          (try simp only [Act.put, nz1, nz2, nz3])
          refine tk 18 ⟨some 26, .pick (.tmp 19) (.tmp 25) (.const (.bool false)), 4, _, _, _⟩ hHeld ?_
          (try simp only [Act.put, nz1, nz2, nz3])
          refine tk 19 ⟨some 2, .assign (.tmp 26), 4, _, _, _⟩ hHeld ?_
          (try simp only [Act.put, nz1, nz2, nz3])
          refine wpAnyH_done (by kernel_rfl) ?_ _
          go_wp2
          go_ret
          exact ⟨rfl, hHeld.2.2.2.2.2⟩
      · have HD' : rk = false := by rw [HD]; simp [n0, n1]
        have d1 : decide (len ≤ wid kd) = false := by simpa using n1
        rw [HD']
        generalize wid kd = wd at *
        clear HD HD' HP HR u0 u1 u2 u3 u4
        rcases k1 with rfl | rfl
        · go_enter Try.func97, Try.ntmps97
          go_wp2_with fail
          refine wp_region_held_drew (S := (fun w' => w'.cell? ⟨w.heap.size, 0, none⟩ = some (.int .i64 1) ∧ w'.cell? ⟨w.heap.size, 1, none⟩ = some (.int .i64 len) ∧ w'.cell? ⟨w.heap.size, 2, none⟩ = some (.int .u64 h) ∧ w'.cell? ⟨w.heap.size, 3, none⟩ = some (.int .u64 l) ∧ w'.cell? ⟨w.heap.size, 4, none⟩ = some (.string ⟨p.toArray⟩) ∧ Below w.heap.size w w')) (by kernel_rfl) ?hSr4_ (fun hHeld => ?_)
          case hSr4_ => (first | exact ⟨c0, c1, c2, c3, c4, hb0⟩ | (obtain ⟨s0, s1, s2, s3, s4, s5⟩ := hHeld; exact ⟨cell_later hb s0, cell_later hb s1, cell_later hb s2, cell_later hb s3, cell_later hb s4, below_step s5 hb⟩))
          refine tk 0 ⟨some 8, .fieldAddr 30 (.tmp 1) 1, 0, _, _, _⟩ hHeld ?_
          (try simp only [Act.put, nz1, nz2, nz3])
          refine tk 1 ⟨some 9, .load 3 (.tmp 8), 3, _, _, _⟩ hHeld ?_
          (try simp only [Act.put, nz1, nz2, nz3])
          refine tk 2 ⟨some 10, .binOp .geq 3 (.tmp 9) (.const (.int .i64 0)) 3, 4, _, _, _⟩ hHeld ?_
          (try simp only [Act.put, nz1, nz2, nz3])
          refine tk 3 ⟨some 11, .move (.tmp 10), 4, _, _, _⟩ hHeld ?_
          (try simp only [Act.put, nz1, nz2, nz3])
          refine tk 4 ⟨some 12, .fieldAddr 30 (.tmp 1) 1, 0, _, _, _⟩ hHeld ?_
          (try simp only [Act.put, nz1, nz2, nz3])
          refine tk 5 ⟨some 13, .load 3 (.tmp 12), 3, _, _, _⟩ hHeld ?_
          (try simp only [Act.put, nz1, nz2, nz3])
          refine tk 6 ⟨some 14, .fieldAddr 30 (.tmp 1) 0, 0, _, _, _⟩ hHeld ?_
          (try simp only [Act.put, nz1, nz2, nz3])
          refine tk 7 ⟨some 15, .load 3 (.tmp 14), 3, _, _, _⟩ hHeld ?_
          (try simp only [Act.put, nz1, nz2, nz3])
          refine wpAnyH_ready (rs := [8]) (by kernel_rfl) (by simp) ?_
          refine AllReadyH.cons (o := ⟨some 16, .call { callee := .value (.func 76), args := #[.tmp 15], argTypes := #[3] }, 3, _, _, _⟩) rfl (fun K hK => ?_) AllReadyH.nil
          go_simp
          ((refine (HW _).mono ?_); (rintro e wn ⟨rfl, hb⟩))
          go_wp2_with fail
          refine hK.out _ _ ?hSr4_9_8 (fun hHeld2 => ?_)
          case hSr4_9_8 => (first | exact ⟨c0, c1, c2, c3, c4, hb0⟩ | (obtain ⟨s0, s1, s2, s3, s4, s5⟩ := hHeld; exact ⟨cell_later hb s0, cell_later hb s1, cell_later hb s2, cell_later hb s3, cell_later hb s4, below_step s5 hb⟩))
          clear hK K hHeld
          have hHeld := hHeld2
          clear hHeld2
          (try simp only [Act.put, nz1, nz2, nz3])
          refine tk 9 ⟨some 17, .binOp .leq 3 (.tmp 13) (.tmp 16) 3, 4, _, _, _⟩ hHeld ?_
          (try simp only [Act.put, nz1, nz2, nz3])
          refine tk 10 ⟨some 18, .pick (.tmp 11) (.tmp 17) (.const (.bool false)), 4, _, _, _⟩ hHeld ?_
          (try simp only [Act.put, nz1, nz2, nz3])
          refine tk 11 ⟨some 19, .move (.tmp 18), 4, _, _, _⟩ hHeld ?_
          (try simp only [Act.put, nz1, nz2, nz3])
          refine ts 12 ⟨some 20, .load 30 (.tmp 1), 30, _, _, _⟩ hHeld ?_
          (try simp only [Act.put, nz1, nz2, nz3])
          refine ts 13 ⟨some 21, .load 30 (.tmp 1), 30, _, _, _⟩ hHeld ?_
          (try simp only [Act.put, nz1, nz2, nz3])
          refine ts 14 ⟨some 22, .fieldAddr 30 (.tmp 1) 1, 0, _, _, _⟩ hHeld ?_
          (try simp only [Act.put, nz1, nz2, nz3])
          refine ts 15 ⟨some 23, .load 3 (.tmp 22), 3, _, _, _⟩ hHeld ?_
          (try simp only [Act.put, nz1, nz2, nz3])
          refine ts 16 ⟨some 24, .call { callee := .value (.func 100), args := #[.tmp 21, .tmp 23], argTypes := #[30, 3] }, 30, _, _, _⟩ hHeld ?_
          (try simp only [Act.put, nz1, nz2, nz3])
          refine ts 17 ⟨some 25, .binOp .eql 30 (.tmp 20) (.tmp 24) 30, 4, _, _, _⟩ hHeld ?_
          (try simp only [Act.put, nz1, nz2, nz3])
          refine tk 18 ⟨some 26, .pick (.tmp 19) (.tmp 25) (.const (.bool false)), 4, _, _, _⟩ hHeld ?_
          (try simp only [Act.put, nz1, nz2, nz3])
          refine tk 19 ⟨some 2, .assign (.tmp 26), 4, _, _, _⟩ hHeld ?_
          (try simp only [Act.put, nz1, nz2, nz3])
          refine wpAnyH_done (by kernel_rfl) ?_ _
          go_wp2
          go_ret
          exact ⟨rfl, hHeld.2.2.2.2.2⟩
        · go_enter Try.func97, Try.ntmps97
          go_wp2_with fail
          refine wp_region_held_drew (S := (fun w' => w'.cell? ⟨w.heap.size, 0, none⟩ = some (.int .i64 2) ∧ w'.cell? ⟨w.heap.size, 1, none⟩ = some (.int .i64 len) ∧ w'.cell? ⟨w.heap.size, 2, none⟩ = some (.int .u64 h) ∧ w'.cell? ⟨w.heap.size, 3, none⟩ = some (.int .u64 l) ∧ w'.cell? ⟨w.heap.size, 4, none⟩ = some (.string ⟨p.toArray⟩) ∧ Below w.heap.size w w')) (by kernel_rfl) ?hSr5_ (fun hHeld => ?_)
          case hSr5_ => (first | exact ⟨c0, c1, c2, c3, c4, hb0⟩ | (obtain ⟨s0, s1, s2, s3, s4, s5⟩ := hHeld; exact ⟨cell_later hb s0, cell_later hb s1, cell_later hb s2, cell_later hb s3, cell_later hb s4, below_step s5 hb⟩))
          refine tk 0 ⟨some 8, .fieldAddr 30 (.tmp 1) 1, 0, _, _, _⟩ hHeld ?_
          (try simp only [Act.put, nz1, nz2, nz3])
          refine tk 1 ⟨some 9, .load 3 (.tmp 8), 3, _, _, _⟩ hHeld ?_
          (try simp only [Act.put, nz1, nz2, nz3])
          refine tk 2 ⟨some 10, .binOp .geq 3 (.tmp 9) (.const (.int .i64 0)) 3, 4, _, _, _⟩ hHeld ?_
          (try simp only [Act.put, nz1, nz2, nz3])
          refine tk 3 ⟨some 11, .move (.tmp 10), 4, _, _, _⟩ hHeld ?_
          (try simp only [Act.put, nz1, nz2, nz3])
          refine tk 4 ⟨some 12, .fieldAddr 30 (.tmp 1) 1, 0, _, _, _⟩ hHeld ?_
          (try simp only [Act.put, nz1, nz2, nz3])
          refine tk 5 ⟨some 13, .load 3 (.tmp 12), 3, _, _, _⟩ hHeld ?_
          (try simp only [Act.put, nz1, nz2, nz3])
          refine tk 6 ⟨some 14, .fieldAddr 30 (.tmp 1) 0, 0, _, _, _⟩ hHeld ?_
          (try simp only [Act.put, nz1, nz2, nz3])
          refine tk 7 ⟨some 15, .load 3 (.tmp 14), 3, _, _, _⟩ hHeld ?_
          (try simp only [Act.put, nz1, nz2, nz3])
          refine wpAnyH_ready (rs := [8]) (by kernel_rfl) (by simp) ?_
          refine AllReadyH.cons (o := ⟨some 16, .call { callee := .value (.func 76), args := #[.tmp 15], argTypes := #[3] }, 3, _, _, _⟩) rfl (fun K hK => ?_) AllReadyH.nil
          go_simp
          ((refine (HW _).mono ?_); (rintro e wn ⟨rfl, hb⟩))
          go_wp2_with fail
          refine hK.out _ _ ?hSr5_9_8 (fun hHeld2 => ?_)
          case hSr5_9_8 => (first | exact ⟨c0, c1, c2, c3, c4, hb0⟩ | (obtain ⟨s0, s1, s2, s3, s4, s5⟩ := hHeld; exact ⟨cell_later hb s0, cell_later hb s1, cell_later hb s2, cell_later hb s3, cell_later hb s4, below_step s5 hb⟩))
          clear hK K hHeld
          have hHeld := hHeld2
          clear hHeld2
          (try simp only [Act.put, nz1, nz2, nz3])
          refine tk 9 ⟨some 17, .binOp .leq 3 (.tmp 13) (.tmp 16) 3, 4, _, _, _⟩ hHeld ?_
          (try simp only [Act.put, nz1, nz2, nz3])
          refine tk 10 ⟨some 18, .pick (.tmp 11) (.tmp 17) (.const (.bool false)), 4, _, _, _⟩ hHeld ?_
          (try simp only [Act.put, nz1, nz2, nz3])
          refine tk 11 ⟨some 19, .move (.tmp 18), 4, _, _, _⟩ hHeld ?_
          (try simp only [Act.put, nz1, nz2, nz3])
          refine ts 12 ⟨some 20, .load 30 (.tmp 1), 30, _, _, _⟩ hHeld ?_
          (try simp only [Act.put, nz1, nz2, nz3])
          refine ts 13 ⟨some 21, .load 30 (.tmp 1), 30, _, _, _⟩ hHeld ?_
          (try simp only [Act.put, nz1, nz2, nz3])
          refine ts 14 ⟨some 22, .fieldAddr 30 (.tmp 1) 1, 0, _, _, _⟩ hHeld ?_
          (try simp only [Act.put, nz1, nz2, nz3])
          refine ts 15 ⟨some 23, .load 3 (.tmp 22), 3, _, _, _⟩ hHeld ?_
          (try simp only [Act.put, nz1, nz2, nz3])
          refine ts 16 ⟨some 24, .call { callee := .value (.func 100), args := #[.tmp 21, .tmp 23], argTypes := #[30, 3] }, 30, _, _, _⟩ hHeld ?_
          (try simp only [Act.put, nz1, nz2, nz3])
          refine ts 17 ⟨some 25, .binOp .eql 30 (.tmp 20) (.tmp 24) 30, 4, _, _, _⟩ hHeld ?_
          (try simp only [Act.put, nz1, nz2, nz3])
          refine tk 18 ⟨some 26, .pick (.tmp 19) (.tmp 25) (.const (.bool false)), 4, _, _, _⟩ hHeld ?_
          (try simp only [Act.put, nz1, nz2, nz3])
          refine tk 19 ⟨some 2, .assign (.tmp 26), 4, _, _, _⟩ hHeld ?_
          (try simp only [Act.put, nz1, nz2, nz3])
          refine wpAnyH_done (by kernel_rfl) ?_ _
          go_wp2
          go_ret
          exact ⟨rfl, hHeld.2.2.2.2.2⟩
    · have HD' : rk = false := by rw [HD]; simp [n0]
      have d0 : decide (0 ≤ len) = false := by simpa using n0
      rw [HD']
      clear HD HD' HP HR u0 u1 u2 u3 u4 HW
      rcases k1 with rfl | rfl
      · go_enter Try.func97, Try.ntmps97
        go_wp2_with fail
        refine wp_region_held_drew (S := (fun w' => w'.cell? ⟨w.heap.size, 0, none⟩ = some (.int .i64 1) ∧ w'.cell? ⟨w.heap.size, 1, none⟩ = some (.int .i64 len) ∧ w'.cell? ⟨w.heap.size, 2, none⟩ = some (.int .u64 h) ∧ w'.cell? ⟨w.heap.size, 3, none⟩ = some (.int .u64 l) ∧ w'.cell? ⟨w.heap.size, 4, none⟩ = some (.string ⟨p.toArray⟩) ∧ Below w.heap.size w w')) (by kernel_rfl) ?hSr6_ (fun hHeld => ?_)
        case hSr6_ => (first | exact ⟨c0, c1, c2, c3, c4, hb0⟩ | (obtain ⟨s0, s1, s2, s3, s4, s5⟩ := hHeld; exact ⟨cell_later hb s0, cell_later hb s1, cell_later hb s2, cell_later hb s3, cell_later hb s4, below_step s5 hb⟩))
        refine tk 0 ⟨some 8, .fieldAddr 30 (.tmp 1) 1, 0, _, _, _⟩ hHeld ?_
        (try simp only [Act.put, nz1, nz2, nz3])
        refine tk 1 ⟨some 9, .load 3 (.tmp 8), 3, _, _, _⟩ hHeld ?_
        (try simp only [Act.put, nz1, nz2, nz3])
        refine tk 2 ⟨some 10, .binOp .geq 3 (.tmp 9) (.const (.int .i64 0)) 3, 4, _, _, _⟩ hHeld ?_
        (try simp only [Act.put, nz1, nz2, nz3])
        refine tk 3 ⟨some 11, .move (.tmp 10), 4, _, _, _⟩ hHeld ?_
        (try simp only [Act.put, nz1, nz2, nz3])
        refine ts 4 ⟨some 12, .fieldAddr 30 (.tmp 1) 1, 0, _, _, _⟩ hHeld ?_
        (try simp only [Act.put, nz1, nz2, nz3])
        refine ts 5 ⟨some 13, .load 3 (.tmp 12), 3, _, _, _⟩ hHeld ?_
        (try simp only [Act.put, nz1, nz2, nz3])
        refine ts 6 ⟨some 14, .fieldAddr 30 (.tmp 1) 0, 0, _, _, _⟩ hHeld ?_
        (try simp only [Act.put, nz1, nz2, nz3])
        refine ts 7 ⟨some 15, .load 3 (.tmp 14), 3, _, _, _⟩ hHeld ?_
        (try simp only [Act.put, nz1, nz2, nz3])
        refine ts 8 ⟨some 16, .call { callee := .value (.func 76), args := #[.tmp 15], argTypes := #[3] }, 3, _, _, _⟩ hHeld ?_
        (try simp only [Act.put, nz1, nz2, nz3])
        refine ts 9 ⟨some 17, .binOp .leq 3 (.tmp 13) (.tmp 16) 3, 4, _, _, _⟩ hHeld ?_
        (try simp only [Act.put, nz1, nz2, nz3])
        refine tk 10 ⟨some 18, .pick (.tmp 11) (.tmp 17) (.const (.bool false)), 4, _, _, _⟩ hHeld ?_
        (try simp only [Act.put, nz1, nz2, nz3])
        refine tk 11 ⟨some 19, .move (.tmp 18), 4, _, _, _⟩ hHeld ?_
        (try simp only [Act.put, nz1, nz2, nz3])
        refine ts 12 ⟨some 20, .load 30 (.tmp 1), 30, _, _, _⟩ hHeld ?_
        (try simp only [Act.put, nz1, nz2, nz3])
        refine ts 13 ⟨some 21, .load 30 (.tmp 1), 30, _, _, _⟩ hHeld ?_
        (try simp only [Act.put, nz1, nz2, nz3])
        refine ts 14 ⟨some 22, .fieldAddr 30 (.tmp 1) 1, 0, _, _, _⟩ hHeld ?_
        (try simp only [Act.put, nz1, nz2, nz3])
        refine ts 15 ⟨some 23, .load 3 (.tmp 22), 3, _, _, _⟩ hHeld ?_
        (try simp only [Act.put, nz1, nz2, nz3])
        refine ts 16 ⟨some 24, .call { callee := .value (.func 100), args := #[.tmp 21, .tmp 23], argTypes := #[30, 3] }, 30, _, _, _⟩ hHeld ?_
        (try simp only [Act.put, nz1, nz2, nz3])
        refine ts 17 ⟨some 25, .binOp .eql 30 (.tmp 20) (.tmp 24) 30, 4, _, _, _⟩ hHeld ?_
        (try simp only [Act.put, nz1, nz2, nz3])
        refine tk 18 ⟨some 26, .pick (.tmp 19) (.tmp 25) (.const (.bool false)), 4, _, _, _⟩ hHeld ?_
        (try simp only [Act.put, nz1, nz2, nz3])
        refine tk 19 ⟨some 2, .assign (.tmp 26), 4, _, _, _⟩ hHeld ?_
        (try simp only [Act.put, nz1, nz2, nz3])
        refine wpAnyH_done (by kernel_rfl) ?_ _
        go_wp2
        go_ret
        exact ⟨rfl, hHeld.2.2.2.2.2⟩
      · go_enter Try.func97, Try.ntmps97
        go_wp2_with fail
        refine wp_region_held_drew (S := (fun w' => w'.cell? ⟨w.heap.size, 0, none⟩ = some (.int .i64 2) ∧ w'.cell? ⟨w.heap.size, 1, none⟩ = some (.int .i64 len) ∧ w'.cell? ⟨w.heap.size, 2, none⟩ = some (.int .u64 h) ∧ w'.cell? ⟨w.heap.size, 3, none⟩ = some (.int .u64 l) ∧ w'.cell? ⟨w.heap.size, 4, none⟩ = some (.string ⟨p.toArray⟩) ∧ Below w.heap.size w w')) (by kernel_rfl) ?hSr7_ (fun hHeld => ?_)
        case hSr7_ => (first | exact ⟨c0, c1, c2, c3, c4, hb0⟩ | (obtain ⟨s0, s1, s2, s3, s4, s5⟩ := hHeld; exact ⟨cell_later hb s0, cell_later hb s1, cell_later hb s2, cell_later hb s3, cell_later hb s4, below_step s5 hb⟩))
        refine tk 0 ⟨some 8, .fieldAddr 30 (.tmp 1) 1, 0, _, _, _⟩ hHeld ?_
        (try simp only [Act.put, nz1, nz2, nz3])
        refine tk 1 ⟨some 9, .load 3 (.tmp 8), 3, _, _, _⟩ hHeld ?_
        (try simp only [Act.put, nz1, nz2, nz3])
        refine tk 2 ⟨some 10, .binOp .geq 3 (.tmp 9) (.const (.int .i64 0)) 3, 4, _, _, _⟩ hHeld ?_
        (try simp only [Act.put, nz1, nz2, nz3])
        refine tk 3 ⟨some 11, .move (.tmp 10), 4, _, _, _⟩ hHeld ?_
        (try simp only [Act.put, nz1, nz2, nz3])
        refine ts 4 ⟨some 12, .fieldAddr 30 (.tmp 1) 1, 0, _, _, _⟩ hHeld ?_
        (try simp only [Act.put, nz1, nz2, nz3])
        refine ts 5 ⟨some 13, .load 3 (.tmp 12), 3, _, _, _⟩ hHeld ?_
        (try simp only [Act.put, nz1, nz2, nz3])
        refine ts 6 ⟨some 14, .fieldAddr 30 (.tmp 1) 0, 0, _, _, _⟩ hHeld ?_
        (try simp only [Act.put, nz1, nz2, nz3])
        refine ts 7 ⟨some 15, .load 3 (.tmp 14), 3, _, _, _⟩ hHeld ?_
        (try simp only [Act.put, nz1, nz2, nz3])
        refine ts 8 ⟨some 16, .call { callee := .value (.func 76), args := #[.tmp 15], argTypes := #[3] }, 3, _, _, _⟩ hHeld ?_
        (try simp only [Act.put, nz1, nz2, nz3])
        refine ts 9 ⟨some 17, .binOp .leq 3 (.tmp 13) (.tmp 16) 3, 4, _, _, _⟩ hHeld ?_
        (try simp only [Act.put, nz1, nz2, nz3])
        refine tk 10 ⟨some 18, .pick (.tmp 11) (.tmp 17) (.const (.bool false)), 4, _, _, _⟩ hHeld ?_
        (try simp only [Act.put, nz1, nz2, nz3])
        refine tk 11 ⟨some 19, .move (.tmp 18), 4, _, _, _⟩ hHeld ?_
        (try simp only [Act.put, nz1, nz2, nz3])
        refine ts 12 ⟨some 20, .load 30 (.tmp 1), 30, _, _, _⟩ hHeld ?_
        (try simp only [Act.put, nz1, nz2, nz3])
        refine ts 13 ⟨some 21, .load 30 (.tmp 1), 30, _, _, _⟩ hHeld ?_
        (try simp only [Act.put, nz1, nz2, nz3])
        refine ts 14 ⟨some 22, .fieldAddr 30 (.tmp 1) 1, 0, _, _, _⟩ hHeld ?_
        (try simp only [Act.put, nz1, nz2, nz3])
        refine ts 15 ⟨some 23, .load 3 (.tmp 22), 3, _, _, _⟩ hHeld ?_
        (try simp only [Act.put, nz1, nz2, nz3])
        refine ts 16 ⟨some 24, .call { callee := .value (.func 100), args := #[.tmp 21, .tmp 23], argTypes := #[30, 3] }, 30, _, _, _⟩ hHeld ?_
        (try simp only [Act.put, nz1, nz2, nz3])
        refine ts 17 ⟨some 25, .binOp .eql 30 (.tmp 20) (.tmp 24) 30, 4, _, _, _⟩ hHeld ?_
        (try simp only [Act.put, nz1, nz2, nz3])
        refine tk 18 ⟨some 26, .pick (.tmp 19) (.tmp 25) (.const (.bool false)), 4, _, _, _⟩ hHeld ?_
        (try simp only [Act.put, nz1, nz2, nz3])
        refine tk 19 ⟨some 2, .assign (.tmp 26), 4, _, _, _⟩ hHeld ?_
        (try simp only [Act.put, nz1, nz2, nz3])
        refine wpAnyH_done (by kernel_rfl) ?_ _
        go_wp2
        go_ret
        exact ⟨rfl, hHeld.2.2.2.2.2⟩
  · rw [if_neg k1] at HD
    have b1 : (kd == 1) = false := by simp; omega
    have b2 : (kd == 2) = false := by simp; omega
    have b1' : ¬ kd = 1 := by omega
    have b2' : ¬ kd = 2 := by omega
    by_cases k3 : kd = 3
    · rw [if_pos k3] at HD
      subst k3
      rw [HD]
      clear HD HW HT
      cases rp with
      | true =>
        rw [Bool.true_and]
        go_enter Try.func97, Try.ntmps97
        go_wp2_with fail
        refine wp_region_held_drew (S := (fun w' => w'.cell? ⟨w.heap.size, 0, none⟩ = some (.int .i64 3) ∧ w'.cell? ⟨w.heap.size, 1, none⟩ = some (.int .i64 len) ∧ w'.cell? ⟨w.heap.size, 2, none⟩ = some (.int .u64 h) ∧ w'.cell? ⟨w.heap.size, 3, none⟩ = some (.int .u64 l) ∧ w'.cell? ⟨w.heap.size, 4, none⟩ = some (.string ⟨p.toArray⟩) ∧ Below w.heap.size w w')) (by kernel_rfl) ?hSr8_ (fun hHeld => ?_)
        case hSr8_ => (first | exact ⟨c0, c1, c2, c3, c4, hb0⟩ | (obtain ⟨s0, s1, s2, s3, s4, s5⟩ := hHeld; exact ⟨cell_later hb s0, cell_later hb s1, cell_later hb s2, cell_later hb s3, cell_later hb s4, below_step s5 hb⟩))
        refine tk 0 ⟨some 29, .fieldAddr 30 (.tmp 1) 4, 0, _, _, _⟩ hHeld ?_
        (try simp only [Act.put, nz1, nz2, nz3])
        refine tk 1 ⟨some 30, .load 9 (.tmp 29), 9, _, _, _⟩ hHeld ?_
        (try simp only [Act.put, nz1, nz2, nz3])
        refine wpAnyH_ready (rs := [2]) (by kernel_rfl) (by simp) ?_
        refine AllReadyH.cons (o := ⟨some 31, .call { callee := .value (.func 102), args := #[.tmp 30], argTypes := #[9] }, 4, _, _, _⟩) rfl (fun K hK => ?_) AllReadyH.nil
        go_simp
        ((refine (HR _).mono ?_); (rintro e wn ⟨rfl, hb⟩))
        go_wp2_with fail
        refine hK.out _ _ ?hSr8_3_2 (fun hHeld2 => ?_)
        case hSr8_3_2 => (first | exact ⟨c0, c1, c2, c3, c4, hb0⟩ | (obtain ⟨s0, s1, s2, s3, s4, s5⟩ := hHeld; exact ⟨cell_later hb s0, cell_later hb s1, cell_later hb s2, cell_later hb s3, cell_later hb s4, below_step s5 hb⟩))
        clear hK K hHeld
        have hHeld := hHeld2
        clear hHeld2
        (try simp only [Act.put, nz1, nz2, nz3])
        refine tk 3 ⟨some 32, .move (.tmp 31), 4, _, _, _⟩ hHeld ?_
        (try simp only [Act.put, nz1, nz2, nz3])
        refine tk 4 ⟨some 33, .load 30 (.tmp 1), 30, _, _, _⟩ hHeld ?_
        (try simp only [Act.put, nz1, nz2, nz3])
        refine tk 5 ⟨some 34, .fieldAddr 30 (.tmp 1) 4, 0, _, _, _⟩ hHeld ?_
        (try simp only [Act.put, nz1, nz2, nz3])
        refine tk 6 ⟨some 35, .load 9 (.tmp 34), 9, _, _, _⟩ hHeld ?_
        (try simp only [Act.put, nz1, nz2, nz3])
        refine wpAnyH_ready (rs := [7]) (by kernel_rfl) (by simp) ?_
        refine AllReadyH.cons (o := ⟨some 36, .call { callee := .value (.func 103), args := #[.tmp 35], argTypes := #[9] }, 30, _, _, _⟩) rfl (fun K hK => ?_) AllReadyH.nil
        go_simp
        ((refine (HP _).mono ?_); (rintro e wn ⟨rfl, hb⟩))
        go_wp2_with fail
        refine hK.out _ _ ?hSr8_8_7 (fun hHeld2 => ?_)
        case hSr8_8_7 => (first | exact ⟨c0, c1, c2, c3, c4, hb0⟩ | (obtain ⟨s0, s1, s2, s3, s4, s5⟩ := hHeld; exact ⟨cell_later hb s0, cell_later hb s1, cell_later hb s2, cell_later hb s3, cell_later hb s4, below_step s5 hb⟩))
        clear hK K hHeld
        have hHeld := hHeld2
        clear hHeld2
        (try simp only [Act.put, nz1, nz2, nz3])
        refine tk 8 ⟨some 37, .binOp .eql 30 (.tmp 33) (.tmp 36) 30, 4, _, _, _⟩ hHeld ?_
        (try simp only [Act.put, nz1, nz2, nz3])
        refine tk 9 ⟨some 38, .pick (.tmp 32) (.tmp 37) (.const (.bool false)), 4, _, _, _⟩ hHeld ?_
        (try simp only [Act.put, nz1, nz2, nz3])
        refine tk 10 ⟨some 2, .assign (.tmp 38), 4, _, _, _⟩ hHeld ?_
        (try simp only [Act.put, nz1, nz2, nz3])
        refine wpAnyH_done (by kernel_rfl) ?_ _
        go_wp2
        go_ret
        exact ⟨rfl, hHeld.2.2.2.2.2⟩
      | false =>
        rw [Bool.false_and]
        go_enter Try.func97, Try.ntmps97
        go_wp2_with fail
        refine wp_region_held_drew (S := (fun w' => w'.cell? ⟨w.heap.size, 0, none⟩ = some (.int .i64 3) ∧ w'.cell? ⟨w.heap.size, 1, none⟩ = some (.int .i64 len) ∧ w'.cell? ⟨w.heap.size, 2, none⟩ = some (.int .u64 h) ∧ w'.cell? ⟨w.heap.size, 3, none⟩ = some (.int .u64 l) ∧ w'.cell? ⟨w.heap.size, 4, none⟩ = some (.string ⟨p.toArray⟩) ∧ Below w.heap.size w w')) (by kernel_rfl) ?hSr9_ (fun hHeld => ?_)
        case hSr9_ => (first | exact ⟨c0, c1, c2, c3, c4, hb0⟩ | (obtain ⟨s0, s1, s2, s3, s4, s5⟩ := hHeld; exact ⟨cell_later hb s0, cell_later hb s1, cell_later hb s2, cell_later hb s3, cell_later hb s4, below_step s5 hb⟩))
        refine tk 0 ⟨some 29, .fieldAddr 30 (.tmp 1) 4, 0, _, _, _⟩ hHeld ?_
        (try simp only [Act.put, nz1, nz2, nz3])
        refine tk 1 ⟨some 30, .load 9 (.tmp 29), 9, _, _, _⟩ hHeld ?_
        (try simp only [Act.put, nz1, nz2, nz3])
        refine wpAnyH_ready (rs := [2]) (by kernel_rfl) (by simp) ?_
        refine AllReadyH.cons (o := ⟨some 31, .call { callee := .value (.func 102), args := #[.tmp 30], argTypes := #[9] }, 4, _, _, _⟩) rfl (fun K hK => ?_) AllReadyH.nil
        go_simp
        ((refine (HR _).mono ?_); (rintro e wn ⟨rfl, hb⟩))
        go_wp2_with fail
        refine hK.out _ _ ?hSr9_3_2 (fun hHeld2 => ?_)
        case hSr9_3_2 => (first | exact ⟨c0, c1, c2, c3, c4, hb0⟩ | (obtain ⟨s0, s1, s2, s3, s4, s5⟩ := hHeld; exact ⟨cell_later hb s0, cell_later hb s1, cell_later hb s2, cell_later hb s3, cell_later hb s4, below_step s5 hb⟩))
        clear hK K hHeld
        have hHeld := hHeld2
        clear hHeld2
        (try simp only [Act.put, nz1, nz2, nz3])
        refine tk 3 ⟨some 32, .move (.tmp 31), 4, _, _, _⟩ hHeld ?_
        (try simp only [Act.put, nz1, nz2, nz3])
        refine ts 4 ⟨some 33, .load 30 (.tmp 1), 30, _, _, _⟩ hHeld ?_
        (try simp only [Act.put, nz1, nz2, nz3])
        refine ts 5 ⟨some 34, .fieldAddr 30 (.tmp 1) 4, 0, _, _, _⟩ hHeld ?_
        (try simp only [Act.put, nz1, nz2, nz3])
        refine ts 6 ⟨some 35, .load 9 (.tmp 34), 9, _, _, _⟩ hHeld ?_
        (try simp only [Act.put, nz1, nz2, nz3])
        refine ts 7 ⟨some 36, .call { callee := .value (.func 103), args := #[.tmp 35], argTypes := #[9] }, 30, _, _, _⟩ hHeld ?_
        (try simp only [Act.put, nz1, nz2, nz3])
        refine ts 8 ⟨some 37, .binOp .eql 30 (.tmp 33) (.tmp 36) 30, 4, _, _, _⟩ hHeld ?_
        (try simp only [Act.put, nz1, nz2, nz3])
        refine tk 9 ⟨some 38, .pick (.tmp 32) (.tmp 37) (.const (.bool false)), 4, _, _, _⟩ hHeld ?_
        (try simp only [Act.put, nz1, nz2, nz3])
        refine tk 10 ⟨some 2, .assign (.tmp 38), 4, _, _, _⟩ hHeld ?_
        (try simp only [Act.put, nz1, nz2, nz3])
        refine wpAnyH_done (by kernel_rfl) ?_ _
        go_wp2
        go_ret
        exact ⟨rfl, hHeld.2.2.2.2.2⟩
    · rw [if_neg k3] at HD
      have b3 : (kd == 3) = false := by simpa using k3
      rw [HD]
      go_enter Try.func97, Try.ntmps97
      go_wp2
      go_ret
      exact ⟨rfl, (by repeat (first | exact Below.refl _ _ | assumption | (with_reducible refine Below.setCell ?_ ?h _; case h => first | omega | (simp; done) | (simp; omega)) | (with_reducible refine Below.alloc ?_ ?h _; case h => first | omega | (simp; done) | (simp; omega)) | (with_reducible refine Below.drew ?_) | (with_reducible refine Below.trans ?_ (hb4.mono ?h); case h => first | omega | (simp; done) | (simp; omega)) | (with_reducible refine Below.trans ?_ (hb3.mono ?h); case h => first | omega | (simp; done) | (simp; omega)) | (with_reducible refine Below.trans ?_ (hb2.mono ?h); case h => first | omega | (simp; done) | (simp; omega)) | (with_reducible refine Below.trans ?_ (hb.mono ?h); case h => first | omega | (simp; done) | (simp; omega)) | (with_reducible refine Below.trans ?_ (hb0.mono ?h); case h => first | omega | (simp; done) | (simp; omega))))⟩
end Go.Proofs.Ytbekocknfpekoaa
namespace Go.Proofs.Ytbekocknfpekoaa
set_option linter.unusedVariables false
set_option linter.unusedSimpArgs false
open Go.RowKit
theorem two_rows (w : World) (a b : Array Value) (t u : TypeId) : Row ((w.alloc (.cells a t)).alloc (.cells b u)) w.heap.size a t ∧ Row ((w.alloc (.cells a t)).alloc (.cells b u)) (w.heap.size + 1) b u ∧ Below w.heap.size w ((w.alloc (.cells a t)).alloc (.cells b u)) := by
  refine ⟨(Row.new _ _ _).alloc _, ?_, (by repeat (first | exact Below.refl _ _ | assumption | (with_reducible refine Below.setCell ?_ ?h _; case h => first | omega | (simp; done) | (simp; omega)) | (with_reducible refine Below.alloc ?_ ?h _; case h => first | omega | (simp; done) | (simp; omega)) | (with_reducible refine Below.drew ?_) | (with_reducible refine Below.trans ?_ (hb4.mono ?h); case h => first | omega | (simp; done) | (simp; omega)) | (with_reducible refine Below.trans ?_ (hb3.mono ?h); case h => first | omega | (simp; done) | (simp; omega)) | (with_reducible refine Below.trans ?_ (hb2.mono ?h); case h => first | omega | (simp; done) | (simp; omega)) | (with_reducible refine Below.trans ?_ (hb.mono ?h); case h => first | omega | (simp; done) | (simp; omega)) | (with_reducible refine Below.trans ?_ (hb0.mono ?h); case h => first | omega | (simp; done) | (simp; omega))))⟩
  have := Row.new (w.alloc (.cells a t)) b u
  rwa [World.size_alloc] at this
theorem three_rows (w : World) (a b c : Array Value) (t u v : TypeId) : Row (((w.alloc (.cells a t)).alloc (.cells b u)).alloc (.cells c v)) w.heap.size a t ∧ Row (((w.alloc (.cells a t)).alloc (.cells b u)).alloc (.cells c v)) (w.heap.size + 1) b u ∧ Row (((w.alloc (.cells a t)).alloc (.cells b u)).alloc (.cells c v)) (w.heap.size + 1 + 1) c v ∧ Below w.heap.size w (((w.alloc (.cells a t)).alloc (.cells b u)).alloc (.cells c v)) := by
  obtain ⟨h1, h2, h3⟩ := two_rows w a b t u
  refine ⟨h1.alloc _, h2.alloc _, ?_, h3.alloc h3.size _⟩
  have := Row.new ((w.alloc (.cells a t)).alloc (.cells b u)) c v
  rwa [World.size_alloc, World.size_alloc] at this
set_option maxHeartbeats 4000000 in
theorem kcut_t (k : Ke) (ok : k.ok) (n : Int) (hn : n ≤ 9223372036854775807) (w : World) : Calls Try.prog 87 #[kv k, .int .i64 n] w fun e w' => e = .returned (kv (cutK k n)) ∧ Below w.heap.size w w' := by
  have HR := kright_t k ok
  have HT := ktop_t k (max n 0) ok.h ok.l (by omega) ok.path
  have HD : cutK k n = if rightK k = true then (if k.len ≤ n then k else topK k (max n 0)) else kz := rfl
  rw [HD]
  clear HD
  generalize topK k (max n 0) = t at *
  generalize rightK k = r at *
  obtain ⟨kd, len, h, l, p⟩ := k
  obtain ⟨t0, t1, t2, t3, t4⟩ := t
  clear ok
  dsimp only
  unfold kv at HR HT
  dsimp only at *
  obtain ⟨R0, R1, hb0⟩ := two_rows w #[.int .i64 kd, .int .i64 len, .int .u64 h, .int .u64 l, .string ⟨p.toArray⟩] #[.int .i64 0, .int .i64 0, .int .u64 0, .int .u64 0, .string ⟨#[]⟩] 30 30
  cases r with
  | false =>
    rw [if_neg (by simp)]
    unfold kv kz
    dsimp only
    go_enter Try.func87, Try.ntmps87
    go_wp2_with fail
    refine (HR _).mono ?_
    rintro e w1 ⟨rfl, hb⟩
    replace R1 := R1.later hb
    replace hb0 := below_step hb0 hb
    clear HR HT hb R0
    have c0 := ((R1).cell 0).trans (show _ = some (Value.int .i64 0) from rfl)
    have cf0 := (R1).frozen 0
    have c1 := ((R1).cell 1).trans (show _ = some (Value.int .i64 0) from rfl)
    have cf1 := (R1).frozen 1
    have c2 := ((R1).cell 2).trans (show _ = some (Value.int .u64 0) from rfl)
    have cf2 := (R1).frozen 2
    have c3 := ((R1).cell 3).trans (show _ = some (Value.int .u64 0) from rfl)
    have cf3 := (R1).frozen 3
    have c4 := ((R1).cell 4).trans (show _ = some (Value.string ⟨#[]⟩) from rfl)
    have cf4 := (R1).frozen 4
    clear R1
    go_wp2
    refine bodyPost_ret (v := .agg #[.int .i64 0, .int .i64 0, .int .u64 0, .int .u64 0, .string ⟨#[]⟩]) (by simp [results, Try.results87, go_sem, c0, c1, c2, c3, c4]) rfl ⟨rfl, bset5 hb0 (by omega) _ _ _ _ _⟩
  | true =>
    rw [if_pos rfl]
    by_cases hc : len ≤ n
    · rw [if_pos hc]
      unfold kv
      dsimp only
      go_enter Try.func87, Try.ntmps87
      go_wp2_with fail
      refine (HR _).mono ?_
      rintro e w1 ⟨rfl, hb⟩
      replace R1 := R1.later hb
      replace R0 := R0.later hb
      replace hb0 := below_step hb0 hb
      clear HR HT hb
      have c0 := ((R1).cell 0).trans (show _ = some (Value.int .i64 0) from rfl)
      have cf0 := (R1).frozen 0
      have c1 := ((R1).cell 1).trans (show _ = some (Value.int .i64 0) from rfl)
      have cf1 := (R1).frozen 1
      have c2 := ((R1).cell 2).trans (show _ = some (Value.int .u64 0) from rfl)
      have cf2 := (R1).frozen 2
      have c3 := ((R1).cell 3).trans (show _ = some (Value.int .u64 0) from rfl)
      have cf3 := (R1).frozen 3
      have c4 := ((R1).cell 4).trans (show _ = some (Value.string ⟨#[]⟩) from rfl)
      have cf4 := (R1).frozen 4
      have d0 := ((R0).cell 0).trans (show _ = some (Value.int .i64 kd) from rfl)
      have df0 := (R0).frozen 0
      have d1 := ((R0).cell 1).trans (show _ = some (Value.int .i64 len) from rfl)
      have df1 := (R0).frozen 1
      have d2 := ((R0).cell 2).trans (show _ = some (Value.int .u64 h) from rfl)
      have df2 := (R0).frozen 2
      have d3 := ((R0).cell 3).trans (show _ = some (Value.int .u64 l) from rfl)
      have df3 := (R0).frozen 3
      have d4 := ((R0).cell 4).trans (show _ = some (Value.string ⟨p.toArray⟩) from rfl)
      have df4 := (R0).frozen 4
      clear R1 R0
      go_wp2
      refine bodyPost_ret (v := .agg #[.int .i64 kd, .int .i64 len, .int .u64 h, .int .u64 l, .string ⟨p.toArray⟩]) (by simp [results, Try.results87, go_sem, c0, c1, c2, c3, c4]) rfl ⟨rfl, bset5 hb0 (by omega) _ _ _ _ _⟩
    · rw [if_neg hc]
      unfold kv
      dsimp only
      go_enter Try.func87, Try.ntmps87
      go_wp2_with fail
      refine (HR _).mono ?_
      rintro e w1 ⟨rfl, hb⟩
      replace R1 := R1.later hb
      replace R0 := R0.later hb
      replace hb0 := below_step hb0 hb
      clear HR hb
      have d0 := ((R0).cell 0).trans (show _ = some (Value.int .i64 kd) from rfl)
      have df0 := (R0).frozen 0
      have d1 := ((R0).cell 1).trans (show _ = some (Value.int .i64 len) from rfl)
      have df1 := (R0).frozen 1
      have d2 := ((R0).cell 2).trans (show _ = some (Value.int .u64 h) from rfl)
      have df2 := (R0).frozen 2
      have d3 := ((R0).cell 3).trans (show _ = some (Value.int .u64 l) from rfl)
      have df3 := (R0).frozen 3
      have d4 := ((R0).cell 4).trans (show _ = some (Value.string ⟨p.toArray⟩) from rfl)
      have df4 := (R0).frozen 4
      clear R0
      go_wp2_with fail
      refine (HT _).mono ?_
      rintro e w2 ⟨rfl, hb⟩
      replace R1 := R1.later hb
      replace hb0 := below_step hb0 hb
      clear HT hb d0 d1 d2 d3 d4 df0 df1 df2 df3 df4
      have c0 := ((R1).cell 0).trans (show _ = some (Value.int .i64 0) from rfl)
      have cf0 := (R1).frozen 0
      have c1 := ((R1).cell 1).trans (show _ = some (Value.int .i64 0) from rfl)
      have cf1 := (R1).frozen 1
      have c2 := ((R1).cell 2).trans (show _ = some (Value.int .u64 0) from rfl)
      have cf2 := (R1).frozen 2
      have c3 := ((R1).cell 3).trans (show _ = some (Value.int .u64 0) from rfl)
      have cf3 := (R1).frozen 3
      have c4 := ((R1).cell 4).trans (show _ = some (Value.string ⟨#[]⟩) from rfl)
      have cf4 := (R1).frozen 4
      clear R1
      go_wp2
      refine bodyPost_ret (v := .agg #[.int .i64 t0, .int .i64 t1, .int .u64 t2, .int .u64 t3, .string ⟨t4.toArray⟩]) (by simp [results, Try.results87, go_sem, c0, c1, c2, c3, c4]) rfl ⟨rfl, bset5 hb0 (by omega) _ _ _ _ _⟩
end Go.Proofs.Ytbekocknfpekoaa
namespace Go.Proofs.Ytbekocknfpekoaa
set_option linter.unusedVariables false
set_option linter.unusedSimpArgs false
open Go.RowKit
/-- -1, 0 or 1, as the bytes of a are below, equal to or above those of b -/
def cmpB (a b : ByteArray) : Int := if Op.bytesLess a.toList b.toList = true then -1 else if a.toList = b.toList then 0 else 1
def cmpS (a b : List UInt8) : Int := if Op.bytesLess a b = true then -1 else if a = b then 0 else 1
theorem bytes_list (l : List UInt8) : (⟨l.toArray⟩ : ByteArray).toList = l := by rw [ByteArray.toList_eq]
theorem cmpB_eq (a b : List UInt8) : cmpB ⟨a.toArray⟩ ⟨b.toArray⟩ = cmpS a b := by unfold cmpB cmpS; rw [bytes_list, bytes_list]
theorem nan_i (a : Int) (w : World) : Calls Try.prog 89 #[.int .i64 a] w fun e w' => e = .returned (.bool false) ∧ w = w' := by
  go_enter Try.func89, Try.ntmps89
  go_wp2
  go_ret
  exact ⟨by simp, rfl⟩
theorem nan_s (a : ByteArray) (w : World) : Calls Try.prog 101 #[.string a] w fun e w' => e = .returned (.bool false) ∧ w = w' := by
  go_enter Try.func101, Try.ntmps101
  go_wp2
  go_ret
  exact ⟨by simp, rfl⟩
set_option maxHeartbeats 1000000 in
theorem compare_i (a b : Int) (w : World) : Calls Try.prog 63 #[.int .i64 a, .int .i64 b] w fun e w' => e = .returned (.int .i64 (cmpI a b)) ∧ Below w.heap.size w w' := by
  have e1 : cmpI a b = if a < b then -1 else if a = b then 0 else 1 := rfl
  rw [e1]
  clear e1
  by_cases h1 : a < b
  · rw [if_pos h1]
    go_enter Try.func63, Try.ntmps63
    go_wp2_with fail
    refine (nan_i _ _).mono ?_
    rintro e w1 ⟨rfl, rfl⟩
    go_wp2_with fail
    refine (nan_i _ _).mono ?_
    rintro e w1 ⟨rfl, rfl⟩
    go_wp2
    go_ret
    exact ⟨rfl, bw⟩
  · rw [if_neg h1]
    by_cases h2 : a = b
    · subst h2
      rw [if_pos rfl]
      go_enter Try.func63, Try.ntmps63
      go_wp2_with fail
      refine (nan_i _ _).mono ?_
      rintro e w1 ⟨rfl, rfl⟩
      go_wp2_with fail
      refine (nan_i _ _).mono ?_
      rintro e w1 ⟨rfl, rfl⟩
      go_wp2
      go_ret
      exact ⟨rfl, bw⟩
    · rw [if_neg h2]
      have h3 : b < a := by omega
      clear h2
      go_enter Try.func63, Try.ntmps63
      go_wp2_with fail
      refine (nan_i _ _).mono ?_
      rintro e w1 ⟨rfl, rfl⟩
      go_wp2_with fail
      refine (nan_i _ _).mono ?_
      rintro e w1 ⟨rfl, rfl⟩
      go_wp2
      go_ret
      exact ⟨rfl, bw⟩
set_option maxHeartbeats 1000000 in
theorem compare_s (a b : ByteArray) (w : World) : Calls Try.prog 93 #[.string a, .string b] w fun e w' => e = .returned (.int .i64 (cmpB a b)) ∧ Below w.heap.size w w' := by
  have e1 : cmpB a b = if Op.bytesLess a.toList b.toList = true then -1 else if a.toList = b.toList then 0 else 1 := rfl
  rw [e1]
  clear e1
  cases h1 : Op.bytesLess a.toList b.toList with
  | true =>
    rw [if_pos rfl]
    go_enter Try.func93, Try.ntmps93
    go_wp2_with fail
    refine (nan_s _ _).mono ?_
    rintro e w1 ⟨rfl, rfl⟩
    go_wp2_with fail
    refine (nan_s _ _).mono ?_
    rintro e w1 ⟨rfl, rfl⟩
    go_wp2
    go_ret
    exact ⟨rfl, bw⟩
  | false =>
    rw [if_neg (by simp)]
    by_cases h2 : a.toList = b.toList
    · have h3 : (a.toList == b.toList) = true := by simpa using h2
      rw [if_pos h2]
      clear h2
      go_enter Try.func93, Try.ntmps93
      go_wp2_with fail
      refine (nan_s _ _).mono ?_
      rintro e w1 ⟨rfl, rfl⟩
      go_wp2_with fail
      refine (nan_s _ _).mono ?_
      rintro e w1 ⟨rfl, rfl⟩
      go_wp2
      go_ret
      exact ⟨rfl, bw⟩
    · have h3 : (a.toList == b.toList) = false := by simpa using h2
      rw [if_neg h2]
      clear h2
      go_enter Try.func93, Try.ntmps93
      go_wp2_with fail
      refine (nan_s _ _).mono ?_
      rintro e w1 ⟨rfl, rfl⟩
      go_wp2_with fail
      refine (nan_s _ _).mono ?_
      rintro e w1 ⟨rfl, rfl⟩
      go_wp2
      go_ret
      exact ⟨rfl, bw⟩
/-- the first that is not 0 -/
def fnz : List Int → Int
  | [] => 0
  | x :: r => if x = 0 then fnz r else x
theorem fnz_at : ∀ (l : List Int) (k : Nat) (x : Int), (∀ j y, j < k → l[j]? = some y → y = 0) → l[k]? = some x → x ≠ 0 → fnz l = x
  | [], k, x, _, h, _ => by simp at h
  | y :: r, 0, x, _, h, hx => by simp at h; subst h; rw [fnz, if_neg hx]
  | y :: r, k + 1, x, h0, h, hx => by
    rw [fnz, if_pos (h0 0 y (by omega) rfl)]
    exact fnz_at r k x (fun j z hj hz => h0 (j + 1) z (by omega) (by simpa using hz)) (by simpa using h) hx
theorem fnz_none : ∀ (l : List Int), (∀ j y, j < l.length → l[j]? = some y → y = 0) → fnz l = 0
  | [], _ => rfl
  | y :: r, h0 => by
    rw [fnz, if_pos (h0 0 y (by simp) rfl)]
    exact fnz_none r (fun j z hj hz => h0 (j + 1) z (by simp; omega) (by simpa using hz))
set_option maxHeartbeats 1000000 in
theorem or_t (l : List Int) (n : Nat) (hn : n = l.length) (g : Nat) (w : World) (h8 : l.length ≤ 1000) (h : ∀ j x, l[j]? = some x → w.cell? ⟨g, j, none⟩ = some (.int .i64 x)) :
    Calls Try.prog 90 #[.slice (some ⟨g, 0, none⟩) n n] w fun e w' => e = .returned (.int .i64 (fnz l)) ∧ Below w.heap.size w w' := by
  have H := Lib.hid h
  have HS := Lib.hid (fnz_at l)
  have HN := Lib.hid (fnz_none l)
  replace hn := Lib.hid hn
  have n8 : n ≤ 1000 := by rw [hn.out]; exact h8
  clear h h8
  go_enter Try.func90, Try.ntmps90
  go_wp2_with fail
  go_loop [8] (fun i => ∃ k : Nat, k ≤ n ∧ i = .int .i64 k ∧ Hid (∀ j y, j < k → l[j]? = some y → y = 0)) (fun i => n - (intOf i).toNat)
  case atStart => exact ⟨0, Nat.zero_le _, rfl, Lib.hid (fun j y hj => by omega)⟩
  case round =>
    obtain ⟨k, hk, rfl, hz⟩ := hrel
    by_cases hlt : k < n
    · obtain ⟨x, hx⟩ : ∃ x, l[k]? = some x := ⟨_, List.getElem?_eq_getElem (by have := hn.out; omega)⟩
      have c := H.out k x hx
      by_cases h0 : x = 0
      · subst h0
        have hz' := Lib.hid (show ∀ j y, j < k + 1 → l[j]? = some y → y = 0 from fun j y hj hy => by
          by_cases e : j = k
          · subst e; rw [hx] at hy; exact (Option.some.inj hy).symm
          · exact hz.out j y (by omega) hy)
        clear hx hz
        go_wp2
        go_round
        case rel => exact ⟨k + 1, by omega, by go_num, hz'⟩
        case measure => simp [intOf]; omega
      · have e := Lib.hid (HS.out k x hz.out hx h0)
        have h0' : (x == 0) = false := by simpa using h0
        clear hx hz
        go_wp2
        go_ret
        exact ⟨ret_int e.out.symm, bw⟩
    · have e := Lib.hid (HN.out (fun j y hj hy => hz.out j y (by have := hn.out; omega) hy))
      clear hz
      go_wp2
      go_ret
      exact ⟨ret_int e.out.symm, bw⟩
theorem or_cells {w : World} {g : Nat} {a b c d : Int} {t : TypeId} (R : Row w g #[.int .i64 a, .int .i64 b, .int .i64 c, .int .i64 d] t) : ∀ j x, [a, b, c, d][j]? = some x → w.cell? ⟨g, j, none⟩ = some (.int .i64 x) := fun j x hx => by
  rw [R.cell j]
  match j with
  | 0 | 1 | 2 | 3 => simp at hx; simp [hx]
  | n + 4 => simp at hx
def cmpK (a b : Ke) : Int := fnz [cmpI a.kind b.kind, cmpI a.num b.num, cmpS a.path b.path, cmpI a.len b.len]
set_option maxHeartbeats 4000000 in
theorem kcmp_t (a b : Ke) (ha : a.ok) (hb' : b.ok) (w : World) : Calls Try.prog 64 #[kv a, kv b] w fun e w' => e = .returned (.int .i64 (cmpK a b)) ∧ Below w.heap.size w w' := by
  have HW := cmp_any a.h a.l b.h b.l ha.h ha.l hb'.h hb'.l
  have HS := compare_s ⟨a.path.toArray⟩ ⟨b.path.toArray⟩
  rw [cmpB_eq] at HS
  have HD : cmpK a b = fnz [cmpI a.kind b.kind, cmpI a.num b.num, cmpS a.path b.path, cmpI a.len b.len] := rfl
  unfold Ke.num at HD
  rw [HD]
  clear HD
  have HO := fun g w h => or_t [cmpI a.kind b.kind, cmpI (wv a.h a.l) (wv b.h b.l), cmpS a.path b.path, cmpI a.len b.len] 4 rfl g w (by simp) h
  obtain ⟨ak, an, ah, al, ap⟩ := a
  obtain ⟨bk, bn, bh, bl, bp⟩ := b
  clear ha hb'
  dsimp only at *
  have HK := compare_i ak bk
  have HL := compare_i an bn
  generalize cmpI (wv ah al) (wv bh bl) = x1 at *
  generalize cmpI ak bk = x0 at *
  generalize cmpS ap bp = x2 at *
  generalize cmpI an bn = x3 at *
  have HBa := bits_t ak an ah al ⟨ap.toArray⟩
  have HBb := bits_t bk bn bh bl ⟨bp.toArray⟩
  obtain ⟨R0, R1, hb0⟩ := two_rows w #[.int .i64 ak, .int .i64 an, .int .u64 ah, .int .u64 al, .string ⟨ap.toArray⟩] #[.int .i64 bk, .int .i64 bn, .int .u64 bh, .int .u64 bl, .string ⟨bp.toArray⟩] 30 30
  replace R0 := R0.drew
  replace R1 := R1.drew
  replace hb0 := hb0.drew
  have c0 := ((R0).cell 0).trans (show _ = some (Value.int .i64 ak) from rfl)
  have cf0 := (R0).frozen 0
  have c1 := ((R0).cell 1).trans (show _ = some (Value.int .i64 an) from rfl)
  have cf1 := (R0).frozen 1
  have c2 := ((R0).cell 2).trans (show _ = some (Value.int .u64 ah) from rfl)
  have cf2 := (R0).frozen 2
  have c3 := ((R0).cell 3).trans (show _ = some (Value.int .u64 al) from rfl)
  have cf3 := (R0).frozen 3
  have c4 := ((R0).cell 4).trans (show _ = some (Value.string ⟨ap.toArray⟩) from rfl)
  have cf4 := (R0).frozen 4
  have d0 := ((R1).cell 0).trans (show _ = some (Value.int .i64 bk) from rfl)
  have df0 := (R1).frozen 0
  have d1 := ((R1).cell 1).trans (show _ = some (Value.int .i64 bn) from rfl)
  have df1 := (R1).frozen 1
  have d2 := ((R1).cell 2).trans (show _ = some (Value.int .u64 bh) from rfl)
  have df2 := (R1).frozen 2
  have d3 := ((R1).cell 3).trans (show _ = some (Value.int .u64 bl) from rfl)
  have df3 := (R1).frozen 3
  have d4 := ((R1).cell 4).trans (show _ = some (Value.string ⟨bp.toArray⟩) from rfl)
  have df4 := (R1).frozen 4
  clear R0 R1
  unfold kv
  dsimp only
  generalize fnz [x0, x1, x2, x3] = r at *
  go_enter Try.func64, Try.ntmps64
  go_wp2_with fail
  refine wp_region_held_drew (S := (fun w' => w'.cell? ⟨w.heap.size, 0, none⟩ = some (.int .i64 ak) ∧ w'.cell? ⟨w.heap.size, 1, none⟩ = some (.int .i64 an) ∧ w'.cell? ⟨w.heap.size, 2, none⟩ = some (.int .u64 ah) ∧ w'.cell? ⟨w.heap.size, 3, none⟩ = some (.int .u64 al) ∧ w'.cell? ⟨w.heap.size, 4, none⟩ = some (.string ⟨ap.toArray⟩) ∧ w'.cell? ⟨w.heap.size + 1, 0, none⟩ = some (.int .i64 bk) ∧ w'.cell? ⟨w.heap.size + 1, 1, none⟩ = some (.int .i64 bn) ∧ w'.cell? ⟨w.heap.size + 1, 2, none⟩ = some (.int .u64 bh) ∧ w'.cell? ⟨w.heap.size + 1, 3, none⟩ = some (.int .u64 bl) ∧ w'.cell? ⟨w.heap.size + 1, 4, none⟩ = some (.string ⟨bp.toArray⟩) ∧ Below w.heap.size w w')) (by kernel_rfl) ?hSr10_ (fun hHeld => ?_)
  case hSr10_ => (first | exact ⟨c0, c1, c2, c3, c4, d0, d1, d2, d3, d4, hb0⟩ | (obtain ⟨s0, s1, s2, s3, s4, t0, t1, t2, t3, t4, s5⟩ := hHeld; exact ⟨cell_later hb s0, cell_later hb s1, cell_later hb s2, cell_later hb s3, cell_later hb s4, cell_later hb t0, cell_later hb t1, cell_later hb t2, cell_later hb t3, cell_later hb t4, below_step s5 hb⟩))
  refine tk 0 ⟨some 5, .fieldAddr 30 (.tmp 2) 0, 0, _, _, _⟩ hHeld ?_
  (try simp only [Act.put, nz1, nz2, nz3])
  refine tk 1 ⟨some 6, .load 3 (.tmp 5), 3, _, _, _⟩ hHeld ?_
  (try simp only [Act.put, nz1, nz2, nz3])
  refine tk 2 ⟨some 7, .fieldAddr 30 (.tmp 3) 0, 0, _, _, _⟩ hHeld ?_
  (try simp only [Act.put, nz1, nz2, nz3])
  refine tk 3 ⟨some 8, .load 3 (.tmp 7), 3, _, _, _⟩ hHeld ?_
  (try simp only [Act.put, nz1, nz2, nz3])
  refine tk 5 ⟨some 10, .load 30 (.tmp 2), 30, _, _, _⟩ hHeld ?_
  (try simp only [Act.put, nz1, nz2, nz3])
  refine tk 7 ⟨some 12, .load 30 (.tmp 3), 30, _, _, _⟩ hHeld ?_
  (try simp only [Act.put, nz1, nz2, nz3])
  refine tk 10 ⟨some 15, .fieldAddr 30 (.tmp 2) 4, 0, _, _, _⟩ hHeld ?_
  (try simp only [Act.put, nz1, nz2, nz3])
  refine tk 11 ⟨some 16, .load 9 (.tmp 15), 9, _, _, _⟩ hHeld ?_
  (try simp only [Act.put, nz1, nz2, nz3])
  refine tk 12 ⟨some 17, .fieldAddr 30 (.tmp 3) 4, 0, _, _, _⟩ hHeld ?_
  (try simp only [Act.put, nz1, nz2, nz3])
  refine tk 13 ⟨some 18, .load 9 (.tmp 17), 9, _, _, _⟩ hHeld ?_
  (try simp only [Act.put, nz1, nz2, nz3])
  refine tk 15 ⟨some 20, .fieldAddr 30 (.tmp 2) 1, 0, _, _, _⟩ hHeld ?_
  (try simp only [Act.put, nz1, nz2, nz3])
  refine tk 16 ⟨some 21, .load 3 (.tmp 20), 3, _, _, _⟩ hHeld ?_
  (try simp only [Act.put, nz1, nz2, nz3])
  refine tk 17 ⟨some 22, .fieldAddr 30 (.tmp 3) 1, 0, _, _, _⟩ hHeld ?_
  (try simp only [Act.put, nz1, nz2, nz3])
  refine tk 18 ⟨some 23, .load 3 (.tmp 22), 3, _, _, _⟩ hHeld ?_
  (try simp only [Act.put, nz1, nz2, nz3])
  refine wpAnyH_ready (rs := [4]) (by kernel_rfl) (by simp) ?_
  refine AllReadyH.cons (o := ⟨some 9, .call { callee := .value (.func 63), args := #[.tmp 6, .tmp 8], argTypes := #[3, 3] }, 3, _, _, _⟩) rfl (fun K hK => ?_) AllReadyH.nil
  (go_simp; (refine (HK _).mono ?_); (rintro e wn ⟨rfl, hb⟩); go_wp2_with fail)
  refine hK.out _ _ ?hSr10_15_4 (fun hHeld2 => ?_)
  case hSr10_15_4 => (first | exact ⟨c0, c1, c2, c3, c4, d0, d1, d2, d3, d4, hb0⟩ | (obtain ⟨s0, s1, s2, s3, s4, t0, t1, t2, t3, t4, s5⟩ := hHeld; exact ⟨cell_later hb s0, cell_later hb s1, cell_later hb s2, cell_later hb s3, cell_later hb s4, cell_later hb t0, cell_later hb t1, cell_later hb t2, cell_later hb t3, cell_later hb t4, below_step s5 hb⟩))
  clear hK K hHeld
  have hHeld := hHeld2
  clear hHeld2
  (try simp only [Act.put, nz1, nz2, nz3])
  refine wpAnyH_ready (rs := [6]) (by kernel_rfl) (by simp) ?_
  refine AllReadyH.cons (o := ⟨some 11, .call { callee := .value (.func 92), args := #[.tmp 10], argTypes := #[30] }, 96, _, _, _⟩) rfl (fun K hK => ?_) AllReadyH.nil
  (go_simp; (refine (HBa _).mono ?_); (rintro e wn ⟨rfl, hb⟩); go_wp2_with fail)
  refine hK.out _ _ ?hSr10_16_6 (fun hHeld2 => ?_)
  case hSr10_16_6 => (first | exact ⟨c0, c1, c2, c3, c4, d0, d1, d2, d3, d4, hb0⟩ | (obtain ⟨s0, s1, s2, s3, s4, t0, t1, t2, t3, t4, s5⟩ := hHeld; exact ⟨cell_later hb s0, cell_later hb s1, cell_later hb s2, cell_later hb s3, cell_later hb s4, cell_later hb t0, cell_later hb t1, cell_later hb t2, cell_later hb t3, cell_later hb t4, below_step s5 hb⟩))
  clear hK K hHeld
  have hHeld := hHeld2
  clear hHeld2
  (try simp only [Act.put, nz1, nz2, nz3])
  refine wpAnyH_ready (rs := [8]) (by kernel_rfl) (by simp) ?_
  refine AllReadyH.cons (o := ⟨some 13, .call { callee := .value (.func 92), args := #[.tmp 12], argTypes := #[30] }, 96, _, _, _⟩) rfl (fun K hK => ?_) AllReadyH.nil
  (go_simp; (refine (HBb _).mono ?_); (rintro e wn ⟨rfl, hb⟩); go_wp2_with fail)
  refine hK.out _ _ ?hSr10_17_8 (fun hHeld2 => ?_)
  case hSr10_17_8 => (first | exact ⟨c0, c1, c2, c3, c4, d0, d1, d2, d3, d4, hb0⟩ | (obtain ⟨s0, s1, s2, s3, s4, t0, t1, t2, t3, t4, s5⟩ := hHeld; exact ⟨cell_later hb s0, cell_later hb s1, cell_later hb s2, cell_later hb s3, cell_later hb s4, cell_later hb t0, cell_later hb t1, cell_later hb t2, cell_later hb t3, cell_later hb t4, below_step s5 hb⟩))
  clear hK K hHeld
  have hHeld := hHeld2
  clear hHeld2
  (try simp only [Act.put, nz1, nz2, nz3])
  refine wpAnyH_ready (rs := [9]) (by kernel_rfl) (by simp) ?_
  refine AllReadyH.cons (o := ⟨some 14, .call { callee := .value (.func 91), args := #[.tmp 11, .tmp 13], argTypes := #[96, 96] }, 3, _, _, _⟩) rfl (fun K hK => ?_) AllReadyH.nil
  go_simp
  ((refine (HW _).mono ?_); (rintro e wn ⟨rfl, hb⟩))
  go_wp2_with fail
  refine hK.out _ _ ?hSr10_18_9 (fun hHeld2 => ?_)
  case hSr10_18_9 => (first | exact ⟨c0, c1, c2, c3, c4, d0, d1, d2, d3, d4, hb0⟩ | (obtain ⟨s0, s1, s2, s3, s4, t0, t1, t2, t3, t4, s5⟩ := hHeld; exact ⟨cell_later hb s0, cell_later hb s1, cell_later hb s2, cell_later hb s3, cell_later hb s4, cell_later hb t0, cell_later hb t1, cell_later hb t2, cell_later hb t3, cell_later hb t4, below_step s5 hb⟩))
  clear hK K hHeld
  have hHeld := hHeld2
  clear hHeld2
  (try simp only [Act.put, nz1, nz2, nz3])
  refine wpAnyH_ready (rs := [14]) (by kernel_rfl) (by simp) ?_
  refine AllReadyH.cons (o := ⟨some 19, .call { callee := .value (.func 93), args := #[.tmp 16, .tmp 18], argTypes := #[9, 9] }, 3, _, _, _⟩) rfl (fun K hK => ?_) AllReadyH.nil
  go_simp
  ((refine (HS _).mono ?_); (rintro e wn ⟨rfl, hb⟩))
  go_wp2_with fail
  refine hK.out _ _ ?hSr10_19_14 (fun hHeld2 => ?_)
  case hSr10_19_14 => (first | exact ⟨c0, c1, c2, c3, c4, d0, d1, d2, d3, d4, hb0⟩ | (obtain ⟨s0, s1, s2, s3, s4, t0, t1, t2, t3, t4, s5⟩ := hHeld; exact ⟨cell_later hb s0, cell_later hb s1, cell_later hb s2, cell_later hb s3, cell_later hb s4, cell_later hb t0, cell_later hb t1, cell_later hb t2, cell_later hb t3, cell_later hb t4, below_step s5 hb⟩))
  clear hK K hHeld
  have hHeld := hHeld2
  clear hHeld2
  (try simp only [Act.put, nz1, nz2, nz3])
  refine wpAnyH_ready (rs := [19]) (by kernel_rfl) (by simp) ?_
  refine AllReadyH.cons (o := ⟨some 24, .call { callee := .value (.func 63), args := #[.tmp 21, .tmp 23], argTypes := #[3, 3] }, 3, _, _, _⟩) rfl (fun K hK => ?_) AllReadyH.nil
  (go_simp; (refine (HL _).mono ?_); (rintro e wn ⟨rfl, hb⟩); go_wp2_with fail)
  refine hK.out _ _ ?hSr10_20_19 (fun hHeld2 => ?_)
  case hSr10_20_19 => (first | exact ⟨c0, c1, c2, c3, c4, d0, d1, d2, d3, d4, hb0⟩ | (obtain ⟨s0, s1, s2, s3, s4, t0, t1, t2, t3, t4, s5⟩ := hHeld; exact ⟨cell_later hb s0, cell_later hb s1, cell_later hb s2, cell_later hb s3, cell_later hb s4, cell_later hb t0, cell_later hb t1, cell_later hb t2, cell_later hb t3, cell_later hb t4, below_step s5 hb⟩))
  clear hK K hHeld
  have hHeld := hHeld2
  clear hHeld2
  (try simp only [Act.put, nz1, nz2, nz3])
  refine wpAnyH_ready (rs := [20]) (by kernel_rfl) (by simp) ?_
  refine AllReadyH.cons (o := ⟨some 25, .buildSlice 89 4 #[(0, .tmp 9), (1, .tmp 14), (2, .tmp 19), (3, .tmp 24)], 89, _, _, _⟩) rfl (fun K hK => ?_) AllReadyH.nil
  (go_simp; (have R4 := Row.new wn #[.int .i64 x0, .int .i64 x1, .int .i64 x2, .int .i64 x3] 3); (have hb : Below wn.heap.size wn (wn.alloc (.cells #[.int .i64 x0, .int .i64 x1, .int .i64 x2, .int .i64 x3] 3)) := (Below.refl _ _).alloc (Nat.le_refl _) _); (have HO4 := Lib.hid (HO _ _ (or_cells R4))); generalize wn.alloc (.cells #[.int .i64 x0, .int .i64 x1, .int .i64 x2, .int .i64 x3] 3) = wm at *)
  refine hK.out _ _ ?hSr10_21_20 (fun hHeld2 => ?_)
  case hSr10_21_20 => (first | exact ⟨c0, c1, c2, c3, c4, d0, d1, d2, d3, d4, hb0⟩ | (obtain ⟨s0, s1, s2, s3, s4, t0, t1, t2, t3, t4, s5⟩ := hHeld; exact ⟨cell_later hb s0, cell_later hb s1, cell_later hb s2, cell_later hb s3, cell_later hb s4, cell_later hb t0, cell_later hb t1, cell_later hb t2, cell_later hb t3, cell_later hb t4, below_step s5 hb⟩))
  clear hK K hHeld
  have hHeld := hHeld2
  clear hHeld2
  (try simp only [Act.put, nz1, nz2, nz3])
  refine wpAnyH_ready (rs := [21]) (by kernel_rfl) (by simp) ?_
  refine AllReadyH.cons (o := ⟨some 26, .call { callee := .value (.func 90), args := #[.tmp 25], argTypes := #[89] }, 3, _, _, _⟩) rfl (fun K hK => ?_) AllReadyH.nil
  (go_simp; (refine HO4.out.mono ?_); (rintro e wo ⟨rfl, hb⟩); go_wp2_with fail)
  refine hK.out _ _ ?hSr10_22_21 (fun hHeld2 => ?_)
  case hSr10_22_21 => (first | exact ⟨c0, c1, c2, c3, c4, d0, d1, d2, d3, d4, hb0⟩ | (obtain ⟨s0, s1, s2, s3, s4, t0, t1, t2, t3, t4, s5⟩ := hHeld; exact ⟨cell_later hb s0, cell_later hb s1, cell_later hb s2, cell_later hb s3, cell_later hb s4, cell_later hb t0, cell_later hb t1, cell_later hb t2, cell_later hb t3, cell_later hb t4, below_step s5 hb⟩))
  clear hK K hHeld
  have hHeld := hHeld2
  clear hHeld2
  (try simp only [Act.put, nz1, nz2, nz3])
  refine tk 22 ⟨some 4, .assign (.tmp 26), 3, _, _, _⟩ hHeld ?_
  (try simp only [Act.put, nz1, nz2, nz3])
  refine wpAnyH_done (by kernel_rfl) ?_ _
  (go_wp2; go_ret; exact ⟨rfl, hHeld.2.2.2.2.2.2.2.2.2.2⟩)
end Go.Proofs.Ytbekocknfpekoaa
namespace Go.Proofs.Ytbekocknfpekoaa
set_option linter.unusedVariables false
set_option linter.unusedSimpArgs false
open Go.ChangeShapes Go.WideShapes Go.ChangeAt Go.RowKit Go.Joins Go.Deep
theorem cellsKey : Try.prog.cellsOf 30 = 5 := by kernel_rfl
theorem cellsDim : Try.prog.cellsOf 23 = 3 := by kernel_rfl
/-- what a key holds as an argument, its path's length aside -/
structure Ke.okL (k : Ke) : Prop where
  h : Word k.h
  l : Word k.l
  k0 : -9223372036854775808 ≤ k.kind
  k1 : k.kind ≤ 9223372036854775807
  n0 : -9223372036854775808 ≤ k.len
  n1 : k.len ≤ 9223372036854775807
section
variable {H : Type} {enc : TypeId × Value → H} {W : World} {base : Nat} {sp : Nat → Bool} {held : Bool}
/-- a struct whose fields take one cell each: field i is read from cell i -/
theorem field_at {fs : Array Field} {t : TypeId} {fuel : Nat} {cs : List Value} {x : DataW H × List MemPlace} (hs : Try.prog.underlying t = some (.struct fs)) (hone : oneCellFields Try.prog fs = true)
    (hf : DataW.trod enc Try.prog W base sp held fuel t cs = some x) (i : Nat) (f : Field) (v : Value) (hi : fs[i]? = some f) (hv : cs[i]? = some v) : ∃ n y, DataW.trod enc Try.prog W base sp held n f.type [v] = some y ∧ ∃ ys : List (DataW H), x.1 = .agg ys ∧ ys.length = fs.size ∧ ys[i]? = some y.1 := by
  obtain ⟨xs, n, _, hx, _, hlen, hg⟩ := DataW.trod_struct hs hf
  obtain ⟨ho, hk⟩ := hone_of hone i f hi
  have h := hg i f hi
  have hil : i < fs.size := (Array.getElem?_eq_some_iff.1 hi).1
  rw [ho, hk, List.getElem?_eq_getElem (by omega)] at h
  have hc : (cs.drop i).take 1 = [v] := by
    obtain ⟨hlt, rfl⟩ := List.getElem?_eq_some_iff.1 hv
    rw [List.drop_eq_getElem_cons hlt]; rfl
  rw [hc] at h
  exact ⟨n, _, h, xs.map (·.1), by rw [hx], by simp [hlen], by rw [List.getElem?_map, List.getElem?_eq_getElem (by omega)]; rfl⟩
structure Dm where
  kind : Int
  side : Int
  step : Int
  deriving DecidableEq
def dv (d : Dm) : Value := .agg #[.int .i64 d.kind, .int .i64 d.side, .int .i64 d.step]
structure Dm.ok (d : Dm) : Prop where
  k0 : -9223372036854775808 ≤ d.kind
  k1 : d.kind ≤ 9223372036854775807
  s0 : -9223372036854775808 ≤ d.side
  s1 : d.side ≤ 9223372036854775807
  t0 : -9223372036854775808 ≤ d.step
  t1 : d.step ≤ 9223372036854775807
end
end Go.Proofs.Ytbekocknfpekoaa
namespace Go.Proofs.Ytbekocknfpekoaa
set_option linter.unusedVariables false
set_option linter.unusedSimpArgs false
open Go.RowKit
def fourK (a : Int) : Ke := ⟨1, 32, hi (a * 2 ^ 96), lo (a * 2 ^ 96), []⟩
def sixK (h l : Int) : Ke := ⟨2, 128, h, l, []⟩
def rootK (kind : Int) : Ke := if wid kind = 0 then kz else ⟨kind, 0, 0, 0, []⟩
def pathE (p : List UInt8) : Int := if rightB p = true then 0 else 3
def pathR (p : List UInt8) : Ke := if rightB p = true then pathK p else kz
set_option maxHeartbeats 1000000 in
theorem kfour_t (a : Int) (h0 : 0 ≤ a) (h1 : a < 4294967296) (w : World) : Calls Try.prog 60 #[.int .u32 a] w fun e w' => e = .returned (kv (fourK a)) ∧ Below w.heap.size w w' := by
  have ha : Word a := by unfold Word; omega
  have HO := of_any a
  have HL := left_any 0 a 96 (by unfold Word; omega) ha
  have ew : wv 0 a = a := by unfold wv; omega
  rw [ew] at HL
  have e2 : (2 : Int) ^ (96 : Int).toNat = 2 ^ 96 := rfl
  rw [e2] at HL
  unfold kv fourK
  dsimp only
  generalize hi (a * 2 ^ 96) = H at *
  generalize lo (a * 2 ^ 96) = L at *
  have HB := ofBits_t 1 32 H L
  have wr : IntKind.u64.wrap a = a := by rw [IntKind.wrap_u64]; omega
  have hb0 : Below w.heap.size w (w.alloc (.cells #[.int .i64 0, .int .i64 0, .int .u64 0, .int .u64 0, .string ⟨#[]⟩] 30)) := (by repeat (first | exact Below.refl _ _ | assumption | (with_reducible refine Below.setCell ?_ ?h _; case h => first | omega | (simp; done) | (simp; omega)) | (with_reducible refine Below.alloc ?_ ?h _; case h => first | omega | (simp; done) | (simp; omega)) | (with_reducible refine Below.drew ?_) | (with_reducible refine Below.trans ?_ (hb4.mono ?h); case h => first | omega | (simp; done) | (simp; omega)) | (with_reducible refine Below.trans ?_ (hb3.mono ?h); case h => first | omega | (simp; done) | (simp; omega)) | (with_reducible refine Below.trans ?_ (hb2.mono ?h); case h => first | omega | (simp; done) | (simp; omega)) | (with_reducible refine Below.trans ?_ (hb.mono ?h); case h => first | omega | (simp; done) | (simp; omega)) | (with_reducible refine Below.trans ?_ (hb0.mono ?h); case h => first | omega | (simp; done) | (simp; omega))))
  have R := Row.new w #[.int .i64 0, .int .i64 0, .int .u64 0, .int .u64 0, .string ⟨#[]⟩] 30
  go_enter Try.func60, Try.ntmps60
  go_wp2_with fail
  refine (HO _).mono ?_
  rintro e w1 ⟨rfl, hb⟩
  replace R := R.later hb
  replace hb0 := below_step hb0 hb
  clear hb HO
  go_wp2_with fail
  refine (HL _).mono ?_
  rintro e w2 ⟨rfl, hb⟩
  replace R := R.later hb
  replace hb0 := below_step hb0 hb
  clear hb HL
  go_wp2_with fail
  refine (HB _).mono ?_
  rintro e w3 ⟨rfl, hb⟩
  replace R := R.later hb
  replace hb0 := below_step hb0 hb
  clear hb HB
  have c0 := ((R).cell 0).trans (show _ = some (Value.int .i64 0) from rfl)
  have cf0 := (R).frozen 0
  have c1 := ((R).cell 1).trans (show _ = some (Value.int .i64 0) from rfl)
  have cf1 := (R).frozen 1
  have c2 := ((R).cell 2).trans (show _ = some (Value.int .u64 0) from rfl)
  have cf2 := (R).frozen 2
  have c3 := ((R).cell 3).trans (show _ = some (Value.int .u64 0) from rfl)
  have cf3 := (R).frozen 3
  have c4 := ((R).cell 4).trans (show _ = some (Value.string ⟨#[]⟩) from rfl)
  have cf4 := (R).frozen 4
  clear R
  go_wp2
  refine bodyPost_ret (v := .agg #[.int .i64 1, .int .i64 32, .int .u64 H, .int .u64 L, .string ⟨#[]⟩]) (by simp [results, Try.results60, go_sem, c0, c1, c2, c3, c4]) rfl ⟨rfl, bset5 hb0 (Nat.le_refl _) _ _ _ _ _⟩
set_option maxHeartbeats 1000000 in
theorem kroot_t (k : Int) (w : World) : Calls Try.prog 56 #[.int .i64 k] w fun e w' => e = .returned (kv (rootK k)) ∧ Below w.heap.size w w' := by
  have HW := width_t k
  unfold rootK
  generalize wid k = d at *
  have hb0 : Below w.heap.size w (w.alloc (.cells #[.int .i64 0, .int .i64 0, .int .u64 0, .int .u64 0, .string ⟨#[]⟩] 30)) := (by repeat (first | exact Below.refl _ _ | assumption | (with_reducible refine Below.setCell ?_ ?h _; case h => first | omega | (simp; done) | (simp; omega)) | (with_reducible refine Below.alloc ?_ ?h _; case h => first | omega | (simp; done) | (simp; omega)) | (with_reducible refine Below.drew ?_) | (with_reducible refine Below.trans ?_ (hb4.mono ?h); case h => first | omega | (simp; done) | (simp; omega)) | (with_reducible refine Below.trans ?_ (hb3.mono ?h); case h => first | omega | (simp; done) | (simp; omega)) | (with_reducible refine Below.trans ?_ (hb2.mono ?h); case h => first | omega | (simp; done) | (simp; omega)) | (with_reducible refine Below.trans ?_ (hb.mono ?h); case h => first | omega | (simp; done) | (simp; omega)) | (with_reducible refine Below.trans ?_ (hb0.mono ?h); case h => first | omega | (simp; done) | (simp; omega))))
  have R := Row.new w #[.int .i64 0, .int .i64 0, .int .u64 0, .int .u64 0, .string ⟨#[]⟩] 30
  by_cases h : d = 0
  · subst h
    rw [if_pos rfl]
    unfold kv kz
    dsimp only
    go_enter Try.func56, Try.ntmps56
    go_wp2_with fail
    refine (HW _).mono ?_
    rintro e w1 ⟨rfl, hb⟩
    replace R := R.later hb
    replace hb0 := below_step hb0 hb
    clear hb HW
    have c0 := ((R).cell 0).trans (show _ = some (Value.int .i64 0) from rfl)
    have cf0 := (R).frozen 0
    have c1 := ((R).cell 1).trans (show _ = some (Value.int .i64 0) from rfl)
    have cf1 := (R).frozen 1
    have c2 := ((R).cell 2).trans (show _ = some (Value.int .u64 0) from rfl)
    have cf2 := (R).frozen 2
    have c3 := ((R).cell 3).trans (show _ = some (Value.int .u64 0) from rfl)
    have cf3 := (R).frozen 3
    have c4 := ((R).cell 4).trans (show _ = some (Value.string ⟨#[]⟩) from rfl)
    have cf4 := (R).frozen 4
    clear R
    go_wp2
    refine bodyPost_ret (v := .agg #[.int .i64 0, .int .i64 0, .int .u64 0, .int .u64 0, .string ⟨#[]⟩]) (by simp [results, Try.results56, go_sem, c0, c1, c2, c3, c4]) rfl ⟨rfl, bset5 hb0 (by omega) _ _ _ _ _⟩
  · rw [if_neg h]
    have h' : (d == 0) = false := by simpa using h
    unfold kv
    dsimp only
    go_enter Try.func56, Try.ntmps56
    go_wp2_with fail
    refine (HW _).mono ?_
    rintro e w1 ⟨rfl, hb⟩
    replace R := R.later hb
    replace hb0 := below_step hb0 hb
    clear hb HW
    have c0 := ((R).cell 0).trans (show _ = some (Value.int .i64 0) from rfl)
    have cf0 := (R).frozen 0
    have c1 := ((R).cell 1).trans (show _ = some (Value.int .i64 0) from rfl)
    have cf1 := (R).frozen 1
    have c2 := ((R).cell 2).trans (show _ = some (Value.int .u64 0) from rfl)
    have cf2 := (R).frozen 2
    have c3 := ((R).cell 3).trans (show _ = some (Value.int .u64 0) from rfl)
    have cf3 := (R).frozen 3
    have c4 := ((R).cell 4).trans (show _ = some (Value.string ⟨#[]⟩) from rfl)
    have cf4 := (R).frozen 4
    clear R
    go_wp2
    refine bodyPost_ret (v := .agg #[.int .i64 k, .int .i64 0, .int .u64 0, .int .u64 0, .string ⟨#[]⟩]) (by simp [results, Try.results56, go_sem, c0, c1, c2, c3, c4]) rfl ⟨rfl, bset5 hb0 (by omega) _ _ _ _ _⟩
end Go.Proofs.Ytbekocknfpekoaa
namespace Go.Proofs.Ytbekocknfpekoaa
set_option linter.unusedVariables false
set_option linter.unusedSimpArgs false
open Go.RowKit
def bit01 (b : Bool) : Int := if b = true then 1 else 0
end Go.Proofs.Ytbekocknfpekoaa
namespace Go.Proofs.Ytbekocknfpekoaa
set_option linter.unusedVariables false
set_option linter.unusedSimpArgs false
open Go.RowKit
def valsS (ls : List (List UInt8)) : List Value := ls.map fun x => Value.string ⟨x.toArray⟩
/-- the value v, a slice, is a row of its own from block base on, and reads as the texts ls -/
def OwnS (base : Nat) (w : World) (v : Value) (ls : List (List UInt8)) : Prop := w.ownsRow base 9 1 v ls.length (valsS ls)
theorem OwnS.later {base : Nat} {w w' : World} {v : Value} {l : List (List UInt8)} (h : OwnS base w v l) (hb : Below w.heap.size w w') : OwnS base w' v l := by
  obtain ⟨hl, h⟩ := h
  refine ⟨hl, ?_⟩
  rcases h with h | ⟨g, cap, cur, hv, hbs, hg, h1⟩
  · exact .inl h
  · exact .inr ⟨g, cap, cur, hv, hbs, (Row.later (t := 9) hg hb), h1⟩
theorem OwnS.block {base : Nat} {w : World} {v : Value} {l : List (List UInt8)} (h : OwnS base w v l) (g : Nat) (hg : v.ownBlock = some g) : base ≤ g ∧ g < w.heap.size := by
  rcases h.2 with ⟨rfl, _⟩ | ⟨g', cap, cur, rfl, hbs, hr, _⟩
  · cases hg
  · have : g' = g := by simpa [Value.ownBlock] using hg
    subst this
    exact ⟨hbs, Row.lt (t := 9) hr⟩
theorem OwnS.nil (base : Nat) (w : World) : OwnS base w (.slice none 0 0) [] := ⟨rfl, .inl ⟨rfl, rfl⟩⟩
theorem OwnS.read {base : Nat} {w : World} {v : Value} {l : List (List UInt8)} (h : OwnS base w v l) : SS w v l := by
  obtain ⟨hl, h⟩ := h
  rcases h with ⟨rfl, h0⟩ | ⟨g, cap, cur, rfl, hb, hg, h1, h2, h3, h4⟩
  · exact ⟨none, 0, by rw [h0], by omega, fun h => by omega⟩
  · refine ⟨_, cap, rfl, by omega, fun _ => ⟨g, 0, rfl, Row.lt (t := 9) hg, fun j x hx => ?_⟩⟩
    rw [Nat.zero_add, cell_of_row w g j cur _ _ hg, ← Array.getElem?_toList]
    have hj : j < l.length := by rw [List.getElem?_eq_some_iff] at hx; exact hx.1
    have : (valsS l)[j]? = some (.string ⟨x.toArray⟩) := by unfold valsS; rw [List.getElem?_map, hx]; rfl
    rw [← h4, List.getElem?_take, if_pos (by omega)] at this
    exact this
/-! the reference's IsLabel -/
end Go.Proofs.Ytbekocknfpekoaa
namespace Go.Proofs.Ytbekocknfpekoaa
set_option linter.unusedVariables false
set_option linter.unusedSimpArgs false
open Go.RowKit
theorem drop_split (l : List UInt8) (fr j : Nat) (h : fr ≤ j) (hj : j < l.length) : l.drop fr = (l.take j).drop fr ++ l[j] :: l.drop (j + 1) := by
  have h1 : l.drop fr = (l.take j ++ l.drop j).drop fr := by rw [List.take_append_drop]
  rw [h1, List.drop_append_of_le_length (by simp; omega), List.drop_eq_getElem_cons hj]
def SpInv (l : List UInt8) (fr j : Nat) (vs : List (List UInt8)) : Prop :=
  (∀ x ∈ vs, labB x = true) ∧ ((fr ≤ j ∧ j ≤ l.length ∧ (46 : UInt8) ∉ (l.take j).drop fr ∧ splitD l = vs ++ splitD (l.drop fr)) ∨ (j = l.length + 1 ∧ splitD l = vs))
/-- what a part at place j does -/
def PartDo (l : List UInt8) (fr j : Nat) (vs : List (List UInt8)) (p : List UInt8) : Prop := fr ≤ j ∧ (labB p = true → vs.length < 8 → SpInv l (j + 1) (j + 1) (vs ++ [p])) ∧ (labB p = false ∨ 8 ≤ vs.length → rightB l = false)
theorem rb_false {l : List UInt8} (h0 : l ≠ []) {vs rest : List (List UInt8)} {p : List UInt8} (h : splitD l = vs ++ p :: rest) (hb : labB p = false ∨ 8 ≤ vs.length) : rightB l = false := by
  unfold rightB partsL
  rw [if_neg h0, h]
  rcases hb with hb | hb
  · simp [hb]
  · have : ¬ (vs ++ p :: rest).length ≤ 8 := by simp; omega
    simp only [this]; simp
theorem SpInv.part {l : List UInt8} {fr j : Nat} {vs : List (List UInt8)} (h0 : l ≠ []) (h : SpInv l fr j vs) (hj : j < l.length) (hc : l[j] = 46) : PartDo l fr j vs ((l.take j).drop fr) := by
  rcases h.2 with ⟨h1, h2, h3, h4⟩ | ⟨h1, _⟩
  · have hs : splitD (l.drop fr) = (l.take j).drop fr :: splitD (l.drop (j + 1)) := by rw [drop_split l fr j h1 hj, hc, splitD_at _ _ h3]
    rw [hs] at h4
    refine ⟨h1, fun hl h8 => ⟨?_, .inl ⟨Nat.le_refl _, by omega, ?_, ?_⟩⟩, fun hb => rb_false h0 h4 hb⟩
    · intro x hx
      rcases List.mem_append.1 hx with hx | hx
      · exact h.1 x hx
      · simp at hx; rw [hx]; exact hl
    · rw [List.drop_eq_nil_of_le (by rw [List.length_take]; omega)]; simp
    · rw [h4]; simp
  · omega
theorem SpInv.done {l : List UInt8} {fr : Nat} {vs : List (List UInt8)} (h0 : l ≠ []) (h : SpInv l fr (l.length + 1) vs) (h8 : vs.length ≤ 8) : rightB l = true ∧ labsL l = vs := by
  rcases h.2 with ⟨_, h2, _⟩ | ⟨_, h4⟩
  · omega
  · have hr : rightB l = true := by
      unfold rightB partsL
      rw [if_neg h0, h4]
      simp [h8]; exact h.1
    exact ⟨hr, by unfold labsL partsL; rw [if_pos hr, if_neg h0, h4]⟩
theorem SpInv.zero (l : List UInt8) : SpInv l 0 0 [] := ⟨by simp, .inl ⟨Nat.le_refl _, by omega, by simp, by simp⟩⟩
/-- the answer of the reference's Split -/
def RSplitPost (l : List UInt8) (w : World) (e : Ending) (w' : World) : Prop := ∃ v, e = .returned (.tuple #[v, .bool (rightB l)]) ∧ SS w' v (labsL l) ∧ Below w.heap.size w w'
end Go.Proofs.Ytbekocknfpekoaa
namespace Go.Proofs.Ytbekocknfpekoaa
set_option linter.unusedVariables false
set_option linter.unusedSimpArgs false
open Go.RowKit
theorem one_row (w : World) (a : Array Value) (t : TypeId) : Row (w.alloc (.cells a t)) w.heap.size a t ∧ Below w.heap.size w (w.alloc (.cells a t)) := ⟨Row.new _ _ _, (by repeat (first | exact Below.refl _ _ | assumption | (with_reducible refine Below.setCell ?_ ?h _; case h => first | omega | (simp; done) | (simp; omega)) | (with_reducible refine Below.alloc ?_ ?h _; case h => first | omega | (simp; done) | (simp; omega)) | (with_reducible refine Below.drew ?_) | (with_reducible refine Below.trans ?_ (hb4.mono ?h); case h => first | omega | (simp; done) | (simp; omega)) | (with_reducible refine Below.trans ?_ (hb3.mono ?h); case h => first | omega | (simp; done) | (simp; omega)) | (with_reducible refine Below.trans ?_ (hb2.mono ?h); case h => first | omega | (simp; done) | (simp; omega)) | (with_reducible refine Below.trans ?_ (hb.mono ?h); case h => first | omega | (simp; done) | (simp; omega)) | (with_reducible refine Below.trans ?_ (hb0.mono ?h); case h => first | omega | (simp; done) | (simp; omega))))⟩
def letR (k : Ke) : List (List UInt8) := if rightK k = true then letK k else []
def LetPost (k : Ke) (w : World) (e : Ending) (w' : World) : Prop := ∃ v, e = .returned (.tuple #[v, .bool (rightK k)]) ∧ SS w' v (letR k) ∧ Below w.heap.size w w'
/-- the first j letters of n bits of A -/
def lets (A : Int) (n j : Nat) : List (List UInt8) := (List.range (min j n)).map fun i : Nat => bitS (bitI A i)
end Go.Proofs.Ytbekocknfpekoaa
namespace Go.Proofs.Ytbekocknfpekoaa
set_option linter.unusedVariables false
set_option linter.unusedSimpArgs false
open Go.RowKit
def rightD (d : Dm) : Bool := (decide (d.side = 1) || decide (d.side = 2)) && (decide (1 ≤ d.step) && decide (d.step ≤ wid d.kind))
def depthD (d : Dm) : Int := if rightD d = true then (wid d.kind + d.step - 1) / d.step else 0
def lenD (d : Dm) (l : Int) : Int := if rightD d = true ∧ 0 ≤ l ∧ l ≤ depthD d then max (wid d.kind - l * d.step) 0 else -1
theorem rightD_iff (d : Dm) : rightD d = true ↔ (d.side = 1 ∨ d.side = 2) ∧ 1 ≤ d.step ∧ d.step ≤ wid d.kind := by
  unfold rightD; simp
theorem depth_range {d : Dm} (h : rightD d = true) : 1 ≤ depthD d ∧ depthD d ≤ 128 ∧ wid d.kind ≤ depthD d * d.step ∧ (depthD d - 1) * d.step < wid d.kind := by
  obtain ⟨_, s1, s2⟩ := (rightD_iff d).1 h
  have hw := wid_range d.kind
  unfold depthD
  rw [if_pos h]
  generalize wid d.kind = W at *
  generalize d.step = s at *
  have hm := Int.mul_ediv_self_le (x := W + s - 1) (k := s) (by omega)
  have hl := Int.lt_mul_ediv_self_add (x := W + s - 1) (k := s) (by omega)
  generalize (W + s - 1) / s = q at *
  have e1 : s * q = q * s := Int.mul_comm _ _
  rw [e1] at hm hl
  have hq1 : 1 ≤ q := by
    by_cases h : q < 1
    · exfalso
      have : q * s ≤ 0 * s := Int.mul_le_mul_of_nonneg_right (by omega) (by omega)
      omega
    · omega
  have hq2 : q ≤ 128 := by
    by_cases h : 128 < q
    · exfalso
      have h1 : (129 : Int) * s ≤ q * s := Int.mul_le_mul_of_nonneg_right (by omega) (by omega)
      omega
    · omega
  refine ⟨hq1, hq2, by omega, ?_⟩
  rw [Int.sub_mul]; omega
set_option maxRecDepth 100000 in
set_option maxHeartbeats 4000000 in
theorem dright_t (d : Dm) (w : World) : Calls Try.prog 51 #[dv d] w fun e w' => e = .returned (.bool (rightD d)) ∧ Below w.heap.size w w' := by
  have HW := width_t d.kind
  have hd : rightD d = ((decide (d.side = 1) || decide (d.side = 2)) && (decide (1 ≤ d.step) && decide (d.step ≤ wid d.kind))) := rfl
  obtain ⟨kd, sd, st⟩ := d
  dsimp only at *
  generalize rightD ⟨kd, sd, st⟩ = r at *
  generalize wid kd = wd at *
  unfold dv
  dsimp only
  obtain ⟨RR0, hb0⟩ := one_row w #[.int .i64 kd, .int .i64 sd, .int .i64 st] 23
  have c0 := (RR0.cell 0).trans (show _ = some (Value.int .i64 kd) from rfl)
  have c1 := (RR0.cell 1).trans (show _ = some (Value.int .i64 sd) from rfl)
  have c2 := (RR0.cell 2).trans (show _ = some (Value.int .i64 st) from rfl)
  clear RR0
  by_cases s0 : sd = 1 ∨ sd = 2
  · have hd2 : r = (decide (1 ≤ st) && decide (st ≤ wd)) := by rw [hd]; rcases s0 with e | e <;> subst e <;> simp
    clear hd
    by_cases t1 : 1 ≤ st
    · by_cases t2 : st ≤ wd
      · have e : r = true := by rw [hd2]; simp [t1, t2]
        subst e
        clear hd2
        rcases s0 with rfl | rfl
        · go_enter Try.func51, Try.ntmps51
          go_wp2_with fail
          refine wp_region_held_drew (S := (fun w' => w'.cell? ⟨w.heap.size, 0, none⟩ = some (.int .i64 kd) ∧ w'.cell? ⟨w.heap.size, 1, none⟩ = some (.int .i64 1) ∧ w'.cell? ⟨w.heap.size, 2, none⟩ = some (.int .i64 st) ∧ Below w.heap.size w w')) (by kernel_rfl) ?hSr11_ (fun hHeld => ?_)
          case hSr11_ => (first | exact ⟨c0, c1, c2, hb0.drew⟩ | exact ⟨c0, c1, c2, hb0⟩ | (obtain ⟨c0, c1, c2, hb0⟩ := hHeld; exact ⟨cell_later hb c0, cell_later hb c1, cell_later hb c2, below_step hb0 hb⟩))
          refine tk 0 ⟨some 3, .fieldAddr 23 (.tmp 1) 1, 0, _, _, _⟩ hHeld ?_
          (try simp only [Act.put, nz1, nz2, nz3])
          refine tk 1 ⟨some 4, .load 3 (.tmp 3), 3, _, _, _⟩ hHeld ?_
          (try simp only [Act.put, nz1, nz2, nz3])
          refine tk 2 ⟨some 5, .binOp .eql 3 (.tmp 4) (.const (.int .i64 1)) 3, 4, _, _, _⟩ hHeld ?_
          (try simp only [Act.put, nz1, nz2, nz3])
          refine tk 3 ⟨some 6, .move (.tmp 5), 4, _, _, _⟩ hHeld ?_
          (try simp only [Act.put, nz1, nz2, nz3])
          refine ts 4 ⟨some 7, .fieldAddr 23 (.tmp 1) 1, 0, _, _, _⟩ hHeld ?_
          (try simp only [Act.put, nz1, nz2, nz3])
          refine ts 5 ⟨some 8, .load 3 (.tmp 7), 3, _, _, _⟩ hHeld ?_
          (try simp only [Act.put, nz1, nz2, nz3])
          refine ts 6 ⟨some 9, .binOp .eql 3 (.tmp 8) (.const (.int .i64 2)) 3, 4, _, _, _⟩ hHeld ?_
          (try simp only [Act.put, nz1, nz2, nz3])
          refine tk 7 ⟨some 10, .pick (.tmp 6) (.const (.bool true)) (.tmp 9), 4, _, _, _⟩ hHeld ?_
          (try simp only [Act.put, nz1, nz2, nz3])
          refine tk 8 ⟨some 11, .move (.tmp 10), 4, _, _, _⟩ hHeld ?_
          (try simp only [Act.put, nz1, nz2, nz3])
          refine tk 9 ⟨some 12, .fieldAddr 23 (.tmp 1) 2, 0, _, _, _⟩ hHeld ?_
          (try simp only [Act.put, nz1, nz2, nz3])
          refine tk 10 ⟨some 13, .load 3 (.tmp 12), 3, _, _, _⟩ hHeld ?_
          (try simp only [Act.put, nz1, nz2, nz3])
          refine tk 11 ⟨some 14, .binOp .geq 3 (.tmp 13) (.const (.int .i64 1)) 3, 4, _, _, _⟩ hHeld ?_
          (try simp only [Act.put, nz1, nz2, nz3])
          refine tk 12 ⟨some 15, .pick (.tmp 11) (.tmp 14) (.const (.bool false)), 4, _, _, _⟩ hHeld ?_
          (try simp only [Act.put, nz1, nz2, nz3])
          refine tk 13 ⟨some 16, .move (.tmp 15), 4, _, _, _⟩ hHeld ?_
          (try simp only [Act.put, nz1, nz2, nz3])
          refine tk 14 ⟨some 17, .fieldAddr 23 (.tmp 1) 2, 0, _, _, _⟩ hHeld ?_
          (try simp only [Act.put, nz1, nz2, nz3])
          refine tk 15 ⟨some 18, .load 3 (.tmp 17), 3, _, _, _⟩ hHeld ?_
          (try simp only [Act.put, nz1, nz2, nz3])
          refine tk 16 ⟨some 19, .fieldAddr 23 (.tmp 1) 0, 0, _, _, _⟩ hHeld ?_
          (try simp only [Act.put, nz1, nz2, nz3])
          refine tk 17 ⟨some 20, .load 3 (.tmp 19), 3, _, _, _⟩ hHeld ?_
          (try simp only [Act.put, nz1, nz2, nz3])
          refine wpAnyH_ready (rs := [18]) (by kernel_rfl) (by simp) ?_
          refine AllReadyH.cons (o := ⟨some 21, .call { callee := .value (.func 76), args := #[.tmp 20], argTypes := #[3] }, 3, _, _, _⟩) rfl (fun K hK => ?_) AllReadyH.nil
          (go_simp; (refine (HW _).mono ?_); (rintro e wn ⟨rfl, hb⟩); go_wp2_with fail)
          refine hK.out _ _ ?hSr11_19_18 (fun hHeld2 => ?_)
          case hSr11_19_18 => (first | exact ⟨c0, c1, c2, hb0.drew⟩ | exact ⟨c0, c1, c2, hb0⟩ | (obtain ⟨c0, c1, c2, hb0⟩ := hHeld; exact ⟨cell_later hb c0, cell_later hb c1, cell_later hb c2, below_step hb0 hb⟩))
          clear hK K hHeld
          have hHeld := hHeld2
          clear hHeld2
          (try simp only [Act.put, nz1, nz2, nz3])
          refine tk 19 ⟨some 22, .binOp .leq 3 (.tmp 18) (.tmp 21) 3, 4, _, _, _⟩ hHeld ?_
          (try simp only [Act.put, nz1, nz2, nz3])
          refine tk 20 ⟨some 23, .pick (.tmp 16) (.tmp 22) (.const (.bool false)), 4, _, _, _⟩ hHeld ?_
          (try simp only [Act.put, nz1, nz2, nz3])
          refine tk 21 ⟨some 2, .assign (.tmp 23), 4, _, _, _⟩ hHeld ?_
          (try simp only [Act.put, nz1, nz2, nz3])
          refine wpAnyH_done (by kernel_rfl) ?_ _
          clear c0 c1 c2 hb0
          obtain ⟨c0, c1, c2, hb0⟩ := hHeld
          go_wp2
          go_ret
          exact ⟨rfl, hb0⟩
        · go_enter Try.func51, Try.ntmps51
          go_wp2_with fail
          refine wp_region_held_drew (S := (fun w' => w'.cell? ⟨w.heap.size, 0, none⟩ = some (.int .i64 kd) ∧ w'.cell? ⟨w.heap.size, 1, none⟩ = some (.int .i64 2) ∧ w'.cell? ⟨w.heap.size, 2, none⟩ = some (.int .i64 st) ∧ Below w.heap.size w w')) (by kernel_rfl) ?hSr12_ (fun hHeld => ?_)
          case hSr12_ => (first | exact ⟨c0, c1, c2, hb0.drew⟩ | exact ⟨c0, c1, c2, hb0⟩ | (obtain ⟨c0, c1, c2, hb0⟩ := hHeld; exact ⟨cell_later hb c0, cell_later hb c1, cell_later hb c2, below_step hb0 hb⟩))
          refine tk 0 ⟨some 3, .fieldAddr 23 (.tmp 1) 1, 0, _, _, _⟩ hHeld ?_
          (try simp only [Act.put, nz1, nz2, nz3])
          refine tk 1 ⟨some 4, .load 3 (.tmp 3), 3, _, _, _⟩ hHeld ?_
          (try simp only [Act.put, nz1, nz2, nz3])
          refine tk 2 ⟨some 5, .binOp .eql 3 (.tmp 4) (.const (.int .i64 1)) 3, 4, _, _, _⟩ hHeld ?_
          (try simp only [Act.put, nz1, nz2, nz3])
          refine tk 3 ⟨some 6, .move (.tmp 5), 4, _, _, _⟩ hHeld ?_
          (try simp only [Act.put, nz1, nz2, nz3])
          refine tk 4 ⟨some 7, .fieldAddr 23 (.tmp 1) 1, 0, _, _, _⟩ hHeld ?_
          (try simp only [Act.put, nz1, nz2, nz3])
          refine tk 5 ⟨some 8, .load 3 (.tmp 7), 3, _, _, _⟩ hHeld ?_
          (try simp only [Act.put, nz1, nz2, nz3])
          refine tk 6 ⟨some 9, .binOp .eql 3 (.tmp 8) (.const (.int .i64 2)) 3, 4, _, _, _⟩ hHeld ?_
          (try simp only [Act.put, nz1, nz2, nz3])
          refine tk 7 ⟨some 10, .pick (.tmp 6) (.const (.bool true)) (.tmp 9), 4, _, _, _⟩ hHeld ?_
          (try simp only [Act.put, nz1, nz2, nz3])
          refine tk 8 ⟨some 11, .move (.tmp 10), 4, _, _, _⟩ hHeld ?_
          (try simp only [Act.put, nz1, nz2, nz3])
          refine tk 9 ⟨some 12, .fieldAddr 23 (.tmp 1) 2, 0, _, _, _⟩ hHeld ?_
          (try simp only [Act.put, nz1, nz2, nz3])
          refine tk 10 ⟨some 13, .load 3 (.tmp 12), 3, _, _, _⟩ hHeld ?_
          (try simp only [Act.put, nz1, nz2, nz3])
          refine tk 11 ⟨some 14, .binOp .geq 3 (.tmp 13) (.const (.int .i64 1)) 3, 4, _, _, _⟩ hHeld ?_
          (try simp only [Act.put, nz1, nz2, nz3])
          refine tk 12 ⟨some 15, .pick (.tmp 11) (.tmp 14) (.const (.bool false)), 4, _, _, _⟩ hHeld ?_
          (try simp only [Act.put, nz1, nz2, nz3])
          refine tk 13 ⟨some 16, .move (.tmp 15), 4, _, _, _⟩ hHeld ?_
          (try simp only [Act.put, nz1, nz2, nz3])
          refine tk 14 ⟨some 17, .fieldAddr 23 (.tmp 1) 2, 0, _, _, _⟩ hHeld ?_
          (try simp only [Act.put, nz1, nz2, nz3])
          refine tk 15 ⟨some 18, .load 3 (.tmp 17), 3, _, _, _⟩ hHeld ?_
          (try simp only [Act.put, nz1, nz2, nz3])
          refine tk 16 ⟨some 19, .fieldAddr 23 (.tmp 1) 0, 0, _, _, _⟩ hHeld ?_
          (try simp only [Act.put, nz1, nz2, nz3])
          refine tk 17 ⟨some 20, .load 3 (.tmp 19), 3, _, _, _⟩ hHeld ?_
          (try simp only [Act.put, nz1, nz2, nz3])
          refine wpAnyH_ready (rs := [18]) (by kernel_rfl) (by simp) ?_
          refine AllReadyH.cons (o := ⟨some 21, .call { callee := .value (.func 76), args := #[.tmp 20], argTypes := #[3] }, 3, _, _, _⟩) rfl (fun K hK => ?_) AllReadyH.nil
          (go_simp; (refine (HW _).mono ?_); (rintro e wn ⟨rfl, hb⟩); go_wp2_with fail)
          refine hK.out _ _ ?hSr12_19_18 (fun hHeld2 => ?_)
          case hSr12_19_18 => (first | exact ⟨c0, c1, c2, hb0.drew⟩ | exact ⟨c0, c1, c2, hb0⟩ | (obtain ⟨c0, c1, c2, hb0⟩ := hHeld; exact ⟨cell_later hb c0, cell_later hb c1, cell_later hb c2, below_step hb0 hb⟩))
          clear hK K hHeld
          have hHeld := hHeld2
          clear hHeld2
          (try simp only [Act.put, nz1, nz2, nz3])
          refine tk 19 ⟨some 22, .binOp .leq 3 (.tmp 18) (.tmp 21) 3, 4, _, _, _⟩ hHeld ?_
          (try simp only [Act.put, nz1, nz2, nz3])
          refine tk 20 ⟨some 23, .pick (.tmp 16) (.tmp 22) (.const (.bool false)), 4, _, _, _⟩ hHeld ?_
          (try simp only [Act.put, nz1, nz2, nz3])
          refine tk 21 ⟨some 2, .assign (.tmp 23), 4, _, _, _⟩ hHeld ?_
          (try simp only [Act.put, nz1, nz2, nz3])
          refine wpAnyH_done (by kernel_rfl) ?_ _
          clear c0 c1 c2 hb0
          obtain ⟨c0, c1, c2, hb0⟩ := hHeld
          go_wp2
          go_ret
          exact ⟨rfl, hb0⟩
      · have e : r = false := by rw [hd2]; simp [t2]
        have t2' : decide (st ≤ wd) = false := decide_eq_false t2
        subst e
        clear hd2
        rcases s0 with rfl | rfl
        · go_enter Try.func51, Try.ntmps51
          go_wp2_with fail
          refine wp_region_held_drew (S := (fun w' => w'.cell? ⟨w.heap.size, 0, none⟩ = some (.int .i64 kd) ∧ w'.cell? ⟨w.heap.size, 1, none⟩ = some (.int .i64 1) ∧ w'.cell? ⟨w.heap.size, 2, none⟩ = some (.int .i64 st) ∧ Below w.heap.size w w')) (by kernel_rfl) ?hSr13_ (fun hHeld => ?_)
          case hSr13_ => (first | exact ⟨c0, c1, c2, hb0.drew⟩ | exact ⟨c0, c1, c2, hb0⟩ | (obtain ⟨c0, c1, c2, hb0⟩ := hHeld; exact ⟨cell_later hb c0, cell_later hb c1, cell_later hb c2, below_step hb0 hb⟩))
          refine tk 0 ⟨some 3, .fieldAddr 23 (.tmp 1) 1, 0, _, _, _⟩ hHeld ?_
          (try simp only [Act.put, nz1, nz2, nz3])
          refine tk 1 ⟨some 4, .load 3 (.tmp 3), 3, _, _, _⟩ hHeld ?_
          (try simp only [Act.put, nz1, nz2, nz3])
          refine tk 2 ⟨some 5, .binOp .eql 3 (.tmp 4) (.const (.int .i64 1)) 3, 4, _, _, _⟩ hHeld ?_
          (try simp only [Act.put, nz1, nz2, nz3])
          refine tk 3 ⟨some 6, .move (.tmp 5), 4, _, _, _⟩ hHeld ?_
          (try simp only [Act.put, nz1, nz2, nz3])
          refine ts 4 ⟨some 7, .fieldAddr 23 (.tmp 1) 1, 0, _, _, _⟩ hHeld ?_
          (try simp only [Act.put, nz1, nz2, nz3])
          refine ts 5 ⟨some 8, .load 3 (.tmp 7), 3, _, _, _⟩ hHeld ?_
          (try simp only [Act.put, nz1, nz2, nz3])
          refine ts 6 ⟨some 9, .binOp .eql 3 (.tmp 8) (.const (.int .i64 2)) 3, 4, _, _, _⟩ hHeld ?_
          (try simp only [Act.put, nz1, nz2, nz3])
          refine tk 7 ⟨some 10, .pick (.tmp 6) (.const (.bool true)) (.tmp 9), 4, _, _, _⟩ hHeld ?_
          (try simp only [Act.put, nz1, nz2, nz3])
          refine tk 8 ⟨some 11, .move (.tmp 10), 4, _, _, _⟩ hHeld ?_
          (try simp only [Act.put, nz1, nz2, nz3])
          refine tk 9 ⟨some 12, .fieldAddr 23 (.tmp 1) 2, 0, _, _, _⟩ hHeld ?_
          (try simp only [Act.put, nz1, nz2, nz3])
          refine tk 10 ⟨some 13, .load 3 (.tmp 12), 3, _, _, _⟩ hHeld ?_
          (try simp only [Act.put, nz1, nz2, nz3])
          refine tk 11 ⟨some 14, .binOp .geq 3 (.tmp 13) (.const (.int .i64 1)) 3, 4, _, _, _⟩ hHeld ?_
          (try simp only [Act.put, nz1, nz2, nz3])
          refine tk 12 ⟨some 15, .pick (.tmp 11) (.tmp 14) (.const (.bool false)), 4, _, _, _⟩ hHeld ?_
          (try simp only [Act.put, nz1, nz2, nz3])
          refine tk 13 ⟨some 16, .move (.tmp 15), 4, _, _, _⟩ hHeld ?_
          (try simp only [Act.put, nz1, nz2, nz3])
          refine tk 14 ⟨some 17, .fieldAddr 23 (.tmp 1) 2, 0, _, _, _⟩ hHeld ?_
          (try simp only [Act.put, nz1, nz2, nz3])
          refine tk 15 ⟨some 18, .load 3 (.tmp 17), 3, _, _, _⟩ hHeld ?_
          (try simp only [Act.put, nz1, nz2, nz3])
          refine tk 16 ⟨some 19, .fieldAddr 23 (.tmp 1) 0, 0, _, _, _⟩ hHeld ?_
          (try simp only [Act.put, nz1, nz2, nz3])
          refine tk 17 ⟨some 20, .load 3 (.tmp 19), 3, _, _, _⟩ hHeld ?_
          (try simp only [Act.put, nz1, nz2, nz3])
          refine wpAnyH_ready (rs := [18]) (by kernel_rfl) (by simp) ?_
          refine AllReadyH.cons (o := ⟨some 21, .call { callee := .value (.func 76), args := #[.tmp 20], argTypes := #[3] }, 3, _, _, _⟩) rfl (fun K hK => ?_) AllReadyH.nil
          (go_simp; (refine (HW _).mono ?_); (rintro e wn ⟨rfl, hb⟩); go_wp2_with fail)
          refine hK.out _ _ ?hSr13_19_18 (fun hHeld2 => ?_)
          case hSr13_19_18 => (first | exact ⟨c0, c1, c2, hb0.drew⟩ | exact ⟨c0, c1, c2, hb0⟩ | (obtain ⟨c0, c1, c2, hb0⟩ := hHeld; exact ⟨cell_later hb c0, cell_later hb c1, cell_later hb c2, below_step hb0 hb⟩))
          clear hK K hHeld
          have hHeld := hHeld2
          clear hHeld2
          (try simp only [Act.put, nz1, nz2, nz3])
          refine tk 19 ⟨some 22, .binOp .leq 3 (.tmp 18) (.tmp 21) 3, 4, _, _, _⟩ hHeld ?_
          (try simp only [Act.put, nz1, nz2, nz3])
          refine tk 20 ⟨some 23, .pick (.tmp 16) (.tmp 22) (.const (.bool false)), 4, _, _, _⟩ hHeld ?_
          (try simp only [Act.put, nz1, nz2, nz3])
          refine tk 21 ⟨some 2, .assign (.tmp 23), 4, _, _, _⟩ hHeld ?_
          (try simp only [Act.put, nz1, nz2, nz3])
          refine wpAnyH_done (by kernel_rfl) ?_ _
          clear c0 c1 c2 hb0
          obtain ⟨c0, c1, c2, hb0⟩ := hHeld
          go_wp2
          go_ret
          exact ⟨rfl, hb0⟩
        · go_enter Try.func51, Try.ntmps51
          go_wp2_with fail
          refine wp_region_held_drew (S := (fun w' => w'.cell? ⟨w.heap.size, 0, none⟩ = some (.int .i64 kd) ∧ w'.cell? ⟨w.heap.size, 1, none⟩ = some (.int .i64 2) ∧ w'.cell? ⟨w.heap.size, 2, none⟩ = some (.int .i64 st) ∧ Below w.heap.size w w')) (by kernel_rfl) ?hSr14_ (fun hHeld => ?_)
          case hSr14_ => (first | exact ⟨c0, c1, c2, hb0.drew⟩ | exact ⟨c0, c1, c2, hb0⟩ | (obtain ⟨c0, c1, c2, hb0⟩ := hHeld; exact ⟨cell_later hb c0, cell_later hb c1, cell_later hb c2, below_step hb0 hb⟩))
          refine tk 0 ⟨some 3, .fieldAddr 23 (.tmp 1) 1, 0, _, _, _⟩ hHeld ?_
          (try simp only [Act.put, nz1, nz2, nz3])
          refine tk 1 ⟨some 4, .load 3 (.tmp 3), 3, _, _, _⟩ hHeld ?_
          (try simp only [Act.put, nz1, nz2, nz3])
          refine tk 2 ⟨some 5, .binOp .eql 3 (.tmp 4) (.const (.int .i64 1)) 3, 4, _, _, _⟩ hHeld ?_
          (try simp only [Act.put, nz1, nz2, nz3])
          refine tk 3 ⟨some 6, .move (.tmp 5), 4, _, _, _⟩ hHeld ?_
          (try simp only [Act.put, nz1, nz2, nz3])
          refine tk 4 ⟨some 7, .fieldAddr 23 (.tmp 1) 1, 0, _, _, _⟩ hHeld ?_
          (try simp only [Act.put, nz1, nz2, nz3])
          refine tk 5 ⟨some 8, .load 3 (.tmp 7), 3, _, _, _⟩ hHeld ?_
          (try simp only [Act.put, nz1, nz2, nz3])
          refine tk 6 ⟨some 9, .binOp .eql 3 (.tmp 8) (.const (.int .i64 2)) 3, 4, _, _, _⟩ hHeld ?_
          (try simp only [Act.put, nz1, nz2, nz3])
          refine tk 7 ⟨some 10, .pick (.tmp 6) (.const (.bool true)) (.tmp 9), 4, _, _, _⟩ hHeld ?_
          (try simp only [Act.put, nz1, nz2, nz3])
          refine tk 8 ⟨some 11, .move (.tmp 10), 4, _, _, _⟩ hHeld ?_
          (try simp only [Act.put, nz1, nz2, nz3])
          refine tk 9 ⟨some 12, .fieldAddr 23 (.tmp 1) 2, 0, _, _, _⟩ hHeld ?_
          (try simp only [Act.put, nz1, nz2, nz3])
          refine tk 10 ⟨some 13, .load 3 (.tmp 12), 3, _, _, _⟩ hHeld ?_
          (try simp only [Act.put, nz1, nz2, nz3])
          refine tk 11 ⟨some 14, .binOp .geq 3 (.tmp 13) (.const (.int .i64 1)) 3, 4, _, _, _⟩ hHeld ?_
          (try simp only [Act.put, nz1, nz2, nz3])
          refine tk 12 ⟨some 15, .pick (.tmp 11) (.tmp 14) (.const (.bool false)), 4, _, _, _⟩ hHeld ?_
          (try simp only [Act.put, nz1, nz2, nz3])
          refine tk 13 ⟨some 16, .move (.tmp 15), 4, _, _, _⟩ hHeld ?_
          (try simp only [Act.put, nz1, nz2, nz3])
          refine tk 14 ⟨some 17, .fieldAddr 23 (.tmp 1) 2, 0, _, _, _⟩ hHeld ?_
          (try simp only [Act.put, nz1, nz2, nz3])
          refine tk 15 ⟨some 18, .load 3 (.tmp 17), 3, _, _, _⟩ hHeld ?_
          (try simp only [Act.put, nz1, nz2, nz3])
          refine tk 16 ⟨some 19, .fieldAddr 23 (.tmp 1) 0, 0, _, _, _⟩ hHeld ?_
          (try simp only [Act.put, nz1, nz2, nz3])
          refine tk 17 ⟨some 20, .load 3 (.tmp 19), 3, _, _, _⟩ hHeld ?_
          (try simp only [Act.put, nz1, nz2, nz3])
          refine wpAnyH_ready (rs := [18]) (by kernel_rfl) (by simp) ?_
          refine AllReadyH.cons (o := ⟨some 21, .call { callee := .value (.func 76), args := #[.tmp 20], argTypes := #[3] }, 3, _, _, _⟩) rfl (fun K hK => ?_) AllReadyH.nil
          (go_simp; (refine (HW _).mono ?_); (rintro e wn ⟨rfl, hb⟩); go_wp2_with fail)
          refine hK.out _ _ ?hSr14_19_18 (fun hHeld2 => ?_)
          case hSr14_19_18 => (first | exact ⟨c0, c1, c2, hb0.drew⟩ | exact ⟨c0, c1, c2, hb0⟩ | (obtain ⟨c0, c1, c2, hb0⟩ := hHeld; exact ⟨cell_later hb c0, cell_later hb c1, cell_later hb c2, below_step hb0 hb⟩))
          clear hK K hHeld
          have hHeld := hHeld2
          clear hHeld2
          (try simp only [Act.put, nz1, nz2, nz3])
          refine tk 19 ⟨some 22, .binOp .leq 3 (.tmp 18) (.tmp 21) 3, 4, _, _, _⟩ hHeld ?_
          (try simp only [Act.put, nz1, nz2, nz3])
          refine tk 20 ⟨some 23, .pick (.tmp 16) (.tmp 22) (.const (.bool false)), 4, _, _, _⟩ hHeld ?_
          (try simp only [Act.put, nz1, nz2, nz3])
          refine tk 21 ⟨some 2, .assign (.tmp 23), 4, _, _, _⟩ hHeld ?_
          (try simp only [Act.put, nz1, nz2, nz3])
          refine wpAnyH_done (by kernel_rfl) ?_ _
          clear c0 c1 c2 hb0
          obtain ⟨c0, c1, c2, hb0⟩ := hHeld
          go_wp2
          go_ret
          exact ⟨rfl, hb0⟩
    · have e : r = false := by rw [hd2]; simp [t1]
      have t1' : decide (1 ≤ st) = false := decide_eq_false t1
      subst e
      clear hd2
      rcases s0 with rfl | rfl
      · go_enter Try.func51, Try.ntmps51
        go_wp2_with fail
        refine wp_region_held_drew (S := (fun w' => w'.cell? ⟨w.heap.size, 0, none⟩ = some (.int .i64 kd) ∧ w'.cell? ⟨w.heap.size, 1, none⟩ = some (.int .i64 1) ∧ w'.cell? ⟨w.heap.size, 2, none⟩ = some (.int .i64 st) ∧ Below w.heap.size w w')) (by kernel_rfl) ?hSr15_ (fun hHeld => ?_)
        case hSr15_ => (exact ⟨c0, c1, c2, hb0.drew⟩)
        (generalize World.drew _ = wn at *)
        refine tk 0 ⟨some 3, .fieldAddr 23 (.tmp 1) 1, 0, _, _, _⟩ hHeld ?_
        (try simp only [Act.put, nz1, nz2, nz3])
        refine tk 1 ⟨some 4, .load 3 (.tmp 3), 3, _, _, _⟩ hHeld ?_
        (try simp only [Act.put, nz1, nz2, nz3])
        refine tk 2 ⟨some 5, .binOp .eql 3 (.tmp 4) (.const (.int .i64 1)) 3, 4, _, _, _⟩ hHeld ?_
        (try simp only [Act.put, nz1, nz2, nz3])
        refine tk 3 ⟨some 6, .move (.tmp 5), 4, _, _, _⟩ hHeld ?_
        (try simp only [Act.put, nz1, nz2, nz3])
        refine ts 4 ⟨some 7, .fieldAddr 23 (.tmp 1) 1, 0, _, _, _⟩ hHeld ?_
        (try simp only [Act.put, nz1, nz2, nz3])
        refine ts 5 ⟨some 8, .load 3 (.tmp 7), 3, _, _, _⟩ hHeld ?_
        (try simp only [Act.put, nz1, nz2, nz3])
        refine ts 6 ⟨some 9, .binOp .eql 3 (.tmp 8) (.const (.int .i64 2)) 3, 4, _, _, _⟩ hHeld ?_
        (try simp only [Act.put, nz1, nz2, nz3])
        refine tk 7 ⟨some 10, .pick (.tmp 6) (.const (.bool true)) (.tmp 9), 4, _, _, _⟩ hHeld ?_
        (try simp only [Act.put, nz1, nz2, nz3])
        refine tk 8 ⟨some 11, .move (.tmp 10), 4, _, _, _⟩ hHeld ?_
        (try simp only [Act.put, nz1, nz2, nz3])
        refine tk 9 ⟨some 12, .fieldAddr 23 (.tmp 1) 2, 0, _, _, _⟩ hHeld ?_
        (try simp only [Act.put, nz1, nz2, nz3])
        refine tk 10 ⟨some 13, .load 3 (.tmp 12), 3, _, _, _⟩ hHeld ?_
        (try simp only [Act.put, nz1, nz2, nz3])
        refine tk 11 ⟨some 14, .binOp .geq 3 (.tmp 13) (.const (.int .i64 1)) 3, 4, _, _, _⟩ hHeld ?_
        (try simp only [Act.put, nz1, nz2, nz3])
        refine tk 12 ⟨some 15, .pick (.tmp 11) (.tmp 14) (.const (.bool false)), 4, _, _, _⟩ hHeld ?_
        (try simp only [Act.put, nz1, nz2, nz3])
        refine tk 13 ⟨some 16, .move (.tmp 15), 4, _, _, _⟩ hHeld ?_
        (try simp only [Act.put, nz1, nz2, nz3])
        refine ts 14 ⟨some 17, .fieldAddr 23 (.tmp 1) 2, 0, _, _, _⟩ hHeld ?_
        (try simp only [Act.put, nz1, nz2, nz3])
        refine ts 15 ⟨some 18, .load 3 (.tmp 17), 3, _, _, _⟩ hHeld ?_
        (try simp only [Act.put, nz1, nz2, nz3])
        refine ts 16 ⟨some 19, .fieldAddr 23 (.tmp 1) 0, 0, _, _, _⟩ hHeld ?_
        (try simp only [Act.put, nz1, nz2, nz3])
        refine ts 17 ⟨some 20, .load 3 (.tmp 19), 3, _, _, _⟩ hHeld ?_
        (try simp only [Act.put, nz1, nz2, nz3])
        refine ts 18 ⟨some 21, .call { callee := .value (.func 76), args := #[.tmp 20], argTypes := #[3] }, 3, _, _, _⟩ hHeld ?_
        (try simp only [Act.put, nz1, nz2, nz3])
        refine ts 19 ⟨some 22, .binOp .leq 3 (.tmp 18) (.tmp 21) 3, 4, _, _, _⟩ hHeld ?_
        (try simp only [Act.put, nz1, nz2, nz3])
        refine tk 20 ⟨some 23, .pick (.tmp 16) (.tmp 22) (.const (.bool false)), 4, _, _, _⟩ hHeld ?_
        (try simp only [Act.put, nz1, nz2, nz3])
        refine tk 21 ⟨some 2, .assign (.tmp 23), 4, _, _, _⟩ hHeld ?_
        (try simp only [Act.put, nz1, nz2, nz3])
        refine wpAnyH_done (by kernel_rfl) ?_ _
        clear c0 c1 c2 hb0
        obtain ⟨c0, c1, c2, hb0⟩ := hHeld
        go_wp2
        go_ret
        exact ⟨rfl, hb0⟩
      · go_enter Try.func51, Try.ntmps51
        go_wp2_with fail
        refine wp_region_held_drew (S := (fun w' => w'.cell? ⟨w.heap.size, 0, none⟩ = some (.int .i64 kd) ∧ w'.cell? ⟨w.heap.size, 1, none⟩ = some (.int .i64 2) ∧ w'.cell? ⟨w.heap.size, 2, none⟩ = some (.int .i64 st) ∧ Below w.heap.size w w')) (by kernel_rfl) ?hSr16_ (fun hHeld => ?_)
        case hSr16_ => (exact ⟨c0, c1, c2, hb0.drew⟩)
        (generalize World.drew _ = wn at *)
        refine tk 0 ⟨some 3, .fieldAddr 23 (.tmp 1) 1, 0, _, _, _⟩ hHeld ?_
        (try simp only [Act.put, nz1, nz2, nz3])
        refine tk 1 ⟨some 4, .load 3 (.tmp 3), 3, _, _, _⟩ hHeld ?_
        (try simp only [Act.put, nz1, nz2, nz3])
        refine tk 2 ⟨some 5, .binOp .eql 3 (.tmp 4) (.const (.int .i64 1)) 3, 4, _, _, _⟩ hHeld ?_
        (try simp only [Act.put, nz1, nz2, nz3])
        refine tk 3 ⟨some 6, .move (.tmp 5), 4, _, _, _⟩ hHeld ?_
        (try simp only [Act.put, nz1, nz2, nz3])
        refine tk 4 ⟨some 7, .fieldAddr 23 (.tmp 1) 1, 0, _, _, _⟩ hHeld ?_
        (try simp only [Act.put, nz1, nz2, nz3])
        refine tk 5 ⟨some 8, .load 3 (.tmp 7), 3, _, _, _⟩ hHeld ?_
        (try simp only [Act.put, nz1, nz2, nz3])
        refine tk 6 ⟨some 9, .binOp .eql 3 (.tmp 8) (.const (.int .i64 2)) 3, 4, _, _, _⟩ hHeld ?_
        (try simp only [Act.put, nz1, nz2, nz3])
        refine tk 7 ⟨some 10, .pick (.tmp 6) (.const (.bool true)) (.tmp 9), 4, _, _, _⟩ hHeld ?_
        (try simp only [Act.put, nz1, nz2, nz3])
        refine tk 8 ⟨some 11, .move (.tmp 10), 4, _, _, _⟩ hHeld ?_
        (try simp only [Act.put, nz1, nz2, nz3])
        refine tk 9 ⟨some 12, .fieldAddr 23 (.tmp 1) 2, 0, _, _, _⟩ hHeld ?_
        (try simp only [Act.put, nz1, nz2, nz3])
        refine tk 10 ⟨some 13, .load 3 (.tmp 12), 3, _, _, _⟩ hHeld ?_
        (try simp only [Act.put, nz1, nz2, nz3])
        refine tk 11 ⟨some 14, .binOp .geq 3 (.tmp 13) (.const (.int .i64 1)) 3, 4, _, _, _⟩ hHeld ?_
        (try simp only [Act.put, nz1, nz2, nz3])
        refine tk 12 ⟨some 15, .pick (.tmp 11) (.tmp 14) (.const (.bool false)), 4, _, _, _⟩ hHeld ?_
        (try simp only [Act.put, nz1, nz2, nz3])
        refine tk 13 ⟨some 16, .move (.tmp 15), 4, _, _, _⟩ hHeld ?_
        (try simp only [Act.put, nz1, nz2, nz3])
        refine ts 14 ⟨some 17, .fieldAddr 23 (.tmp 1) 2, 0, _, _, _⟩ hHeld ?_
        (try simp only [Act.put, nz1, nz2, nz3])
        refine ts 15 ⟨some 18, .load 3 (.tmp 17), 3, _, _, _⟩ hHeld ?_
        (try simp only [Act.put, nz1, nz2, nz3])
        refine ts 16 ⟨some 19, .fieldAddr 23 (.tmp 1) 0, 0, _, _, _⟩ hHeld ?_
        (try simp only [Act.put, nz1, nz2, nz3])
        refine ts 17 ⟨some 20, .load 3 (.tmp 19), 3, _, _, _⟩ hHeld ?_
        (try simp only [Act.put, nz1, nz2, nz3])
        refine ts 18 ⟨some 21, .call { callee := .value (.func 76), args := #[.tmp 20], argTypes := #[3] }, 3, _, _, _⟩ hHeld ?_
        (try simp only [Act.put, nz1, nz2, nz3])
        refine ts 19 ⟨some 22, .binOp .leq 3 (.tmp 18) (.tmp 21) 3, 4, _, _, _⟩ hHeld ?_
        (try simp only [Act.put, nz1, nz2, nz3])
        refine tk 20 ⟨some 23, .pick (.tmp 16) (.tmp 22) (.const (.bool false)), 4, _, _, _⟩ hHeld ?_
        (try simp only [Act.put, nz1, nz2, nz3])
        refine tk 21 ⟨some 2, .assign (.tmp 23), 4, _, _, _⟩ hHeld ?_
        (try simp only [Act.put, nz1, nz2, nz3])
        refine wpAnyH_done (by kernel_rfl) ?_ _
        clear c0 c1 c2 hb0
        obtain ⟨c0, c1, c2, hb0⟩ := hHeld
        go_wp2
        go_ret
        exact ⟨rfl, hb0⟩
  · have e : r = false := by
      rw [hd, decide_eq_false (fun h => s0 (.inl h)), decide_eq_false (fun h => s0 (.inr h))]; rfl
    have x1 : (sd == 1) = false := by simp; omega
    have x2 : (sd == 2) = false := by simp; omega
    subst e
    clear hd s0 HW
    go_enter Try.func51, Try.ntmps51
    go_wp2_with fail
    refine wp_region_held_drew (S := (fun w' => w'.cell? ⟨w.heap.size, 0, none⟩ = some (.int .i64 kd) ∧ w'.cell? ⟨w.heap.size, 1, none⟩ = some (.int .i64 sd) ∧ w'.cell? ⟨w.heap.size, 2, none⟩ = some (.int .i64 st) ∧ Below w.heap.size w w')) (by kernel_rfl) ?hSr17_ (fun hHeld => ?_)
    case hSr17_ => (exact ⟨c0, c1, c2, hb0.drew⟩)
    (generalize World.drew _ = wn at *)
    refine tk 0 ⟨some 3, .fieldAddr 23 (.tmp 1) 1, 0, _, _, _⟩ hHeld ?_
    (try simp only [Act.put, nz1, nz2, nz3])
    refine tk 1 ⟨some 4, .load 3 (.tmp 3), 3, _, _, _⟩ hHeld ?_
    (try simp only [Act.put, nz1, nz2, nz3])
    refine tk 2 ⟨some 5, .binOp .eql 3 (.tmp 4) (.const (.int .i64 1)) 3, 4, _, _, _⟩ hHeld ?_
    (try simp only [Act.put, nz1, nz2, nz3])
    refine tk 3 ⟨some 6, .move (.tmp 5), 4, _, _, _⟩ hHeld ?_
    (try simp only [Act.put, nz1, nz2, nz3])
    refine tk 4 ⟨some 7, .fieldAddr 23 (.tmp 1) 1, 0, _, _, _⟩ hHeld ?_
    (try simp only [Act.put, nz1, nz2, nz3])
    refine tk 5 ⟨some 8, .load 3 (.tmp 7), 3, _, _, _⟩ hHeld ?_
    (try simp only [Act.put, nz1, nz2, nz3])
    refine tk 6 ⟨some 9, .binOp .eql 3 (.tmp 8) (.const (.int .i64 2)) 3, 4, _, _, _⟩ hHeld ?_
    (try simp only [Act.put, nz1, nz2, nz3])
    refine tk 7 ⟨some 10, .pick (.tmp 6) (.const (.bool true)) (.tmp 9), 4, _, _, _⟩ hHeld ?_
    (try simp only [Act.put, nz1, nz2, nz3])
    refine tk 8 ⟨some 11, .move (.tmp 10), 4, _, _, _⟩ hHeld ?_
    (try simp only [Act.put, nz1, nz2, nz3])
    refine ts 9 ⟨some 12, .fieldAddr 23 (.tmp 1) 2, 0, _, _, _⟩ hHeld ?_
    (try simp only [Act.put, nz1, nz2, nz3])
    refine ts 10 ⟨some 13, .load 3 (.tmp 12), 3, _, _, _⟩ hHeld ?_
    (try simp only [Act.put, nz1, nz2, nz3])
    refine ts 11 ⟨some 14, .binOp .geq 3 (.tmp 13) (.const (.int .i64 1)) 3, 4, _, _, _⟩ hHeld ?_
    (try simp only [Act.put, nz1, nz2, nz3])
    refine tk 12 ⟨some 15, .pick (.tmp 11) (.tmp 14) (.const (.bool false)), 4, _, _, _⟩ hHeld ?_
    (try simp only [Act.put, nz1, nz2, nz3])
    refine tk 13 ⟨some 16, .move (.tmp 15), 4, _, _, _⟩ hHeld ?_
    (try simp only [Act.put, nz1, nz2, nz3])
    refine ts 14 ⟨some 17, .fieldAddr 23 (.tmp 1) 2, 0, _, _, _⟩ hHeld ?_
    (try simp only [Act.put, nz1, nz2, nz3])
    refine ts 15 ⟨some 18, .load 3 (.tmp 17), 3, _, _, _⟩ hHeld ?_
    (try simp only [Act.put, nz1, nz2, nz3])
    refine ts 16 ⟨some 19, .fieldAddr 23 (.tmp 1) 0, 0, _, _, _⟩ hHeld ?_
    (try simp only [Act.put, nz1, nz2, nz3])
    refine ts 17 ⟨some 20, .load 3 (.tmp 19), 3, _, _, _⟩ hHeld ?_
    (try simp only [Act.put, nz1, nz2, nz3])
    refine ts 18 ⟨some 21, .call { callee := .value (.func 76), args := #[.tmp 20], argTypes := #[3] }, 3, _, _, _⟩ hHeld ?_
    (try simp only [Act.put, nz1, nz2, nz3])
    refine ts 19 ⟨some 22, .binOp .leq 3 (.tmp 18) (.tmp 21) 3, 4, _, _, _⟩ hHeld ?_
    (try simp only [Act.put, nz1, nz2, nz3])
    refine tk 20 ⟨some 23, .pick (.tmp 16) (.tmp 22) (.const (.bool false)), 4, _, _, _⟩ hHeld ?_
    (try simp only [Act.put, nz1, nz2, nz3])
    refine tk 21 ⟨some 2, .assign (.tmp 23), 4, _, _, _⟩ hHeld ?_
    (try simp only [Act.put, nz1, nz2, nz3])
    refine wpAnyH_done (by kernel_rfl) ?_ _
    clear c0 c1 c2 hb0
    obtain ⟨c0, c1, c2, hb0⟩ := hHeld
    go_wp2
    go_ret
    exact ⟨rfl, hb0⟩
end Go.Proofs.Ytbekocknfpekoaa
namespace Go.Proofs.Ytbekocknfpekoaa
set_option linter.unusedVariables false
set_option linter.unusedSimpArgs false
open Go.RowKit
set_option maxRecDepth 100000 in
set_option maxHeartbeats 4000000 in
theorem ddepth_t (d : Dm) (w : World) : Calls Try.prog 55 #[dv d] w fun e w' => e = .returned (.int .i64 (depthD d)) ∧ Below w.heap.size w w' := by
  have HR := dright_t d
  have HW := width_t d.kind
  have hw := wid_range d.kind
  have hD : depthD d = if rightD d = true then (wid d.kind + d.step - 1) / d.step else 0 := rfl
  cases hr : rightD d with
  | false =>
    rw [hr] at HR hD
    rw [hD, if_neg (by simp)]
    clear hD hr
    unfold dv at *
    obtain ⟨RR0, hb0⟩ := one_row w #[.int .i64 d.kind, .int .i64 d.side, .int .i64 d.step] 23
    have c0 := (RR0.cell 0).trans (show _ = some (Value.int .i64 d.kind) from rfl)
    have c1 := (RR0.cell 1).trans (show _ = some (Value.int .i64 d.side) from rfl)
    have c2 := (RR0.cell 2).trans (show _ = some (Value.int .i64 d.step) from rfl)
    clear RR0
    go_enter Try.func55, Try.ntmps55
    go_wp2_with fail
    refine (HR _).mono ?_
    rintro e w1 ⟨rfl, hb⟩
    replace c0 := cell_later hb c0
    replace c1 := cell_later hb c1
    replace c2 := cell_later hb c2
    replace hb0 := below_step hb0 hb
    clear hb
    have lc := World.block_lt_of_cell? _ _ c0
    dsimp only at lc
    go_wp2
    go_ret
    exact ⟨rfl, hb0⟩
  | true =>
    obtain ⟨g1, g2, _, _⟩ := depth_range hr
    obtain ⟨_, s1, s2⟩ := (rightD_iff d).1 hr
    rw [hr] at HR
    rw [hr, if_pos rfl] at hD
    generalize depthD d = q at *
    obtain ⟨kd, sd, st⟩ := d
    dsimp only at *
    clear hr
    generalize wid kd = wd at *
    have t1 : IntKind.i64.wrap (wd + st) = wd + st := IntWalk.i64_in _ (by omega)
    have t2 : IntKind.i64.wrap (wd + st - 1) = wd + st - 1 := IntWalk.i64_in _ (by omega)
    have t3 : (wd + st - 1).tdiv st = q := by rw [Int.tdiv_eq_ediv_of_nonneg (by omega)]; exact hD.symm
    have t4 : IntKind.i64.wrap q = q := IntWalk.i64_in _ (by omega)
    have t5 : (st == 0) = false := by simp; omega
    have t6 : ¬ st = 0 := by omega
    clear hD s2 g1 g2 hw
    unfold dv at *
    dsimp only at *
    obtain ⟨RR0, hb0⟩ := one_row w #[.int .i64 kd, .int .i64 sd, .int .i64 st] 23
    have c0 := (RR0.cell 0).trans (show _ = some (Value.int .i64 kd) from rfl)
    have c1 := (RR0.cell 1).trans (show _ = some (Value.int .i64 sd) from rfl)
    have c2 := (RR0.cell 2).trans (show _ = some (Value.int .i64 st) from rfl)
    clear RR0
    go_enter Try.func55, Try.ntmps55
    go_wp2_with fail
    refine (HR _).mono ?_
    rintro e w2 ⟨rfl, hb⟩
    replace c0 := cell_later hb c0
    replace c1 := cell_later hb c1
    replace c2 := cell_later hb c2
    replace hb0 := below_step hb0 hb
    clear hb
    have lc := World.block_lt_of_cell? _ _ c0
    dsimp only at lc
    go_wp2_with fail
    refine wp_region_held_drew (S := (fun w' => w'.cell? ⟨w.heap.size, 0, none⟩ = some (.int .i64 kd) ∧ w'.cell? ⟨w.heap.size, 1, none⟩ = some (.int .i64 sd) ∧ w'.cell? ⟨w.heap.size, 2, none⟩ = some (.int .i64 st) ∧ Below w.heap.size w w')) (by kernel_rfl) ?hSr18_ (fun hHeld => ?_)
    case hSr18_ => (first | exact ⟨c0, c1, c2, hb0.drew⟩ | exact ⟨c0, c1, c2, hb0⟩ | (obtain ⟨c0, c1, c2, hb0⟩ := hHeld; exact ⟨cell_later hb c0, cell_later hb c1, cell_later hb c2, below_step hb0 hb⟩))
    refine tk 0 ⟨some 6, .fieldAddr 23 (.tmp 1) 0, 0, _, _, _⟩ hHeld ?_
    (try simp only [Act.put, nz1, nz2, nz3])
    refine tk 1 ⟨some 7, .load 3 (.tmp 6), 3, _, _, _⟩ hHeld ?_
    (try simp only [Act.put, nz1, nz2, nz3])
    refine tk 3 ⟨some 9, .fieldAddr 23 (.tmp 1) 2, 0, _, _, _⟩ hHeld ?_
    (try simp only [Act.put, nz1, nz2, nz3])
    refine tk 4 ⟨some 10, .load 3 (.tmp 9), 3, _, _, _⟩ hHeld ?_
    (try simp only [Act.put, nz1, nz2, nz3])
    refine tk 7 ⟨some 13, .fieldAddr 23 (.tmp 1) 2, 0, _, _, _⟩ hHeld ?_
    (try simp only [Act.put, nz1, nz2, nz3])
    refine tk 8 ⟨some 14, .load 3 (.tmp 13), 3, _, _, _⟩ hHeld ?_
    (try simp only [Act.put, nz1, nz2, nz3])
    refine wpAnyH_ready (rs := [2]) (by kernel_rfl) (by simp) ?_
    refine AllReadyH.cons (o := ⟨some 8, .call { callee := .value (.func 76), args := #[.tmp 7], argTypes := #[3] }, 3, _, _, _⟩) rfl (fun K hK => ?_) AllReadyH.nil
    (go_simp; (refine (HW _).mono ?_); (rintro e wn ⟨rfl, hb⟩); go_wp2_with fail)
    refine hK.out _ _ ?hSr18_7_2 (fun hHeld2 => ?_)
    case hSr18_7_2 => (first | exact ⟨c0, c1, c2, hb0.drew⟩ | exact ⟨c0, c1, c2, hb0⟩ | (obtain ⟨c0, c1, c2, hb0⟩ := hHeld; exact ⟨cell_later hb c0, cell_later hb c1, cell_later hb c2, below_step hb0 hb⟩))
    clear hK K hHeld
    have hHeld := hHeld2
    clear hHeld2
    (try simp only [Act.put, nz1, nz2, nz3])
    refine tk 5 ⟨some 11, .binOp .add 3 (.tmp 8) (.tmp 10) 3, 3, _, _, _⟩ hHeld ?_
    (try simp only [Act.put, nz1, nz2, nz3])
    refine tk 6 ⟨some 12, .binOp .sub 3 (.tmp 11) (.const (.int .i64 1)) 3, 3, _, _, _⟩ hHeld ?_
    (try simp only [Act.put, nz1, nz2, nz3])
    refine tk 9 ⟨some 15, .binOp .quo 3 (.tmp 12) (.tmp 14) 3, 3, _, _, _⟩ hHeld ?_
    (try simp only [Act.put, nz1, nz2, nz3])
    refine tk 10 ⟨some 2, .assign (.tmp 15), 3, _, _, _⟩ hHeld ?_
    (try simp only [Act.put, nz1, nz2, nz3])
    refine wpAnyH_done (by kernel_rfl) ?_ _
    clear c0 c1 c2 hb0
    obtain ⟨c0, c1, c2, hb0⟩ := hHeld
    go_wp2
    go_ret
    exact ⟨rfl, hb0⟩
set_option maxRecDepth 100000 in
set_option maxHeartbeats 4000000 in
theorem dlen_t (d : Dm) (l : Int) (w : World) : Calls Try.prog 86 #[dv d, .int .i64 l] w fun e w' => e = .returned (.int .i64 (lenD d l)) ∧ Below w.heap.size w w' := by
  have HR := dright_t d
  have HE := ddepth_t d
  have HW := width_t d.kind
  have hw := wid_range d.kind
  have hD : lenD d l = if rightD d = true ∧ 0 ≤ l ∧ l ≤ depthD d then max (wid d.kind - l * d.step) 0 else -1 := rfl
  cases hr : rightD d with
  | false =>
    rw [hr] at HR hD
    rw [hD, if_neg (by simp)]
    clear hD hr HE HW
    unfold dv at *
    obtain ⟨RR0, hb0⟩ := one_row w #[.int .i64 d.kind, .int .i64 d.side, .int .i64 d.step] 23
    have c0 := (RR0.cell 0).trans (show _ = some (Value.int .i64 d.kind) from rfl)
    have c1 := (RR0.cell 1).trans (show _ = some (Value.int .i64 d.side) from rfl)
    have c2 := (RR0.cell 2).trans (show _ = some (Value.int .i64 d.step) from rfl)
    clear RR0
    go_enter Try.func86, Try.ntmps86
    go_wp2_with fail
    refine (HR _).mono ?_
    rintro e w3 ⟨rfl, hb⟩
    replace c0 := cell_later hb c0
    replace c1 := cell_later hb c1
    replace c2 := cell_later hb c2
    replace hb0 := below_step hb0 hb
    clear hb
    have lc := World.block_lt_of_cell? _ _ c0
    dsimp only at lc
    go_wp2
    go_ret
    exact ⟨rfl, hb0⟩
  | true =>
    obtain ⟨g1, g2, _, _⟩ := depth_range hr
    obtain ⟨_, s1, s2⟩ := (rightD_iff d).1 hr
    rw [hr] at HR hD
    generalize depthD d = q at *
    obtain ⟨kd, sd, st⟩ := d
    dsimp only at *
    clear hr
    generalize wid kd = wd at *
    unfold dv at *
    dsimp only at *
    obtain ⟨RR0, hb0⟩ := one_row w #[.int .i64 kd, .int .i64 sd, .int .i64 st] 23
    have c0 := (RR0.cell 0).trans (show _ = some (Value.int .i64 kd) from rfl)
    have c1 := (RR0.cell 1).trans (show _ = some (Value.int .i64 sd) from rfl)
    have c2 := (RR0.cell 2).trans (show _ = some (Value.int .i64 st) from rfl)
    clear RR0
    by_cases l0 : l < 0
    · rw [hD, if_neg (by omega)]
      clear hD HE HW
      go_enter Try.func86, Try.ntmps86
      go_wp2_with fail
      refine (HR _).mono ?_
      rintro e w4 ⟨rfl, hb⟩
      replace c0 := cell_later hb c0
      replace c1 := cell_later hb c1
      replace c2 := cell_later hb c2
      replace hb0 := below_step hb0 hb
      clear hb
      have lc := World.block_lt_of_cell? _ _ c0
      dsimp only at lc
      go_wp2
      go_ret
      exact ⟨rfl, hb0⟩
    · by_cases l1 : q < l
      · rw [hD, if_neg (by omega)]
        clear hD HW
        go_enter Try.func86, Try.ntmps86
        go_wp2_with fail
        refine (HR _).mono ?_
        rintro e w5 ⟨rfl, hb⟩
        replace c0 := cell_later hb c0
        replace c1 := cell_later hb c1
        replace c2 := cell_later hb c2
        replace hb0 := below_step hb0 hb
        clear hb
        have lc := World.block_lt_of_cell? _ _ c0
        dsimp only at lc
        go_wp2_with fail
        refine (HE _).mono ?_
        rintro e w6 ⟨rfl, hb⟩
        replace c0 := cell_later hb c0
        replace c1 := cell_later hb c1
        replace c2 := cell_later hb c2
        replace hb0 := below_step hb0 hb
        clear hb
        have lc := World.block_lt_of_cell? _ _ c0
        dsimp only at lc
        go_wp2
        go_ret
        exact ⟨rfl, hb0⟩
      · rw [if_pos ⟨rfl, by omega, by omega⟩] at hD
        rw [hD]
        have m0 : 0 ≤ l * st := Int.mul_nonneg (by omega) (by omega)
        have m1 : l * st ≤ 128 * 128 := Int.mul_le_mul (by omega) (by omega) (by omega) (by omega)
        have t1 : IntKind.i64.wrap (l * st) = l * st := IntWalk.i64_in _ (by omega)
        have t2 : IntKind.i64.wrap (wd - l * st) = wd - l * st := IntWalk.i64_in _ (by omega)
        obtain ⟨mx, hmx⟩ : ∃ mx, max (wd - l * st) 0 = mx := ⟨_, rfl⟩
        rw [hmx]
        have HM := Lib.hid hmx
        clear hD hmx m0 m1
        go_enter Try.func86, Try.ntmps86
        go_wp2_with fail
        refine (HR _).mono ?_
        rintro e w7 ⟨rfl, hb⟩
        replace c0 := cell_later hb c0
        replace c1 := cell_later hb c1
        replace c2 := cell_later hb c2
        replace hb0 := below_step hb0 hb
        clear hb
        have lc := World.block_lt_of_cell? _ _ c0
        dsimp only at lc
        go_wp2_with fail
        refine (HE _).mono ?_
        rintro e w8 ⟨rfl, hb⟩
        replace c0 := cell_later hb c0
        replace c1 := cell_later hb c1
        replace c2 := cell_later hb c2
        replace hb0 := below_step hb0 hb
        clear hb
        have lc := World.block_lt_of_cell? _ _ c0
        dsimp only at lc
        go_wp2_with fail
        refine wp_region_held_drew (S := (fun w' => w'.cell? ⟨w.heap.size, 0, none⟩ = some (.int .i64 kd) ∧ w'.cell? ⟨w.heap.size, 1, none⟩ = some (.int .i64 sd) ∧ w'.cell? ⟨w.heap.size, 2, none⟩ = some (.int .i64 st) ∧ Below w.heap.size w w')) (by kernel_rfl) ?hSr19_ (fun hHeld => ?_)
        case hSr19_ => (first | exact ⟨c0, c1, c2, hb0.drew⟩ | exact ⟨c0, c1, c2, hb0⟩ | (obtain ⟨c0, c1, c2, hb0⟩ := hHeld; exact ⟨cell_later hb c0, cell_later hb c1, cell_later hb c2, below_step hb0 hb⟩))
        refine tk 0 ⟨some 18, .fieldAddr 23 (.tmp 2) 0, 0, _, _, _⟩ hHeld ?_
        (try simp only [Act.put, nz1, nz2, nz3])
        refine tk 1 ⟨some 19, .load 3 (.tmp 18), 3, _, _, _⟩ hHeld ?_
        (try simp only [Act.put, nz1, nz2, nz3])
        refine tk 3 ⟨some 21, .move (.tmp 1), 3, _, _, _⟩ hHeld ?_
        (try simp only [Act.put, nz1, nz2, nz3])
        refine tk 4 ⟨some 22, .fieldAddr 23 (.tmp 2) 2, 0, _, _, _⟩ hHeld ?_
        (try simp only [Act.put, nz1, nz2, nz3])
        refine tk 5 ⟨some 23, .load 3 (.tmp 22), 3, _, _, _⟩ hHeld ?_
        (try simp only [Act.put, nz1, nz2, nz3])
        refine tk 6 ⟨some 24, .binOp .mul 3 (.tmp 21) (.tmp 23) 3, 3, _, _, _⟩ hHeld ?_
        (try simp only [Act.put, nz1, nz2, nz3])
        refine wpAnyH_ready (rs := [2]) (by kernel_rfl) (by simp) ?_
        refine AllReadyH.cons (o := ⟨some 20, .call { callee := .value (.func 76), args := #[.tmp 19], argTypes := #[3] }, 3, _, _, _⟩) rfl (fun K hK => ?_) AllReadyH.nil
        (go_simp; (refine (HW _).mono ?_); (rintro e wn ⟨rfl, hb⟩); go_wp2_with fail)
        refine hK.out _ _ ?hSr19_7_2 (fun hHeld2 => ?_)
        case hSr19_7_2 => (first | exact ⟨c0, c1, c2, hb0.drew⟩ | exact ⟨c0, c1, c2, hb0⟩ | (obtain ⟨c0, c1, c2, hb0⟩ := hHeld; exact ⟨cell_later hb c0, cell_later hb c1, cell_later hb c2, below_step hb0 hb⟩))
        clear hK K hHeld
        have hHeld := hHeld2
        clear hHeld2
        (try simp only [Act.put, nz1, nz2, nz3])
        refine tk 7 ⟨some 25, .binOp .sub 3 (.tmp 20) (.tmp 24) 3, 3, _, _, _⟩ hHeld ?_
        (try simp only [Act.put, nz1, nz2, nz3])
        refine tk 8 ⟨some 26, .call { callee := .builtin .max, args := #[.tmp 25, .const (.int .i64 0)], argTypes := #[3, 3] }, 3, _, _, _⟩ hHeld ?_ (v := ?vr19_9_8) (hy := ?yr19_9_8)
        case yr19_9_8 => (intro w hSw; (try dsimp only at hSw); go_simp; rw [HM.out])
        (try simp only [Act.put, nz1, nz2, nz3])
        refine tk 9 ⟨some 4, .assign (.tmp 26), 3, _, _, _⟩ hHeld ?_
        (try simp only [Act.put, nz1, nz2, nz3])
        refine wpAnyH_done (by kernel_rfl) ?_ _
        clear c0 c1 c2 hb0
        obtain ⟨c0, c1, c2, hb0⟩ := hHeld
        go_wp2
        go_ret
        exact ⟨rfl, hb0⟩
end Go.Proofs.Ytbekocknfpekoaa
namespace Go.Proofs.Ytbekocknfpekoaa
set_option linter.unusedVariables false
set_option linter.unusedSimpArgs false
open Go.RowKit
theorem cut_bad {k : Ke} (h : rightK k = false) (n : Int) : cutK k n = kz := by unfold cutK; rw [h]; rfl
theorem cut_cut {k : Ke} (h : rightK k = true) (n m : Int) : cutK (cutK k n) m = cutK k (min n m) := by
  obtain ⟨h1, h2, h3⟩ := cut_right h n
  obtain ⟨g1, g2, g3⟩ := cut_right h1 m
  obtain ⟨f1, f2, f3⟩ := cut_right h (min n m)
  refine ke_of_letters g1 f1 (by rw [g2, h2, f2]) ?_
  rw [g3, h3, f3, List.take_take]
  congr 1
  omega
theorem kz_ok : kz.ok := ⟨by unfold Word kz; decide, by unfold Word kz; decide, by unfold kz; decide, by unfold kz; decide, by unfold kz; decide, by unfold kz; decide, by unfold kz; decide⟩
theorem top_ok {k : Ke} (ok : k.ok) (n : Int) (n0 : -9223372036854775808 ≤ n) (n1 : n ≤ 9223372036854775807) : (topK k n).ok := by
  unfold topK
  split
  · exact ⟨by unfold Word; dsimp only; decide, by unfold Word; dsimp only; decide, by dsimp only; decide, by dsimp only; decide, n0, n1, top_len _ _⟩
  · exact ⟨word_hi _, word_lo _, ok.k0, ok.k1, n0, n1, by dsimp only; simp⟩
theorem cut_ok {k : Ke} (ok : k.ok) (n : Int) (n1 : n ≤ 9223372036854775807) : (cutK k n).ok := by
  unfold cutK
  split
  · split
    · exact ok
    · exact top_ok ok _ (by omega) (by omega)
  · exact kz_ok
end Go.Proofs.Ytbekocknfpekoaa
namespace Go.Proofs.Ytbekocknfpekoaa
set_option linter.unusedVariables false
set_option linter.unusedSimpArgs false
open Go.RowKit
def onD (d : Dm) (l : Int) (k : Ke) : Bool := !decide (lenD d l = -1) && (decide (k.kind = d.kind) && (rightK k && (decide (k.len = lenD d l) || (decide (d.kind = 3) && decide (k.len < lenD d l)))))
def cutD (d : Dm) (l : Int) (k : Ke) : Ke := if lenD d l = -1 ∨ ¬ k.kind = d.kind then kz else cutK k (lenD d l)
theorem lenD_range (d : Dm) (l : Int) : -1 ≤ lenD d l ∧ lenD d l ≤ 128 := by
  unfold lenD
  have hw := wid_range d.kind
  split
  · rename_i h
    obtain ⟨_, s1, s2⟩ := (rightD_iff d).1 h.1
    have : 0 ≤ l * d.step := Int.mul_nonneg h.2.1 (by omega)
    omega
  · omega
set_option maxRecDepth 100000 in
set_option maxHeartbeats 8000000 in
theorem don_t (d : Dm) (l : Int) (k : Ke) (ok : k.ok) (w : World) : Calls Try.prog 78 #[dv d, .int .i64 l, kv k] w fun e w' => e = .returned (.bool (onD d l k)) ∧ Below w.heap.size w w' := by
  have HL := dlen_t d l
  have HR := kright_t k ok
  have hd : onD d l k = (!decide (lenD d l = -1) && (decide (k.kind = d.kind) && (rightK k && (decide (k.len = lenD d l) || (decide (d.kind = 3) && decide (k.len < lenD d l)))))) := rfl
  clear ok
  generalize onD d l k = r at *
  generalize lenD d l = n at *
  generalize rightK k = rk at *
  obtain ⟨dk, sd, st⟩ := d
  dsimp only at *
  unfold dv kv at *
  dsimp only at *
  obtain ⟨RR0, RR1, hb0⟩ := two_rows w #[.int .i64 dk, .int .i64 sd, .int .i64 st] #[.int .i64 k.kind, .int .i64 k.len, .int .u64 k.h, .int .u64 k.l, .string ⟨k.path.toArray⟩] 23 30
  have c0 := (RR0.cell 0).trans (show _ = some (Value.int .i64 dk) from rfl)
  have c1 := (RR0.cell 1).trans (show _ = some (Value.int .i64 sd) from rfl)
  have c2 := (RR0.cell 2).trans (show _ = some (Value.int .i64 st) from rfl)
  have e0 := (RR1.cell 0).trans (show _ = some (Value.int .i64 k.kind) from rfl)
  have e1 := (RR1.cell 1).trans (show _ = some (Value.int .i64 k.len) from rfl)
  have e2 := (RR1.cell 2).trans (show _ = some (Value.int .u64 k.h) from rfl)
  have e3 := (RR1.cell 3).trans (show _ = some (Value.int .u64 k.l) from rfl)
  have e4 := (RR1.cell 4).trans (show _ = some (Value.string ⟨k.path.toArray⟩) from rfl)
  clear RR0 RR1
  by_cases h1 : n = -1
  · have e : r = false := by rw [hd]; simp [h1]
    subst h1 e
    clear hd HR
    go_enter Try.func78, Try.ntmps78
    go_wp2_with fail
    refine (HL _).mono ?_
    rintro e w1 ⟨rfl, hb⟩
    replace c0 := cell_later hb c0
    replace c1 := cell_later hb c1
    replace c2 := cell_later hb c2
    replace e0 := cell_later hb e0
    replace e1 := cell_later hb e1
    replace e2 := cell_later hb e2
    replace e3 := cell_later hb e3
    replace e4 := cell_later hb e4
    replace hb0 := below_step hb0 hb
    clear hb
    have lc := World.block_lt_of_cell? _ _ c0
    dsimp only at lc
    have le := World.block_lt_of_cell? _ _ e0
    dsimp only at le
    go_wp2
    go_ret
    exact ⟨rfl, hb0⟩
  have h1' : (n == -1) = false := by simpa using h1
  by_cases h2 : k.kind = dk
  · subst h2
    cases rk with
    | false =>
      have e : r = false := by rw [hd]; simp
      subst e
      clear hd
      go_enter Try.func78, Try.ntmps78
      go_wp2_with fail
      refine (HL _).mono ?_
      rintro e w2 ⟨rfl, hb⟩
      replace c0 := cell_later hb c0
      replace c1 := cell_later hb c1
      replace c2 := cell_later hb c2
      replace e0 := cell_later hb e0
      replace e1 := cell_later hb e1
      replace e2 := cell_later hb e2
      replace e3 := cell_later hb e3
      replace e4 := cell_later hb e4
      replace hb0 := below_step hb0 hb
      clear hb
      have lc := World.block_lt_of_cell? _ _ c0
      dsimp only at lc
      have le := World.block_lt_of_cell? _ _ e0
      dsimp only at le
      go_wp2_with fail
      refine (HR _).mono ?_
      rintro e w3 ⟨rfl, hb⟩
      replace c0 := cell_later hb c0
      replace c1 := cell_later hb c1
      replace c2 := cell_later hb c2
      replace e0 := cell_later hb e0
      replace e1 := cell_later hb e1
      replace e2 := cell_later hb e2
      replace e3 := cell_later hb e3
      replace e4 := cell_later hb e4
      replace hb0 := below_step hb0 hb
      clear hb
      have lc := World.block_lt_of_cell? _ _ c0
      dsimp only at lc
      have le := World.block_lt_of_cell? _ _ e0
      dsimp only at le
      go_wp2
      go_ret
      exact ⟨rfl, hb0⟩
    | true =>
      have hd2 : r = (decide (k.len = n) || (decide (k.kind = 3) && decide (k.len < n))) := by rw [hd]; simp [h1]
      clear hd
      by_cases h3 : k.len = n
      · have h3' : (k.len == n) = true := by simpa using h3
        have e : r = true := by rw [hd2]; simp [h3]
        subst e
        clear hd2 h3
        go_enter Try.func78, Try.ntmps78
        go_wp2_with fail
        refine (HL _).mono ?_
        rintro e w4 ⟨rfl, hb⟩
        replace c0 := cell_later hb c0
        replace c1 := cell_later hb c1
        replace c2 := cell_later hb c2
        replace e0 := cell_later hb e0
        replace e1 := cell_later hb e1
        replace e2 := cell_later hb e2
        replace e3 := cell_later hb e3
        replace e4 := cell_later hb e4
        replace hb0 := below_step hb0 hb
        clear hb
        have lc := World.block_lt_of_cell? _ _ c0
        dsimp only at lc
        have le := World.block_lt_of_cell? _ _ e0
        dsimp only at le
        go_wp2_with fail
        refine (HR _).mono ?_
        rintro e w5 ⟨rfl, hb⟩
        replace c0 := cell_later hb c0
        replace c1 := cell_later hb c1
        replace c2 := cell_later hb c2
        replace e0 := cell_later hb e0
        replace e1 := cell_later hb e1
        replace e2 := cell_later hb e2
        replace e3 := cell_later hb e3
        replace e4 := cell_later hb e4
        replace hb0 := below_step hb0 hb
        clear hb
        have lc := World.block_lt_of_cell? _ _ c0
        dsimp only at lc
        have le := World.block_lt_of_cell? _ _ e0
        dsimp only at le
        go_wp2
        go_ret
        exact ⟨rfl, hb0⟩
      · have h3' : (k.len == n) = false := by simpa using h3
        by_cases h4 : k.kind = 3
        · obtain ⟨kk, kn, kh, kl, kp⟩ := k
          dsimp only at *
          subst h4
          by_cases h5 : kn < n
          · have e : r = true := by rw [hd2]; simp [h5]
            subst e
            clear hd2
            go_enter Try.func78, Try.ntmps78
            go_wp2_with fail
            refine (HL _).mono ?_
            rintro e w6 ⟨rfl, hb⟩
            replace c0 := cell_later hb c0
            replace c1 := cell_later hb c1
            replace c2 := cell_later hb c2
            replace e0 := cell_later hb e0
            replace e1 := cell_later hb e1
            replace e2 := cell_later hb e2
            replace e3 := cell_later hb e3
            replace e4 := cell_later hb e4
            replace hb0 := below_step hb0 hb
            clear hb
            have lc := World.block_lt_of_cell? _ _ c0
            dsimp only at lc
            have le := World.block_lt_of_cell? _ _ e0
            dsimp only at le
            go_wp2_with fail
            refine (HR _).mono ?_
            rintro e w7 ⟨rfl, hb⟩
            replace c0 := cell_later hb c0
            replace c1 := cell_later hb c1
            replace c2 := cell_later hb c2
            replace e0 := cell_later hb e0
            replace e1 := cell_later hb e1
            replace e2 := cell_later hb e2
            replace e3 := cell_later hb e3
            replace e4 := cell_later hb e4
            replace hb0 := below_step hb0 hb
            clear hb
            have lc := World.block_lt_of_cell? _ _ c0
            dsimp only at lc
            have le := World.block_lt_of_cell? _ _ e0
            dsimp only at le
            go_wp2
            go_ret
            exact ⟨rfl, hb0⟩
          · have h5' : decide (kn < n) = false := decide_eq_false h5
            have e : r = false := by rw [hd2]; simp [h3, h5]
            subst e
            clear hd2
            go_enter Try.func78, Try.ntmps78
            go_wp2_with fail
            refine (HL _).mono ?_
            rintro e w8 ⟨rfl, hb⟩
            replace c0 := cell_later hb c0
            replace c1 := cell_later hb c1
            replace c2 := cell_later hb c2
            replace e0 := cell_later hb e0
            replace e1 := cell_later hb e1
            replace e2 := cell_later hb e2
            replace e3 := cell_later hb e3
            replace e4 := cell_later hb e4
            replace hb0 := below_step hb0 hb
            clear hb
            have lc := World.block_lt_of_cell? _ _ c0
            dsimp only at lc
            have le := World.block_lt_of_cell? _ _ e0
            dsimp only at le
            go_wp2_with fail
            refine (HR _).mono ?_
            rintro e w9 ⟨rfl, hb⟩
            replace c0 := cell_later hb c0
            replace c1 := cell_later hb c1
            replace c2 := cell_later hb c2
            replace e0 := cell_later hb e0
            replace e1 := cell_later hb e1
            replace e2 := cell_later hb e2
            replace e3 := cell_later hb e3
            replace e4 := cell_later hb e4
            replace hb0 := below_step hb0 hb
            clear hb
            have lc := World.block_lt_of_cell? _ _ c0
            dsimp only at lc
            have le := World.block_lt_of_cell? _ _ e0
            dsimp only at le
            go_wp2
            go_ret
            exact ⟨rfl, hb0⟩
        · skip
          have h4' : (k.kind == 3) = false := by simpa using h4
          have e : r = false := by rw [hd2]; simp [h3, h4]
          subst e
          clear hd2
          go_enter Try.func78, Try.ntmps78
          go_wp2_with fail
          refine (HL _).mono ?_
          rintro e w10 ⟨rfl, hb⟩
          replace c0 := cell_later hb c0
          replace c1 := cell_later hb c1
          replace c2 := cell_later hb c2
          replace e0 := cell_later hb e0
          replace e1 := cell_later hb e1
          replace e2 := cell_later hb e2
          replace e3 := cell_later hb e3
          replace e4 := cell_later hb e4
          replace hb0 := below_step hb0 hb
          clear hb
          have lc := World.block_lt_of_cell? _ _ c0
          dsimp only at lc
          have le := World.block_lt_of_cell? _ _ e0
          dsimp only at le
          go_wp2_with fail
          refine (HR _).mono ?_
          rintro e w11 ⟨rfl, hb⟩
          replace c0 := cell_later hb c0
          replace c1 := cell_later hb c1
          replace c2 := cell_later hb c2
          replace e0 := cell_later hb e0
          replace e1 := cell_later hb e1
          replace e2 := cell_later hb e2
          replace e3 := cell_later hb e3
          replace e4 := cell_later hb e4
          replace hb0 := below_step hb0 hb
          clear hb
          have lc := World.block_lt_of_cell? _ _ c0
          dsimp only at lc
          have le := World.block_lt_of_cell? _ _ e0
          dsimp only at le
          go_wp2
          go_ret
          exact ⟨rfl, hb0⟩
  · skip
    have h2' : (k.kind == dk) = false := by simpa using h2
    have e : r = false := by rw [hd]; simp [h2]
    subst e
    clear hd HR
    go_enter Try.func78, Try.ntmps78
    go_wp2_with fail
    refine (HL _).mono ?_
    rintro e w12 ⟨rfl, hb⟩
    replace c0 := cell_later hb c0
    replace c1 := cell_later hb c1
    replace c2 := cell_later hb c2
    replace e0 := cell_later hb e0
    replace e1 := cell_later hb e1
    replace e2 := cell_later hb e2
    replace e3 := cell_later hb e3
    replace e4 := cell_later hb e4
    replace hb0 := below_step hb0 hb
    clear hb
    have lc := World.block_lt_of_cell? _ _ c0
    dsimp only at lc
    have le := World.block_lt_of_cell? _ _ e0
    dsimp only at le
    go_wp2
    go_ret
    exact ⟨rfl, hb0⟩
end Go.Proofs.Ytbekocknfpekoaa
namespace Go.Proofs.Ytbekocknfpekoaa
set_option linter.unusedVariables false
set_option linter.unusedSimpArgs false
open Go.RowKit
set_option maxRecDepth 100000 in
set_option maxHeartbeats 8000000 in
theorem dcut_t (d : Dm) (l : Int) (k : Ke) (ok : k.ok) (w : World) : Calls Try.prog 61 #[dv d, .int .i64 l, kv k] w fun e w' => e = .returned (kv (cutD d l k)) ∧ Below w.heap.size w w' := by
  have HL := dlen_t d l
  have hn := lenD_range d l
  have HC := kcut_t k ok (lenD d l) (by omega)
  have hd : cutD d l k = if lenD d l = -1 ∨ ¬ k.kind = d.kind then kz else cutK k (lenD d l) := rfl
  clear ok
  generalize cutK k (lenD d l) = t at *
  generalize cutD d l k = r at *
  generalize lenD d l = n at *
  obtain ⟨dk, sd, st⟩ := d
  dsimp only at *
  unfold dv at *
  dsimp only at *
  obtain ⟨R0, R1, R2, hb0⟩ := three_rows w #[.int .i64 dk, .int .i64 sd, .int .i64 st] #[.int .i64 k.kind, .int .i64 k.len, .int .u64 k.h, .int .u64 k.l, .string ⟨k.path.toArray⟩] #[.int .i64 0, .int .i64 0, .int .u64 0, .int .u64 0, .string ⟨#[]⟩] 23 30 30
  have c0 := (R0.cell 0).trans (show _ = some (Value.int .i64 dk) from rfl)
  have c1 := (R0.cell 1).trans (show _ = some (Value.int .i64 sd) from rfl)
  have c2 := (R0.cell 2).trans (show _ = some (Value.int .i64 st) from rfl)
  clear R0
  by_cases h1 : n = -1
  · subst h1
    rw [if_pos (.inl rfl)] at hd
    subst hd
    clear HC R1
    unfold kv kz
    dsimp only
    go_enter Try.func61, Try.ntmps61
    go_wp2_with fail
    refine (HL _).mono ?_
    rintro e w1 ⟨rfl, hb⟩
    replace R2 := R2.later hb
    replace hb0 := below_step hb0 hb
    clear hb c0 c1 c2
    have z0 := ((R2).cell 0).trans (show _ = some (Value.int .i64 0) from rfl)
    have zf0 := (R2).frozen 0
    have z1 := ((R2).cell 1).trans (show _ = some (Value.int .i64 0) from rfl)
    have zf1 := (R2).frozen 1
    have z2 := ((R2).cell 2).trans (show _ = some (Value.int .u64 0) from rfl)
    have zf2 := (R2).frozen 2
    have z3 := ((R2).cell 3).trans (show _ = some (Value.int .u64 0) from rfl)
    have zf3 := (R2).frozen 3
    have z4 := ((R2).cell 4).trans (show _ = some (Value.string ⟨#[]⟩) from rfl)
    have zf4 := (R2).frozen 4
    clear R2
    go_wp2
    refine bodyPost_ret (v := .agg #[.int .i64 0, .int .i64 0, .int .u64 0, .int .u64 0, .string ⟨#[]⟩]) (by simp [results, Try.results61, go_sem, z0, z1, z2, z3, z4]) rfl ⟨rfl, bset5 hb0 (by omega) _ _ _ _ _⟩
  have h1' : (n == -1) = false := by simpa using h1
  by_cases h2 : k.kind = dk
  · rw [if_neg (by simp [h1, h2])] at hd
    subst hd
    obtain ⟨kk, kn, kh, kl, kp⟩ := k
    dsimp only at *
    subst h2
    obtain ⟨t0, t1, t2, t3, t4⟩ := r
    unfold kv at *
    dsimp only at *
    go_enter Try.func61, Try.ntmps61
    go_wp2_with fail
    refine (HL _).mono ?_
    rintro e w1 ⟨rfl, hb⟩
    replace c0 := cell_later hb c0
    replace R1 := R1.later hb
    replace R2 := R2.later hb
    replace hb0 := below_step hb0 hb
    clear hb c1 c2 HL
    have d0 := ((R1).cell 0).trans (show _ = some (Value.int .i64 kk) from rfl)
    have df0 := (R1).frozen 0
    have d1 := ((R1).cell 1).trans (show _ = some (Value.int .i64 kn) from rfl)
    have df1 := (R1).frozen 1
    have d2 := ((R1).cell 2).trans (show _ = some (Value.int .u64 kh) from rfl)
    have df2 := (R1).frozen 2
    have d3 := ((R1).cell 3).trans (show _ = some (Value.int .u64 kl) from rfl)
    have df3 := (R1).frozen 3
    have d4 := ((R1).cell 4).trans (show _ = some (Value.string ⟨kp.toArray⟩) from rfl)
    have df4 := (R1).frozen 4
    clear R1
    go_wp2_with fail
    refine (HC _).mono ?_
    rintro e w2 ⟨rfl, hb⟩
    replace R2 := R2.later hb
    replace hb0 := below_step hb0 hb
    clear hb c0 d0 d1 d2 d3 d4 df0 df1 df2 df3 df4 HC
    have z0 := ((R2).cell 0).trans (show _ = some (Value.int .i64 0) from rfl)
    have zf0 := (R2).frozen 0
    have z1 := ((R2).cell 1).trans (show _ = some (Value.int .i64 0) from rfl)
    have zf1 := (R2).frozen 1
    have z2 := ((R2).cell 2).trans (show _ = some (Value.int .u64 0) from rfl)
    have zf2 := (R2).frozen 2
    have z3 := ((R2).cell 3).trans (show _ = some (Value.int .u64 0) from rfl)
    have zf3 := (R2).frozen 3
    have z4 := ((R2).cell 4).trans (show _ = some (Value.string ⟨#[]⟩) from rfl)
    have zf4 := (R2).frozen 4
    clear R2
    go_wp2
    refine bodyPost_ret (v := .agg #[.int .i64 t0, .int .i64 t1, .int .u64 t2, .int .u64 t3, .string ⟨t4.toArray⟩]) (by simp [results, Try.results61, go_sem, z0, z1, z2, z3, z4]) rfl ⟨rfl, bset5 hb0 (by omega) _ _ _ _ _⟩
  · rw [if_pos (.inr h2)] at hd
    subst hd
    have h2' : (k.kind == dk) = false := by simpa using h2
    clear HC
    unfold kv kz
    dsimp only
    go_enter Try.func61, Try.ntmps61
    go_wp2_with fail
    refine (HL _).mono ?_
    rintro e w1 ⟨rfl, hb⟩
    replace c0 := cell_later hb c0
    have d0 := ((R1.later hb).cell 0).trans (show _ = some (Value.int .i64 k.kind) from rfl)
    replace R2 := R2.later hb
    replace hb0 := below_step hb0 hb
    clear hb c1 c2 R1 HL
    have z0 := ((R2).cell 0).trans (show _ = some (Value.int .i64 0) from rfl)
    have zf0 := (R2).frozen 0
    have z1 := ((R2).cell 1).trans (show _ = some (Value.int .i64 0) from rfl)
    have zf1 := (R2).frozen 1
    have z2 := ((R2).cell 2).trans (show _ = some (Value.int .u64 0) from rfl)
    have zf2 := (R2).frozen 2
    have z3 := ((R2).cell 3).trans (show _ = some (Value.int .u64 0) from rfl)
    have zf3 := (R2).frozen 3
    have z4 := ((R2).cell 4).trans (show _ = some (Value.string ⟨#[]⟩) from rfl)
    have zf4 := (R2).frozen 4
    clear R2
    go_wp2
    refine bodyPost_ret (v := .agg #[.int .i64 0, .int .i64 0, .int .u64 0, .int .u64 0, .string ⟨#[]⟩]) (by simp [results, Try.results61, go_sem, z0, z1, z2, z3, z4]) rfl ⟨rfl, bset5 hb0 (by omega) _ _ _ _ _⟩
end Go.Proofs.Ytbekocknfpekoaa
namespace Go.Proofs.Ytbekocknfpekoaa
set_option linter.unusedVariables false
set_option linter.unusedSimpArgs false
open Go.RowKit
attribute [local go_sem] Oper.semAt_some
/-- how many levels there are -/
def cntD (d : Dm) : Nat := if rightD d = true then (depthD d).toNat + 1 else 0
def levF (d : Dm) (k : Nat) : Array Value := #[.int .i64 k, .int .i64 (lenD d k)]
end Go.Proofs.Ytbekocknfpekoaa
namespace Go.Proofs.Ytbekocknfpekoaa
set_option linter.unusedVariables false
set_option linter.unusedSimpArgs false
open Go.RowKit
attribute [local go_sem] Oper.semAt_some
/-- the first level of a length -/
def levelD (d : Dm) (n : Int) : Int := match (List.range (cntD d)).find? (fun i : Nat => decide (lenD d i = n)) with
  | some i => (i : Int)
  | none => -1
end Go.Proofs.Ytbekocknfpekoaa
