/- Doubling the text of a number: the text of the doubled number. No conditions. -/
import Derived.Test.YtbhaoafngneclaaDoorNR1
namespace Go.Proofs.YtbhaoafngneclaaDoor
set_option linter.unusedVariables false
set_option linter.unusedSimpArgs false
theorem valA_pow : ∀ (l : List UInt8) (a : Nat), valA a l = a * 10 ^ l.length + valT l
  | [], a => by simp [valA, valT]
  | c :: r, a => by
    show valA (10 * a + (c.toNat - 48)) r = a * 10 ^ (r.length + 1) + valA (10 * 0 + (c.toNat - 48)) r
    rw [valA_pow r, valA_pow r (10 * 0 + (c.toNat - 48)), Nat.pow_succ, Nat.add_mul, Nat.add_mul, Nat.mul_comm 10 a, Nat.mul_assoc, Nat.mul_comm 10 (10 ^ r.length)]
    omega
theorem valT_cons (c : UInt8) (r : List UInt8) : valT (c :: r) = (c.toNat - 48) * 10 ^ r.length + valT r := by
  show valA (10 * 0 + (c.toNat - 48)) r = _
  rw [valA_pow, Nat.mul_zero, Nat.zero_add]
theorem dbl_val : ∀ (l : List UInt8) (o : Nat), crr l o * 10 ^ l.length + valT (dbl l o) = 2 * valT l + o
  | [], o => by simp [crr, dbl, valT, valA]
  | c :: r, o => by
    have ih := dbl_val r o
    rw [crr, dbl, valT_cons, valT_cons, dg_toNat, dbl_len, List.length_cons, Nat.pow_succ]
    generalize 10 ^ r.length = P at *
    generalize c.toNat - 48 = d at *
    generalize crr r o = K at *
    have e : 2 * d + K = 10 * ((2 * d + K) / 10) + (2 * d + K) % 10 := by omega
    have e2 : (2 * d + K) * P = 10 * ((2 * d + K) / 10) * P + (2 * d + K) % 10 * P := by conv => lhs; rw [e, Nat.add_mul]
    rw [Nat.add_mul] at e2
    rw [show 48 + (2 * d + K) % 10 - 48 = (2 * d + K) % 10 by omega]
    have e3 : (2 * d + K) / 10 * (P * 10) = 10 * ((2 * d + K) / 10) * P := by rw [Nat.mul_comm P 10, ← Nat.mul_assoc, Nat.mul_comm _ 10]
    have e4 : 2 * (d * P) = 2 * d * P := by rw [Nat.mul_assoc]
    omega
theorem dbl_digs : ∀ (l : List UInt8) (o : Nat), digs (dbl l o)
  | [], _ => fun c h => by simp [dbl] at h
  | c :: r, o => fun x h => by
    rw [dbl, List.mem_cons] at h
    rcases h with rfl | h
    · rw [dg_toNat]; omega
    · exact dbl_digs r o x h
theorem dblT_val (l : List UInt8) (o : Nat) (hd : digs l) (ho : o ≤ 1) : valT (dblT l o) = 2 * valT l + o := by
  have h1 := dbl_val l o
  have h2 := crr_le l o hd ho
  unfold dblT
  split
  · rename_i h; rw [h, Nat.zero_mul] at h1; omega
  · rename_i h
    have h3 : crr l o = 1 := by omega
    rw [h3] at h1
    rw [valT_cons, dbl_len]
    exact h1
theorem dblT_digs (l : List UInt8) (o : Nat) : digs (dblT l o) := by
  unfold dblT
  split
  · exact dbl_digs l o
  · intro c h
    rw [List.mem_cons] at h
    rcases h with rfl | h
    · decide
    · exact dbl_digs l o c h
theorem digs_all {l : List UInt8} (h : digs l) : l.all dgB = true := by
  rw [List.all_eq_true]
  intro x hx
  have := h x hx
  simp [dgB, this]
theorem dblT_tx (n o : Nat) (ho : o ≤ 1) : txB (dblT (decN n) o) = true := by
  have hd := dec_digs n
  by_cases h0 : n = 0
  · subst h0
    rw [dec_zero]
    rcases (show o = 0 ∨ o = 1 by omega) with rfl | rfl <;> decide
  · have hall := digs_all (dblT_digs (decN n) o)
    unfold txB
    rw [hall]
    have hh := dec_head n h0
    have hne := decN_ne n
    unfold dblT
    split
    · rename_i hc
      cases hq : decN n with
      | nil => exact absurd hq hne
      | cons c r =>
        rw [hq] at hh hc hd
        have hcd := hd c (by simp)
        have hc0 : c.toNat ≠ 48 := fun e => hh (by simp; exact UInt8.toNat_inj.1 e)
        rw [crr] at hc
        rw [dbl]
        have hx : dg (2 * (c.toNat - 48) + crr r o) ≠ 48 := fun e => by
          have := congrArg UInt8.toNat e
          rw [dg_toNat] at this
          have h48 : (48 : UInt8).toNat = 48 := rfl
          omega
        simp [hx]
    · simp
theorem dblT_dec (n o : Nat) (ho : o ≤ 1) : dblT (decN n) o = decN (2 * n + o) := by
  have h1 := dec_val (dblT_tx n o ho)
  rw [dblT_val _ o (dec_digs n) ho, valT_dec] at h1
  exact h1.symm
end Go.Proofs.YtbhaoafngneclaaDoor
