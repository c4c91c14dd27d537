/- Numbers and their decimal texts: there and back, and the order. No conditions. -/
import Derived.Test.YtbhaoafngneclaaDoorN6
import Derived.Lib.SmallJoins
namespace Go.Proofs.YtbhaoafngneclaaDoor
set_option linter.unusedVariables false
set_option linter.unusedSimpArgs false
theorem valT_snoc (l : List UInt8) (c : UInt8) : valT (l ++ [c]) = 10 * valT l + (c.toNat - 48) := valA_append l [c] 0
theorem valT_dec (n : Nat) : valT (decN n) = n := by
  induction n using Nat.strongRecOn with
  | _ n ih =>
    by_cases h : n < 10
    · rw [decN_small h]
      show 10 * 0 + ((dg n).toNat - 48) = n
      rw [dg_toNat]; omega
    · rw [decN_big h, valT_snoc, ih (n / 10) (by omega), dg_toNat]; omega
theorem dec_all (n : Nat) : (decN n).all dgB = true := by
  induction n using Nat.strongRecOn with
  | _ n ih =>
    have hd : dgB (dg n) = true := by unfold dgB; rw [dg_toNat]; simp; omega
    by_cases h : n < 10
    · rw [decN_small h]; simp [hd]
    · rw [decN_big h, List.all_append, ih (n / 10) (by omega)]; simp [hd]
theorem dec_head (n : Nat) (h0 : n ≠ 0) : (decN n).head? ≠ some 48 := by
  induction n using Nat.strongRecOn with
  | _ n ih =>
    by_cases h : n < 10
    · rw [decN_small h]
      intro e
      have h2 := dg_ne (n := n) (by omega)
      simp only [List.head?_cons, Option.some.injEq] at e
      rw [e] at h2
      simp at h2
    · rw [decN_big h]
      have hne := decN_ne (n / 10)
      have := ih (n / 10) (by omega) (by omega)
      cases hq : decN (n / 10) with
      | nil => exact absurd hq hne
      | cons a b => rw [hq] at this; simpa using this
theorem dec_tx (n : Nat) : txB (decN n) = true := by
  unfold txB
  rw [dec_all]
  by_cases h : n = 0
  · subst h; rw [decN_small (by omega)]; decide
  · have h1 := decN_ne n
    have h2 := dec_head n h
    have e1 : (decN n).isEmpty = false := by simpa using h1
    have e2 : ((decN n).head? != some 48) = true := by simpa [bne_iff_ne] using h2
    rw [e1, e2]; simp
theorem dec_zero : decN 0 = [48] := by rw [decN_small (by omega)]; decide
theorem dec_val_aux : ∀ (k : Nat) (l : List UInt8), l.length = k → l ≠ [] → l.all dgB = true → l.head? ≠ some 48 → decN (valT l) = l := by
  intro k
  induction k with
  | zero => intro l h hn; exact absurd (List.length_eq_zero_iff.1 h) hn
  | succ k ih =>
    intro l hl hn ha hh
    have hsp := List.dropLast_concat_getLast hn
    generalize l.dropLast = m at hsp
    generalize l.getLast hn = c at hsp
    subst hsp
    have hm : m.length = k := by simpa using hl
    rw [List.all_append, Bool.and_eq_true] at ha
    obtain ⟨ha1, ha2⟩ := ha
    have hc : 48 ≤ c.toNat ∧ c.toNat ≤ 57 := by simpa [dgB] using ha2
    rw [valT_snoc]
    have hdg : ∀ v, dg (10 * v + (c.toNat - 48)) = c := fun v => by
      apply UInt8.toNat_inj.1
      rw [dg_toNat]; omega
    by_cases hm0 : m = []
    · subst hm0
      have e := hdg 0
      rw [show valT [] = 0 from rfl, decN_small (by omega), e]; rfl
    · have hh2 : m.head? ≠ some 48 := by
        cases m with
        | nil => exact absurd rfl hm0
        | cons a b => simpa using hh
      have e := ih m hm hm0 ha1 hh2
      have hv : valT m ≠ 0 := by
        intro h0
        rw [h0, dec_zero] at e
        rw [← e] at hh2
        exact hh2 rfl
      rw [decN_big (by omega), hdg, show (10 * valT m + (c.toNat - 48)) / 10 = valT m by omega, e]
theorem dec_val {l : List UInt8} (h : txB l = true) : decN (valT l) = l := by
  unfold txB at h
  rw [Bool.and_eq_true, Bool.or_eq_true] at h
  obtain ⟨h1, h2⟩ := h
  rcases h2 with h2 | h2
  · have e : l = [48] := by simpa using h2
    subst e
    exact dec_zero
  · rw [Bool.and_eq_true] at h2
    have a : l ≠ [] := by simpa using h2.1
    have b : l.head? ≠ some 48 := by simpa [bne_iff_ne] using h2.2
    exact dec_val_aux _ l rfl a h1 b
theorem dec_len_pos (n : Nat) : 1 ≤ (decN n).length := by
  have := decN_ne n
  cases h : decN n with
  | nil => exact absurd h this
  | cons a b => simp
theorem dec_len_lt (n : Nat) : n < 10 ^ (decN n).length := by
  induction n using Nat.strongRecOn with
  | _ n ih =>
    by_cases h : n < 10
    · rw [decN_small h]; simpa using h
    · rw [decN_big h, List.length_append]
      have := ih (n / 10) (by omega)
      show n < 10 ^ ((decN (n / 10)).length + 1)
      rw [Nat.pow_succ]; omega
theorem dec_len_ge (n : Nat) (h0 : n ≠ 0) : 10 ^ ((decN n).length - 1) ≤ n := by
  induction n using Nat.strongRecOn with
  | _ n ih =>
    by_cases h : n < 10
    · rw [decN_small h]; simp; omega
    · rw [decN_big h, List.length_append]
      have h1 := ih (n / 10) (by omega) (by omega)
      have h2 := dec_len_pos (n / 10)
      show 10 ^ ((decN (n / 10)).length + 1 - 1) ≤ n
      rw [Nat.add_sub_cancel]
      obtain ⟨k, hk⟩ : ∃ k, (decN (n / 10)).length = k + 1 := ⟨(decN (n / 10)).length - 1, by omega⟩
      rw [hk] at h1 ⊢
      rw [Nat.add_sub_cancel] at h1
      rw [Nat.pow_succ]; omega
theorem dec_len_39 (n : Nat) (h : n < 10 ^ 39) : (decN n).length ≤ 39 := by
  by_cases h0 : n = 0
  · subst h0; rw [dec_zero]; decide
  · have := dec_len_ge n h0
    have h2 : 10 ^ ((decN n).length - 1) < 10 ^ 39 := by omega
    have h3 := (Nat.pow_lt_pow_iff_right (by decide : 1 < 10)).1 h2
    omega
theorem dec_shorter {a b : Nat} (h : (decN a).length < (decN b).length) : a < b := by
  have h1 := dec_len_pos a
  have hb : b ≠ 0 := by
    rintro rfl
    have h0 : (decN 0).length = 1 := by rw [dec_zero]; rfl
    omega
  have h2 := dec_len_ge b hb
  have h3 := dec_len_lt a
  have h4 : 10 ^ (decN a).length ≤ 10 ^ ((decN b).length - 1) := Nat.pow_le_pow_right (by decide) (by omega)
  omega
def digs (l : List UInt8) : Prop := ∀ c ∈ l, 48 ≤ c.toNat ∧ c.toNat ≤ 57
theorem dec_digs (n : Nat) : digs (decN n) := by
  intro c hc
  have := List.all_eq_true.1 (dec_all n) c hc
  simpa [dgB] using this
theorem val_mono : ∀ (l m : List UInt8) (a b : Nat), l.length = m.length → digs l → digs m → a < b → valA a l < valA b m
  | [], [], _, _, _, _, _, h => h
  | [], _ :: _, _, _, h, _, _, _ => by simp at h
  | _ :: _, [], _, _, h, _, _, _ => by simp at h
  | c :: x, d :: y, a, b, h, hl, hm, hab => by
    have hc := hl c (by simp)
    have hd := hm d (by simp)
    exact val_mono x y (10 * a + (c.toNat - 48)) (10 * b + (d.toNat - 48)) (by simpa using h) (fun e he => hl e (by simp [he])) (fun e he => hm e (by simp [he])) (by omega)
theorem less_val : ∀ (l m : List UInt8) (a : Nat), l.length = m.length → digs l → digs m → Op.bytesLess l m = decide (valA a l < valA a m)
  | [], [], a, _, _, _ => by simp [Op.bytesLess, valA]
  | [], _ :: _, _, h, _, _ => by simp at h
  | _ :: _, [], _, h, _, _ => by simp at h
  | c :: x, d :: y, a, h, hl, hm => by
    have hc := hl c (by simp)
    have hd := hm d (by simp)
    have hx : digs x := fun e he => hl e (by simp [he])
    have hy : digs y := fun e he => hm e (by simp [he])
    have hlen : x.length = y.length := by simpa using h
    rw [Op.bytesLess]
    show _ = decide (valA (10 * a + (c.toNat - 48)) x < valA (10 * a + (d.toNat - 48)) y)
    by_cases h1 : c.toNat < d.toNat
    · have e1 : decide (c < d) = true := by simpa [UInt8.lt_iff_toNat_lt] using h1
      have := val_mono x y (10 * a + (c.toNat - 48)) (10 * a + (d.toNat - 48)) hlen hx hy (by omega)
      rw [e1]; simp [this]
    · have e1 : decide (c < d) = false := by simpa [UInt8.lt_iff_toNat_lt] using h1
      by_cases h2 : c = d
      · subst h2
        rw [e1, less_val x y (10 * a + (c.toNat - 48)) hlen hx hy]; simp
      · have h3 : c.toNat ≠ d.toNat := fun e => h2 (UInt8.toNat_inj.1 e)
        have := val_mono y x (10 * a + (d.toNat - 48)) (10 * a + (c.toNat - 48)) hlen.symm hy hx (by omega)
        rw [e1]
        have e2 : (c == d) = false := by simpa using h2
        rw [e2]; simp; omega
/-- the order of numbers by their texts -/
theorem dec_less (a b : Nat) : (decide ((decN a).length < (decN b).length) || (decide ((decN a).length = (decN b).length) && Op.bytesLess (decN a) (decN b))) = decide (a < b) := by
  by_cases h1 : (decN a).length < (decN b).length
  · simp [h1, dec_shorter h1]
  · by_cases h2 : (decN a).length = (decN b).length
    · rw [less_val _ _ 0 h2 (dec_digs a) (dec_digs b)]
      show (decide ((decN a).length < (decN b).length) || (decide ((decN a).length = (decN b).length) && decide (valT (decN a) < valT (decN b)))) = _
      rw [valT_dec, valT_dec]; simp [h2]
    · have := dec_shorter (a := b) (b := a) (by omega)
      simp [h1, h2]; omega
theorem lt39 {n : Nat} (hn : (n : Int) < MM) : n < 10 ^ 39 := by
  have h : (MM : Int) = 340282366920938463463374607431768211456 := rfl
  have h2 : (10 : Nat) ^ 39 = 1000000000000000000000000000000000000000 := by rfl
  omega
theorem pw_dec (n : Nat) (hn : (n : Int) < MM) : pw (decN n) = ((n : Int), 0) := by
  have h := pw_ok (dec_tx n) (by rw [valT_dec]; exact hn)
  rwa [valT_dec] at h
theorem pn_dec (n : Nat) (hn : (n : Int) < 18446744073709551616) : pn (decN n) n = ((n : Int), 0) := by
  have h := pw_dec n (by have h : (MM : Int) = 340282366920938463463374607431768211456 := rfl; omega)
  unfold pn
  rw [h]; simp
theorem pw_back {l : List UInt8} (h : (pw l).2 = 0) : ∃ n : Nat, (n : Int) < MM ∧ (pw l).1 = n ∧ decN n = l := by
  by_cases h1 : txB l = true
  · by_cases h2 : (valT l : Int) < MM
    · exact ⟨valT l, h2, by rw [pw_ok h1 h2], dec_val h1⟩
    · rw [pw_over h1 h2] at h; simp at h
  · rw [pw_bad (by simpa using h1)] at h; simp at h
end Go.Proofs.YtbhaoafngneclaaDoor
