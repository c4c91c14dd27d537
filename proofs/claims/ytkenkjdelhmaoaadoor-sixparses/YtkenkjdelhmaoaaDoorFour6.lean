/- The reference's Parse of layer 3 as a machine, and that it reads what is printed and nothing else. No conditions. -/
import Derived.Test.YtkenkjdelhmaoaaDoorFour5
namespace Go.Proofs.YtkenkjdelhmaoaaDoor
set_option linter.unusedVariables false
set_option linter.unusedSimpArgs false
open Go.RowKit
structure Mc where
  n : Nat
  a : Nat
  p : Nat
  k : Nat
def mstep (s : Mc) (c : UInt8) : Option Mc :=
  if c.toNat = 46 then (if s.k = 0 then none else some ⟨0, (256 * s.a + s.n) % 4294967296, s.p + 1, 0⟩)
  else if c.toNat < 48 ∨ 57 < c.toNat ∨ (0 < s.k ∧ s.n = 0) ∨ 2 < s.k ∨ 3 < s.p then none
  else if 255 < 10 * s.n + (c.toNat - 48) then none else some ⟨10 * s.n + (c.toNat - 48), s.a, s.p, s.k + 1⟩
def mrun : Mc → List UInt8 → Option Mc
  | s, [] => some s
  | s, c :: l => (mstep s c).bind fun s' => mrun s' l
def mEnd (s : Mc) : Option Nat := if s.p ≠ 3 ∨ s.k = 0 then none else some ((256 * s.a + s.n) % 4294967296)
def mach (l : List UInt8) : Option Nat := (mrun ⟨0, 0, 0, 0⟩ l).bind mEnd
theorem mrun_app (x y : List UInt8) : ∀ s, mrun s (x ++ y) = (mrun s x).bind fun s' => mrun s' y := by
  induction x with
  | nil => intro s; rfl
  | cons c x ih =>
    intro s
    rw [List.cons_append, mrun, mrun]
    cases h : mstep s c with
    | none => rfl
    | some s' => simp [ih]
theorem dig_toNat (d : Nat) (h : d < 10) : (UInt8.ofNat (48 + d)).toNat = 48 + d := by
  have : ∀ d : Fin 10, (UInt8.ofNat (48 + d)).toNat = 48 + d := by decide
  exact this ⟨d, h⟩
theorem mstep_dig (s : Mc) (d : Nat) (h : d < 10) (h1 : s.k = 0 ∨ s.n ≠ 0) (h2 : s.k ≤ 2) (h3 : s.p ≤ 3) (h4 : 10 * s.n + d ≤ 255) : mstep s (UInt8.ofNat (48 + d)) = some ⟨10 * s.n + d, s.a, s.p, s.k + 1⟩ := by
  have e := dig_toNat d h
  unfold mstep
  rw [e, if_neg (by omega), if_neg (by omega), if_neg (by omega), show 10 * s.n + (48 + d - 48) = 10 * s.n + d by omega]
theorem mstep_dot (s : Mc) (h : s.k ≠ 0) : mstep s 46 = some ⟨0, (256 * s.a + s.n) % 4294967296, s.p + 1, 0⟩ := by
  unfold mstep; rw [if_pos (by decide), if_neg h]
theorem dec_len2 : ∀ b : Fin 26, (Lib.decDigits b).length ≤ 2 := by decide +kernel
theorem dec_ne (b : Nat) : (Lib.decDigits b).length ≠ 0 := by
  rw [Lib.decDigits]; split <;> simp
/-- the digits of a byte, read -/
theorem mrun_dec (a p : Nat) (hp : p ≤ 3) : ∀ (b : Nat), b ≤ 255 → mrun ⟨0, a, p, 0⟩ (Lib.decDigits b) = some ⟨b, a, p, (Lib.decDigits b).length⟩ := by
  have small : ∀ b : Nat, b < 10 → mrun ⟨0, a, p, 0⟩ (Lib.decDigits b) = some ⟨b, a, p, (Lib.decDigits b).length⟩ := by
    intro b h
    rw [dec_one b h, Nat.mod_eq_of_lt h]
    show (mstep _ _).bind _ = _
    rw [mstep_dig _ b h (.inl rfl) (by show (0 : Nat) ≤ 2; omega) hp (by show 10 * 0 + b ≤ 255; omega)]
    simp [mrun]
  have mid : ∀ b : Nat, b < 26 → mrun ⟨0, a, p, 0⟩ (Lib.decDigits b) = some ⟨b, a, p, (Lib.decDigits b).length⟩ := by
    intro b h
    by_cases h1 : b < 10
    · exact small b h1
    · rw [dec_step b (by omega), mrun_app, small (b / 10) (by omega)]
      have hl : (Lib.decDigits (b / 10)).length ≤ 2 := dec_len2 ⟨b / 10, by omega⟩
      show (mstep _ _).bind _ = _
      rw [mstep_dig _ (b % 10) (by omega) (.inr (by show b / 10 ≠ 0; omega)) hl hp (by show 10 * (b / 10) + b % 10 ≤ 255; omega)]
      simp [mrun]
      omega
  intro b h
  by_cases h1 : b < 26
  · exact mid b h1
  · rw [dec_step b (by omega), mrun_app, mid (b / 10) (by omega)]
    have hl : (Lib.decDigits (b / 10)).length ≤ 2 := dec_len2 ⟨b / 10, by omega⟩
    show (mstep _ _).bind _ = _
    rw [mstep_dig _ (b % 10) (by omega) (.inr (by show b / 10 ≠ 0; omega)) hl hp (by show 10 * (b / 10) + b % 10 ≤ 255; omega)]
    simp [mrun]
    omega
theorem mrun_txt (b0 b1 b2 b3 : Nat) (h0 : b0 ≤ 255) (h1 : b1 ≤ 255) (h2 : b2 ≤ 255) (h3 : b3 ≤ 255) :
    mach (Lib.decDigits b0 ++ 46 :: (Lib.decDigits b1 ++ 46 :: (Lib.decDigits b2 ++ 46 :: Lib.decDigits b3))) = some (((b0 * 256 + b1) * 256 + b2) * 256 + b3) := by
  unfold mach
  rw [mrun_app, mrun_dec 0 0 (by omega) b0 h0]
  show (((mstep _ _).bind _)).bind _ = _
  rw [mstep_dot _ (dec_ne b0)]
  show (mrun _ _).bind _ = _
  rw [mrun_app, mrun_dec _ 1 (by omega) b1 h1]
  show (((mstep _ _).bind _)).bind _ = _
  rw [mstep_dot _ (dec_ne b1)]
  show (mrun _ _).bind _ = _
  rw [mrun_app, mrun_dec _ 2 (by omega) b2 h2]
  show (((mstep _ _).bind _)).bind _ = _
  rw [mstep_dot _ (dec_ne b2)]
  show (mrun _ _).bind _ = _
  rw [mrun_dec _ 3 (by omega) b3 h3]
  show mEnd _ = _
  unfold mEnd
  rw [if_neg (fun h => h.elim (fun e => e rfl) (dec_ne b3))]
  simp
  omega
/-- what is read: bytes that are done, and the one that is being read -/
structure MInv (done : List Nat) (cur : List UInt8) (s : Mc) (pre : List UInt8) : Prop where
  pre : pre = (done.map fun b => Lib.decDigits b ++ [46]).flatten ++ cur
  p : s.p = done.length
  le : ∀ b ∈ done, b ≤ 255
  a : s.a = done.foldl (fun a b => (256 * a + b) % 4294967296) 0
  k : s.k = cur.length
  n0 : cur = [] → s.n = 0
  nc : cur ≠ [] → cur = Lib.decDigits s.n
  n : s.n ≤ 255
theorem MInv.step {done : List Nat} {cur : List UInt8} {s s' : Mc} {pre : List UInt8} {c : UInt8} (h : MInv done cur s pre) (hs : mstep s c = some s') : ∃ done' cur', MInv done' cur' s' (pre ++ [c]) := by
  unfold mstep at hs
  split at hs
  · rename_i hc
    split at hs
    · cases hs
    · rename_i hk
      cases hs
      have hne : cur ≠ [] := fun e => hk (by rw [h.k, e]; rfl)
      have hcc : c = 46 := by apply UInt8.toNat.inj; simpa using hc
      refine ⟨done ++ [s.n], [], ?_, by simp [h.p], fun b hb => ?_, ?_, rfl, fun _ => rfl, fun e => absurd rfl e, by simp⟩
      · rw [h.pre, hcc, h.nc hne]
        rw [← h.nc hne]
        conv => lhs; rw [h.nc hne]
        simp
      · rcases List.mem_append.1 hb with h1 | h1
        · exact h.le b h1
        · simp at h1; rw [h1]; exact h.n
      · rw [List.foldl_append, ← h.a]; rfl
  · split at hs
    · cases hs
    · rename_i hc hd
      split at hs
      · cases hs
      · rename_i hn
        cases hs
        refine ⟨done, cur ++ [c], ?_, h.p, h.le, h.a, by simp [h.k], fun e => by simp at e, fun _ => ?_, by show 10 * s.n + (c.toNat - 48) ≤ 255; omega⟩
        · rw [h.pre, List.append_assoc]
        · show cur ++ [c] = Lib.decDigits (10 * s.n + (c.toNat - 48))
          have hcd : UInt8.ofNat (48 + (c.toNat - 48)) = c := by
            rw [show 48 + (c.toNat - 48) = c.toNat by omega]; simp
          by_cases he : cur = []
          · rw [he, h.n0 he, dec_one _ (by omega), show (10 * 0 + (c.toNat - 48)) % 10 = c.toNat - 48 by omega, hcd]; rfl
          · have hk : 0 < s.k := by rw [h.k]; cases cur with | nil => exact absurd rfl he | cons _ _ => simp
            have hn0 : s.n ≠ 0 := fun e => hd (.inr (.inr (.inl ⟨hk, e⟩)))
            rw [dec_step _ (by omega), show (10 * s.n + (c.toNat - 48)) / 10 = s.n by omega, show (10 * s.n + (c.toNat - 48)) % 10 = c.toNat - 48 by omega, hcd, ← h.nc he]
theorem MInv.run : ∀ (l : List UInt8) {done : List Nat} {cur : List UInt8} {s s' : Mc} {pre : List UInt8}, MInv done cur s pre → mrun s l = some s' → ∃ done' cur', MInv done' cur' s' (pre ++ l)
  | [], done, cur, s, s', pre, h, hr => by
    cases hr
    exact ⟨done, cur, by simpa using h⟩
  | c :: l, done, cur, s, s', pre, h, hr => by
    rw [mrun] at hr
    cases hq : mstep s c with
    | none => rw [hq] at hr; cases hr
    | some s1 =>
      rw [hq] at hr
      obtain ⟨d1, c1, h1⟩ := h.step hq
      obtain ⟨d2, c2, h2⟩ := MInv.run l h1 hr
      exact ⟨d2, c2, by simpa using h2⟩
theorem mach_some {l : List UInt8} {v : Nat} (h : mach l = some v) : parse4 l = ((v : Int), 0) := by
  unfold mach at h
  cases hr : mrun ⟨0, 0, 0, 0⟩ l with
  | none => rw [hr] at h; cases h
  | some s =>
    rw [hr] at h
    have hi : MInv [] [] ⟨0, 0, 0, 0⟩ [] := ⟨rfl, rfl, (fun b hb => by cases hb), rfl, rfl, fun _ => rfl, fun e => absurd rfl e, by simp⟩
    obtain ⟨done, cur, hv⟩ := MInv.run l hi hr
    replace h : mEnd s = some v := h
    unfold mEnd at h
    split at h
    · cases h
    · rename_i hc
      have hp : done.length = 3 := by rw [← hv.p]; omega
      have hk : cur ≠ [] := fun e => by have := hv.k; rw [e] at this; simp at this; omega
      match done, hp with
      | [b0, b1, b2], _ =>
        have q0 := hv.le b0 (by simp)
        have q1 := hv.le b1 (by simp)
        have q2 := hv.le b2 (by simp)
        have q3 := hv.n
        have ha := hv.a
        simp at ha
        have hpre := hv.pre
        rw [hv.nc hk] at hpre
        have e : l = txt4 b0 b1 b2 s.n := by
          rw [txt4_is]
          simpa using hpre
        rw [e, parse_txt _ _ _ _ ⟨by omega, by omega⟩ ⟨by omega, by omega⟩ ⟨by omega, by omega⟩ ⟨by omega, by omega⟩]
        have hvv : (256 * s.a + s.n) % 4294967296 = v := Option.some.inj h
        rw [ha] at hvv
        simp only [part4]
        rw [← hvv]
        refine Prod.ext ?_ rfl
        show (((b0 : Int) * 256 + b1) * 256 + b2) * 256 + s.n = _
        omega
theorem mach_none {l : List UInt8} (h : mach l = none) : parse4 l = (0, 3) := by
  by_cases hc : all4 l ∧ print4 (adr l) = l
  · exfalso
    have hp := hc.2
    unfold print4 at hp
    rw [txt4_is] at hp
    have r0 := byteI_range (adr l) 0
    have r1 := byteI_range (adr l) 1
    have r2 := byteI_range (adr l) 2
    have r3 := byteI_range (adr l) 3
    have := mrun_txt (byteI (adr l) 0).toNat (byteI (adr l) 1).toNat (byteI (adr l) 2).toNat (byteI (adr l) 3).toNat (by omega) (by omega) (by omega) (by omega)
    rw [hp, h] at this
    cases this
  · unfold parse4; rw [if_neg hc]
end Go.Proofs.YtkenkjdelhmaoaaDoor
