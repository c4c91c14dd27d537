/- The reference's digits, Print and Mask of layer 3. No conditions beyond ranges. -/
import Derived.Test.YtkenkjdelhmaoaaDoorFour4
namespace Go.Proofs.YtkenkjdelhmaoaaDoor
set_option linter.unusedVariables false
set_option linter.unusedSimpArgs false
open Go.RowKit
def slen : Value → Nat
  | .string s => s.size
  | _ => 0
/-- what digits has behind some rounds: n is left, l is written -/
def DigRel (N n : Nat) (l : List UInt8) : Prop := (l = [] ∧ n = N) ∨ (l ≠ [] ∧ Lib.decDigits N = (if n = 0 then [] else Lib.decDigits n) ++ l)
theorem dec_step (n : Nat) (h : 10 ≤ n) : Lib.decDigits n = Lib.decDigits (n / 10) ++ [UInt8.ofNat (48 + n % 10)] := by
  rw [Lib.decDigits, dif_neg (by omega)]
theorem dec_one (n : Nat) (h : n < 10) : Lib.decDigits n = [UInt8.ofNat (48 + n % 10)] := by
  rw [Lib.decDigits, dif_pos h, Nat.mod_eq_of_lt h]
theorem DigRel.step {N n : Nat} {l : List UInt8} (h : DigRel N n l) (hc : 0 < n ∨ l = []) : DigRel N (n / 10) (UInt8.ofNat (48 + n % 10) :: l) := by
  right
  refine ⟨by simp, ?_⟩
  have key : ∀ m : Nat, Lib.decDigits m = (if m / 10 = 0 then [] else Lib.decDigits (m / 10)) ++ [UInt8.ofNat (48 + m % 10)] := by
    intro m
    by_cases hm : m < 10
    · rw [if_pos (by omega), dec_one m hm]; rfl
    · rw [if_neg (by omega)]; exact dec_step m (by omega)
  rcases h with ⟨rfl, rfl⟩ | ⟨hl, h⟩
  · exact key n
  · have hn : 0 < n := by rcases hc with h | h; exact h; exact absurd h hl
    rw [h, if_neg (by omega), key n]
    simp
theorem DigRel.done {N : Nat} {l : List UInt8} (h : DigRel N 0 l) (hl : l ≠ []) : l = Lib.decDigits N := by
  rcases h with ⟨h, _⟩ | ⟨_, h⟩
  · exact absurd h hl
  · rw [h]; rfl
theorem dig_ext : ∀ k : Fin 10, (⟨#[48, 49, 50, 51, 52, 53, 54, 55, 56, 57]⟩ : ByteArray).extract k (k + 1) = ⟨#[UInt8.ofNat (48 + k)]⟩ := by decide +kernel
theorem app_bs (c : UInt8) (l : List UInt8) : (⟨#[c]⟩ : ByteArray) ++ ⟨l.toArray⟩ = ⟨(c :: l).toArray⟩ := by
  apply ByteArray.ext
  simp
set_option maxRecDepth 100000 in
set_option maxHeartbeats 1600000 in
theorem digits_t (N : Nat) (hN : N ≤ 4294967295) (w : World) : Calls Tryd.prog 34 #[.int .u32 N] w fun e w' => e = .returned (.string ⟨(Lib.decDigits N).toArray⟩) ∧ Below w.heap.size w w' := by
  go_enter Tryd.func34, Tryd.ntmps34
  go_wp2_with fail
  go_loopw [0, 3] (fun a s wr => ∃ (n : Nat) (l : List UInt8), n ≤ N ∧ l.length + n ≤ N + 1 ∧ a = .int .u32 n ∧ s = .string ⟨l.toArray⟩ ∧ DigRel N n l ∧ wr = w) (fun a s _ => 2 * (intOf a).toNat + (1 - slen s))
  case atStart => exact ⟨N, [], Nat.le_refl _, by simp, rfl, rfl, .inl ⟨rfl, rfl⟩, rfl⟩
  case round =>
    obtain ⟨n, l, hn, hl, rfl, rfl, hrel, rfl⟩ := hrel
    have hk := dig_ext ⟨n % 10, Nat.mod_lt _ (by decide)⟩
    have hap := app_bs (UInt8.ofNat (48 + n % 10)) l
    by_cases h0 : 0 < n
    · have q1 : decide ((0 : Int) < (n : Int)) = true := by simp; omega
      have HR := Lib.hid (hrel.step (.inl h0))
      clear hrel
      go_wp2
      refine ⟨⟨n / 10, UInt8.ofNat (48 + n % 10) :: l, by omega, by simp; omega, by go_num, ?_, HR.out, trivial⟩, ?_⟩
      · rw [← hap]; simp
      · simp [intOf, slen, ByteArray.size]
        omega
    · have hn0 : n = 0 := by omega
      subst hn0
      by_cases hl0 : l = []
      · subst hl0
        have HR := Lib.hid (hrel.step (.inr rfl))
        clear hrel
        go_wp2
        refine ⟨⟨0, UInt8.ofNat (48 + 0 % 10) :: [], by omega, by simp, by go_num, ?_, HR.out, trivial⟩, ?_⟩
        · first | rfl | (rw [← hap]; rfl) | (simp at hap ⊢)
        · simp [intOf, slen, ByteArray.size]
      · have hlb : (l == []) = false := by simpa using hl0
        have hle : l.isEmpty = false := by cases l with | nil => exact absurd rfl hl0 | cons _ _ => rfl
        have HD := Lib.hid (hrel.done hl0)
        clear hrel
        go_wp2
        go_ret
        exact ⟨by rw [← HD.out]; rfl, Below.refl _ _⟩
theorem app_ll (a b : List UInt8) : (⟨a.toArray⟩ : ByteArray) ++ ⟨b.toArray⟩ = ⟨(a ++ b).toArray⟩ := by
  apply ByteArray.ext
  simp
theorem dot_l (a : List UInt8) : (⟨a.toArray⟩ : ByteArray) ++ ⟨#[46]⟩ = ⟨(a ++ [46]).toArray⟩ := by
  apply ByteArray.ext
  simp
set_option maxRecDepth 100000 in
set_option maxHeartbeats 1600000 in
theorem rprint4_t (a : Int) (a0 : 0 ≤ a) (a1 : a ≤ 4294967295) (w : World) : Calls Tryd.prog 13 #[.int .u32 a] w fun e w' => e = .returned (.string ⟨(print4 a).toArray⟩) ∧ Below w.heap.size w w' := by
  obtain ⟨n, rfl⟩ : ∃ n : Nat, a = n := ⟨a.toNat, by omega⟩
  have l0 := decDigits_len (n / 16777216) (by omega)
  have l1 := decDigits_len (n / 65536 % 256) (by omega)
  have l2 := decDigits_len (n / 256 % 256) (by omega)
  have l3 := decDigits_len (n % 256) (by omega)
  have b0 : (byteI (n : Int) 0).toNat = n / 16777216 := by unfold byteI; simp; omega
  have b1 : (byteI (n : Int) 1).toNat = n / 65536 % 256 := by unfold byteI; simp; omega
  have b2 : (byteI (n : Int) 2).toNat = n / 256 % 256 := by unfold byteI; simp; omega
  have b3 : (byteI (n : Int) 3).toNat = n % 256 := by unfold byteI; simp; omega
  have hpr : print4 (n : Int) = Lib.decDigits (n / 16777216) ++ 46 :: (Lib.decDigits (n / 65536 % 256) ++ 46 :: (Lib.decDigits (n / 256 % 256) ++ 46 :: Lib.decDigits (n % 256))) := by
    unfold print4; rw [txt4_is, b0, b1, b2, b3]
  have HPR := Lib.hid hpr
  clear hpr b0 b1 b2 b3
  go_enter Tryd.func13, Tryd.ntmps13
  go_wp2_with fail
  refine (digits_t (n / 16777216) (by omega) w).mono ?_
  rintro r w1 ⟨rfl, hb1⟩
  have HB1 := Lib.hid hb1
  clear hb1
  have z0 : (⟨(Lib.decDigits (n / 16777216)).toArray⟩ : ByteArray).size = (Lib.decDigits (n / 16777216)).length := bs_size _
  go_wp2_with fail
  refine (digits_t (n / 65536 % 256) (by omega) w1).mono ?_
  rintro r w2 ⟨rfl, hb2⟩
  have HB2 := Lib.hid (below_step HB1.out hb2)
  clear hb2
  go_wp2_with fail
  refine (digits_t (n / 256 % 256) (by omega) w2).mono ?_
  rintro r w3 ⟨rfl, hb3⟩
  have HB3 := Lib.hid (below_step HB2.out hb3)
  clear hb3
  go_wp2_with fail
  refine (digits_t (n % 256) (by omega) w3).mono ?_
  rintro r w4 ⟨rfl, hb4⟩
  have HB4 := Lib.hid (below_step HB3.out hb4)
  clear hb4
  go_wp2
  go_ret
  refine ⟨?_, HB4.out⟩
  rw [HPR.out]
  refine congrArg (fun s => Ending.returned (Value.string s)) ?_
  apply ByteArray.ext
  simp
def mJ (j : Nat) : Int := 4294967296 - 2 ^ (32 - j)
def bJ (j : Nat) : Int := 2147483648 / 2 ^ j
theorem mJ_all : ∀ j : Fin 32, mJ j + bJ j = mJ (j + 1) ∧ bJ j / 2 = bJ (j + 1) ∧ 0 ≤ mJ j ∧ mJ j + bJ j ≤ 4294967295 ∧ 0 ≤ bJ j ∧ bJ j ≤ 2147483648 := by decide +kernel
set_option maxRecDepth 100000 in
set_option maxHeartbeats 1600000 in
theorem rmask4_t (n : Int) (w : World) : Calls Tryd.prog 16 #[.int .i64 n] w fun e w' => e = .returned (.int .u32 (mask4 n)) ∧ w = w' := by
  go_enter Tryd.func16, Tryd.ntmps16
  go_wp2_with fail
  go_loopw [3, 4, 5] (fun m b i wr => ∃ (j : Nat), j ≤ 32 ∧ (0 < j → (j : Int) ≤ n) ∧ i = .int .i64 j ∧ m = .int .u32 (mJ j) ∧ b = .int .u32 (bJ j) ∧ wr = w) (fun _ _ i _ => 32 - (intOf i).toNat)
  case atStart => exact ⟨0, by omega, fun h => absurd h (by omega), rfl, rfl, rfl, rfl⟩
  case round =>
    obtain ⟨j, hj, hjn, rfl, rfl, rfl, rfl⟩ := hrel
    by_cases hlt : (j : Int) < n ∧ j < 32
    · obtain ⟨h1, h2⟩ := hlt
      have h3 : (j : Int) < 32 := by omega
      obtain ⟨e1, e2, e3, e4, e5, e6⟩ := mJ_all ⟨j, h2⟩
      dsimp only at e1 e2 e3 e4 e5 e6
      have H1 := Lib.hid e1
      have H2 := Lib.hid e2
      clear e1 e2
      generalize hm : mJ j = m at *
      generalize hbq : bJ j = b at *
      go_wp2
      exact ⟨⟨j + 1, by omega, fun _ => by omega, by go_num, by rw [H1.out], by rw [H2.out], trivial⟩, by simp [intOf]; omega⟩
    · have hmk : mask4 n = mJ j := by
        unfold mask4 mJ
        by_cases hn : n < 1
        · rw [if_pos hn]
          obtain rfl : j = 0 := by by_cases h : 0 < j; have := hjn h; omega; omega
          decide
        · rw [if_neg hn]
          have : (min n 32).toNat = j := by
            by_cases h : 0 < j
            · have := hjn h; omega
            · omega
          rw [this]
      have HM := Lib.hid hmk
      clear hmk
      by_cases h1 : (j : Int) < n
      · have h3 : ¬ (j : Int) < 32 := by omega
        have h4 : (32 : Int) ≤ (j : Int) := by omega
        go_wp2
        go_ret
        exact ⟨by rw [HM.out]; rfl, rfl⟩
      · go_wp2
        go_ret
        exact ⟨by rw [HM.out]; rfl, rfl⟩
end Go.Proofs.YtkenkjdelhmaoaaDoor
