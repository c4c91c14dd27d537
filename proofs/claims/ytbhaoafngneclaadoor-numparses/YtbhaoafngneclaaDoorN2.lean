/- The decimal text of a number: tenth, Wide and Print of package num. No conditions beyond ranges. -/
import Derived.Test.YtbhaoafngneclaaDoorN1
import Derived.Lib.AppendIntMem
namespace Go.Proofs.YtbhaoafngneclaaDoor
set_option linter.unusedVariables false
set_option linter.unusedSimpArgs false
open Go.RowKit
theorem bs_size (l : List UInt8) : (⟨l.toArray⟩ : ByteArray).size = l.length := by simp [ByteArray.size]
theorem tenth_pure (A : Int) (h0 : 0 ≤ A) (h1 : A < MM) : hi (A / 10) = hi A / 10 ∧ lo (A / 10) = (hi A % 10 * 18446744073709551616 + lo A) / 10 ∧ A % 10 = (hi A % 10 * 18446744073709551616 + lo A) % 10 := by
  have e := wv_hi_lo A
  rw [Int.emod_eq_of_lt h0 h1] at e
  unfold wv at e
  have a1 := hi_nonneg A
  have a2 := hi_le A
  have a3 := lo_nonneg A
  have a4 := lo_le A
  generalize hi A = H at *
  generalize lo A = L at *
  obtain ⟨u, v, hu, hv0, hv1⟩ : ∃ u v, H = 10 * u + v ∧ 0 ≤ v ∧ v < 10 := ⟨H / 10, H % 10, by omega, by omega, by omega⟩
  have e1 : H / 10 = u := by omega
  have e2 : H % 10 = v := by omega
  rw [e1, e2]
  obtain ⟨D, r, hD, hr0, hr1⟩ : ∃ D r, v * 18446744073709551616 + L = 10 * D + r ∧ 0 ≤ r ∧ r < 10 := ⟨(v * 18446744073709551616 + L) / 10, (v * 18446744073709551616 + L) % 10, by omega, by omega, by omega⟩
  have e3 : (v * 18446744073709551616 + L) / 10 = D := by omega
  have e4 : (v * 18446744073709551616 + L) % 10 = r := by omega
  have e5 : A = 10 * (u * 18446744073709551616 + D) + r := by omega
  have e6 : A / 10 = u * 18446744073709551616 + D := by omega
  have e7 : A % 10 = r := by omega
  rw [e3, e4, e6, e7]
  have d0 : 0 ≤ D ∧ D < 18446744073709551616 := by omega
  have u0 : 0 ≤ u ∧ u < 18446744073709551616 := by omega
  exact ⟨hi_wv (h := u) (l := D) u0 d0, lo_wv (h := u) (l := D) d0, rfl⟩
set_option maxRecDepth 100000 in
set_option maxHeartbeats 1600000 in
theorem tenth_t (A : Int) (h0 : 0 ≤ A) (h1 : A < MM) (w : World) : Calls Tryd.prog 18 #[.agg #[.int .u64 (hi A), .int .u64 (lo A)]] w fun e w' => e = .returned (.tuple #[.agg #[.int .u64 (hi (A / 10)), .int .u64 (lo (A / 10))], .int .u8 (A % 10)]) ∧ Below w.heap.size w w' := by
  obtain ⟨p1, p2, p3⟩ := tenth_pure A h0 h1
  rw [p1, p2, p3]
  have a1 := hi_nonneg A
  have a2 := hi_le A
  have a3 := lo_nonneg A
  have a4 := lo_le A
  generalize hi A = h at *
  generalize lo A = l at *
  clear p1 p2 p3 h0 h1
  have b1 : 0 ≤ h % 10 ∧ h % 10 < 10 := by omega
  have hd := fun w => div10_t (h % 10) l b1.1 b1.2 a3 (by omega) w
  have q1 : 0 ≤ (h % 10 * 18446744073709551616 + l) % 10 ∧ (h % 10 * 18446744073709551616 + l) % 10 < 10 := by omega
  generalize (h % 10 * 18446744073709551616 + l) % 10 = R at *
  generalize (h % 10 * 18446744073709551616 + l) / 10 = Q at *
  have wR : IntKind.u8.wrap R = R := by simp [IntKind.wrap, IntKind.bits, IntKind.signed]; omega
  have hb0 : Below w.heap.size w ((w.alloc (.cells #[.int .u64 h, .int .u64 l] 24)).alloc (.cells #[.int .u64 0, .int .u64 0] 24)) := (by repeat (first | exact Below.refl _ _ | assumption | (with_reducible refine Below.setCell ?_ ?h _; case h => first | omega | (simp; done) | (simp; omega)) | (with_reducible refine Below.alloc ?_ ?h _; case h => first | omega | (simp; done) | (simp; omega)) | (with_reducible refine Below.drew ?_) | (with_reducible refine Below.trans ?_ (hb4.mono ?h); case h => first | omega | (simp; done) | (simp; omega)) | (with_reducible refine Below.trans ?_ (hb3.mono ?h); case h => first | omega | (simp; done) | (simp; omega)) | (with_reducible refine Below.trans ?_ (hb2.mono ?h); case h => first | omega | (simp; done) | (simp; omega)) | (with_reducible refine Below.trans ?_ (hb.mono ?h); case h => first | omega | (simp; done) | (simp; omega)) | (with_reducible refine Below.trans ?_ (hb0.mono ?h); case h => first | omega | (simp; done) | (simp; omega))))
  have R0 : Row ((w.alloc (.cells #[.int .u64 h, .int .u64 l] 24)).alloc (.cells #[.int .u64 0, .int .u64 0] 24)) w.heap.size #[.int .u64 h, .int .u64 l] 24 := (Row.new w _ _).alloc _
  have R1 : Row ((w.alloc (.cells #[.int .u64 h, .int .u64 l] 24)).alloc (.cells #[.int .u64 0, .int .u64 0] 24)) (w.heap.size + 1) #[.int .u64 0, .int .u64 0] 24 := by
    have := Row.new (w.alloc (.cells #[.int .u64 h, .int .u64 l] 24)) #[.int .u64 0, .int .u64 0] 24
    rwa [World.size_alloc] at this
  have HR := Lib.hid (And.intro R0 (And.intro R1 hb0))
  clear R0 R1 hb0
  go_enter Tryd.func18, Tryd.ntmps18
  go_wp2_with fail
  obtain ⟨R0, R1, hb⟩ := HR.out
  clear HR
  generalize (w.alloc (.cells #[.int .u64 h, .int .u64 l] 24)).alloc (.cells #[.int .u64 0, .int .u64 0] 24) = w0 at *
  refine (hd w0).mono ?_
  rintro e w1 ⟨rfl, hb2⟩
  replace R0 := R0.later hb2
  replace R1 := R1.later hb2
  replace hb := below_step hb hb2
  clear hb2 hd
  have c0 := (R0.cell 0).trans (show _ = some (Value.int .u64 h) from rfl)
  have d0 := (R1.cell 0).trans (show _ = some (Value.int .u64 0) from rfl)
  have d1 := (R1.cell 1).trans (show _ = some (Value.int .u64 0) from rfl)
  have f0 := R1.frozen 0
  have f1 := R1.frozen 1
  have HR := Lib.hid R1
  clear R0 R1
  go_wp2
  have Rf := (HR.out.set 0 (.int .u64 (h / 10))).set 1 (.int .u64 Q)
  have e0 := (Rf.cell 0).trans (show _ = some (Value.int .u64 (h / 10)) from rfl)
  have e1 := (Rf.cell 1).trans (show _ = some (Value.int .u64 Q) from rfl)
  exact bodyPost_ret (v := .tuple #[.agg #[.int .u64 (h / 10), .int .u64 Q], .int .u8 R]) (by simp only [results, Tryd.results18]; simp [go_sem, e0, e1]) rfl ⟨rfl, (hb.setCell (by dsimp only; omega) _).setCell (by dsimp only; omega) _⟩
/-! digits -/
def dg (n : Nat) : UInt8 := UInt8.ofNat (48 + n % 10)
theorem dg_toNat (n : Nat) : (dg n).toNat = 48 + n % 10 := by unfold dg; rw [UInt8.toNat_ofNat']; omega
/-- the decimal text of a number -/
def decN (n : Nat) : List UInt8 := if h : n < 10 then [dg n] else decN (n / 10) ++ [dg n]
termination_by n
decreasing_by omega
theorem decN_small {n : Nat} (h : n < 10) : decN n = [dg n] := by rw [decN, dif_pos h]
theorem decN_big {n : Nat} (h : ¬ n < 10) : decN n = decN (n / 10) ++ [dg n] := by rw [decN, dif_neg h]
/-- the last k digits of a number -/
def digsL : Nat → Nat → List UInt8
  | 0, _ => []
  | k + 1, n => digsL k (n / 10) ++ [dg n]
theorem digsL_length : ∀ (k n : Nat), (digsL k n).length = k
  | 0, _ => rfl
  | k + 1, n => by rw [digsL, List.length_append, digsL_length k]; rfl
theorem digsL_zero : ∀ (k : Nat), (digsL k 0).dropWhile (· == 48) = []
  | 0 => rfl
  | k + 1 => by
    have ih := digsL_zero k
    rw [digsL, Nat.zero_div, List.dropWhile_append, ih]
    decide
theorem dg_ne {n : Nat} (h : n % 10 ≠ 0) : (dg n == 48) = false := by
  rw [beq_eq_false_iff_ne]
  intro e
  have := congrArg UInt8.toNat e
  rw [dg_toNat] at this
  have h48 : (48 : UInt8).toNat = 48 := rfl
  omega
theorem decN_ne (n : Nat) : decN n ≠ [] := by
  by_cases h : n < 10
  · rw [decN_small h]; simp
  · rw [decN_big h]; simp
theorem digsL_trim : ∀ (k n : Nat), n < 10 ^ k → n ≠ 0 → (digsL k n).dropWhile (· == 48) = decN n
  | 0, n, h, h0 => by simp at h; exact absurd h h0
  | k + 1, n, h, h0 => by
    rw [digsL, List.dropWhile_append]
    by_cases hs : n < 10
    · rw [show n / 10 = 0 by omega, digsL_zero k, decN_small hs]
      simp [List.dropWhile, dg_ne (n := n) (by omega)]
    · have ih := digsL_trim k (n / 10) (by rw [Nat.pow_succ] at h; omega) (by omega)
      rw [ih, decN_big hs]
      have := decN_ne (n / 10)
      cases hq : decN (n / 10) with
      | nil => exact absurd hq this
      | cons a b => simp
theorem trim_last (n : Nat) (h : n < 10 ^ 39) : (digsL 38 (n / 10)).dropWhile (· == 48) ++ [dg n] = decN n := by
  by_cases hs : n < 10
  · rw [show n / 10 = 0 by omega, digsL_zero, decN_small hs]; rfl
  · rw [digsL_trim 38 (n / 10) (by rw [show (39 : Nat) = 38 + 1 from rfl, Nat.pow_succ] at h; omega) (by omega), decN_big hs]
/-- the cell p of the digits, of which the last i are laid -/
def cell39 (n i p : Nat) : Value := .int .u8 (if 39 ≤ p + i then ((48 + n / 10 ^ (38 - p) % 10 : Nat) : Int) else 0)
def cells39 (n i : Nat) : Array Value := ((List.range 39).map (cell39 n i)).toArray
theorem cells39_size (n i : Nat) : (cells39 n i).size = 39 := by simp [cells39]
theorem cells39_get (n i p : Nat) (h : p < 39) : (cells39 n i)[p]? = some (cell39 n i p) := by simp [cells39, h]
theorem cells39_set (n i : Nat) (h : i < 39) : (cells39 n i).setIfInBounds (38 - i) (.int .u8 ((48 + n / 10 ^ i % 10 : Nat) : Int)) = cells39 n (i + 1) := by
  apply Array.ext_getElem?
  intro p
  by_cases hp : p < 39
  · rw [cells39_get _ _ p hp, Array.getElem?_setIfInBounds]
    by_cases he : 38 - i = p
    · rw [if_pos he, if_pos (by rw [cells39_size]; omega)]
      unfold cell39
      rw [if_pos (by omega), show 38 - p = i by omega]
    · rw [if_neg he, cells39_get _ _ p hp]
      unfold cell39
      by_cases h1 : 39 ≤ p + i
      · rw [if_pos h1, if_pos (by omega)]
      · rw [if_neg h1, if_neg (by omega)]
  · rw [Array.getElem?_eq_none (by simp [cells39_size]; omega), Array.getElem?_eq_none (by rw [cells39_size]; omega)]
theorem digsL_get : ∀ (k n j : Nat), j < k → (digsL k n)[j]? = some (dg (n / 10 ^ (k - 1 - j)))
  | 0, _, _, h => by omega
  | k + 1, n, j, h => by
    rw [digsL]
    by_cases hj : j < k
    · rw [List.getElem?_append_left (by rw [digsL_length]; exact hj), digsL_get k (n / 10) j hj, Nat.div_div_eq_div_mul, ← Nat.pow_succ', show k + 1 - 1 - j = (k - 1 - j) + 1 by omega]
    · rw [show j = k by omega, List.getElem?_append_right (by rw [digsL_length]; exact Nat.le_refl _), digsL_length]
      simp
end Go.Proofs.YtbhaoafngneclaaDoor
