/- Division of a number of two words by ten. No conditions beyond the words' ranges. -/
import Derived.Test.YtbhaoafngneclaaDoorWideN
import Derived.Test.YtbhaoafngneclaaDoorShelf
import Derived.BigQuiet
import Derived.WalkSmall
import Derived.Lib.SmallJoins
namespace Go.Proofs.YtbhaoafngneclaaDoor
set_option linter.unusedVariables false
set_option linter.unusedSimpArgs false
open Go.RowKit
theorem lz10 (w : World) : Calls Tryd.prog 35 #[.int .u64 10] w fun e w' => e = .returned (.int .i64 60) ∧ w = w' := by
  refine (Tryd.bits_LeadingZeros64 10 w (by decide) (by decide)).mono ?_
  rintro e w' ⟨rfl, rfl⟩
  exact ⟨by rw [show Lib.bitLen (10 : Int).toNat = 4 by decide +kernel]; rfl, rfl⟩
theorem or60 (h l : Int) (h0 : 0 ≤ h) (h1 : h < 10) (l0 : 0 ≤ l) (l1 : l < 1152921504606846976) : bits .or .u64 (h * 1152921504606846976) l = h * 1152921504606846976 + l := by
  rw [bits_or_w ⟨by omega, by omega⟩ ⟨by omega, by omega⟩]
  unfold orI
  have e := Nat.two_pow_add_eq_or_of_lt (b := l.toNat) (i := 60) (by omega) h.toNat
  rw [show (h * 1152921504606846976).toNat = 2 ^ 60 * h.toNat by omega, ← e]
  omega
theorem and32w (x : Int) (h0 : 0 ≤ x) (h1 : x < 18446744073709551616) : bits .and .u64 x 4294967295 = x % 4294967296 := by
  rw [bits_and_w ⟨h0, h1⟩ ⟨by omega, by omega⟩]
  unfold andI
  rw [show (4294967295 : Int).toNat = 2 ^ 32 - 1 by decide, Nat.and_two_pow_sub_one_eq_mod]
  omega
theorem div10_pure (h l U q1 V q0 : Int) (h0 : 0 ≤ h) (h1 : h < 10) (l0 : 0 ≤ l) (l1 : l < 18446744073709551616) (hU : U = h * 1152921504606846976 + l / 16) (hq1 : q1 = U / 2684354560) (hV : V = U % 2684354560 * 4294967296 + l % 16 * 268435456) (hq0 : q0 = V / 2684354560) :
    q1 * 4294967296 + q0 = (h * 18446744073709551616 + l) / 10 ∧ V % 2684354560 / 268435456 = (h * 18446744073709551616 + l) % 10 := by
  have e1 : U * 4294967296 + l % 16 * 268435456 = (h * 18446744073709551616 + l) * 268435456 := by omega
  have e2 : q1 * 4294967296 * 2684354560 + V = (h * 18446744073709551616 + l) * 268435456 := by omega
  generalize h * 18446744073709551616 + l = N at *
  omega
set_option maxRecDepth 100000 in
set_option maxHeartbeats 4000000 in
theorem div10_t (h l : Int) (h0 : 0 ≤ h) (h1 : h < 10) (l0 : 0 ≤ l) (l1 : l < 18446744073709551616) (w : World) : Calls Tryd.prog 26 #[.int .u64 h, .int .u64 l, .int .u64 10] w fun e w' => e = .returned (.tuple #[.int .u64 ((h * 18446744073709551616 + l) / 10), .int .u64 ((h * 18446744073709551616 + l) % 10)]) ∧ Below w.heap.size w w' := by
  by_cases hz : h = 0
  · subst hz
    have hq : ¬ (10 : Int) ≤ 0 := by omega
    go_enter Tryd.func26, Tryd.ntmps26
    go_wp2_with fail
    go_quiet (fail)
    go_wp2
    exact bodyPost_ret (v := .tuple #[.int .u64 (l / 10), .int .u64 (l % 10)]) (by simp [results, Tryd.results26, go_sem]) rfl ⟨by rw [Int.zero_mul, Int.zero_add], below_drewN (Below.refl _ _) _⟩
  · have hq : ¬ (10 : Int) ≤ h := by omega
    have hz' : (h == 0) = false := by simpa using hz
    have w1 : IntKind.u64.wrap (h * 1152921504606846976) = h * 1152921504606846976 := by rw [IntKind.wrap_u64]; omega
    have o1 := or60 h (l / 16) h0 h1 (by omega) (by omega)
    have a0 : bits .and .u64 11529215046068469760 4294967295 = 0 := and32w 11529215046068469760 (by omega) (by omega)
    have w2 : IntKind.u64.wrap (l * 1152921504606846976) = l % 16 * 1152921504606846976 := by rw [IntKind.wrap_u64]; omega
    have a1 : bits .and .u64 (l % 16 * 1152921504606846976) 4294967295 = 0 := (and32w _ (by omega) (by omega)).trans (by omega)
    have d1 : l % 16 * 1152921504606846976 / 4294967296 = l % 16 * 268435456 := by omega
    have r1 : 0 ≤ l % 16 ∧ l % 16 ≤ 15 := by omega
    have HP := Lib.hid (div10_pure h l (h * 1152921504606846976 + l / 16) _ _ _ h0 h1 l0 l1 rfl rfl rfl rfl)
    generalize hA : (h * 18446744073709551616 + l) / 10 = A at *
    generalize hB : (h * 18446744073709551616 + l) % 10 = B at *
    clear hA hB
    go_enter Tryd.func26, Tryd.ntmps26
    go_wp2_with fail
    refine (lz10 w).mono ?_
    rintro e w2' ⟨rfl, rfl⟩
    go_wp2_with fail
    have u0 : 0 ≤ h * 1152921504606846976 + l / 16 ∧ h * 1152921504606846976 + l / 16 < 11529215046068469760 := by omega
    clear o1 w1
    generalize h * 1152921504606846976 + l / 16 = U at *
    generalize l % 16 = m at *
    have e1 : U - U / 2684354560 * 2684354560 = U % 2684354560 := by omega
    have b1 : 0 ≤ U / 2684354560 ∧ U / 2684354560 < 4294967296 := by omega
    have b2 : 0 ≤ U % 2684354560 ∧ U % 2684354560 < 2684354560 := by omega
    have hUq : U = U / 2684354560 * 2684354560 + U % 2684354560 := by omega
    rw [e1]
    clear e1
    generalize U / 2684354560 = q at *
    generalize U % 2684354560 = r at *
    have f3 : IntKind.u64.wrap (IntKind.u64.wrap (IntKind.u64.wrap (U * 4294967296) + m * 268435456) - IntKind.u64.wrap (q * 11529215046068469760)) = r * 4294967296 + m * 268435456 := by simp only [IntKind.wrap_u64]; omega
    have v0 : 0 ≤ r * 4294967296 + m * 268435456 ∧ r * 4294967296 + m * 268435456 < 11529215046068469760 := by omega
    have g2 : 4294967296 * r + m * 268435456 < 18446744073709551616 := by omega
    have g3 : ¬ 4294967296 * r + m * 268435456 < 0 := by omega
    generalize r * 4294967296 + m * 268435456 = V at *
    have HU := Lib.hid hUq
    clear hUq
    go_loopw [15, 16] (fun a b wr => a = .int .u64 q ∧ b = .int .u64 r ∧ wr = w) (fun _ _ _ => 0)
    case atStart => exact ⟨rfl, rfl, rfl⟩
    case round =>
      obtain ⟨rfl, rfl, rfl⟩ := hrel
      have g1 : ¬ (4294967296 : Int) ≤ q := by omega
      have s1 : V - V / 2684354560 * 2684354560 = V % 2684354560 := by omega
      have s2 : 0 ≤ V / 2684354560 ∧ V / 2684354560 < 4294967296 := by omega
      have s3 : 0 ≤ V % 2684354560 ∧ V % 2684354560 < 2684354560 := by omega
      have s4 : V = V / 2684354560 * 2684354560 + V % 2684354560 := by omega
      have f5 : IntKind.u64.wrap (IntKind.u64.wrap (IntKind.u64.wrap (V * 4294967296)) - IntKind.u64.wrap (V / 2684354560 * 11529215046068469760)) = V % 2684354560 * 4294967296 := by simp only [IntKind.wrap_u64]; omega
      have HS4 := Lib.hid s4
      clear s4
      go_wp2_with fail
      clear s1
      generalize V / 2684354560 = q0 at *
      generalize V % 2684354560 = r0 at *
      go_loopw [18, 16] (fun a b wr' => a = .int .u64 q0 ∧ b = .int .u64 r0 ∧ wr' = wr) (fun _ _ _ => 0)
      case atStart => exact ⟨rfl, rfl, rfl⟩
      case round =>
        obtain ⟨rfl, rfl, rfl⟩ := hrel
        have g4 : ¬ (4294967296 : Int) ≤ q0 := by omega
        have g5 : 4294967296 * r0 < 18446744073709551616 := by omega
        have g6 : ¬ 4294967296 * r0 < 0 := by omega
        have f6 : r0 * 4294967296 / 1152921504606846976 = r0 / 268435456 := by omega
        go_wp2_with fail
        exact bodyPost_ret (v := .tuple #[.int .u64 (q * 4294967296 + q0), .int .u64 (r0 / 268435456)]) (by simp [results, Tryd.results26, go_sem, f5, f6]) rfl ⟨by rw [HP.out.1, HP.out.2], Below.refl _ _⟩
end Go.Proofs.YtbhaoafngneclaaDoor
