/- The reference's Print: the decimal text of a number. No conditions beyond its range. -/
import Derived.Test.YtbhaoafngneclaaDoorNR2
namespace Go.Proofs.YtbhaoafngneclaaDoor
set_option linter.unusedVariables false
set_option linter.unusedSimpArgs false
open Go.RowKit
theorem bit_nat (n k : Nat) : bitF (n : Int) k = ((n / 2 ^ (127 - k) % 2 : Nat) : Int) := by
  unfold bitF
  rw [Int.natCast_emod, Int.natCast_ediv, Int.natCast_pow]; rfl
theorem half_step (n k : Nat) (h : k < 128) : 2 * (n / 2 ^ (128 - k)) + n / 2 ^ (127 - k) % 2 = n / 2 ^ (128 - (k + 1)) := by
  rw [show 128 - k = (127 - k) + 1 by omega, Nat.pow_succ, ← Nat.div_div_eq_div_mul, show 128 - (k + 1) = 127 - k by omega]; omega
theorem dec_len_MM (n : Nat) (hn : (n : Int) < MM) (d : Nat) : (decN (n / d)).length ≤ 39 := dec_len_39 _ (Nat.lt_of_le_of_lt (Nat.div_le_self n d) (lt39 hn))
set_option maxRecDepth 100000 in
set_option maxHeartbeats 1600000 in
theorem refPrint_t (n : Nat) (hn : (n : Int) < MM) (w : World) : Calls Tryd.prog 8 #[.agg #[.int .u64 (hi n), .int .u64 (lo n)]] w fun e w' => e = .returned (.string ⟨(decN n).toArray⟩) ∧ Below w.heap.size w w' := by
  have hbi := fun w => bits_h (n : Int) w
  rw [Int.emod_eq_of_lt (by omega) hn] at hbi
  have hinf := bitsA_info (n : Int)
  have hone := bitsA_one (n : Int)
  have HB0 : Hid (Below w.heap.size w (w.alloc (.cells #[.int .u64 (hi n), .int .u64 (lo n)] 28))) := Lib.hid (by repeat (first | exact Below.refl _ _ | assumption | (with_reducible refine Below.setCell ?_ ?h _; case h => first | omega | (simp; done) | (simp; omega)) | (with_reducible refine Below.alloc ?_ ?h _; case h => first | omega | (simp; done) | (simp; omega)) | (with_reducible refine Below.drew ?_) | (with_reducible refine Below.trans ?_ (hb4.mono ?h); case h => first | omega | (simp; done) | (simp; omega)) | (with_reducible refine Below.trans ?_ (hb3.mono ?h); case h => first | omega | (simp; done) | (simp; omega)) | (with_reducible refine Below.trans ?_ (hb2.mono ?h); case h => first | omega | (simp; done) | (simp; omega)) | (with_reducible refine Below.trans ?_ (hb.mono ?h); case h => first | omega | (simp; done) | (simp; omega)) | (with_reducible refine Below.trans ?_ (hb0.mono ?h); case h => first | omega | (simp; done) | (simp; omega))))
  have HO := Lib.hid (And.intro hinf hone)
  clear hinf hone
  go_enter Tryd.func8, Tryd.ntmps8
  go_wp2_with fail
  have hb := HB0.out
  clear HB0
  generalize w.alloc (.cells #[.int .u64 (hi n), .int .u64 (lo n)] 28) = w0 at *
  refine (hbi _).mono ?_
  rintro e w1 ⟨rfl, hb2⟩
  replace hb := below_step hb hb2
  clear hb2 hbi
  obtain ⟨hinf, hone⟩ := HO.out
  have Rz := Row.new w1 z128 49
  have hth := Rz.there (bitsA (n : Int)).size (by rw [bitsA_size, z128_size]; exact Nat.le_refl _)
  have R1 := Rz.setAll (bitsA (n : Int)) (by rw [bitsA_size, z128_size])
  have hb1 : Below w.heap.size w ((w1.alloc (.cells z128 49)).setCells w1.heap.size 0 (bitsA (n : Int)).toList) := below_setCells hb.size _ _ _ (below_step hb ((Below.refl _ _).alloc (Nat.le_refl _) _))
  have HR := Lib.hid (And.intro R1 hb1)
  clear R1 hb1 Rz hb HO
  go_wp2_with (first
    | (with_reducible refine wpList_alloc128 ?_)
    | (refine wpList_store_mid rfl 49 (.tmp 3) (.tmp 7) rfl w1.heap.size 0 (bitsA (n : Int)) rfl rfl hth hinf hone ?_)
    | fail)
  obtain ⟨R1, hb⟩ := HR.out
  clear HR hth hinf hone
  generalize (w1.alloc (.cells z128 49)).setCells w1.heap.size 0 (bitsA (n : Int)).toList = w2 at *
  generalize w1.heap.size = g at *
  have HA := Lib.hid (And.intro R1 hb)
  clear R1 hb
  go_loopw [4, 5] (fun s i wr => ∃ k : Nat, k ≤ 128 ∧ i = .int .i64 (k : Nat) ∧ s = .string ⟨(decN (n / 2 ^ (128 - k))).toArray⟩ ∧ Row wr g (bitsA (n : Int)) 49 ∧ Below w.heap.size w wr) (fun _ i _ => 128 - (intOf i).toNat)
  case atStart =>
    obtain ⟨R1, hb⟩ := HA.out
    refine ⟨0, by omega, rfl, ?_, R1, hb⟩
    rw [Nat.div_eq_of_lt (by have h : (MM : Int) = 340282366920938463463374607431768211456 := rfl; have h2 : 2 ^ (128 - 0) = 340282366920938463463374607431768211456 := rfl; omega), dec_zero]
  case round =>
    clear HA
    obtain ⟨k, hk, rfl, rfl, R1, hb⟩ := hrel
    by_cases hlt : k < 128
    · have hkb : (k : Int) < 128 := by omega
      have cx := (R1.cell k).trans (bitsA_get _ k hlt)
      rw [bit_nat] at cx
      have hst := half_step n k hlt
      have hbt : n / 2 ^ (127 - k) % 2 ≤ 1 := by omega
      have hlen := dec_len_MM n hn (2 ^ (128 - k))
      have htw := fun w => twice_t (decN (n / 2 ^ (128 - k))) (by omega) (dec_digs _) (n / 2 ^ (127 - k) % 2) hbt w
      rw [dblT_dec _ _ hbt, hst] at htw
      have HR := Lib.hid (And.intro R1 hb)
      clear R1 hb hst hbt hlen
      generalize n / 2 ^ (127 - k) % 2 = b at *
      go_wp2_with fail
      refine (htw _).mono ?_
      rintro e w3 ⟨rfl, hb3⟩
      obtain ⟨R1, hb⟩ := HR.out
      replace R1 := R1.later hb3
      replace hb := below_step hb hb3
      have HR := Lib.hid (And.intro R1 hb)
      clear R1 hb hb3 htw
      go_wp2
      exact ⟨⟨k + 1, by omega, by go_num, by first | rfl | rw [show 128 - (k + 1) = 127 - k by omega], HR.out.1, HR.out.2⟩, by simp [intOf]; omega⟩
    · obtain rfl : k = 128 := by omega
      rw [show 128 - 128 = 0 from rfl, Nat.pow_zero, Nat.div_one]
      have HB := Lib.hid hb
      clear R1 hb
      go_wp2
      go_ret
      exact ⟨rfl, HB.out⟩
end Go.Proofs.YtbhaoafngneclaaDoor
