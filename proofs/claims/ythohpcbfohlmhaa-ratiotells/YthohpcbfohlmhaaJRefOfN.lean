/- RefOfN, Ref2N: what the theorem needs of these texts. No conditions beyond those that are written. -/
import Derived.Test.YthohpcbfohlmhaaJF0
namespace Go.Proofs.Ythohpcbfohlmhaa
set_option linter.unusedVariables false
set_option linter.unusedSimpArgs false
open Go.RowKit
/-- the number of k bits from place s on -/
def hor (f : Nat → Int) (s : Nat) : Nat → Int
  | 0 => 0
  | k + 1 => 2 * hor f s k + f (s + k)
def arrV (f : Nat → Int) : Array Value := Array.ofFn fun j : Fin 128 => Value.int .u64 (f j.val)
theorem arrV_size (f : Nat → Int) : (arrV f).size = 128 := by simp [arrV]
theorem arrV_get (f : Nat → Int) (j : Nat) (h : j < 128) : (arrV f)[j]? = some (Value.int .u64 (f j)) := by
  rw [Array.getElem?_eq_getElem (by rw [arrV_size]; exact h)]; simp [arrV]
theorem hor_range (f : Nat → Int) (s k : Nat) (h : ∀ j, 0 ≤ f j ∧ f j ≤ 1) : 0 ≤ hor f s k ∧ hor f s k < 2 ^ k := by
  induction k with
  | zero => exact ⟨Int.le_refl _, (by decide : (0 : Int) < 2 ^ 0)⟩
  | succ k ih =>
    have := h (s + k)
    rw [hor, Int.pow_succ]; omega
theorem hor_word (f : Nat → Int) (s k : Nat) (hk : k ≤ 64) (h : ∀ j, 0 ≤ f j ∧ f j ≤ 1) : 0 ≤ hor f s k ∧ hor f s k < 18446744073709551616 := by
  have := hor_range f s k h
  have h2 : (2 : Int) ^ k ≤ 18446744073709551616 := by
    have h3 := Nat.pow_le_pow_right (n := 2) (by decide) hk
    rw [show (18446744073709551616 : Int) = ((2 ^ 64 : Nat) : Int) by rfl]
    have h4 := Int.ofNat_le.2 h3
    rwa [Int.natCast_pow] at h4
  omega
set_option maxRecDepth 100000 in
set_option maxHeartbeats 1600000 in
theorem refOf_t (f : Nat → Int) (hf : ∀ j, 0 ≤ f j ∧ f j ≤ 1) (w : World) :
    Calls Try.prog 34 #[.agg (arrV f)] w fun e w' => e = .returned (.agg #[.int .u64 (hor f 0 64), .int .u64 (hor f 64 64)]) ∧ Below w.heap.size w w' := by
  go_enter Try.func34, Try.ntmps34
  go_wp2
  go_loopw [4] (fun i wr => ∃ k : Nat, k ≤ 64 ∧ i = .int .i64 k ∧ Row wr w.heap.size (arrV f) 55 ∧ Row wr (w.heap.size + 1) #[.int .u64 0, .int .u64 0] 34 ∧ Row wr (w.heap.size + 1 + 1) #[.int .u64 (hor f 0 k), .int .u64 (hor f 64 k)] 34 ∧ Below w.heap.size w wr) (fun i _ => 64 - (intOf i).toNat)
  case atStart => exact ⟨0, by omega, rfl, by simpa using ((Row.new w _ _).alloc _).alloc _, by simpa using (Row.new (w.alloc _) _ _).alloc _, by simpa [hor] using (Row.new ((w.alloc _).alloc _) _ _), (by repeat (first | exact Below.refl _ _ | assumption | (with_reducible refine Below.setCell ?_ ?h _; case h => first | omega | (simp; done) | (simp; omega)) | (with_reducible refine Below.alloc ?_ ?h _; case h => first | omega | (simp; done) | (simp; omega)) | (with_reducible refine Below.drew ?_) | (with_reducible refine Below.trans ?_ (hb4.mono ?h); case h => first | omega | (simp; done) | (simp; omega)) | (with_reducible refine Below.trans ?_ (hb3.mono ?h); case h => first | omega | (simp; done) | (simp; omega)) | (with_reducible refine Below.trans ?_ (hb2.mono ?h); case h => first | omega | (simp; done) | (simp; omega)) | (with_reducible refine Below.trans ?_ (hb.mono ?h); case h => first | omega | (simp; done) | (simp; omega)) | (with_reducible refine Below.trans ?_ (hb0.mono ?h); case h => first | omega | (simp; done) | (simp; omega))))⟩
  case round =>
    obtain ⟨k, hk, rfl, R0, R1, R2, hbw⟩ := hrel
    by_cases hlt : k < 64
    · have hkb : decide ((k : Int) < 64) = true := by simp; omega
      have c0 := R2.cell 0
      have c1 := R2.cell 1
      simp at c0 c1
      have f0 := R2.frozen 0
      have f1 := R2.frozen 1
      have i2 : (64 + (k : Int)).toNat = 64 + k := by omega
      have c2 := (R0.cell k).trans (arrV_get f k (by omega))
      have c3 := (R0.cell (64 + k)).trans (arrV_get f (64 + k) (by omega))
      have q0 := hf k
      have q1 := hf (64 + k)
      have s0 := hor_word f 0 (k + 1) (by omega) hf
      have s1 := hor_word f 64 (k + 1) (by omega) hf
      have s2 := hor_word f 0 k (by omega) hf
      have s3 := hor_word f 64 k (by omega) hf
      rw [hor] at s0 s1
      rw [Nat.zero_add] at s0
      have e1 : IntKind.u64.wrap (2 * hor f 0 k) = 2 * hor f 0 k := by rw [IntKind.wrap_u64]; omega
      have e2 : IntKind.u64.wrap (2 * hor f 0 k + f k) = 2 * hor f 0 k + f k := by rw [IntKind.wrap_u64]; omega
      have e3 : IntKind.u64.wrap (2 * hor f 64 k) = 2 * hor f 64 k := by rw [IntKind.wrap_u64]; omega
      have e4 : IntKind.u64.wrap (2 * hor f 64 k + f (64 + k)) = 2 * hor f 64 k + f (64 + k) := by rw [IntKind.wrap_u64]; omega
      have e5 : IntKind.i64.wrap (64 + (k : Int)) = 64 + (k : Int) := i64_small _ (by omega) (by omega)
      have b1 : (0 : Int) ≤ 64 + (k : Int) := by omega
      have b2 : (64 + (k : Int)) < 128 := by omega
      have b3 : (k : Int) < 128 := by omega
      have b4 : (0 : Int) ≤ (k : Int) := by omega
      clear s0 s1 s2 s3 q0 q1
      go_wp2
      go_region
      all_goals go_wp2
      all_goals go_region
      all_goals go_wp2
      refine ⟨⟨k + 1, by omega, by go_num, ?_, ?_, ?_, (by repeat (first | exact Below.refl _ _ | assumption | (with_reducible refine Below.setCell ?_ ?h _; case h => first | omega | (simp; done) | (simp; omega)) | (with_reducible refine Below.alloc ?_ ?h _; case h => first | omega | (simp; done) | (simp; omega)) | (with_reducible refine Below.drew ?_) | (with_reducible refine Below.trans ?_ (hb4.mono ?h); case h => first | omega | (simp; done) | (simp; omega)) | (with_reducible refine Below.trans ?_ (hb3.mono ?h); case h => first | omega | (simp; done) | (simp; omega)) | (with_reducible refine Below.trans ?_ (hb2.mono ?h); case h => first | omega | (simp; done) | (simp; omega)) | (with_reducible refine Below.trans ?_ (hb.mono ?h); case h => first | omega | (simp; done) | (simp; omega)) | (with_reducible refine Below.trans ?_ (hb0.mono ?h); case h => first | omega | (simp; done) | (simp; omega))))⟩, by simp [intOf]; omega⟩
      · exact ((R0.set_far _ _ (by simp <;> omega)).set_far _ _ (by simp <;> omega)).drew.drew
      · exact ((R1.set_far _ _ (by simp <;> omega)).set_far _ _ (by simp <;> omega)).drew.drew
      · have := ((R2.set 0 (.int .u64 (2 * hor f 0 k + f k))).set 1 (.int .u64 (2 * hor f 64 k + f (64 + k)))).drew.drew
        simpa [hor] using this
    · obtain rfl : k = 64 := by omega
      have c0 := R2.cell 0
      have c1 := R2.cell 1
      simp at c0 c1
      have d0 := R1.cell 0
      have d1 := R1.cell 1
      simp at d0 d1
      have f0 := R1.frozen 0
      have f1 := R1.frozen 1
      go_wp2
      refine bodyPost_ret (v := .agg #[.int .u64 (hor f 0 64), .int .u64 (hor f 64 64)]) (by simp [results, Try.results34, go_sem, d0, d1]) rfl ⟨rfl, (by repeat (first | exact Below.refl _ _ | assumption | (with_reducible refine Below.setCell ?_ ?h _; case h => first | omega | (simp; done) | (simp; omega)) | (with_reducible refine Below.alloc ?_ ?h _; case h => first | omega | (simp; done) | (simp; omega)) | (with_reducible refine Below.drew ?_) | (with_reducible refine Below.trans ?_ (hb4.mono ?h); case h => first | omega | (simp; done) | (simp; omega)) | (with_reducible refine Below.trans ?_ (hb3.mono ?h); case h => first | omega | (simp; done) | (simp; omega)) | (with_reducible refine Below.trans ?_ (hb2.mono ?h); case h => first | omega | (simp; done) | (simp; omega)) | (with_reducible refine Below.trans ?_ (hb.mono ?h); case h => first | omega | (simp; done) | (simp; omega)) | (with_reducible refine Below.trans ?_ (hb0.mono ?h); case h => first | omega | (simp; done) | (simp; omega))))⟩
/-- bit j of a number, from the greatest on -/
def bitF (n : Int) (j : Nat) : Int := n / 2 ^ (127 - j) % 2
theorem bitF_01 (n : Int) (j : Nat) : 0 ≤ bitF n j ∧ bitF n j ≤ 1 := by unfold bitF; omega
theorem bitsA_arrV (n : Int) : bitsA n = arrV (bitF n) := rfl
theorem hor_bitF (n : Int) (s k : Nat) (h : s + k ≤ 128) : hor (bitF n) s k = n / 2 ^ (128 - s - k) % 2 ^ k := by
  induction k with
  | zero => simp [hor]
  | succ k ih =>
    rw [hor, ih (by omega), bitF]
    have e : (2 : Int) ^ (128 - s - k) = 2 ^ (128 - s - (k + 1)) * 2 := by rw [← Int.pow_succ]; congr 1; omega
    rw [e, ← Int.ediv_ediv_of_nonneg (Int.pow_nonneg (by decide)), show 127 - (s + k) = 128 - s - (k + 1) by omega, Int.pow_succ]
    generalize n / 2 ^ (128 - s - (k + 1)) = z
    have hp : (0 : Int) < 2 ^ k := Int.pow_pos (by decide)
    generalize (2 : Int) ^ k = P at *
    have h1 : z % (P * 2) = 2 * (z / 2 % P) + z % 2 := by
      have d1 : z / 2 % P + P * (z / 2 / P) = z / 2 := Int.emod_add_mul_ediv _ _
      have d2 : 0 ≤ z / 2 % P := Int.emod_nonneg _ (Int.ne_of_gt hp)
      have d3 : z / 2 % P < P := Int.emod_lt_of_pos _ hp
      have d4 : z = (2 * (z / 2 % P) + z % 2) + P * 2 * (z / 2 / P) := by
        rw [Int.mul_assoc, Int.mul_left_comm]
        omega
      have d5 : ((2 * (z / 2 % P) + z % 2) + P * 2 * (z / 2 / P)) % (P * 2) = 2 * (z / 2 % P) + z % 2 := by
        rw [Int.add_mul_emod_self_left]; exact Int.emod_eq_of_lt (by omega) (by omega)
      rwa [← d4] at d5
    omega
end Go.Proofs.Ythohpcbfohlmhaa
namespace Go.Proofs.Ythohpcbfohlmhaa
set_option linter.unusedVariables false
set_option linter.unusedSimpArgs false
open Go.RowKit
theorem bitsA_one (n : Int) : (bitsA n).all (·.oneCell') = true := by
  rw [Array.all_eq_true]; intro i hi; simp [bitsA, Value.oneCell']
theorem bitsA_info (n : Int) : (Try.prog.info? 55).map (·.size) = some (bitsA n).size := by rw [bitsA_size]; kernel_rfl
theorem zeroA_size : z128.size = 128 := by rw [zeroA]; simp
theorem bitsA_get (n : Int) (j : Nat) (h : j < 128) : (bitsA n)[j]? = some (Value.int .u64 (bitF n j)) := arrV_get (bitF n) j h
theorem hor_hi (n : Int) : hor (bitF n) 0 64 = hi n := by rw [hor_bitF n 0 64 (by omega)]; rfl
theorem hor_lo (n : Int) : hor (bitF n) 64 64 = lo n := by rw [hor_bitF n 64 64 (by omega)]; unfold lo; simp
theorem refOf_h (n : Int) (w : World) :
    Calls Try.prog 34 #[.agg (arrV (bitF n))] w fun e w' => e = .returned (.agg #[.int .u64 (hi n), .int .u64 (lo n)]) ∧ Below w.heap.size w w' := by
  have h := refOf_t (bitF n) (bitF_01 n) w
  rwa [hor_hi, hor_lo] at h
/-- the lowest k bits of a number, zeros above -/
def outK (n : Int) (k : Nat) : Array Value := arrV fun j => if 128 - k ≤ j then bitF n j else 0
theorem outK_size (n : Int) (k : Nat) : (outK n k).size = 128 := arrV_size _
theorem outK_zero (n : Int) : z128 = outK n 0 := by
  rw [zeroA]
  apply Array.ext
  · rw [outK_size]; simp
  · intro i h1 h2
    rw [outK_size] at h2
    simp only [outK, arrV, Array.getElem_ofFn, Array.getElem_replicate]
    rw [if_neg (by omega)]
theorem outK_all (n : Int) : outK n 128 = arrV (bitF n) := by
  unfold outK; congr 1
theorem arrV_set (f : Nat → Int) (i : Nat) (x : Int) (hi : i < 128) : (arrV f).setIfInBounds i (.int .u64 x) = arrV (fun j => if j = i then x else f j) := by
  apply Array.ext_getElem?
  intro j
  rw [Array.getElem?_setIfInBounds, arrV_size]
  by_cases hj : j < 128
  · rw [arrV_get f j hj, arrV_get _ j hj]
    by_cases h : i = j
    · rw [if_pos h, if_pos (by omega), if_pos h.symm]
    · rw [if_neg h, if_neg (fun e => h e.symm)]
  · rw [Array.getElem?_eq_none (by rw [arrV_size]; omega), Array.getElem?_eq_none (by rw [arrV_size]; omega)]
    split <;> (try split) <;> first | rfl | omega
theorem arrV_congr {f g : Nat → Int} (h : ∀ j, j < 128 → f j = g j) : arrV f = arrV g := by
  unfold arrV; congr 1; funext j; rw [h j.val j.isLt]
theorem outK_step (n : Int) (k : Nat) (hk : k < 128) : (outK n k).setIfInBounds (127 - k) (.int .u64 (bitF n (127 - k))) = outK n (k + 1) := by
  unfold outK
  rw [arrV_set _ _ _ (by omega)]
  apply arrV_congr
  intro j hj
  by_cases h : j = 127 - k
  · rw [if_pos h, if_pos (by omega), h]
  · rw [if_neg h]
    by_cases h2 : 128 - k ≤ j
    · rw [if_pos h2, if_pos (by omega)]
    · rw [if_neg h2, if_neg (by omega)]
end Go.Proofs.Ythohpcbfohlmhaa
