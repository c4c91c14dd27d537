/- RefMulN, Num4, Ref2C: what the theorem needs of these texts. No conditions beyond those that are written. -/
import Derived.Test.YthohpcbfohlmhaaRefAddN
namespace Go.Proofs.Ythohpcbfohlmhaa
set_option linter.unusedVariables false
set_option linter.unusedSimpArgs false
open Go.RowKit
theorem mul_bit1 (a b : Int) (k : Nat) (h : b / 2 ^ k % 2 = 1) : a * (b % 2 ^ k) + a * 2 ^ k = a * (b % 2 ^ (k + 1)) := by
  rw [mod_step, h, Int.mul_add, Int.mul_one]
theorem mul_bit0 (a b : Int) (k : Nat) (h : b / 2 ^ k % 2 = 0) : a * (b % 2 ^ k) = a * (b % 2 ^ (k + 1)) := by
  rw [mod_step, h, Int.mul_zero, Int.add_zero]
theorem mul_twice (a : Int) (k : Nat) : a * 2 ^ k + a * 2 ^ k = a * 2 ^ (k + 1) := by
  rw [Int.pow_succ, ← Int.mul_assoc]; omega
set_option maxRecDepth 100000 in
set_option maxHeartbeats 3200000 in
theorem refMul_t (a b : Int) (h1 : Word a) (h2 : Word b) (w : World) :
    Calls Try.prog 22 #[.int .u64 a, .int .u64 b] w fun e w' => e = .returned (.agg #[.int .u64 (hi (a * b)), .int .u64 (lo (a * b))]) ∧ Below w.heap.size w w' := by
  go_enter Try.func22, Try.ntmps22
  go_wp2
  go_loopw [1, 7] (fun s1 i wr => ∃ k : Nat, k ≤ 64 ∧ i = .int .i64 k ∧ s1 = .int .u64 (b / 2 ^ k) ∧ Row wr w.heap.size #[.int .u64 0, .int .u64 0] 34 ∧ Row wr (w.heap.size + 1) #[.int .u64 (hi (a * (b % 2 ^ k))), .int .u64 (lo (a * (b % 2 ^ k)))] 34 ∧ Row wr (w.heap.size + 1 + 1) #[.int .u64 (hi (a * 2 ^ k)), .int .u64 (lo (a * 2 ^ k))] 34 ∧ Below w.heap.size w wr) (fun _ i _ => 64 - (intOf i).toNat)
  case atStart =>
    have e1 : hi (a * (b % 2 ^ 0)) = 0 := by rw [Int.pow_zero, Int.emod_one, Int.mul_zero]; rfl
    have e2 : lo (a * (b % 2 ^ 0)) = 0 := by rw [Int.pow_zero, Int.emod_one, Int.mul_zero]; rfl
    have e3 : hi (a * 2 ^ 0) = 0 := by rw [Int.pow_zero, Int.mul_one]; have := h1.1; have := h1.2; unfold hi; omega
    have e4 : lo (a * 2 ^ 0) = a := by rw [Int.pow_zero, Int.mul_one]; have := h1.1; have := h1.2; unfold lo; omega
    refine ⟨0, by omega, rfl, by simp, by simpa using ((Row.new w _ _).alloc _).alloc _, ?_, ?_, (by repeat (first | exact Below.refl _ _ | assumption | (with_reducible refine Below.setCell ?_ ?h _; case h => first | omega | (simp; done) | (simp; omega)) | (with_reducible refine Below.alloc ?_ ?h _; case h => first | omega | (simp; done) | (simp; omega)) | (with_reducible refine Below.drew ?_) | (with_reducible refine Below.trans ?_ (hb4.mono ?h); case h => first | omega | (simp; done) | (simp; omega)) | (with_reducible refine Below.trans ?_ (hb3.mono ?h); case h => first | omega | (simp; done) | (simp; omega)) | (with_reducible refine Below.trans ?_ (hb2.mono ?h); case h => first | omega | (simp; done) | (simp; omega)) | (with_reducible refine Below.trans ?_ (hb.mono ?h); case h => first | omega | (simp; done) | (simp; omega)) | (with_reducible refine Below.trans ?_ (hb0.mono ?h); case h => first | omega | (simp; done) | (simp; omega))))⟩
    · rw [e1, e2]; simpa using (Row.new (w.alloc _) _ _).alloc _
    · rw [e3, e4]; simpa using (Row.new ((w.alloc _).alloc _) _ _)
  case round =>
    obtain ⟨k, hk, rfl, rfl, R0, R1, R2, hbT⟩ := hrel
    by_cases hlt : k < 64
    · have hkb : decide ((k : Int) < 64) = true := by simp; omega
      have hw := word_div h2 k
      obtain ⟨p1, p2⟩ := hw
      have d2 := div2 b k
      have HD := Lib.hid d2; clear d2
      have hm := mul_bit1 a b k
      have hm0 := mul_bit0 a b k
      have HM := Lib.hid hm; have HM0 := Lib.hid hm0; clear hm hm0
      have HT := Lib.hid (mul_twice a k)
      have c0 := R1.cell 0
      have c1 := R1.cell 1
      have d0 := R2.cell 0
      have d1 := R2.cell 1
      simp at c0 c1 d0 d1
      have f0 := R1.frozen 0
      have f1 := R1.frozen 1
      have f2 := R2.frozen 0
      have f3 := R2.frozen 1
      generalize hz : b / 2 ^ k = z at *
      by_cases hb2 : z % 2 = 1
      · have hbb : (z % 2 == 1) = true := by simp [hb2]
        have h3 := HM.out hb2
        go_wp2_with fail
        refine (refAdd_t (a * (b % 2 ^ k)) (a * 2 ^ k) _).mono ?_; rintro e w2 ⟨rfl, hx⟩
        rw [h3]
        clear h3
        replace R0 := R0.later hx
        replace R1 := R1.later hx
        replace R2 := R2.later hx
        replace hbT := below_step hbT hx
        clear hx c0 c1 d0 d1 f0 f1 f2 f3
        have c0 := R1.cell 0
        have c1 := R1.cell 1
        have d0 := R2.cell 0
        have d1 := R2.cell 1
        simp at c0 c1 d0 d1
        have f0 := R1.frozen 0
        have f1 := R1.frozen 1
        go_wp2_with fail
        replace R1 := (R1.set 0 (.int .u64 (hi (a * (b % 2 ^ (k + 1)))))).set 1 (.int .u64 (lo (a * (b % 2 ^ (k + 1)))))
        replace R0 := (R0.set_far ⟨w.heap.size + 1, 0, none⟩ (.int .u64 (hi (a * (b % 2 ^ (k + 1))))) (by simp <;> omega)).set_far ⟨w.heap.size + 1, 1, none⟩ (.int .u64 (lo (a * (b % 2 ^ (k + 1))))) (by simp <;> omega)
        replace R2 := (R2.set_far ⟨w.heap.size + 1, 0, none⟩ (.int .u64 (hi (a * (b % 2 ^ (k + 1))))) (by simp <;> omega)).set_far ⟨w.heap.size + 1, 1, none⟩ (.int .u64 (lo (a * (b % 2 ^ (k + 1))))) (by simp <;> omega)
        replace hbT := (hbT.setCell (p := ⟨w.heap.size + 1, 0, none⟩) (by simp <;> omega) (.int .u64 (hi (a * (b % 2 ^ (k + 1)))))).setCell (p := ⟨w.heap.size + 1, 1, none⟩) (by simp <;> omega) (.int .u64 (lo (a * (b % 2 ^ (k + 1)))))
        simp at R1
        generalize (w2.setCell ⟨w.heap.size + 1, 0, none⟩ (.int .u64 (hi (a * (b % 2 ^ (k + 1)))))).setCell ⟨w.heap.size + 1, 1, none⟩ (.int .u64 (lo (a * (b % 2 ^ (k + 1))))) = w3 at *
        refine (refAdd_t (a * 2 ^ k) (a * 2 ^ k) _).mono ?_; rintro e w4 ⟨rfl, hx⟩
        have h4 := HT.out
        rw [h4]
        clear h4 c0 c1 d0 d1 f0 f1
        replace R0 := R0.later hx
        replace R1 := R1.later hx
        replace R2 := R2.later hx
        replace hbT := below_step hbT hx
        clear hx
        have d0 := R2.cell 0
        have d1 := R2.cell 1
        simp at d0 d1
        have f2 := R2.frozen 0
        have f3 := R2.frozen 1
        go_wp2
        refine ⟨⟨k + 1, by omega, by go_num, ?_, ?_, ?_, ?_, ?_⟩, by simp [intOf]; omega⟩
        · rw [← HD.out]
        · exact (R0.set_far _ _ (by simp <;> omega)).set_far _ _ (by simp <;> omega)
        · exact (R1.set_far _ _ (by simp <;> omega)).set_far _ _ (by simp <;> omega)
        · simpa using (R2.set 0 (.int .u64 (hi (a * 2 ^ (k + 1))))).set 1 (.int .u64 (lo (a * 2 ^ (k + 1))))
        · exact (hbT.setCell (by simp <;> omega) _).setCell (by simp <;> omega) _
      · have hbb : (z % 2 == 1) = false := by simp; omega
        have h3 := HM0.out (by omega)
        rw [h3] at R1
        clear h3
        go_wp2_with fail
        refine (refAdd_t (a * 2 ^ k) (a * 2 ^ k) _).mono ?_; rintro e w4 ⟨rfl, hx⟩
        have h4 := HT.out
        rw [h4]
        clear h4 c0 c1 d0 d1 f0 f1 f2 f3
        replace R0 := R0.later hx
        replace R1 := R1.later hx
        replace R2 := R2.later hx
        replace hbT := below_step hbT hx
        clear hx
        have d0 := R2.cell 0
        have d1 := R2.cell 1
        simp at d0 d1
        have f2 := R2.frozen 0
        have f3 := R2.frozen 1
        go_wp2
        refine ⟨⟨k + 1, by omega, by go_num, ?_, ?_, ?_, ?_, ?_⟩, by simp [intOf]; omega⟩
        · rw [← HD.out]
        · exact (R0.set_far _ _ (by simp <;> omega)).set_far _ _ (by simp <;> omega)
        · exact (R1.set_far _ _ (by simp <;> omega)).set_far _ _ (by simp <;> omega)
        · simpa using (R2.set 0 (.int .u64 (hi (a * 2 ^ (k + 1))))).set 1 (.int .u64 (lo (a * 2 ^ (k + 1))))
        · exact (hbT.setCell (by simp <;> omega) _).setCell (by simp <;> omega) _
    · obtain rfl : k = 64 := by omega
      have em : b % 2 ^ 64 = b := Int.emod_eq_of_lt h2.1 h2.2
      rw [em] at R1
      clear em
      have c0 := R1.cell 0
      have c1 := R1.cell 1
      have d0 := R0.cell 0
      have d1 := R0.cell 1
      simp at c0 c1 d0 d1
      have f0 := R0.frozen 0
      have f1 := R0.frozen 1
      go_wp2
      refine bodyPost_ret (v := .agg #[.int .u64 (hi (a * b)), .int .u64 (lo (a * b))]) (by simp [results, Try.results22, go_sem, d0, d1]) rfl ⟨rfl, ?_⟩
      exact (hbT.setCell (by simp <;> omega) _).setCell (by simp <;> omega) _

end Go.Proofs.Ythohpcbfohlmhaa
namespace Go.Proofs.Ythohpcbfohlmhaa
set_option linter.unusedVariables false
set_option linter.unusedSimpArgs false

theorem div_step (a : Int) (k : Nat) (hk : k < 128) : a / 2 ^ (127 - k) = 2 * (a / 2 ^ (128 - k)) + a / 2 ^ (127 - k) % 2 := by
  have e : (2 : Int) ^ (128 - k) = 2 ^ (127 - k) * 2 := by rw [← Int.pow_succ]; congr 1; omega
  rw [e, ← Int.ediv_ediv_of_nonneg (Int.pow_nonneg (by decide))]
  generalize a / 2 ^ (127 - k) = z
  omega
theorem bit_def (a : Int) (k : Nat) (hk : k < 128) : bitI a k = decide (a / 2 ^ (127 - k) % 2 = 1) := by
  unfold bitI
  rw [show (127 - (k : Int)).toNat = 127 - k by omega]
  have : (k : Int) < 128 := by omega
  simp [this]
theorem div_same (a b : Int) (k : Nat) (hk : k ≤ 128) (h0 : a / 2 ^ 128 = b / 2 ^ 128) (h : ∀ j : Nat, j < k → bitI a j = bitI b j) : a / 2 ^ (128 - k) = b / 2 ^ (128 - k) := by
  induction k with
  | zero => exact h0
  | succ k ih =>
    have i := ih (by omega) (fun j hj => h j (by omega))
    have hb := h k (by omega)
    rw [bit_def a k (by omega), bit_def b k (by omega), decide_eq_decide] at hb
    rw [show 128 - (k + 1) = 127 - k by omega, div_step a k (by omega), div_step b k (by omega), i]
    generalize a / 2 ^ (127 - k) = x at *; generalize b / 2 ^ (127 - k) = y at *
    omega
end Go.Proofs.Ythohpcbfohlmhaa
namespace Go.Proofs.Ythohpcbfohlmhaa
set_option linter.unusedVariables false
set_option linter.unusedSimpArgs false
open Go.RowKit
theorem bitF_bitI (a b : Int) (k : Nat) (hk : k < 128) : bitF a k = bitF b k ↔ bitI a k = bitI b k := by
  rw [bit_def a k hk, bit_def b k hk, decide_eq_decide]; unfold bitF
  generalize a / 2 ^ (127 - k) = x; generalize b / 2 ^ (127 - k) = y; omega
theorem mm_div (a : Int) : a % MM / 2 ^ 128 = 0 := Int.ediv_eq_zero_of_lt (Int.emod_nonneg _ (by decide)) (Int.emod_lt_of_pos _ (by decide))
theorem div_sameF (A B : Int) (k : Nat) (hk : k ≤ 128) (h : ∀ j : Nat, j < k → bitF (A % MM) j = bitF (B % MM) j) : A % MM / 2 ^ (128 - k) = B % MM / 2 ^ (128 - k) :=
  div_same _ _ k hk (by rw [mm_div, mm_div]) (fun j hj => (bitF_bitI _ _ j (by omega)).1 (h j hj))
theorem lt_of_div (a b d : Int) (hd : 0 < d) (h : a / d < b / d) : a < b := by
  by_cases hc : a < b
  · exact hc
  · have := Int.ediv_le_ediv hd (show b ≤ a by omega); omega
theorem cmp_bit (A B : Int) (k : Nat) (hk : k < 128) (h : ∀ j : Nat, j < k → bitF (A % MM) j = bitF (B % MM) j) (hb : bitF (A % MM) k < bitF (B % MM) k) : A % MM < B % MM := by
  have e := div_sameF A B k (by omega) h
  refine lt_of_div _ _ (2 ^ (127 - k)) (Int.pow_pos (by decide)) ?_
  rw [div_step _ k hk, div_step (B % MM) k hk, e]
  unfold bitF at hb; omega
theorem cmp_all (A B : Int) (h : ∀ j : Nat, j < 128 → bitF (A % MM) j = bitF (B % MM) j) : A % MM = B % MM := by
  have e := div_sameF A B 128 (by omega) h
  simpa using e
end Go.Proofs.Ythohpcbfohlmhaa
