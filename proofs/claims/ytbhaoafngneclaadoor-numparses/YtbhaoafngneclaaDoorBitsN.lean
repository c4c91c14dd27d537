/- The reference's Bits: the 128 bits of a number, the greatest first. No conditions beyond the words' ranges. -/
import Derived.Test.YtbhaoafngneclaaDoorRZ
namespace Go.Proofs.YtbhaoafngneclaaDoor
set_option linter.unusedVariables false
set_option linter.unusedSimpArgs false
open Go.RowKit
/-- the bits that k rounds have laid -/
def bitsK (ah al : Int) (k : Nat) : Array Value := Array.ofFn fun j : Fin 128 => Value.int .u64 (if 64 - k ≤ j.val ∧ j.val < 64 then ah / 2 ^ (63 - j.val) % 2 else if 128 - k ≤ j.val then al / 2 ^ (127 - j.val) % 2 else 0)
theorem bitsK_size (ah al : Int) (k : Nat) : (bitsK ah al k).size = 128 := by simp [bitsK]
theorem zeroA : z128 = Array.replicate 128 (.int .u64 0) := rfl
theorem zero_bitsK (ah al : Int) : z128 = bitsK ah al 0 := by
  rw [zeroA]
  apply Array.ext
  · rw [bitsK_size]; simp
  · intro i h1 h2
    rw [bitsK_size] at h2
    simp only [bitsK, Array.getElem_ofFn, Array.getElem_replicate]
    rw [if_neg (by omega), if_neg (by omega)]
theorem bitsK_step (ah al : Int) (k : Nat) (hk : k < 64) :
    ((bitsK ah al k).setIfInBounds (63 - k) (.int .u64 (ah / 2 ^ k % 2))).setIfInBounds (127 - k) (.int .u64 (al / 2 ^ k % 2)) = bitsK ah al (k + 1) := by
  apply Array.ext_getElem?
  intro i
  rw [Array.getElem?_setIfInBounds, Array.getElem?_setIfInBounds]
  simp only [Array.size_setIfInBounds, bitsK_size]
  by_cases hi : i < 128
  · have e : ∀ m, (bitsK ah al m)[i]? = some (Value.int .u64 (if 64 - m ≤ i ∧ i < 64 then ah / 2 ^ (63 - i) % 2 else if 128 - m ≤ i then al / 2 ^ (127 - i) % 2 else 0)) := fun m => by
      rw [Array.getElem?_eq_getElem (by rw [bitsK_size]; exact hi)]; simp [bitsK]
    rw [e, e]
    by_cases h1 : 127 - k = i
    · subst h1
      rw [if_pos rfl, if_pos (by omega), if_neg (by omega), if_pos (by omega), show 127 - (127 - k) = k by omega]
    · rw [if_neg h1]
      by_cases h2 : 63 - k = i
      · subst h2
        rw [if_pos rfl, if_pos (by omega), if_pos (by omega), show 63 - (63 - k) = k by omega]
      · rw [if_neg h2]
        congr 2
        repeat' split
        all_goals first | rfl | (exfalso; omega)
  · rw [if_neg (by omega), if_neg (by omega), Array.getElem?_eq_none (by rw [bitsK_size]; omega), Array.getElem?_eq_none (by rw [bitsK_size]; omega)]
theorem cell_at {w : World} {g : Nat} {cs : Array Value} {t : TypeId} (h : Row w g cs t) (j : Nat) (hj : j < cs.size) : w.cell? ⟨g, j, none⟩ = some cs[j] := by
  rw [h.cell j, Array.getElem?_eq_getElem hj]
theorem div2 (x : Int) (k : Nat) : x / 2 ^ k / 2 = x / 2 ^ (k + 1) := by
  rw [Int.pow_succ, Int.ediv_ediv_of_nonneg (Int.pow_nonneg (by decide))]
set_option maxRecDepth 100000 in
set_option maxHeartbeats 1600000 in
theorem bits_t (ah al : Int) (h1 : Word ah) (h2 : Word al) (w : World) :
    Calls Tryd.prog 20 #[.agg #[.int .u64 ah, .int .u64 al]] w fun e w' => e = .returned (.agg (bitsK ah al 64)) ∧ Below w.heap.size w w' := by
  go_enter Tryd.func20, Tryd.ntmps20
  go_wp2_with (first | (with_reducible refine wpList_alloc128 ?_) | fail)
  go_loopw [4] (fun i wr => ∃ k : Nat, k ≤ 64 ∧ i = .int .i64 k ∧ Row wr w.heap.size #[.int .u64 (ah / 2 ^ k), .int .u64 (al / 2 ^ k)] 28 ∧ Row wr (w.heap.size + 1) z128 49 ∧ Row wr (w.heap.size + 1 + 1) (bitsK ah al k) 49 ∧ Below w.heap.size w wr) (fun i _ => 64 - (intOf i).toNat)
  case atStart => exact ⟨0, by omega, rfl, by simpa using ((Row.new w _ _).alloc _).alloc _, by simpa using (Row.new (w.alloc _) _ _).alloc _, by rw [← zero_bitsK]; simpa using (Row.new ((w.alloc _).alloc _) _ _), (by repeat (first | exact Below.refl _ _ | assumption | (with_reducible refine Below.setCell ?_ ?h _; case h => first | omega | (simp; done) | (simp; omega)) | (with_reducible refine Below.alloc ?_ ?h _; case h => first | omega | (simp; done) | (simp; omega)) | (with_reducible refine Below.drew ?_) | (with_reducible refine Below.trans ?_ (hb4.mono ?h); case h => first | omega | (simp; done) | (simp; omega)) | (with_reducible refine Below.trans ?_ (hb3.mono ?h); case h => first | omega | (simp; done) | (simp; omega)) | (with_reducible refine Below.trans ?_ (hb2.mono ?h); case h => first | omega | (simp; done) | (simp; omega)) | (with_reducible refine Below.trans ?_ (hb.mono ?h); case h => first | omega | (simp; done) | (simp; omega)) | (with_reducible refine Below.trans ?_ (hb0.mono ?h); case h => first | omega | (simp; done) | (simp; omega))))⟩
  case round =>
    obtain ⟨k, hk, rfl, R0, R1, R2, hbw⟩ := hrel
    by_cases hlt : k < 64
    · have hkb : decide ((k : Int) < 64) = true := by simp; omega
      have c0 := R0.cell 0
      have c1 := R0.cell 1
      simp at c0 c1
      have f0 := R0.frozen 0
      have f1 := R0.frozen 1
      have i1 : (63 - (k : Int)).toNat = 63 - k := by omega
      have i2 : (127 - (k : Int)).toNat = 127 - k := by omega
      have c2 := cell_at R2 (63 - k) (by rw [bitsK_size]; omega)
      have c3 := cell_at R2 (127 - k) (by rw [bitsK_size]; omega)
      have f2 := R2.frozen (63 - k)
      have f3 := R2.frozen (127 - k)
      generalize (bitsK ah al k)[63 - k]'(by rw [bitsK_size]; omega) = v2 at c2
      generalize (bitsK ah al k)[127 - k]'(by rw [bitsK_size]; omega) = v3 at c3
      have ne1 : ¬ (63 - k = 127 - k) := by omega
      have hwa := word_div h1 k
      have hwb := word_div h2 k
      have ga := div2 ah k
      have gb := div2 al k
      have HS := Lib.hid (bitsK_step ah al k hlt)
      obtain ⟨p1, p2⟩ := hwa
      obtain ⟨p3, p4⟩ := hwb
      go_wp2
      refine ⟨⟨k + 1, by omega, by go_num, ?_, ?_, ?_, (by repeat (first | exact Below.refl _ _ | assumption | (with_reducible refine Below.setCell ?_ ?h _; case h => first | omega | (simp; done) | (simp; omega)) | (with_reducible refine Below.alloc ?_ ?h _; case h => first | omega | (simp; done) | (simp; omega)) | (with_reducible refine Below.drew ?_) | (with_reducible refine Below.trans ?_ (hb4.mono ?h); case h => first | omega | (simp; done) | (simp; omega)) | (with_reducible refine Below.trans ?_ (hb3.mono ?h); case h => first | omega | (simp; done) | (simp; omega)) | (with_reducible refine Below.trans ?_ (hb2.mono ?h); case h => first | omega | (simp; done) | (simp; omega)) | (with_reducible refine Below.trans ?_ (hb.mono ?h); case h => first | omega | (simp; done) | (simp; omega)) | (with_reducible refine Below.trans ?_ (hb0.mono ?h); case h => first | omega | (simp; done) | (simp; omega))))⟩, by simp [intOf]; omega⟩
      · have := (((R0.set_far ⟨w.heap.size + 1 + 1, 63 - k, none⟩ (.int .u64 (ah / 2 ^ k % 2)) (by simp <;> omega)).set_far ⟨w.heap.size + 1 + 1, 127 - k, none⟩ (.int .u64 (al / 2 ^ k % 2)) (by simp <;> omega)).set 0 (.int .u64 (ah / 2 ^ (k + 1)))).set 1 (.int .u64 (al / 2 ^ (k + 1)))
        simpa using this
      · exact (((R1.set_far _ _ (by simp)).set_far _ _ (by simp)).set_far _ _ (by simp)).set_far _ _ (by simp)
      · have := (((R2.set (63 - k) (.int .u64 (ah / 2 ^ k % 2))).set (127 - k) (.int .u64 (al / 2 ^ k % 2))).set_far ⟨w.heap.size, 0, none⟩ (.int .u64 (ah / 2 ^ (k + 1))) (by simp <;> omega)).set_far ⟨w.heap.size, 1, none⟩ (.int .u64 (al / 2 ^ (k + 1))) (by simp <;> omega)
        rwa [HS.out] at this
    · obtain rfl : k = 64 := by omega
      have hth := R1.there (bitsK ah al 64).size (by rw [bitsK_size, zeroA]; simp)
      have hone : (bitsK ah al 64).all (·.oneCell') = true := by
        rw [Array.all_eq_true]; intro i hi; simp [bitsK, Value.oneCell']
      have hi85 : (Tryd.prog.info? 49).map (·.size) = some (bitsK ah al 64).size := by rw [bitsK_size]; kernel_rfl
      go_wp2_with (first
        | (refine wpList_load_row rfl 49 (.tmp 3) rfl (w.heap.size + 1 + 1) rfl 49 (bitsK ah al 64) (0, 0) _ R2 Tryd.underlying49 rfl hi85 ?_)
        | (refine wpList_store_mid rfl 49 (.tmp 2) (.tmp 29) rfl (w.heap.size + 1) 0 (bitsK ah al 64) rfl rfl hth hi85 hone ?_))
      have R3 : Row (wr.setCells (w.heap.size + 1) 0 (bitsK ah al 64).toList) (w.heap.size + 1) (bitsK ah al 64) 49 := R1.setAll _ (by rw [bitsK_size, zeroA]; simp)
      refine bodyPost_ret (v := .agg (bitsK ah al 64)) (results_cell_row Tryd.results20 _ _ (w.heap.size + 1) 49 (bitsK ah al 64) (0, 0) _ rfl R3 Tryd.underlying49 rfl hi85) rfl ⟨rfl, ?_⟩
      exact below_setCells (by omega) _ _ _ hbw
/-- the 128 bits of a number, the greatest first -/
def bitsA (n : Int) : Array Value := Array.ofFn fun j : Fin 128 => Value.int .u64 (n / 2 ^ (127 - j.val) % 2)
theorem bitsA_size (n : Int) : (bitsA n).size = 128 := by simp [bitsA]
theorem bitsK_all (ah al : Int) (h1 : Word ah) (h2 : Word al) : bitsK ah al 64 = bitsA (wv ah al) := by
  unfold bitsK bitsA
  congr 1
  funext j
  congr 1
  have hj := j.isLt
  have key : ∀ m, m < 64 → (ah * 18446744073709551616 + al) / 2 ^ (64 + m) % 2 = ah / 2 ^ m % 2 := fun m _ => by
    rw [Int.pow_add, ← Int.ediv_ediv_of_nonneg (by decide), show (ah * 18446744073709551616 + al) / 2 ^ 64 = ah by obtain ⟨_, _⟩ := h2; omega]
  unfold wv
  by_cases h : j.val < 64
  · rw [if_pos ⟨by omega, h⟩, show 127 - j.val = 64 + (63 - j.val) by omega, key _ (by omega)]
  · rw [if_neg (by omega), if_pos (by omega)]
    have hm : 127 - j.val < 64 := by omega
    generalize 127 - j.val = m at *
    have e : (18446744073709551616 : Int) = 2 ^ m * (2 * 2 ^ (63 - m)) := by
      rw [← Int.mul_assoc, Int.mul_comm (2 ^ m) 2, Int.mul_assoc, ← Int.pow_add, show m + (63 - m) = 63 by omega]; rfl
    rw [e, Int.mul_left_comm, Int.add_comm, Int.add_mul_ediv_left _ _ (Int.ne_of_gt (Int.pow_pos (by decide))), Int.mul_left_comm, Int.add_mul_emod_self_left]
theorem bits_h (n : Int) (w : World) :
    Calls Tryd.prog 20 #[.agg #[.int .u64 (hi n), .int .u64 (lo n)]] w fun e w' => e = .returned (.agg (bitsA (n % MM))) ∧ Below w.heap.size w w' := by
  have h := bits_t (hi n) (lo n) (word_hi n) (word_lo n) w
  rw [bitsK_all _ _ (word_hi n) (word_lo n), wv_hi_lo] at h
  exact h
end Go.Proofs.YtbhaoafngneclaaDoor
