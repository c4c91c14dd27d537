/- The reference's two numbers taken into their bits: tools for the walks. No conditions. -/
import Derived.Test.YtbhaoafngneclaaDoorRefOfN
import Derived.Deep.DeepCutAuto
namespace Go.Proofs.YtbhaoafngneclaaDoor
set_option linter.unusedVariables false
set_option linter.unusedSimpArgs false
open Go.RowKit
theorem bitsA_one (n : Int) : (bitsA n).all (·.oneCell') = true := by
  rw [Array.all_eq_true]; intro i hi; simp [bitsA, Value.oneCell']
theorem bitsA_info (n : Int) : (Tryd.prog.info? 49).map (·.size) = some (bitsA n).size := by rw [bitsA_size]; kernel_rfl
theorem zeroA_size : z128.size = 128 := by rw [zeroA]; simp
theorem bitsA_get (n : Int) (j : Nat) (h : j < 128) : (bitsA n)[j]? = some (Value.int .u64 (bitF n j)) := arrV_get (bitF n) j h
theorem hor_hi (n : Int) : hor (bitF n) 0 64 = hi n := by rw [hor_bitF n 0 64 (by omega)]; rfl
theorem hor_lo (n : Int) : hor (bitF n) 64 64 = lo n := by rw [hor_bitF n 64 64 (by omega)]; unfold lo; simp
theorem refOf_h (n : Int) (w : World) :
    Calls Tryd.prog 34 #[.agg (arrV (bitF n))] w fun e w' => e = .returned (.agg #[.int .u64 (hi n), .int .u64 (lo n)]) ∧ Below w.heap.size w w' := by
  have h := refOf_t (bitF n) (bitF_01 n) w
  rwa [hor_hi, hor_lo] at h
/-- the lowest k bits of a number, zeros above -/
def outK (n : Int) (k : Nat) : Array Value := arrV fun j => if 128 - k ≤ j then bitF n j else 0
theorem outK_size (n : Int) (k : Nat) : (outK n k).size = 128 := arrV_size _
theorem outK_zero (n : Int) : z128 = outK n 0 := by
  rw [zeroA]
  apply Array.ext
  · rw [outK_size]; simp
  · intro i h1 h2
    rw [outK_size] at h2
    simp only [outK, arrV, Array.getElem_ofFn, Array.getElem_replicate]
    rw [if_neg (by omega)]
theorem outK_all (n : Int) : outK n 128 = arrV (bitF n) := by
  unfold outK; congr 1
theorem arrV_set (f : Nat → Int) (i : Nat) (x : Int) (hi : i < 128) : (arrV f).setIfInBounds i (.int .u64 x) = arrV (fun j => if j = i then x else f j) := by
  apply Array.ext_getElem?
  intro j
  rw [Array.getElem?_setIfInBounds, arrV_size]
  by_cases hj : j < 128
  · rw [arrV_get f j hj, arrV_get _ j hj]
    by_cases h : i = j
    · rw [if_pos h, if_pos (by omega), if_pos h.symm]
    · rw [if_neg h, if_neg (fun e => h e.symm)]
  · rw [Array.getElem?_eq_none (by rw [arrV_size]; omega), Array.getElem?_eq_none (by rw [arrV_size]; omega)]
    split <;> (try split) <;> first | rfl | omega
theorem arrV_congr {f g : Nat → Int} (h : ∀ j, j < 128 → f j = g j) : arrV f = arrV g := by
  unfold arrV; congr 1; funext j; rw [h j.val j.isLt]
theorem outK_step (n : Int) (k : Nat) (hk : k < 128) : (outK n k).setIfInBounds (127 - k) (.int .u64 (bitF n (127 - k))) = outK n (k + 1) := by
  unfold outK
  rw [arrV_set _ _ _ (by omega)]
  apply arrV_congr
  intro j hj
  by_cases h : j = 127 - k
  · rw [if_pos h, if_pos (by omega), h]
  · rw [if_neg h]
    by_cases h2 : 128 - k ≤ j
    · rw [if_pos h2, if_pos (by omega)]
    · rw [if_neg h2, if_neg (by omega)]
end Go.Proofs.YtbhaoafngneclaaDoor
