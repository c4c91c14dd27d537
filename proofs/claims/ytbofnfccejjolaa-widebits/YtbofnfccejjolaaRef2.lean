/- The reference's two numbers taken into their bits: tools for the walks. No conditions. -/
import Derived.Test.YtbofnfccejjolaaRefOf
import Derived.Deep.DeepCutAuto
namespace Go.Proofs.Ytbofnfccejjolaa
set_option linter.unusedVariables false
set_option linter.unusedSimpArgs false
open Go.RowKit
theorem region_any {P : Program} {ops : Array Oper} {Q : Exit → Act → World → Prop} {S : World → Prop} {id : Nat} {a : Act} {w : World} (hm : P.follows .mixedOrders = true) (hS : S w.drew)
    (h : ∀ wq, S wq → wpAnyH P .any ops Q S ops.size (Array.replicate ops.size false) a wq) : (Code.region id ops true).wp P Q a w :=
  wp_region_held_drew hm hS (fun hs => h _ hs)
theorem cell_setCells_far {w : World} {g o : Nat} {vs : List Value} {a : Addr} {v : Value} (h : w.cell? a = some v) (hne : a.block ≠ g) : (w.setCells g o vs).cell? a = some v := by
  rw [World.cell?_setCells_out g vs o w a (fun e => absurd e hne)]; exact h
theorem bitsA_one (n : Int) : (bitsA n).all (·.oneCell') = true := by
  rw [Array.all_eq_true]; intro i hi; simp [bitsA, Value.oneCell']
theorem bitsA_info (n : Int) : (Try.prog.info? 85).map (·.size) = some (bitsA n).size := by rw [bitsA_size]; kernel_rfl
theorem zeroA_size : Try.zeroCells85.size = 128 := by rw [zeroA]; simp
theorem Row.setCells_far {w : World} {g k o : Nat} {vs : List Value} {cs : Array Value} {t : TypeId} (h : Row w k cs t) (hne : k ≠ g) : Row (w.setCells g o vs) k cs t := (setCells_other hne vs o w).trans h
theorem bitsA_get (n : Int) (j : Nat) (h : j < 128) : (bitsA n)[j]? = some (Value.int .u64 (bitF n j)) := arrV_get (bitF n) j h
theorem bitF_bitI (a b : Int) (k : Nat) (hk : k < 128) : bitF a k = bitF b k ↔ bitI a k = bitI b k := by
  rw [bit_def a k hk, bit_def b k hk, decide_eq_decide]; unfold bitF
  generalize a / 2 ^ (127 - k) = x; generalize b / 2 ^ (127 - k) = y; omega
theorem mm_div (a : Int) : a % MM / 2 ^ 128 = 0 := Int.ediv_eq_zero_of_lt (Int.emod_nonneg _ (by decide)) (Int.emod_lt_of_pos _ (by decide))
theorem div_sameF (A B : Int) (k : Nat) (hk : k ≤ 128) (h : ∀ j : Nat, j < k → bitF (A % MM) j = bitF (B % MM) j) : A % MM / 2 ^ (128 - k) = B % MM / 2 ^ (128 - k) :=
  div_same _ _ k hk (by rw [mm_div, mm_div]) (fun j hj => (bitF_bitI _ _ j (by omega)).1 (h j hj))
theorem lt_of_div (a b d : Int) (hd : 0 < d) (h : a / d < b / d) : a < b := by
  by_cases hc : a < b
  · exact hc
  · have := Int.ediv_le_ediv hd (show b ≤ a by omega); omega
theorem cmp_bit (A B : Int) (k : Nat) (hk : k < 128) (h : ∀ j : Nat, j < k → bitF (A % MM) j = bitF (B % MM) j) (hb : bitF (A % MM) k < bitF (B % MM) k) : A % MM < B % MM := by
  have e := div_sameF A B k (by omega) h
  refine lt_of_div _ _ (2 ^ (127 - k)) (Int.pow_pos (by decide)) ?_
  rw [div_step _ k hk, div_step (B % MM) k hk, e]
  unfold bitF at hb; omega
theorem cmp_all (A B : Int) (h : ∀ j : Nat, j < 128 → bitF (A % MM) j = bitF (B % MM) j) : A % MM = B % MM := by
  have e := div_sameF A B 128 (by omega) h
  simpa using e
theorem hor_hi (n : Int) : hor (bitF n) 0 64 = hi n := by rw [hor_bitF n 0 64 (by omega)]; rfl
theorem hor_lo (n : Int) : hor (bitF n) 64 64 = lo n := by rw [hor_bitF n 64 64 (by omega)]; unfold lo; simp
theorem refOf_h (n : Int) (w : World) :
    Calls Try.prog 58 #[.agg (arrV (bitF n))] w fun e w' => e = .returned (.agg #[.int .u64 (hi n), .int .u64 (lo n)]) ∧ Below w.heap.size w w' := by
  have h := refOf_t (bitF n) (bitF_01 n) w
  rwa [hor_hi, hor_lo] at h
/-- the lowest k bits of a number, zeros above -/
def outK (n : Int) (k : Nat) : Array Value := arrV fun j => if 128 - k ≤ j then bitF n j else 0
theorem outK_size (n : Int) (k : Nat) : (outK n k).size = 128 := arrV_size _
theorem outK_zero (n : Int) : Try.zeroCells85 = outK n 0 := by
  rw [zeroA]
  apply Array.ext
  · rw [outK_size]; simp
  · intro i h1 h2
    rw [outK_size] at h2
    simp only [outK, arrV, Array.getElem_ofFn, Array.getElem_replicate]
    rw [if_neg (by omega)]
theorem outK_all (n : Int) : outK n 128 = arrV (bitF n) := by
  unfold outK; congr 1
theorem arrV_set (f : Nat → Int) (i : Nat) (x : Int) (hi : i < 128) : (arrV f).setIfInBounds i (.int .u64 x) = arrV (fun j => if j = i then x else f j) := by
  apply Array.ext_getElem?
  intro j
  rw [Array.getElem?_setIfInBounds, arrV_size]
  by_cases hj : j < 128
  · rw [arrV_get f j hj, arrV_get _ j hj]
    by_cases h : i = j
    · rw [if_pos h, if_pos (by omega), if_pos h.symm]
    · rw [if_neg h, if_neg (fun e => h e.symm)]
  · rw [Array.getElem?_eq_none (by rw [arrV_size]; omega), Array.getElem?_eq_none (by rw [arrV_size]; omega)]
    split <;> (try split) <;> first | rfl | omega
theorem arrV_congr {f g : Nat → Int} (h : ∀ j, j < 128 → f j = g j) : arrV f = arrV g := by
  unfold arrV; congr 1; funext j; rw [h j.val j.isLt]
theorem outK_step (n : Int) (k : Nat) (hk : k < 128) : (outK n k).setIfInBounds (127 - k) (.int .u64 (bitF n (127 - k))) = outK n (k + 1) := by
  unfold outK
  rw [arrV_set _ _ _ (by omega)]
  apply arrV_congr
  intro j hj
  by_cases h : j = 127 - k
  · rw [if_pos h, if_pos (by omega), h]
  · rw [if_neg h]
    by_cases h2 : 128 - k ≤ j
    · rw [if_pos h2, if_pos (by omega)]
    · rw [if_neg h2, if_neg (by omega)]
end Go.Proofs.Ytbofnfccejjolaa
