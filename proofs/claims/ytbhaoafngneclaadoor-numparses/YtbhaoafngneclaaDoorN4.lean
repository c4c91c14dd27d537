/- Texts of numbers: isText and extend of package num. No conditions beyond lengths and ranges. -/
import Derived.Test.YtbhaoafngneclaaDoorN3
import Derived.WalkSmall
namespace Go.Proofs.YtbhaoafngneclaaDoor
set_option linter.unusedVariables false
set_option linter.unusedSimpArgs false
open Go.RowKit
/-- is it a digit -/
def dgB (c : UInt8) : Bool := decide (48 ≤ c.toNat) && decide (c.toNat ≤ 57)
/-- is it the text of a number -/
def txB (l : List UInt8) : Bool := l.all dgB && (l == [48] || (!l.isEmpty && l.head? != some 48))
theorem txB_bad {l : List UInt8} {j : Nat} (hj : j < l.length) (h : dgB l[j] = false) : txB l = false := by
  unfold txB
  have : l.all dgB = false := by rw [List.all_eq_false]; exact ⟨l[j], List.getElem_mem hj, by simp [h]⟩
  simp [this]
theorem txB_ok {l : List UInt8} (h : ∀ i (hi : i < l.length), dgB l[i] = true) : txB l = (l == [48] || (!l.isEmpty && l.head? != some 48)) := by
  unfold txB
  have : l.all dgB = true := by rw [List.all_eq_true]; intro x hx; obtain ⟨i, hi, rfl⟩ := List.getElem_of_mem hx; exact h i hi
  simp [this]
theorem ba_inj {a b : List UInt8} : (⟨a.toArray⟩ : ByteArray) = ⟨b.toArray⟩ ↔ a = b := by
  constructor
  · intro h
    have := congrArg (fun b : ByteArray => b.data.toList) h
    simpa using this
  · rintro rfl; rfl
set_option maxHeartbeats 1600000 in
theorem isText_t (l : List UInt8) (hl : l.length ≤ 1000) (w : World) : Calls Tryd.prog 23 #[.string ⟨l.toArray⟩] w fun e w' => e = .returned (.bool (txB l)) ∧ Below w.heap.size w w' := by
  have hsz := bs_size l
  go_enter Tryd.func23, Tryd.ntmps23
  go_wp2_with fail
  go_loopw [6] (fun i wr => ∃ (j : Nat), j ≤ l.length ∧ i = .int .i64 j ∧ Hid (∀ i (hi : i < j) (hl : i < l.length), dgB l[i] = true) ∧ wr = w) (fun i _ => l.length - (intOf i).toNat)
  case atStart => exact ⟨0, by omega, rfl, Lib.hid (fun i hi => by omega), rfl⟩
  case round =>
    obtain ⟨j, hj, rfl, hm, rfl⟩ := hrel
    by_cases hlt : j < l.length
    · obtain ⟨c, hlj⟩ : ∃ c, l[j] = c := ⟨_, rfl⟩
      have hsp : j < (⟨l.toArray⟩ : ByteArray).size := by rw [hsz]; exact hlt
      have hch : (⟨l.toArray⟩ : ByteArray)[j]'hsp = c := hlj
      have HJ := Lib.hid hlj
      clear hlj
      have hc : c.toNat < 256 := c.toNat_lt
      by_cases h1 : 48 ≤ c.toNat
      · by_cases h2 : c.toNat ≤ 57
        · have h1' : ¬ (c.toNat : Int) < 48 := by omega
          have h2' : ¬ (57 : Int) < (c.toNat : Int) := by omega
          have HD := Lib.hid (show dgB c = true by simp [dgB, h1, h2])
          clear h1 h2
          go_wp2
          refine ⟨⟨j + 1, by omega, by go_num, Lib.hid (fun i hi hl => ?_), by first | rfl | trivial⟩, by simp [intOf]; omega⟩
          by_cases hij : i = j
          · subst hij; rw [HJ.out]; exact HD.out
          · exact hm.out i (by omega) hl
        · have h1' : ¬ (c.toNat : Int) < 48 := by omega
          have h2' : (57 : Int) < (c.toNat : Int) := by omega
          have HB := Lib.hid (txB_bad hlt (by rw [HJ.out]; simp [dgB, h2]))
          clear h1 h2
          go_wp2
          go_ret
          exact ⟨by rw [HB.out]; rfl, Below.refl _ _⟩
      · have h1' : (c.toNat : Int) < 48 := by omega
        have HB := Lib.hid (txB_bad hlt (by rw [HJ.out]; simp [dgB, h1]))
        clear h1
        go_wp2
        go_ret
        exact ⟨by rw [HB.out]; rfl, Below.refl _ _⟩
    · have HB := Lib.hid (txB_ok (l := l) (fun i hi => hm.out i (by omega) hi))
      have hlt' : ¬ (j : Int) < (l.length : Int) := by omega
      clear hm
      by_cases e1 : l = [48]
      · have b1 : (l == [48]) = true := by rw [e1]; rfl
        have HC := Lib.hid (show txB l = true by rw [HB.out]; simp [e1])
        have h0 : l.length = 1 := by rw [e1]; rfl
        clear e1 HB
        go_wp2
        go_ret
        exact ⟨by rw [HC.out]; rfl, Below.refl _ _⟩
      · have b1 : (l == [48]) = false := by rw [beq_eq_false_iff_ne]; exact e1
        by_cases e2 : l = []
        · have HC := Lib.hid (show txB l = false by rw [HB.out]; simp [e2])
          have he : l.isEmpty = true := by rw [e2]; rfl
          clear e1 HB e2
          go_wp2
          go_ret
          exact ⟨by rw [HC.out]; rfl, Below.refl _ _⟩
        · have he : l.isEmpty = false := by simpa using e2
          have h0 : 0 < l.length := List.length_pos_iff.2 e2
          obtain ⟨c, hlj⟩ : ∃ c, l[0] = c := ⟨_, rfl⟩
          have hsp : 0 < (⟨l.toArray⟩ : ByteArray).size := by rw [hsz]; exact h0
          have hch : (⟨l.toArray⟩ : ByteArray)[0]'hsp = c := hlj
          have hhd : l.head? = some c := by rw [List.head?_eq_getElem?, List.getElem?_eq_getElem h0, hlj]
          by_cases e3 : c = 48
          · have HC := Lib.hid (show txB l = false by rw [HB.out, hhd]; simp [e1, e3])
            have e3' : c.toNat = 48 := by rw [e3]; rfl
            have e3'' : ((c.toNat : Int) == 48) = true := by rw [e3']; rfl
            have HQ := Lib.hid (show ((c.toNat : Int) != 48) = !((c.toNat : Int) == 48) from rfl)
            rw [e3''] at HQ
            clear HB e3 hlj hhd e1 e2 e3'
            go_wp2
            go_ret
            exact ⟨by rw [HC.out]; exact congrArg (fun b => Ending.returned (Value.bool b)) HQ.out, Below.refl _ _⟩
          · have HC := Lib.hid (show txB l = true by rw [HB.out, hhd]; simp [e1, e2, e3])
            have e3' : ¬ c.toNat = 48 := fun h => e3 (UInt8.toNat_inj.1 h)
            have e3'' : ((c.toNat : Int) == 48) = false := by rw [beq_eq_false_iff_ne]; omega
            have HQ := Lib.hid (show ((c.toNat : Int) != 48) = !((c.toNat : Int) == 48) from rfl)
            rw [e3''] at HQ
            clear HB e3 hlj hhd e1 e2 e3'
            go_wp2
            go_ret
            exact ⟨by rw [HC.out]; exact congrArg (fun b => Ending.returned (Value.bool b)) HQ.out, Below.refl _ _⟩
end Go.Proofs.YtbhaoafngneclaaDoor
