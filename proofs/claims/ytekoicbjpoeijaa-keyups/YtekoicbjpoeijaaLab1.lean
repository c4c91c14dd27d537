/- Labels: IsLabel of package label and of the reference. No conditions beyond lengths. -/
import Derived.Test.YtekoicbjpoeijaaF0
import Derived.Test.YtekoicbjpoeijaaShelf
import Derived.WalkSmall
import Derived.Lib.SmallJoins
namespace Go.Proofs.Ytekoicbjpoeijaa
set_option linter.unusedVariables false
set_option linter.unusedSimpArgs false
open Go.RowKit
theorem bs_size (l : List UInt8) : (⟨l.toArray⟩ : ByteArray).size = l.length := by simp [ByteArray.size]
/-- may a label have this byte -/
def memB (c : UInt8) : Bool := (decide (97 ≤ c.toNat) && decide (c.toNat ≤ 122)) || (decide (48 ≤ c.toNat) && decide (c.toNat ≤ 57)) || decide (c.toNat = 95)
/-- is it a label -/
def labB (l : List UInt8) : Bool := l.all memB && decide (l ≠ []) && decide (l.length ≤ 16)
theorem member_t (c : UInt8) (w : World) : Calls Try.prog 85 #[.int .u8 c.toNat] w fun e w' => e = .returned (.bool (memB c)) ∧ w = w' := by
  unfold memB
  have hc : c.toNat < 256 := c.toNat_lt
  generalize c.toNat = n at *
  go_enter Try.func85, Try.ntmps85
  by_cases h1 : 97 ≤ n
  · by_cases h2 : n ≤ 122
    · have h1' : (97 : Int) ≤ n := by omega
      have h2' : (n : Int) ≤ 122 := by omega
      go_wp2
      go_ret
      exact ⟨by simp [h1, h2], rfl⟩
    · have h1' : (97 : Int) ≤ n := by omega
      have h2' : ¬ (n : Int) ≤ 122 := by omega
      have h3' : (48 : Int) ≤ n := by omega
      have h4' : ¬ (n : Int) ≤ 57 := by omega
      have h5' : ((n : Int) == 95) = false := by simp; omega
      have h5 : ¬ (n : Int) = 95 := by omega
      go_wp2
      go_ret
      exact ⟨by simp <;> omega, rfl⟩
  · have h1' : ¬ (97 : Int) ≤ n := by omega
    by_cases h3 : 48 ≤ n
    · have h3' : (48 : Int) ≤ n := by omega
      by_cases h4 : n ≤ 57
      · have h4' : (n : Int) ≤ 57 := by omega
        go_wp2
        go_ret
        exact ⟨by simp [h3, h4], rfl⟩
      · have h4' : ¬ (n : Int) ≤ 57 := by omega
        by_cases h5 : n = 95
        · subst h5
          go_wp2
          go_ret
          exact ⟨rfl, rfl⟩
        · have h5' : ((n : Int) == 95) = false := by simp; omega
          have h5'' : ¬ (n : Int) = 95 := by omega
          go_wp2
          go_ret
          exact ⟨by simp <;> omega, rfl⟩
    · have h3' : ¬ (48 : Int) ≤ n := by omega
      have h5' : ((n : Int) == 95) = false := by simp; omega
      have h5 : ¬ (n : Int) = 95 := by omega
      go_wp2
      go_ret
      exact ⟨by simp <;> omega, rfl⟩
theorem labB_bad {l : List UInt8} {j : Nat} (hj : j < l.length) (h : j = 16 ∨ memB l[j] = false) : labB l = false := by
  unfold labB
  rcases h with rfl | h
  · have : ¬ l.length ≤ 16 := by omega
    simp [this]
  · have : l.all memB = false := by rw [List.all_eq_false]; exact ⟨l[j], List.getElem_mem hj, by simp [h]⟩
    simp [this]
theorem labB_ok {l : List UInt8} (h : ∀ i (hi : i < l.length), memB l[i] = true) (hl : l.length ≤ 16) : labB l = decide (l ≠ []) := by
  unfold labB
  have : l.all memB = true := by rw [List.all_eq_true]; intro x hx; obtain ⟨i, hi, rfl⟩ := List.getElem_of_mem hx; exact h i hi
  simp [this, hl]
theorem ne_empty (l : List UInt8) : (⟨l.toArray⟩ : ByteArray) = ⟨#[]⟩ ↔ l = [] := by
  constructor
  · intro h
    have := congrArg (fun b : ByteArray => b.data.toList) h
    simpa using this
  · rintro rfl; rfl
set_option maxHeartbeats 1600000 in
theorem isLabel_t (l : List UInt8) (hl : l.length ≤ 140737488355328) (w : World) : Calls Try.prog 70 #[.string ⟨l.toArray⟩] w fun e w' => e = .returned (.bool (labB l)) ∧ w = w' := by
  have hsz := bs_size l
  go_enter Try.func70, Try.ntmps70
  go_wp2_with fail
  go_loopw [6] (fun i wr => ∃ (j : Nat), j ≤ l.length ∧ i = .int .i64 j ∧ j ≤ 16 ∧ Hid (∀ i (hi : i < j) (hl : i < l.length), memB l[i] = true) ∧ wr = w) (fun i _ => l.length - (intOf i).toNat)
  case atStart => exact ⟨0, by omega, rfl, by omega, Lib.hid (fun i hi => by omega), rfl⟩
  case round =>
    obtain ⟨j, hj, rfl, h16, hm, rfl⟩ := hrel
    by_cases hlt : j < l.length
    · obtain ⟨c, hlj⟩ : ∃ c, l[j] = c := ⟨_, rfl⟩
      have hsp : j < (⟨l.toArray⟩ : ByteArray).size := by rw [hsz]; exact hlt
      have hch : (⟨l.toArray⟩ : ByteArray)[j]'hsp = c := hlj
      have HJ := Lib.hid hlj
      clear hlj
      by_cases h : j = 16
      · have HB := Lib.hid (labB_bad hlt (.inl h))
        subst h
        go_wp2
        go_ret
        exact ⟨by rw [HB.out]; rfl, rfl⟩
      · have e16 : ((j : Int) == 16) = false := by simp; omega
        have e16' : ¬ (j : Int) = 16 := by omega
        cases hmb : memB c with
        | false =>
          have HB := Lib.hid (labB_bad hlt (.inr (by rw [HJ.out]; exact hmb)))
          go_wp2_with fail
          refine (member_t c wr).mono ?_
          rintro e w1 ⟨rfl, rfl⟩
          rw [hmb]
          clear hmb
          go_wp2
          go_ret
          exact ⟨by rw [HB.out]; rfl, rfl⟩
        | true =>
          have HM := Lib.hid (show ∀ i (hi : i < j + 1) (hl : i < l.length), memB l[i] = true from fun i hi hl => by
            by_cases e : i = j
            · subst e; rw [HJ.out]; exact hmb
            · exact hm.out i (by omega) hl)
          go_wp2_with fail
          refine (member_t c wr).mono ?_
          rintro e w1 ⟨rfl, rfl⟩
          rw [hmb]
          clear hmb hm
          go_wp2
          exact ⟨⟨j + 1, by omega, by go_num, by omega, HM, trivial⟩, by simp [intOf]; omega⟩
    · have hjl : j = l.length := by omega
      have HB := Lib.hid (labB_ok (l := l) (fun i hi => hm.out i (by omega) hi) (by omega))
      clear hm
      by_cases h0 : l = []
      · subst h0
        go_wp2
        go_ret
        exact ⟨by rw [HB.out]; rfl, rfl⟩
      · have hne : ¬ (⟨l.toArray⟩ : ByteArray) = ⟨#[]⟩ := fun h => h0 ((ne_empty l).1 h)
        subst hjl
        go_wp2
        go_ret
        exact ⟨by rw [HB.out]; simp [hne, h0], rfl⟩
end Go.Proofs.Ytekoicbjpoeijaa
