/- A slice of texts that came in, as the walk is told of it. No conditions. -/
import Derived.Test.YtbhaoafngneclaaLab4
import Derived.Deep.Strs
import Derived.ProofKit
import Derived.OpenShut
import Derived.ShutString
import Derived.ChangeOld
import Derived.Below
import Derived.Lib.SmallJoins
namespace Go.Proofs.Ytbhaoafngneclaa
set_option linter.unusedVariables false
set_option linter.unusedSimpArgs false
open Go.ChangeShapes Go.WideShapes Go.ChangeAt Go.RowKit Go.Joins
section
variable {H : Type} {enc : TypeId × Value → H} {W : World} {base : Nat} {sp : Nat → Bool} {held : Bool}
theorem spot_none {w : World} {a : Addr} {v : Value} (h : w.cell? a = some v) : a = ⟨a.block, a.off, none⟩ := by
  have := World.cell?_spot h
  obtain ⟨b, o, s⟩ := a
  simp at this
  rw [this]
theorem strs_of_trod {fuel : Nat} {cs : List Value} {y : DataW H × List MemPlace} (h : DataW.trod enc Try.prog W base sp held fuel 23 cs = some y) : ∃ v ls, cs = [v] ∧ SS W v ls ∧ ls.length ≤ 9223372036854775807 ∧ ∀ x ∈ ls, x.length ≤ 9223372036854775807 := by
  rcases Go.Deep.open_strs Try.underlying23 Try.underlying9 (by kernel_rfl) h with ⟨rfl, _⟩ | ⟨a, len, cap, m, S, rfl, _, hl, hm, hmm, _, hcell⟩
  · exact ⟨_, [], rfl, SS.nil W, by simp, by simp⟩
  · have hlm : len ≤ m := by rw [hmm]; split <;> omega
    have hml : maxLen ≤ 9223372036854775807 := by decide
    refine ⟨_, (List.range len).map fun i => (S i).data.toList, rfl, ⟨some a, cap, by simp, by simpa using hl, fun h0 => ?_⟩, by simp; omega, fun x hx => ?_⟩
    · simp at h0
      have h00 := (hcell 0 (by omega)).1
      have hx := spot_none h00
      have hlt := World.block_lt_of_cell? _ _ h00
      obtain ⟨b, o, s⟩ := a
      simp [Addr.add] at hx
      subst hx
      refine ⟨b, o, rfl, hlt, fun j x hj => ?_⟩
      rw [List.getElem?_map, Option.map_eq_some_iff] at hj
      obtain ⟨i, hi, rfl⟩ := hj
      have hil : j < len := by have := (List.getElem?_eq_some_iff.1 hi).1; simpa using this
      have hij : i = j := by rw [List.getElem?_range hil] at hi; cases hi; rfl
      subst hij
      have h1 := (hcell i (by omega)).1
      rw [Addr.add_mid] at h1
      rw [h1]
    · rw [List.mem_map] at hx
      obtain ⟨i, hi, rfl⟩ := hx
      simp at hi
      have h2 := (hcell i (by omega)).2
      have : (S i).data.toList.length = (S i).size := Array.length_toList
      omega
end
end Go.Proofs.Ytbhaoafngneclaa
