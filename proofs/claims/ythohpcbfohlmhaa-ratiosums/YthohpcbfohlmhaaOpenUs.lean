/- OpenUs: what the theorem needs of these texts. No conditions beyond those that are written. -/
import Derived.Test.YthohpcbfohlmhaaJF0
namespace Go.Proofs.Ythohpcbfohlmhaa
set_option linter.unusedVariables false
set_option linter.unusedSimpArgs false
open Go.ChangeShapes Go.WideShapes Go.ChangeAt Go.RowKit Go.Joins
section
variable {H : Type} {enc : TypeId × Value → H} {W : World} {base : Nat} {sp : Nat → Bool} {held : Bool}
theorem spot_none {w : World} {a : Addr} {v : Value} (h : w.cell? a = some v) : a = ⟨a.block, a.off, none⟩ := by
  have := World.cell?_spot h
  obtain ⟨b, o, s⟩ := a
  simp at this
  rw [this]
theorem us_of_trod {fuel : Nat} {cs : List Value} {y : DataW H × List MemPlace} (h : DataW.trod enc Try.prog W base sp held fuel 40 cs = some y) : ∃ v l, cs = [v] ∧ US W v l := by
  rcases open_ints Try.underlying40 Try.underlying22 (by kernel_rfl) h with ⟨rfl, _⟩ | ⟨x, l, c, zs, rfl, _, hl, hm, hz, _, hcell, hwz⟩
  · exact ⟨_, [], rfl, none, 0, rfl, Nat.le_refl _, fun h => by simp at h, fun _ h => by simp at h, by simp⟩
  · have hge : l ≤ zs.length := by rw [hz]; split <;> omega
    have hlen : (zs.take l).length = l := by rw [List.length_take]; omega
    have hml : maxLen ≤ 9223372036854775807 := by decide
    refine ⟨_, zs.take l, rfl, some x, c, by rw [hlen], by omega, fun h0 => ?_, fun z hz => ?_, by omega⟩
    · have h00 := hcell 0 (by omega)
      have hx := spot_none h00
      have hlt := World.block_lt_of_cell? _ _ h00
      obtain ⟨b, o, s⟩ := x
      simp [Addr.add] at hx
      subst hx
      refine ⟨b, o, rfl, hlt, fun j z hj => ?_⟩
      rw [List.getElem?_take] at hj
      split at hj
      · have hjl : j < zs.length := (List.getElem?_eq_some_iff.1 hj).1
        have h1 := hcell j hjl
        rw [List.getD_eq_getElem?_getD, hj, Addr.add_mid] at h1
        exact h1
      · cases hj
    · have h1 := hwz z (List.mem_of_mem_take hz)
      simp [Lit.wf, IntKind.min, IntKind.max, IntKind.signed, IntKind.bits] at h1
      exact ⟨by omega, by omega⟩
end
end Go.Proofs.Ythohpcbfohlmhaa
