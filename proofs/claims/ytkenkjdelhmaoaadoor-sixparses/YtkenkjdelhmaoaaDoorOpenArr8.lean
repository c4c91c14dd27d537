/- An argument that is an array of eight words of 16 bits, opened. No conditions. -/
import Derived.Test.YtkenkjdelhmaoaaDoorSix4
import Derived.OpenShut
import Derived.Lib.SmallJoins
namespace Go.Proofs.YtkenkjdelhmaoaaDoor
set_option linter.unusedVariables false
set_option linter.unusedSimpArgs false
open Go.ChangeShapes Go.WideShapes Go.ChangeAt Go.RowKit Go.Joins
theorem cells8Of : Tryd.prog.cellsOf 42 = 8 := by kernel_rfl
theorem cells16Of : Tryd.prog.cellsOf 41 = 1 := by kernel_rfl
def pick8 (cs : Array Value) (k : Nat) : Int := match cs[k]? with
  | some (.int _ n) => n
  | _ => 0
theorem word16 {n : Int} (h : (Lit.int .u16 n).wf = true) : 0 ≤ n ∧ n ≤ 65535 := by
  simp [Lit.wf, IntKind.min, IntKind.max, IntKind.signed, IntKind.bits] at h
  omega
set_option maxRecDepth 100000 in
theorem open_arr8 {H : Type} {enc : TypeId × Value → H} {w : World} {base : Nat} {spare : Nat → Bool} {held : Bool} {r : Reach} {b0 : Nat} {v : Value} {d : DataW H} {p : List MemPlace}
    (hv : Value.okWide Tryd.prog w r b0 42 v) (h : DataW.Trod enc Tryd.prog w base spare held 42 v d p) : ∃ f : Nat → Int, v = arr8 f ∧ ∀ k, 0 ≤ f k ∧ f k ≤ 65535 := by
  simp only [Value.okWide, Tryd.underlying42] at hv
  obtain ⟨cs, rfl, hsz, _⟩ := hv
  rw [cells8Of] at hsz
  obtain ⟨c0, c1, c2, c3, c4, c5, c6, c7, rfl⟩ : ∃ c0 c1 c2 c3 c4 c5 c6 c7, cs = #[c0, c1, c2, c3, c4, c5, c6, c7] := by
    rcases cs with ⟨l⟩
    match l, hsz with
    | [c0, c1, c2, c3, c4, c5, c6, c7], _ => exact ⟨c0, c1, c2, c3, c4, c5, c6, c7, rfl⟩
  obtain ⟨fuel, hf⟩ := h
  obtain ⟨xs, m, -, -, -, hxl, hx⟩ := DataW.trod_array Tryd.underlying42 hf
  rw [cells16Of] at hx
  have key : ∀ i, i < 8 → ∃ n, ((#[c0, c1, c2, c3, c4, c5, c6, c7] : Array Value).toList.drop (i * 1)).take 1 = [.int .u16 n] ∧ 0 ≤ n ∧ n ≤ 65535 := fun i hi => by
    have h1 := hx i hi
    rw [List.getElem?_eq_getElem (by omega)] at h1
    obtain ⟨n, hn, -, hw⟩ := DataW.trod_int Tryd.underlying41 h1
    exact ⟨n, hn, word16 hw⟩
  obtain ⟨n0, e0, w0⟩ := key 0 (by omega)
  obtain ⟨n1, e1, w1⟩ := key 1 (by omega)
  obtain ⟨n2, e2, w2⟩ := key 2 (by omega)
  obtain ⟨n3, e3, w3⟩ := key 3 (by omega)
  obtain ⟨n4, e4, w4⟩ := key 4 (by omega)
  obtain ⟨n5, e5, w5⟩ := key 5 (by omega)
  obtain ⟨n6, e6, w6⟩ := key 6 (by omega)
  obtain ⟨n7, e7, w7⟩ := key 7 (by omega)
  simp at e0 e1 e2 e3 e4 e5 e6 e7
  subst e0 e1 e2 e3 e4 e5 e6 e7
  refine ⟨fun k => match k with | 0 => n0 | 1 => n1 | 2 => n2 | 3 => n3 | 4 => n4 | 5 => n5 | 6 => n6 | 7 => n7 | _ => 0, rfl, fun k => ?_⟩
  rcases k with _ | _ | _ | _ | _ | _ | _ | _ | k
  · exact w0
  · exact w1
  · exact w2
  · exact w3
  · exact w4
  · exact w5
  · exact w6
  · exact w7
  · exact (show (0 : Int) ≤ 0 ∧ (0 : Int) ≤ 65535 by decide)
end Go.Proofs.YtkenkjdelhmaoaaDoor
