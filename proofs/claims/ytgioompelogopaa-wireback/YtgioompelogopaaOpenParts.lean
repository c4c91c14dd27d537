/- Bytes and parts that came in, as the walk is told of them. No conditions. -/
import Derived.Test.YtgioompelogopaaParts
import Derived.ProofKit
import Derived.OpenShut
import Derived.ShutString
import Derived.ChangeOld
import Derived.Below
import Derived.Lib.SmallJoins
namespace Go.Proofs.Ytgioompelogopaa
set_option linter.unusedVariables false
set_option linter.unusedSimpArgs false
open Go.ChangeShapes Go.WideShapes Go.ChangeAt Go.RowKit Go.Joins
section
variable {H : Type} {enc : TypeId × Value → H} {W : World} {base : Nat} {sp : Nat → Bool} {held : Bool}
theorem spot_none {w : World} {a : Addr} {v : Value} (h : w.cell? a = some v) : a = ⟨a.block, a.off, none⟩ := by
  have := World.cell?_spot h
  obtain ⟨b, o, s⟩ := a
  simp at this
  rw [this]
theorem bs_of_trod {fuel : Nat} {cs : List Value} {y : DataW H × List MemPlace} (h : DataW.trod enc Try.prog W base sp held fuel 56 cs = some y) : ∃ v l, cs = [v] ∧ BS W v l := by
  rcases open_ints Try.underlying56 Try.underlying5 (by kernel_rfl) h with ⟨rfl, _⟩ | ⟨x, l, c, zs, rfl, _, hl, hm, hz, _, hcell, hwz⟩
  · exact ⟨_, [], rfl, BS.nil W⟩
  · have hge : l ≤ zs.length := by rw [hz]; split <;> omega
    have hlen : (zs.take l).length = l := by rw [List.length_take]; omega
    refine ⟨_, zs.take l, rfl, some x, c, by rw [hlen], by omega, hm, fun h0 => ?_, fun z hz => ?_, fun h => by cases h⟩
    · have h00 := hcell 0 (by omega)
      have hx := spot_none h00
      obtain ⟨b, o, s⟩ := x
      simp [Addr.add] at hx
      subst hx
      refine ⟨b, o, rfl, fun j z hj => ?_⟩
      rw [List.getElem?_take] at hj
      split at hj
      · have hjl : j < zs.length := (List.getElem?_eq_some_iff.1 hj).1
        have h1 := hcell j hjl
        rw [List.getD_eq_getElem?_getD, hj, Addr.add_mid] at h1
        exact h1
      · cases hj
    · have h1 := hwz z (List.mem_of_mem_take hz)
      simp [Lit.wf, IntKind.min, IntKind.max, IntKind.signed, IntKind.bits] at h1
      exact ⟨by omega, by omega⟩
theorem word_wf {x : Int} (h : (Lit.int .u64 x).wf = true) : Word x := by
  simp [Lit.wf, IntKind.min, IntKind.max, IntKind.signed, IntKind.bits] at h
  exact ⟨by omega, by omega⟩
theorem list7 {cs : List Value} (h : cs.length = 7) : ∃ a b c d e f g, cs = [a, b, c, d, e, f, g] := by
  match cs, h with
  | [a, b, c, d, e, f, g], _ => exact ⟨a, b, c, d, e, f, g, rfl⟩
theorem cells_int : Try.prog.cellsOf 3 = 1 := by kernel_rfl
theorem cells_u64 : Try.prog.cellsOf 22 = 1 := by kernel_rfl
theorem cells_wide : Try.prog.cellsOf 24 = 2 := by kernel_rfl
theorem cells_str : Try.prog.cellsOf 9 = 1 := by kernel_rfl
theorem cells_bys : Try.prog.cellsOf 56 = 1 := by kernel_rfl
theorem cells_part : Try.prog.cellsOf 59 = 7 := by kernel_rfl
theorem trod_wide {fuel : Nat} {a b : Value} {y : DataW H × List MemPlace} (h : DataW.trod enc Try.prog W base sp held fuel 24 [a, b] = some y) : ∃ x z, a = .int .u64 x ∧ b = .int .u64 z ∧ Word x ∧ Word z := by
  obtain ⟨y0, y1, n, _, _, h0, h1⟩ := trod_struct2 Try.underlying24 h
  simp [cells_u64] at h0 h1
  obtain ⟨x, e0, _, w0⟩ := DataW.trod_int Try.underlying22 h0
  obtain ⟨z, e1, _, w1⟩ := DataW.trod_int Try.underlying22 h1
  simp at e0 e1
  exact ⟨x, z, e0, e1, word_wf w0, word_wf w1⟩
theorem trod_part {fuel : Nat} {cs : List Value} {y : DataW H × List MemPlace} (h : DataW.trod enc Try.prog W base sp held fuel 59 cs = some y) :
    ∃ k i n ah al s b bl, cs = [.int .i64 k, .int .i64 i, .int .u64 n, .int .u64 ah, .int .u64 al, .string s, b] ∧ Word n ∧ Word ah ∧ Word al ∧ BS W b bl := by
  obtain ⟨xs, n, _, _, hl, hlen, hf⟩ := DataW.trod_struct Try.underlying59 h
  rw [cells_part] at hl
  obtain ⟨c0, c1, c2, c3, c4, c5, c6, rfl⟩ := list7 hl
  have hlen6 : xs.length = 6 := hlen
  obtain ⟨y0, y1, y2, y3, y4, y5, rfl⟩ : ∃ y0 y1 y2 y3 y4 y5, xs = [y0, y1, y2, y3, y4, y5] := by
    match xs, hlen6 with
    | [y0, y1, y2, y3, y4, y5], _ => exact ⟨y0, y1, y2, y3, y4, y5, rfl⟩
  have f0 := hf 0 _ rfl
  have f1 := hf 1 _ rfl
  have f2 := hf 2 _ rfl
  have f3 := hf 3 _ rfl
  have f4 := hf 4 _ rfl
  have f5 := hf 5 _ rfl
  simp [cells_int, cells_u64, cells_wide, cells_str, cells_bys] at f0 f1 f2 f3 f4 f5
  obtain ⟨k, e0, _, _⟩ := DataW.trod_int Try.underlying3 f0
  obtain ⟨i, e1, _, _⟩ := DataW.trod_int Try.underlying3 f1
  obtain ⟨m, e2, _, w2⟩ := DataW.trod_int Try.underlying22 f2
  obtain ⟨ah, al, e3, e4, w3, w4⟩ := trod_wide f3
  obtain ⟨s, e5, _, _⟩ := DataW.trod_string Try.underlying9 f4
  obtain ⟨b, bl, e6, hb⟩ := bs_of_trod f5
  simp at e0 e1 e2 e5 e6
  subst e0 e1 e2 e3 e4 e5 e6
  exact ⟨k, i, m, ah, al, s, c6, bl, rfl, word_wf w2, w3, w4, hb⟩
theorem ps_of_trod {fuel : Nat} {cs : List Value} {y : DataW H × List MemPlace} (h : DataW.trod enc Try.prog W base sp held fuel 51 cs = some y) : ∃ v, cs = [v] ∧ PS W v := by
  rcases Go.Deep.open_slice Try.underlying51 h with ⟨rfl, _⟩ | ⟨x, l, c, m, n, D, Pl, rfl, _, hl, hm, hz, _, hall⟩
  · exact ⟨_, rfl, none, 0, 0, rfl, Nat.le_refl _, by decide, fun h => by cases h⟩
  · have hge : l ≤ m := by rw [hz]; split <;> omega
    refine ⟨_, rfl, some x, l, c, rfl, hl, hm, fun h0 => ?_⟩
    rw [cells_part] at hall
    obtain ⟨cs0, h1, _⟩ := hall 0 (by omega)
    obtain ⟨_, hlen0, hc0⟩ := World.cells?_some h1
    have hc00 := hc0 0 (by omega)
    rw [List.getElem?_eq_getElem (by omega)] at hc00
    have hx := spot_none hc00
    obtain ⟨b, o, s⟩ := x
    simp [Addr.add] at hx
    subst hx
    refine ⟨b, o, rfl, fun j hj => ?_⟩
    obtain ⟨cs', h1, h2⟩ := hall j (by omega)
    obtain ⟨_, hlen, hc⟩ := World.cells?_some h1
    obtain ⟨k, i, nn, ah, al, s, bv, bl, rfl, wn, wh, wl, hb⟩ := trod_part h2
    refine ⟨k, i, nn, ah, al, s, bv, bl, ?_, ?_, ?_, ?_, ?_, ?_, ?_, wn, wh, wl, hb⟩
    · simpa [Addr.add_mid] using hc 0 (by omega)
    · simpa [Addr.add_mid] using hc 1 (by omega)
    · simpa [Addr.add_mid] using hc 2 (by omega)
    · simpa [Addr.add_mid] using hc 3 (by omega)
    · simpa [Addr.add_mid] using hc 4 (by omega)
    · simpa [Addr.add_mid] using hc 5 (by omega)
    · simpa [Addr.add_mid] using hc 6 (by omega)
end
end Go.Proofs.Ytgioompelogopaa
