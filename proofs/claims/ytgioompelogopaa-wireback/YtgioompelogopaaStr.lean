/- A string of bytes. No conditions beyond lengths. -/
import Derived.Test.YtgioompelogopaaRd4
import Derived.Laws.IdiomStrings
namespace Go.Proofs.Ytgioompelogopaa
set_option linter.unusedVariables false
set_option linter.unusedSimpArgs false
open Go.RowKit
/-- the string of a list of bytes -/
def byS (l : List Int) : ByteArray := ⟨(l.map (fun x => UInt8.ofNat x.toNat)).toArray⟩
theorem byS_strB (s : ByteArray) : byS (strB s) = s := by
  unfold byS strB
  rw [List.map_map]
  cases s with
  | mk d => simp [Function.comp_def]
theorem strB_byS (l : List Int) (h : ∀ x ∈ l, Byte x) : strB (byS l) = l := by
  unfold byS strB
  simp only [List.map_map]
  conv => rhs; rw [← List.map_id l]
  apply List.map_congr_left
  intro x hx
  have := h x hx
  unfold Byte at this
  simp [Function.comp_def]
  omega
theorem byS_inj {l m : List Int} (hl : ∀ x ∈ l, Byte x) (hm : ∀ x ∈ m, Byte x) (h : byS l = byS m) : l = m := by
  rw [← strB_byS l hl, ← strB_byS m hm, h]
theorem byS_size (l : List Int) : (byS l).size = l.length := by simp [byS, ByteArray.size]
theorem back_run (w : World) (v : Value) (l : List Int) (h : BS w v l) : (convert 56 9 v).run Try.prog w = .ok (.string (byS l)) w := by
  obtain ⟨p, c, rfl, h1, h2, h3, h4, h6⟩ := h
  have hlen : (l.map (fun x => UInt8.ofNat x.toNat)).length = l.length := by simp
  cases p with
  | none =>
    have hl : l = [] := by
      by_cases h : 0 < l.length
      · obtain ⟨g, o, h, _⟩ := h3 h; cases h
      · exact List.eq_nil_of_length_eq_zero (by omega)
    subst hl
    rw [show ([] : List Int).length = 0 from rfl, run_convert_bytes_string w 56 9 5 none 0 c Try.underlying56 Try.underlying5 Try.underlying9]
    rfl
  | some a =>
    have hb := run_convert_bytes_back (P := Try.prog) w 56 9 5 a c (l.map (fun x => UInt8.ofNat x.toNat)) Try.underlying56 Try.underlying5 Try.underlying9 (fun j hj => by
      rw [hlen] at hj
      obtain ⟨g, o, he, h5⟩ := h3 (by omega)
      cases he
      have hx := h5 j _ (List.getElem?_eq_getElem hj)
      rw [Addr.add_mid, hx]
      have hby := h4 l[j] (List.getElem_mem hj)
      unfold Byte at hby
      simp
      omega)
    rw [hlen] at hb
    exact hb
end Go.Proofs.Ytgioompelogopaa
