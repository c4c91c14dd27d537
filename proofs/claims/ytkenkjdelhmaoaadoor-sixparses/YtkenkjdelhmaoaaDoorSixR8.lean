/- What the reference's Parse of layer 4 answers. No conditions. -/
import Derived.Test.YtkenkjdelhmaoaaDoorSixR7
namespace Go.Proofs.YtkenkjdelhmaoaaDoor
set_option linter.unusedVariables false
set_option linter.unusedSimpArgs false
open Go.RowKit
def RParPost (o : Option (List Nat)) (w : World) (e : Ending) (w' : World) : Prop := (match o with
  | some gs => e = .returned (.tuple #[.agg #[.int .u64 (hi (ofN (lf gs) 8)), .int .u64 (lo (ofN (lf gs) 8))], .bool true])
  | none => e = .returned (.tuple #[.agg #[.int .u64 0, .int .u64 0], .bool false])) ∧ Below w.heap.size w w'
theorem lf_pad (u : List Nat) (k : Nat) : lf (u ++ List.replicate k 0) = lf u := by
  funext i
  unfold lf
  by_cases h : i < u.length
  · simp [List.getElem?_append_left h]
  · rw [List.getD, List.getD, List.getElem?_append_right (by omega), List.getElem?_eq_none (show u.length ≤ i by omega), List.getElem?_replicate]
    split <;> rfl
theorem cellsV_pad (u : List Nat) (k : Nat) : cellsV (u ++ List.replicate k 0 ++ []) = cellsV u := by
  rw [List.append_nil]
  unfold cellsV
  rw [lf_pad]
theorem cellsV_take (v : List Nat) (j : Nat) (h : j < v.length) (h8 : j < 8) : (cellsV (v.take j)).setIfInBounds j (.int .u16 (v[j] : Int)) = cellsV (v.take (j + 1)) := by
  have h1 := cellsV_set (v.take j) v[j] (by rw [List.length_take]; omega)
  rw [show (v.take j).length = j by rw [List.length_take]; omega] at h1
  rw [h1, List.take_add_one, List.getElem?_eq_getElem h]
  rfl
theorem cellsV_more (u v : List Nat) (j : Nat) (hs : u.length + v.length ≤ 7) (h : j < v.length) : (cellsV (u ++ List.replicate (8 - u.length - v.length) 0 ++ v.take j)).setIfInBounds (8 - v.length + j) (.int .u16 (v[j] : Int)) = cellsV (u ++ List.replicate (8 - u.length - v.length) 0 ++ v.take (j + 1)) := by
  have hlen : (u ++ List.replicate (8 - u.length - v.length) 0 ++ v.take j).length = 8 - v.length + j := by simp; omega
  have h1 := cellsV_set (u ++ List.replicate (8 - u.length - v.length) 0 ++ v.take j) v[j] (by rw [hlen]; omega)
  rw [hlen] at h1
  rw [h1, List.take_add_one, List.getElem?_eq_getElem h]
  simp [List.append_assoc]
theorem cc_index (l : List UInt8) : (Lib.index l [58, 58] = -1 ∧ cc l = (l, [], false)) ∨ (∃ k : Nat, Lib.index l [58, 58] = (k : Int) ∧ k + 2 ≤ l.length ∧ cc l = (l.take k, l.drop (k + 2), true)) := by
  have hge := Lib.index_ge l [58, 58]
  by_cases h : 0 ≤ Lib.index l [58, 58]
  · have hr := Lib.index_room l [58, 58] h
    refine .inr ⟨(Lib.index l [58, 58]).toNat, by omega, by simp at hr; omega, ?_⟩
    unfold cc Lib.cut
    rw [if_pos h]
    rfl
  · refine .inl ⟨by omega, ?_⟩
    unfold cc Lib.cut
    rw [if_neg h]
theorem splitC_len : ∀ l : List UInt8, (splitC l).length ≤ l.length + 1
  | [] => by simp [splitC]
  | c :: r => by
    have ih := splitC_len r
    rw [splitC]
    split
    · simp; omega
    · split
      · rename_i h t he; rw [he] at ih; simp at ih ⊢; omega
      · simp
theorem lastV_len {d : Bool} {p : List UInt8} {vs : List Nat} (h : lastV d p = some vs) : vs.length ≤ 2 := by
  unfold lastV at h
  split at h
  · cases h; simp
  · cases hg : grpV p with
    | none => rw [hg] at h; cases h
    | some v => rw [hg] at h; cases h; simp
theorem seqV_len (d : Bool) : ∀ (ps : List (List UInt8)) (vs : List Nat), seqV d ps = some vs → vs.length ≤ ps.length + 1
  | [], vs, h => by cases h; simp
  | [p], vs, h => by have := lastV_len h; simp; omega
  | p :: q :: r, vs, h => by
    rw [seqV_cons d p (q :: r) (by simp)] at h
    split at h
    · rename_i v us h1 h2
      cases h
      have := seqV_len d (q :: r) us h2
      simp at this ⊢
      omega
    · cases h
theorem readV_len {d : Bool} {l : List UInt8} {vs : List Nat} (h : readV d l = some vs) : vs.length ≤ l.length + 2 := by
  unfold readV at h
  split at h
  · cases h; simp
  · have h1 := seqV_len d _ _ h
    have h2 := splitC_len l
    omega
/-- behind read: the slice, its cells, and what stands in the blocks of the caller -/
theorem read_use (d : Bool) (l : List UInt8) (hl : l.length ≤ 300) (w : World) : Calls Tryd.prog 46 #[.string ⟨l.toArray⟩, .bool d] w fun e w' => (match readV d l with
    | some vs => ∃ p c g, vs.length ≤ 302 ∧ e = .returned (.tuple #[.slice p vs.length c, .bool true]) ∧ (0 < vs.length → p = some ⟨g, 0, none⟩) ∧ w.heap.size ≤ g ∧ (0 < vs.length → ∀ (k x : Nat), vs[k]? = some x → w'.cell? ⟨g, k, none⟩ = some (.int .u16 (x : Int)))
    | none => e = .returned (.tuple #[.slice none 0 0, .bool false])) ∧ Below w.heap.size w w' := by
  refine (read_t d l hl w).mono ?_
  intro e w' hP
  cases hq : readV d l with
  | none => rw [hq] at hP; exact hP
  | some vs =>
    rw [hq] at hP
    obtain ⟨⟨v, rfl, ho⟩, hb⟩ := hP
    obtain ⟨p, c, rfl, hr⟩ := ho.read
    refine ⟨?_, hb⟩
    by_cases h : 0 < vs.length
    · obtain ⟨g, rfl, hg, _, hc⟩ := hr h
      exact ⟨_, c, g, Nat.le_trans (readV_len hq) (by omega), rfl, fun _ => rfl, hg, fun _ => hc⟩
    · exact ⟨p, c, w.heap.size, Nat.le_trans (readV_len hq) (by omega), rfl, fun h' => absurd h' h, Nat.le_refl _, fun h' => absurd h' h⟩
end Go.Proofs.YtkenkjdelhmaoaaDoor
