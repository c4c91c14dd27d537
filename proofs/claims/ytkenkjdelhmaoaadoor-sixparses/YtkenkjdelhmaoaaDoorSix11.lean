/- Parse of package six. No conditions beyond the text's length. -/
import Derived.Test.YtkenkjdelhmaoaaDoorSix10
import Derived.Laws.CopyOwn
import Derived.Deep.RegionLaw
namespace Go.Proofs.YtkenkjdelhmaoaaDoor
set_option linter.unusedVariables false
set_option linter.unusedSimpArgs false
open Go.RowKit
theorem arrLen8 : Tryd.prog.arrayLen 42 = 8 := by kernel_rfl
theorem arrElem8 : Tryd.prog.elem 42 = 41 := by kernel_rfl
theorem arrU8 : Tryd.prog.underlying 42 = some (.array (Tryd.prog.arrayLen 42) (Tryd.prog.elem 42)) := by rw [arrLen8, arrElem8]; exact Tryd.underlying42
theorem cutL8 (w : World) (g k : Nat) (h : k ≤ 8) : (Instr.sliceAt 42 (.pointer (some ⟨g, 0, none⟩)) (some (.int .i64 (k : Int))) none none).run Tryd.prog w = .ok (.slice (some ⟨g, if k = 8 then 0 else k, none⟩) (8 - k) (8 - k)) w := by
  rw [run_sliceAt_array_l (P := Tryd.prog) w 42 ⟨g, 0, none⟩ arrU8 .i64 (k : Int) (by omega) (by rw [arrLen8]; omega)]
  rw [arrLen8, arrElem8]
  by_cases e : k = 8
  · subst e; simp [go_sem]
  · have e' : ¬ 8 = k := fun h => e h.symm
    simp [go_sem, e, e']
theorem cutH8 (w : World) (g k : Nat) (h : k ≤ 8) : (Instr.sliceAt 42 (.pointer (some ⟨g, 0, none⟩)) none (some (.int .i64 (k : Int))) none).run Tryd.prog w = .ok (.slice (some ⟨g, 0, none⟩) k 8) w := by
  rw [run_sliceAt_array_h (P := Tryd.prog) w 42 ⟨g, 0, none⟩ arrU8 .i64 (k : Int) (by omega) (by rw [arrLen8]; omega)]
  rw [arrLen8, arrElem8]
  simp [go_sem]
theorem cutAll8 (w : World) (g : Nat) : (Instr.sliceAt 42 (.pointer (some ⟨g, 0, none⟩)) none none none).run Tryd.prog w = .ok (.slice (some ⟨g, 0, none⟩) 8 8) w := by
  rw [run_sliceAt_array_all (P := Tryd.prog) w 42 ⟨g, 0, none⟩ arrU8]
  rw [arrLen8, arrElem8]
  simp [go_sem]
theorem u16size : (Tryd.prog.info? 41).map (·.size) = some 1 := by kernel_rfl
theorem parse6_seqR (l : List UInt8) : parse6 l = match seqR (!(cc l).2.2) (cc l).1, seqR true (cc l).2.1 with
    | some u, some v => if fits (cc l).2.2 u v = true then some (u ++ List.replicate (8 - u.length - v.length) 0 ++ v) else none
    | _, _ => none := by
  unfold parse6 seqR
  have hcv : (cc l).2.2 = false → (cc l).2.1 = [] := by
    unfold cc Lib.cut
    split <;> simp
  cases hu : readV (!(cc l).2.2) (cc l).1 with
  | none => rfl
  | some u =>
    cases hv : readV true (cc l).2.1 with
    | none =>
      dsimp only
      split
      · rename_i h; cases h
      · rfl
    | some v =>
      dsimp only
      have hf : fits (cc l).2.2 u v = true → u.length ≤ 8 ∧ v.length ≤ 8 := fun h => by
        unfold fits at h
        cases hc : (cc l).2.2 with
        | true => rw [hc] at h; simp at h; omega
        | false =>
          rw [hc] at h; simp at h
          rw [hcv hc] at hv
          unfold readV at hv
          rw [if_pos rfl] at hv
          cases hv
          simp; omega
      by_cases hq : fits (cc l).2.2 u v = true
      · rw [if_pos hq, if_pos (hf hq).1, if_pos (hf hq).2]
        simp only [if_pos hq]
      · rw [if_neg hq]
        split
        · rename_i a b h1 h2
          split at h1
          · cases h1
            split at h2
            · cases h2; rw [if_neg hq]
            · cases h2
          · cases h1
        · rfl
theorem cc_len (l : List UInt8) : (cc l).1.length ≤ l.length ∧ (cc l).2.1.length ≤ l.length := by
  unfold cc Lib.cut
  split
  · simp; omega
  · simp
theorem lf_range {vs : List Nat} (h : ∀ v ∈ vs, v ≤ 65535) (i : Nat) : 0 ≤ lf vs i ∧ lf vs i ≤ 65535 := by
  unfold lf
  by_cases hi : i < vs.length
  · have := h _ (List.getElem_mem hi)
    simp [List.getElem?_eq_getElem hi]
    omega
  · simp [List.getElem?_eq_none (show vs.length ≤ i by omega)]
theorem seqR_is {d : Bool} {l : List UInt8} {vs : List Nat} (h : seqR d l = some vs) : readV d l = some vs ∧ vs.length ≤ 8 := by
  unfold seqR at h
  split at h
  · rename_i us hu
    split at h
    · cases h; exact ⟨hu, by assumption⟩
    · cases h
  · cases h
/-- the cells of a row of groups, as a list -/
theorem cellsV_list (vs : List Nat) : cellsV vs = ((List.range 8).map fun i => Value.int .u16 (lf vs i)).toArray := rfl
def valsV (vs : List Nat) : List Value := vs.map fun (v : Nat) => Value.int .u16 (v : Int)
theorem valsV_get (vs : List Nat) (j : Nat) (h : j < vs.length) : (valsV vs)[j]? = some (.int .u16 (lf vs j)) := by
  unfold valsV lf
  simp [List.getElem?_map, List.getElem?_eq_getElem h]
theorem splice_cells (u v : List Nat) (h : u.length + v.length ≤ 8) : (Go.splice (cellsV u).toList (8 - v.length) (valsV v)).toArray = cellsV (u ++ List.replicate (8 - u.length - v.length) 0 ++ v) := by
  have hvl : (valsV v).length = v.length := by simp [valsV]
  apply Array.ext_getElem?
  intro i
  rw [List.getElem?_toArray]
  unfold Go.splice
  by_cases hi : i < 8
  · rw [cellsV_get _ i hi]
    by_cases h1 : i < 8 - v.length
    · rw [List.getElem?_append_left (by simp [cellsV_size]; omega), List.getElem?_take_of_lt h1]
      rw [Array.getElem?_toList, cellsV_get u i hi]
      congr 2
      unfold lf
      congr 1
      by_cases h2 : i < u.length
      · simp [List.append_assoc, List.getElem?_append_left h2]
      · rw [List.append_assoc, List.getD, List.getD, List.getElem?_append_right (by omega), List.getElem?_append_left (by simp; omega)]
        simp [List.getElem?_eq_none (show u.length ≤ i by omega), List.getElem?_replicate]
        split <;> rfl
    · rw [List.getElem?_append_right (by simp [cellsV_size]; omega)]
      have e1 : i - (List.take (8 - v.length) (cellsV u).toList).length = i - (8 - v.length) := by simp [cellsV_size]
      rw [e1, List.getElem?_append_left (by rw [hvl]; omega), valsV_get v _ (by omega)]
      congr 2
      unfold lf
      congr 1
      rw [List.getD, List.getD, List.getElem?_append_right (by simp; omega)]
      congr 2
      simp
      omega
  · rw [Array.getElem?_eq_none (by rw [cellsV_size]; omega), List.getElem?_eq_none]
    simp [cellsV_size, hvl]
    omega
theorem valsV_one (v : List Nat) : ∀ x ∈ valsV v, x.oneCell' = true := by
  intro x hx
  unfold valsV at hx
  obtain ⟨a, _, rfl⟩ := List.mem_map.1 hx
  rfl
/-- what Parse answers -/
def ParPost (o : Option (List Nat)) (w : World) (e : Ending) (w' : World) : Prop := (match o with
  | some gs => e = .returned (.tuple #[.agg #[.int .u64 (hi (ofN (lf gs) 8)), .int .u64 (lo (ofN (lf gs) 8))], .int .i64 0])
  | none => e = .returned (.tuple #[.agg #[.int .u64 0, .int .u64 0], .int .i64 3])) ∧ Below w.heap.size w w'
end Go.Proofs.YtkenkjdelhmaoaaDoor
