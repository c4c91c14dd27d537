/- Six11, Six12, Four5, Six13, SixB, Six14, SixR1, SixR2, Four6, Four7, SixR4, SixR5, SixR6: what the theorem needs of these texts. No conditions beyond those that are written. -/
import Derived.Test.YtboinifeemghaaaGreatDoorCJShelf
set_option linter.unusedSimpArgs false
set_option linter.unusedVariables false
set_option maxHeartbeats 4000000
set_option maxRecDepth 100000
namespace Go.Proofs.YtboinifeemghaaaGreatDoor
open Go.RowKit
theorem arrLen8 : Tryz.prog.arrayLen 107 = 8 := by kernel_rfl
theorem arrElem8 : Tryz.prog.elem 107 = 106 := by kernel_rfl
theorem arrU8 : Tryz.prog.underlying 107 = some (.array (Tryz.prog.arrayLen 107) (Tryz.prog.elem 107)) := by rw [arrLen8, arrElem8]; exact Tryz.underlying107
theorem cutL8 (w : World) (g k : Nat) (h : k ≤ 8) : (Instr.sliceAt 107 (.pointer (some ⟨g, 0, none⟩)) (some (.int .i64 (k : Int))) none none).run Tryz.prog w = .ok (.slice (some ⟨g, if k = 8 then 0 else k, none⟩) (8 - k) (8 - k)) w := by
 rw [run_sliceAt_array_l (P := Tryz.prog) w 107 ⟨g, 0, none⟩ arrU8 .i64 (k : Int) (by omega) (by rw [arrLen8]; omega)]
 rw [arrLen8, arrElem8]
 by_cases e : k = 8
 ·subst e; simp [go_sem]
 ·have e' : ¬ 8 = k := fun h => e h.symm
  simp [go_sem, e, e']
theorem cutH8 (w : World) (g k : Nat) (h : k ≤ 8) : (Instr.sliceAt 107 (.pointer (some ⟨g, 0, none⟩)) none (some (.int .i64 (k : Int))) none).run Tryz.prog w = .ok (.slice (some ⟨g, 0, none⟩) k 8) w := by
 rw [run_sliceAt_array_h (P := Tryz.prog) w 107 ⟨g, 0, none⟩ arrU8 .i64 (k : Int) (by omega) (by rw [arrLen8]; omega)]
 rw [arrLen8, arrElem8]
 simp [go_sem]
theorem cutAll8 (w : World) (g : Nat) : (Instr.sliceAt 107 (.pointer (some ⟨g, 0, none⟩)) none none none).run Tryz.prog w = .ok (.slice (some ⟨g, 0, none⟩) 8 8) w := by
 rw [run_sliceAt_array_all (P := Tryz.prog) w 107 ⟨g, 0, none⟩ arrU8]
 rw [arrLen8, arrElem8]
 simp [go_sem]
theorem u16size : (Tryz.prog.info? 106).map (·.size) = some 1 := by kernel_rfl
theorem parse6_seqR (l : List UInt8) : parse6 l = match seqR (!(cc l).2.2) (cc l).1, seqR true (cc l).2.1 with
  | some u, some v => if fits (cc l).2.2 u v = true then some (u ++ List.replicate (8 - u.length - v.length) 0 ++ v) else none
  | _, _ => none := by
 unfold parse6 seqR
 have hcv : (cc l).2.2 = false → (cc l).2.1 = [] := by
  unfold cc Lib.cut
  split <;> simp
 cases hu : readV (!(cc l).2.2) (cc l).1 with
 | none => rfl
 | some u =>
  cases hv : readV true (cc l).2.1 with
  | none =>
   dsimp only
   split
   ·rename_i h; cases h
   ·rfl
  | some v =>
   dsimp only
   have hf : fits (cc l).2.2 u v = true → u.length ≤ 8 ∧ v.length ≤ 8 := fun h => by
    unfold fits at h
    cases hc : (cc l).2.2 with
    | true => rw [hc] at h; simp at h; omega
    | false =>
     rw [hc] at h; simp at h
     rw [hcv hc] at hv
     unfold readV at hv
     rw [if_pos rfl] at hv
     cases hv
     simp; omega
   by_cases hq : fits (cc l).2.2 u v = true
   ·rw [if_pos hq, if_pos (hf hq).1, if_pos (hf hq).2]
    simp only [if_pos hq]
   ·rw [if_neg hq]
    split
    ·rename_i a b h1 h2
     split at h1
     ·cases h1
      split at h2
      ·cases h2; rw [if_neg hq]
      ·cases h2
     ·cases h1
    ·rfl
theorem cc_len (l : List UInt8) : (cc l).1.length ≤ l.length ∧ (cc l).2.1.length ≤ l.length := by
 unfold cc Lib.cut
 split
 ·simp; omega
 ·simp
theorem lf_range {vs : List Nat} (h : ∀ v ∈ vs, v ≤ 65535) (i : Nat) : 0 ≤ lf vs i ∧ lf vs i ≤ 65535 := by
 unfold lf
 by_cases hi : i < vs.length
 ·have := h _ (List.getElem_mem hi)
  simp [List.getElem?_eq_getElem hi]
  omega
 ·simp [List.getElem?_eq_none (show vs.length ≤ i by omega)]
theorem seqR_is {d : Bool} {l : List UInt8} {vs : List Nat} (h : seqR d l = some vs) : readV d l = some vs ∧ vs.length ≤ 8 := by
 unfold seqR at h
 split at h
 ·rename_i us hu
  split at h
  ·cases h; exact ⟨hu, by assumption⟩
  ·cases h
 ·cases h
def valsV (vs : List Nat) : List Value := vs.map fun (v : Nat) => Value.int .u16 (v : Int)
theorem valsV_get (vs : List Nat) (j : Nat) (h : j < vs.length) : (valsV vs)[j]? = some (.int .u16 (lf vs j)) := by
 unfold valsV lf
 simp [List.getElem?_map, List.getElem?_eq_getElem h]
theorem splice_cells (u v : List Nat) (h : u.length + v.length ≤ 8) : (Go.splice (cellsV u).toList (8 - v.length) (valsV v)).toArray = cellsV (u ++ List.replicate (8 - u.length - v.length) 0 ++ v) := by
 have hvl : (valsV v).length = v.length := by simp [valsV]
 apply Array.ext_getElem?
 intro i
 rw [List.getElem?_toArray]
 unfold Go.splice
 by_cases hi : i < 8
 ·rw [cellsV_get _ i hi]
  by_cases h1 : i < 8 - v.length
  ·rw [List.getElem?_append_left (by simp [cellsV_size]; omega), List.getElem?_take_of_lt h1]
   rw [Array.getElem?_toList, cellsV_get u i hi]
   congr 2
   unfold lf
   congr 1
   by_cases h2 : i < u.length
   ·simp [List.append_assoc, List.getElem?_append_left h2]
   ·rw [List.append_assoc, List.getD, List.getD, List.getElem?_append_right (by omega), List.getElem?_append_left (by simp; omega)]
    simp [List.getElem?_eq_none (show u.length ≤ i by omega), List.getElem?_replicate]
    split <;> rfl
  ·rw [List.getElem?_append_right (by simp [cellsV_size]; omega)]
   have e1 : i - (List.take (8 - v.length) (cellsV u).toList).length = i - (8 - v.length) := by simp [cellsV_size]
   rw [e1, List.getElem?_append_left (by rw [hvl]; omega), valsV_get v _ (by omega)]
   congr 2
   unfold lf
   congr 1
   rw [List.getD, List.getD, List.getElem?_append_right (by simp; omega)]
   congr 2
   simp
   omega
 ·rw [Array.getElem?_eq_none (by rw [cellsV_size]; omega), List.getElem?_eq_none]
  simp [cellsV_size, hvl]
  omega
theorem valsV_one (v : List Nat) : ∀ x ∈ valsV v, x.oneCell' = true := by
 intro x hx
 unfold valsV at hx
 obtain ⟨a, _, rfl⟩ := List.mem_map.1 hx
 rfl
def ParPost (o : Option (List Nat)) (w : World) (e : Ending) (w' : World) : Prop := (match o with
 | some gs => e = .returned (.tuple #[.agg #[.int .u64 (hi (ofN (lf gs) 8)), .int .u64 (lo (ofN (lf gs) 8))], .int .i64 0])
 | none => e = .returned (.tuple #[.agg #[.int .u64 0, .int .u64 0], .int .i64 3])) ∧ Below w.heap.size w w'
theorem parse6_t (l : List UInt8) (hl : l.length ≤ 4000000000) (w : World) (hE : Env w) : Calls Tryz.prog 57 #[.string ⟨l.toArray⟩] w (ParPost (parse6 l) w) := by
 have hcl := cc_len l
 have HP0 := Lib.hid (parse6_seqR l)
 have hcut := fun w0 (h : Env w0) => cutb_t l [58, 58] hl w0 h
 have hcc : Lib.cut l [58, 58] = cc l := rfl
 rw [hcc] at hcut
 obtain ⟨⟨b, a, short⟩, hc⟩ : ∃ c, c = cc l := ⟨_, rfl⟩
 rw [← hc] at hcut hcl HP0
 dsimp only at hcut hcl HP0
 have HSA : Hid (short = false → a = []) := Lib.hid (by
  intro hs
  have h2 : short = (cc l).2.2 := by rw [← hc]
  have h3 : a = (cc l).2.1 := by rw [← hc]
  rw [h2] at hs
  rw [h3]
  revert hs
  unfold cc Lib.cut
  split <;> simp)
 clear hc hcc
 generalize parse6 l = pr at *
 go_enter Tryz.func57, Tryz.ntmps57
 go_wp2_with fail
 have R0 := Row.new w #[.int .u64 0, .int .u64 0] 73
 have hb0 : Below w.heap.size w (w.alloc (.cells #[.int .u64 0, .int .u64 0] 73)) := (Below.refl _ _).alloc (Nat.le_refl _) _
 generalize w.alloc (.cells #[.int .u64 0, .int .u64 0] 73) = w0 at *
 refine (hcut w0 (hE.later hb0)).mono ?_
 rintro e w1 ⟨rfl, hb1⟩
 have HR := Lib.hid (R0.later hb1)
 have HB := Lib.hid (below_step hb0 hb1)
 clear R0 hb0 hb1 hcut
 have hS1 := seq_t (!short) b (by omega) w1 (hE.later HB.out)
 have HS1 := Lib.hid hS1
 clear hS1
 go_wp2_with fail
 refine HS1.out.mono ?_
 rintro e w2 hP
 clear HS1
 cases hu : seqR (!short) b with
 | none =>
  rw [hu] at hP
  obtain ⟨rfl, hb2⟩ := hP
  have HP : Hid (pr = none) := Lib.hid (by have := HP0.out; rw [hu] at this; exact this)
  have HR2 := Lib.hid (HR.out.later hb2)
  have HB2 := Lib.hid (below_step HB.out hb2)
  clear HR HB hb2 hu HP0
  unfold arr8
  have r0 := (HR2.out.cell 0).trans (show _ = some (Value.int .u64 0) from rfl)
  have r1 := (HR2.out.cell 1).trans (show _ = some (Value.int .u64 0) from rfl)
  have f0 := HR2.out.frozen 0
  have f1 := HR2.out.frozen 1
  have hlt := HR2.out.lt
  have hne : ¬ w2.heap.size = w.heap.size := by omega
  have hne' : ¬ w.heap.size = w2.heap.size := by omega
  go_wp2
  have Q2 := ((HR2.out.set 0 (.int .u64 0)).set 1 (.int .u64 0)).alloc (.cells #[.int .u16 0, .int .u16 0, .int .u16 0, .int .u16 0, .int .u16 0, .int .u16 0, .int .u16 0, .int .u16 0] 107)
  have s0 := (Q2.cell 0).trans (show _ = some (Value.int .u64 0) from rfl)
  have s1 := (Q2.cell 1).trans (show _ = some (Value.int .u64 0) from rfl)
  have hbf := ((HB2.out.setCell (p := ⟨w.heap.size, 0, none⟩) (Nat.le_refl _) (.int .u64 0)).setCell (p := ⟨w.heap.size, 1, none⟩) (Nat.le_refl _) (.int .u64 0)).alloc (by simp; omega) (.cells #[.int .u16 0, .int .u16 0, .int .u16 0, .int .u16 0, .int .u16 0, .int .u16 0, .int .u16 0, .int .u16 0] 107)
  clear r0 r1 f0 f1
  exact bodyPost_ret (v := .tuple #[.agg #[.int .u64 0, .int .u64 0], .int .i64 3]) (by simp only [results, Tryz.results57]; simp [go_sem, s0, s1]) rfl (by rw [HP.out]; exact ⟨rfl, hbf⟩)
 | some u =>
  rw [hu] at hP
  obtain ⟨rfl, hb2⟩ := hP
  have HR2 := Lib.hid (HR.out.later hb2)
  have HB2 := Lib.hid (below_step HB.out hb2)
  have hu8 := (seqR_is hu).2
  have HUL := Lib.hid (readV_lt (seqR_is hu).1)
  have HP1 : Hid (pr = match seqR true a with | some v => if fits short u v = true then some (u ++ List.replicate (8 - u.length - v.length) 0 ++ v) else none | none => none) := Lib.hid (by have := HP0.out; rw [hu] at this; rw [this]; cases seqR true a <;> rfl)
  clear HR HB hb2 hu HP0
  unfold arr8
  have hS2 := fun w3 (h : Env w3) => seq_t true a (by omega) w3 h
  have HS2 := Lib.hid hS2
  clear hS2
  go_wp2_with fail
  have Rgw3 := Row.new w2 #[.int .u16 (lf u 0), .int .u16 (lf u 1), .int .u16 (lf u 2), .int .u16 (lf u 3), .int .u16 (lf u 4), .int .u16 (lf u 5), .int .u16 (lf u 6), .int .u16 (lf u 7)] 107
  have hbw3 : Below w2.heap.size w2 (w2.alloc (.cells #[.int .u16 (lf u 0), .int .u16 (lf u 1), .int .u16 (lf u 2), .int .u16 (lf u 3), .int .u16 (lf u 4), .int .u16 (lf u 5), .int .u16 (lf u 6), .int .u16 (lf u 7)] 107)) := (Below.refl _ _).alloc (Nat.le_refl _) _
  generalize (w2.alloc (.cells #[.int .u16 (lf u 0), .int .u16 (lf u 1), .int .u16 (lf u 2), .int .u16 (lf u 3), .int .u16 (lf u 4), .int .u16 (lf u 5), .int .u16 (lf u 6), .int .u16 (lf u 7)] 107)) = w3 at *
  have HR3 := Lib.hid (HR2.out.later hbw3)
  have HB3 := Lib.hid (below_step HB2.out hbw3)
  have HG := Lib.hid Rgw3
  have hg1 := HR2.out.lt
  generalize hg : w2.heap.size = g at *
  have hgw : w.heap.size < g := by omega
  clear HR2 HB2 hbw3 Rgw3 hg hg1
  refine (HS2.out w3 (hE.later HB3.out)).mono ?_
  rintro e w4 hP
  clear HS2
  cases hv : seqR true a with
  | none =>
   rw [hv] at hP
   obtain ⟨rfl, hb4⟩ := hP
   have HP : Hid (pr = none) := Lib.hid (by have := HP1.out; rw [hv] at this; exact this)
   have HR4 := Lib.hid (HR3.out.later hb4)
   have HB4 := Lib.hid (below_step HB3.out hb4)
   clear HR3 HB3 hb4 hv HP1 HG
   unfold arr8
   have r0 := (HR4.out.cell 0).trans (show _ = some (Value.int .u64 0) from rfl)
   have r1 := (HR4.out.cell 1).trans (show _ = some (Value.int .u64 0) from rfl)
   have f0 := HR4.out.frozen 0
   have f1 := HR4.out.frozen 1
   have hlt := HR4.out.lt
   have hne : ¬ w4.heap.size = w.heap.size := by omega
   have hne' : ¬ w.heap.size = w4.heap.size := by omega
   go_wp2
   have Q2 := ((HR4.out.set 0 (.int .u64 0)).set 1 (.int .u64 0)).alloc (.cells #[.int .u16 0, .int .u16 0, .int .u16 0, .int .u16 0, .int .u16 0, .int .u16 0, .int .u16 0, .int .u16 0] 107)
   have s0 := (Q2.cell 0).trans (show _ = some (Value.int .u64 0) from rfl)
   have s1 := (Q2.cell 1).trans (show _ = some (Value.int .u64 0) from rfl)
   have hbf := ((HB4.out.setCell (p := ⟨w.heap.size, 0, none⟩) (Nat.le_refl _) (.int .u64 0)).setCell (p := ⟨w.heap.size, 1, none⟩) (Nat.le_refl _) (.int .u64 0)).alloc (by simp; omega) (.cells #[.int .u16 0, .int .u16 0, .int .u16 0, .int .u16 0, .int .u16 0, .int .u16 0, .int .u16 0, .int .u16 0] 107)
   clear r0 r1 f0 f1
   exact bodyPost_ret (v := .tuple #[.agg #[.int .u64 0, .int .u64 0], .int .i64 3]) (by simp only [results, Tryz.results57]; simp [go_sem, s0, s1]) rfl (by rw [HP.out]; exact ⟨rfl, hbf⟩)
  | some v =>
   rw [hv] at hP
   obtain ⟨rfl, hb4⟩ := hP
   have HR4 := Lib.hid (HR3.out.later hb4)
   have HB4 := Lib.hid (below_step HB3.out hb4)
   have HG4 := Lib.hid (HG.out.later hb4)
   have hv8 := (seqR_is hv).2
   have HVL := Lib.hid (readV_lt (seqR_is hv).1)
   have HVS : Hid (short = false → v = []) := Lib.hid (fun h => by
    have h1 := (seqR_is hv).1
    rw [HSA.out h] at h1
    unfold readV at h1
    rw [if_pos rfl] at h1
    cases h1; rfl)
   have HP2 : Hid (pr = if fits short u v = true then some (u ++ List.replicate (8 - u.length - v.length) 0 ++ v) else none) := Lib.hid (by have := HP1.out; rw [hv] at this; exact this)
   clear HR3 HB3 hb4 hv HP1 HG
   unfold arr8
   have hcs : (fits short u v = false ∧ ((short = true ∧ 8 ≤ u.length + v.length) ∨ (short = false ∧ u.length ≠ 8))) ∨ (fits short u v = true ∧ ((short = true ∧ u.length + v.length ≤ 7) ∨ (short = false ∧ u.length = 8))) := by
    unfold fits
    cases short <;> simp <;> omega
   have hnn : u.length + v.length ≤ 16 := by omega
   rcases hcs with ⟨hft, ⟨rfl, h9⟩ | ⟨rfl, h9⟩⟩ | ⟨hft, hok⟩
   ·have HP : Hid (pr = none) := Lib.hid (by rw [HP2.out, hft]; rfl)
    have h9' : (8 : Int) ≤ (u.length : Int) + (v.length : Int) := by omega
    clear HP2 hft HG4 HUL HVL
    have r0 := (HR4.out.cell 0).trans (show _ = some (Value.int .u64 0) from rfl)
    have r1 := (HR4.out.cell 1).trans (show _ = some (Value.int .u64 0) from rfl)
    have f0 := HR4.out.frozen 0
    have f1 := HR4.out.frozen 1
    have hlt := HR4.out.lt
    have hne : ¬ w4.heap.size = w.heap.size := by omega
    have hne' : ¬ w.heap.size = w4.heap.size := by omega
    go_wp2
    have Q2 := ((HR4.out.set 0 (.int .u64 0)).set 1 (.int .u64 0)).alloc (.cells #[.int .u16 (lf v 0), .int .u16 (lf v 1), .int .u16 (lf v 2), .int .u16 (lf v 3), .int .u16 (lf v 4), .int .u16 (lf v 5), .int .u16 (lf v 6), .int .u16 (lf v 7)] 107)
    have s0 := (Q2.cell 0).trans (show _ = some (Value.int .u64 0) from rfl)
    have s1 := (Q2.cell 1).trans (show _ = some (Value.int .u64 0) from rfl)
    have hbf := ((HB4.out.setCell (p := ⟨w.heap.size, 0, none⟩) (Nat.le_refl _) (.int .u64 0)).setCell (p := ⟨w.heap.size, 1, none⟩) (Nat.le_refl _) (.int .u64 0)).alloc (by simp; omega) (.cells #[.int .u16 (lf v 0), .int .u16 (lf v 1), .int .u16 (lf v 2), .int .u16 (lf v 3), .int .u16 (lf v 4), .int .u16 (lf v 5), .int .u16 (lf v 6), .int .u16 (lf v 7)] 107)
    clear r0 r1 f0 f1
    exact bodyPost_ret (v := .tuple #[.agg #[.int .u64 0, .int .u64 0], .int .i64 3]) (by simp only [results, Tryz.results57]; simp [go_sem, s0, s1]) rfl (by rw [HP.out]; exact ⟨rfl, hbf⟩)
   ·have HP : Hid (pr = none) := Lib.hid (by rw [HP2.out, hft]; rfl)
    have h9' : ¬ (u.length : Int) = 8 := by omega
    clear HP2 hft HG4 HUL HVL
    have r0 := (HR4.out.cell 0).trans (show _ = some (Value.int .u64 0) from rfl)
    have r1 := (HR4.out.cell 1).trans (show _ = some (Value.int .u64 0) from rfl)
    have f0 := HR4.out.frozen 0
    have f1 := HR4.out.frozen 1
    have hlt := HR4.out.lt
    have hne : ¬ w4.heap.size = w.heap.size := by omega
    have hne' : ¬ w.heap.size = w4.heap.size := by omega
    go_wp2
    have Q2 := ((HR4.out.set 0 (.int .u64 0)).set 1 (.int .u64 0)).alloc (.cells #[.int .u16 (lf v 0), .int .u16 (lf v 1), .int .u16 (lf v 2), .int .u16 (lf v 3), .int .u16 (lf v 4), .int .u16 (lf v 5), .int .u16 (lf v 6), .int .u16 (lf v 7)] 107)
    have s0 := (Q2.cell 0).trans (show _ = some (Value.int .u64 0) from rfl)
    have s1 := (Q2.cell 1).trans (show _ = some (Value.int .u64 0) from rfl)
    have hbf := ((HB4.out.setCell (p := ⟨w.heap.size, 0, none⟩) (Nat.le_refl _) (.int .u64 0)).setCell (p := ⟨w.heap.size, 1, none⟩) (Nat.le_refl _) (.int .u64 0)).alloc (by simp; omega) (.cells #[.int .u16 (lf v 0), .int .u16 (lf v 1), .int .u16 (lf v 2), .int .u16 (lf v 3), .int .u16 (lf v 4), .int .u16 (lf v 5), .int .u16 (lf v 6), .int .u16 (lf v 7)] 107)
    clear r0 r1 f0 f1
    exact bodyPost_ret (v := .tuple #[.agg #[.int .u64 0, .int .u64 0], .int .i64 3]) (by simp only [results, Tryz.results57]; simp [go_sem, s0, s1]) rfl (by rw [HP.out]; exact ⟨rfl, hbf⟩)
   ·have HP := Lib.hid (HP2.out.trans (by rw [hft]; rfl) : pr = some (u ++ List.replicate (8 - u.length - v.length) 0 ++ v))
    clear HP2 hft
    rcases hok with ⟨rfl, h9⟩ | ⟨rfl, h9⟩
    ·have huv : u.length + v.length ≤ 8 := by omega
     have h9' : (u.length : Int) + (v.length : Int) < 8 := by omega
     have qw : IntKind.i64.wrap (8 - (v.length : Int)) = 8 - (v.length : Int) := by simp [IntKind.wrap, IntKind.bits, IntKind.signed]; omega
     clear HVS
     go_wp2_with fail
     have Rgw5 := Row.new w4 #[.int .u16 (lf v 0), .int .u16 (lf v 1), .int .u16 (lf v 2), .int .u16 (lf v 3), .int .u16 (lf v 4), .int .u16 (lf v 5), .int .u16 (lf v 6), .int .u16 (lf v 7)] 107
     have hbw5 : Below w4.heap.size w4 (w4.alloc (.cells #[.int .u16 (lf v 0), .int .u16 (lf v 1), .int .u16 (lf v 2), .int .u16 (lf v 3), .int .u16 (lf v 4), .int .u16 (lf v 5), .int .u16 (lf v 6), .int .u16 (lf v 7)] 107)) := (Below.refl _ _).alloc (Nat.le_refl _) _
     generalize (w4.alloc (.cells #[.int .u16 (lf v 0), .int .u16 (lf v 1), .int .u16 (lf v 2), .int .u16 (lf v 3), .int .u16 (lf v 4), .int .u16 (lf v 5), .int .u16 (lf v 6), .int .u16 (lf v 7)] 107)) = w5 at *
     have HR5 := Lib.hid (HR4.out.later hbw5)
     have HB5 := Lib.hid (below_step HB4.out hbw5)
     have HG5 := Lib.hid (HG4.out.later hbw5)
     have HT5 := Lib.hid Rgw5
     have hg4 := HG4.out.lt
     generalize hgt : w4.heap.size = gt at *
     clear HR4 HB4 HG4 hbw5 Rgw5 hgt
     obtain ⟨o8, ho8⟩ : ∃ o8 : Nat, o8 = if 8 - v.length = 8 then 0 else 8 - v.length := ⟨_, rfl⟩
     have hcL : ∀ wq : World, (Instr.sliceAt 107 (.pointer (some ⟨g, 0, none⟩)) (some (.int .i64 (8 - (v.length : Int)))) none none).run Tryz.prog wq = .ok (.slice (some ⟨g, o8, none⟩) v.length v.length) wq := fun wq => by
      have h := cutL8 wq g (8 - v.length) (by omega)
      rw [← ho8, show ((8 - v.length : Nat) : Int) = 8 - (v.length : Int) by omega, show 8 - (8 - v.length) = v.length by omega] at h
      exact h
     have hcH : ∀ wq : World, (Instr.sliceAt 107 (.pointer (some ⟨gt, 0, none⟩)) none (some (.int .i64 (v.length : Int))) none).run Tryz.prog wq = .ok (.slice (some ⟨gt, 0, none⟩) v.length 8) wq := fun wq => cutH8 wq gt v.length hv8
     have HROW : Hid (w5.drew.heap[g]? = some (.cells (cellsV u).toList.toArray 107 (0, 0))) := Lib.hid (by rw [Array.toArray_toList]; exact HG5.out.drew)
     have HPOS : Hid (0 < (valsV v).length → (some (⟨g, o8, none⟩ : Addr)) = some ⟨g, 8 - v.length, none⟩ ∧ ∃ ad : Addr, (some (⟨gt, 0, none⟩ : Addr)) = some ad ∧ ∀ j x, (valsV v)[j]? = some x → w5.drew.cell? (ad.add j) = some x) := Lib.hid (by
      intro hp
      have hp' : 0 < v.length := by simpa [valsV] using hp
      refine ⟨by rw [ho8, if_neg (by omega)], ⟨gt, 0, none⟩, rfl, fun j x hx => ?_⟩
      have hj : j < v.length := by have := (List.getElem?_eq_some_iff.1 hx).1; simpa [valsV] using this
      rw [valsV_get v j hj] at hx
      cases hx
      rw [Addr.add_mid, Nat.zero_add]
      exact (HT5.out.drew.cell j).trans (cellsV_get v j (by omega)))
     have hvl : (valsV v).length = v.length := by simp [valsV]
     have HNN : Hid ((valsV v).length = Nat.min v.length v.length) := Lib.hid (by rw [hvl]; exact (Nat.min_self _).symm)
     have HFIT : Hid (8 - v.length + (valsV v).length ≤ (cellsV u).toList.length) := Lib.hid (by rw [hvl]; simp [cellsV_size]; omega)
     clear hvl ho8
     go_region_law (refine step_copy_splice rfl (.tmp 57) (.tmp 59) 112 112 rfl 106 Tryz.underlying112 u16size (some ⟨g, o8, none⟩) (some ⟨gt, 0, none⟩) v.length v.length v.length 8 (by simp [Act.eval, Act.put]) (by simp [Act.eval, Act.put]) g (8 - v.length) (cellsV u).toList 107 HROW.out (valsV v) HNN.out HPOS.out HFIT.out (valsV_one v) g w5.drew (Below.refl _ _) (Nat.le_refl _) ?_; intro w6 hg6 hb6)
     have HR6 := Lib.hid (HR5.out.drew.below hb6 hgw)
     have HB6 := Lib.hid (HB5.out.drew.trans (hb6.mono (Nat.le_of_lt hgw)))
     have R6 : Row w6 g (cellsV (u ++ List.replicate (8 - u.length - v.length) 0 ++ v)) 107 := by have := hg6.out; rw [splice_cells u v huv] at this; exact this
     have hrg : ∀ x ∈ u ++ List.replicate (8 - u.length - v.length) 0 ++ v, x ≤ 65535 := fun x hx => by
      simp only [List.mem_append, List.mem_replicate] at hx
      rcases hx with (hx | hx) | hx
      ·exact HUL.out x hx
      ·omega
      ·exact HVL.out x hx
     have HLR := Lib.hid (lf_range hrg)
     generalize u ++ List.replicate (8 - u.length - v.length) 0 ++ v = gs at *
     have xc0 := (R6.cell 0).trans (show _ = some (Value.int .u16 (lf gs 0)) from rfl)
     have xc1 := (R6.cell 1).trans (show _ = some (Value.int .u16 (lf gs 1)) from rfl)
     have xc2 := (R6.cell 2).trans (show _ = some (Value.int .u16 (lf gs 2)) from rfl)
     have xc3 := (R6.cell 3).trans (show _ = some (Value.int .u16 (lf gs 3)) from rfl)
     have xc4 := (R6.cell 4).trans (show _ = some (Value.int .u16 (lf gs 4)) from rfl)
     have xc5 := (R6.cell 5).trans (show _ = some (Value.int .u16 (lf gs 5)) from rfl)
     have xc6 := (R6.cell 6).trans (show _ = some (Value.int .u16 (lf gs 6)) from rfl)
     have xc7 := (R6.cell 7).trans (show _ = some (Value.int .u16 (lf gs 7)) from rfl)
     clear HG5 HT5 HROW HPOS HNN HFIT HR5 HB5 hg6 hb6 R6 hcL hcH hrg HUL HVL
     go_wp2_with fail
     refine (of8_t (lf gs) HLR.out w6).mono ?_
     rintro e w7 ⟨rfl, hb7⟩
     have HR7 := Lib.hid (HR6.out.later hb7)
     have HB7 := Lib.hid (below_step HB6.out hb7)
     clear HR6 HB6 hb7 HLR xc0 xc1 xc2 xc3 xc4 xc5 xc6 xc7
     have r0 := (HR7.out.cell 0).trans (show _ = some (Value.int .u64 0) from rfl)
     have r1 := (HR7.out.cell 1).trans (show _ = some (Value.int .u64 0) from rfl)
     have f0 := HR7.out.frozen 0
     have f1 := HR7.out.frozen 1
     go_wp2
     have Q2 := (HR7.out.set 0 (.int .u64 (hi (ofN (lf gs) 8)))).set 1 (.int .u64 (lo (ofN (lf gs) 8)))
     have s0 := (Q2.cell 0).trans (show _ = some (Value.int .u64 (hi (ofN (lf gs) 8))) from rfl)
     have s1 := (Q2.cell 1).trans (show _ = some (Value.int .u64 (lo (ofN (lf gs) 8))) from rfl)
     clear r0 r1 f0 f1
     exact bodyPost_ret (v := .tuple #[.agg #[.int .u64 (hi (ofN (lf gs) 8)), .int .u64 (lo (ofN (lf gs) 8))], .int .i64 0]) (by simp only [results, Tryz.results57]; simp [go_sem, s0, s1]) rfl (by rw [HP.out]; exact ⟨rfl, (HB7.out.setCell (p := ⟨w.heap.size, 0, none⟩) (Nat.le_refl _) _).setCell (p := ⟨w.heap.size, 1, none⟩) (Nat.le_refl _) _⟩)
    ·have huv : u.length + v.length ≤ 8 := by have h0 : v.length = 0 := (by rw [HVS.out rfl]; rfl); omega
     have h9' : (u.length : Int) = 8 := by omega
     have qw : IntKind.i64.wrap (8 - (v.length : Int)) = 8 - (v.length : Int) := by simp [IntKind.wrap, IntKind.bits, IntKind.signed]; omega
     clear HVS
     go_wp2_with fail
     have Rgw5 := Row.new w4 #[.int .u16 (lf v 0), .int .u16 (lf v 1), .int .u16 (lf v 2), .int .u16 (lf v 3), .int .u16 (lf v 4), .int .u16 (lf v 5), .int .u16 (lf v 6), .int .u16 (lf v 7)] 107
     have hbw5 : Below w4.heap.size w4 (w4.alloc (.cells #[.int .u16 (lf v 0), .int .u16 (lf v 1), .int .u16 (lf v 2), .int .u16 (lf v 3), .int .u16 (lf v 4), .int .u16 (lf v 5), .int .u16 (lf v 6), .int .u16 (lf v 7)] 107)) := (Below.refl _ _).alloc (Nat.le_refl _) _
     generalize (w4.alloc (.cells #[.int .u16 (lf v 0), .int .u16 (lf v 1), .int .u16 (lf v 2), .int .u16 (lf v 3), .int .u16 (lf v 4), .int .u16 (lf v 5), .int .u16 (lf v 6), .int .u16 (lf v 7)] 107)) = w5 at *
     have HR5 := Lib.hid (HR4.out.later hbw5)
     have HB5 := Lib.hid (below_step HB4.out hbw5)
     have HG5 := Lib.hid (HG4.out.later hbw5)
     have HT5 := Lib.hid Rgw5
     have hg4 := HG4.out.lt
     generalize hgt : w4.heap.size = gt at *
     clear HR4 HB4 HG4 hbw5 Rgw5 hgt
     obtain ⟨o8, ho8⟩ : ∃ o8 : Nat, o8 = if 8 - v.length = 8 then 0 else 8 - v.length := ⟨_, rfl⟩
     have hcL : ∀ wq : World, (Instr.sliceAt 107 (.pointer (some ⟨g, 0, none⟩)) (some (.int .i64 (8 - (v.length : Int)))) none none).run Tryz.prog wq = .ok (.slice (some ⟨g, o8, none⟩) v.length v.length) wq := fun wq => by
      have h := cutL8 wq g (8 - v.length) (by omega)
      rw [← ho8, show ((8 - v.length : Nat) : Int) = 8 - (v.length : Int) by omega, show 8 - (8 - v.length) = v.length by omega] at h
      exact h
     have hcH : ∀ wq : World, (Instr.sliceAt 107 (.pointer (some ⟨gt, 0, none⟩)) none (some (.int .i64 (v.length : Int))) none).run Tryz.prog wq = .ok (.slice (some ⟨gt, 0, none⟩) v.length 8) wq := fun wq => cutH8 wq gt v.length hv8
     have HROW : Hid (w5.drew.heap[g]? = some (.cells (cellsV u).toList.toArray 107 (0, 0))) := Lib.hid (by rw [Array.toArray_toList]; exact HG5.out.drew)
     have HPOS : Hid (0 < (valsV v).length → (some (⟨g, o8, none⟩ : Addr)) = some ⟨g, 8 - v.length, none⟩ ∧ ∃ ad : Addr, (some (⟨gt, 0, none⟩ : Addr)) = some ad ∧ ∀ j x, (valsV v)[j]? = some x → w5.drew.cell? (ad.add j) = some x) := Lib.hid (by
      intro hp
      have hp' : 0 < v.length := by simpa [valsV] using hp
      refine ⟨by rw [ho8, if_neg (by omega)], ⟨gt, 0, none⟩, rfl, fun j x hx => ?_⟩
      have hj : j < v.length := by have := (List.getElem?_eq_some_iff.1 hx).1; simpa [valsV] using this
      rw [valsV_get v j hj] at hx
      cases hx
      rw [Addr.add_mid, Nat.zero_add]
      exact (HT5.out.drew.cell j).trans (cellsV_get v j (by omega)))
     have hvl : (valsV v).length = v.length := by simp [valsV]
     have HNN : Hid ((valsV v).length = Nat.min v.length v.length) := Lib.hid (by rw [hvl]; exact (Nat.min_self _).symm)
     have HFIT : Hid (8 - v.length + (valsV v).length ≤ (cellsV u).toList.length) := Lib.hid (by rw [hvl]; simp [cellsV_size]; omega)
     clear hvl ho8
     go_region_law (refine step_copy_splice rfl (.tmp 57) (.tmp 59) 112 112 rfl 106 Tryz.underlying112 u16size (some ⟨g, o8, none⟩) (some ⟨gt, 0, none⟩) v.length v.length v.length 8 (by simp [Act.eval, Act.put]) (by simp [Act.eval, Act.put]) g (8 - v.length) (cellsV u).toList 107 HROW.out (valsV v) HNN.out HPOS.out HFIT.out (valsV_one v) g w5.drew (Below.refl _ _) (Nat.le_refl _) ?_; intro w6 hg6 hb6)
     have HR6 := Lib.hid (HR5.out.drew.below hb6 hgw)
     have HB6 := Lib.hid (HB5.out.drew.trans (hb6.mono (Nat.le_of_lt hgw)))
     have R6 : Row w6 g (cellsV (u ++ List.replicate (8 - u.length - v.length) 0 ++ v)) 107 := by have := hg6.out; rw [splice_cells u v huv] at this; exact this
     have hrg : ∀ x ∈ u ++ List.replicate (8 - u.length - v.length) 0 ++ v, x ≤ 65535 := fun x hx => by
      simp only [List.mem_append, List.mem_replicate] at hx
      rcases hx with (hx | hx) | hx
      ·exact HUL.out x hx
      ·omega
      ·exact HVL.out x hx
     have HLR := Lib.hid (lf_range hrg)
     generalize u ++ List.replicate (8 - u.length - v.length) 0 ++ v = gs at *
     have xc0 := (R6.cell 0).trans (show _ = some (Value.int .u16 (lf gs 0)) from rfl)
     have xc1 := (R6.cell 1).trans (show _ = some (Value.int .u16 (lf gs 1)) from rfl)
     have xc2 := (R6.cell 2).trans (show _ = some (Value.int .u16 (lf gs 2)) from rfl)
     have xc3 := (R6.cell 3).trans (show _ = some (Value.int .u16 (lf gs 3)) from rfl)
     have xc4 := (R6.cell 4).trans (show _ = some (Value.int .u16 (lf gs 4)) from rfl)
     have xc5 := (R6.cell 5).trans (show _ = some (Value.int .u16 (lf gs 5)) from rfl)
     have xc6 := (R6.cell 6).trans (show _ = some (Value.int .u16 (lf gs 6)) from rfl)
     have xc7 := (R6.cell 7).trans (show _ = some (Value.int .u16 (lf gs 7)) from rfl)
     clear HG5 HT5 HROW HPOS HNN HFIT HR5 HB5 hg6 hb6 R6 hcL hcH hrg HUL HVL
     go_wp2_with fail
     refine (of8_t (lf gs) HLR.out w6).mono ?_
     rintro e w7 ⟨rfl, hb7⟩
     have HR7 := Lib.hid (HR6.out.later hb7)
     have HB7 := Lib.hid (below_step HB6.out hb7)
     clear HR6 HB6 hb7 HLR xc0 xc1 xc2 xc3 xc4 xc5 xc6 xc7
     have r0 := (HR7.out.cell 0).trans (show _ = some (Value.int .u64 0) from rfl)
     have r1 := (HR7.out.cell 1).trans (show _ = some (Value.int .u64 0) from rfl)
     have f0 := HR7.out.frozen 0
     have f1 := HR7.out.frozen 1
     go_wp2
     have Q2 := (HR7.out.set 0 (.int .u64 (hi (ofN (lf gs) 8)))).set 1 (.int .u64 (lo (ofN (lf gs) 8)))
     have s0 := (Q2.cell 0).trans (show _ = some (Value.int .u64 (hi (ofN (lf gs) 8))) from rfl)
     have s1 := (Q2.cell 1).trans (show _ = some (Value.int .u64 (lo (ofN (lf gs) 8))) from rfl)
     clear r0 r1 f0 f1
     exact bodyPost_ret (v := .tuple #[.agg #[.int .u64 (hi (ofN (lf gs) 8)), .int .u64 (lo (ofN (lf gs) 8))], .int .i64 0]) (by simp only [results, Tryz.results57]; simp [go_sem, s0, s1]) rfl (by rw [HP.out]; exact ⟨rfl, (HB7.out.setCell (p := ⟨w.heap.size, 0, none⟩) (Nat.le_refl _) _).setCell (p := ⟨w.heap.size, 1, none⟩) (Nat.le_refl _) _⟩)
def slen : Value → Nat
 | .string s => s.size
 | _ => 0
def DigRel (N n : Nat) (l : List UInt8) : Prop := (l = [] ∧ n = N) ∨ (l ≠ [] ∧ Lib.decDigits N = (if n = 0 then [] else Lib.decDigits n) ++ l)
theorem dec_step (n : Nat) (h : 10 ≤ n) : Lib.decDigits n = Lib.decDigits (n / 10) ++ [UInt8.ofNat (48 + n % 10)] := by
 rw [Lib.decDigits, dif_neg (by omega)]
theorem dec_one (n : Nat) (h : n < 10) : Lib.decDigits n = [UInt8.ofNat (48 + n % 10)] := by
 rw [Lib.decDigits, dif_pos h, Nat.mod_eq_of_lt h]
theorem DigRel.step {N n : Nat} {l : List UInt8} (h : DigRel N n l) (hc : 0 < n ∨ l = []) : DigRel N (n / 10) (UInt8.ofNat (48 + n % 10) :: l) := by
 right
 refine ⟨by simp, ?_⟩
 have key : ∀ m : Nat, Lib.decDigits m = (if m / 10 = 0 then [] else Lib.decDigits (m / 10)) ++ [UInt8.ofNat (48 + m % 10)] := by
  intro m
  by_cases hm : m < 10
  ·rw [if_pos (by omega), dec_one m hm]; rfl
  ·rw [if_neg (by omega)]; exact dec_step m (by omega)
 rcases h with ⟨rfl, rfl⟩ | ⟨hl, h⟩
 ·exact key n
 ·have hn : 0 < n := by rcases hc with h | h; exact h; exact absurd h hl
  rw [h, if_neg (by omega), key n]
  simp
theorem DigRel.done {N : Nat} {l : List UInt8} (h : DigRel N 0 l) (hl : l ≠ []) : l = Lib.decDigits N := by
 rcases h with ⟨h, _⟩ | ⟨_, h⟩
 ·exact absurd h hl
 ·rw [h]; rfl
theorem dig_ext : ∀ k : Fin 10, (⟨#[48, 49, 50, 51, 52, 53, 54, 55, 56, 57]⟩ : ByteArray).extract k (k + 1) = ⟨#[UInt8.ofNat (48 + k)]⟩ := by decide +kernel
theorem app_bs (c : UInt8) (l : List UInt8) : (⟨#[c]⟩ : ByteArray) ++ ⟨l.toArray⟩ = ⟨(c :: l).toArray⟩ := by
 apply ByteArray.ext
 simp
theorem digits_t (N : Nat) (hN : N ≤ 4294967295) (w : World) : Calls Tryz.prog 82 #[.int .u32 N] w fun e w' => e = .returned (.string ⟨(Lib.decDigits N).toArray⟩) ∧ Below w.heap.size w w' := by
 go_enter Tryz.func82, Tryz.ntmps82
 go_wp2_with fail
 go_loopw [0, 3] (fun a s wr => ∃ (n : Nat) (l : List UInt8), n ≤ N ∧ l.length + n ≤ N + 1 ∧ a = .int .u32 n ∧ s = .string ⟨l.toArray⟩ ∧ DigRel N n l ∧ wr = w) (fun a s _ => 2 * (intOf a).toNat + (1 - slen s))
 case atStart => exact ⟨N, [], Nat.le_refl _, by simp, rfl, rfl, .inl ⟨rfl, rfl⟩, rfl⟩
 case round =>
  obtain ⟨n, l, hn, hl, rfl, rfl, hrel, rfl⟩ := hrel
  have hk := dig_ext ⟨n % 10, Nat.mod_lt _ (by decide)⟩
  have hap := app_bs (UInt8.ofNat (48 + n % 10)) l
  by_cases h0 : 0 < n
  ·have q1 : decide ((0 : Int) < (n : Int)) = true := by simp; omega
   have HR := Lib.hid (hrel.step (.inl h0))
   clear hrel
   go_wp2
   refine ⟨⟨n / 10, UInt8.ofNat (48 + n % 10) :: l, by omega, by simp; omega, by go_num, ?_, HR.out, trivial⟩, ?_⟩
   ·rw [← hap]; simp
   ·simp [intOf, slen, ByteArray.size]
    omega
  ·have hn0 : n = 0 := by omega
   subst hn0
   by_cases hl0 : l = []
   ·subst hl0
    have HR := Lib.hid (hrel.step (.inr rfl))
    clear hrel
    go_wp2
    refine ⟨⟨0, UInt8.ofNat (48 + 0 % 10) :: [], by omega, by simp, by go_num, ?_, HR.out, trivial⟩, ?_⟩
    ·first | rfl | (rw [← hap]; rfl) | (simp at hap ⊢)
    ·simp [intOf, slen, ByteArray.size]
   ·have hlb : (l == []) = false := by simpa using hl0
    have hle : l.isEmpty = false := by cases l with | nil => exact absurd rfl hl0 | cons _ _ => rfl
    have HD := Lib.hid (hrel.done hl0)
    clear hrel
    go_wp2
    go_ret
    exact ⟨by rw [← HD.out]; rfl, Below.refl _ _⟩
theorem app_ll4 (a b : List UInt8) : (⟨a.toArray⟩ : ByteArray) ++ ⟨b.toArray⟩ = ⟨(a ++ b).toArray⟩ := by
 apply ByteArray.ext
 simp
theorem rprint4_t (a : Int) (a0 : 0 ≤ a) (a1 : a ≤ 4294967295) (w : World) : Calls Tryz.prog 39 #[.int .u32 a] w fun e w' => e = .returned (.string ⟨(print4 a).toArray⟩) ∧ Below w.heap.size w w' := by
 obtain ⟨n, rfl⟩ : ∃ n : Nat, a = n := ⟨a.toNat, by omega⟩
 have l0 := decDigits_len (n / 16777216) (by omega)
 have l1 := decDigits_len (n / 65536 % 256) (by omega)
 have l2 := decDigits_len (n / 256 % 256) (by omega)
 have l3 := decDigits_len (n % 256) (by omega)
 have b0 : (byteI (n : Int) 0).toNat = n / 16777216 := by unfold byteI; simp; omega
 have b1 : (byteI (n : Int) 1).toNat = n / 65536 % 256 := by unfold byteI; simp; omega
 have b2 : (byteI (n : Int) 2).toNat = n / 256 % 256 := by unfold byteI; simp; omega
 have b3 : (byteI (n : Int) 3).toNat = n % 256 := by unfold byteI; simp; omega
 have hpr : print4 (n : Int) = Lib.decDigits (n / 16777216) ++ 46 :: (Lib.decDigits (n / 65536 % 256) ++ 46 :: (Lib.decDigits (n / 256 % 256) ++ 46 :: Lib.decDigits (n % 256))) := by
  unfold print4; rw [txt4_is, b0, b1, b2, b3]
 have HPR := Lib.hid hpr
 clear hpr b0 b1 b2 b3
 go_enter Tryz.func39, Tryz.ntmps39
 go_wp2_with fail
 refine (digits_t (n / 16777216) (by omega) w).mono ?_
 rintro r w1 ⟨rfl, hb1⟩
 have HB1 := Lib.hid hb1
 clear hb1
 have z0 : (⟨(Lib.decDigits (n / 16777216)).toArray⟩ : ByteArray).size = (Lib.decDigits (n / 16777216)).length := bs_size4 _
 go_wp2_with fail
 refine (digits_t (n / 65536 % 256) (by omega) w1).mono ?_
 rintro r w2 ⟨rfl, hb2⟩
 have HB2 := Lib.hid (below_step HB1.out hb2)
 clear hb2
 go_wp2_with fail
 refine (digits_t (n / 256 % 256) (by omega) w2).mono ?_
 rintro r w3 ⟨rfl, hb3⟩
 have HB3 := Lib.hid (below_step HB2.out hb3)
 clear hb3
 go_wp2_with fail
 refine (digits_t (n % 256) (by omega) w3).mono ?_
 rintro r w4 ⟨rfl, hb4⟩
 have HB4 := Lib.hid (below_step HB3.out hb4)
 clear hb4
 go_wp2
 go_ret
 refine ⟨?_, HB4.out⟩
 rw [HPR.out]
 refine congrArg (fun s => Ending.returned (Value.string s)) ?_
 apply ByteArray.ext
 simp
def mJ (j : Nat) : Int := 4294967296 - 2 ^ (32 - j)
def bJ (j : Nat) : Int := 2147483648 / 2 ^ j
structure ScanIs (f : Nat → Int) (j : Nat) (s : Nat × Nat × Nat) : Prop where
 a : s.1 + s.2.1 ≤ j
 z : ∀ i, s.1 ≤ i → i < s.1 + s.2.1 → f i = 0
 l : s.2.2 ≤ j
 t : ∀ i, j - s.2.2 ≤ i → i < j → f i = 0
theorem scan_is (f : Nat → Int) : ∀ j, ScanIs f j (scan f j)
 | 0 => ⟨by simp [scan], fun i _ h => by simp [scan] at h, by simp [scan], fun i _ h => by omega⟩
 | j + 1 => by
  obtain ⟨ha, hz, hl, ht⟩ := scan_is f j
  rw [scan]
  generalize scan f j = s at *
  obtain ⟨a, m, l⟩ := s
  dsimp only at *
  have htz : f j = 0 → ∀ i, j - l ≤ i → i < j + 1 → f i = 0 := fun h0 i h1 h2 => by
   by_cases e : i = j
   ·rw [e]; exact h0
   ·exact ht i h1 (by omega)
  split
  ·rename_i h0
   split
   ·exact ⟨by dsimp only; omega, fun i h1 h2 => htz h0 i (by dsimp only at h1 h2; omega) (by dsimp only at h1 h2; omega), by dsimp only; omega, fun i h1 h2 => htz h0 i (by dsimp only at h1; omega) h2⟩
   ·exact ⟨by dsimp only; omega, hz, by dsimp only; omega, fun i h1 h2 => htz h0 i (by dsimp only at h1; omega) h2⟩
  ·exact ⟨by dsimp only; omega, hz, by dsimp only; omega, fun i h1 h2 => by dsimp only at h1; omega⟩
theorem runS_is (f : Nat → Int) : (runS f).1 + (runS f).2 ≤ 8 ∧ (∀ i, (runS f).1 ≤ i → i < (runS f).1 + (runS f).2 → f i = 0) ∧ ((runS f).2 = 0 ∧ (runS f).1 = 0 ∨ 2 ≤ (runS f).2) := by
 have h := scan_is f 8
 unfold runS
 split
 ·exact ⟨by simp, fun i h1 h2 => by dsimp only at h1 h2; omega, Or.inl ⟨rfl, rfl⟩⟩
 ·exact ⟨h.a, h.z, Or.inr (by dsimp only; omega)⟩
def gl (f : Nat → Int) : List Nat := (List.range 8).map fun i => (f i).toNat
theorem gl_len (f : Nat → Int) : (gl f).length = 8 := by simp [gl]
theorem gl_get (f : Nat → Int) (j : Nat) (h : j < 8) : (gl f)[j]? = some (f j).toNat := by simp [gl, List.getElem?_range h]
theorem gl_lt {f : Nat → Int} (hf : ∀ k, 0 ≤ f k ∧ f k ≤ 65535) : ∀ x ∈ gl f, x < 65536 := by
 intro x hx
 unfold gl at hx
 obtain ⟨i, _, rfl⟩ := List.mem_map.1 hx
 have := hf i
 omega
def print6 (f : Nat → Int) : List UInt8 := if (runS f).2 = 0 then joinH (gl f) else joinH ((gl f).take (runS f).1) ++ [58, 58] ++ joinH ((gl f).drop ((runS f).1 + (runS f).2))
theorem joinN_t (fs : List Nat) (n g o c : Nat) (hn : fs.length = n) (hl : n ≤ 8) (hf : ∀ x ∈ fs, x < 65536) (w : World) (hg : g < w.heap.size) (hE : Env6 w) (hc : ∀ (j x : Nat), fs[j]? = some x → w.cell? ⟨g, o + j, none⟩ = some (.int .u16 (x : Int))) : Calls Tryz.prog 80 #[.slice (some ⟨g, o, none⟩) n c] w fun e w' => e = .returned (.string ⟨(joinH fs).toArray⟩) ∧ Below w.heap.size w w' := by
 subst hn
 exact join_t fs g o c hl hf w hg hE hc
def cellsF (f : Nat → Int) : Array Value := #[.int .u16 (f 0), .int .u16 (f 1), .int .u16 (f 2), .int .u16 (f 3), .int .u16 (f 4), .int .u16 (f 5), .int .u16 (f 6), .int .u16 (f 7)]
theorem cellsF_get (f : Nat → Int) (i : Nat) (h : i < 8) : (cellsF f)[i]? = some (.int .u16 (f i)) := by
 rcases i with _ | _ | _ | _ | _ | _ | _ | _ | i <;> first | rfl | omega
theorem glcell {f : Nat → Int} (hf : ∀ k, 0 ≤ f k ∧ f k ≤ 65535) {w : World} {g : Nat} (R : Row w g (cellsF f) 107) (j x : Nat) (h : (gl f)[j]? = some x) : w.cell? ⟨g, j, none⟩ = some (.int .u16 (x : Int)) := by
 have hj : j < 8 := by have := (List.getElem?_eq_some_iff.1 h).1; rwa [gl_len] at this
 rw [gl_get f j hj] at h
 cases h
 rw [R.cell j, cellsF_get f j hj]
 have := hf j
 rw [Int.toNat_of_nonneg this.1]
def PS (w : World) (g : Nat) (f : Nat → Int) (w' : World) : Prop := Row w' g (cellsF f) 107 ∧ Env6 w' ∧ Below w.heap.size w w'
theorem PS.later {w : World} {g : Nat} {f : Nat → Int} {w1 w2 : World} (h : PS w g f w1) (hb : Below w1.heap.size w1 w2) : PS w g f w2 := ⟨h.1.later hb, h.2.1.later hb, below_step h.2.2 hb⟩
theorem PS.drew {w : World} {g : Nat} {f : Nat → Int} {w1 : World} (h : PS w g f w1) : PS w g f w1.drew := h.later ((Below.refl _ _).drew)
theorem jA {f : Nat → Int} (hf : ∀ k, 0 ≤ f k ∧ f k ≤ 65535) {w wq : World} {g : Nat} (h : PS w g f wq) : Calls Tryz.prog 80 #[.slice (some ⟨g, 0, none⟩) 8 8] wq fun e w' => e = .returned (.string ⟨(joinH (gl f)).toArray⟩) ∧ Below wq.heap.size wq w' :=
 joinN_t (gl f) 8 g 0 8 (gl_len f) (by omega) (gl_lt hf) wq h.1.lt h.2.1 (fun j x hx => by rw [Nat.zero_add]; exact glcell hf h.1 j x hx)
theorem j1 {f : Nat → Int} (hf : ∀ k, 0 ≤ f k ∧ f k ≤ 65535) {n : Nat} (hn : n ≤ 8) {w wq : World} {g : Nat} (h : PS w g f wq) : Calls Tryz.prog 80 #[.slice (some ⟨g, 0, none⟩) n 8] wq fun e w' => e = .returned (.string ⟨(joinH ((gl f).take n)).toArray⟩) ∧ Below wq.heap.size wq w' :=
 joinN_t ((gl f).take n) n g 0 8 (by simp [gl_len]; omega) hn (fun x hx => gl_lt hf x (List.mem_of_mem_take hx)) wq h.1.lt h.2.1 (fun j x hx => by
  rw [Nat.zero_add]
  have hj : j < n := by have := (List.getElem?_eq_some_iff.1 hx).1; simp at this; omega
  rw [List.getElem?_take_of_lt hj] at hx
  exact glcell hf h.1 j x hx)
theorem j2 {f : Nat → Int} (hf : ∀ k, 0 ≤ f k ∧ f k ≤ 65535) {k o n : Nat} (hk : k ≤ 8) (ho : o = if k = 8 then 0 else k) (hn : n = 8 - k) {w wq : World} {g : Nat} (h : PS w g f wq) : Calls Tryz.prog 80 #[.slice (some ⟨g, o, none⟩) n n] wq fun e w' => e = .returned (.string ⟨(joinH ((gl f).drop k)).toArray⟩) ∧ Below wq.heap.size wq w' :=
 joinN_t ((gl f).drop k) n g o n (by simp [gl_len]; omega) (by omega) (fun x hx => gl_lt hf x (List.mem_of_mem_drop hx)) wq h.1.lt h.2.1 (fun j x hx => by
  rw [List.getElem?_drop] at hx
  have hj : k + j < 8 := by have := (List.getElem?_eq_some_iff.1 hx).1; rwa [gl_len] at this
  rw [ho, if_neg (by omega)]
  exact glcell hf h.1 (k + j) x hx)
theorem print6_t (A : Int) (w : World) (hE : Env6 w) : Calls Tryz.prog 37 #[.agg #[.int .u64 (hi A), .int .u64 (lo A)]] w fun e w' => e = .returned (.string ⟨(print6 (grp A)).toArray⟩) ∧ Below w.heap.size w w' := by
 have hf := grp_range A
 obtain ⟨f, hfe⟩ : ∃ f, f = grp A := ⟨_, rfl⟩
 rw [← hfe] at hf ⊢
 have HPR : Hid (print6 f = if (runS f).2 = 0 then joinH (gl f) else joinH ((gl f).take (runS f).1) ++ [58, 58] ++ joinH ((gl f).drop ((runS f).1 + (runS f).2))) := Lib.hid rfl
 generalize print6 f = pt at *
 have HFE := Lib.hid hfe
 clear hfe
 go_enter Tryz.func37, Tryz.ntmps37
 go_wp2_with fail
 have hb0 : Below w.heap.size w (w.alloc (.cells #[.int .u64 (hi A), .int .u64 (lo A)] 73)) := (Below.refl _ _).alloc (Nat.le_refl _) _
 generalize w.alloc (.cells #[.int .u64 (hi A), .int .u64 (lo A)] 73) = w0 at *
 refine (groups_t A w0).mono ?_
 rintro e w1 ⟨rfl, hb1⟩
 have HB := Lib.hid (below_step hb0 hb1)
 clear hb0 hb1
 rw [← HFE.out]
 unfold arr8
 go_wp2_with fail
 have Rg := Row.new w1 (cellsF f) 107
 have hb2 : Below w1.heap.size w1 (w1.alloc (.cells (cellsF f) 107)) := (Below.refl _ _).alloc (Nat.le_refl _) _
 unfold cellsF at Rg hb2
 generalize w1.alloc (.cells #[.int .u16 (f 0), .int .u16 (f 1), .int .u16 (f 2), .int .u16 (f 3), .int .u16 (f 4), .int .u16 (f 5), .int .u16 (f 6), .int .u16 (f 7)] 107) = w2 at *
 refine (run_t f hf w2).mono ?_
 rintro e w3 ⟨rfl, hb3⟩
 have hPS : PS w w1.heap.size f w3 := ⟨Rg.later hb3, hE.later (below_step (below_step HB.out hb2) hb3), below_step (below_step HB.out hb2) hb3⟩
 generalize w1.heap.size = g at *
 have HPS := Lib.hid hPS
 clear Rg hb2 hb3 HB hPS
 obtain ⟨hr1, hr2, hr3⟩ := runS_is f
 clear hr2
 generalize runS f = r at *
 obtain ⟨at_, n⟩ := r
 dsimp only at *
 have HF := Lib.hid hf
 clear hf
 by_cases hn : n = 0
 ·have HP := Lib.hid (HPR.out.trans (if_pos hn))
  subst hn
  clear HPR hr1 hr3
  have hca := fun wq => cutAll8 wq g
  go_wp2_with fail
  refine (jA HF.out HPS.out).mono ?_
  rintro e w4 ⟨rfl, hb4⟩
  have HB4 := Lib.hid (HPS.out.later hb4).2.2
  clear hb4 HPS hca
  go_wp2
  go_ret
  exact ⟨by rw [HP.out]; rfl, HB4.out⟩
 ·have HP := Lib.hid (HPR.out.trans (if_neg hn))
  have hn' : ¬ (n : Int) = 0 := by omega
  have hnb : ((n : Int) == 0) = false := by rw [beq_eq_false_iff_ne]; omega
  clear HPR hr3
  obtain ⟨k, hk⟩ : ∃ k, k = at_ + n := ⟨_, rfl⟩
  obtain ⟨o, ho⟩ : ∃ o, o = if k = 8 then 0 else k := ⟨_, rfl⟩
  obtain ⟨m, hm⟩ : ∃ m, m = 8 - k := ⟨_, rfl⟩
  have hc1 := fun wq => cutH8 wq g at_ (by omega)
  have hc2 : ∀ wq : World, (Instr.sliceAt 107 (.pointer (some ⟨g, 0, none⟩)) (some (.int .i64 ((at_ : Int) + (n : Int)))) none none).run Tryz.prog wq = .ok (.slice (some ⟨g, o, none⟩) m m) wq := fun wq => by
   have h := cutL8 wq g k (by omega)
   rw [← ho, ← hm, hk] at h
   simpa using h
  have qw : IntKind.i64.wrap ((at_ : Int) + (n : Int)) = (at_ : Int) + (n : Int) := by simp [IntKind.wrap, IntKind.bits, IntKind.signed]; omega
  have HO := Lib.hid ho
  have HM := Lib.hid hm
  have HK := Lib.hid hk
  clear ho hm hk
  have hJ1 := fun wq (h : PS w g f wq) => j1 HF.out (show at_ ≤ 8 by omega) h
  have hJ2 := fun wq (h : PS w g f wq) => j2 HF.out (show k ≤ 8 by have := HK.out; omega) HO.out HM.out h
  have hl1 : (joinH ((gl f).take at_)).length ≤ 40 := Nat.le_trans (joinH_len _ (fun x hx => gl_lt HF.out x (List.mem_of_mem_take hx))) (by simp [gl_len]; omega)
  have hl2 : (joinH ((gl f).drop k)).length ≤ 40 := Nat.le_trans (joinH_len _ (fun x hx => gl_lt HF.out x (List.mem_of_mem_drop hx))) (by simp [gl_len]; omega)
  generalize joinH ((gl f).take at_) = s1 at *
  generalize hs2 : joinH ((gl f).drop k) = s2 at *
  have HS2 := Lib.hid hs2
  have HRES : Hid ((⟨s1.toArray⟩ : ByteArray) ++ ⟨#[58, 58]⟩ ++ ⟨s2.toArray⟩ = ⟨pt.toArray⟩) := Lib.hid (by rw [HP.out, ← HK.out, HS2.out, show (⟨#[58, 58]⟩ : ByteArray) = ⟨[58, 58].toArray⟩ from rfl, app_ll4, app_ll4])
  have hx1 : ¬ 9223372036854775807 < s1.length + 2 := by omega
  have hx2 : ¬ 9223372036854775807 < s1.length + 2 + s2.length := by omega
  clear hs2
  go_wp2_with fail
  refine wp_region_held_drew (S := (fun w' => PS w g f w')) (by kernel_rfl) ?hSr1_ (fun hH => ?_)
  case hSr1_ => (first | exact HPS.out.drew | exact hH.later hb)
  refine tk 0 ⟨some 17, .move (.tmp 4), 3, _, _, _⟩ hH ?_
  refine tk 1 ⟨some 18, .slice 107 (.tmp 3) none (some (.tmp 17)) none, 112, _, _, _⟩ hH ?_
  refine tk 4 ⟨some 21, .move (.tmp 4), 3, _, _, _⟩ hH ?_
  refine tk 5 ⟨some 22, .move (.tmp 5), 3, _, _, _⟩ hH ?_
  refine tk 6 ⟨some 23, .binOp .add 3 (.tmp 21) (.tmp 22) 3, 3, _, _, _⟩ hH ?_
  refine tk 7 ⟨some 24, .slice 107 (.tmp 3) (some (.tmp 23)) none none, 112, _, _, _⟩ hH ?_
  refine wpAnyH_ready (rs := [2]) (by kernel_rfl) (by simp) ?_
  refine AllReadyH.cons (o := ⟨some 19, .call { callee := .value (.func 80), args := #[.tmp 18], argTypes := #[112] }, 9, _, _, _⟩) rfl (fun K hK => ?_) AllReadyH.nil
  go_simp
  ((first | (with_reducible refine (hJ1 _ hH).mono ?_) | (with_reducible refine (hJ2 _ hH).mono ?_)); (rintro e wn ⟨rfl, hb⟩))
  go_wp2_with fail
  refine hK.out _ _ ?hSr1_7_2 fun _ => ?_
  case hSr1_7_2 => (first | exact HPS.out.drew | exact hH.later hb)
  clear hK K hH; rename_i hH
  (try simp only [Act.put, nz1, nz2, nz3])
  refine tk 3 ⟨some 20, .binOp .add 9 (.tmp 19) (.const (.string { data := #[58, 58] })) 9, 9, _, _, _⟩ hH ?_
  refine wpAnyH_ready (rs := [8]) (by kernel_rfl) (by simp) ?_
  refine AllReadyH.cons (o := ⟨some 25, .call { callee := .value (.func 80), args := #[.tmp 24], argTypes := #[112] }, 9, _, _, _⟩) rfl (fun K hK => ?_) AllReadyH.nil
  go_simp
  ((first | (with_reducible refine (hJ1 _ hH).mono ?_) | (with_reducible refine (hJ2 _ hH).mono ?_)); (rintro e wn ⟨rfl, hb⟩))
  go_wp2_with fail
  refine hK.out _ _ ?hSr1_9_8 fun _ => ?_
  case hSr1_9_8 => (first | exact HPS.out.drew | exact hH.later hb)
  clear hK K hH; rename_i hH
  (try simp only [Act.put, nz1, nz2, nz3])
  refine tk 9 ⟨some 26, .binOp .add 9 (.tmp 20) (.tmp 25) 9, 9, _, _, _⟩ hH ?_
  refine tk 10 ⟨some 2, .assign (.tmp 26), 9, _, _, _⟩ hH ?_
  refine wpAnyH_done (by kernel_rfl) ?_ _
  (go_wp2; go_ret; exact ⟨congrArg (fun b => Ending.returned (Value.string b)) HRES.out, hH.2.2⟩)
theorem lastV_grp {d : Bool} {p : List UInt8} {v : Nat} (h : grpV p = some v) : lastV d p = some [v] := by
 unfold lastV
 rw [if_neg (fun h4 => by rw [grpV_dot h4.2] at h; cases h), h]
 rfl
structure IsText (t : List UInt8) (x : Nat) : Prop where
 ne : t ≠ []
 no : (58 : UInt8) ∉ t
 is : grpV t = some x
theorem index_tail : ∀ (ts : List (List UInt8)) (z : List UInt8), (∀ t ∈ ts, t ≠ [] ∧ (58 : UInt8) ∉ t) → Lib.index (Lib.joinTail [58] ts ++ z) [58, 58] = if Lib.index z [58, 58] = -1 then -1 else Lib.index z [58, 58] + (Lib.joinTail [58] ts).length
 | [], z, _ => by
  simp only [Lib.joinTail, List.map_nil, List.flatten_nil, List.nil_append]
  split
  ·assumption
  ·simp
 | y :: r, z, h => by
  obtain ⟨hy, hn⟩ := h y (by simp)
  have ih := index_tail r z (fun t ht => h t (List.mem_cons_of_mem _ ht))
  have e : Lib.joinTail [58] (y :: r) = 58 :: (y ++ Lib.joinTail [58] r) := by simp [Lib.joinTail]
  have hw := index_word [58, 58] 58 rfl y (Lib.joinTail [58] r ++ z) hn
  rw [e, List.cons_append, List.append_assoc, Lib.index, hw, ih]
  obtain ⟨c, y', rfl⟩ : ∃ c y', y = c :: y' := by cases y with | nil => exact absurd rfl hy | cons c y' => exact ⟨c, y', rfl⟩
  have hc : ¬ (58 : UInt8) = c := fun he => hn (by rw [he]; simp)
  have h1 : ([58, 58] : List UInt8).isPrefixOf (58 :: ((c :: y') ++ (Lib.joinTail [58] r ++ z))) = false := by simp [List.isPrefixOf, hc]
  have hge := Lib.index_ge z [58, 58]
  rw [h1]
  by_cases h2 : Lib.index z [58, 58] = -1
  ·simp [h2]
  ·have q1 : ¬ (Lib.index z [58, 58] + ((Lib.joinTail [58] r).length : Int)) = -1 := by omega
   have q2 : ((Lib.index z [58, 58] + ((Lib.joinTail [58] r).length : Int) + (((c :: y').length : Nat) : Int)) == -1) = false := by rw [beq_eq_false_iff_ne]; omega
   simp only [if_neg h2, if_neg q1, q2]
   simp
   omega
theorem index_join (ts : List (List UInt8)) (z : List UInt8) (h : ∀ t ∈ ts, t ≠ [] ∧ (58 : UInt8) ∉ t) : Lib.index (Lib.join ts [58] ++ z) [58, 58] = if Lib.index z [58, 58] = -1 then -1 else Lib.index z [58, 58] + (Lib.join ts [58]).length := by
 cases ts with
 | nil =>
  rw [Lib.join_nil, List.nil_append]
  split
  ·assumption
  ·simp
 | cons t r =>
  obtain ⟨ht, hn⟩ := h t (by simp)
  have hr := index_tail r z (fun t ht => h t (List.mem_cons_of_mem _ ht))
  have hw := index_word [58, 58] 58 rfl t (Lib.joinTail [58] r ++ z) hn
  have hge := Lib.index_ge z [58, 58]
  rw [Lib.join_cons, List.append_assoc, hw, hr]
  by_cases h2 : Lib.index z [58, 58] = -1
  ·simp [h2]
  ·have q1 : ¬ (Lib.index z [58, 58] + ((Lib.joinTail [58] r).length : Int)) = -1 := by omega
   simp only [if_neg h2, if_neg q1]
   simp
   omega
theorem cc_none (ts : List (List UInt8)) (h : ∀ t ∈ ts, t ≠ [] ∧ (58 : UInt8) ∉ t) : cc (Lib.join ts [58]) = (Lib.join ts [58], [], false) := by
 have hi := index_join ts [] h
 rw [List.append_nil] at hi
 unfold cc Lib.cut
 rw [hi]
 simp [Lib.index]
theorem cc_at (ts : List (List UInt8)) (z : List UInt8) (h : ∀ t ∈ ts, t ≠ [] ∧ (58 : UInt8) ∉ t) : cc (Lib.join ts [58] ++ [58, 58] ++ z) = (Lib.join ts [58], z, true) := by
 have h0 : Lib.index ([58, 58] ++ z) [58, 58] = 0 := by simp [Lib.index, List.isPrefixOf]
 have hi := index_join ts ([58, 58] ++ z) h
 rw [h0] at hi
 unfold cc Lib.cut
 rw [List.append_assoc, hi]
 simp
theorem split_tail : ∀ (t : List UInt8) (r : List (List UInt8)), (58 : UInt8) ∉ t → (∀ y ∈ r, (58 : UInt8) ∉ y) → splitC (t ++ Lib.joinTail [58] r) = t :: r
 | t, [], ht, _ => by simp [Lib.joinTail, split_no t ht]
 | t, y :: r, ht, h => by
  have e : Lib.joinTail [58] (y :: r) = 58 :: (y ++ Lib.joinTail [58] r) := by simp [Lib.joinTail]
  rw [e, split_at t _ ht, split_tail y r (h y (by simp)) (fun x hx => h x (List.mem_cons_of_mem _ hx))]
theorem seqV_texts (d : Bool) (τ : Nat → List UInt8) : ∀ (fs : List Nat), fs ≠ [] → (∀ x ∈ fs, IsText (τ x) x) → seqV d (fs.map τ) = some fs
 | [], h, _ => absurd rfl h
 | [x], _, h => by
  show seqV d [τ x] = _
  rw [seqV, lastV_grp (h x (by simp)).is]
 | x :: y :: r, _, h => by
  have ih := seqV_texts d τ (y :: r) (by simp) (fun z hz => h z (List.mem_cons_of_mem _ hz))
  rw [List.map_cons, seqV_cons d _ _ (by simp), ih, (h x (by simp)).is]
theorem readV_texts (d : Bool) (τ : Nat → List UInt8) (fs : List Nat) (h : ∀ x ∈ fs, IsText (τ x) x) : readV d (Lib.join (fs.map τ) [58]) = some fs := by
 cases fs with
 | nil => rfl
 | cons x r =>
  have hx := h x (by simp)
  unfold readV
  rw [List.map_cons, Lib.join_cons, if_neg (fun e => hx.ne (List.append_eq_nil_iff.1 e).1)]
  rw [split_tail (τ x) (r.map τ) hx.no (fun y hy => by obtain ⟨z, hz, rfl⟩ := List.mem_map.1 hy; exact (h z (List.mem_cons_of_mem _ hz)).no)]
  exact seqV_texts d τ (x :: r) (by simp) h
def joinT6 (τ : Nat → List UInt8) (fs : List Nat) : List UInt8 := Lib.join (fs.map τ) [58]
def printT (τ : Nat → List UInt8) (f : Nat → Int) : List UInt8 := if (runS f).2 = 0 then joinT6 τ (gl f) else joinT6 τ ((gl f).take (runS f).1) ++ [58, 58] ++ joinT6 τ ((gl f).drop ((runS f).1 + (runS f).2))
theorem gl_run (f : Nat → Int) : (gl f).take (runS f).1 ++ List.replicate (runS f).2 0 ++ (gl f).drop ((runS f).1 + (runS f).2) = gl f := by
 obtain ⟨h1, h2, _⟩ := runS_is f
 generalize runS f = r at *
 obtain ⟨p, n⟩ := r
 dsimp only at *
 apply List.ext_getElem?
 intro i
 by_cases c1 : i < p
 ·rw [List.append_assoc, List.getElem?_append_left (by simp [gl_len]; omega), List.getElem?_take_of_lt c1]
 ·by_cases c2 : i < p + n
  ·rw [List.getElem?_append_left (by simp [gl_len]; omega), List.getElem?_append_right (by simp [gl_len]; omega), gl_get f i (by omega), h2 i (by omega) c2]
   rw [List.getElem?_replicate, if_pos (by simp [gl_len]; omega)]
   rfl
  ·rw [List.getElem?_append_right (by simp [gl_len]; omega), List.getElem?_drop]
   congr 1
   simp [gl_len]
   omega
theorem parse_texts (τ : Nat → List UInt8) (f : Nat → Int) (h : ∀ x ∈ gl f, IsText (τ x) x) : parse6 (printT τ f) = some (gl f) := by
 obtain ⟨h1, _, h3⟩ := runS_is f
 have hgr := gl_run f
 have ht : ∀ fs : List Nat, (∀ x ∈ fs, x ∈ gl f) → ∀ t ∈ fs.map τ, t ≠ [] ∧ (58 : UInt8) ∉ t := fun fs hs t ht => by
  obtain ⟨x, hx, rfl⟩ := List.mem_map.1 ht
  exact ⟨(h x (hs x hx)).ne, (h x (hs x hx)).no⟩
 unfold printT parse6
 by_cases hn : (runS f).2 = 0
 ·rw [if_pos hn]
  unfold joinT6
  rw [cc_none _ (ht _ fun x hx => hx)]
  dsimp only
  rw [readV_texts _ τ (gl f) h]
  have : readV true [] = some [] := rfl
  rw [this]
  dsimp only
  rw [if_pos (by simp [fits, gl_len])]
  simp [gl_len]
 ·rw [if_neg hn]
  unfold joinT6
  rw [cc_at _ _ (ht _ fun x hx => List.mem_of_mem_take hx)]
  dsimp only
  rw [readV_texts _ τ _ (fun x hx => h x (List.mem_of_mem_take hx)), readV_texts _ τ _ (fun x hx => h x (List.mem_of_mem_drop hx))]
  dsimp only
  rw [if_pos (by simp [fits, gl_len]; omega)]
  have e : 8 - ((gl f).take (runS f).1).length - ((gl f).drop ((runS f).1 + (runS f).2)).length = (runS f).2 := by simp [gl_len]; omega
  rw [e, hgr]
/-! the texts of digits -/
theorem hexM_app (κ : UInt8) (k : Nat) (hk : hexV κ = some k) : ∀ (l : List UInt8) (acc v : Nat), hexM acc l = some v → hexM acc (l ++ [κ]) = if 65535 < v * 16 + k then none else some (v * 16 + k)
 | [], acc, v, h => by
  cases h
  rw [List.nil_append, hexM, hk]
  rfl
 | c :: r, acc, v, h => by
  rw [hexM] at h
  rw [List.cons_append, hexM]
  split at h
  ·cases h
  ·rename_i d hd
   split at h
   ·cases h
   ·rename_i hle
    simp only [if_neg hle]
    exact hexM_app κ k hk r _ v h
theorem hexD_ne (n : Nat) : hexD n ≠ [] := by
 by_cases h : n < 16
 ·rw [hexD_one n h]; simp
 ·rw [hexD_step n (by omega)]; simp
theorem hexD_all (n : Nat) : ∀ c ∈ hexD n, ∃ k, k < 16 ∧ c = hexC k := by
 induction n using Nat.strongRecOn with
 | _ n ih =>
  intro c hc
  by_cases h : n < 16
  ·rw [hexD_one n h] at hc; simp at hc; exact ⟨n, h, hc⟩
  ·rw [hexD_step n (by omega)] at hc
   rcases List.mem_append.1 hc with hc | hc
   ·exact ih (n / 16) (by omega) c hc
   ·simp at hc; exact ⟨n % 16, by omega, hc⟩
theorem hexM_hexD (κ : UInt8 → UInt8) (hκ : ∀ k, k < 16 → hexV (κ (hexC k)) = some k) (n : Nat) : n < 65536 → hexM 0 ((hexD n).map κ) = some n := by
 induction n using Nat.strongRecOn with
 | _ n ih =>
  intro hn
  by_cases h : n < 16
  ·rw [hexD_one n h, List.map_cons, List.map_nil, hexM, hκ n h]
   simp only [hexM]
   rw [if_neg (by omega)]
   simp
  ·rw [hexD_step n (by omega), List.map_append, List.map_cons, List.map_nil, hexM_app _ (n % 16) (hκ _ (by omega)) _ 0 (n / 16) (ih (n / 16) (by omega) (by omega)), if_neg (by omega)]
   congr 1
   omega
theorem text_hex (κ : UInt8 → UInt8) (hκ : ∀ k, k < 16 → hexV (κ (hexC k)) = some k) (n : Nat) (hn : n < 65536) : IsText ((hexD n).map κ) n := by
 refine ⟨fun e => hexD_ne n (List.map_eq_nil_iff.1 e), fun hm => ?_, ?_⟩
 ·obtain ⟨c, hc, he⟩ := List.mem_map.1 hm
  obtain ⟨k, hk, rfl⟩ := hexD_all n c hc
  have := hκ k hk
  rw [he, show hexV 58 = none by decide] at this
  cases this
 ·unfold grpV hexP
  rw [if_neg (by have := hexD_len n hn; simp; omega), if_neg (fun e => hexD_ne n (List.map_eq_nil_iff.1 e))]
  exact hexM_hexD κ hκ n hn
theorem map_tail (κ : UInt8 → UInt8) (h58 : κ 58 = 58) : ∀ ts : List (List UInt8), (Lib.joinTail [58] ts).map κ = Lib.joinTail [58] (ts.map (List.map κ))
 | [] => rfl
 | t :: r => by
  have e : ∀ (y : List UInt8) r, Lib.joinTail [58] (y :: r) = 58 :: (y ++ Lib.joinTail [58] r) := fun y r => by simp [Lib.joinTail]
  rw [e, List.map_cons, List.map_append, map_tail κ h58 r, List.map_cons, e, h58]
theorem map_join (κ : UInt8 → UInt8) (h58 : κ 58 = 58) (ts : List (List UInt8)) : (Lib.join ts [58]).map κ = Lib.join (ts.map (List.map κ)) [58] := by
 cases ts with
 | nil => rfl
 | cons t r => rw [Lib.join_cons, List.map_append, map_tail κ h58, List.map_cons, Lib.join_cons]
theorem map_print (κ : UInt8 → UInt8) (h58 : κ 58 = 58) (f : Nat → Int) : (print6 f).map κ = printT (fun x => (hexD x).map κ) f := by
 unfold print6 printT joinT6 joinH
 split
 ·rw [map_join κ h58, List.map_map]; rfl
 ·rw [List.map_append, List.map_append, map_join κ h58, map_join κ h58, List.map_map, List.map_map]
  simp only [List.map_cons, List.map_nil, h58]
  rfl
theorem back6 (κ : UInt8 → UInt8) (h58 : κ 58 = 58) (hκ : ∀ k, k < 16 → hexV (κ (hexC k)) = some k) (f : Nat → Int) (hf : ∀ k, 0 ≤ f k ∧ f k ≤ 65535) : parse6 ((print6 f).map κ) = some (gl f) := by
 rw [map_print κ h58]
 exact parse_texts _ f (fun x hx => text_hex κ hκ x (gl_lt hf x hx))
theorem back6_id (f : Nat → Int) (hf : ∀ k, 0 ≤ f k ∧ f k ≤ 65535) : parse6 (print6 f) = some (gl f) := by
 have h := back6 id rfl (fun k hk => by
  have : ∀ k : Fin 16, hexV (id (hexC k)) = some (k : Nat) := by decide
  exact this ⟨k, hk⟩) f hf
 rwa [List.map_id] at h
/-! groups and numbers -/
theorem lf_gl (f : Nat → Int) (hf : ∀ k, 0 ≤ f k ∧ f k ≤ 65535) (i : Nat) (h : i < 8) : lf (gl f) i = f i := by
 unfold lf
 rw [List.getD, gl_get f i h]
 have := hf i
 simp
 omega
theorem ofN_congr {f g : Nat → Int} : ∀ j, (∀ i, i < j → f i = g i) → ofN f j = ofN g j
 | 0, _ => rfl
 | j + 1, h => by rw [ofN, ofN, ofN_congr j (fun i hi => h i (by omega)), h j (by omega)]
theorem ofN_grp (A : Int) : ofN (grp A) 8 = A % MM := by
 have h0 : 0 ≤ A % MM := Int.emod_nonneg _ (by decide)
 have h1 : A % MM < MM := Int.emod_lt_of_pos _ (by decide)
 have hM : MM = 340282366920938463463374607431768211456 := rfl
 have g0 : grp A 0 = A % MM / 5192296858534827628530496329220096 % 65536 := rfl
 have g1 : grp A 1 = A % MM / 79228162514264337593543950336 % 65536 := rfl
 have g2 : grp A 2 = A % MM / 1208925819614629174706176 % 65536 := rfl
 have g3 : grp A 3 = A % MM / 18446744073709551616 % 65536 := rfl
 have g4 : grp A 4 = A % MM / 281474976710656 % 65536 := rfl
 have g5 : grp A 5 = A % MM / 4294967296 % 65536 := rfl
 have g6 : grp A 6 = A % MM / 65536 % 65536 := rfl
 have g7 : grp A 7 = A % MM / 1 % 65536 := rfl
 simp only [ofN]
 rw [g0, g1, g2, g3, g4, g5, g6, g7]
 generalize A % MM = a at *
 omega
def hexK (n : Nat) : List UInt8 := if n < 16 then [hexC n] else if n < 256 then [hexC (n / 16), hexC (n % 16)] else if n < 4096 then [hexC (n / 256), hexC (n / 16 % 16), hexC (n % 16)] else [hexC (n / 4096), hexC (n / 256 % 16), hexC (n / 16 % 16), hexC (n % 16)]
def gA : List Nat := [0, 0, 0, 0, 0, 65535, 258, 772]
def gB : List Nat := [8193, 3512, 0, 0, 1, 0, 0, 1]
def nA : Int := ofN (lf gA) 8
def nB : Int := ofN (lf gB) 8
def gR : List Nat := [1, 0, 0, 2, 0, 0, 0, 3]
def DigRel16 (N n : Nat) (l : List UInt8) : Prop := (l = [] ∧ n = N) ∨ (l ≠ [] ∧ hexD N = (if n = 0 then [] else hexD n) ++ l)
theorem DigRel16.step {N n : Nat} {l : List UInt8} (h : DigRel16 N n l) (hc : 0 < n ∨ l = []) : DigRel16 N (n / 16) (hexC (n % 16) :: l) := by
 right
 refine ⟨by simp, ?_⟩
 have key : ∀ m : Nat, hexD m = (if m / 16 = 0 then [] else hexD (m / 16)) ++ [hexC (m % 16)] := by
  intro m
  by_cases hm : m < 16
  ·rw [if_pos (by omega), hexD_one m hm, Nat.mod_eq_of_lt hm]; rfl
  ·rw [if_neg (by omega)]; exact hexD_step m (by omega)
 rcases h with ⟨rfl, rfl⟩ | ⟨hl, h⟩
 ·exact key n
 ·have hn : 0 < n := by rcases hc with h | h; exact h; exact absurd h hl
  rw [h, if_neg (by omega), key n]
  simp
theorem DigRel16.done {N : Nat} {l : List UInt8} (h : DigRel16 N 0 l) (hl : l ≠ []) : l = hexD N := by
 rcases h with ⟨h, _⟩ | ⟨_, h⟩
 ·exact absurd h hl
 ·rw [h]; rfl
theorem dig_ext16 : ∀ k : Fin 16, (⟨#[48, 49, 50, 51, 52, 53, 54, 55, 56, 57, 97, 98, 99, 100, 101, 102]⟩ : ByteArray).extract k (k + 1) = ⟨#[hexC k]⟩ := by decide +kernel
theorem digits16_t (N : Nat) (hN : N ≤ 65535) (w : World) : Calls Tryz.prog 85 #[.int .u16 N] w fun e w' => e = .returned (.string ⟨(hexD N).toArray⟩) ∧ w = w' := by
 go_enter Tryz.func85, Tryz.ntmps85
 go_wp2_with fail
 go_loopw [0, 3] (fun a s wr => ∃ (n : Nat) (l : List UInt8), n ≤ N ∧ l.length + n ≤ N + 1 ∧ a = .int .u16 n ∧ s = .string ⟨l.toArray⟩ ∧ DigRel16 N n l ∧ wr = w) (fun a s _ => 2 * (intOf a).toNat + (1 - slen s))
 case atStart => exact ⟨N, [], Nat.le_refl _, by simp, rfl, rfl, .inl ⟨rfl, rfl⟩, rfl⟩
 case round =>
  obtain ⟨n, l, hn, hl, rfl, rfl, hrel, rfl⟩ := hrel
  have hk := dig_ext16 ⟨n % 16, Nat.mod_lt _ (by decide)⟩
  have hap := app_bs (hexC (n % 16)) l
  by_cases h0 : 0 < n
  ·have q1 : decide ((0 : Int) < (n : Int)) = true := by simp; omega
   have HR := Lib.hid (hrel.step (.inl h0))
   clear hrel
   go_wp2
   refine ⟨⟨n / 16, hexC (n % 16) :: l, by omega, by simp; omega, by go_num, ?_, HR.out, trivial⟩, ?_⟩
   ·rw [← hap]
   ·simp [intOf, slen, ByteArray.size]
    omega
  ·have hn0 : n = 0 := by omega
   subst hn0
   by_cases hl0 : l = []
   ·subst hl0
    have HR := Lib.hid (hrel.step (.inr rfl))
    clear hrel
    go_wp2
    refine ⟨⟨0, hexC (0 % 16) :: [], by omega, by simp, by go_num, ?_, HR.out, trivial⟩, ?_⟩
    ·first | rfl | (rw [← hap]; rfl) | (simp at hap ⊢)
    ·simp [intOf, slen, ByteArray.size]
   ·have hlb : (l == []) = false := by simpa using hl0
    have hle : l.isEmpty = false := by cases l with | nil => exact absurd rfl hl0 | cons _ _ => rfl
    have HD := Lib.hid (hrel.done hl0)
    clear hrel
    go_wp2
    go_ret
    exact ⟨by rw [← HD.out]; rfl, rfl⟩
def zB (f : Nat → Int) (a : Nat) : Nat → Bool
 | 0 => true
 | n + 1 => decide (a ≤ 7) && decide (f a = 0) && zB f (a + 1) n
theorem zeros_t (f : Nat → Int) (hf : ∀ k, 0 ≤ f k ∧ f k ≤ 65535) (a n : Nat) (ha : a ≤ 7) (hn : n ≤ 8) (w : World) : Calls Tryz.prog 121 #[arr8 f, .int .i64 a, .int .i64 n] w fun e w' => e = .returned (.bool (zB f a n)) ∧ Below w.heap.size w w' := by
 unfold arr8
 obtain ⟨z, hz⟩ : ∃ z, z = zB f a n := ⟨_, rfl⟩
 rw [← hz]
 go_enter Tryz.func121, Tryz.ntmps121
 go_wp2_with fail
 have Rg := Row.new w (cellsF f) 107
 have hb0 : Below w.heap.size w (w.alloc (.cells (cellsF f) 107)) := (Below.refl _ _).alloc (Nat.le_refl _) _
 unfold cellsF at Rg hb0
 generalize w.alloc (.cells #[.int .u16 (f 0), .int .u16 (f 1), .int .u16 (f 2), .int .u16 (f 3), .int .u16 (f 4), .int .u16 (f 5), .int .u16 (f 6), .int .u16 (f 7)] 107) = w0 at *
 have R1 : Row w0 w.heap.size (cellsF f) 107 := Rg
 have HR := Lib.hid R1
 have HB := Lib.hid hb0
 have HF := Lib.hid hf
 have HZ := Lib.hid hz
 clear Rg hb0 R1 hf hz
 go_loopw [7] (fun i wr => ∃ (p : Nat), a ≤ p ∧ p ≤ a + n ∧ i = .int .i64 (p : Nat) ∧ Hid (z = zB f p (a + n - p)) ∧ wr = w0) (fun i _ => 16 - (intOf i).toNat)
 case atStart => exact ⟨a, by omega, by omega, rfl, Lib.hid (by rw [show a + n - a = n by omega]; exact HZ.out), rfl⟩
 case round =>
  obtain ⟨p, hpa, hpn, rfl, hz, rfl⟩ := hrel
  clear HZ
  by_cases hlt : p < a + n
  ·obtain ⟨m, hm⟩ : ∃ m, a + n - p = m + 1 := ⟨a + n - p - 1, by omega⟩
   have hz2 : z = (decide (p ≤ 7) && decide (f p = 0) && zB f (p + 1) m) := by rw [hz.out, hm, zB]
   have HZ2 := Lib.hid hz2
   clear hz2 hz
   have q1 : (p : Int) < (a : Int) + (n : Int) := by omega
   by_cases h7 : p ≤ 7
   ·have h7' : ¬ (7 : Int) < (p : Int) := by omega
    have c0 := (HR.out.cell p).trans (cellsF_get f p (by omega))
    have f0 := HF.out p
    by_cases h0 : f p = 0
    ·have hz3 := HZ2.out
     rw [h0] at c0
     rw [decide_eq_true h7, decide_eq_true h0] at hz3
     have HZ3 := Lib.hid hz3
     clear hz3 f0 h0
     go_wp2
     refine ⟨⟨p + 1, by omega, by omega, by go_num, Lib.hid ?_, trivial⟩, by simp [intOf]; omega⟩
     rw [show a + n - (p + 1) = m by omega, HZ3.out]; rfl
    ·have hz3 : z = false := by have h := HZ2.out; rw [decide_eq_false h0, Bool.and_false, Bool.false_and] at h; exact h
     have h0b : (f p == 0) = false := by rw [beq_eq_false_iff_ne]; exact h0
     have h0n : (f p != 0) = true := by simpa using h0
     clear HZ2
     have HZ4 := Lib.hid hz3
     clear hz3
     go_wp2
     go_ret
     exact ⟨by rw [HZ4.out]; rfl, HB.out⟩
   ·have hz3 : z = false := by have h := HZ2.out; rw [decide_eq_false h7, Bool.false_and, Bool.false_and] at h; exact h
    have h7' : (7 : Int) < (p : Int) := by omega
    clear HZ2
    have HZ4 := Lib.hid hz3
    clear hz3
    go_wp2
    go_ret
    exact ⟨by rw [HZ4.out]; rfl, HB.out⟩
  ·have hz3 : z = true := by rw [hz.out, show a + n - p = 0 by omega]; rfl
   have q1 : ¬ (p : Int) < (a : Int) + (n : Int) := by omega
   clear hz
   have HZ4 := Lib.hid hz3
   clear hz3
   go_wp2
   go_ret
   exact ⟨by rw [HZ4.out]; rfl, HB.out⟩
def inR (f : Nat → Int) (n : Nat) : Nat → Option Nat
 | 0 => none
 | k + 1 => if zB f (8 - (k + 1)) n = true then some (8 - (k + 1)) else inR f n k
def outR (f : Nat → Int) : Nat → Nat × Nat
 | 0 => (0, 0)
 | 1 => (0, 0)
 | n + 2 => match inR f (n + 2) 8 with
  | some a => (a, n + 2)
  | none => outR f (n + 1)
theorem outR_step (f : Nat → Int) (n : Nat) (h : 1 < n) : outR f n = match inR f n 8 with
  | some a => (a, n)
  | none => outR f (n - 1) := by
 obtain ⟨m, rfl⟩ : ∃ m, n = m + 2 := ⟨n - 2, by omega⟩
 rw [outR]
 rfl
theorem rrun_t (f : Nat → Int) (hf : ∀ k, 0 ≤ f k ∧ f k ≤ 65535) (w : World) : Calls Tryz.prog 84 #[arr8 f] w fun e w' => e = .returned (.tuple #[.int .i64 (outR f 8).1, .int .i64 (outR f 8).2]) ∧ Below w.heap.size w w' := by
 unfold arr8
 obtain ⟨r, hr⟩ : ∃ r, r = outR f 8 := ⟨_, rfl⟩
 rw [← hr]
 go_enter Tryz.func84, Tryz.ntmps84
 go_wp2_with fail
 have Rg := Row.new w (cellsF f) 107
 have hb0 : Below w.heap.size w (w.alloc (.cells (cellsF f) 107)) := (Below.refl _ _).alloc (Nat.le_refl _) _
 unfold cellsF at Rg hb0
 generalize w.alloc (.cells #[.int .u16 (f 0), .int .u16 (f 1), .int .u16 (f 2), .int .u16 (f 3), .int .u16 (f 4), .int .u16 (f 5), .int .u16 (f 6), .int .u16 (f 7)] 107) = w0 at *
 have HR := Lib.hid Rg
 have HB := Lib.hid hb0
 have HF := Lib.hid hf
 have HRE := Lib.hid hr
 clear Rg hb0 hf hr
 go_loopw [4] (fun v wr => ∃ (n : Nat), 1 ≤ n ∧ n ≤ 8 ∧ v = .int .i64 (n : Nat) ∧ Hid (r = outR f n) ∧ Hid (Row wr w.heap.size #[.int .u16 (f 0), .int .u16 (f 1), .int .u16 (f 2), .int .u16 (f 3), .int .u16 (f 4), .int .u16 (f 5), .int .u16 (f 6), .int .u16 (f 7)] 107) ∧ Hid (Below w.heap.size w wr)) (fun v _ => (intOf v).toNat)
 case atStart => exact ⟨8, by omega, by omega, rfl, HRE, HR, HB⟩
 case round =>
  clear HRE HR HB
  obtain ⟨n, hn1, hn8, rfl, hre, HR, HB⟩ := hrel
  by_cases h1 : 1 < n
  ·have h1' : (1 : Int) < (n : Int) := by omega
   have hos := outR_step f n h1
   have HOS := Lib.hid hos
   clear hos
   go_wp2_with fail
   go_loopw [5] (fun v wq => ∃ (a : Nat), a ≤ 8 ∧ v = .int .i64 (a : Nat) ∧ Hid (inR f n 8 = inR f n (8 - a)) ∧ Hid (Row wq w.heap.size #[.int .u16 (f 0), .int .u16 (f 1), .int .u16 (f 2), .int .u16 (f 3), .int .u16 (f 4), .int .u16 (f 5), .int .u16 (f 6), .int .u16 (f 7)] 107) ∧ Hid (Below w.heap.size w wq)) (fun v _ => 8 - (intOf v).toNat)
   case atStart => exact ⟨0, by omega, rfl, Lib.hid rfl, HR, HB⟩
   case round =>
    clear HR HB
    obtain ⟨a, ha8, rfl, hin, HR, HB⟩ := hrel
    by_cases hlt : a < 8
    ·have hlt' : (a : Int) < 8 := by omega
     have c0 := (HR.out.cell 0).trans (show _ = some (Value.int .u16 (f 0)) from rfl)
     have c1 := (HR.out.cell 1).trans (show _ = some (Value.int .u16 (f 1)) from rfl)
     have c2 := (HR.out.cell 2).trans (show _ = some (Value.int .u16 (f 2)) from rfl)
     have c3 := (HR.out.cell 3).trans (show _ = some (Value.int .u16 (f 3)) from rfl)
     have c4 := (HR.out.cell 4).trans (show _ = some (Value.int .u16 (f 4)) from rfl)
     have c5 := (HR.out.cell 5).trans (show _ = some (Value.int .u16 (f 5)) from rfl)
     have c6 := (HR.out.cell 6).trans (show _ = some (Value.int .u16 (f 6)) from rfl)
     have c7 := (HR.out.cell 7).trans (show _ = some (Value.int .u16 (f 7)) from rfl)
     obtain ⟨k, hk⟩ : ∃ k, 8 - a = k + 1 := ⟨7 - a, by omega⟩
     have e8 : inR f n (k + 1) = if zB f (8 - (k + 1)) n = true then some (8 - (k + 1)) else inR f n k := rfl
     have hin2 := hin.out
     rw [hk, e8, show 8 - (k + 1) = a by omega] at hin2
     clear e8
     have HIN := Lib.hid hin2
     clear hin2 hin
     go_wp2_with fail
     refine (zeros_t f HF.out a n (by omega) (by omega) _).mono ?_
     rintro e w2 ⟨rfl, hb2⟩
     have HR2 := Lib.hid (HR.out.later hb2)
     have HB2 := Lib.hid (below_step HB.out hb2)
     clear HR HB hb2 c0 c1 c2 c3 c4 c5 c6 c7
     cases hz : zB f a n with
     | true =>
      have hres : r = (a, n) := by rw [hre.out, HOS.out, HIN.out, hz]; rfl
      subst hres
      go_wp2
      go_ret2
      exact ⟨rfl, HB2.out⟩
     | false =>
      have hin3 : inR f n 8 = inR f n k := by rw [HIN.out, hz]; rfl
      have HIN3 := Lib.hid hin3
      clear hin3
      go_wp2
      exact ⟨⟨a + 1, by omega, by go_num, by rw [show 8 - (a + 1) = k by omega]; exact HIN3, HR2, HB2⟩, by simp [intOf]; omega⟩
    ·have ha : a = 8 := by omega
     subst ha
     have hre2 : r = outR f (n - 1) := by
      rw [hre.out, HOS.out, hin.out]
      rfl
     have HRE2 := Lib.hid hre2
     clear hre2 hre hin
     go_wp2
     exact ⟨⟨n - 1, by omega, by omega, congrArg (Value.int .i64) (by omega), HRE2, HR, HB⟩, by simp [intOf]; omega⟩
  ·have hn : n = 1 := by omega
   subst hn
   have hres : r = (0, 0) := by rw [hre.out]; rfl
   subst hres
   clear hre
   go_wp2
   go_ret2
   exact ⟨rfl, HB.out⟩
/-! the two runs are the same -/
theorem zB_congr {f g : Nat → Int} (h : ∀ i, i < 8 → (f i = 0 ↔ g i = 0)) : ∀ n a, zB f a n = zB g a n
 | 0, _ => rfl
 | n + 1, a => by
  rw [zB, zB, zB_congr h n (a + 1)]
  by_cases ha : a ≤ 7
  ·rw [decide_eq_decide.2 (h a (by omega))]
  ·rw [decide_eq_false ha]; rfl
theorem inR_congr {f g : Nat → Int} (h : ∀ i, i < 8 → (f i = 0 ↔ g i = 0)) (n : Nat) : ∀ k, inR f n k = inR g n k
 | 0 => rfl
 | k + 1 => by rw [inR, inR, zB_congr h, inR_congr h n k]
theorem outR_congr {f g : Nat → Int} (h : ∀ i, i < 8 → (f i = 0 ↔ g i = 0)) : ∀ n, outR f n = outR g n
 | 0 => rfl
 | 1 => rfl
 | n + 2 => by rw [outR, outR, inR_congr h, outR_congr h (n + 1)]
theorem scan_zero {f g : Nat → Int} : ∀ j, (∀ i, i < j → (f i = 0 ↔ g i = 0)) → scan f j = scan g j
 | 0, _ => rfl
 | j + 1, h => by
  rw [scan, scan, scan_zero j (fun i hi => h i (by omega))]
  by_cases h0 : f j = 0
  ·rw [if_pos h0, if_pos ((h j (by omega)).1 h0)]
  ·rw [if_neg h0, if_neg (fun e => h0 ((h j (by omega)).2 e))]
def selB (b0 b1 b2 b3 b4 b5 b6 b7 : Bool) : Nat → Int
 | 0 => if b0 then 0 else 1
 | 1 => if b1 then 0 else 1
 | 2 => if b2 then 0 else 1
 | 3 => if b3 then 0 else 1
 | 4 => if b4 then 0 else 1
 | 5 => if b5 then 0 else 1
 | 6 => if b6 then 0 else 1
 | 7 => if b7 then 0 else 1
 | _ => 1
theorem run_all : ∀ b0 b1 b2 b3 b4 b5 b6 b7 : Bool, outR (selB b0 b1 b2 b3 b4 b5 b6 b7) 8 = runS (selB b0 b1 b2 b3 b4 b5 b6 b7) := by decide +kernel
theorem run_same (f : Nat → Int) : outR f 8 = runS f := by
 have h : ∀ i, i < 8 → (f i = 0 ↔ selB (decide (f 0 = 0)) (decide (f 1 = 0)) (decide (f 2 = 0)) (decide (f 3 = 0)) (decide (f 4 = 0)) (decide (f 5 = 0)) (decide (f 6 = 0)) (decide (f 7 = 0)) i = 0) := fun i hi => by
  have key : ∀ p : Prop, ∀ [Decidable p], (p ↔ (if decide p = true then (0 : Int) else 1) = 0) := fun p _ => by by_cases hp : p <;> simp [hp]
  rcases i with _ | _ | _ | _ | _ | _ | _ | _ | i
  ·exact key _
  ·exact key _
  ·exact key _
  ·exact key _
  ·exact key _
  ·exact key _
  ·exact key _
  ·exact key _
  ·omega
 unfold runS
 rw [outR_congr h, scan_zero 8 h, run_all]
 rfl
def cellsG (f : Nat → Int) (j : Nat) : Array Value := #[.int .u16 (if 3 < j then f 0 else 0), .int .u16 (if 2 < j then f 1 else 0), .int .u16 (if 1 < j then f 2 else 0), .int .u16 (if 0 < j then f 3 else 0), .int .u16 (if 3 < j then f 4 else 0), .int .u16 (if 2 < j then f 5 else 0), .int .u16 (if 1 < j then f 6 else 0), .int .u16 (if 0 < j then f 7 else 0)]
theorem grpH0 (A : Int) : grp A 3 = hi A / 1 % 65536 := by
 show A % MM / 18446744073709551616 % 65536 = _
 unfold hi MM
 omega
theorem grpL0 (A : Int) : grp A 7 = lo A / 1 % 65536 := by
 show A % MM / 1 % 65536 = _
 unfold lo MM
 omega
theorem grpH1 (A : Int) : grp A 2 = hi A / 65536 % 65536 := by
 show A % MM / 1208925819614629174706176 % 65536 = _
 unfold hi MM
 omega
theorem grpL1 (A : Int) : grp A 6 = lo A / 65536 % 65536 := by
 show A % MM / 65536 % 65536 = _
 unfold lo MM
 omega
theorem grpH2 (A : Int) : grp A 1 = hi A / 4294967296 % 65536 := by
 show A % MM / 79228162514264337593543950336 % 65536 = _
 unfold hi MM
 omega
theorem grpL2 (A : Int) : grp A 5 = lo A / 4294967296 % 65536 := by
 show A % MM / 4294967296 % 65536 = _
 unfold lo MM
 omega
theorem grpH3 (A : Int) : grp A 0 = hi A / 281474976710656 % 65536 := by
 show A % MM / 5192296858534827628530496329220096 % 65536 = _
 unfold hi MM
 omega
theorem grpL3 (A : Int) : grp A 4 = lo A / 281474976710656 % 65536 := by
 show A % MM / 281474976710656 % 65536 = _
 unfold lo MM
 omega
def pow16 : Nat → Int
 | 0 => 1
 | 1 => 65536
 | 2 => 4294967296
 | 3 => 281474976710656
 | _ => 18446744073709551616
theorem rgroups_t (A : Int) (w : World) : Calls Tryz.prog 83 #[.agg #[.int .u64 (hi A), .int .u64 (lo A)]] w fun e w' => e = .returned (arr8 (grp A)) ∧ Below w.heap.size w w' := by
 go_enter Tryz.func83, Tryz.ntmps83
 go_wp2_with fail
 have X0 : Row (((w.alloc (.cells #[.int .u64 (hi A), .int .u64 (lo A)] 75)).alloc (.cells zero8 107)).alloc (.cells zero8 107)) w.heap.size #[.int .u64 (hi A / 1), .int .u64 (lo A / 1)] 75 := by rw [Int.ediv_one, Int.ediv_one]; exact ((Row.new w _ _).alloc _).alloc _
 have Z0 : Row (((w.alloc (.cells #[.int .u64 (hi A), .int .u64 (lo A)] 75)).alloc (.cells zero8 107)).alloc (.cells zero8 107)) (w.heap.size + 1) zero8 107 := by simpa using (Row.new (w.alloc (.cells #[.int .u64 (hi A), .int .u64 (lo A)] 75)) zero8 107).alloc (.cells zero8 107)
 have G0 : Row (((w.alloc (.cells #[.int .u64 (hi A), .int .u64 (lo A)] 75)).alloc (.cells zero8 107)).alloc (.cells zero8 107)) (w.heap.size + 2) (cellsG (grp A) 0) 107 := by
  have h := Row.new ((w.alloc (.cells #[.int .u64 (hi A), .int .u64 (lo A)] 75)).alloc (.cells zero8 107)) zero8 107
  rw [show ((w.alloc (.cells #[.int .u64 (hi A), .int .u64 (lo A)] 75)).alloc (.cells zero8 107)).heap.size = w.heap.size + 2 by simp] at h
  exact h
 have hb0 : Below w.heap.size w (((w.alloc (.cells #[.int .u64 (hi A), .int .u64 (lo A)] 75)).alloc (.cells zero8 107)).alloc (.cells zero8 107)) := (by repeat (first | exact Below.refl _ _ | assumption | (with_reducible refine Below.drew ?_) | ((with_reducible first | refine Below.setCell ?_ ?h _ | refine Below.alloc ?_ ?h _ | refine Below.trans ?_ (hb2.mono ?h) | refine Below.trans ?_ (hb.mono ?h) | refine Below.trans ?_ (hb0.mono ?h)); case h => first | omega | (simp; done) | (simp; omega))))
 unfold zero8 at X0 Z0 G0 hb0
 generalize ((w.alloc (.cells #[.int .u64 (hi A), .int .u64 (lo A)] 75)).alloc (.cells #[.int .u16 0, .int .u16 0, .int .u16 0, .int .u16 0, .int .u16 0, .int .u16 0, .int .u16 0, .int .u16 0] 107)).alloc (.cells #[.int .u16 0, .int .u16 0, .int .u16 0, .int .u16 0, .int .u16 0, .int .u16 0, .int .u16 0, .int .u16 0] 107) = w0 at *
 go_loopw [4] (fun i wr => ∃ (j : Nat), j ≤ 4 ∧ i = .int .i64 j ∧ Row wr w.heap.size #[.int .u64 (hi A / pow16 j), .int .u64 (lo A / pow16 j)] 75 ∧ Row wr (w.heap.size + 1) zero8 107 ∧ Row wr (w.heap.size + 2) (cellsG (grp A) j) 107 ∧ Below w.heap.size w wr) (fun i _ => 4 - (intOf i).toNat)
 case atStart => exact ⟨0, by omega, rfl, X0, Z0, G0, hb0⟩
 case round =>
  clear X0 Z0 G0 hb0
  obtain ⟨j, hj, rfl, X, Z, G, hb⟩ := hrel
  rcases j with _ | _ | _ | _ | _ | j
  ·replace X : Row wr w.heap.size #[.int .u64 (hi A / 1), .int .u64 (lo A / 1)] 75 := X
   replace G : Row wr (w.heap.size + 2) (cellsG (grp A) 0) 107 := G
   have x0 := (X.cell 0).trans (show _ = some (Value.int .u64 (hi A / 1)) from rfl)
   have x1 := (X.cell 1).trans (show _ = some (Value.int .u64 (lo A / 1)) from rfl)
   have xf0 := X.frozen 0
   have xf1 := X.frozen 1
   have g0 := (G.cell 3).trans (show _ = some (Value.int .u16 0) from rfl)
   have g1 := (G.cell 7).trans (show _ = some (Value.int .u16 0) from rfl)
   have gf0 := G.frozen 3
   have gf1 := G.frozen 7
   have hwh := word_hi A
   have hwl := word_lo A
   have HG1 : Hid (grp A 3 = hi A / 1 % 65536) := Lib.hid (grpH0 A)
   have HG2 : Hid (grp A 7 = lo A / 1 % 65536) := Lib.hid (grpL0 A)
   have hrx : 0 ≤ hi A / 1 ∧ hi A / 1 < 18446744073709551616 := by unfold Word at hwh; omega
   have hry : 0 ≤ lo A / 1 ∧ lo A / 1 < 18446744073709551616 := by unfold Word at hwl; omega
   have HX1 : Hid (hi A / 1 / 65536 = hi A / 65536) := Lib.hid (by rw [Int.ediv_ediv_of_nonneg (by decide)]; rfl)
   have HY1 : Hid (lo A / 1 / 65536 = lo A / 65536) := Lib.hid (by rw [Int.ediv_ediv_of_nonneg (by decide)]; rfl)
   have HX := Lib.hid X
   have HZ := Lib.hid Z
   have HG := Lib.hid G
   have HB := Lib.hid hb
   clear X Z G hb hwh hwl
   generalize hi A / 1 = x at *
   generalize lo A / 1 = y at *
   obtain ⟨rx0, rx1⟩ := hrx
   obtain ⟨ry0, ry1⟩ := hry
   have wx : IntKind.u16.wrap (x % 65536) = x % 65536 := by simp [IntKind.wrap, IntKind.bits, IntKind.signed]
   have wy : IntKind.u16.wrap (y % 65536) = y % 65536 := by simp [IntKind.wrap, IntKind.bits, IntKind.signed]
   go_wp2_with fail
   go_region
   have X2 := ((HX.out.set_far ⟨w.heap.size + 2, 3, none⟩ (.int .u16 (x % 65536)) (by dsimp only; omega)).set_far ⟨w.heap.size + 2, 7, none⟩ (.int .u16 (y % 65536)) (by dsimp only; omega)).drew
   have Z2 := ((HZ.out.set_far ⟨w.heap.size + 2, 3, none⟩ (.int .u16 (x % 65536)) (by dsimp only; omega)).set_far ⟨w.heap.size + 2, 7, none⟩ (.int .u16 (y % 65536)) (by dsimp only; omega)).drew
   have G2 := ((HG.out.set 3 (.int .u16 (x % 65536))).set 7 (.int .u16 (y % 65536))).drew
   have hb2 := ((HB.out.setCell (p := ⟨w.heap.size + 2, 3, none⟩) (by dsimp only; omega) (.int .u16 (x % 65536))).setCell (p := ⟨w.heap.size + 2, 7, none⟩) (by dsimp only; omega) (.int .u16 (y % 65536))).drew
   rw [← HG1.out, ← HG2.out, show ((cellsG (grp A) 0).setIfInBounds 3 (.int .u16 (grp A 3))).setIfInBounds 7 (.int .u16 (grp A 7)) = cellsG (grp A) 1 from rfl, HG1.out, HG2.out] at G2
   generalize ((wr.setCell ⟨w.heap.size + 2, 3, none⟩ (.int .u16 (x % 65536))).setCell ⟨w.heap.size + 2, 7, none⟩ (.int .u16 (y % 65536))).drew = w2 at *
   have x0 := (X2.cell 0).trans (show _ = some (Value.int .u64 x) from rfl)
   have x1 := (X2.cell 1).trans (show _ = some (Value.int .u64 y) from rfl)
   have xf0 := X2.frozen 0
   have xf1 := X2.frozen 1
   have HX2 := Lib.hid X2
   have HZ2 := Lib.hid Z2
   have HG3 := Lib.hid G2
   have HB2 := Lib.hid hb2
   clear X2 Z2 G2 hb2 HX HZ HG HB g0 g1 gf0 gf1
   go_wp2
   refine ⟨⟨1, by omega, by go_num, ?_, (HZ2.out.set_far _ _ (by dsimp only; omega)).set_far _ _ (by dsimp only; omega), (HG3.out.set_far _ _ (by dsimp only; omega)).set_far _ _ (by dsimp only; omega), (HB2.out.setCell (by dsimp only; omega) _).setCell (by dsimp only; omega) _⟩, by simp [intOf]⟩
   have h := (HX2.out.set 0 (.int .u64 (x / 65536))).set 1 (.int .u64 (y / 65536))
   show Row _ _ #[.int .u64 (hi A / 65536), .int .u64 (lo A / 65536)] _
   rw [← HX1.out, ← HY1.out]
   simpa using h
  ·replace X : Row wr w.heap.size #[.int .u64 (hi A / 65536), .int .u64 (lo A / 65536)] 75 := X
   replace G : Row wr (w.heap.size + 2) (cellsG (grp A) 1) 107 := G
   have x0 := (X.cell 0).trans (show _ = some (Value.int .u64 (hi A / 65536)) from rfl)
   have x1 := (X.cell 1).trans (show _ = some (Value.int .u64 (lo A / 65536)) from rfl)
   have xf0 := X.frozen 0
   have xf1 := X.frozen 1
   have g0 := (G.cell 2).trans (show _ = some (Value.int .u16 0) from rfl)
   have g1 := (G.cell 6).trans (show _ = some (Value.int .u16 0) from rfl)
   have gf0 := G.frozen 2
   have gf1 := G.frozen 6
   have hwh := word_hi A
   have hwl := word_lo A
   have HG1 : Hid (grp A 2 = hi A / 65536 % 65536) := Lib.hid (grpH1 A)
   have HG2 : Hid (grp A 6 = lo A / 65536 % 65536) := Lib.hid (grpL1 A)
   have hrx : 0 ≤ hi A / 65536 ∧ hi A / 65536 < 18446744073709551616 := by unfold Word at hwh; omega
   have hry : 0 ≤ lo A / 65536 ∧ lo A / 65536 < 18446744073709551616 := by unfold Word at hwl; omega
   have HX1 : Hid (hi A / 65536 / 65536 = hi A / 4294967296) := Lib.hid (by rw [Int.ediv_ediv_of_nonneg (by decide)]; rfl)
   have HY1 : Hid (lo A / 65536 / 65536 = lo A / 4294967296) := Lib.hid (by rw [Int.ediv_ediv_of_nonneg (by decide)]; rfl)
   have HX := Lib.hid X
   have HZ := Lib.hid Z
   have HG := Lib.hid G
   have HB := Lib.hid hb
   clear X Z G hb hwh hwl
   generalize hi A / 65536 = x at *
   generalize lo A / 65536 = y at *
   obtain ⟨rx0, rx1⟩ := hrx
   obtain ⟨ry0, ry1⟩ := hry
   have wx : IntKind.u16.wrap (x % 65536) = x % 65536 := by simp [IntKind.wrap, IntKind.bits, IntKind.signed]
   have wy : IntKind.u16.wrap (y % 65536) = y % 65536 := by simp [IntKind.wrap, IntKind.bits, IntKind.signed]
   go_wp2_with fail
   go_region
   have X2 := ((HX.out.set_far ⟨w.heap.size + 2, 2, none⟩ (.int .u16 (x % 65536)) (by dsimp only; omega)).set_far ⟨w.heap.size + 2, 6, none⟩ (.int .u16 (y % 65536)) (by dsimp only; omega)).drew
   have Z2 := ((HZ.out.set_far ⟨w.heap.size + 2, 2, none⟩ (.int .u16 (x % 65536)) (by dsimp only; omega)).set_far ⟨w.heap.size + 2, 6, none⟩ (.int .u16 (y % 65536)) (by dsimp only; omega)).drew
   have G2 := ((HG.out.set 2 (.int .u16 (x % 65536))).set 6 (.int .u16 (y % 65536))).drew
   have hb2 := ((HB.out.setCell (p := ⟨w.heap.size + 2, 2, none⟩) (by dsimp only; omega) (.int .u16 (x % 65536))).setCell (p := ⟨w.heap.size + 2, 6, none⟩) (by dsimp only; omega) (.int .u16 (y % 65536))).drew
   rw [← HG1.out, ← HG2.out, show ((cellsG (grp A) 1).setIfInBounds 2 (.int .u16 (grp A 2))).setIfInBounds 6 (.int .u16 (grp A 6)) = cellsG (grp A) 2 from rfl, HG1.out, HG2.out] at G2
   generalize ((wr.setCell ⟨w.heap.size + 2, 2, none⟩ (.int .u16 (x % 65536))).setCell ⟨w.heap.size + 2, 6, none⟩ (.int .u16 (y % 65536))).drew = w2 at *
   have x0 := (X2.cell 0).trans (show _ = some (Value.int .u64 x) from rfl)
   have x1 := (X2.cell 1).trans (show _ = some (Value.int .u64 y) from rfl)
   have xf0 := X2.frozen 0
   have xf1 := X2.frozen 1
   have HX2 := Lib.hid X2
   have HZ2 := Lib.hid Z2
   have HG3 := Lib.hid G2
   have HB2 := Lib.hid hb2
   clear X2 Z2 G2 hb2 HX HZ HG HB g0 g1 gf0 gf1
   go_wp2
   refine ⟨⟨2, by omega, by go_num, ?_, (HZ2.out.set_far _ _ (by dsimp only; omega)).set_far _ _ (by dsimp only; omega), (HG3.out.set_far _ _ (by dsimp only; omega)).set_far _ _ (by dsimp only; omega), (HB2.out.setCell (by dsimp only; omega) _).setCell (by dsimp only; omega) _⟩, by simp [intOf]⟩
   have h := (HX2.out.set 0 (.int .u64 (x / 65536))).set 1 (.int .u64 (y / 65536))
   show Row _ _ #[.int .u64 (hi A / 4294967296), .int .u64 (lo A / 4294967296)] _
   rw [← HX1.out, ← HY1.out]
   simpa using h
  ·replace X : Row wr w.heap.size #[.int .u64 (hi A / 4294967296), .int .u64 (lo A / 4294967296)] 75 := X
   replace G : Row wr (w.heap.size + 2) (cellsG (grp A) 2) 107 := G
   have x0 := (X.cell 0).trans (show _ = some (Value.int .u64 (hi A / 4294967296)) from rfl)
   have x1 := (X.cell 1).trans (show _ = some (Value.int .u64 (lo A / 4294967296)) from rfl)
   have xf0 := X.frozen 0
   have xf1 := X.frozen 1
   have g0 := (G.cell 1).trans (show _ = some (Value.int .u16 0) from rfl)
   have g1 := (G.cell 5).trans (show _ = some (Value.int .u16 0) from rfl)
   have gf0 := G.frozen 1
   have gf1 := G.frozen 5
   have hwh := word_hi A
   have hwl := word_lo A
   have HG1 : Hid (grp A 1 = hi A / 4294967296 % 65536) := Lib.hid (grpH2 A)
   have HG2 : Hid (grp A 5 = lo A / 4294967296 % 65536) := Lib.hid (grpL2 A)
   have hrx : 0 ≤ hi A / 4294967296 ∧ hi A / 4294967296 < 18446744073709551616 := by unfold Word at hwh; omega
   have hry : 0 ≤ lo A / 4294967296 ∧ lo A / 4294967296 < 18446744073709551616 := by unfold Word at hwl; omega
   have HX1 : Hid (hi A / 4294967296 / 65536 = hi A / 281474976710656) := Lib.hid (by rw [Int.ediv_ediv_of_nonneg (by decide)]; rfl)
   have HY1 : Hid (lo A / 4294967296 / 65536 = lo A / 281474976710656) := Lib.hid (by rw [Int.ediv_ediv_of_nonneg (by decide)]; rfl)
   have HX := Lib.hid X
   have HZ := Lib.hid Z
   have HG := Lib.hid G
   have HB := Lib.hid hb
   clear X Z G hb hwh hwl
   generalize hi A / 4294967296 = x at *
   generalize lo A / 4294967296 = y at *
   obtain ⟨rx0, rx1⟩ := hrx
   obtain ⟨ry0, ry1⟩ := hry
   have wx : IntKind.u16.wrap (x % 65536) = x % 65536 := by simp [IntKind.wrap, IntKind.bits, IntKind.signed]
   have wy : IntKind.u16.wrap (y % 65536) = y % 65536 := by simp [IntKind.wrap, IntKind.bits, IntKind.signed]
   go_wp2_with fail
   go_region
   have X2 := ((HX.out.set_far ⟨w.heap.size + 2, 1, none⟩ (.int .u16 (x % 65536)) (by dsimp only; omega)).set_far ⟨w.heap.size + 2, 5, none⟩ (.int .u16 (y % 65536)) (by dsimp only; omega)).drew
   have Z2 := ((HZ.out.set_far ⟨w.heap.size + 2, 1, none⟩ (.int .u16 (x % 65536)) (by dsimp only; omega)).set_far ⟨w.heap.size + 2, 5, none⟩ (.int .u16 (y % 65536)) (by dsimp only; omega)).drew
   have G2 := ((HG.out.set 1 (.int .u16 (x % 65536))).set 5 (.int .u16 (y % 65536))).drew
   have hb2 := ((HB.out.setCell (p := ⟨w.heap.size + 2, 1, none⟩) (by dsimp only; omega) (.int .u16 (x % 65536))).setCell (p := ⟨w.heap.size + 2, 5, none⟩) (by dsimp only; omega) (.int .u16 (y % 65536))).drew
   rw [← HG1.out, ← HG2.out, show ((cellsG (grp A) 2).setIfInBounds 1 (.int .u16 (grp A 1))).setIfInBounds 5 (.int .u16 (grp A 5)) = cellsG (grp A) 3 from rfl, HG1.out, HG2.out] at G2
   generalize ((wr.setCell ⟨w.heap.size + 2, 1, none⟩ (.int .u16 (x % 65536))).setCell ⟨w.heap.size + 2, 5, none⟩ (.int .u16 (y % 65536))).drew = w2 at *
   have x0 := (X2.cell 0).trans (show _ = some (Value.int .u64 x) from rfl)
   have x1 := (X2.cell 1).trans (show _ = some (Value.int .u64 y) from rfl)
   have xf0 := X2.frozen 0
   have xf1 := X2.frozen 1
   have HX2 := Lib.hid X2
   have HZ2 := Lib.hid Z2
   have HG3 := Lib.hid G2
   have HB2 := Lib.hid hb2
   clear X2 Z2 G2 hb2 HX HZ HG HB g0 g1 gf0 gf1
   go_wp2
   refine ⟨⟨3, by omega, by go_num, ?_, (HZ2.out.set_far _ _ (by dsimp only; omega)).set_far _ _ (by dsimp only; omega), (HG3.out.set_far _ _ (by dsimp only; omega)).set_far _ _ (by dsimp only; omega), (HB2.out.setCell (by dsimp only; omega) _).setCell (by dsimp only; omega) _⟩, by simp [intOf]⟩
   have h := (HX2.out.set 0 (.int .u64 (x / 65536))).set 1 (.int .u64 (y / 65536))
   show Row _ _ #[.int .u64 (hi A / 281474976710656), .int .u64 (lo A / 281474976710656)] _
   rw [← HX1.out, ← HY1.out]
   simpa using h
  ·replace X : Row wr w.heap.size #[.int .u64 (hi A / 281474976710656), .int .u64 (lo A / 281474976710656)] 75 := X
   replace G : Row wr (w.heap.size + 2) (cellsG (grp A) 3) 107 := G
   have x0 := (X.cell 0).trans (show _ = some (Value.int .u64 (hi A / 281474976710656)) from rfl)
   have x1 := (X.cell 1).trans (show _ = some (Value.int .u64 (lo A / 281474976710656)) from rfl)
   have xf0 := X.frozen 0
   have xf1 := X.frozen 1
   have g0 := (G.cell 0).trans (show _ = some (Value.int .u16 0) from rfl)
   have g1 := (G.cell 4).trans (show _ = some (Value.int .u16 0) from rfl)
   have gf0 := G.frozen 0
   have gf1 := G.frozen 4
   have hwh := word_hi A
   have hwl := word_lo A
   have HG1 : Hid (grp A 0 = hi A / 281474976710656 % 65536) := Lib.hid (grpH3 A)
   have HG2 : Hid (grp A 4 = lo A / 281474976710656 % 65536) := Lib.hid (grpL3 A)
   have hrx : 0 ≤ hi A / 281474976710656 ∧ hi A / 281474976710656 < 18446744073709551616 := by unfold Word at hwh; omega
   have hry : 0 ≤ lo A / 281474976710656 ∧ lo A / 281474976710656 < 18446744073709551616 := by unfold Word at hwl; omega
   have HX1 : Hid (hi A / 281474976710656 / 65536 = hi A / 18446744073709551616) := Lib.hid (by rw [Int.ediv_ediv_of_nonneg (by decide)]; rfl)
   have HY1 : Hid (lo A / 281474976710656 / 65536 = lo A / 18446744073709551616) := Lib.hid (by rw [Int.ediv_ediv_of_nonneg (by decide)]; rfl)
   have HX := Lib.hid X
   have HZ := Lib.hid Z
   have HG := Lib.hid G
   have HB := Lib.hid hb
   clear X Z G hb hwh hwl
   generalize hi A / 281474976710656 = x at *
   generalize lo A / 281474976710656 = y at *
   obtain ⟨rx0, rx1⟩ := hrx
   obtain ⟨ry0, ry1⟩ := hry
   have wx : IntKind.u16.wrap (x % 65536) = x % 65536 := by simp [IntKind.wrap, IntKind.bits, IntKind.signed]
   have wy : IntKind.u16.wrap (y % 65536) = y % 65536 := by simp [IntKind.wrap, IntKind.bits, IntKind.signed]
   go_wp2_with fail
   go_region
   have X2 := ((HX.out.set_far ⟨w.heap.size + 2, 0, none⟩ (.int .u16 (x % 65536)) (by dsimp only; omega)).set_far ⟨w.heap.size + 2, 4, none⟩ (.int .u16 (y % 65536)) (by dsimp only; omega)).drew
   have Z2 := ((HZ.out.set_far ⟨w.heap.size + 2, 0, none⟩ (.int .u16 (x % 65536)) (by dsimp only; omega)).set_far ⟨w.heap.size + 2, 4, none⟩ (.int .u16 (y % 65536)) (by dsimp only; omega)).drew
   have G2 := ((HG.out.set 0 (.int .u16 (x % 65536))).set 4 (.int .u16 (y % 65536))).drew
   have hb2 := ((HB.out.setCell (p := ⟨w.heap.size + 2, 0, none⟩) (by dsimp only; omega) (.int .u16 (x % 65536))).setCell (p := ⟨w.heap.size + 2, 4, none⟩) (by dsimp only; omega) (.int .u16 (y % 65536))).drew
   rw [← HG1.out, ← HG2.out, show ((cellsG (grp A) 3).setIfInBounds 0 (.int .u16 (grp A 0))).setIfInBounds 4 (.int .u16 (grp A 4)) = cellsG (grp A) 4 from rfl, HG1.out, HG2.out] at G2
   generalize ((wr.setCell ⟨w.heap.size + 2, 0, none⟩ (.int .u16 (x % 65536))).setCell ⟨w.heap.size + 2, 4, none⟩ (.int .u16 (y % 65536))).drew = w2 at *
   have x0 := (X2.cell 0).trans (show _ = some (Value.int .u64 x) from rfl)
   have x1 := (X2.cell 1).trans (show _ = some (Value.int .u64 y) from rfl)
   have xf0 := X2.frozen 0
   have xf1 := X2.frozen 1
   have HX2 := Lib.hid X2
   have HZ2 := Lib.hid Z2
   have HG3 := Lib.hid G2
   have HB2 := Lib.hid hb2
   clear X2 Z2 G2 hb2 HX HZ HG HB g0 g1 gf0 gf1
   go_wp2
   refine ⟨⟨4, by omega, by go_num, ?_, (HZ2.out.set_far _ _ (by dsimp only; omega)).set_far _ _ (by dsimp only; omega), (HG3.out.set_far _ _ (by dsimp only; omega)).set_far _ _ (by dsimp only; omega), (HB2.out.setCell (by dsimp only; omega) _).setCell (by dsimp only; omega) _⟩, by simp [intOf]⟩
   have h := (HX2.out.set 0 (.int .u64 (x / 65536))).set 1 (.int .u64 (y / 65536))
   show Row _ _ #[.int .u64 (hi A / 18446744073709551616), .int .u64 (lo A / 18446744073709551616)] _
   rw [← HX1.out, ← HY1.out]
   simpa using h
  ·have G' : Row wr (w.heap.size + 2) #[.int .u16 (grp A 0), .int .u16 (grp A 1), .int .u16 (grp A 2), .int .u16 (grp A 3), .int .u16 (grp A 4), .int .u16 (grp A 5), .int .u16 (grp A 6), .int .u16 (grp A 7)] 107 := G
   have c0 := (G'.cell 0).trans (show _ = some (Value.int .u16 (grp A 0)) from rfl)
   have z0 := (Z.cell 0).trans (show _ = some (Value.int .u16 0) from rfl)
   have f0 := Z.frozen 0
   have c1 := (G'.cell 1).trans (show _ = some (Value.int .u16 (grp A 1)) from rfl)
   have z1 := (Z.cell 1).trans (show _ = some (Value.int .u16 0) from rfl)
   have f1 := Z.frozen 1
   have c2 := (G'.cell 2).trans (show _ = some (Value.int .u16 (grp A 2)) from rfl)
   have z2 := (Z.cell 2).trans (show _ = some (Value.int .u16 0) from rfl)
   have f2 := Z.frozen 2
   have c3 := (G'.cell 3).trans (show _ = some (Value.int .u16 (grp A 3)) from rfl)
   have z3 := (Z.cell 3).trans (show _ = some (Value.int .u16 0) from rfl)
   have f3 := Z.frozen 3
   have c4 := (G'.cell 4).trans (show _ = some (Value.int .u16 (grp A 4)) from rfl)
   have z4 := (Z.cell 4).trans (show _ = some (Value.int .u16 0) from rfl)
   have f4 := Z.frozen 4
   have c5 := (G'.cell 5).trans (show _ = some (Value.int .u16 (grp A 5)) from rfl)
   have z5 := (Z.cell 5).trans (show _ = some (Value.int .u16 0) from rfl)
   have f5 := Z.frozen 5
   have c6 := (G'.cell 6).trans (show _ = some (Value.int .u16 (grp A 6)) from rfl)
   have z6 := (Z.cell 6).trans (show _ = some (Value.int .u16 0) from rfl)
   have f6 := Z.frozen 6
   have c7 := (G'.cell 7).trans (show _ = some (Value.int .u16 (grp A 7)) from rfl)
   have z7 := (Z.cell 7).trans (show _ = some (Value.int .u16 0) from rfl)
   have f7 := Z.frozen 7
   have HB := Lib.hid hb
   have HZ := Lib.hid Z
   clear X Z G G' hb
   go_wp2
   have Q := Row.set8 (f := fun _ => 0) HZ.out (.int .u16 (grp A 0)) (.int .u16 (grp A 1)) (.int .u16 (grp A 2)) (.int .u16 (grp A 3)) (.int .u16 (grp A 4)) (.int .u16 (grp A 5)) (.int .u16 (grp A 6)) (.int .u16 (grp A 7))
   have hbf := below8 (g := w.heap.size + 1) HB.out (by omega) (.int .u16 (grp A 0)) (.int .u16 (grp A 1)) (.int .u16 (grp A 2)) (.int .u16 (grp A 3)) (.int .u16 (grp A 4)) (.int .u16 (grp A 5)) (.int .u16 (grp A 6)) (.int .u16 (grp A 7))
   have s0 := (Q.cell 0).trans (show _ = some (Value.int .u16 (grp A 0)) from rfl)
   have s1 := (Q.cell 1).trans (show _ = some (Value.int .u16 (grp A 1)) from rfl)
   have s2 := (Q.cell 2).trans (show _ = some (Value.int .u16 (grp A 2)) from rfl)
   have s3 := (Q.cell 3).trans (show _ = some (Value.int .u16 (grp A 3)) from rfl)
   have s4 := (Q.cell 4).trans (show _ = some (Value.int .u16 (grp A 4)) from rfl)
   have s5 := (Q.cell 5).trans (show _ = some (Value.int .u16 (grp A 5)) from rfl)
   have s6 := (Q.cell 6).trans (show _ = some (Value.int .u16 (grp A 6)) from rfl)
   have s7 := (Q.cell 7).trans (show _ = some (Value.int .u16 (grp A 7)) from rfl)
   clear c0 z0 f0 c1 z1 f1 c2 z2 f2 c3 z3 f3 c4 z4 f4 c5 z5 f5 c6 z6 f6 c7 z7 f7 Q
   have HBF := Lib.hid hbf
   clear hbf HZ HB
   generalize ((((((((wr.setCell ⟨w.heap.size + 1, 0, none⟩ (.int .u16 (grp A 0))).setCell ⟨w.heap.size + 1, 1, none⟩ (.int .u16 (grp A 1))).setCell ⟨w.heap.size + 1, 2, none⟩ (.int .u16 (grp A 2))).setCell ⟨w.heap.size + 1, 3, none⟩ (.int .u16 (grp A 3))).setCell ⟨w.heap.size + 1, 4, none⟩ (.int .u16 (grp A 4))).setCell ⟨w.heap.size + 1, 5, none⟩ (.int .u16 (grp A 5))).setCell ⟨w.heap.size + 1, 6, none⟩ (.int .u16 (grp A 6))).setCell ⟨w.heap.size + 1, 7, none⟩ (.int .u16 (grp A 7))) = wF at *
   exact bodyPost_ret (v := arr8 (grp A)) (by simp only [results, Tryz.results83]; simp [go_sem, s0, s1, s2, s3, s4, s5, s6, s7, arr8]) rfl ⟨rfl, HBF.out⟩
  ·omega
structure Mc where
 n : Nat
 a : Nat
 p : Nat
 k : Nat
def mstep (s : Mc) (c : UInt8) : Option Mc :=
 if c.toNat = 46 then (if s.k = 0 then none else some ⟨0, (256 * s.a + s.n) % 4294967296, s.p + 1, 0⟩)
 else if c.toNat < 48 ∨ 57 < c.toNat ∨ (0 < s.k ∧ s.n = 0) ∨ 2 < s.k ∨ 3 < s.p then none
 else if 255 < 10 * s.n + (c.toNat - 48) then none else some ⟨10 * s.n + (c.toNat - 48), s.a, s.p, s.k + 1⟩
def mrun : Mc → List UInt8 → Option Mc
 | s, [] => some s
 | s, c :: l => (mstep s c).bind fun s' => mrun s' l
def mEnd (s : Mc) : Option Nat := if s.p ≠ 3 ∨ s.k = 0 then none else some ((256 * s.a + s.n) % 4294967296)
def mach (l : List UInt8) : Option Nat := (mrun ⟨0, 0, 0, 0⟩ l).bind mEnd
theorem mrun_app (x y : List UInt8) : ∀ s, mrun s (x ++ y) = (mrun s x).bind fun s' => mrun s' y := by
 induction x with
 | nil => intro s; rfl
 | cons c x ih =>
  intro s
  rw [List.cons_append, mrun, mrun]
  cases h : mstep s c with
  | none => rfl
  | some s' => simp [ih]
theorem dig_toNat (d : Nat) (h : d < 10) : (UInt8.ofNat (48 + d)).toNat = 48 + d := by
 have : ∀ d : Fin 10, (UInt8.ofNat (48 + d)).toNat = 48 + d := by decide
 exact this ⟨d, h⟩
theorem mstep_dig (s : Mc) (d : Nat) (h : d < 10) (h1 : s.k = 0 ∨ s.n ≠ 0) (h2 : s.k ≤ 2) (h3 : s.p ≤ 3) (h4 : 10 * s.n + d ≤ 255) : mstep s (UInt8.ofNat (48 + d)) = some ⟨10 * s.n + d, s.a, s.p, s.k + 1⟩ := by
 have e := dig_toNat d h
 unfold mstep
 rw [e, if_neg (by omega), if_neg (by omega), if_neg (by omega), show 10 * s.n + (48 + d - 48) = 10 * s.n + d by omega]
theorem mstep_dot (s : Mc) (h : s.k ≠ 0) : mstep s 46 = some ⟨0, (256 * s.a + s.n) % 4294967296, s.p + 1, 0⟩ := by
 unfold mstep; rw [if_pos (by decide), if_neg h]
theorem dec_len2 : ∀ b : Fin 26, (Lib.decDigits b).length ≤ 2 := by decide +kernel
theorem dec_ne (b : Nat) : (Lib.decDigits b).length ≠ 0 := by
 rw [Lib.decDigits]; split <;> simp
theorem mrun_dec (a p : Nat) (hp : p ≤ 3) : ∀ (b : Nat), b ≤ 255 → mrun ⟨0, a, p, 0⟩ (Lib.decDigits b) = some ⟨b, a, p, (Lib.decDigits b).length⟩ := by
 have small : ∀ b : Nat, b < 10 → mrun ⟨0, a, p, 0⟩ (Lib.decDigits b) = some ⟨b, a, p, (Lib.decDigits b).length⟩ := by
  intro b h
  rw [dec_one b h, Nat.mod_eq_of_lt h]
  show (mstep _ _).bind _ = _
  rw [mstep_dig _ b h (.inl rfl) (by show (0 : Nat) ≤ 2; omega) hp (by show 10 * 0 + b ≤ 255; omega)]
  simp [mrun]
 have mid : ∀ b : Nat, b < 26 → mrun ⟨0, a, p, 0⟩ (Lib.decDigits b) = some ⟨b, a, p, (Lib.decDigits b).length⟩ := by
  intro b h
  by_cases h1 : b < 10
  ·exact small b h1
  ·rw [dec_step b (by omega), mrun_app, small (b / 10) (by omega)]
   have hl : (Lib.decDigits (b / 10)).length ≤ 2 := dec_len2 ⟨b / 10, by omega⟩
   show (mstep _ _).bind _ = _
   rw [mstep_dig _ (b % 10) (by omega) (.inr (by show b / 10 ≠ 0; omega)) hl hp (by show 10 * (b / 10) + b % 10 ≤ 255; omega)]
   simp [mrun]
   omega
 intro b h
 by_cases h1 : b < 26
 ·exact mid b h1
 ·rw [dec_step b (by omega), mrun_app, mid (b / 10) (by omega)]
  have hl : (Lib.decDigits (b / 10)).length ≤ 2 := dec_len2 ⟨b / 10, by omega⟩
  show (mstep _ _).bind _ = _
  rw [mstep_dig _ (b % 10) (by omega) (.inr (by show b / 10 ≠ 0; omega)) hl hp (by show 10 * (b / 10) + b % 10 ≤ 255; omega)]
  simp [mrun]
  omega
theorem mrun_txt (b0 b1 b2 b3 : Nat) (h0 : b0 ≤ 255) (h1 : b1 ≤ 255) (h2 : b2 ≤ 255) (h3 : b3 ≤ 255) :
  mach (Lib.decDigits b0 ++ 46 :: (Lib.decDigits b1 ++ 46 :: (Lib.decDigits b2 ++ 46 :: Lib.decDigits b3))) = some (((b0 * 256 + b1) * 256 + b2) * 256 + b3) := by
 unfold mach
 rw [mrun_app, mrun_dec 0 0 (by omega) b0 h0]
 show (((mstep _ _).bind _)).bind _ = _
 rw [mstep_dot _ (dec_ne b0)]
 show (mrun _ _).bind _ = _
 rw [mrun_app, mrun_dec _ 1 (by omega) b1 h1]
 show (((mstep _ _).bind _)).bind _ = _
 rw [mstep_dot _ (dec_ne b1)]
 show (mrun _ _).bind _ = _
 rw [mrun_app, mrun_dec _ 2 (by omega) b2 h2]
 show (((mstep _ _).bind _)).bind _ = _
 rw [mstep_dot _ (dec_ne b2)]
 show (mrun _ _).bind _ = _
 rw [mrun_dec _ 3 (by omega) b3 h3]
 show mEnd _ = _
 unfold mEnd
 rw [if_neg (fun h => h.elim (fun e => e rfl) (dec_ne b3))]
 simp
 omega
structure MInv (done : List Nat) (cur : List UInt8) (s : Mc) (pre : List UInt8) : Prop where
 pre : pre = (done.map fun b => Lib.decDigits b ++ [46]).flatten ++ cur
 p : s.p = done.length
 le : ∀ b ∈ done, b ≤ 255
 a : s.a = done.foldl (fun a b => (256 * a + b) % 4294967296) 0
 k : s.k = cur.length
 n0 : cur = [] → s.n = 0
 nc : cur ≠ [] → cur = Lib.decDigits s.n
 n : s.n ≤ 255
theorem MInv.step {done : List Nat} {cur : List UInt8} {s s' : Mc} {pre : List UInt8} {c : UInt8} (h : MInv done cur s pre) (hs : mstep s c = some s') : ∃ done' cur', MInv done' cur' s' (pre ++ [c]) := by
 unfold mstep at hs
 split at hs
 ·rename_i hc
  split at hs
  ·cases hs
  ·rename_i hk
   cases hs
   have hne : cur ≠ [] := fun e => hk (by rw [h.k, e]; rfl)
   have hcc : c = 46 := by apply UInt8.toNat.inj; simpa using hc
   refine ⟨done ++ [s.n], [], ?_, by simp [h.p], fun b hb => ?_, ?_, rfl, fun _ => rfl, fun e => absurd rfl e, by simp⟩
   ·rw [h.pre, hcc, h.nc hne]
    rw [← h.nc hne]
    conv => lhs; rw [h.nc hne]
    simp
   ·rcases List.mem_append.1 hb with h1 | h1
    ·exact h.le b h1
    ·simp at h1; rw [h1]; exact h.n
   ·rw [List.foldl_append, ← h.a]; rfl
 ·split at hs
  ·cases hs
  ·rename_i hc hd
   split at hs
   ·cases hs
   ·rename_i hn
    cases hs
    refine ⟨done, cur ++ [c], ?_, h.p, h.le, h.a, by simp [h.k], fun e => by simp at e, fun _ => ?_, by show 10 * s.n + (c.toNat - 48) ≤ 255; omega⟩
    ·rw [h.pre, List.append_assoc]
    ·show cur ++ [c] = Lib.decDigits (10 * s.n + (c.toNat - 48))
     have hcd : UInt8.ofNat (48 + (c.toNat - 48)) = c := by
      rw [show 48 + (c.toNat - 48) = c.toNat by omega]; simp
     by_cases he : cur = []
     ·rw [he, h.n0 he, dec_one _ (by omega), show (10 * 0 + (c.toNat - 48)) % 10 = c.toNat - 48 by omega, hcd]; rfl
     ·have hk : 0 < s.k := by rw [h.k]; cases cur with | nil => exact absurd rfl he | cons _ _ => simp
      have hn0 : s.n ≠ 0 := fun e => hd (.inr (.inr (.inl ⟨hk, e⟩)))
      rw [dec_step _ (by omega), show (10 * s.n + (c.toNat - 48)) / 10 = s.n by omega, show (10 * s.n + (c.toNat - 48)) % 10 = c.toNat - 48 by omega, hcd, ← h.nc he]
theorem MInv.run : ∀ (l : List UInt8) {done : List Nat} {cur : List UInt8} {s s' : Mc} {pre : List UInt8}, MInv done cur s pre → mrun s l = some s' → ∃ done' cur', MInv done' cur' s' (pre ++ l)
 | [], done, cur, s, s', pre, h, hr => by
  cases hr
  exact ⟨done, cur, by simpa using h⟩
 | c :: l, done, cur, s, s', pre, h, hr => by
  rw [mrun] at hr
  cases hq : mstep s c with
  | none => rw [hq] at hr; cases hr
  | some s1 =>
   rw [hq] at hr
   obtain ⟨d1, c1, h1⟩ := h.step hq
   obtain ⟨d2, c2, h2⟩ := MInv.run l h1 hr
   exact ⟨d2, c2, by simpa using h2⟩
theorem mach_some {l : List UInt8} {v : Nat} (h : mach l = some v) : parse4 l = ((v : Int), 0) := by
 unfold mach at h
 cases hr : mrun ⟨0, 0, 0, 0⟩ l with
 | none => rw [hr] at h; cases h
 | some s =>
  rw [hr] at h
  have hi : MInv [] [] ⟨0, 0, 0, 0⟩ [] := ⟨rfl, rfl, (fun b hb => by cases hb), rfl, rfl, fun _ => rfl, fun e => absurd rfl e, by simp⟩
  obtain ⟨done, cur, hv⟩ := MInv.run l hi hr
  replace h : mEnd s = some v := h
  unfold mEnd at h
  split at h
  ·cases h
  ·rename_i hc
   have hp : done.length = 3 := by rw [← hv.p]; omega
   have hk : cur ≠ [] := fun e => by have := hv.k; rw [e] at this; simp at this; omega
   match done, hp with
   | [b0, b1, b2], _ =>
    have q0 := hv.le b0 (by simp)
    have q1 := hv.le b1 (by simp)
    have q2 := hv.le b2 (by simp)
    have q3 := hv.n
    have ha := hv.a
    simp at ha
    have hpre := hv.pre
    rw [hv.nc hk] at hpre
    have e : l = txt4 b0 b1 b2 s.n := by
     rw [txt4_is]
     simpa using hpre
    rw [e, parse_txt _ _ _ _ ⟨by omega, by omega⟩ ⟨by omega, by omega⟩ ⟨by omega, by omega⟩ ⟨by omega, by omega⟩]
    have hvv : (256 * s.a + s.n) % 4294967296 = v := Option.some.inj h
    rw [ha] at hvv
    simp only [part4]
    rw [← hvv]
    refine Prod.ext ?_ rfl
    show (((b0 : Int) * 256 + b1) * 256 + b2) * 256 + s.n = _
    omega
theorem mach_none {l : List UInt8} (h : mach l = none) : parse4 l = (0, 3) := by
 by_cases hc : all4 l ∧ print4 (adr l) = l
 ·exfalso
  have hp := hc.2
  unfold print4 at hp
  rw [txt4_is] at hp
  have r0 := byteI_range (adr l) 0
  have r1 := byteI_range (adr l) 1
  have r2 := byteI_range (adr l) 2
  have r3 := byteI_range (adr l) 3
  have := mrun_txt (byteI (adr l) 0).toNat (byteI (adr l) 1).toNat (byteI (adr l) 2).toNat (byteI (adr l) 3).toNat (by omega) (by omega) (by omega) (by omega)
  rw [hp, h] at this
  cases this
 ·unfold parse4; rw [if_neg hc]
theorem mrun_next (l : List UInt8) (j : Nat) (c : UInt8) (s : Mc) (h : l[j]? = some c) (hs : mrun ⟨0, 0, 0, 0⟩ (l.take j) = some s) : mrun ⟨0, 0, 0, 0⟩ (l.take (j + 1)) = mstep s c := by
 rw [List.take_add_one, h]
 show mrun _ (l.take j ++ [c]) = _
 rw [mrun_app, hs]
 show (mstep s c).bind _ = _
 cases mstep s c <;> rfl
theorem mrun_stop (l : List UInt8) (j : Nat) (h : mrun ⟨0, 0, 0, 0⟩ (l.take (j + 1)) = none) : mach l = none := by
 unfold mach
 have e := List.take_append_drop (j + 1) l
 rw [← e, mrun_app, h]; rfl
def rp (o : Option Nat) : Value := match o with
 | some v => .tuple #[.int .u32 v, .bool true]
 | none => .tuple #[.int .u32 0, .bool false]
theorem rparse4_t (l : List UInt8) (hl : l.length ≤ 2000000) (w : World) : Calls Tryz.prog 66 #[.string ⟨l.toArray⟩] w fun e w' => e = .returned (rp (mach l)) ∧ w = w' := by
 have hsz := bs_size4 l
 go_enter Tryz.func66, Tryz.ntmps66
 go_wp2_with fail
 go_loopw [4, 5, 6, 7, 8] (fun vn va vp vk i wr => ∃ (j : Nat) (s : Mc), j ≤ l.length ∧ i = .int .i64 j ∧ mrun ⟨0, 0, 0, 0⟩ (l.take j) = some s ∧ vn = .int .u32 s.n ∧ va = .int .u32 s.a ∧ vp = .int .i64 s.p ∧ vk = .int .i64 s.k ∧ s.n ≤ 255 ∧ s.a < 4294967296 ∧ s.p ≤ j ∧ s.k ≤ j ∧ wr = w) (fun _ _ _ _ i _ => l.length - (intOf i).toNat)
 case atStart => exact ⟨0, ⟨0, 0, 0, 0⟩, by omega, rfl, rfl, rfl, rfl, rfl, rfl, by simp, by simp, by simp, by simp, rfl⟩
 case round =>
  obtain ⟨j, ⟨n, a, p, k⟩, hj, rfl, hrun, rfl, rfl, rfl, rfl, hn, ha, hp, hk, rfl⟩ := hrel
  dsimp only at hn ha hp hk hrun
  by_cases hlt : j < l.length
  ·have hx : l[j]? = some l[j] := List.getElem?_eq_getElem hlt
   have hnext := mrun_next l j _ _ hx hrun
   have hstop := mrun_stop l j
   obtain ⟨c, hlj⟩ : ∃ c, l[j] = c := ⟨_, rfl⟩
   rw [hlj] at hnext
   have HN := Lib.hid hnext
   have HS := Lib.hid hstop
   clear hnext hstop hrun hx
   have hcn : c.toNat < 256 := c.toNat_lt
   have hsp : j < (⟨l.toArray⟩ : ByteArray).size := by rw [hsz]; exact hlt
   have hch : (⟨l.toArray⟩ : ByteArray)[j]'hsp = c := hlj
   clear hlj
   by_cases hc : c.toNat = 46
   ·have e46 : ((c.toNat : Int) == 46) = true := by simp; omega
    by_cases hk0 : k = 0
    ·subst hk0
     go_wp2
     exact bodyPost_ret (v := .tuple #[.int .u32 0, .bool false]) (by simp [results, Tryz.results66, go_sem]) rfl ⟨by rw [HS.out (by rw [HN.out]; unfold mstep; rw [if_pos hc, if_pos rfl])]; rfl, rfl⟩
    ·have ek : ((k : Int) == 0) = false := by simp; omega
     go_wp2
     refine ⟨⟨j + 1, ⟨0, (256 * a + n) % 4294967296, p + 1, 0⟩, by omega, by go_num, ?_, rfl, ?_, by go_num, rfl, by simp, by show _ % _ < _; omega, by show p + 1 ≤ j + 1; omega, by show 0 ≤ j + 1; omega, trivial⟩, by simp [intOf]; omega⟩
     ·rw [HN.out]; unfold mstep; rw [if_pos hc, if_neg hk0]
     ·refine congrArg (Value.int .u32) ?_
      show 256 * (a : Int) % 4294967296 + (n : Int) = (((256 * a + n) % 4294967296 : Nat) : Int)
      omega
   ·have e46 : ((c.toNat : Int) == 46) = false := by simp; omega
    have hc' : ¬ (c.toNat : Int) = 46 := by omega
    by_cases b1 : c.toNat < 48
    ·have b1' : (c.toNat : Int) < 48 := by omega
     go_wp2
     exact bodyPost_ret (v := .tuple #[.int .u32 0, .bool false]) (by simp [results, Tryz.results66, go_sem]) rfl ⟨by rw [HS.out (by rw [HN.out]; unfold mstep; rw [if_neg hc, if_pos (.inl b1)])]; rfl, rfl⟩
    by_cases b2 : 57 < c.toNat
    ·have b1' : ¬ (c.toNat : Int) < 48 := by omega
     have b2' : (57 : Int) < (c.toNat : Int) := by omega
     go_wp2
     exact bodyPost_ret (v := .tuple #[.int .u32 0, .bool false]) (by simp [results, Tryz.results66, go_sem]) rfl ⟨by rw [HS.out (by rw [HN.out]; unfold mstep; rw [if_neg hc, if_pos (.inr (.inl b2))])]; rfl, rfl⟩
    have b1' : ¬ (c.toNat : Int) < 48 := by omega
    have b2' : ¬ (57 : Int) < (c.toNat : Int) := by omega
    by_cases b3 : 0 < k ∧ n = 0
    ·obtain ⟨k0, rfl⟩ := b3
     go_wp2
     exact bodyPost_ret (v := .tuple #[.int .u32 0, .bool false]) (by simp [results, Tryz.results66, go_sem]) rfl ⟨by rw [HS.out (by rw [HN.out]; unfold mstep; rw [if_neg hc, if_pos (.inr (.inr (.inl ⟨k0, rfl⟩)))])]; rfl, rfl⟩
    by_cases b4 : 2 < k
    ·have n0 : n ≠ 0 := fun e => b3 ⟨by omega, e⟩
     have k0 : 0 < k := by omega
     have b4' : (2 : Int) < (k : Int) := by omega
     go_wp2
     exact bodyPost_ret (v := .tuple #[.int .u32 0, .bool false]) (by simp [results, Tryz.results66, go_sem]) rfl ⟨by rw [HS.out (by rw [HN.out]; unfold mstep; rw [if_neg hc, if_pos (.inr (.inr (.inr (.inl b4))))])]; rfl, rfl⟩
    by_cases b5 : 3 < p
    ·have b5' : (3 : Int) < (p : Int) := by omega
     by_cases k0 : 0 < k
     ·have n0 : n ≠ 0 := fun e => b3 ⟨k0, e⟩
      go_wp2
      exact bodyPost_ret (v := .tuple #[.int .u32 0, .bool false]) (by simp [results, Tryz.results66, go_sem]) rfl ⟨by rw [HS.out (by rw [HN.out]; unfold mstep; rw [if_neg hc, if_pos (.inr (.inr (.inr (.inr b5))))])]; rfl, rfl⟩
     ·obtain rfl : k = 0 := by omega
      go_wp2
      exact bodyPost_ret (v := .tuple #[.int .u32 0, .bool false]) (by simp [results, Tryz.results66, go_sem]) rfl ⟨by rw [HS.out (by rw [HN.out]; unfold mstep; rw [if_neg hc, if_pos (.inr (.inr (.inr (.inr b5))))])]; rfl, rfl⟩
    have hbad : ¬ (c.toNat < 48 ∨ 57 < c.toNat ∨ (0 < k ∧ n = 0) ∨ 2 < k ∨ 3 < p) := fun h => by
     rcases h with h | h | h | h | h
     ·exact b1 h
     ·exact b2 h
     ·exact b3 h
     ·exact b4 h
     ·exact b5 h
    have HBAD := Lib.hid hbad
    clear hbad
    have b4' : ¬ (2 : Int) < (k : Int) := by omega
    have b5' : ¬ (3 : Int) < (p : Int) := by omega
    by_cases k0 : 0 < k
    ·have n0 : n ≠ 0 := fun e => b3 ⟨k0, e⟩
     by_cases big : 255 < 10 * n + (c.toNat - 48)
     ·have big' : (255 : Int) < 10 * (n : Int) + (c.toNat : Int) - 48 := by omega
      go_wp2
      exact bodyPost_ret (v := .tuple #[.int .u32 0, .bool false]) (by simp [results, Tryz.results66, go_sem]) rfl ⟨by rw [HS.out (by rw [HN.out]; unfold mstep; rw [if_neg hc, if_neg HBAD.out, if_pos big])]; rfl, rfl⟩
     ·have big' : ¬ (255 : Int) < 10 * (n : Int) + (c.toNat : Int) - 48 := by omega
      go_wp2
      refine ⟨⟨j + 1, ⟨10 * n + (c.toNat - 48), a, p, k + 1⟩, by omega, by go_num, by rw [HN.out]; unfold mstep; rw [if_neg hc, if_neg HBAD.out, if_neg big], ?_, rfl, rfl, by go_num, by show 10 * n + (c.toNat - 48) ≤ 255; omega, ha, by show p ≤ j + 1; omega, by show k + 1 ≤ j + 1; omega, trivial⟩, by simp [intOf]; omega⟩
      refine congrArg (Value.int .u32) ?_
      show _ = ((10 * n + (c.toNat - 48) : Nat) : Int)
      omega
    ·obtain rfl : k = 0 := by omega
     by_cases big : 255 < 10 * n + (c.toNat - 48)
     ·have big' : (255 : Int) < 10 * (n : Int) + (c.toNat : Int) - 48 := by omega
      go_wp2
      exact bodyPost_ret (v := .tuple #[.int .u32 0, .bool false]) (by simp [results, Tryz.results66, go_sem]) rfl ⟨by rw [HS.out (by rw [HN.out]; unfold mstep; rw [if_neg hc, if_neg HBAD.out, if_pos big])]; rfl, rfl⟩
     ·have big' : ¬ (255 : Int) < 10 * (n : Int) + (c.toNat : Int) - 48 := by omega
      go_wp2
      refine ⟨⟨j + 1, ⟨10 * n + (c.toNat - 48), a, p, 0 + 1⟩, by omega, by go_num, by rw [HN.out]; unfold mstep; rw [if_neg hc, if_neg HBAD.out, if_neg big], ?_, rfl, rfl, by go_num, by show 10 * n + (c.toNat - 48) ≤ 255; omega, ha, by show p ≤ j + 1; omega, by show 0 + 1 ≤ j + 1; omega, trivial⟩, by simp [intOf]; omega⟩
      refine congrArg (Value.int .u32) ?_
      show _ = ((10 * n + (c.toNat - 48) : Nat) : Int)
      omega
  ·have hje : j = l.length := by omega
   subst hje
   rw [List.take_length] at hrun
   have hm : mach l = mEnd ⟨n, a, p, k⟩ := by unfold mach; rw [hrun]; rfl
   have HM := Lib.hid hm
   clear hm hrun
   by_cases p3 : p = 3
   ·subst p3
    by_cases k0 : k = 0
    ·subst k0
     go_wp2
     exact bodyPost_ret (v := .tuple #[.int .u32 0, .bool false]) (by simp [results, Tryz.results66, go_sem]) rfl ⟨by rw [HM.out]; rfl, rfl⟩
    ·have ek : ((k : Int) == 0) = false := by simp; omega
     have he : mEnd ⟨n, a, 3, k⟩ = some ((256 * a + n) % 4294967296) := by unfold mEnd; rw [if_neg (fun h => h.elim (fun e => e rfl) k0)]
     have hv : 256 * (a : Int) % 4294967296 + (n : Int) = (((256 * a + n) % 4294967296 : Nat) : Int) := by omega
     have HE := Lib.hid he
     have HV := Lib.hid hv
     clear he hv
     go_wp2
     refine bodyPost_ret (v := .tuple #[.int .u32 (256 * (a : Int) % 4294967296 + (n : Int)), .bool true]) (by simp [results, Tryz.results66, go_sem]) rfl ⟨?_, rfl⟩
     rw [HM.out, HE.out, HV.out]; rfl
   ·have ep : ((p : Int) != 3) = true := by simp; omega
    have ep2 : ¬ (p : Int) = 3 := by omega
    have he : mEnd ⟨n, a, p, k⟩ = none := by unfold mEnd; rw [if_pos (.inl p3)]
    have HE := Lib.hid he
    clear he
    go_wp2
    exact bodyPost_ret (v := .tuple #[.int .u32 0, .bool false]) (by simp [results, Tryz.results66, go_sem]) rfl ⟨by rw [HM.out, HE.out]; rfl, rfl⟩
def gAcc : Nat → List UInt8 → Option Nat
 | acc, [] => some acc
 | acc, c :: r => match hexV c with
  | none => none
  | some d => gAcc ((16 * acc + d) % 65536) r
theorem gAcc_hexM : ∀ (l : List UInt8) (k acc : Nat), acc < 16 ^ k → l.length + k ≤ 4 → hexM acc l = gAcc acc l
 | [], _, _, _, _ => rfl
 | c :: r, k, acc, h, hl => by
  rw [hexM, gAcc]
  cases hv : hexV c with
  | none => rfl
  | some d =>
   have hd := hexV_lt hv
   have hk : k + 1 ≤ 4 := by simp at hl; omega
   have h16 : 16 * acc + d < 16 ^ (k + 1) := by rw [Nat.pow_succ]; omega
   have hp : 16 ^ (k + 1) ≤ 16 ^ 4 := Nat.pow_le_pow_right (by decide) hk
   have h65 : (16 : Nat) ^ 4 = 65536 := by decide
   dsimp only
   rw [if_neg (by omega), Nat.mod_eq_of_lt (by omega), show acc * 16 + d = 16 * acc + d by omega]
   exact gAcc_hexM r (k + 1) _ h16 (by simp at hl; omega)
theorem grpV_acc (l : List UInt8) : grpV l = if 0 < l.length ∧ l.length < 5 then gAcc 0 l else none := by
 unfold grpV hexP
 by_cases h4 : 4 < l.length
 ·rw [if_pos h4, if_neg (by omega)]
 ·rw [if_neg h4]
  by_cases h0 : l = []
  ·rw [if_pos h0, if_neg (by rw [h0]; simp)]
  ·have : 0 < l.length := List.length_pos_iff.2 h0
   rw [if_neg h0, if_pos (by omega), gAcc_hexM l 0 0 (by decide) (by omega)]
theorem gAcc_no {acc : Nat} {c : UInt8} (r : List UInt8) (h : hexV c = none) : gAcc acc (c :: r) = none := by rw [gAcc, h]
theorem gAcc_ok {acc d : Nat} {c : UInt8} (r : List UInt8) (h : hexV c = some d) : gAcc acc (c :: r) = gAcc ((16 * acc + d) % 65536) r := by rw [gAcc, h]
def GrpPost (o : Option Nat) (e : Ending) : Prop := match o with
 | some v => e = .returned (.tuple #[.int .u16 v, .bool true])
 | none => ∃ x, e = .returned (.tuple #[.int .u16 x, .bool false])
theorem group_t (l : List UInt8) (hl : l.length ≤ 2000000) (w : World) : Calls Tryz.prog 136 #[.string ⟨l.toArray⟩] w fun e w' => GrpPost (grpV l) e ∧ w = w' := by
 have hsz := bs_size4 l
 have HGV := Lib.hid (grpV_acc l)
 generalize grpV l = gv at *
 go_enter Tryz.func136, Tryz.ntmps136
 go_wp2_with fail
 go_loopw [4, 5] (fun vn i wr => ∃ (j acc : Nat), j ≤ l.length ∧ acc < 65536 ∧ i = .int .i64 (j : Nat) ∧ vn = .int .u16 (acc : Nat) ∧ Hid (gAcc 0 l = gAcc acc (l.drop j)) ∧ wr = w) (fun _ i _ => l.length - (intOf i).toNat)
 case atStart => exact ⟨0, 0, by omega, by omega, rfl, rfl, Lib.hid rfl, rfl⟩
 case round =>
  obtain ⟨j, acc, hj, hacc, rfl, rfl, hg, rfl⟩ := hrel
  by_cases hlt : j < l.length
  ·have hdrop : l.drop j = l[j] :: l.drop (j + 1) := List.drop_eq_getElem_cons hlt
   have hg2 := hg.out
   rw [hdrop] at hg2
   have hsp : j < (⟨l.toArray⟩ : ByteArray).size := by rw [hsz]; exact hlt
   have hch : (⟨l.toArray⟩ : ByteArray)[j]'hsp = l[j] := rfl
   have hlt' : (j : Int) < (l.length : Int) := by omega
   generalize l[j] = c at *
   have hcn : c.toNat < 256 := c.toNat_lt
   clear hdrop hg
   rcases hexV_cases c with ⟨hd0, hd1, hv⟩ | ⟨hd0, hd1, _, hv⟩ | ⟨hd0, hd1, _, hv⟩ | ⟨hdig, hlo, hv⟩
   ·rw [gAcc_ok _ hv] at hg2
    have HG := Lib.hid hg2
    have i0 : (48 : Int) ≤ (c.toNat : Int) := by omega
    have i1 : (c.toNat : Int) ≤ 57 := by omega
    clear hg2 hv
    go_wp2
    exact ⟨⟨j + 1, (16 * acc + (c.toNat - 48)) % 65536, by omega, Nat.mod_lt _ (by decide), by go_num, congrArg (Value.int .u16) (by simp [IntKind.wrap, IntKind.bits, IntKind.signed]; omega), HG, trivial⟩, by simp [intOf]; omega⟩
   ·rw [gAcc_ok _ hv] at hg2
    have HG := Lib.hid hg2
    have i0 : (97 : Int) ≤ (c.toNat : Int) := by omega
    have i1 : (c.toNat : Int) ≤ 102 := by omega
    clear hg2 hv
    go_wp2
    exact ⟨⟨j + 1, (16 * acc + (c.toNat - 87)) % 65536, by omega, Nat.mod_lt _ (by decide), by go_num, congrArg (Value.int .u16) (by simp [IntKind.wrap, IntKind.bits, IntKind.signed]; omega), HG, trivial⟩, by simp [intOf]; omega⟩
   ·rw [gAcc_ok _ hv] at hg2
    have HG := Lib.hid hg2
    have i0 : (65 : Int) ≤ (c.toNat : Int) := by omega
    have i1 : (c.toNat : Int) ≤ 70 := by omega
    clear hg2 hv
    go_wp2
    exact ⟨⟨j + 1, (16 * acc + (c.toNat - 55)) % 65536, by omega, Nat.mod_lt _ (by decide), by go_num, congrArg (Value.int .u16) (by simp [IntKind.wrap, IntKind.bits, IntKind.signed]; omega), HG, trivial⟩, by simp [intOf]; omega⟩
   ·rw [gAcc_no _ hv] at hg2
    have hgn : gv = none := by rw [HGV.out, hg2]; simp
    have hnx : ¬ (48 ≤ c.toNat ∧ c.toNat ≤ 57) ∧ ¬ (97 ≤ c.toNat ∧ c.toNat ≤ 102) ∧ ¬ (65 ≤ c.toNat ∧ c.toNat ≤ 70) := by
     unfold hexV at hv
     refine ⟨hdig, fun h => ?_, fun h => ?_⟩
     ·rw [if_neg hdig, if_pos h] at hv; cases hv
     ·rw [if_neg hdig, if_neg (by omega), if_pos h] at hv; cases hv
    clear hv hlo hg2 hdig
    have HGN := Lib.hid hgn
    clear hgn
    have hcs : c.toNat < 48 ∨ (57 < c.toNat ∧ c.toNat < 65) ∨ (70 < c.toNat ∧ c.toNat < 97) ∨ 102 < c.toNat := by omega
    clear hnx
    rcases hcs with h | ⟨h, h'⟩ | ⟨h, h'⟩ | h
    ·have i0 : (c.toNat : Int) < 48 := by omega
     go_wp2
     go_ret2
     exact ⟨by rw [HGN.out]; exact ⟨_, rfl⟩, rfl⟩
    ·have i0 : (57 : Int) < (c.toNat : Int) := by omega
     have i1 : (c.toNat : Int) < 65 := by omega
     go_wp2
     go_ret2
     exact ⟨by rw [HGN.out]; exact ⟨_, rfl⟩, rfl⟩
    ·have i0 : (70 : Int) < (c.toNat : Int) := by omega
     have i1 : (c.toNat : Int) < 97 := by omega
     go_wp2
     go_ret2
     exact ⟨by rw [HGN.out]; exact ⟨_, rfl⟩, rfl⟩
    ·have i0 : (102 : Int) < (c.toNat : Int) := by omega
     go_wp2
     go_ret2
     exact ⟨by rw [HGN.out]; exact ⟨_, rfl⟩, rfl⟩
  ·have hjj : j = l.length := by omega
   have hg2 := hg.out
   rw [hjj, List.drop_eq_nil_of_le (Nat.le_refl _)] at hg2
   have hlt' : ¬ (j : Int) < (l.length : Int) := by omega
   have hgv : gv = if 0 < l.length ∧ l.length < 5 then some acc else none := by rw [HGV.out, hg2]; rfl
   have HGV2 := Lib.hid hgv
   clear hgv hg2 hg hjj
   by_cases h0 : 0 < l.length
   ·have h0' : (0 : Int) < (l.length : Int) := by omega
    by_cases h5 : l.length < 5
    ·have h5' : (l.length : Int) < 5 := by omega
     go_wp2
     go_ret2
     exact ⟨by rw [HGV2.out, if_pos ⟨h0, h5⟩]; rfl, rfl⟩
    ·have h5' : ¬ (l.length : Int) < 5 := by omega
     go_wp2
     go_ret2
     exact ⟨by rw [HGV2.out, if_neg (fun h => h5 h.2)]; exact ⟨_, rfl⟩, rfl⟩
   ·have h0' : ¬ (0 : Int) < (l.length : Int) := by omega
    go_wp2
    go_ret2
    exact ⟨by rw [HGV2.out, if_neg (fun h => h0 h.1)]; exact ⟨_, rfl⟩, rfl⟩
theorem occ2 (l : List UInt8) (k : Nat) (h : k + 1 < l.length) : Lib.occAt l [58, 58] k = (decide (l[k] = 58) && decide (l[k + 1] = 58)) := by
 unfold Lib.occAt
 rw [List.drop_eq_getElem_cons (show k < l.length by omega), List.drop_eq_getElem_cons h]
 have e : ∀ x : UInt8, ((58 : UInt8) == x) = decide (x = 58) := fun x => by
  by_cases h : x = 58
  ·subst h; rfl
  ·rw [decide_eq_false h]; exact beq_eq_false_iff_ne.2 (fun he => h he.symm)
 show (((58 : UInt8) == l[k]) && (((58 : UInt8) == l[k + 1]) && true)) = _
 rw [Bool.and_true, e, e]
theorem occ_end (l : List UInt8) (k : Nat) (h : l.length ≤ k + 1) : Lib.occAt l [58, 58] k = false := by
 cases hq : Lib.occAt l [58, 58] k with
 | false => rfl
 | true =>
  rcases Lib.occAt_room hq with h1 | h1
  ·simp at h1; omega
  ·cases h1
theorem rcut_t (l : List UInt8) (hl : l.length ≤ 2000000) (w : World) : Calls Tryz.prog 105 #[.string ⟨l.toArray⟩] w fun e w' => e = .returned (.int .i64 (Lib.index l [58, 58])) ∧ w = w' := by
 have hsz := bs_size4 l
 obtain ⟨ix, hix⟩ : ∃ ix, ix = Lib.index l [58, 58] := ⟨_, rfl⟩
 rw [← hix]
 have HI := Lib.hid hix
 clear hix
 go_enter Tryz.func105, Tryz.ntmps105
 go_wp2_with fail
 go_loopw [3] (fun i wr => ∃ (j : Nat), j ≤ l.length ∧ i = .int .i64 (j : Nat) ∧ Hid (∀ k, k < j → Lib.occAt l [58, 58] k = false) ∧ wr = w) (fun i _ => l.length - (intOf i).toNat)
 case atStart => exact ⟨0, by omega, rfl, Lib.hid (fun k h => by omega), rfl⟩
 case round =>
  obtain ⟨j, hj, rfl, hno, rfl⟩ := hrel
  by_cases hlt : j + 1 < l.length
  ·have hlt' : (j : Int) + 1 < (l.length : Int) := by omega
   have hoc := occ2 l j hlt
   have hsp : j < (⟨l.toArray⟩ : ByteArray).size := by rw [hsz]; omega
   have hch : (⟨l.toArray⟩ : ByteArray)[j]'hsp = l[j] := rfl
   have hsp2 : j + 1 < (⟨l.toArray⟩ : ByteArray).size := by rw [hsz]; omega
   have hch2 : (⟨l.toArray⟩ : ByteArray)[j + 1]'hsp2 = l[j + 1] := rfl
   have q2 : ((j : Int) + 1).toNat = j + 1 := by omega
   have HOC := Lib.hid hoc
   clear hoc
   generalize l[j] = c at *
   generalize l[j + 1] = c2 at *
   have hc1 := c.toNat_lt
   have hc2 := c2.toNat_lt
   have t58 : ∀ x : UInt8, x = 58 ↔ x.toNat = 58 := fun x => ⟨fun h => by rw [h]; rfl, fun h => UInt8.toNat_inj.1 h⟩
   by_cases h1 : c.toNat = 58
   ·by_cases h2 : c2.toNat = 58
    ·have hres : ix = (j : Int) := by
      rw [HI.out]
      exact Lib.index_first (by omega) (by rw [HOC.out]; simp [(t58 c).2 h1, (t58 c2).2 h2]) hno.out
     have HRES := Lib.hid hres
     have e1 : ((c.toNat : Int) == 58) = true := by simp; omega
     have e2 : ((c2.toNat : Int) == 58) = true := by simp; omega
     obtain rfl := (t58 c).2 h1
     obtain rfl := (t58 c2).2 h2
     clear hres t58
     go_wp2
     go_ret
     exact ⟨by rw [HRES.out]; rfl, rfl⟩
    ·have hocf : Lib.occAt l [58, 58] j = false := by rw [HOC.out, decide_eq_false (fun h => h2 ((t58 c2).1 h)), Bool.and_false]
     have e2 : ((c2.toNat : Int) == 58) = false := by simp; omega
     have e2' : ¬ (c2.toNat : Int) = 58 := by omega
     obtain rfl := (t58 c).2 h1
     have HN : Hid (∀ k, k < j + 1 → Lib.occAt l [58, 58] k = false) := Lib.hid (fun k hk => by
      by_cases e : k < j
      ·exact hno.out k e
      ·obtain rfl : k = j := by omega
       exact hocf)
     clear hocf t58
     go_wp2
     exact ⟨⟨j + 1, by omega, by go_num, HN, trivial⟩, by simp [intOf]; omega⟩
   ·have hocf : Lib.occAt l [58, 58] j = false := by rw [HOC.out, decide_eq_false (fun h => h1 ((t58 c).1 h)), Bool.false_and]
    have e1 : ((c.toNat : Int) == 58) = false := by simp; omega
    have e1' : ¬ (c.toNat : Int) = 58 := by omega
    have HN : Hid (∀ k, k < j + 1 → Lib.occAt l [58, 58] k = false) := Lib.hid (fun k hk => by
     by_cases e : k < j
     ·exact hno.out k e
     ·obtain rfl : k = j := by omega
      exact hocf)
    clear hocf t58
    go_wp2
    exact ⟨⟨j + 1, by omega, by go_num, HN, trivial⟩, by simp [intOf]; omega⟩
  ·have hlt' : ¬ (j : Int) + 1 < (l.length : Int) := by omega
   have hres : ix = -1 := by
    rw [HI.out]
    exact Lib.index_none (fun k _ => by
     by_cases e : k < j
     ·exact hno.out k e
     ·exact occ_end l k (by omega))
   have HRES := Lib.hid hres
   clear hres
   go_wp2
   go_ret
   exact ⟨by rw [HRES.out]; rfl, rfl⟩
def OwnU (base : Nat) (w : World) (v : Value) (vs : List Nat) : Prop := w.ownsRow base 106 1 v vs.length (valsV vs)
theorem OwnU.later {base : Nat} {w w' : World} {v : Value} {l : List Nat} (h : OwnU base w v l) (hb : Below w.heap.size w w') : OwnU base w' v l := by
 obtain ⟨hl, h⟩ := h
 refine ⟨hl, ?_⟩
 rcases h with h | ⟨g, cap, cur, hv, hbs, hg, h1⟩
 ·exact .inl h
 ·exact .inr ⟨g, cap, cur, hv, hbs, (Row.later (t := 106) hg hb), h1⟩
theorem OwnU.block {base : Nat} {w : World} {v : Value} {l : List Nat} (h : OwnU base w v l) (g : Nat) (hg : v.ownBlock = some g) : base ≤ g ∧ g < w.heap.size := by
 rcases h.2 with ⟨rfl, _⟩ | ⟨g', cap, cur, rfl, hbs, hr, _⟩
 ·cases hg
 ·have : g' = g := by simpa [Value.ownBlock] using hg
  subst this
  exact ⟨hbs, Row.lt (t := 106) hr⟩
theorem OwnU.nil (base : Nat) (w : World) : OwnU base w (.slice none 0 0) [] := ⟨rfl, .inl ⟨rfl, rfl⟩⟩
theorem valsV_length (vs : List Nat) : (valsV vs).length = vs.length := by simp [valsV]
theorem OwnU.read {base : Nat} {w : World} {v : Value} {l : List Nat} (h : OwnU base w v l) : ∃ p c, v = .slice p l.length c ∧ (0 < l.length → ∃ g, p = some ⟨g, 0, none⟩ ∧ base ≤ g ∧ g < w.heap.size ∧ ∀ (j x : Nat), l[j]? = some x → w.cell? ⟨g, j, none⟩ = some (.int .u16 (x : Int))) := by
 obtain ⟨hl, h⟩ := h
 rcases h with ⟨rfl, h0⟩ | ⟨g, cap, cur, rfl, hb, hg, h1, h2, h3, h4⟩
 ·exact ⟨none, 0, by rw [h0], fun h => by omega⟩
 ·refine ⟨_, cap, rfl, fun _ => ⟨g, rfl, hb, Row.lt (t := 106) hg, fun j x hx => ?_⟩⟩
  rw [cell_of_row w g j cur _ _ hg, ← Array.getElem?_toList]
  have hj : j < l.length := by rw [List.getElem?_eq_some_iff] at hx; exact hx.1
  have : (valsV l)[j]? = some (.int .u16 (x : Int)) := by unfold valsV; rw [List.getElem?_map, hx]; rfl
  rw [← h4, List.getElem?_take, if_pos (by omega)] at this
  exact this
theorem info16 : ∃ i, Tryz.prog.info? 106 = some i ∧ i.zero = some (.int .u16 0) ∧ i.size = 1 ∧ i.bytes = 2 := by
 have h1 : (Tryz.prog.info? 106).bind (·.zero) = some (.int .u16 0) := by kernel_rfl
 have h2 : (Tryz.prog.info? 106).map (·.size) = some 1 := by kernel_rfl
 have h3 : (Tryz.prog.info? 106).map (·.bytes) = some 2 := by kernel_rfl
 cases hq : Tryz.prog.info? 106 with
 | none => rw [hq] at h2; cases h2
 | some i =>
  rw [hq] at h1 h2 h3
  exact ⟨i, rfl, by simpa using h1, by simpa using h2, by simpa using h3⟩
theorem appU_run {base : Nat} {w : World} {v : Value} {l m : List Nat} (ty : TypeId) (ho : OwnU base w v l) (gs c : Nat) (hsrc : ∀ (j x : Nat), m[j]? = some x → w.cell? ⟨gs, j, none⟩ = some (.int .u16 (x : Int))) (hl : l.length + m.length ≤ 2147483647) (hbase : base ≤ w.heap.size) :
  ∃ v' w', (Builtin.append_ #[112, 112] ty #[v, .slice (some ⟨gs, 0, none⟩) m.length c]).run Tryz.prog w = .ok v' w' ∧ OwnU base w' v' (l ++ m) ∧ w.grownBy w' v.ownBlock := by
 obtain ⟨i, i1, i2, i3, i4⟩ := info16
 have hs : ∀ j u, (valsV m)[j]? = some u → w.cell? ((⟨gs, 0, none⟩ : Addr).add j) = some u := by
  intro j u hu
  unfold valsV at hu
  rw [List.getElem?_map, Option.map_eq_some_iff] at hu
  obtain ⟨x, hx, rfl⟩ := hu
  rw [Addr.add_mid, Nat.zero_add]
  exact hsrc j x hx
 obtain ⟨v', w', hr, k1, k2, _, k4⟩ := run_append_own_at (P := Tryz.prog) w base 112 ty 106 i (.int .u16 0) 1 2 Tryz.underlying112 i1 i2 i3 i4 rfl (by decide) v l.length (valsV l) ho ⟨gs, 0, none⟩ m.length c (valsV m) (by rw [valsV_length, Nat.mul_one]) hs (valsV_one m) (by unfold maxLen; omega) (by omega) hbase
 refine ⟨v', w', hr, ?_, k2⟩
 have hbm : valsV (l ++ m) = valsV l ++ valsV m := by unfold valsV; rw [List.map_append]
 unfold OwnU
 rw [List.length_append, hbm]
 exact k1
theorem wp_appU {P : Program} {w w' : World} {o : Oper} {a : Act} {K : Act → World → Prop} {Q : Exit → Act → World → Prop} (s x : Operand) (t : TypeId) {v bv v' : Value}
  (ho : o.op = .call { callee := .builtin .append, args := #[s, x], argTypes := #[t, t] }) (hs : a.eval s = v) (hx : a.eval x = bv)
  (hr : (Builtin.append_ #[t, t] o.type #[v, bv]).run P w = .ok v' w') (h : K (a.put o.dst v') w') : o.wp P a w K Q := by
 unfold Oper.wp execOp
 simp only [ho, resolve, invoke, builtin, Sem.run_bind, Sem.run_pure, Result.andThen_ok, List.map_toArray, List.map_cons, List.map_nil, hs, hx, hr]
 exact h
theorem wpList_appU {P : Program} {w w' : World} {ops : Array Oper} {rest : List Oper} {o : Oper} {a : Act} {Q : Exit → Act → World → Prop} (hg : o.guard = none) (s x : Operand) (t : TypeId) (hop : o.op = .call { callee := .builtin .append, args := #[s, x], argTypes := #[t, t] })
  {v bv v' : Value} (hs : a.eval s = v) (hx : a.eval x = bv) (hr : (Builtin.append_ #[t, t] o.type #[v, bv]).run P w = .ok v' w') (hK : wpList P ops Q rest (a.put o.dst v') w') : wpList P ops Q (o :: rest) a w := by
 refine wpList_plain hg fun K hK' => ?_
 exact wp_appU s x t hop hs hx hr (hK' _ _ hK)
theorem ext_l6 (l : List UInt8) (a b : Nat) : (⟨l.toArray⟩ : ByteArray).extract a b = ⟨((l.take b).drop a).toArray⟩ := by
 apply ByteArray.ext
 simp [ByteArray.extract, ByteArray.copySlice]
 rw [List.drop_take]
def RdInv (d : Bool) (l : List UInt8) (fr j : Nat) (vs : List Nat) : Prop :=
 (fr ≤ j ∧ j ≤ l.length ∧ (58 : UInt8) ∉ (l.take j).drop fr ∧ seqV d (splitC l) = (seqV d (splitC (l.drop fr))).map fun us => vs ++ us) ∨ (j = l.length + 1 ∧ seqV d (splitC l) = some vs)
theorem take_drop_succ6 (l : List UInt8) (fr j : Nat) (h : fr ≤ j) (hj : j < l.length) : (l.take (j + 1)).drop fr = (l.take j).drop fr ++ [l[j]] := by
 rw [List.take_add_one, List.getElem?_eq_getElem hj, List.drop_append_of_le_length (by simp; omega)]
 rfl
theorem drop_split6 (l : List UInt8) (fr j : Nat) (h : fr ≤ j) (hj : j < l.length) : l.drop fr = (l.take j).drop fr ++ l[j] :: l.drop (j + 1) := by
 have h1 : l.drop fr = (l.take j ++ l.drop j).drop fr := by rw [List.take_append_drop]
 rw [h1, List.drop_append_of_le_length (by simp; omega), List.drop_eq_getElem_cons hj]
theorem RdInv.next {d : Bool} {l : List UInt8} {fr j : Nat} {vs : List Nat} (h : RdInv d l fr j vs) (hj : j < l.length) (hc : l[j] ≠ 58) : RdInv d l fr (j + 1) vs := by
 rcases h with ⟨h1, h2, h3, h4⟩ | ⟨h1, _⟩
 ·refine .inl ⟨by omega, by omega, ?_, h4⟩
  rw [take_drop_succ6 l fr j h1 hj]
  intro hm
  rcases List.mem_append.1 hm with hm | hm
  ·exact h3 hm
  ·simp at hm; exact hc hm.symm
 ·omega
theorem RdInv.part {d : Bool} {l : List UInt8} {fr j : Nat} {vs : List Nat} (h : RdInv d l fr j vs) (hj : j < l.length) (hc : l[j] = 58) : fr ≤ j ∧ (∀ v, grpV ((l.take j).drop fr) = some v → RdInv d l (j + 1) (j + 1) (vs ++ [v])) ∧ (grpV ((l.take j).drop fr) = none → seqV d (splitC l) = none) := by
 rcases h with ⟨h1, h2, h3, h4⟩ | ⟨h1, _⟩
 ·have hs : splitC (l.drop fr) = (l.take j).drop fr :: splitC (l.drop (j + 1)) := by rw [drop_split6 l fr j h1 hj, hc, split_at _ _ h3]
  rw [hs, seqV_cons d _ _ (split_ne _)] at h4
  refine ⟨h1, fun v hv => .inl ⟨Nat.le_refl _, by omega, ?_, ?_⟩, fun hv => ?_⟩
  ·rw [List.drop_eq_nil_of_le (by rw [List.length_take]; omega)]; simp
  ·rw [hv] at h4
   rw [h4]
   cases seqV d (splitC (l.drop (j + 1))) with
   | none => rfl
   | some us => simp
  ·rw [hv] at h4
   rw [h4]; rfl
 ·omega
theorem RdInv.last {d : Bool} {l : List UInt8} {fr : Nat} {vs : List Nat} (h : RdInv d l fr l.length vs) : fr ≤ l.length ∧ seqV d (splitC l) = (lastV d ((l.take l.length).drop fr)).map fun us => vs ++ us := by
 rcases h with ⟨h1, h2, h3, h4⟩ | ⟨h1, _⟩
 ·rw [List.take_length] at h3 ⊢
  refine ⟨h1, ?_⟩
  rw [h4, split_no _ h3, seqV]
 ·omega
def ReadPost (o : Option (List Nat)) (w : World) (e : Ending) (w' : World) : Prop := (match o with
 | some vs => ∃ v, e = .returned (.tuple #[v, .bool true]) ∧ OwnU w.heap.size w' v vs
 | none => e = .returned (.tuple #[.slice none 0 0, .bool false])) ∧ Below w.heap.size w w'
theorem mach_part (p : List UInt8) : (∃ v, mach p = some v ∧ parse4 p = ((v : Int), 0) ∧ v < 4294967296) ∨ (mach p = none ∧ (parse4 p).2 = 3) := by
 cases h : mach p with
 | none => exact .inr ⟨rfl, by rw [mach_none h]⟩
 | some v =>
  have h1 := mach_some h
  have h2 := (parse_range p).2
  rw [h1] at h2
  exact .inl ⟨v, rfl, h1, by dsimp only at h2; omega⟩
theorem read_t (d : Bool) (l : List UInt8) (hl : l.length ≤ 2000000) (w : World) : Calls Tryz.prog 106 #[.string ⟨l.toArray⟩, .bool d] w (ReadPost (readV d l) w) := by
 have hsz := bs_size4 l
 by_cases h0 : l = []
 ·subst h0
  have hr : readV d [] = some [] := rfl
  rw [hr]
  go_enter Tryz.func106, Tryz.ntmps106
  go_wp2_with fail
  go_loopw [6, 8] (fun o i wr => o = .slice none 0 0 ∧ i = .int .i64 0 ∧ wr = w) (fun _ _ _ => 0)
  case atStart => exact ⟨rfl, rfl, rfl⟩
  case round =>
   obtain ⟨rfl, rfl, rfl⟩ := hrel
   go_wp2
   go_ret2
   exact ⟨⟨_, rfl, OwnU.nil _ _⟩, Below.refl _ _⟩
 ·have hpos : 0 < l.length := List.length_pos_iff.2 h0
  have hpos' : (0 : Int) < (l.length : Int) := by omega
  have hrv : readV d l = seqV d (splitC l) := by unfold readV; rw [if_neg h0]
  rw [hrv]
  clear hrv h0
  have HI0 : Hid (RdInv d l 0 0 []) := Lib.hid (.inl ⟨Nat.le_refl _, by omega, by simp, by simp⟩)
  go_enter Tryz.func106, Tryz.ntmps106
  go_wp2_with fail
  go_loopw [6, 7, 8] (fun o f i wr => ∃ (fr j : Nat) (vs : List Nat), f = .int .i64 (fr : Nat) ∧ i = .int .i64 (j : Nat) ∧ j ≤ l.length + 1 ∧ vs.length ≤ j ∧ Hid (RdInv d l fr j vs) ∧ Hid (OwnU w.heap.size wr o vs) ∧ Hid (Below w.heap.size w wr)) (fun _ _ i _ => l.length + 1 - (intOf i).toNat)
  case atStart => exact ⟨0, 0, [], rfl, rfl, by omega, by simp, HI0, Lib.hid (OwnU.nil _ _), Lib.hid (Below.refl _ _)⟩
  case round =>
   clear HI0
   obtain ⟨fr, j, vs, rfl, rfl, hj1, hvj, hI, hO, hB⟩ := hrel
   by_cases hlt : j < l.length
   ·have hle' : (j : Int) ≤ (l.length : Int) := by omega
    have hlt' : (j : Int) < (l.length : Int) := by omega
    have hsp : j < (⟨l.toArray⟩ : ByteArray).size := by rw [hsz]; exact hlt
    have hch : (⟨l.toArray⟩ : ByteArray)[j]'hsp = l[j] := rfl
    have hnx := hI.out.next hlt
    have hpt := hI.out.part hlt
    have HNX := Lib.hid hnx
    have HPT := Lib.hid hpt
    clear hnx hpt hI
    generalize l[j] = c at *
    have hcn := c.toNat_lt
    by_cases hc : c = 58
    ·subst hc
     obtain ⟨hfj, hsome, hnone⟩ := HPT.out rfl
     have hfj' : (fr : Int) ≤ (j : Int) := by omega
     have hneq : ¬ (j : Int) = (l.length : Int) := by omega
     have hnb : ((j : Int) == (l.length : Int)) = false := by rw [beq_eq_false_iff_ne]; exact hneq
     have hpl : ((l.take j).drop fr).length ≤ 2000000 := by simp; omega
     have hP := rparse4_t ((l.take j).drop fr) hpl
     have hG := group_t ((l.take j).drop fr) hpl
     rw [← ext_l6] at hP hG
     have HS := Lib.hid hsome
     have HN := Lib.hid hnone
     have HP := Lib.hid hP
     have HG := Lib.hid hG
     have HM := Lib.hid (mach_part ((l.take j).drop fr))
     clear hsome hnone hP hG hpl HNX HPT
     generalize (l.take j).drop fr = p at *
     go_wp2_with fail
     refine (HP.out _).mono ?_
     rintro e w1 ⟨rfl, rfl⟩
     rcases HM.out with ⟨av, hm, _, _⟩ | ⟨hm, _⟩
     ·cases d
      all_goals
       rw [hm]
       unfold rp
       dsimp only
       clear HP HM
       go_wp2_with fail
       refine (HG.out _).mono ?_
       rintro e w1 ⟨hg, rfl⟩
       clear HG hm
       cases hgv : grpV p with
       | none =>
        rw [hgv] at hg
        obtain ⟨x, rfl⟩ := hg
        have HR := Lib.hid (HN.out hgv)
        clear hgv HN HS
        go_wp2
        go_ret2
        exact ⟨by rw [HR.out]; rfl, hB.out⟩
       | some v =>
        rw [hgv] at hg
        obtain rfl : e = .returned (.tuple #[.int .u16 v, .bool true]) := hg
        have HR := Lib.hid (HS.out v hgv)
        clear hgv HN HS
        have R1 := Row.new wr #[.int .u16 (v : Int)] 106
        have hbn : Below wr.heap.size wr (wr.alloc (.cells #[.int .u16 (v : Int)] 106)) := (Below.refl _ _).alloc (Nat.le_refl _) _
        obtain ⟨v', w2, hrun, hown, hgrow⟩ := appU_run (m := [v]) 112 (hO.out.later hbn) wr.heap.size 1 (fun j x hx => by
         rcases j with _ | j
         ·cases hx; exact (R1.cell 0).trans rfl
         ·simp at hx) (by simp; omega) (Nat.le_trans hB.out.size hbn.size)
        have hb2 := (below_step hB.out hbn).grown hgrow (Nat.le_trans hB.out.size hbn.size) (fun k hk => ((hO.out.later hbn).block _ hk).1)
        have HOW := Lib.hid hown
        have HB2 := Lib.hid hb2
        clear R1 hbn hgrow hown hb2
        have HRUN := Lib.hid hrun
        clear hrun
        have tok : True := trivial
        go_wp2_with (have _t := tok; at_builtin; refine wpList_appU rfl (.tmp 72) (.tmp 74) 112 rfl rfl rfl HRUN.out ?_; clear tok HRUN)
        exact ⟨⟨j + 1, j + 1, vs ++ [v], by go_num, by go_num, by omega, by simp; omega, HR, HOW, HB2⟩, by simp [intOf]; omega⟩
     all_goals
      rw [hm]
      unfold rp
      dsimp only
      clear HP HM
      go_wp2_with fail
      refine (HG.out _).mono ?_
      rintro e w1 ⟨hg, rfl⟩
      clear HG hm
      cases hgv : grpV p with
      | none =>
       rw [hgv] at hg
       obtain ⟨x, rfl⟩ := hg
       have HR := Lib.hid (HN.out hgv)
       clear hgv HN HS
       go_wp2
       go_ret2
       exact ⟨by rw [HR.out]; rfl, hB.out⟩
      | some v =>
       rw [hgv] at hg
       obtain rfl : e = .returned (.tuple #[.int .u16 v, .bool true]) := hg
       have HR := Lib.hid (HS.out v hgv)
       clear hgv HN HS
       have R1 := Row.new wr #[.int .u16 (v : Int)] 106
       have hbn : Below wr.heap.size wr (wr.alloc (.cells #[.int .u16 (v : Int)] 106)) := (Below.refl _ _).alloc (Nat.le_refl _) _
       obtain ⟨v', w2, hrun, hown, hgrow⟩ := appU_run (m := [v]) 112 (hO.out.later hbn) wr.heap.size 1 (fun j x hx => by
        rcases j with _ | j
        ·cases hx; exact (R1.cell 0).trans rfl
        ·simp at hx) (by simp; omega) (Nat.le_trans hB.out.size hbn.size)
       have hb2 := (below_step hB.out hbn).grown hgrow (Nat.le_trans hB.out.size hbn.size) (fun k hk => ((hO.out.later hbn).block _ hk).1)
       have HOW := Lib.hid hown
       have HB2 := Lib.hid hb2
       clear R1 hbn hgrow hown hb2
       have HRUN := Lib.hid hrun
       clear hrun
       have tok : True := trivial
       go_wp2_with (have _t := tok; at_builtin; refine wpList_appU rfl (.tmp 72) (.tmp 74) 112 rfl rfl rfl HRUN.out ?_; clear tok HRUN)
       exact ⟨⟨j + 1, j + 1, vs ++ [v], by go_num, by go_num, by omega, by simp; omega, HR, HOW, HB2⟩, by simp [intOf]; omega⟩
    ·have e1 : ¬ (c.toNat : Int) = 58 := fun h => hc (UInt8.toNat_inj.1 (by show c.toNat = 58; omega))
     have e2 : ((c.toNat : Int) == 58) = false := by rw [beq_eq_false_iff_ne]; exact e1
     have e3 : ((c.toNat : Int) != 58) = true := by simpa using e1
     have HN := Lib.hid (HNX.out hc)
     clear HNX HPT hc
     go_wp2
     exact ⟨⟨fr, j + 1, vs, rfl, by go_num, by omega, by omega, HN, hO, hB⟩, by simp [intOf]; omega⟩
   ·by_cases hend : j = l.length
    ·subst hend
     have hle' : (l.length : Int) ≤ (l.length : Int) := by omega
     obtain ⟨hfj, hlast⟩ := hI.out.last
     have hfj' : (fr : Int) ≤ (l.length : Int) := by omega
     have hpl : ((l.take l.length).drop fr).length ≤ 2000000 := by simp; omega
     have hP := rparse4_t ((l.take l.length).drop fr) hpl
     have hG := group_t ((l.take l.length).drop fr) hpl
     rw [← ext_l6] at hP hG
     have HP := Lib.hid hP
     have HG := Lib.hid hG
     have HL := Lib.hid hlast
     have HM := Lib.hid (mach_part ((l.take l.length).drop fr))
     clear hP hG hpl hlast hI
     generalize (l.take l.length).drop fr = p at *
     go_wp2_with fail
     refine (HP.out _).mono ?_
     rintro e w1 ⟨rfl, rfl⟩
     rcases HM.out with ⟨av, hm, hp4, hav⟩ | ⟨hm, hp4⟩
     ·cases d
      ·have HL2 : Hid (seqV false (splitC l) = ((grpV p).map fun v => [v]).map fun us => vs ++ us) := Lib.hid (by rw [HL.out]; unfold lastV; rw [if_neg (by simp)])
       clear HL hp4
       rw [hm]
       unfold rp
       dsimp only
       clear HP HM
       go_wp2_with fail
       refine (HG.out _).mono ?_
       rintro e w1 ⟨hg, rfl⟩
       clear HG hm
       cases hgv : grpV p with
       | none =>
        rw [hgv] at hg
        obtain ⟨x, rfl⟩ := hg
        have HR := Lib.hid (HL2.out.trans (by first | (rw [hgv]; done) | (rw [hgv]; rfl)))
        clear hgv HL2
        go_wp2
        go_ret2
        exact ⟨by rw [HR.out]; rfl, hB.out⟩
       | some v =>
        rw [hgv] at hg
        obtain rfl : e = .returned (.tuple #[.int .u16 v, .bool true]) := hg
        have HR := Lib.hid (HL2.out.trans (by rw [hgv]; rfl : _ = some (vs ++ [v])))
        clear hgv HL2
        have R1 := Row.new wr #[.int .u16 (v : Int)] 106
        have hbn : Below wr.heap.size wr (wr.alloc (.cells #[.int .u16 (v : Int)] 106)) := (Below.refl _ _).alloc (Nat.le_refl _) _
        obtain ⟨v', w2, hrun, hown, hgrow⟩ := appU_run (m := [v]) 112 (hO.out.later hbn) wr.heap.size 1 (fun j x hx => by
         rcases j with _ | j
         ·cases hx; exact (R1.cell 0).trans rfl
         ·simp at hx) (by simp; omega) (Nat.le_trans hB.out.size hbn.size)
        have hb2 := (below_step hB.out hbn).grown hgrow (Nat.le_trans hB.out.size hbn.size) (fun k hk => ((hO.out.later hbn).block _ hk).1)
        have HOW := Lib.hid hown
        have HB2 := Lib.hid hb2
        clear R1 hbn hgrow hown hb2
        have HRUN := Lib.hid hrun
        clear hrun
        have tok : True := trivial
        go_wp2_with (have _t := tok; at_builtin; refine wpList_appU rfl (.tmp 72) (.tmp 74) 112 rfl rfl rfl HRUN.out ?_; clear tok HRUN)
        exact ⟨⟨l.length + 1, l.length + 1, vs ++ [v], by go_num, by go_num, by omega, by simp; omega, Lib.hid (.inr ⟨rfl, HR.out⟩), HOW, HB2⟩, by simp [intOf]⟩
      ·have HL2 : Hid (seqV true (splitC l) = some (vs ++ [av / 65536, av % 65536])) := Lib.hid (by rw [HL.out]; unfold lastV; rw [hp4, if_pos ⟨rfl, rfl⟩]; simp)
       rw [hm]
       unfold rp
       dsimp only
       clear HL hp4 HP HM HG hm
       have a0 : 0 ≤ (av : Int) := by omega
       have a1 : (av : Int) < 4294967296 := by omega
       have q1 : IntKind.u16.wrap ((av : Int) / 65536) = (av : Int) / 65536 := by simp [IntKind.wrap, IntKind.bits, IntKind.signed]; omega
       have q2 : IntKind.u16.wrap ((av : Int) % 65536) = (av : Int) % 65536 := by simp [IntKind.wrap, IntKind.bits, IntKind.signed]
       have R1 := Row.new wr #[.int .u16 ((av : Int) / 65536), .int .u16 ((av : Int) % 65536)] 106
       have hbn : Below wr.heap.size wr (wr.alloc (.cells #[.int .u16 ((av : Int) / 65536), .int .u16 ((av : Int) % 65536)] 106)) := (Below.refl _ _).alloc (Nat.le_refl _) _
       obtain ⟨v', w2, hrun, hown, hgrow⟩ := appU_run (m := [av / 65536, av % 65536]) 112 (hO.out.later hbn) wr.heap.size 2 (fun j x hx => by
        rcases j with _ | _ | j
        ·cases hx; exact (R1.cell 0).trans (congrArg (fun z => some (Value.int .u16 z)) (by omega))
        ·cases hx; exact (R1.cell 1).trans (congrArg (fun z => some (Value.int .u16 z)) (by omega))
        ·simp at hx) (by simp; omega) (Nat.le_trans hB.out.size hbn.size)
       have hb2 := (below_step hB.out hbn).grown hgrow (Nat.le_trans hB.out.size hbn.size) (fun k hk => ((hO.out.later hbn).block _ hk).1)
       have HOW := Lib.hid hown
       have HB2 := Lib.hid hb2
       clear R1 hbn hgrow hown hb2
       have HRUN := Lib.hid hrun
       clear hrun
       have tok : True := trivial
       go_wp2_with (have _t := tok; at_builtin; refine wpList_appU rfl (.tmp 56) (.tmp 63) 112 rfl rfl rfl HRUN.out ?_; clear tok HRUN)
       go_ret2
       exact ⟨by rw [HL2.out]; exact ⟨_, rfl, HOW.out⟩, HB2.out⟩
     ·have HL2 : Hid (seqV d (splitC l) = ((grpV p).map fun v => [v]).map fun us => vs ++ us) := Lib.hid (by rw [HL.out]; unfold lastV; rw [if_neg (by rw [hp4]; simp)])
      clear HL hp4
      rw [hm]
      unfold rp
      dsimp only
      clear HP HM
      go_wp2_with fail
      refine (HG.out _).mono ?_
      rintro e w1 ⟨hg, rfl⟩
      clear HG hm
      cases hgv : grpV p with
      | none =>
       rw [hgv] at hg
       obtain ⟨x, rfl⟩ := hg
       have HR := Lib.hid (HL2.out.trans (by first | (rw [hgv]; done) | (rw [hgv]; rfl)))
       clear hgv HL2
       go_wp2
       go_ret2
       exact ⟨by rw [HR.out]; rfl, hB.out⟩
      | some v =>
       rw [hgv] at hg
       obtain rfl : e = .returned (.tuple #[.int .u16 v, .bool true]) := hg
       have HR := Lib.hid (HL2.out.trans (by rw [hgv]; rfl : _ = some (vs ++ [v])))
       clear hgv HL2
       have R1 := Row.new wr #[.int .u16 (v : Int)] 106
       have hbn : Below wr.heap.size wr (wr.alloc (.cells #[.int .u16 (v : Int)] 106)) := (Below.refl _ _).alloc (Nat.le_refl _) _
       obtain ⟨v', w2, hrun, hown, hgrow⟩ := appU_run (m := [v]) 112 (hO.out.later hbn) wr.heap.size 1 (fun j x hx => by
        rcases j with _ | j
        ·cases hx; exact (R1.cell 0).trans rfl
        ·simp at hx) (by simp; omega) (Nat.le_trans hB.out.size hbn.size)
       have hb2 := (below_step hB.out hbn).grown hgrow (Nat.le_trans hB.out.size hbn.size) (fun k hk => ((hO.out.later hbn).block _ hk).1)
       have HOW := Lib.hid hown
       have HB2 := Lib.hid hb2
       clear R1 hbn hgrow hown hb2
       have HRUN := Lib.hid hrun
       clear hrun
       have tok : True := trivial
       go_wp2_with (have _t := tok; at_builtin; refine wpList_appU rfl (.tmp 72) (.tmp 74) 112 rfl rfl rfl HRUN.out ?_; clear tok HRUN)
       exact ⟨⟨l.length + 1, l.length + 1, vs ++ [v], by go_num, by go_num, by omega, by simp; omega, Lib.hid (.inr ⟨rfl, HR.out⟩), HOW, HB2⟩, by simp [intOf]⟩
    ·have hj2 : j = l.length + 1 := by omega
     have hres : seqV d (splitC l) = some vs := by
      rcases hI.out with ⟨_, h, _⟩ | ⟨_, h⟩
      ·omega
      ·exact h
     have HR := Lib.hid hres
     have hgt : ¬ (j : Int) ≤ (l.length : Int) := by omega
     have hgt2 : (l.length : Int) < (j : Int) := by omega
     clear hres hI hj2 hend
     go_wp2
     go_ret2
     exact ⟨by rw [HR.out]; exact ⟨_, rfl, hO.out⟩, hB.out⟩
end Go.Proofs.YtboinifeemghaaaGreatDoor
