/- Six11, Six12, Four5, Six13, SixB, Six14, SixR1, SixR2, Four6, Four7, SixR4, SixR5, SixR6, SixR7, SixR8, RA, N1, N2, N3, N4: what the theorem needs of these texts. No conditions beyond those that are written. -/
import Derived.Test.YtboinifeemghaaaGreatDoorAJShelf
set_option linter.unusedSimpArgs false
set_option linter.unusedVariables false
set_option maxHeartbeats 4000000
set_option maxRecDepth 100000
namespace Go.Proofs.YtboinifeemghaaaGreatDoor
open Go.RowKit
theorem arrLen8 : Tryz.prog.arrayLen 107 = 8 := by kernel_rfl
theorem arrElem8 : Tryz.prog.elem 107 = 106 := by kernel_rfl
theorem arrU8 : Tryz.prog.underlying 107 = some (.array (Tryz.prog.arrayLen 107) (Tryz.prog.elem 107)) := by rw [arrLen8, arrElem8]; exact Tryz.underlying107
theorem cutL8 (w : World) (g k : Nat) (h : k ≤ 8) : (Instr.sliceAt 107 (.pointer (some ⟨g, 0, none⟩)) (some (.int .i64 (k : Int))) none none).run Tryz.prog w = .ok (.slice (some ⟨g, if k = 8 then 0 else k, none⟩) (8 - k) (8 - k)) w := by
 rw [run_sliceAt_array_l (P := Tryz.prog) w 107 ⟨g, 0, none⟩ arrU8 .i64 (k : Int) (by omega) (by rw [arrLen8]; omega)]
 rw [arrLen8, arrElem8]
 by_cases e : k = 8
 ·subst e; simp [go_sem]
 ·have e' : ¬ 8 = k := fun h => e h.symm
  simp [go_sem, e, e']
theorem cutH8 (w : World) (g k : Nat) (h : k ≤ 8) : (Instr.sliceAt 107 (.pointer (some ⟨g, 0, none⟩)) none (some (.int .i64 (k : Int))) none).run Tryz.prog w = .ok (.slice (some ⟨g, 0, none⟩) k 8) w := by
 rw [run_sliceAt_array_h (P := Tryz.prog) w 107 ⟨g, 0, none⟩ arrU8 .i64 (k : Int) (by omega) (by rw [arrLen8]; omega)]
 rw [arrLen8, arrElem8]
 simp [go_sem]
theorem cutAll8 (w : World) (g : Nat) : (Instr.sliceAt 107 (.pointer (some ⟨g, 0, none⟩)) none none none).run Tryz.prog w = .ok (.slice (some ⟨g, 0, none⟩) 8 8) w := by
 rw [run_sliceAt_array_all (P := Tryz.prog) w 107 ⟨g, 0, none⟩ arrU8]
 rw [arrLen8, arrElem8]
 simp [go_sem]
theorem u16size : (Tryz.prog.info? 106).map (·.size) = some 1 := by kernel_rfl
theorem parse6_seqR (l : List UInt8) : parse6 l = match seqR (!(cc l).2.2) (cc l).1, seqR true (cc l).2.1 with
  | some u, some v => if fits (cc l).2.2 u v = true then some (u ++ List.replicate (8 - u.length - v.length) 0 ++ v) else none
  | _, _ => none := by
 unfold parse6 seqR
 have hcv : (cc l).2.2 = false → (cc l).2.1 = [] := by
  unfold cc Lib.cut
  split <;> simp
 cases hu : readV (!(cc l).2.2) (cc l).1 with
 | none => rfl
 | some u =>
  cases hv : readV true (cc l).2.1 with
  | none =>
   dsimp only
   split
   ·rename_i h; cases h
   ·rfl
  | some v =>
   dsimp only
   have hf : fits (cc l).2.2 u v = true → u.length ≤ 8 ∧ v.length ≤ 8 := fun h => by
    unfold fits at h
    cases hc : (cc l).2.2 with
    | true => rw [hc] at h; simp at h; omega
    | false =>
     rw [hc] at h; simp at h
     rw [hcv hc] at hv
     unfold readV at hv
     rw [if_pos rfl] at hv
     cases hv
     simp; omega
   by_cases hq : fits (cc l).2.2 u v = true
   ·rw [if_pos hq, if_pos (hf hq).1, if_pos (hf hq).2]
    simp only [if_pos hq]
   ·rw [if_neg hq]
    split
    ·rename_i a b h1 h2
     split at h1
     ·cases h1
      split at h2
      ·cases h2; rw [if_neg hq]
      ·cases h2
     ·cases h1
    ·rfl
theorem cc_len (l : List UInt8) : (cc l).1.length ≤ l.length ∧ (cc l).2.1.length ≤ l.length := by
 unfold cc Lib.cut
 split
 ·simp; omega
 ·simp
theorem lf_range {vs : List Nat} (h : ∀ v ∈ vs, v ≤ 65535) (i : Nat) : 0 ≤ lf vs i ∧ lf vs i ≤ 65535 := by
 unfold lf
 by_cases hi : i < vs.length
 ·have := h _ (List.getElem_mem hi)
  simp [List.getElem?_eq_getElem hi]
  omega
 ·simp [List.getElem?_eq_none (show vs.length ≤ i by omega)]
theorem seqR_is {d : Bool} {l : List UInt8} {vs : List Nat} (h : seqR d l = some vs) : readV d l = some vs ∧ vs.length ≤ 8 := by
 unfold seqR at h
 split at h
 ·rename_i us hu
  split at h
  ·cases h; exact ⟨hu, by assumption⟩
  ·cases h
 ·cases h
def valsV (vs : List Nat) : List Value := vs.map fun (v : Nat) => Value.int .u16 (v : Int)
theorem valsV_get (vs : List Nat) (j : Nat) (h : j < vs.length) : (valsV vs)[j]? = some (.int .u16 (lf vs j)) := by
 unfold valsV lf
 simp [List.getElem?_map, List.getElem?_eq_getElem h]
theorem splice_cells (u v : List Nat) (h : u.length + v.length ≤ 8) : (Go.splice (cellsV u).toList (8 - v.length) (valsV v)).toArray = cellsV (u ++ List.replicate (8 - u.length - v.length) 0 ++ v) := by
 have hvl : (valsV v).length = v.length := by simp [valsV]
 apply Array.ext_getElem?
 intro i
 rw [List.getElem?_toArray]
 unfold Go.splice
 by_cases hi : i < 8
 ·rw [cellsV_get _ i hi]
  by_cases h1 : i < 8 - v.length
  ·rw [List.getElem?_append_left (by simp [cellsV_size]; omega), List.getElem?_take_of_lt h1]
   rw [Array.getElem?_toList, cellsV_get u i hi]
   congr 2
   unfold lf
   congr 1
   by_cases h2 : i < u.length
   ·simp [List.append_assoc, List.getElem?_append_left h2]
   ·rw [List.append_assoc, List.getD, List.getD, List.getElem?_append_right (by omega), List.getElem?_append_left (by simp; omega)]
    simp [List.getElem?_eq_none (show u.length ≤ i by omega), List.getElem?_replicate]
    split <;> rfl
  ·rw [List.getElem?_append_right (by simp [cellsV_size]; omega)]
   have e1 : i - (List.take (8 - v.length) (cellsV u).toList).length = i - (8 - v.length) := by simp [cellsV_size]
   rw [e1, List.getElem?_append_left (by rw [hvl]; omega), valsV_get v _ (by omega)]
   congr 2
   unfold lf
   congr 1
   rw [List.getD, List.getD, List.getElem?_append_right (by simp; omega)]
   congr 2
   simp
   omega
 ·rw [Array.getElem?_eq_none (by rw [cellsV_size]; omega), List.getElem?_eq_none]
  simp [cellsV_size, hvl]
  omega
theorem valsV_one (v : List Nat) : ∀ x ∈ valsV v, x.oneCell' = true := by
 intro x hx
 unfold valsV at hx
 obtain ⟨a, _, rfl⟩ := List.mem_map.1 hx
 rfl
def ParPost (o : Option (List Nat)) (w : World) (e : Ending) (w' : World) : Prop := (match o with
 | some gs => e = .returned (.tuple #[.agg #[.int .u64 (hi (ofN (lf gs) 8)), .int .u64 (lo (ofN (lf gs) 8))], .int .i64 0])
 | none => e = .returned (.tuple #[.agg #[.int .u64 0, .int .u64 0], .int .i64 3])) ∧ Below w.heap.size w w'
theorem parse6_t (l : List UInt8) (hl : l.length ≤ 4000000000) (w : World) (hE : Env w) : Calls Tryz.prog 57 #[.string ⟨l.toArray⟩] w (ParPost (parse6 l) w) := by
 have hcl := cc_len l
 have HP0 := Lib.hid (parse6_seqR l)
 have hcut := fun w0 (h : Env w0) => cutb_t l [58, 58] hl w0 h
 have hcc : Lib.cut l [58, 58] = cc l := rfl
 rw [hcc] at hcut
 obtain ⟨⟨b, a, short⟩, hc⟩ : ∃ c, c = cc l := ⟨_, rfl⟩
 rw [← hc] at hcut hcl HP0
 dsimp only at hcut hcl HP0
 have HSA : Hid (short = false → a = []) := Lib.hid (by
  intro hs
  have h2 : short = (cc l).2.2 := by rw [← hc]
  have h3 : a = (cc l).2.1 := by rw [← hc]
  rw [h2] at hs
  rw [h3]
  revert hs
  unfold cc Lib.cut
  split <;> simp)
 clear hc hcc
 generalize parse6 l = pr at *
 go_enter Tryz.func57, Tryz.ntmps57
 go_wp2_with fail
 have R0 := Row.new w #[.int .u64 0, .int .u64 0] 73
 have hb0 : Below w.heap.size w (w.alloc (.cells #[.int .u64 0, .int .u64 0] 73)) := (Below.refl _ _).alloc (Nat.le_refl _) _
 generalize w.alloc (.cells #[.int .u64 0, .int .u64 0] 73) = w0 at *
 refine (hcut w0 (hE.later hb0)).mono ?_
 rintro e w1 ⟨rfl, hb1⟩
 have HR := Lib.hid (R0.later hb1)
 have HB := Lib.hid (below_step hb0 hb1)
 clear R0 hb0 hb1 hcut
 have hS1 := seq_t (!short) b (by omega) w1 (hE.later HB.out)
 have HS1 := Lib.hid hS1
 clear hS1
 go_wp2_with fail
 refine HS1.out.mono ?_
 rintro e w2 hP
 clear HS1
 cases hu : seqR (!short) b with
 | none =>
  rw [hu] at hP
  obtain ⟨rfl, hb2⟩ := hP
  have HP : Hid (pr = none) := Lib.hid (by have := HP0.out; rw [hu] at this; exact this)
  have HR2 := Lib.hid (HR.out.later hb2)
  have HB2 := Lib.hid (below_step HB.out hb2)
  clear HR HB hb2 hu HP0
  unfold arr8
  have r0 := (HR2.out.cell 0).trans (show _ = some (Value.int .u64 0) from rfl)
  have r1 := (HR2.out.cell 1).trans (show _ = some (Value.int .u64 0) from rfl)
  have f0 := HR2.out.frozen 0
  have f1 := HR2.out.frozen 1
  have hlt := HR2.out.lt
  have hne : ¬ w2.heap.size = w.heap.size := by omega
  have hne' : ¬ w.heap.size = w2.heap.size := by omega
  go_wp2
  have Q2 := ((HR2.out.set 0 (.int .u64 0)).set 1 (.int .u64 0)).alloc (.cells #[.int .u16 0, .int .u16 0, .int .u16 0, .int .u16 0, .int .u16 0, .int .u16 0, .int .u16 0, .int .u16 0] 107)
  have s0 := (Q2.cell 0).trans (show _ = some (Value.int .u64 0) from rfl)
  have s1 := (Q2.cell 1).trans (show _ = some (Value.int .u64 0) from rfl)
  have hbf := ((HB2.out.setCell (p := ⟨w.heap.size, 0, none⟩) (Nat.le_refl _) (.int .u64 0)).setCell (p := ⟨w.heap.size, 1, none⟩) (Nat.le_refl _) (.int .u64 0)).alloc (by simp; omega) (.cells #[.int .u16 0, .int .u16 0, .int .u16 0, .int .u16 0, .int .u16 0, .int .u16 0, .int .u16 0, .int .u16 0] 107)
  clear r0 r1 f0 f1
  exact bodyPost_ret (v := .tuple #[.agg #[.int .u64 0, .int .u64 0], .int .i64 3]) (by simp only [results, Tryz.results57]; simp [go_sem, s0, s1]) rfl (by rw [HP.out]; exact ⟨rfl, hbf⟩)
 | some u =>
  rw [hu] at hP
  obtain ⟨rfl, hb2⟩ := hP
  have HR2 := Lib.hid (HR.out.later hb2)
  have HB2 := Lib.hid (below_step HB.out hb2)
  have hu8 := (seqR_is hu).2
  have HUL := Lib.hid (readV_lt (seqR_is hu).1)
  have HP1 : Hid (pr = match seqR true a with | some v => if fits short u v = true then some (u ++ List.replicate (8 - u.length - v.length) 0 ++ v) else none | none => none) := Lib.hid (by have := HP0.out; rw [hu] at this; rw [this]; cases seqR true a <;> rfl)
  clear HR HB hb2 hu HP0
  unfold arr8
  have hS2 := fun w3 (h : Env w3) => seq_t true a (by omega) w3 h
  have HS2 := Lib.hid hS2
  clear hS2
  go_wp2_with fail
  have Rgw3 := Row.new w2 #[.int .u16 (lf u 0), .int .u16 (lf u 1), .int .u16 (lf u 2), .int .u16 (lf u 3), .int .u16 (lf u 4), .int .u16 (lf u 5), .int .u16 (lf u 6), .int .u16 (lf u 7)] 107
  have hbw3 : Below w2.heap.size w2 (w2.alloc (.cells #[.int .u16 (lf u 0), .int .u16 (lf u 1), .int .u16 (lf u 2), .int .u16 (lf u 3), .int .u16 (lf u 4), .int .u16 (lf u 5), .int .u16 (lf u 6), .int .u16 (lf u 7)] 107)) := (Below.refl _ _).alloc (Nat.le_refl _) _
  generalize (w2.alloc (.cells #[.int .u16 (lf u 0), .int .u16 (lf u 1), .int .u16 (lf u 2), .int .u16 (lf u 3), .int .u16 (lf u 4), .int .u16 (lf u 5), .int .u16 (lf u 6), .int .u16 (lf u 7)] 107)) = w3 at *
  have HR3 := Lib.hid (HR2.out.later hbw3)
  have HB3 := Lib.hid (below_step HB2.out hbw3)
  have HG := Lib.hid Rgw3
  have hg1 := HR2.out.lt
  generalize hg : w2.heap.size = g at *
  have hgw : w.heap.size < g := by omega
  clear HR2 HB2 hbw3 Rgw3 hg hg1
  refine (HS2.out w3 (hE.later HB3.out)).mono ?_
  rintro e w4 hP
  clear HS2
  cases hv : seqR true a with
  | none =>
   rw [hv] at hP
   obtain ⟨rfl, hb4⟩ := hP
   have HP : Hid (pr = none) := Lib.hid (by have := HP1.out; rw [hv] at this; exact this)
   have HR4 := Lib.hid (HR3.out.later hb4)
   have HB4 := Lib.hid (below_step HB3.out hb4)
   clear HR3 HB3 hb4 hv HP1 HG
   unfold arr8
   have r0 := (HR4.out.cell 0).trans (show _ = some (Value.int .u64 0) from rfl)
   have r1 := (HR4.out.cell 1).trans (show _ = some (Value.int .u64 0) from rfl)
   have f0 := HR4.out.frozen 0
   have f1 := HR4.out.frozen 1
   have hlt := HR4.out.lt
   have hne : ¬ w4.heap.size = w.heap.size := by omega
   have hne' : ¬ w.heap.size = w4.heap.size := by omega
   go_wp2
   have Q2 := ((HR4.out.set 0 (.int .u64 0)).set 1 (.int .u64 0)).alloc (.cells #[.int .u16 0, .int .u16 0, .int .u16 0, .int .u16 0, .int .u16 0, .int .u16 0, .int .u16 0, .int .u16 0] 107)
   have s0 := (Q2.cell 0).trans (show _ = some (Value.int .u64 0) from rfl)
   have s1 := (Q2.cell 1).trans (show _ = some (Value.int .u64 0) from rfl)
   have hbf := ((HB4.out.setCell (p := ⟨w.heap.size, 0, none⟩) (Nat.le_refl _) (.int .u64 0)).setCell (p := ⟨w.heap.size, 1, none⟩) (Nat.le_refl _) (.int .u64 0)).alloc (by simp; omega) (.cells #[.int .u16 0, .int .u16 0, .int .u16 0, .int .u16 0, .int .u16 0, .int .u16 0, .int .u16 0, .int .u16 0] 107)
   clear r0 r1 f0 f1
   exact bodyPost_ret (v := .tuple #[.agg #[.int .u64 0, .int .u64 0], .int .i64 3]) (by simp only [results, Tryz.results57]; simp [go_sem, s0, s1]) rfl (by rw [HP.out]; exact ⟨rfl, hbf⟩)
  | some v =>
   rw [hv] at hP
   obtain ⟨rfl, hb4⟩ := hP
   have HR4 := Lib.hid (HR3.out.later hb4)
   have HB4 := Lib.hid (below_step HB3.out hb4)
   have HG4 := Lib.hid (HG.out.later hb4)
   have hv8 := (seqR_is hv).2
   have HVL := Lib.hid (readV_lt (seqR_is hv).1)
   have HVS : Hid (short = false → v = []) := Lib.hid (fun h => by
    have h1 := (seqR_is hv).1
    rw [HSA.out h] at h1
    unfold readV at h1
    rw [if_pos rfl] at h1
    cases h1; rfl)
   have HP2 : Hid (pr = if fits short u v = true then some (u ++ List.replicate (8 - u.length - v.length) 0 ++ v) else none) := Lib.hid (by have := HP1.out; rw [hv] at this; exact this)
   clear HR3 HB3 hb4 hv HP1 HG
   unfold arr8
   have hcs : (fits short u v = false ∧ ((short = true ∧ 8 ≤ u.length + v.length) ∨ (short = false ∧ u.length ≠ 8))) ∨ (fits short u v = true ∧ ((short = true ∧ u.length + v.length ≤ 7) ∨ (short = false ∧ u.length = 8))) := by
    unfold fits
    cases short <;> simp <;> omega
   have hnn : u.length + v.length ≤ 16 := by omega
   rcases hcs with ⟨hft, ⟨rfl, h9⟩ | ⟨rfl, h9⟩⟩ | ⟨hft, hok⟩
   ·have HP : Hid (pr = none) := Lib.hid (by rw [HP2.out, hft]; rfl)
    have h9' : (8 : Int) ≤ (u.length : Int) + (v.length : Int) := by omega
    clear HP2 hft HG4 HUL HVL
    have r0 := (HR4.out.cell 0).trans (show _ = some (Value.int .u64 0) from rfl)
    have r1 := (HR4.out.cell 1).trans (show _ = some (Value.int .u64 0) from rfl)
    have f0 := HR4.out.frozen 0
    have f1 := HR4.out.frozen 1
    have hlt := HR4.out.lt
    have hne : ¬ w4.heap.size = w.heap.size := by omega
    have hne' : ¬ w.heap.size = w4.heap.size := by omega
    go_wp2
    have Q2 := ((HR4.out.set 0 (.int .u64 0)).set 1 (.int .u64 0)).alloc (.cells #[.int .u16 (lf v 0), .int .u16 (lf v 1), .int .u16 (lf v 2), .int .u16 (lf v 3), .int .u16 (lf v 4), .int .u16 (lf v 5), .int .u16 (lf v 6), .int .u16 (lf v 7)] 107)
    have s0 := (Q2.cell 0).trans (show _ = some (Value.int .u64 0) from rfl)
    have s1 := (Q2.cell 1).trans (show _ = some (Value.int .u64 0) from rfl)
    have hbf := ((HB4.out.setCell (p := ⟨w.heap.size, 0, none⟩) (Nat.le_refl _) (.int .u64 0)).setCell (p := ⟨w.heap.size, 1, none⟩) (Nat.le_refl _) (.int .u64 0)).alloc (by simp; omega) (.cells #[.int .u16 (lf v 0), .int .u16 (lf v 1), .int .u16 (lf v 2), .int .u16 (lf v 3), .int .u16 (lf v 4), .int .u16 (lf v 5), .int .u16 (lf v 6), .int .u16 (lf v 7)] 107)
    clear r0 r1 f0 f1
    exact bodyPost_ret (v := .tuple #[.agg #[.int .u64 0, .int .u64 0], .int .i64 3]) (by simp only [results, Tryz.results57]; simp [go_sem, s0, s1]) rfl (by rw [HP.out]; exact ⟨rfl, hbf⟩)
   ·have HP : Hid (pr = none) := Lib.hid (by rw [HP2.out, hft]; rfl)
    have h9' : ¬ (u.length : Int) = 8 := by omega
    clear HP2 hft HG4 HUL HVL
    have r0 := (HR4.out.cell 0).trans (show _ = some (Value.int .u64 0) from rfl)
    have r1 := (HR4.out.cell 1).trans (show _ = some (Value.int .u64 0) from rfl)
    have f0 := HR4.out.frozen 0
    have f1 := HR4.out.frozen 1
    have hlt := HR4.out.lt
    have hne : ¬ w4.heap.size = w.heap.size := by omega
    have hne' : ¬ w.heap.size = w4.heap.size := by omega
    go_wp2
    have Q2 := ((HR4.out.set 0 (.int .u64 0)).set 1 (.int .u64 0)).alloc (.cells #[.int .u16 (lf v 0), .int .u16 (lf v 1), .int .u16 (lf v 2), .int .u16 (lf v 3), .int .u16 (lf v 4), .int .u16 (lf v 5), .int .u16 (lf v 6), .int .u16 (lf v 7)] 107)
    have s0 := (Q2.cell 0).trans (show _ = some (Value.int .u64 0) from rfl)
    have s1 := (Q2.cell 1).trans (show _ = some (Value.int .u64 0) from rfl)
    have hbf := ((HB4.out.setCell (p := ⟨w.heap.size, 0, none⟩) (Nat.le_refl _) (.int .u64 0)).setCell (p := ⟨w.heap.size, 1, none⟩) (Nat.le_refl _) (.int .u64 0)).alloc (by simp; omega) (.cells #[.int .u16 (lf v 0), .int .u16 (lf v 1), .int .u16 (lf v 2), .int .u16 (lf v 3), .int .u16 (lf v 4), .int .u16 (lf v 5), .int .u16 (lf v 6), .int .u16 (lf v 7)] 107)
    clear r0 r1 f0 f1
    exact bodyPost_ret (v := .tuple #[.agg #[.int .u64 0, .int .u64 0], .int .i64 3]) (by simp only [results, Tryz.results57]; simp [go_sem, s0, s1]) rfl (by rw [HP.out]; exact ⟨rfl, hbf⟩)
   ·have HP := Lib.hid (HP2.out.trans (by rw [hft]; rfl) : pr = some (u ++ List.replicate (8 - u.length - v.length) 0 ++ v))
    clear HP2 hft
    rcases hok with ⟨rfl, h9⟩ | ⟨rfl, h9⟩
    ·have huv : u.length + v.length ≤ 8 := by omega
     have h9' : (u.length : Int) + (v.length : Int) < 8 := by omega
     have qw : IntKind.i64.wrap (8 - (v.length : Int)) = 8 - (v.length : Int) := by simp [IntKind.wrap, IntKind.bits, IntKind.signed]; omega
     clear HVS
     go_wp2_with fail
     have Rgw5 := Row.new w4 #[.int .u16 (lf v 0), .int .u16 (lf v 1), .int .u16 (lf v 2), .int .u16 (lf v 3), .int .u16 (lf v 4), .int .u16 (lf v 5), .int .u16 (lf v 6), .int .u16 (lf v 7)] 107
     have hbw5 : Below w4.heap.size w4 (w4.alloc (.cells #[.int .u16 (lf v 0), .int .u16 (lf v 1), .int .u16 (lf v 2), .int .u16 (lf v 3), .int .u16 (lf v 4), .int .u16 (lf v 5), .int .u16 (lf v 6), .int .u16 (lf v 7)] 107)) := (Below.refl _ _).alloc (Nat.le_refl _) _
     generalize (w4.alloc (.cells #[.int .u16 (lf v 0), .int .u16 (lf v 1), .int .u16 (lf v 2), .int .u16 (lf v 3), .int .u16 (lf v 4), .int .u16 (lf v 5), .int .u16 (lf v 6), .int .u16 (lf v 7)] 107)) = w5 at *
     have HR5 := Lib.hid (HR4.out.later hbw5)
     have HB5 := Lib.hid (below_step HB4.out hbw5)
     have HG5 := Lib.hid (HG4.out.later hbw5)
     have HT5 := Lib.hid Rgw5
     have hg4 := HG4.out.lt
     generalize hgt : w4.heap.size = gt at *
     clear HR4 HB4 HG4 hbw5 Rgw5 hgt
     obtain ⟨o8, ho8⟩ : ∃ o8 : Nat, o8 = if 8 - v.length = 8 then 0 else 8 - v.length := ⟨_, rfl⟩
     have hcL : ∀ wq : World, (Instr.sliceAt 107 (.pointer (some ⟨g, 0, none⟩)) (some (.int .i64 (8 - (v.length : Int)))) none none).run Tryz.prog wq = .ok (.slice (some ⟨g, o8, none⟩) v.length v.length) wq := fun wq => by
      have h := cutL8 wq g (8 - v.length) (by omega)
      rw [← ho8, show ((8 - v.length : Nat) : Int) = 8 - (v.length : Int) by omega, show 8 - (8 - v.length) = v.length by omega] at h
      exact h
     have hcH : ∀ wq : World, (Instr.sliceAt 107 (.pointer (some ⟨gt, 0, none⟩)) none (some (.int .i64 (v.length : Int))) none).run Tryz.prog wq = .ok (.slice (some ⟨gt, 0, none⟩) v.length 8) wq := fun wq => cutH8 wq gt v.length hv8
     have HROW : Hid (w5.drew.heap[g]? = some (.cells (cellsV u).toList.toArray 107 (0, 0))) := Lib.hid (by rw [Array.toArray_toList]; exact HG5.out.drew)
     have HPOS : Hid (0 < (valsV v).length → (some (⟨g, o8, none⟩ : Addr)) = some ⟨g, 8 - v.length, none⟩ ∧ ∃ ad : Addr, (some (⟨gt, 0, none⟩ : Addr)) = some ad ∧ ∀ j x, (valsV v)[j]? = some x → w5.drew.cell? (ad.add j) = some x) := Lib.hid (by
      intro hp
      have hp' : 0 < v.length := by simpa [valsV] using hp
      refine ⟨by rw [ho8, if_neg (by omega)], ⟨gt, 0, none⟩, rfl, fun j x hx => ?_⟩
      have hj : j < v.length := by have := (List.getElem?_eq_some_iff.1 hx).1; simpa [valsV] using this
      rw [valsV_get v j hj] at hx
      cases hx
      rw [Addr.add_mid, Nat.zero_add]
      exact (HT5.out.drew.cell j).trans (cellsV_get v j (by omega)))
     have hvl : (valsV v).length = v.length := by simp [valsV]
     have HNN : Hid ((valsV v).length = Nat.min v.length v.length) := Lib.hid (by rw [hvl]; exact (Nat.min_self _).symm)
     have HFIT : Hid (8 - v.length + (valsV v).length ≤ (cellsV u).toList.length) := Lib.hid (by rw [hvl]; simp [cellsV_size]; omega)
     clear hvl ho8
     go_region_law (refine step_copy_splice rfl (.tmp 57) (.tmp 59) 112 112 rfl 106 Tryz.underlying112 u16size (some ⟨g, o8, none⟩) (some ⟨gt, 0, none⟩) v.length v.length v.length 8 (by simp [Act.eval, Act.put]) (by simp [Act.eval, Act.put]) g (8 - v.length) (cellsV u).toList 107 HROW.out (valsV v) HNN.out HPOS.out HFIT.out (valsV_one v) g w5.drew (Below.refl _ _) (Nat.le_refl _) ?_; intro w6 hg6 hb6)
     have HR6 := Lib.hid (HR5.out.drew.below hb6 hgw)
     have HB6 := Lib.hid (HB5.out.drew.trans (hb6.mono (Nat.le_of_lt hgw)))
     have R6 : Row w6 g (cellsV (u ++ List.replicate (8 - u.length - v.length) 0 ++ v)) 107 := by have := hg6.out; rw [splice_cells u v huv] at this; exact this
     have hrg : ∀ x ∈ u ++ List.replicate (8 - u.length - v.length) 0 ++ v, x ≤ 65535 := fun x hx => by
      simp only [List.mem_append, List.mem_replicate] at hx
      rcases hx with (hx | hx) | hx
      ·exact HUL.out x hx
      ·omega
      ·exact HVL.out x hx
     have HLR := Lib.hid (lf_range hrg)
     generalize u ++ List.replicate (8 - u.length - v.length) 0 ++ v = gs at *
     have xc0 := (R6.cell 0).trans (show _ = some (Value.int .u16 (lf gs 0)) from rfl)
     have xc1 := (R6.cell 1).trans (show _ = some (Value.int .u16 (lf gs 1)) from rfl)
     have xc2 := (R6.cell 2).trans (show _ = some (Value.int .u16 (lf gs 2)) from rfl)
     have xc3 := (R6.cell 3).trans (show _ = some (Value.int .u16 (lf gs 3)) from rfl)
     have xc4 := (R6.cell 4).trans (show _ = some (Value.int .u16 (lf gs 4)) from rfl)
     have xc5 := (R6.cell 5).trans (show _ = some (Value.int .u16 (lf gs 5)) from rfl)
     have xc6 := (R6.cell 6).trans (show _ = some (Value.int .u16 (lf gs 6)) from rfl)
     have xc7 := (R6.cell 7).trans (show _ = some (Value.int .u16 (lf gs 7)) from rfl)
     clear HG5 HT5 HROW HPOS HNN HFIT HR5 HB5 hg6 hb6 R6 hcL hcH hrg HUL HVL
     go_wp2_with fail
     refine (of8_t (lf gs) HLR.out w6).mono ?_
     rintro e w7 ⟨rfl, hb7⟩
     have HR7 := Lib.hid (HR6.out.later hb7)
     have HB7 := Lib.hid (below_step HB6.out hb7)
     clear HR6 HB6 hb7 HLR xc0 xc1 xc2 xc3 xc4 xc5 xc6 xc7
     have r0 := (HR7.out.cell 0).trans (show _ = some (Value.int .u64 0) from rfl)
     have r1 := (HR7.out.cell 1).trans (show _ = some (Value.int .u64 0) from rfl)
     have f0 := HR7.out.frozen 0
     have f1 := HR7.out.frozen 1
     go_wp2
     have Q2 := (HR7.out.set 0 (.int .u64 (hi (ofN (lf gs) 8)))).set 1 (.int .u64 (lo (ofN (lf gs) 8)))
     have s0 := (Q2.cell 0).trans (show _ = some (Value.int .u64 (hi (ofN (lf gs) 8))) from rfl)
     have s1 := (Q2.cell 1).trans (show _ = some (Value.int .u64 (lo (ofN (lf gs) 8))) from rfl)
     clear r0 r1 f0 f1
     exact bodyPost_ret (v := .tuple #[.agg #[.int .u64 (hi (ofN (lf gs) 8)), .int .u64 (lo (ofN (lf gs) 8))], .int .i64 0]) (by simp only [results, Tryz.results57]; simp [go_sem, s0, s1]) rfl (by rw [HP.out]; exact ⟨rfl, (HB7.out.setCell (p := ⟨w.heap.size, 0, none⟩) (Nat.le_refl _) _).setCell (p := ⟨w.heap.size, 1, none⟩) (Nat.le_refl _) _⟩)
    ·have huv : u.length + v.length ≤ 8 := by have h0 : v.length = 0 := (by rw [HVS.out rfl]; rfl); omega
     have h9' : (u.length : Int) = 8 := by omega
     have qw : IntKind.i64.wrap (8 - (v.length : Int)) = 8 - (v.length : Int) := by simp [IntKind.wrap, IntKind.bits, IntKind.signed]; omega
     clear HVS
     go_wp2_with fail
     have Rgw5 := Row.new w4 #[.int .u16 (lf v 0), .int .u16 (lf v 1), .int .u16 (lf v 2), .int .u16 (lf v 3), .int .u16 (lf v 4), .int .u16 (lf v 5), .int .u16 (lf v 6), .int .u16 (lf v 7)] 107
     have hbw5 : Below w4.heap.size w4 (w4.alloc (.cells #[.int .u16 (lf v 0), .int .u16 (lf v 1), .int .u16 (lf v 2), .int .u16 (lf v 3), .int .u16 (lf v 4), .int .u16 (lf v 5), .int .u16 (lf v 6), .int .u16 (lf v 7)] 107)) := (Below.refl _ _).alloc (Nat.le_refl _) _
     generalize (w4.alloc (.cells #[.int .u16 (lf v 0), .int .u16 (lf v 1), .int .u16 (lf v 2), .int .u16 (lf v 3), .int .u16 (lf v 4), .int .u16 (lf v 5), .int .u16 (lf v 6), .int .u16 (lf v 7)] 107)) = w5 at *
     have HR5 := Lib.hid (HR4.out.later hbw5)
     have HB5 := Lib.hid (below_step HB4.out hbw5)
     have HG5 := Lib.hid (HG4.out.later hbw5)
     have HT5 := Lib.hid Rgw5
     have hg4 := HG4.out.lt
     generalize hgt : w4.heap.size = gt at *
     clear HR4 HB4 HG4 hbw5 Rgw5 hgt
     obtain ⟨o8, ho8⟩ : ∃ o8 : Nat, o8 = if 8 - v.length = 8 then 0 else 8 - v.length := ⟨_, rfl⟩
     have hcL : ∀ wq : World, (Instr.sliceAt 107 (.pointer (some ⟨g, 0, none⟩)) (some (.int .i64 (8 - (v.length : Int)))) none none).run Tryz.prog wq = .ok (.slice (some ⟨g, o8, none⟩) v.length v.length) wq := fun wq => by
      have h := cutL8 wq g (8 - v.length) (by omega)
      rw [← ho8, show ((8 - v.length : Nat) : Int) = 8 - (v.length : Int) by omega, show 8 - (8 - v.length) = v.length by omega] at h
      exact h
     have hcH : ∀ wq : World, (Instr.sliceAt 107 (.pointer (some ⟨gt, 0, none⟩)) none (some (.int .i64 (v.length : Int))) none).run Tryz.prog wq = .ok (.slice (some ⟨gt, 0, none⟩) v.length 8) wq := fun wq => cutH8 wq gt v.length hv8
     have HROW : Hid (w5.drew.heap[g]? = some (.cells (cellsV u).toList.toArray 107 (0, 0))) := Lib.hid (by rw [Array.toArray_toList]; exact HG5.out.drew)
     have HPOS : Hid (0 < (valsV v).length → (some (⟨g, o8, none⟩ : Addr)) = some ⟨g, 8 - v.length, none⟩ ∧ ∃ ad : Addr, (some (⟨gt, 0, none⟩ : Addr)) = some ad ∧ ∀ j x, (valsV v)[j]? = some x → w5.drew.cell? (ad.add j) = some x) := Lib.hid (by
      intro hp
      have hp' : 0 < v.length := by simpa [valsV] using hp
      refine ⟨by rw [ho8, if_neg (by omega)], ⟨gt, 0, none⟩, rfl, fun j x hx => ?_⟩
      have hj : j < v.length := by have := (List.getElem?_eq_some_iff.1 hx).1; simpa [valsV] using this
      rw [valsV_get v j hj] at hx
      cases hx
      rw [Addr.add_mid, Nat.zero_add]
      exact (HT5.out.drew.cell j).trans (cellsV_get v j (by omega)))
     have hvl : (valsV v).length = v.length := by simp [valsV]
     have HNN : Hid ((valsV v).length = Nat.min v.length v.length) := Lib.hid (by rw [hvl]; exact (Nat.min_self _).symm)
     have HFIT : Hid (8 - v.length + (valsV v).length ≤ (cellsV u).toList.length) := Lib.hid (by rw [hvl]; simp [cellsV_size]; omega)
     clear hvl ho8
     go_region_law (refine step_copy_splice rfl (.tmp 57) (.tmp 59) 112 112 rfl 106 Tryz.underlying112 u16size (some ⟨g, o8, none⟩) (some ⟨gt, 0, none⟩) v.length v.length v.length 8 (by simp [Act.eval, Act.put]) (by simp [Act.eval, Act.put]) g (8 - v.length) (cellsV u).toList 107 HROW.out (valsV v) HNN.out HPOS.out HFIT.out (valsV_one v) g w5.drew (Below.refl _ _) (Nat.le_refl _) ?_; intro w6 hg6 hb6)
     have HR6 := Lib.hid (HR5.out.drew.below hb6 hgw)
     have HB6 := Lib.hid (HB5.out.drew.trans (hb6.mono (Nat.le_of_lt hgw)))
     have R6 : Row w6 g (cellsV (u ++ List.replicate (8 - u.length - v.length) 0 ++ v)) 107 := by have := hg6.out; rw [splice_cells u v huv] at this; exact this
     have hrg : ∀ x ∈ u ++ List.replicate (8 - u.length - v.length) 0 ++ v, x ≤ 65535 := fun x hx => by
      simp only [List.mem_append, List.mem_replicate] at hx
      rcases hx with (hx | hx) | hx
      ·exact HUL.out x hx
      ·omega
      ·exact HVL.out x hx
     have HLR := Lib.hid (lf_range hrg)
     generalize u ++ List.replicate (8 - u.length - v.length) 0 ++ v = gs at *
     have xc0 := (R6.cell 0).trans (show _ = some (Value.int .u16 (lf gs 0)) from rfl)
     have xc1 := (R6.cell 1).trans (show _ = some (Value.int .u16 (lf gs 1)) from rfl)
     have xc2 := (R6.cell 2).trans (show _ = some (Value.int .u16 (lf gs 2)) from rfl)
     have xc3 := (R6.cell 3).trans (show _ = some (Value.int .u16 (lf gs 3)) from rfl)
     have xc4 := (R6.cell 4).trans (show _ = some (Value.int .u16 (lf gs 4)) from rfl)
     have xc5 := (R6.cell 5).trans (show _ = some (Value.int .u16 (lf gs 5)) from rfl)
     have xc6 := (R6.cell 6).trans (show _ = some (Value.int .u16 (lf gs 6)) from rfl)
     have xc7 := (R6.cell 7).trans (show _ = some (Value.int .u16 (lf gs 7)) from rfl)
     clear HG5 HT5 HROW HPOS HNN HFIT HR5 HB5 hg6 hb6 R6 hcL hcH hrg HUL HVL
     go_wp2_with fail
     refine (of8_t (lf gs) HLR.out w6).mono ?_
     rintro e w7 ⟨rfl, hb7⟩
     have HR7 := Lib.hid (HR6.out.later hb7)
     have HB7 := Lib.hid (below_step HB6.out hb7)
     clear HR6 HB6 hb7 HLR xc0 xc1 xc2 xc3 xc4 xc5 xc6 xc7
     have r0 := (HR7.out.cell 0).trans (show _ = some (Value.int .u64 0) from rfl)
     have r1 := (HR7.out.cell 1).trans (show _ = some (Value.int .u64 0) from rfl)
     have f0 := HR7.out.frozen 0
     have f1 := HR7.out.frozen 1
     go_wp2
     have Q2 := (HR7.out.set 0 (.int .u64 (hi (ofN (lf gs) 8)))).set 1 (.int .u64 (lo (ofN (lf gs) 8)))
     have s0 := (Q2.cell 0).trans (show _ = some (Value.int .u64 (hi (ofN (lf gs) 8))) from rfl)
     have s1 := (Q2.cell 1).trans (show _ = some (Value.int .u64 (lo (ofN (lf gs) 8))) from rfl)
     clear r0 r1 f0 f1
     exact bodyPost_ret (v := .tuple #[.agg #[.int .u64 (hi (ofN (lf gs) 8)), .int .u64 (lo (ofN (lf gs) 8))], .int .i64 0]) (by simp only [results, Tryz.results57]; simp [go_sem, s0, s1]) rfl (by rw [HP.out]; exact ⟨rfl, (HB7.out.setCell (p := ⟨w.heap.size, 0, none⟩) (Nat.le_refl _) _).setCell (p := ⟨w.heap.size, 1, none⟩) (Nat.le_refl _) _⟩)
def slen : Value → Nat
 | .string s => s.size
 | _ => 0
def DigRel (N n : Nat) (l : List UInt8) : Prop := (l = [] ∧ n = N) ∨ (l ≠ [] ∧ Lib.decDigits N = (if n = 0 then [] else Lib.decDigits n) ++ l)
theorem dec_step (n : Nat) (h : 10 ≤ n) : Lib.decDigits n = Lib.decDigits (n / 10) ++ [UInt8.ofNat (48 + n % 10)] := by
 rw [Lib.decDigits, dif_neg (by omega)]
theorem dec_one (n : Nat) (h : n < 10) : Lib.decDigits n = [UInt8.ofNat (48 + n % 10)] := by
 rw [Lib.decDigits, dif_pos h, Nat.mod_eq_of_lt h]
theorem DigRel.step {N n : Nat} {l : List UInt8} (h : DigRel N n l) (hc : 0 < n ∨ l = []) : DigRel N (n / 10) (UInt8.ofNat (48 + n % 10) :: l) := by
 right
 refine ⟨by simp, ?_⟩
 have key : ∀ m : Nat, Lib.decDigits m = (if m / 10 = 0 then [] else Lib.decDigits (m / 10)) ++ [UInt8.ofNat (48 + m % 10)] := by
  intro m
  by_cases hm : m < 10
  ·rw [if_pos (by omega), dec_one m hm]; rfl
  ·rw [if_neg (by omega)]; exact dec_step m (by omega)
 rcases h with ⟨rfl, rfl⟩ | ⟨hl, h⟩
 ·exact key n
 ·have hn : 0 < n := by rcases hc with h | h; exact h; exact absurd h hl
  rw [h, if_neg (by omega), key n]
  simp
theorem DigRel.done {N : Nat} {l : List UInt8} (h : DigRel N 0 l) (hl : l ≠ []) : l = Lib.decDigits N := by
 rcases h with ⟨h, _⟩ | ⟨_, h⟩
 ·exact absurd h hl
 ·rw [h]; rfl
theorem dig_ext : ∀ k : Fin 10, (⟨#[48, 49, 50, 51, 52, 53, 54, 55, 56, 57]⟩ : ByteArray).extract k (k + 1) = ⟨#[UInt8.ofNat (48 + k)]⟩ := by decide +kernel
theorem app_bs (c : UInt8) (l : List UInt8) : (⟨#[c]⟩ : ByteArray) ++ ⟨l.toArray⟩ = ⟨(c :: l).toArray⟩ := by
 apply ByteArray.ext
 simp
theorem digits_t (N : Nat) (hN : N ≤ 4294967295) (w : World) : Calls Tryz.prog 82 #[.int .u32 N] w fun e w' => e = .returned (.string ⟨(Lib.decDigits N).toArray⟩) ∧ Below w.heap.size w w' := by
 go_enter Tryz.func82, Tryz.ntmps82
 go_wp2_with fail
 go_loopw [0, 3] (fun a s wr => ∃ (n : Nat) (l : List UInt8), n ≤ N ∧ l.length + n ≤ N + 1 ∧ a = .int .u32 n ∧ s = .string ⟨l.toArray⟩ ∧ DigRel N n l ∧ wr = w) (fun a s _ => 2 * (intOf a).toNat + (1 - slen s))
 case atStart => exact ⟨N, [], Nat.le_refl _, by simp, rfl, rfl, .inl ⟨rfl, rfl⟩, rfl⟩
 case round =>
  obtain ⟨n, l, hn, hl, rfl, rfl, hrel, rfl⟩ := hrel
  have hk := dig_ext ⟨n % 10, Nat.mod_lt _ (by decide)⟩
  have hap := app_bs (UInt8.ofNat (48 + n % 10)) l
  by_cases h0 : 0 < n
  ·have q1 : decide ((0 : Int) < (n : Int)) = true := by simp; omega
   have HR := Lib.hid (hrel.step (.inl h0))
   clear hrel
   go_wp2
   refine ⟨⟨n / 10, UInt8.ofNat (48 + n % 10) :: l, by omega, by simp; omega, by go_num, ?_, HR.out, trivial⟩, ?_⟩
   ·rw [← hap]; simp
   ·simp [intOf, slen, ByteArray.size]
    omega
  ·have hn0 : n = 0 := by omega
   subst hn0
   by_cases hl0 : l = []
   ·subst hl0
    have HR := Lib.hid (hrel.step (.inr rfl))
    clear hrel
    go_wp2
    refine ⟨⟨0, UInt8.ofNat (48 + 0 % 10) :: [], by omega, by simp, by go_num, ?_, HR.out, trivial⟩, ?_⟩
    ·first | rfl | (rw [← hap]; rfl) | (simp at hap ⊢)
    ·simp [intOf, slen, ByteArray.size]
   ·have hlb : (l == []) = false := by simpa using hl0
    have hle : l.isEmpty = false := by cases l with | nil => exact absurd rfl hl0 | cons _ _ => rfl
    have HD := Lib.hid (hrel.done hl0)
    clear hrel
    go_wp2
    go_ret
    exact ⟨by rw [← HD.out]; rfl, Below.refl _ _⟩
theorem app_ll4 (a b : List UInt8) : (⟨a.toArray⟩ : ByteArray) ++ ⟨b.toArray⟩ = ⟨(a ++ b).toArray⟩ := by
 apply ByteArray.ext
 simp
theorem rprint4_t (a : Int) (a0 : 0 ≤ a) (a1 : a ≤ 4294967295) (w : World) : Calls Tryz.prog 39 #[.int .u32 a] w fun e w' => e = .returned (.string ⟨(print4 a).toArray⟩) ∧ Below w.heap.size w w' := by
 obtain ⟨n, rfl⟩ : ∃ n : Nat, a = n := ⟨a.toNat, by omega⟩
 have l0 := decDigits_len (n / 16777216) (by omega)
 have l1 := decDigits_len (n / 65536 % 256) (by omega)
 have l2 := decDigits_len (n / 256 % 256) (by omega)
 have l3 := decDigits_len (n % 256) (by omega)
 have b0 : (byteI (n : Int) 0).toNat = n / 16777216 := by unfold byteI; simp; omega
 have b1 : (byteI (n : Int) 1).toNat = n / 65536 % 256 := by unfold byteI; simp; omega
 have b2 : (byteI (n : Int) 2).toNat = n / 256 % 256 := by unfold byteI; simp; omega
 have b3 : (byteI (n : Int) 3).toNat = n % 256 := by unfold byteI; simp; omega
 have hpr : print4 (n : Int) = Lib.decDigits (n / 16777216) ++ 46 :: (Lib.decDigits (n / 65536 % 256) ++ 46 :: (Lib.decDigits (n / 256 % 256) ++ 46 :: Lib.decDigits (n % 256))) := by
  unfold print4; rw [txt4_is, b0, b1, b2, b3]
 have HPR := Lib.hid hpr
 clear hpr b0 b1 b2 b3
 go_enter Tryz.func39, Tryz.ntmps39
 go_wp2_with fail
 refine (digits_t (n / 16777216) (by omega) w).mono ?_
 rintro r w1 ⟨rfl, hb1⟩
 have HB1 := Lib.hid hb1
 clear hb1
 have z0 : (⟨(Lib.decDigits (n / 16777216)).toArray⟩ : ByteArray).size = (Lib.decDigits (n / 16777216)).length := bs_size4 _
 go_wp2_with fail
 refine (digits_t (n / 65536 % 256) (by omega) w1).mono ?_
 rintro r w2 ⟨rfl, hb2⟩
 have HB2 := Lib.hid (below_step HB1.out hb2)
 clear hb2
 go_wp2_with fail
 refine (digits_t (n / 256 % 256) (by omega) w2).mono ?_
 rintro r w3 ⟨rfl, hb3⟩
 have HB3 := Lib.hid (below_step HB2.out hb3)
 clear hb3
 go_wp2_with fail
 refine (digits_t (n % 256) (by omega) w3).mono ?_
 rintro r w4 ⟨rfl, hb4⟩
 have HB4 := Lib.hid (below_step HB3.out hb4)
 clear hb4
 go_wp2
 go_ret
 refine ⟨?_, HB4.out⟩
 rw [HPR.out]
 refine congrArg (fun s => Ending.returned (Value.string s)) ?_
 apply ByteArray.ext
 simp
def mJ (j : Nat) : Int := 4294967296 - 2 ^ (32 - j)
def bJ (j : Nat) : Int := 2147483648 / 2 ^ j
structure ScanIs (f : Nat → Int) (j : Nat) (s : Nat × Nat × Nat) : Prop where
 a : s.1 + s.2.1 ≤ j
 z : ∀ i, s.1 ≤ i → i < s.1 + s.2.1 → f i = 0
 l : s.2.2 ≤ j
 t : ∀ i, j - s.2.2 ≤ i → i < j → f i = 0
theorem scan_is (f : Nat → Int) : ∀ j, ScanIs f j (scan f j)
 | 0 => ⟨by simp [scan], fun i _ h => by simp [scan] at h, by simp [scan], fun i _ h => by omega⟩
 | j + 1 => by
  obtain ⟨ha, hz, hl, ht⟩ := scan_is f j
  rw [scan]
  generalize scan f j = s at *
  obtain ⟨a, m, l⟩ := s
  dsimp only at *
  have htz : f j = 0 → ∀ i, j - l ≤ i → i < j + 1 → f i = 0 := fun h0 i h1 h2 => by
   by_cases e : i = j
   ·rw [e]; exact h0
   ·exact ht i h1 (by omega)
  split
  ·rename_i h0
   split
   ·exact ⟨by dsimp only; omega, fun i h1 h2 => htz h0 i (by dsimp only at h1 h2; omega) (by dsimp only at h1 h2; omega), by dsimp only; omega, fun i h1 h2 => htz h0 i (by dsimp only at h1; omega) h2⟩
   ·exact ⟨by dsimp only; omega, hz, by dsimp only; omega, fun i h1 h2 => htz h0 i (by dsimp only at h1; omega) h2⟩
  ·exact ⟨by dsimp only; omega, hz, by dsimp only; omega, fun i h1 h2 => by dsimp only at h1; omega⟩
theorem runS_is (f : Nat → Int) : (runS f).1 + (runS f).2 ≤ 8 ∧ (∀ i, (runS f).1 ≤ i → i < (runS f).1 + (runS f).2 → f i = 0) ∧ ((runS f).2 = 0 ∧ (runS f).1 = 0 ∨ 2 ≤ (runS f).2) := by
 have h := scan_is f 8
 unfold runS
 split
 ·exact ⟨by simp, fun i h1 h2 => by dsimp only at h1 h2; omega, Or.inl ⟨rfl, rfl⟩⟩
 ·exact ⟨h.a, h.z, Or.inr (by dsimp only; omega)⟩
def gl (f : Nat → Int) : List Nat := (List.range 8).map fun i => (f i).toNat
theorem gl_len (f : Nat → Int) : (gl f).length = 8 := by simp [gl]
theorem gl_get (f : Nat → Int) (j : Nat) (h : j < 8) : (gl f)[j]? = some (f j).toNat := by simp [gl, List.getElem?_range h]
theorem gl_lt {f : Nat → Int} (hf : ∀ k, 0 ≤ f k ∧ f k ≤ 65535) : ∀ x ∈ gl f, x < 65536 := by
 intro x hx
 unfold gl at hx
 obtain ⟨i, _, rfl⟩ := List.mem_map.1 hx
 have := hf i
 omega
def print6 (f : Nat → Int) : List UInt8 := if (runS f).2 = 0 then joinH (gl f) else joinH ((gl f).take (runS f).1) ++ [58, 58] ++ joinH ((gl f).drop ((runS f).1 + (runS f).2))
theorem joinN_t (fs : List Nat) (n g o c : Nat) (hn : fs.length = n) (hl : n ≤ 8) (hf : ∀ x ∈ fs, x < 65536) (w : World) (hg : g < w.heap.size) (hE : Env6 w) (hc : ∀ (j x : Nat), fs[j]? = some x → w.cell? ⟨g, o + j, none⟩ = some (.int .u16 (x : Int))) : Calls Tryz.prog 80 #[.slice (some ⟨g, o, none⟩) n c] w fun e w' => e = .returned (.string ⟨(joinH fs).toArray⟩) ∧ Below w.heap.size w w' := by
 subst hn
 exact join_t fs g o c hl hf w hg hE hc
def cellsF (f : Nat → Int) : Array Value := #[.int .u16 (f 0), .int .u16 (f 1), .int .u16 (f 2), .int .u16 (f 3), .int .u16 (f 4), .int .u16 (f 5), .int .u16 (f 6), .int .u16 (f 7)]
theorem cellsF_get (f : Nat → Int) (i : Nat) (h : i < 8) : (cellsF f)[i]? = some (.int .u16 (f i)) := by
 rcases i with _ | _ | _ | _ | _ | _ | _ | _ | i <;> first | rfl | omega
theorem glcell {f : Nat → Int} (hf : ∀ k, 0 ≤ f k ∧ f k ≤ 65535) {w : World} {g : Nat} (R : Row w g (cellsF f) 107) (j x : Nat) (h : (gl f)[j]? = some x) : w.cell? ⟨g, j, none⟩ = some (.int .u16 (x : Int)) := by
 have hj : j < 8 := by have := (List.getElem?_eq_some_iff.1 h).1; rwa [gl_len] at this
 rw [gl_get f j hj] at h
 cases h
 rw [R.cell j, cellsF_get f j hj]
 have := hf j
 rw [Int.toNat_of_nonneg this.1]
def PS (w : World) (g : Nat) (f : Nat → Int) (w' : World) : Prop := Row w' g (cellsF f) 107 ∧ Env6 w' ∧ Below w.heap.size w w'
theorem PS.later {w : World} {g : Nat} {f : Nat → Int} {w1 w2 : World} (h : PS w g f w1) (hb : Below w1.heap.size w1 w2) : PS w g f w2 := ⟨h.1.later hb, h.2.1.later hb, below_step h.2.2 hb⟩
theorem PS.drew {w : World} {g : Nat} {f : Nat → Int} {w1 : World} (h : PS w g f w1) : PS w g f w1.drew := h.later ((Below.refl _ _).drew)
theorem jA {f : Nat → Int} (hf : ∀ k, 0 ≤ f k ∧ f k ≤ 65535) {w wq : World} {g : Nat} (h : PS w g f wq) : Calls Tryz.prog 80 #[.slice (some ⟨g, 0, none⟩) 8 8] wq fun e w' => e = .returned (.string ⟨(joinH (gl f)).toArray⟩) ∧ Below wq.heap.size wq w' :=
 joinN_t (gl f) 8 g 0 8 (gl_len f) (by omega) (gl_lt hf) wq h.1.lt h.2.1 (fun j x hx => by rw [Nat.zero_add]; exact glcell hf h.1 j x hx)
theorem j1 {f : Nat → Int} (hf : ∀ k, 0 ≤ f k ∧ f k ≤ 65535) {n : Nat} (hn : n ≤ 8) {w wq : World} {g : Nat} (h : PS w g f wq) : Calls Tryz.prog 80 #[.slice (some ⟨g, 0, none⟩) n 8] wq fun e w' => e = .returned (.string ⟨(joinH ((gl f).take n)).toArray⟩) ∧ Below wq.heap.size wq w' :=
 joinN_t ((gl f).take n) n g 0 8 (by simp [gl_len]; omega) hn (fun x hx => gl_lt hf x (List.mem_of_mem_take hx)) wq h.1.lt h.2.1 (fun j x hx => by
  rw [Nat.zero_add]
  have hj : j < n := by have := (List.getElem?_eq_some_iff.1 hx).1; simp at this; omega
  rw [List.getElem?_take_of_lt hj] at hx
  exact glcell hf h.1 j x hx)
theorem j2 {f : Nat → Int} (hf : ∀ k, 0 ≤ f k ∧ f k ≤ 65535) {k o n : Nat} (hk : k ≤ 8) (ho : o = if k = 8 then 0 else k) (hn : n = 8 - k) {w wq : World} {g : Nat} (h : PS w g f wq) : Calls Tryz.prog 80 #[.slice (some ⟨g, o, none⟩) n n] wq fun e w' => e = .returned (.string ⟨(joinH ((gl f).drop k)).toArray⟩) ∧ Below wq.heap.size wq w' :=
 joinN_t ((gl f).drop k) n g o n (by simp [gl_len]; omega) (by omega) (fun x hx => gl_lt hf x (List.mem_of_mem_drop hx)) wq h.1.lt h.2.1 (fun j x hx => by
  rw [List.getElem?_drop] at hx
  have hj : k + j < 8 := by have := (List.getElem?_eq_some_iff.1 hx).1; rwa [gl_len] at this
  rw [ho, if_neg (by omega)]
  exact glcell hf h.1 (k + j) x hx)
theorem print6_t (A : Int) (w : World) (hE : Env6 w) : Calls Tryz.prog 37 #[.agg #[.int .u64 (hi A), .int .u64 (lo A)]] w fun e w' => e = .returned (.string ⟨(print6 (grp A)).toArray⟩) ∧ Below w.heap.size w w' := by
 have hf := grp_range A
 obtain ⟨f, hfe⟩ : ∃ f, f = grp A := ⟨_, rfl⟩
 rw [← hfe] at hf ⊢
 have HPR : Hid (print6 f = if (runS f).2 = 0 then joinH (gl f) else joinH ((gl f).take (runS f).1) ++ [58, 58] ++ joinH ((gl f).drop ((runS f).1 + (runS f).2))) := Lib.hid rfl
 generalize print6 f = pt at *
 have HFE := Lib.hid hfe
 clear hfe
 go_enter Tryz.func37, Tryz.ntmps37
 go_wp2_with fail
 have hb0 : Below w.heap.size w (w.alloc (.cells #[.int .u64 (hi A), .int .u64 (lo A)] 73)) := (Below.refl _ _).alloc (Nat.le_refl _) _
 generalize w.alloc (.cells #[.int .u64 (hi A), .int .u64 (lo A)] 73) = w0 at *
 refine (groups_t A w0).mono ?_
 rintro e w1 ⟨rfl, hb1⟩
 have HB := Lib.hid (below_step hb0 hb1)
 clear hb0 hb1
 rw [← HFE.out]
 unfold arr8
 go_wp2_with fail
 have Rg := Row.new w1 (cellsF f) 107
 have hb2 : Below w1.heap.size w1 (w1.alloc (.cells (cellsF f) 107)) := (Below.refl _ _).alloc (Nat.le_refl _) _
 unfold cellsF at Rg hb2
 generalize w1.alloc (.cells #[.int .u16 (f 0), .int .u16 (f 1), .int .u16 (f 2), .int .u16 (f 3), .int .u16 (f 4), .int .u16 (f 5), .int .u16 (f 6), .int .u16 (f 7)] 107) = w2 at *
 refine (run_t f hf w2).mono ?_
 rintro e w3 ⟨rfl, hb3⟩
 have hPS : PS w w1.heap.size f w3 := ⟨Rg.later hb3, hE.later (below_step (below_step HB.out hb2) hb3), below_step (below_step HB.out hb2) hb3⟩
 generalize w1.heap.size = g at *
 have HPS := Lib.hid hPS
 clear Rg hb2 hb3 HB hPS
 obtain ⟨hr1, hr2, hr3⟩ := runS_is f
 clear hr2
 generalize runS f = r at *
 obtain ⟨at_, n⟩ := r
 dsimp only at *
 have HF := Lib.hid hf
 clear hf
 by_cases hn : n = 0
 ·have HP := Lib.hid (HPR.out.trans (if_pos hn))
  subst hn
  clear HPR hr1 hr3
  have hca := fun wq => cutAll8 wq g
  go_wp2_with fail
  refine (jA HF.out HPS.out).mono ?_
  rintro e w4 ⟨rfl, hb4⟩
  have HB4 := Lib.hid (HPS.out.later hb4).2.2
  clear hb4 HPS hca
  go_wp2
  go_ret
  exact ⟨by rw [HP.out]; rfl, HB4.out⟩
 ·have HP := Lib.hid (HPR.out.trans (if_neg hn))
  have hn' : ¬ (n : Int) = 0 := by omega
  have hnb : ((n : Int) == 0) = false := by rw [beq_eq_false_iff_ne]; omega
  clear HPR hr3
  obtain ⟨k, hk⟩ : ∃ k, k = at_ + n := ⟨_, rfl⟩
  obtain ⟨o, ho⟩ : ∃ o, o = if k = 8 then 0 else k := ⟨_, rfl⟩
  obtain ⟨m, hm⟩ : ∃ m, m = 8 - k := ⟨_, rfl⟩
  have hc1 := fun wq => cutH8 wq g at_ (by omega)
  have hc2 : ∀ wq : World, (Instr.sliceAt 107 (.pointer (some ⟨g, 0, none⟩)) (some (.int .i64 ((at_ : Int) + (n : Int)))) none none).run Tryz.prog wq = .ok (.slice (some ⟨g, o, none⟩) m m) wq := fun wq => by
   have h := cutL8 wq g k (by omega)
   rw [← ho, ← hm, hk] at h
   simpa using h
  have qw : IntKind.i64.wrap ((at_ : Int) + (n : Int)) = (at_ : Int) + (n : Int) := by simp [IntKind.wrap, IntKind.bits, IntKind.signed]; omega
  have HO := Lib.hid ho
  have HM := Lib.hid hm
  have HK := Lib.hid hk
  clear ho hm hk
  have hJ1 := fun wq (h : PS w g f wq) => j1 HF.out (show at_ ≤ 8 by omega) h
  have hJ2 := fun wq (h : PS w g f wq) => j2 HF.out (show k ≤ 8 by have := HK.out; omega) HO.out HM.out h
  have hl1 : (joinH ((gl f).take at_)).length ≤ 40 := Nat.le_trans (joinH_len _ (fun x hx => gl_lt HF.out x (List.mem_of_mem_take hx))) (by simp [gl_len]; omega)
  have hl2 : (joinH ((gl f).drop k)).length ≤ 40 := Nat.le_trans (joinH_len _ (fun x hx => gl_lt HF.out x (List.mem_of_mem_drop hx))) (by simp [gl_len]; omega)
  generalize joinH ((gl f).take at_) = s1 at *
  generalize hs2 : joinH ((gl f).drop k) = s2 at *
  have HS2 := Lib.hid hs2
  have HRES : Hid ((⟨s1.toArray⟩ : ByteArray) ++ ⟨#[58, 58]⟩ ++ ⟨s2.toArray⟩ = ⟨pt.toArray⟩) := Lib.hid (by rw [HP.out, ← HK.out, HS2.out, show (⟨#[58, 58]⟩ : ByteArray) = ⟨[58, 58].toArray⟩ from rfl, app_ll4, app_ll4])
  have hx1 : ¬ 9223372036854775807 < s1.length + 2 := by omega
  have hx2 : ¬ 9223372036854775807 < s1.length + 2 + s2.length := by omega
  clear hs2
  go_wp2_with fail
  refine wp_region_held_drew (S := (fun w' => PS w g f w')) (by kernel_rfl) ?hSr1_ (fun hH => ?_)
  case hSr1_ => (first | exact HPS.out.drew | exact hH.later hb)
  refine tk 0 ⟨some 17, .move (.tmp 4), 3, _, _, _⟩ hH ?_
  refine tk 1 ⟨some 18, .slice 107 (.tmp 3) none (some (.tmp 17)) none, 112, _, _, _⟩ hH ?_
  refine tk 4 ⟨some 21, .move (.tmp 4), 3, _, _, _⟩ hH ?_
  refine tk 5 ⟨some 22, .move (.tmp 5), 3, _, _, _⟩ hH ?_
  refine tk 6 ⟨some 23, .binOp .add 3 (.tmp 21) (.tmp 22) 3, 3, _, _, _⟩ hH ?_
  refine tk 7 ⟨some 24, .slice 107 (.tmp 3) (some (.tmp 23)) none none, 112, _, _, _⟩ hH ?_
  refine wpAnyH_ready (rs := [2]) (by kernel_rfl) (by simp) ?_
  refine AllReadyH.cons (o := ⟨some 19, .call { callee := .value (.func 80), args := #[.tmp 18], argTypes := #[112] }, 9, _, _, _⟩) rfl (fun K hK => ?_) AllReadyH.nil
  go_simp
  ((first | (with_reducible refine (hJ1 _ hH).mono ?_) | (with_reducible refine (hJ2 _ hH).mono ?_)); (rintro e wn ⟨rfl, hb⟩))
  go_wp2_with fail
  refine hK.out _ _ ?hSr1_7_2 fun _ => ?_
  case hSr1_7_2 => (first | exact HPS.out.drew | exact hH.later hb)
  clear hK K hH; rename_i hH
  (try simp only [Act.put, nz1, nz2, nz3])
  refine tk 3 ⟨some 20, .binOp .add 9 (.tmp 19) (.const (.string { data := #[58, 58] })) 9, 9, _, _, _⟩ hH ?_
  refine wpAnyH_ready (rs := [8]) (by kernel_rfl) (by simp) ?_
  refine AllReadyH.cons (o := ⟨some 25, .call { callee := .value (.func 80), args := #[.tmp 24], argTypes := #[112] }, 9, _, _, _⟩) rfl (fun K hK => ?_) AllReadyH.nil
  go_simp
  ((first | (with_reducible refine (hJ1 _ hH).mono ?_) | (with_reducible refine (hJ2 _ hH).mono ?_)); (rintro e wn ⟨rfl, hb⟩))
  go_wp2_with fail
  refine hK.out _ _ ?hSr1_9_8 fun _ => ?_
  case hSr1_9_8 => (first | exact HPS.out.drew | exact hH.later hb)
  clear hK K hH; rename_i hH
  (try simp only [Act.put, nz1, nz2, nz3])
  refine tk 9 ⟨some 26, .binOp .add 9 (.tmp 20) (.tmp 25) 9, 9, _, _, _⟩ hH ?_
  refine tk 10 ⟨some 2, .assign (.tmp 26), 9, _, _, _⟩ hH ?_
  refine wpAnyH_done (by kernel_rfl) ?_ _
  (go_wp2; go_ret; exact ⟨congrArg (fun b => Ending.returned (Value.string b)) HRES.out, hH.2.2⟩)
theorem lastV_grp {d : Bool} {p : List UInt8} {v : Nat} (h : grpV p = some v) : lastV d p = some [v] := by
 unfold lastV
 rw [if_neg (fun h4 => by rw [grpV_dot h4.2] at h; cases h), h]
 rfl
structure IsText (t : List UInt8) (x : Nat) : Prop where
 ne : t ≠ []
 no : (58 : UInt8) ∉ t
 is : grpV t = some x
theorem index_tail : ∀ (ts : List (List UInt8)) (z : List UInt8), (∀ t ∈ ts, t ≠ [] ∧ (58 : UInt8) ∉ t) → Lib.index (Lib.joinTail [58] ts ++ z) [58, 58] = if Lib.index z [58, 58] = -1 then -1 else Lib.index z [58, 58] + (Lib.joinTail [58] ts).length
 | [], z, _ => by
  simp only [Lib.joinTail, List.map_nil, List.flatten_nil, List.nil_append]
  split
  ·assumption
  ·simp
 | y :: r, z, h => by
  obtain ⟨hy, hn⟩ := h y (by simp)
  have ih := index_tail r z (fun t ht => h t (List.mem_cons_of_mem _ ht))
  have e : Lib.joinTail [58] (y :: r) = 58 :: (y ++ Lib.joinTail [58] r) := by simp [Lib.joinTail]
  have hw := index_word [58, 58] 58 rfl y (Lib.joinTail [58] r ++ z) hn
  rw [e, List.cons_append, List.append_assoc, Lib.index, hw, ih]
  obtain ⟨c, y', rfl⟩ : ∃ c y', y = c :: y' := by cases y with | nil => exact absurd rfl hy | cons c y' => exact ⟨c, y', rfl⟩
  have hc : ¬ (58 : UInt8) = c := fun he => hn (by rw [he]; simp)
  have h1 : ([58, 58] : List UInt8).isPrefixOf (58 :: ((c :: y') ++ (Lib.joinTail [58] r ++ z))) = false := by simp [List.isPrefixOf, hc]
  have hge := Lib.index_ge z [58, 58]
  rw [h1]
  by_cases h2 : Lib.index z [58, 58] = -1
  ·simp [h2]
  ·have q1 : ¬ (Lib.index z [58, 58] + ((Lib.joinTail [58] r).length : Int)) = -1 := by omega
   have q2 : ((Lib.index z [58, 58] + ((Lib.joinTail [58] r).length : Int) + (((c :: y').length : Nat) : Int)) == -1) = false := by rw [beq_eq_false_iff_ne]; omega
   simp only [if_neg h2, if_neg q1, q2]
   simp
   omega
theorem index_join (ts : List (List UInt8)) (z : List UInt8) (h : ∀ t ∈ ts, t ≠ [] ∧ (58 : UInt8) ∉ t) : Lib.index (Lib.join ts [58] ++ z) [58, 58] = if Lib.index z [58, 58] = -1 then -1 else Lib.index z [58, 58] + (Lib.join ts [58]).length := by
 cases ts with
 | nil =>
  rw [Lib.join_nil, List.nil_append]
  split
  ·assumption
  ·simp
 | cons t r =>
  obtain ⟨ht, hn⟩ := h t (by simp)
  have hr := index_tail r z (fun t ht => h t (List.mem_cons_of_mem _ ht))
  have hw := index_word [58, 58] 58 rfl t (Lib.joinTail [58] r ++ z) hn
  have hge := Lib.index_ge z [58, 58]
  rw [Lib.join_cons, List.append_assoc, hw, hr]
  by_cases h2 : Lib.index z [58, 58] = -1
  ·simp [h2]
  ·have q1 : ¬ (Lib.index z [58, 58] + ((Lib.joinTail [58] r).length : Int)) = -1 := by omega
   simp only [if_neg h2, if_neg q1]
   simp
   omega
theorem cc_none (ts : List (List UInt8)) (h : ∀ t ∈ ts, t ≠ [] ∧ (58 : UInt8) ∉ t) : cc (Lib.join ts [58]) = (Lib.join ts [58], [], false) := by
 have hi := index_join ts [] h
 rw [List.append_nil] at hi
 unfold cc Lib.cut
 rw [hi]
 simp [Lib.index]
theorem cc_at (ts : List (List UInt8)) (z : List UInt8) (h : ∀ t ∈ ts, t ≠ [] ∧ (58 : UInt8) ∉ t) : cc (Lib.join ts [58] ++ [58, 58] ++ z) = (Lib.join ts [58], z, true) := by
 have h0 : Lib.index ([58, 58] ++ z) [58, 58] = 0 := by simp [Lib.index, List.isPrefixOf]
 have hi := index_join ts ([58, 58] ++ z) h
 rw [h0] at hi
 unfold cc Lib.cut
 rw [List.append_assoc, hi]
 simp
theorem split_tail : ∀ (t : List UInt8) (r : List (List UInt8)), (58 : UInt8) ∉ t → (∀ y ∈ r, (58 : UInt8) ∉ y) → splitC (t ++ Lib.joinTail [58] r) = t :: r
 | t, [], ht, _ => by simp [Lib.joinTail, split_no t ht]
 | t, y :: r, ht, h => by
  have e : Lib.joinTail [58] (y :: r) = 58 :: (y ++ Lib.joinTail [58] r) := by simp [Lib.joinTail]
  rw [e, split_at t _ ht, split_tail y r (h y (by simp)) (fun x hx => h x (List.mem_cons_of_mem _ hx))]
theorem seqV_texts (d : Bool) (τ : Nat → List UInt8) : ∀ (fs : List Nat), fs ≠ [] → (∀ x ∈ fs, IsText (τ x) x) → seqV d (fs.map τ) = some fs
 | [], h, _ => absurd rfl h
 | [x], _, h => by
  show seqV d [τ x] = _
  rw [seqV, lastV_grp (h x (by simp)).is]
 | x :: y :: r, _, h => by
  have ih := seqV_texts d τ (y :: r) (by simp) (fun z hz => h z (List.mem_cons_of_mem _ hz))
  rw [List.map_cons, seqV_cons d _ _ (by simp), ih, (h x (by simp)).is]
theorem readV_texts (d : Bool) (τ : Nat → List UInt8) (fs : List Nat) (h : ∀ x ∈ fs, IsText (τ x) x) : readV d (Lib.join (fs.map τ) [58]) = some fs := by
 cases fs with
 | nil => rfl
 | cons x r =>
  have hx := h x (by simp)
  unfold readV
  rw [List.map_cons, Lib.join_cons, if_neg (fun e => hx.ne (List.append_eq_nil_iff.1 e).1)]
  rw [split_tail (τ x) (r.map τ) hx.no (fun y hy => by obtain ⟨z, hz, rfl⟩ := List.mem_map.1 hy; exact (h z (List.mem_cons_of_mem _ hz)).no)]
  exact seqV_texts d τ (x :: r) (by simp) h
def joinT6 (τ : Nat → List UInt8) (fs : List Nat) : List UInt8 := Lib.join (fs.map τ) [58]
def printT (τ : Nat → List UInt8) (f : Nat → Int) : List UInt8 := if (runS f).2 = 0 then joinT6 τ (gl f) else joinT6 τ ((gl f).take (runS f).1) ++ [58, 58] ++ joinT6 τ ((gl f).drop ((runS f).1 + (runS f).2))
theorem gl_run (f : Nat → Int) : (gl f).take (runS f).1 ++ List.replicate (runS f).2 0 ++ (gl f).drop ((runS f).1 + (runS f).2) = gl f := by
 obtain ⟨h1, h2, _⟩ := runS_is f
 generalize runS f = r at *
 obtain ⟨p, n⟩ := r
 dsimp only at *
 apply List.ext_getElem?
 intro i
 by_cases c1 : i < p
 ·rw [List.append_assoc, List.getElem?_append_left (by simp [gl_len]; omega), List.getElem?_take_of_lt c1]
 ·by_cases c2 : i < p + n
  ·rw [List.getElem?_append_left (by simp [gl_len]; omega), List.getElem?_append_right (by simp [gl_len]; omega), gl_get f i (by omega), h2 i (by omega) c2]
   rw [List.getElem?_replicate, if_pos (by simp [gl_len]; omega)]
   rfl
  ·rw [List.getElem?_append_right (by simp [gl_len]; omega), List.getElem?_drop]
   congr 1
   simp [gl_len]
   omega
theorem parse_texts (τ : Nat → List UInt8) (f : Nat → Int) (h : ∀ x ∈ gl f, IsText (τ x) x) : parse6 (printT τ f) = some (gl f) := by
 obtain ⟨h1, _, h3⟩ := runS_is f
 have hgr := gl_run f
 have ht : ∀ fs : List Nat, (∀ x ∈ fs, x ∈ gl f) → ∀ t ∈ fs.map τ, t ≠ [] ∧ (58 : UInt8) ∉ t := fun fs hs t ht => by
  obtain ⟨x, hx, rfl⟩ := List.mem_map.1 ht
  exact ⟨(h x (hs x hx)).ne, (h x (hs x hx)).no⟩
 unfold printT parse6
 by_cases hn : (runS f).2 = 0
 ·rw [if_pos hn]
  unfold joinT6
  rw [cc_none _ (ht _ fun x hx => hx)]
  dsimp only
  rw [readV_texts _ τ (gl f) h]
  have : readV true [] = some [] := rfl
  rw [this]
  dsimp only
  rw [if_pos (by simp [fits, gl_len])]
  simp [gl_len]
 ·rw [if_neg hn]
  unfold joinT6
  rw [cc_at _ _ (ht _ fun x hx => List.mem_of_mem_take hx)]
  dsimp only
  rw [readV_texts _ τ _ (fun x hx => h x (List.mem_of_mem_take hx)), readV_texts _ τ _ (fun x hx => h x (List.mem_of_mem_drop hx))]
  dsimp only
  rw [if_pos (by simp [fits, gl_len]; omega)]
  have e : 8 - ((gl f).take (runS f).1).length - ((gl f).drop ((runS f).1 + (runS f).2)).length = (runS f).2 := by simp [gl_len]; omega
  rw [e, hgr]
/-! the texts of digits -/
theorem hexM_app (κ : UInt8) (k : Nat) (hk : hexV κ = some k) : ∀ (l : List UInt8) (acc v : Nat), hexM acc l = some v → hexM acc (l ++ [κ]) = if 65535 < v * 16 + k then none else some (v * 16 + k)
 | [], acc, v, h => by
  cases h
  rw [List.nil_append, hexM, hk]
  rfl
 | c :: r, acc, v, h => by
  rw [hexM] at h
  rw [List.cons_append, hexM]
  split at h
  ·cases h
  ·rename_i d hd
   split at h
   ·cases h
   ·rename_i hle
    simp only [if_neg hle]
    exact hexM_app κ k hk r _ v h
theorem hexD_ne (n : Nat) : hexD n ≠ [] := by
 by_cases h : n < 16
 ·rw [hexD_one n h]; simp
 ·rw [hexD_step n (by omega)]; simp
theorem hexD_all (n : Nat) : ∀ c ∈ hexD n, ∃ k, k < 16 ∧ c = hexC k := by
 induction n using Nat.strongRecOn with
 | _ n ih =>
  intro c hc
  by_cases h : n < 16
  ·rw [hexD_one n h] at hc; simp at hc; exact ⟨n, h, hc⟩
  ·rw [hexD_step n (by omega)] at hc
   rcases List.mem_append.1 hc with hc | hc
   ·exact ih (n / 16) (by omega) c hc
   ·simp at hc; exact ⟨n % 16, by omega, hc⟩
theorem hexM_hexD (κ : UInt8 → UInt8) (hκ : ∀ k, k < 16 → hexV (κ (hexC k)) = some k) (n : Nat) : n < 65536 → hexM 0 ((hexD n).map κ) = some n := by
 induction n using Nat.strongRecOn with
 | _ n ih =>
  intro hn
  by_cases h : n < 16
  ·rw [hexD_one n h, List.map_cons, List.map_nil, hexM, hκ n h]
   simp only [hexM]
   rw [if_neg (by omega)]
   simp
  ·rw [hexD_step n (by omega), List.map_append, List.map_cons, List.map_nil, hexM_app _ (n % 16) (hκ _ (by omega)) _ 0 (n / 16) (ih (n / 16) (by omega) (by omega)), if_neg (by omega)]
   congr 1
   omega
theorem text_hex (κ : UInt8 → UInt8) (hκ : ∀ k, k < 16 → hexV (κ (hexC k)) = some k) (n : Nat) (hn : n < 65536) : IsText ((hexD n).map κ) n := by
 refine ⟨fun e => hexD_ne n (List.map_eq_nil_iff.1 e), fun hm => ?_, ?_⟩
 ·obtain ⟨c, hc, he⟩ := List.mem_map.1 hm
  obtain ⟨k, hk, rfl⟩ := hexD_all n c hc
  have := hκ k hk
  rw [he, show hexV 58 = none by decide] at this
  cases this
 ·unfold grpV hexP
  rw [if_neg (by have := hexD_len n hn; simp; omega), if_neg (fun e => hexD_ne n (List.map_eq_nil_iff.1 e))]
  exact hexM_hexD κ hκ n hn
theorem map_tail (κ : UInt8 → UInt8) (h58 : κ 58 = 58) : ∀ ts : List (List UInt8), (Lib.joinTail [58] ts).map κ = Lib.joinTail [58] (ts.map (List.map κ))
 | [] => rfl
 | t :: r => by
  have e : ∀ (y : List UInt8) r, Lib.joinTail [58] (y :: r) = 58 :: (y ++ Lib.joinTail [58] r) := fun y r => by simp [Lib.joinTail]
  rw [e, List.map_cons, List.map_append, map_tail κ h58 r, List.map_cons, e, h58]
theorem map_join (κ : UInt8 → UInt8) (h58 : κ 58 = 58) (ts : List (List UInt8)) : (Lib.join ts [58]).map κ = Lib.join (ts.map (List.map κ)) [58] := by
 cases ts with
 | nil => rfl
 | cons t r => rw [Lib.join_cons, List.map_append, map_tail κ h58, List.map_cons, Lib.join_cons]
theorem map_print (κ : UInt8 → UInt8) (h58 : κ 58 = 58) (f : Nat → Int) : (print6 f).map κ = printT (fun x => (hexD x).map κ) f := by
 unfold print6 printT joinT6 joinH
 split
 ·rw [map_join κ h58, List.map_map]; rfl
 ·rw [List.map_append, List.map_append, map_join κ h58, map_join κ h58, List.map_map, List.map_map]
  simp only [List.map_cons, List.map_nil, h58]
  rfl
theorem back6 (κ : UInt8 → UInt8) (h58 : κ 58 = 58) (hκ : ∀ k, k < 16 → hexV (κ (hexC k)) = some k) (f : Nat → Int) (hf : ∀ k, 0 ≤ f k ∧ f k ≤ 65535) : parse6 ((print6 f).map κ) = some (gl f) := by
 rw [map_print κ h58]
 exact parse_texts _ f (fun x hx => text_hex κ hκ x (gl_lt hf x hx))
theorem back6_id (f : Nat → Int) (hf : ∀ k, 0 ≤ f k ∧ f k ≤ 65535) : parse6 (print6 f) = some (gl f) := by
 have h := back6 id rfl (fun k hk => by
  have : ∀ k : Fin 16, hexV (id (hexC k)) = some (k : Nat) := by decide
  exact this ⟨k, hk⟩) f hf
 rwa [List.map_id] at h
/-! groups and numbers -/
theorem lf_gl (f : Nat → Int) (hf : ∀ k, 0 ≤ f k ∧ f k ≤ 65535) (i : Nat) (h : i < 8) : lf (gl f) i = f i := by
 unfold lf
 rw [List.getD, gl_get f i h]
 have := hf i
 simp
 omega
theorem ofN_congr {f g : Nat → Int} : ∀ j, (∀ i, i < j → f i = g i) → ofN f j = ofN g j
 | 0, _ => rfl
 | j + 1, h => by rw [ofN, ofN, ofN_congr j (fun i hi => h i (by omega)), h j (by omega)]
theorem ofN_grp (A : Int) : ofN (grp A) 8 = A % MM := by
 have h0 : 0 ≤ A % MM := Int.emod_nonneg _ (by decide)
 have h1 : A % MM < MM := Int.emod_lt_of_pos _ (by decide)
 have hM : MM = 340282366920938463463374607431768211456 := rfl
 have g0 : grp A 0 = A % MM / 5192296858534827628530496329220096 % 65536 := rfl
 have g1 : grp A 1 = A % MM / 79228162514264337593543950336 % 65536 := rfl
 have g2 : grp A 2 = A % MM / 1208925819614629174706176 % 65536 := rfl
 have g3 : grp A 3 = A % MM / 18446744073709551616 % 65536 := rfl
 have g4 : grp A 4 = A % MM / 281474976710656 % 65536 := rfl
 have g5 : grp A 5 = A % MM / 4294967296 % 65536 := rfl
 have g6 : grp A 6 = A % MM / 65536 % 65536 := rfl
 have g7 : grp A 7 = A % MM / 1 % 65536 := rfl
 simp only [ofN]
 rw [g0, g1, g2, g3, g4, g5, g6, g7]
 generalize A % MM = a at *
 omega
def hexK (n : Nat) : List UInt8 := if n < 16 then [hexC n] else if n < 256 then [hexC (n / 16), hexC (n % 16)] else if n < 4096 then [hexC (n / 256), hexC (n / 16 % 16), hexC (n % 16)] else [hexC (n / 4096), hexC (n / 256 % 16), hexC (n / 16 % 16), hexC (n % 16)]
def gA : List Nat := [0, 0, 0, 0, 0, 65535, 258, 772]
def gB : List Nat := [8193, 3512, 0, 0, 1, 0, 0, 1]
def nA : Int := ofN (lf gA) 8
def nB : Int := ofN (lf gB) 8
def gR : List Nat := [1, 0, 0, 2, 0, 0, 0, 3]
def DigRel16 (N n : Nat) (l : List UInt8) : Prop := (l = [] ∧ n = N) ∨ (l ≠ [] ∧ hexD N = (if n = 0 then [] else hexD n) ++ l)
theorem DigRel16.step {N n : Nat} {l : List UInt8} (h : DigRel16 N n l) (hc : 0 < n ∨ l = []) : DigRel16 N (n / 16) (hexC (n % 16) :: l) := by
 right
 refine ⟨by simp, ?_⟩
 have key : ∀ m : Nat, hexD m = (if m / 16 = 0 then [] else hexD (m / 16)) ++ [hexC (m % 16)] := by
  intro m
  by_cases hm : m < 16
  ·rw [if_pos (by omega), hexD_one m hm, Nat.mod_eq_of_lt hm]; rfl
  ·rw [if_neg (by omega)]; exact hexD_step m (by omega)
 rcases h with ⟨rfl, rfl⟩ | ⟨hl, h⟩
 ·exact key n
 ·have hn : 0 < n := by rcases hc with h | h; exact h; exact absurd h hl
  rw [h, if_neg (by omega), key n]
  simp
theorem DigRel16.done {N : Nat} {l : List UInt8} (h : DigRel16 N 0 l) (hl : l ≠ []) : l = hexD N := by
 rcases h with ⟨h, _⟩ | ⟨_, h⟩
 ·exact absurd h hl
 ·rw [h]; rfl
theorem dig_ext16 : ∀ k : Fin 16, (⟨#[48, 49, 50, 51, 52, 53, 54, 55, 56, 57, 97, 98, 99, 100, 101, 102]⟩ : ByteArray).extract k (k + 1) = ⟨#[hexC k]⟩ := by decide +kernel
theorem digits16_t (N : Nat) (hN : N ≤ 65535) (w : World) : Calls Tryz.prog 85 #[.int .u16 N] w fun e w' => e = .returned (.string ⟨(hexD N).toArray⟩) ∧ w = w' := by
 go_enter Tryz.func85, Tryz.ntmps85
 go_wp2_with fail
 go_loopw [0, 3] (fun a s wr => ∃ (n : Nat) (l : List UInt8), n ≤ N ∧ l.length + n ≤ N + 1 ∧ a = .int .u16 n ∧ s = .string ⟨l.toArray⟩ ∧ DigRel16 N n l ∧ wr = w) (fun a s _ => 2 * (intOf a).toNat + (1 - slen s))
 case atStart => exact ⟨N, [], Nat.le_refl _, by simp, rfl, rfl, .inl ⟨rfl, rfl⟩, rfl⟩
 case round =>
  obtain ⟨n, l, hn, hl, rfl, rfl, hrel, rfl⟩ := hrel
  have hk := dig_ext16 ⟨n % 16, Nat.mod_lt _ (by decide)⟩
  have hap := app_bs (hexC (n % 16)) l
  by_cases h0 : 0 < n
  ·have q1 : decide ((0 : Int) < (n : Int)) = true := by simp; omega
   have HR := Lib.hid (hrel.step (.inl h0))
   clear hrel
   go_wp2
   refine ⟨⟨n / 16, hexC (n % 16) :: l, by omega, by simp; omega, by go_num, ?_, HR.out, trivial⟩, ?_⟩
   ·rw [← hap]
   ·simp [intOf, slen, ByteArray.size]
    omega
  ·have hn0 : n = 0 := by omega
   subst hn0
   by_cases hl0 : l = []
   ·subst hl0
    have HR := Lib.hid (hrel.step (.inr rfl))
    clear hrel
    go_wp2
    refine ⟨⟨0, hexC (0 % 16) :: [], by omega, by simp, by go_num, ?_, HR.out, trivial⟩, ?_⟩
    ·first | rfl | (rw [← hap]; rfl) | (simp at hap ⊢)
    ·simp [intOf, slen, ByteArray.size]
   ·have hlb : (l == []) = false := by simpa using hl0
    have hle : l.isEmpty = false := by cases l with | nil => exact absurd rfl hl0 | cons _ _ => rfl
    have HD := Lib.hid (hrel.done hl0)
    clear hrel
    go_wp2
    go_ret
    exact ⟨by rw [← HD.out]; rfl, rfl⟩
def zB (f : Nat → Int) (a : Nat) : Nat → Bool
 | 0 => true
 | n + 1 => decide (a ≤ 7) && decide (f a = 0) && zB f (a + 1) n
theorem zeros_t (f : Nat → Int) (hf : ∀ k, 0 ≤ f k ∧ f k ≤ 65535) (a n : Nat) (ha : a ≤ 7) (hn : n ≤ 8) (w : World) : Calls Tryz.prog 121 #[arr8 f, .int .i64 a, .int .i64 n] w fun e w' => e = .returned (.bool (zB f a n)) ∧ Below w.heap.size w w' := by
 unfold arr8
 obtain ⟨z, hz⟩ : ∃ z, z = zB f a n := ⟨_, rfl⟩
 rw [← hz]
 go_enter Tryz.func121, Tryz.ntmps121
 go_wp2_with fail
 have Rg := Row.new w (cellsF f) 107
 have hb0 : Below w.heap.size w (w.alloc (.cells (cellsF f) 107)) := (Below.refl _ _).alloc (Nat.le_refl _) _
 unfold cellsF at Rg hb0
 generalize w.alloc (.cells #[.int .u16 (f 0), .int .u16 (f 1), .int .u16 (f 2), .int .u16 (f 3), .int .u16 (f 4), .int .u16 (f 5), .int .u16 (f 6), .int .u16 (f 7)] 107) = w0 at *
 have R1 : Row w0 w.heap.size (cellsF f) 107 := Rg
 have HR := Lib.hid R1
 have HB := Lib.hid hb0
 have HF := Lib.hid hf
 have HZ := Lib.hid hz
 clear Rg hb0 R1 hf hz
 go_loopw [7] (fun i wr => ∃ (p : Nat), a ≤ p ∧ p ≤ a + n ∧ i = .int .i64 (p : Nat) ∧ Hid (z = zB f p (a + n - p)) ∧ wr = w0) (fun i _ => 16 - (intOf i).toNat)
 case atStart => exact ⟨a, by omega, by omega, rfl, Lib.hid (by rw [show a + n - a = n by omega]; exact HZ.out), rfl⟩
 case round =>
  obtain ⟨p, hpa, hpn, rfl, hz, rfl⟩ := hrel
  clear HZ
  by_cases hlt : p < a + n
  ·obtain ⟨m, hm⟩ : ∃ m, a + n - p = m + 1 := ⟨a + n - p - 1, by omega⟩
   have hz2 : z = (decide (p ≤ 7) && decide (f p = 0) && zB f (p + 1) m) := by rw [hz.out, hm, zB]
   have HZ2 := Lib.hid hz2
   clear hz2 hz
   have q1 : (p : Int) < (a : Int) + (n : Int) := by omega
   by_cases h7 : p ≤ 7
   ·have h7' : ¬ (7 : Int) < (p : Int) := by omega
    have c0 := (HR.out.cell p).trans (cellsF_get f p (by omega))
    have f0 := HF.out p
    by_cases h0 : f p = 0
    ·have hz3 := HZ2.out
     rw [h0] at c0
     rw [decide_eq_true h7, decide_eq_true h0] at hz3
     have HZ3 := Lib.hid hz3
     clear hz3 f0 h0
     go_wp2
     refine ⟨⟨p + 1, by omega, by omega, by go_num, Lib.hid ?_, trivial⟩, by simp [intOf]; omega⟩
     rw [show a + n - (p + 1) = m by omega, HZ3.out]; rfl
    ·have hz3 : z = false := by have h := HZ2.out; rw [decide_eq_false h0, Bool.and_false, Bool.false_and] at h; exact h
     have h0b : (f p == 0) = false := by rw [beq_eq_false_iff_ne]; exact h0
     have h0n : (f p != 0) = true := by simpa using h0
     clear HZ2
     have HZ4 := Lib.hid hz3
     clear hz3
     go_wp2
     go_ret
     exact ⟨by rw [HZ4.out]; rfl, HB.out⟩
   ·have hz3 : z = false := by have h := HZ2.out; rw [decide_eq_false h7, Bool.false_and, Bool.false_and] at h; exact h
    have h7' : (7 : Int) < (p : Int) := by omega
    clear HZ2
    have HZ4 := Lib.hid hz3
    clear hz3
    go_wp2
    go_ret
    exact ⟨by rw [HZ4.out]; rfl, HB.out⟩
  ·have hz3 : z = true := by rw [hz.out, show a + n - p = 0 by omega]; rfl
   have q1 : ¬ (p : Int) < (a : Int) + (n : Int) := by omega
   clear hz
   have HZ4 := Lib.hid hz3
   clear hz3
   go_wp2
   go_ret
   exact ⟨by rw [HZ4.out]; rfl, HB.out⟩
def inR (f : Nat → Int) (n : Nat) : Nat → Option Nat
 | 0 => none
 | k + 1 => if zB f (8 - (k + 1)) n = true then some (8 - (k + 1)) else inR f n k
def outR (f : Nat → Int) : Nat → Nat × Nat
 | 0 => (0, 0)
 | 1 => (0, 0)
 | n + 2 => match inR f (n + 2) 8 with
  | some a => (a, n + 2)
  | none => outR f (n + 1)
theorem outR_step (f : Nat → Int) (n : Nat) (h : 1 < n) : outR f n = match inR f n 8 with
  | some a => (a, n)
  | none => outR f (n - 1) := by
 obtain ⟨m, rfl⟩ : ∃ m, n = m + 2 := ⟨n - 2, by omega⟩
 rw [outR]
 rfl
theorem rrun_t (f : Nat → Int) (hf : ∀ k, 0 ≤ f k ∧ f k ≤ 65535) (w : World) : Calls Tryz.prog 84 #[arr8 f] w fun e w' => e = .returned (.tuple #[.int .i64 (outR f 8).1, .int .i64 (outR f 8).2]) ∧ Below w.heap.size w w' := by
 unfold arr8
 obtain ⟨r, hr⟩ : ∃ r, r = outR f 8 := ⟨_, rfl⟩
 rw [← hr]
 go_enter Tryz.func84, Tryz.ntmps84
 go_wp2_with fail
 have Rg := Row.new w (cellsF f) 107
 have hb0 : Below w.heap.size w (w.alloc (.cells (cellsF f) 107)) := (Below.refl _ _).alloc (Nat.le_refl _) _
 unfold cellsF at Rg hb0
 generalize w.alloc (.cells #[.int .u16 (f 0), .int .u16 (f 1), .int .u16 (f 2), .int .u16 (f 3), .int .u16 (f 4), .int .u16 (f 5), .int .u16 (f 6), .int .u16 (f 7)] 107) = w0 at *
 have HR := Lib.hid Rg
 have HB := Lib.hid hb0
 have HF := Lib.hid hf
 have HRE := Lib.hid hr
 clear Rg hb0 hf hr
 go_loopw [4] (fun v wr => ∃ (n : Nat), 1 ≤ n ∧ n ≤ 8 ∧ v = .int .i64 (n : Nat) ∧ Hid (r = outR f n) ∧ Hid (Row wr w.heap.size #[.int .u16 (f 0), .int .u16 (f 1), .int .u16 (f 2), .int .u16 (f 3), .int .u16 (f 4), .int .u16 (f 5), .int .u16 (f 6), .int .u16 (f 7)] 107) ∧ Hid (Below w.heap.size w wr)) (fun v _ => (intOf v).toNat)
 case atStart => exact ⟨8, by omega, by omega, rfl, HRE, HR, HB⟩
 case round =>
  clear HRE HR HB
  obtain ⟨n, hn1, hn8, rfl, hre, HR, HB⟩ := hrel
  by_cases h1 : 1 < n
  ·have h1' : (1 : Int) < (n : Int) := by omega
   have hos := outR_step f n h1
   have HOS := Lib.hid hos
   clear hos
   go_wp2_with fail
   go_loopw [5] (fun v wq => ∃ (a : Nat), a ≤ 8 ∧ v = .int .i64 (a : Nat) ∧ Hid (inR f n 8 = inR f n (8 - a)) ∧ Hid (Row wq w.heap.size #[.int .u16 (f 0), .int .u16 (f 1), .int .u16 (f 2), .int .u16 (f 3), .int .u16 (f 4), .int .u16 (f 5), .int .u16 (f 6), .int .u16 (f 7)] 107) ∧ Hid (Below w.heap.size w wq)) (fun v _ => 8 - (intOf v).toNat)
   case atStart => exact ⟨0, by omega, rfl, Lib.hid rfl, HR, HB⟩
   case round =>
    clear HR HB
    obtain ⟨a, ha8, rfl, hin, HR, HB⟩ := hrel
    by_cases hlt : a < 8
    ·have hlt' : (a : Int) < 8 := by omega
     have c0 := (HR.out.cell 0).trans (show _ = some (Value.int .u16 (f 0)) from rfl)
     have c1 := (HR.out.cell 1).trans (show _ = some (Value.int .u16 (f 1)) from rfl)
     have c2 := (HR.out.cell 2).trans (show _ = some (Value.int .u16 (f 2)) from rfl)
     have c3 := (HR.out.cell 3).trans (show _ = some (Value.int .u16 (f 3)) from rfl)
     have c4 := (HR.out.cell 4).trans (show _ = some (Value.int .u16 (f 4)) from rfl)
     have c5 := (HR.out.cell 5).trans (show _ = some (Value.int .u16 (f 5)) from rfl)
     have c6 := (HR.out.cell 6).trans (show _ = some (Value.int .u16 (f 6)) from rfl)
     have c7 := (HR.out.cell 7).trans (show _ = some (Value.int .u16 (f 7)) from rfl)
     obtain ⟨k, hk⟩ : ∃ k, 8 - a = k + 1 := ⟨7 - a, by omega⟩
     have e8 : inR f n (k + 1) = if zB f (8 - (k + 1)) n = true then some (8 - (k + 1)) else inR f n k := rfl
     have hin2 := hin.out
     rw [hk, e8, show 8 - (k + 1) = a by omega] at hin2
     clear e8
     have HIN := Lib.hid hin2
     clear hin2 hin
     go_wp2_with fail
     refine (zeros_t f HF.out a n (by omega) (by omega) _).mono ?_
     rintro e w2 ⟨rfl, hb2⟩
     have HR2 := Lib.hid (HR.out.later hb2)
     have HB2 := Lib.hid (below_step HB.out hb2)
     clear HR HB hb2 c0 c1 c2 c3 c4 c5 c6 c7
     cases hz : zB f a n with
     | true =>
      have hres : r = (a, n) := by rw [hre.out, HOS.out, HIN.out, hz]; rfl
      subst hres
      go_wp2
      go_ret2
      exact ⟨rfl, HB2.out⟩
     | false =>
      have hin3 : inR f n 8 = inR f n k := by rw [HIN.out, hz]; rfl
      have HIN3 := Lib.hid hin3
      clear hin3
      go_wp2
      exact ⟨⟨a + 1, by omega, by go_num, by rw [show 8 - (a + 1) = k by omega]; exact HIN3, HR2, HB2⟩, by simp [intOf]; omega⟩
    ·have ha : a = 8 := by omega
     subst ha
     have hre2 : r = outR f (n - 1) := by
      rw [hre.out, HOS.out, hin.out]
      rfl
     have HRE2 := Lib.hid hre2
     clear hre2 hre hin
     go_wp2
     exact ⟨⟨n - 1, by omega, by omega, congrArg (Value.int .i64) (by omega), HRE2, HR, HB⟩, by simp [intOf]; omega⟩
  ·have hn : n = 1 := by omega
   subst hn
   have hres : r = (0, 0) := by rw [hre.out]; rfl
   subst hres
   clear hre
   go_wp2
   go_ret2
   exact ⟨rfl, HB.out⟩
/-! the two runs are the same -/
theorem zB_congr {f g : Nat → Int} (h : ∀ i, i < 8 → (f i = 0 ↔ g i = 0)) : ∀ n a, zB f a n = zB g a n
 | 0, _ => rfl
 | n + 1, a => by
  rw [zB, zB, zB_congr h n (a + 1)]
  by_cases ha : a ≤ 7
  ·rw [decide_eq_decide.2 (h a (by omega))]
  ·rw [decide_eq_false ha]; rfl
theorem inR_congr {f g : Nat → Int} (h : ∀ i, i < 8 → (f i = 0 ↔ g i = 0)) (n : Nat) : ∀ k, inR f n k = inR g n k
 | 0 => rfl
 | k + 1 => by rw [inR, inR, zB_congr h, inR_congr h n k]
theorem outR_congr {f g : Nat → Int} (h : ∀ i, i < 8 → (f i = 0 ↔ g i = 0)) : ∀ n, outR f n = outR g n
 | 0 => rfl
 | 1 => rfl
 | n + 2 => by rw [outR, outR, inR_congr h, outR_congr h (n + 1)]
theorem scan_zero {f g : Nat → Int} : ∀ j, (∀ i, i < j → (f i = 0 ↔ g i = 0)) → scan f j = scan g j
 | 0, _ => rfl
 | j + 1, h => by
  rw [scan, scan, scan_zero j (fun i hi => h i (by omega))]
  by_cases h0 : f j = 0
  ·rw [if_pos h0, if_pos ((h j (by omega)).1 h0)]
  ·rw [if_neg h0, if_neg (fun e => h0 ((h j (by omega)).2 e))]
def selB (b0 b1 b2 b3 b4 b5 b6 b7 : Bool) : Nat → Int
 | 0 => if b0 then 0 else 1
 | 1 => if b1 then 0 else 1
 | 2 => if b2 then 0 else 1
 | 3 => if b3 then 0 else 1
 | 4 => if b4 then 0 else 1
 | 5 => if b5 then 0 else 1
 | 6 => if b6 then 0 else 1
 | 7 => if b7 then 0 else 1
 | _ => 1
theorem run_all : ∀ b0 b1 b2 b3 b4 b5 b6 b7 : Bool, outR (selB b0 b1 b2 b3 b4 b5 b6 b7) 8 = runS (selB b0 b1 b2 b3 b4 b5 b6 b7) := by decide +kernel
theorem run_same (f : Nat → Int) : outR f 8 = runS f := by
 have h : ∀ i, i < 8 → (f i = 0 ↔ selB (decide (f 0 = 0)) (decide (f 1 = 0)) (decide (f 2 = 0)) (decide (f 3 = 0)) (decide (f 4 = 0)) (decide (f 5 = 0)) (decide (f 6 = 0)) (decide (f 7 = 0)) i = 0) := fun i hi => by
  have key : ∀ p : Prop, ∀ [Decidable p], (p ↔ (if decide p = true then (0 : Int) else 1) = 0) := fun p _ => by by_cases hp : p <;> simp [hp]
  rcases i with _ | _ | _ | _ | _ | _ | _ | _ | i
  ·exact key _
  ·exact key _
  ·exact key _
  ·exact key _
  ·exact key _
  ·exact key _
  ·exact key _
  ·exact key _
  ·omega
 unfold runS
 rw [outR_congr h, scan_zero 8 h, run_all]
 rfl
def cellsG (f : Nat → Int) (j : Nat) : Array Value := #[.int .u16 (if 3 < j then f 0 else 0), .int .u16 (if 2 < j then f 1 else 0), .int .u16 (if 1 < j then f 2 else 0), .int .u16 (if 0 < j then f 3 else 0), .int .u16 (if 3 < j then f 4 else 0), .int .u16 (if 2 < j then f 5 else 0), .int .u16 (if 1 < j then f 6 else 0), .int .u16 (if 0 < j then f 7 else 0)]
theorem grpH0 (A : Int) : grp A 3 = hi A / 1 % 65536 := by
 show A % MM / 18446744073709551616 % 65536 = _
 unfold hi MM
 omega
theorem grpL0 (A : Int) : grp A 7 = lo A / 1 % 65536 := by
 show A % MM / 1 % 65536 = _
 unfold lo MM
 omega
theorem grpH1 (A : Int) : grp A 2 = hi A / 65536 % 65536 := by
 show A % MM / 1208925819614629174706176 % 65536 = _
 unfold hi MM
 omega
theorem grpL1 (A : Int) : grp A 6 = lo A / 65536 % 65536 := by
 show A % MM / 65536 % 65536 = _
 unfold lo MM
 omega
theorem grpH2 (A : Int) : grp A 1 = hi A / 4294967296 % 65536 := by
 show A % MM / 79228162514264337593543950336 % 65536 = _
 unfold hi MM
 omega
theorem grpL2 (A : Int) : grp A 5 = lo A / 4294967296 % 65536 := by
 show A % MM / 4294967296 % 65536 = _
 unfold lo MM
 omega
theorem grpH3 (A : Int) : grp A 0 = hi A / 281474976710656 % 65536 := by
 show A % MM / 5192296858534827628530496329220096 % 65536 = _
 unfold hi MM
 omega
theorem grpL3 (A : Int) : grp A 4 = lo A / 281474976710656 % 65536 := by
 show A % MM / 281474976710656 % 65536 = _
 unfold lo MM
 omega
def pow16 : Nat → Int
 | 0 => 1
 | 1 => 65536
 | 2 => 4294967296
 | 3 => 281474976710656
 | _ => 18446744073709551616
theorem rgroups_t (A : Int) (w : World) : Calls Tryz.prog 83 #[.agg #[.int .u64 (hi A), .int .u64 (lo A)]] w fun e w' => e = .returned (arr8 (grp A)) ∧ Below w.heap.size w w' := by
 go_enter Tryz.func83, Tryz.ntmps83
 go_wp2_with fail
 have X0 : Row (((w.alloc (.cells #[.int .u64 (hi A), .int .u64 (lo A)] 75)).alloc (.cells zero8 107)).alloc (.cells zero8 107)) w.heap.size #[.int .u64 (hi A / 1), .int .u64 (lo A / 1)] 75 := by rw [Int.ediv_one, Int.ediv_one]; exact ((Row.new w _ _).alloc _).alloc _
 have Z0 : Row (((w.alloc (.cells #[.int .u64 (hi A), .int .u64 (lo A)] 75)).alloc (.cells zero8 107)).alloc (.cells zero8 107)) (w.heap.size + 1) zero8 107 := by simpa using (Row.new (w.alloc (.cells #[.int .u64 (hi A), .int .u64 (lo A)] 75)) zero8 107).alloc (.cells zero8 107)
 have G0 : Row (((w.alloc (.cells #[.int .u64 (hi A), .int .u64 (lo A)] 75)).alloc (.cells zero8 107)).alloc (.cells zero8 107)) (w.heap.size + 2) (cellsG (grp A) 0) 107 := by
  have h := Row.new ((w.alloc (.cells #[.int .u64 (hi A), .int .u64 (lo A)] 75)).alloc (.cells zero8 107)) zero8 107
  rw [show ((w.alloc (.cells #[.int .u64 (hi A), .int .u64 (lo A)] 75)).alloc (.cells zero8 107)).heap.size = w.heap.size + 2 by simp] at h
  exact h
 have hb0 : Below w.heap.size w (((w.alloc (.cells #[.int .u64 (hi A), .int .u64 (lo A)] 75)).alloc (.cells zero8 107)).alloc (.cells zero8 107)) := (by repeat (first | exact Below.refl _ _ | assumption | (with_reducible refine Below.drew ?_) | ((with_reducible first | refine Below.setCell ?_ ?h _ | refine Below.alloc ?_ ?h _ | refine Below.trans ?_ (hb2.mono ?h) | refine Below.trans ?_ (hb.mono ?h) | refine Below.trans ?_ (hb0.mono ?h)); case h => first | omega | (simp; done) | (simp; omega))))
 unfold zero8 at X0 Z0 G0 hb0
 generalize ((w.alloc (.cells #[.int .u64 (hi A), .int .u64 (lo A)] 75)).alloc (.cells #[.int .u16 0, .int .u16 0, .int .u16 0, .int .u16 0, .int .u16 0, .int .u16 0, .int .u16 0, .int .u16 0] 107)).alloc (.cells #[.int .u16 0, .int .u16 0, .int .u16 0, .int .u16 0, .int .u16 0, .int .u16 0, .int .u16 0, .int .u16 0] 107) = w0 at *
 go_loopw [4] (fun i wr => ∃ (j : Nat), j ≤ 4 ∧ i = .int .i64 j ∧ Row wr w.heap.size #[.int .u64 (hi A / pow16 j), .int .u64 (lo A / pow16 j)] 75 ∧ Row wr (w.heap.size + 1) zero8 107 ∧ Row wr (w.heap.size + 2) (cellsG (grp A) j) 107 ∧ Below w.heap.size w wr) (fun i _ => 4 - (intOf i).toNat)
 case atStart => exact ⟨0, by omega, rfl, X0, Z0, G0, hb0⟩
 case round =>
  clear X0 Z0 G0 hb0
  obtain ⟨j, hj, rfl, X, Z, G, hb⟩ := hrel
  rcases j with _ | _ | _ | _ | _ | j
  ·replace X : Row wr w.heap.size #[.int .u64 (hi A / 1), .int .u64 (lo A / 1)] 75 := X
   replace G : Row wr (w.heap.size + 2) (cellsG (grp A) 0) 107 := G
   have x0 := (X.cell 0).trans (show _ = some (Value.int .u64 (hi A / 1)) from rfl)
   have x1 := (X.cell 1).trans (show _ = some (Value.int .u64 (lo A / 1)) from rfl)
   have xf0 := X.frozen 0
   have xf1 := X.frozen 1
   have g0 := (G.cell 3).trans (show _ = some (Value.int .u16 0) from rfl)
   have g1 := (G.cell 7).trans (show _ = some (Value.int .u16 0) from rfl)
   have gf0 := G.frozen 3
   have gf1 := G.frozen 7
   have hwh := word_hi A
   have hwl := word_lo A
   have HG1 : Hid (grp A 3 = hi A / 1 % 65536) := Lib.hid (grpH0 A)
   have HG2 : Hid (grp A 7 = lo A / 1 % 65536) := Lib.hid (grpL0 A)
   have hrx : 0 ≤ hi A / 1 ∧ hi A / 1 < 18446744073709551616 := by unfold Word at hwh; omega
   have hry : 0 ≤ lo A / 1 ∧ lo A / 1 < 18446744073709551616 := by unfold Word at hwl; omega
   have HX1 : Hid (hi A / 1 / 65536 = hi A / 65536) := Lib.hid (by rw [Int.ediv_ediv_of_nonneg (by decide)]; rfl)
   have HY1 : Hid (lo A / 1 / 65536 = lo A / 65536) := Lib.hid (by rw [Int.ediv_ediv_of_nonneg (by decide)]; rfl)
   have HX := Lib.hid X
   have HZ := Lib.hid Z
   have HG := Lib.hid G
   have HB := Lib.hid hb
   clear X Z G hb hwh hwl
   generalize hi A / 1 = x at *
   generalize lo A / 1 = y at *
   obtain ⟨rx0, rx1⟩ := hrx
   obtain ⟨ry0, ry1⟩ := hry
   have wx : IntKind.u16.wrap (x % 65536) = x % 65536 := by simp [IntKind.wrap, IntKind.bits, IntKind.signed]
   have wy : IntKind.u16.wrap (y % 65536) = y % 65536 := by simp [IntKind.wrap, IntKind.bits, IntKind.signed]
   go_wp2_with fail
   go_region
   have X2 := ((HX.out.set_far ⟨w.heap.size + 2, 3, none⟩ (.int .u16 (x % 65536)) (by dsimp only; omega)).set_far ⟨w.heap.size + 2, 7, none⟩ (.int .u16 (y % 65536)) (by dsimp only; omega)).drew
   have Z2 := ((HZ.out.set_far ⟨w.heap.size + 2, 3, none⟩ (.int .u16 (x % 65536)) (by dsimp only; omega)).set_far ⟨w.heap.size + 2, 7, none⟩ (.int .u16 (y % 65536)) (by dsimp only; omega)).drew
   have G2 := ((HG.out.set 3 (.int .u16 (x % 65536))).set 7 (.int .u16 (y % 65536))).drew
   have hb2 := ((HB.out.setCell (p := ⟨w.heap.size + 2, 3, none⟩) (by dsimp only; omega) (.int .u16 (x % 65536))).setCell (p := ⟨w.heap.size + 2, 7, none⟩) (by dsimp only; omega) (.int .u16 (y % 65536))).drew
   rw [← HG1.out, ← HG2.out, show ((cellsG (grp A) 0).setIfInBounds 3 (.int .u16 (grp A 3))).setIfInBounds 7 (.int .u16 (grp A 7)) = cellsG (grp A) 1 from rfl, HG1.out, HG2.out] at G2
   generalize ((wr.setCell ⟨w.heap.size + 2, 3, none⟩ (.int .u16 (x % 65536))).setCell ⟨w.heap.size + 2, 7, none⟩ (.int .u16 (y % 65536))).drew = w2 at *
   have x0 := (X2.cell 0).trans (show _ = some (Value.int .u64 x) from rfl)
   have x1 := (X2.cell 1).trans (show _ = some (Value.int .u64 y) from rfl)
   have xf0 := X2.frozen 0
   have xf1 := X2.frozen 1
   have HX2 := Lib.hid X2
   have HZ2 := Lib.hid Z2
   have HG3 := Lib.hid G2
   have HB2 := Lib.hid hb2
   clear X2 Z2 G2 hb2 HX HZ HG HB g0 g1 gf0 gf1
   go_wp2
   refine ⟨⟨1, by omega, by go_num, ?_, (HZ2.out.set_far _ _ (by dsimp only; omega)).set_far _ _ (by dsimp only; omega), (HG3.out.set_far _ _ (by dsimp only; omega)).set_far _ _ (by dsimp only; omega), (HB2.out.setCell (by dsimp only; omega) _).setCell (by dsimp only; omega) _⟩, by simp [intOf]⟩
   have h := (HX2.out.set 0 (.int .u64 (x / 65536))).set 1 (.int .u64 (y / 65536))
   show Row _ _ #[.int .u64 (hi A / 65536), .int .u64 (lo A / 65536)] _
   rw [← HX1.out, ← HY1.out]
   simpa using h
  ·replace X : Row wr w.heap.size #[.int .u64 (hi A / 65536), .int .u64 (lo A / 65536)] 75 := X
   replace G : Row wr (w.heap.size + 2) (cellsG (grp A) 1) 107 := G
   have x0 := (X.cell 0).trans (show _ = some (Value.int .u64 (hi A / 65536)) from rfl)
   have x1 := (X.cell 1).trans (show _ = some (Value.int .u64 (lo A / 65536)) from rfl)
   have xf0 := X.frozen 0
   have xf1 := X.frozen 1
   have g0 := (G.cell 2).trans (show _ = some (Value.int .u16 0) from rfl)
   have g1 := (G.cell 6).trans (show _ = some (Value.int .u16 0) from rfl)
   have gf0 := G.frozen 2
   have gf1 := G.frozen 6
   have hwh := word_hi A
   have hwl := word_lo A
   have HG1 : Hid (grp A 2 = hi A / 65536 % 65536) := Lib.hid (grpH1 A)
   have HG2 : Hid (grp A 6 = lo A / 65536 % 65536) := Lib.hid (grpL1 A)
   have hrx : 0 ≤ hi A / 65536 ∧ hi A / 65536 < 18446744073709551616 := by unfold Word at hwh; omega
   have hry : 0 ≤ lo A / 65536 ∧ lo A / 65536 < 18446744073709551616 := by unfold Word at hwl; omega
   have HX1 : Hid (hi A / 65536 / 65536 = hi A / 4294967296) := Lib.hid (by rw [Int.ediv_ediv_of_nonneg (by decide)]; rfl)
   have HY1 : Hid (lo A / 65536 / 65536 = lo A / 4294967296) := Lib.hid (by rw [Int.ediv_ediv_of_nonneg (by decide)]; rfl)
   have HX := Lib.hid X
   have HZ := Lib.hid Z
   have HG := Lib.hid G
   have HB := Lib.hid hb
   clear X Z G hb hwh hwl
   generalize hi A / 65536 = x at *
   generalize lo A / 65536 = y at *
   obtain ⟨rx0, rx1⟩ := hrx
   obtain ⟨ry0, ry1⟩ := hry
   have wx : IntKind.u16.wrap (x % 65536) = x % 65536 := by simp [IntKind.wrap, IntKind.bits, IntKind.signed]
   have wy : IntKind.u16.wrap (y % 65536) = y % 65536 := by simp [IntKind.wrap, IntKind.bits, IntKind.signed]
   go_wp2_with fail
   go_region
   have X2 := ((HX.out.set_far ⟨w.heap.size + 2, 2, none⟩ (.int .u16 (x % 65536)) (by dsimp only; omega)).set_far ⟨w.heap.size + 2, 6, none⟩ (.int .u16 (y % 65536)) (by dsimp only; omega)).drew
   have Z2 := ((HZ.out.set_far ⟨w.heap.size + 2, 2, none⟩ (.int .u16 (x % 65536)) (by dsimp only; omega)).set_far ⟨w.heap.size + 2, 6, none⟩ (.int .u16 (y % 65536)) (by dsimp only; omega)).drew
   have G2 := ((HG.out.set 2 (.int .u16 (x % 65536))).set 6 (.int .u16 (y % 65536))).drew
   have hb2 := ((HB.out.setCell (p := ⟨w.heap.size + 2, 2, none⟩) (by dsimp only; omega) (.int .u16 (x % 65536))).setCell (p := ⟨w.heap.size + 2, 6, none⟩) (by dsimp only; omega) (.int .u16 (y % 65536))).drew
   rw [← HG1.out, ← HG2.out, show ((cellsG (grp A) 1).setIfInBounds 2 (.int .u16 (grp A 2))).setIfInBounds 6 (.int .u16 (grp A 6)) = cellsG (grp A) 2 from rfl, HG1.out, HG2.out] at G2
   generalize ((wr.setCell ⟨w.heap.size + 2, 2, none⟩ (.int .u16 (x % 65536))).setCell ⟨w.heap.size + 2, 6, none⟩ (.int .u16 (y % 65536))).drew = w2 at *
   have x0 := (X2.cell 0).trans (show _ = some (Value.int .u64 x) from rfl)
   have x1 := (X2.cell 1).trans (show _ = some (Value.int .u64 y) from rfl)
   have xf0 := X2.frozen 0
   have xf1 := X2.frozen 1
   have HX2 := Lib.hid X2
   have HZ2 := Lib.hid Z2
   have HG3 := Lib.hid G2
   have HB2 := Lib.hid hb2
   clear X2 Z2 G2 hb2 HX HZ HG HB g0 g1 gf0 gf1
   go_wp2
   refine ⟨⟨2, by omega, by go_num, ?_, (HZ2.out.set_far _ _ (by dsimp only; omega)).set_far _ _ (by dsimp only; omega), (HG3.out.set_far _ _ (by dsimp only; omega)).set_far _ _ (by dsimp only; omega), (HB2.out.setCell (by dsimp only; omega) _).setCell (by dsimp only; omega) _⟩, by simp [intOf]⟩
   have h := (HX2.out.set 0 (.int .u64 (x / 65536))).set 1 (.int .u64 (y / 65536))
   show Row _ _ #[.int .u64 (hi A / 4294967296), .int .u64 (lo A / 4294967296)] _
   rw [← HX1.out, ← HY1.out]
   simpa using h
  ·replace X : Row wr w.heap.size #[.int .u64 (hi A / 4294967296), .int .u64 (lo A / 4294967296)] 75 := X
   replace G : Row wr (w.heap.size + 2) (cellsG (grp A) 2) 107 := G
   have x0 := (X.cell 0).trans (show _ = some (Value.int .u64 (hi A / 4294967296)) from rfl)
   have x1 := (X.cell 1).trans (show _ = some (Value.int .u64 (lo A / 4294967296)) from rfl)
   have xf0 := X.frozen 0
   have xf1 := X.frozen 1
   have g0 := (G.cell 1).trans (show _ = some (Value.int .u16 0) from rfl)
   have g1 := (G.cell 5).trans (show _ = some (Value.int .u16 0) from rfl)
   have gf0 := G.frozen 1
   have gf1 := G.frozen 5
   have hwh := word_hi A
   have hwl := word_lo A
   have HG1 : Hid (grp A 1 = hi A / 4294967296 % 65536) := Lib.hid (grpH2 A)
   have HG2 : Hid (grp A 5 = lo A / 4294967296 % 65536) := Lib.hid (grpL2 A)
   have hrx : 0 ≤ hi A / 4294967296 ∧ hi A / 4294967296 < 18446744073709551616 := by unfold Word at hwh; omega
   have hry : 0 ≤ lo A / 4294967296 ∧ lo A / 4294967296 < 18446744073709551616 := by unfold Word at hwl; omega
   have HX1 : Hid (hi A / 4294967296 / 65536 = hi A / 281474976710656) := Lib.hid (by rw [Int.ediv_ediv_of_nonneg (by decide)]; rfl)
   have HY1 : Hid (lo A / 4294967296 / 65536 = lo A / 281474976710656) := Lib.hid (by rw [Int.ediv_ediv_of_nonneg (by decide)]; rfl)
   have HX := Lib.hid X
   have HZ := Lib.hid Z
   have HG := Lib.hid G
   have HB := Lib.hid hb
   clear X Z G hb hwh hwl
   generalize hi A / 4294967296 = x at *
   generalize lo A / 4294967296 = y at *
   obtain ⟨rx0, rx1⟩ := hrx
   obtain ⟨ry0, ry1⟩ := hry
   have wx : IntKind.u16.wrap (x % 65536) = x % 65536 := by simp [IntKind.wrap, IntKind.bits, IntKind.signed]
   have wy : IntKind.u16.wrap (y % 65536) = y % 65536 := by simp [IntKind.wrap, IntKind.bits, IntKind.signed]
   go_wp2_with fail
   go_region
   have X2 := ((HX.out.set_far ⟨w.heap.size + 2, 1, none⟩ (.int .u16 (x % 65536)) (by dsimp only; omega)).set_far ⟨w.heap.size + 2, 5, none⟩ (.int .u16 (y % 65536)) (by dsimp only; omega)).drew
   have Z2 := ((HZ.out.set_far ⟨w.heap.size + 2, 1, none⟩ (.int .u16 (x % 65536)) (by dsimp only; omega)).set_far ⟨w.heap.size + 2, 5, none⟩ (.int .u16 (y % 65536)) (by dsimp only; omega)).drew
   have G2 := ((HG.out.set 1 (.int .u16 (x % 65536))).set 5 (.int .u16 (y % 65536))).drew
   have hb2 := ((HB.out.setCell (p := ⟨w.heap.size + 2, 1, none⟩) (by dsimp only; omega) (.int .u16 (x % 65536))).setCell (p := ⟨w.heap.size + 2, 5, none⟩) (by dsimp only; omega) (.int .u16 (y % 65536))).drew
   rw [← HG1.out, ← HG2.out, show ((cellsG (grp A) 2).setIfInBounds 1 (.int .u16 (grp A 1))).setIfInBounds 5 (.int .u16 (grp A 5)) = cellsG (grp A) 3 from rfl, HG1.out, HG2.out] at G2
   generalize ((wr.setCell ⟨w.heap.size + 2, 1, none⟩ (.int .u16 (x % 65536))).setCell ⟨w.heap.size + 2, 5, none⟩ (.int .u16 (y % 65536))).drew = w2 at *
   have x0 := (X2.cell 0).trans (show _ = some (Value.int .u64 x) from rfl)
   have x1 := (X2.cell 1).trans (show _ = some (Value.int .u64 y) from rfl)
   have xf0 := X2.frozen 0
   have xf1 := X2.frozen 1
   have HX2 := Lib.hid X2
   have HZ2 := Lib.hid Z2
   have HG3 := Lib.hid G2
   have HB2 := Lib.hid hb2
   clear X2 Z2 G2 hb2 HX HZ HG HB g0 g1 gf0 gf1
   go_wp2
   refine ⟨⟨3, by omega, by go_num, ?_, (HZ2.out.set_far _ _ (by dsimp only; omega)).set_far _ _ (by dsimp only; omega), (HG3.out.set_far _ _ (by dsimp only; omega)).set_far _ _ (by dsimp only; omega), (HB2.out.setCell (by dsimp only; omega) _).setCell (by dsimp only; omega) _⟩, by simp [intOf]⟩
   have h := (HX2.out.set 0 (.int .u64 (x / 65536))).set 1 (.int .u64 (y / 65536))
   show Row _ _ #[.int .u64 (hi A / 281474976710656), .int .u64 (lo A / 281474976710656)] _
   rw [← HX1.out, ← HY1.out]
   simpa using h
  ·replace X : Row wr w.heap.size #[.int .u64 (hi A / 281474976710656), .int .u64 (lo A / 281474976710656)] 75 := X
   replace G : Row wr (w.heap.size + 2) (cellsG (grp A) 3) 107 := G
   have x0 := (X.cell 0).trans (show _ = some (Value.int .u64 (hi A / 281474976710656)) from rfl)
   have x1 := (X.cell 1).trans (show _ = some (Value.int .u64 (lo A / 281474976710656)) from rfl)
   have xf0 := X.frozen 0
   have xf1 := X.frozen 1
   have g0 := (G.cell 0).trans (show _ = some (Value.int .u16 0) from rfl)
   have g1 := (G.cell 4).trans (show _ = some (Value.int .u16 0) from rfl)
   have gf0 := G.frozen 0
   have gf1 := G.frozen 4
   have hwh := word_hi A
   have hwl := word_lo A
   have HG1 : Hid (grp A 0 = hi A / 281474976710656 % 65536) := Lib.hid (grpH3 A)
   have HG2 : Hid (grp A 4 = lo A / 281474976710656 % 65536) := Lib.hid (grpL3 A)
   have hrx : 0 ≤ hi A / 281474976710656 ∧ hi A / 281474976710656 < 18446744073709551616 := by unfold Word at hwh; omega
   have hry : 0 ≤ lo A / 281474976710656 ∧ lo A / 281474976710656 < 18446744073709551616 := by unfold Word at hwl; omega
   have HX1 : Hid (hi A / 281474976710656 / 65536 = hi A / 18446744073709551616) := Lib.hid (by rw [Int.ediv_ediv_of_nonneg (by decide)]; rfl)
   have HY1 : Hid (lo A / 281474976710656 / 65536 = lo A / 18446744073709551616) := Lib.hid (by rw [Int.ediv_ediv_of_nonneg (by decide)]; rfl)
   have HX := Lib.hid X
   have HZ := Lib.hid Z
   have HG := Lib.hid G
   have HB := Lib.hid hb
   clear X Z G hb hwh hwl
   generalize hi A / 281474976710656 = x at *
   generalize lo A / 281474976710656 = y at *
   obtain ⟨rx0, rx1⟩ := hrx
   obtain ⟨ry0, ry1⟩ := hry
   have wx : IntKind.u16.wrap (x % 65536) = x % 65536 := by simp [IntKind.wrap, IntKind.bits, IntKind.signed]
   have wy : IntKind.u16.wrap (y % 65536) = y % 65536 := by simp [IntKind.wrap, IntKind.bits, IntKind.signed]
   go_wp2_with fail
   go_region
   have X2 := ((HX.out.set_far ⟨w.heap.size + 2, 0, none⟩ (.int .u16 (x % 65536)) (by dsimp only; omega)).set_far ⟨w.heap.size + 2, 4, none⟩ (.int .u16 (y % 65536)) (by dsimp only; omega)).drew
   have Z2 := ((HZ.out.set_far ⟨w.heap.size + 2, 0, none⟩ (.int .u16 (x % 65536)) (by dsimp only; omega)).set_far ⟨w.heap.size + 2, 4, none⟩ (.int .u16 (y % 65536)) (by dsimp only; omega)).drew
   have G2 := ((HG.out.set 0 (.int .u16 (x % 65536))).set 4 (.int .u16 (y % 65536))).drew
   have hb2 := ((HB.out.setCell (p := ⟨w.heap.size + 2, 0, none⟩) (by dsimp only; omega) (.int .u16 (x % 65536))).setCell (p := ⟨w.heap.size + 2, 4, none⟩) (by dsimp only; omega) (.int .u16 (y % 65536))).drew
   rw [← HG1.out, ← HG2.out, show ((cellsG (grp A) 3).setIfInBounds 0 (.int .u16 (grp A 0))).setIfInBounds 4 (.int .u16 (grp A 4)) = cellsG (grp A) 4 from rfl, HG1.out, HG2.out] at G2
   generalize ((wr.setCell ⟨w.heap.size + 2, 0, none⟩ (.int .u16 (x % 65536))).setCell ⟨w.heap.size + 2, 4, none⟩ (.int .u16 (y % 65536))).drew = w2 at *
   have x0 := (X2.cell 0).trans (show _ = some (Value.int .u64 x) from rfl)
   have x1 := (X2.cell 1).trans (show _ = some (Value.int .u64 y) from rfl)
   have xf0 := X2.frozen 0
   have xf1 := X2.frozen 1
   have HX2 := Lib.hid X2
   have HZ2 := Lib.hid Z2
   have HG3 := Lib.hid G2
   have HB2 := Lib.hid hb2
   clear X2 Z2 G2 hb2 HX HZ HG HB g0 g1 gf0 gf1
   go_wp2
   refine ⟨⟨4, by omega, by go_num, ?_, (HZ2.out.set_far _ _ (by dsimp only; omega)).set_far _ _ (by dsimp only; omega), (HG3.out.set_far _ _ (by dsimp only; omega)).set_far _ _ (by dsimp only; omega), (HB2.out.setCell (by dsimp only; omega) _).setCell (by dsimp only; omega) _⟩, by simp [intOf]⟩
   have h := (HX2.out.set 0 (.int .u64 (x / 65536))).set 1 (.int .u64 (y / 65536))
   show Row _ _ #[.int .u64 (hi A / 18446744073709551616), .int .u64 (lo A / 18446744073709551616)] _
   rw [← HX1.out, ← HY1.out]
   simpa using h
  ·have G' : Row wr (w.heap.size + 2) #[.int .u16 (grp A 0), .int .u16 (grp A 1), .int .u16 (grp A 2), .int .u16 (grp A 3), .int .u16 (grp A 4), .int .u16 (grp A 5), .int .u16 (grp A 6), .int .u16 (grp A 7)] 107 := G
   have c0 := (G'.cell 0).trans (show _ = some (Value.int .u16 (grp A 0)) from rfl)
   have z0 := (Z.cell 0).trans (show _ = some (Value.int .u16 0) from rfl)
   have f0 := Z.frozen 0
   have c1 := (G'.cell 1).trans (show _ = some (Value.int .u16 (grp A 1)) from rfl)
   have z1 := (Z.cell 1).trans (show _ = some (Value.int .u16 0) from rfl)
   have f1 := Z.frozen 1
   have c2 := (G'.cell 2).trans (show _ = some (Value.int .u16 (grp A 2)) from rfl)
   have z2 := (Z.cell 2).trans (show _ = some (Value.int .u16 0) from rfl)
   have f2 := Z.frozen 2
   have c3 := (G'.cell 3).trans (show _ = some (Value.int .u16 (grp A 3)) from rfl)
   have z3 := (Z.cell 3).trans (show _ = some (Value.int .u16 0) from rfl)
   have f3 := Z.frozen 3
   have c4 := (G'.cell 4).trans (show _ = some (Value.int .u16 (grp A 4)) from rfl)
   have z4 := (Z.cell 4).trans (show _ = some (Value.int .u16 0) from rfl)
   have f4 := Z.frozen 4
   have c5 := (G'.cell 5).trans (show _ = some (Value.int .u16 (grp A 5)) from rfl)
   have z5 := (Z.cell 5).trans (show _ = some (Value.int .u16 0) from rfl)
   have f5 := Z.frozen 5
   have c6 := (G'.cell 6).trans (show _ = some (Value.int .u16 (grp A 6)) from rfl)
   have z6 := (Z.cell 6).trans (show _ = some (Value.int .u16 0) from rfl)
   have f6 := Z.frozen 6
   have c7 := (G'.cell 7).trans (show _ = some (Value.int .u16 (grp A 7)) from rfl)
   have z7 := (Z.cell 7).trans (show _ = some (Value.int .u16 0) from rfl)
   have f7 := Z.frozen 7
   have HB := Lib.hid hb
   have HZ := Lib.hid Z
   clear X Z G G' hb
   go_wp2
   have Q := Row.set8 (f := fun _ => 0) HZ.out (.int .u16 (grp A 0)) (.int .u16 (grp A 1)) (.int .u16 (grp A 2)) (.int .u16 (grp A 3)) (.int .u16 (grp A 4)) (.int .u16 (grp A 5)) (.int .u16 (grp A 6)) (.int .u16 (grp A 7))
   have hbf := below8 (g := w.heap.size + 1) HB.out (by omega) (.int .u16 (grp A 0)) (.int .u16 (grp A 1)) (.int .u16 (grp A 2)) (.int .u16 (grp A 3)) (.int .u16 (grp A 4)) (.int .u16 (grp A 5)) (.int .u16 (grp A 6)) (.int .u16 (grp A 7))
   have s0 := (Q.cell 0).trans (show _ = some (Value.int .u16 (grp A 0)) from rfl)
   have s1 := (Q.cell 1).trans (show _ = some (Value.int .u16 (grp A 1)) from rfl)
   have s2 := (Q.cell 2).trans (show _ = some (Value.int .u16 (grp A 2)) from rfl)
   have s3 := (Q.cell 3).trans (show _ = some (Value.int .u16 (grp A 3)) from rfl)
   have s4 := (Q.cell 4).trans (show _ = some (Value.int .u16 (grp A 4)) from rfl)
   have s5 := (Q.cell 5).trans (show _ = some (Value.int .u16 (grp A 5)) from rfl)
   have s6 := (Q.cell 6).trans (show _ = some (Value.int .u16 (grp A 6)) from rfl)
   have s7 := (Q.cell 7).trans (show _ = some (Value.int .u16 (grp A 7)) from rfl)
   clear c0 z0 f0 c1 z1 f1 c2 z2 f2 c3 z3 f3 c4 z4 f4 c5 z5 f5 c6 z6 f6 c7 z7 f7 Q
   have HBF := Lib.hid hbf
   clear hbf HZ HB
   generalize ((((((((wr.setCell ⟨w.heap.size + 1, 0, none⟩ (.int .u16 (grp A 0))).setCell ⟨w.heap.size + 1, 1, none⟩ (.int .u16 (grp A 1))).setCell ⟨w.heap.size + 1, 2, none⟩ (.int .u16 (grp A 2))).setCell ⟨w.heap.size + 1, 3, none⟩ (.int .u16 (grp A 3))).setCell ⟨w.heap.size + 1, 4, none⟩ (.int .u16 (grp A 4))).setCell ⟨w.heap.size + 1, 5, none⟩ (.int .u16 (grp A 5))).setCell ⟨w.heap.size + 1, 6, none⟩ (.int .u16 (grp A 6))).setCell ⟨w.heap.size + 1, 7, none⟩ (.int .u16 (grp A 7))) = wF at *
   exact bodyPost_ret (v := arr8 (grp A)) (by simp only [results, Tryz.results83]; simp [go_sem, s0, s1, s2, s3, s4, s5, s6, s7, arr8]) rfl ⟨rfl, HBF.out⟩
  ·omega
structure Mc where
 n : Nat
 a : Nat
 p : Nat
 k : Nat
def mstep (s : Mc) (c : UInt8) : Option Mc :=
 if c.toNat = 46 then (if s.k = 0 then none else some ⟨0, (256 * s.a + s.n) % 4294967296, s.p + 1, 0⟩)
 else if c.toNat < 48 ∨ 57 < c.toNat ∨ (0 < s.k ∧ s.n = 0) ∨ 2 < s.k ∨ 3 < s.p then none
 else if 255 < 10 * s.n + (c.toNat - 48) then none else some ⟨10 * s.n + (c.toNat - 48), s.a, s.p, s.k + 1⟩
def mrun : Mc → List UInt8 → Option Mc
 | s, [] => some s
 | s, c :: l => (mstep s c).bind fun s' => mrun s' l
def mEnd (s : Mc) : Option Nat := if s.p ≠ 3 ∨ s.k = 0 then none else some ((256 * s.a + s.n) % 4294967296)
def mach (l : List UInt8) : Option Nat := (mrun ⟨0, 0, 0, 0⟩ l).bind mEnd
structure MInv (done : List Nat) (cur : List UInt8) (s : Mc) (pre : List UInt8) : Prop where
 pre : pre = (done.map fun b => Lib.decDigits b ++ [46]).flatten ++ cur
 p : s.p = done.length
 le : ∀ b ∈ done, b ≤ 255
 a : s.a = done.foldl (fun a b => (256 * a + b) % 4294967296) 0
 k : s.k = cur.length
 n0 : cur = [] → s.n = 0
 nc : cur ≠ [] → cur = Lib.decDigits s.n
 n : s.n ≤ 255
theorem MInv.step {done : List Nat} {cur : List UInt8} {s s' : Mc} {pre : List UInt8} {c : UInt8} (h : MInv done cur s pre) (hs : mstep s c = some s') : ∃ done' cur', MInv done' cur' s' (pre ++ [c]) := by
 unfold mstep at hs
 split at hs
 ·rename_i hc
  split at hs
  ·cases hs
  ·rename_i hk
   cases hs
   have hne : cur ≠ [] := fun e => hk (by rw [h.k, e]; rfl)
   have hcc : c = 46 := by apply UInt8.toNat.inj; simpa using hc
   refine ⟨done ++ [s.n], [], ?_, by simp [h.p], fun b hb => ?_, ?_, rfl, fun _ => rfl, fun e => absurd rfl e, by simp⟩
   ·rw [h.pre, hcc, h.nc hne]
    rw [← h.nc hne]
    conv => lhs; rw [h.nc hne]
    simp
   ·rcases List.mem_append.1 hb with h1 | h1
    ·exact h.le b h1
    ·simp at h1; rw [h1]; exact h.n
   ·rw [List.foldl_append, ← h.a]; rfl
 ·split at hs
  ·cases hs
  ·rename_i hc hd
   split at hs
   ·cases hs
   ·rename_i hn
    cases hs
    refine ⟨done, cur ++ [c], ?_, h.p, h.le, h.a, by simp [h.k], fun e => by simp at e, fun _ => ?_, by show 10 * s.n + (c.toNat - 48) ≤ 255; omega⟩
    ·rw [h.pre, List.append_assoc]
    ·show cur ++ [c] = Lib.decDigits (10 * s.n + (c.toNat - 48))
     have hcd : UInt8.ofNat (48 + (c.toNat - 48)) = c := by
      rw [show 48 + (c.toNat - 48) = c.toNat by omega]; simp
     by_cases he : cur = []
     ·rw [he, h.n0 he, dec_one _ (by omega), show (10 * 0 + (c.toNat - 48)) % 10 = c.toNat - 48 by omega, hcd]; rfl
     ·have hk : 0 < s.k := by rw [h.k]; cases cur with | nil => exact absurd rfl he | cons _ _ => simp
      have hn0 : s.n ≠ 0 := fun e => hd (.inr (.inr (.inl ⟨hk, e⟩)))
      rw [dec_step _ (by omega), show (10 * s.n + (c.toNat - 48)) / 10 = s.n by omega, show (10 * s.n + (c.toNat - 48)) % 10 = c.toNat - 48 by omega, hcd, ← h.nc he]
theorem MInv.run : ∀ (l : List UInt8) {done : List Nat} {cur : List UInt8} {s s' : Mc} {pre : List UInt8}, MInv done cur s pre → mrun s l = some s' → ∃ done' cur', MInv done' cur' s' (pre ++ l)
 | [], done, cur, s, s', pre, h, hr => by
  cases hr
  exact ⟨done, cur, by simpa using h⟩
 | c :: l, done, cur, s, s', pre, h, hr => by
  rw [mrun] at hr
  cases hq : mstep s c with
  | none => rw [hq] at hr; cases hr
  | some s1 =>
   rw [hq] at hr
   obtain ⟨d1, c1, h1⟩ := h.step hq
   obtain ⟨d2, c2, h2⟩ := MInv.run l h1 hr
   exact ⟨d2, c2, by simpa using h2⟩
def rp (o : Option Nat) : Value := match o with
 | some v => .tuple #[.int .u32 v, .bool true]
 | none => .tuple #[.int .u32 0, .bool false]
def gAcc : Nat → List UInt8 → Option Nat
 | acc, [] => some acc
 | acc, c :: r => match hexV c with
  | none => none
  | some d => gAcc ((16 * acc + d) % 65536) r
def GrpPost (o : Option Nat) (e : Ending) : Prop := match o with
 | some v => e = .returned (.tuple #[.int .u16 v, .bool true])
 | none => ∃ x, e = .returned (.tuple #[.int .u16 x, .bool false])
def OwnU (base : Nat) (w : World) (v : Value) (vs : List Nat) : Prop := w.ownsRow base 106 1 v vs.length (valsV vs)
theorem OwnU.later {base : Nat} {w w' : World} {v : Value} {l : List Nat} (h : OwnU base w v l) (hb : Below w.heap.size w w') : OwnU base w' v l := by
 obtain ⟨hl, h⟩ := h
 refine ⟨hl, ?_⟩
 rcases h with h | ⟨g, cap, cur, hv, hbs, hg, h1⟩
 ·exact .inl h
 ·exact .inr ⟨g, cap, cur, hv, hbs, (Row.later (t := 106) hg hb), h1⟩
theorem OwnU.block {base : Nat} {w : World} {v : Value} {l : List Nat} (h : OwnU base w v l) (g : Nat) (hg : v.ownBlock = some g) : base ≤ g ∧ g < w.heap.size := by
 rcases h.2 with ⟨rfl, _⟩ | ⟨g', cap, cur, rfl, hbs, hr, _⟩
 ·cases hg
 ·have : g' = g := by simpa [Value.ownBlock] using hg
  subst this
  exact ⟨hbs, Row.lt (t := 106) hr⟩
theorem OwnU.nil (base : Nat) (w : World) : OwnU base w (.slice none 0 0) [] := ⟨rfl, .inl ⟨rfl, rfl⟩⟩
theorem OwnU.read {base : Nat} {w : World} {v : Value} {l : List Nat} (h : OwnU base w v l) : ∃ p c, v = .slice p l.length c ∧ (0 < l.length → ∃ g, p = some ⟨g, 0, none⟩ ∧ base ≤ g ∧ g < w.heap.size ∧ ∀ (j x : Nat), l[j]? = some x → w.cell? ⟨g, j, none⟩ = some (.int .u16 (x : Int))) := by
 obtain ⟨hl, h⟩ := h
 rcases h with ⟨rfl, h0⟩ | ⟨g, cap, cur, rfl, hb, hg, h1, h2, h3, h4⟩
 ·exact ⟨none, 0, by rw [h0], fun h => by omega⟩
 ·refine ⟨_, cap, rfl, fun _ => ⟨g, rfl, hb, Row.lt (t := 106) hg, fun j x hx => ?_⟩⟩
  rw [cell_of_row w g j cur _ _ hg, ← Array.getElem?_toList]
  have hj : j < l.length := by rw [List.getElem?_eq_some_iff] at hx; exact hx.1
  have : (valsV l)[j]? = some (.int .u16 (x : Int)) := by unfold valsV; rw [List.getElem?_map, hx]; rfl
  rw [← h4, List.getElem?_take, if_pos (by omega)] at this
  exact this
def RdInv (d : Bool) (l : List UInt8) (fr j : Nat) (vs : List Nat) : Prop :=
 (fr ≤ j ∧ j ≤ l.length ∧ (58 : UInt8) ∉ (l.take j).drop fr ∧ seqV d (splitC l) = (seqV d (splitC (l.drop fr))).map fun us => vs ++ us) ∨ (j = l.length + 1 ∧ seqV d (splitC l) = some vs)
theorem take_drop_succ6 (l : List UInt8) (fr j : Nat) (h : fr ≤ j) (hj : j < l.length) : (l.take (j + 1)).drop fr = (l.take j).drop fr ++ [l[j]] := by
 rw [List.take_add_one, List.getElem?_eq_getElem hj, List.drop_append_of_le_length (by simp; omega)]
 rfl
theorem drop_split6 (l : List UInt8) (fr j : Nat) (h : fr ≤ j) (hj : j < l.length) : l.drop fr = (l.take j).drop fr ++ l[j] :: l.drop (j + 1) := by
 have h1 : l.drop fr = (l.take j ++ l.drop j).drop fr := by rw [List.take_append_drop]
 rw [h1, List.drop_append_of_le_length (by simp; omega), List.drop_eq_getElem_cons hj]
theorem RdInv.next {d : Bool} {l : List UInt8} {fr j : Nat} {vs : List Nat} (h : RdInv d l fr j vs) (hj : j < l.length) (hc : l[j] ≠ 58) : RdInv d l fr (j + 1) vs := by
 rcases h with ⟨h1, h2, h3, h4⟩ | ⟨h1, _⟩
 ·refine .inl ⟨by omega, by omega, ?_, h4⟩
  rw [take_drop_succ6 l fr j h1 hj]
  intro hm
  rcases List.mem_append.1 hm with hm | hm
  ·exact h3 hm
  ·simp at hm; exact hc hm.symm
 ·omega
theorem RdInv.part {d : Bool} {l : List UInt8} {fr j : Nat} {vs : List Nat} (h : RdInv d l fr j vs) (hj : j < l.length) (hc : l[j] = 58) : fr ≤ j ∧ (∀ v, grpV ((l.take j).drop fr) = some v → RdInv d l (j + 1) (j + 1) (vs ++ [v])) ∧ (grpV ((l.take j).drop fr) = none → seqV d (splitC l) = none) := by
 rcases h with ⟨h1, h2, h3, h4⟩ | ⟨h1, _⟩
 ·have hs : splitC (l.drop fr) = (l.take j).drop fr :: splitC (l.drop (j + 1)) := by rw [drop_split6 l fr j h1 hj, hc, split_at _ _ h3]
  rw [hs, seqV_cons d _ _ (split_ne _)] at h4
  refine ⟨h1, fun v hv => .inl ⟨Nat.le_refl _, by omega, ?_, ?_⟩, fun hv => ?_⟩
  ·rw [List.drop_eq_nil_of_le (by rw [List.length_take]; omega)]; simp
  ·rw [hv] at h4
   rw [h4]
   cases seqV d (splitC (l.drop (j + 1))) with
   | none => rfl
   | some us => simp
  ·rw [hv] at h4
   rw [h4]; rfl
 ·omega
theorem RdInv.last {d : Bool} {l : List UInt8} {fr : Nat} {vs : List Nat} (h : RdInv d l fr l.length vs) : fr ≤ l.length ∧ seqV d (splitC l) = (lastV d ((l.take l.length).drop fr)).map fun us => vs ++ us := by
 rcases h with ⟨h1, h2, h3, h4⟩ | ⟨h1, _⟩
 ·rw [List.take_length] at h3 ⊢
  refine ⟨h1, ?_⟩
  rw [h4, split_no _ h3, seqV]
 ·omega
def ReadPost (o : Option (List Nat)) (w : World) (e : Ending) (w' : World) : Prop := (match o with
 | some vs => ∃ v, e = .returned (.tuple #[v, .bool true]) ∧ OwnU w.heap.size w' v vs
 | none => e = .returned (.tuple #[.slice none 0 0, .bool false])) ∧ Below w.heap.size w w'
def sh4 (f : Nat → Int) (i : Nat) : Int := f (4 + i)
def RParPost (o : Option (List Nat)) (w : World) (e : Ending) (w' : World) : Prop := (match o with
 | some gs => e = .returned (.tuple #[.agg #[.int .u64 (hi (ofN (lf gs) 8)), .int .u64 (lo (ofN (lf gs) 8))], .bool true])
 | none => e = .returned (.tuple #[.agg #[.int .u64 0, .int .u64 0], .bool false])) ∧ Below w.heap.size w w'
theorem cc_index (l : List UInt8) : (Lib.index l [58, 58] = -1 ∧ cc l = (l, [], false)) ∨ (∃ k : Nat, Lib.index l [58, 58] = (k : Int) ∧ k + 2 ≤ l.length ∧ cc l = (l.take k, l.drop (k + 2), true)) := by
 have hge := Lib.index_ge l [58, 58]
 by_cases h : 0 ≤ Lib.index l [58, 58]
 ·have hr := Lib.index_room l [58, 58] h
  refine .inr ⟨(Lib.index l [58, 58]).toNat, by omega, by simp at hr; omega, ?_⟩
  unfold cc Lib.cut
  rw [if_pos h]
  rfl
 ·refine .inl ⟨by omega, ?_⟩
  unfold cc Lib.cut
  rw [if_neg h]
theorem region_any {P : Program} {ops : Array Oper} {Q : Exit → Act → World → Prop} {S : World → Prop} {id : Nat} {a : Act} {w : World} (hm : P.follows .mixedOrders = true) (hS : S w.drew)
  (h : ∀ wq, S wq → wpAnyH P .any ops Q S ops.size (Array.replicate ops.size false) a wq) : (Code.region id ops true).wp P Q a w :=
 wp_region_held_drew hm hS (fun hs => h _ hs)
theorem lz10 (w : World) : Calls Tryz.prog 163 #[.int .u64 10] w fun e w' => e = .returned (.int .i64 60) ∧ w = w' := by
 refine (Tryz.bits_LeadingZeros64 10 w (by decide) (by decide)).mono ?_
 rintro e w' ⟨rfl, rfl⟩
 exact ⟨by rw [show Lib.bitLen (10 : Int).toNat = 4 by decide +kernel]; rfl, rfl⟩
theorem or60 (h l : Int) (h0 : 0 ≤ h) (h1 : h < 10) (l0 : 0 ≤ l) (l1 : l < 1152921504606846976) : bits .or .u64 (h * 1152921504606846976) l = h * 1152921504606846976 + l := by
 rw [bits_or_w ⟨by omega, by omega⟩ ⟨by omega, by omega⟩]
 unfold orI
 have e := Nat.two_pow_add_eq_or_of_lt (b := l.toNat) (i := 60) (by omega) h.toNat
 rw [show (h * 1152921504606846976).toNat = 2 ^ 60 * h.toNat by omega, ← e]
 omega
theorem and32w (x : Int) (h0 : 0 ≤ x) (h1 : x < 18446744073709551616) : bits .and .u64 x 4294967295 = x % 4294967296 := by
 rw [bits_and_w ⟨h0, h1⟩ ⟨by omega, by omega⟩]
 unfold andI
 rw [show (4294967295 : Int).toNat = 2 ^ 32 - 1 by decide, Nat.and_two_pow_sub_one_eq_mod]
 omega
theorem div10_pure (h l U q1 V q0 : Int) (h0 : 0 ≤ h) (h1 : h < 10) (l0 : 0 ≤ l) (l1 : l < 18446744073709551616) (hU : U = h * 1152921504606846976 + l / 16) (hq1 : q1 = U / 2684354560) (hV : V = U % 2684354560 * 4294967296 + l % 16 * 268435456) (hq0 : q0 = V / 2684354560) :
  q1 * 4294967296 + q0 = (h * 18446744073709551616 + l) / 10 ∧ V % 2684354560 / 268435456 = (h * 18446744073709551616 + l) % 10 := by
 have e1 : U * 4294967296 + l % 16 * 268435456 = (h * 18446744073709551616 + l) * 268435456 := by omega
 have e2 : q1 * 4294967296 * 2684354560 + V = (h * 18446744073709551616 + l) * 268435456 := by omega
 generalize h * 18446744073709551616 + l = N at *
 omega
theorem div10_t (h l : Int) (h0 : 0 ≤ h) (h1 : h < 10) (l0 : 0 ≤ l) (l1 : l < 18446744073709551616) (w : World) : Calls Tryz.prog 143 #[.int .u64 h, .int .u64 l, .int .u64 10] w fun e w' => e = .returned (.tuple #[.int .u64 ((h * 18446744073709551616 + l) / 10), .int .u64 ((h * 18446744073709551616 + l) % 10)]) ∧ Below w.heap.size w w' := by
 by_cases hz : h = 0
 ·subst hz
  have hq : ¬ (10 : Int) ≤ 0 := by omega
  go_enter Tryz.func143, Tryz.ntmps143
  go_wp2_with fail
  go_quiet (fail)
  go_wp2
  exact bodyPost_ret (v := .tuple #[.int .u64 (l / 10), .int .u64 (l % 10)]) (by simp [results, Tryz.results143, go_sem]) rfl ⟨by rw [Int.zero_mul, Int.zero_add], below_drewN (Below.refl _ _) _⟩
 ·have hq : ¬ (10 : Int) ≤ h := by omega
  have hz' : (h == 0) = false := by simpa using hz
  have w1 : IntKind.u64.wrap (h * 1152921504606846976) = h * 1152921504606846976 := by rw [IntKind.wrap_u64]; omega
  have o1 := or60 h (l / 16) h0 h1 (by omega) (by omega)
  have a0 : bits .and .u64 11529215046068469760 4294967295 = 0 := and32w 11529215046068469760 (by omega) (by omega)
  have w2 : IntKind.u64.wrap (l * 1152921504606846976) = l % 16 * 1152921504606846976 := by rw [IntKind.wrap_u64]; omega
  have a1 : bits .and .u64 (l % 16 * 1152921504606846976) 4294967295 = 0 := (and32w _ (by omega) (by omega)).trans (by omega)
  have d1 : l % 16 * 1152921504606846976 / 4294967296 = l % 16 * 268435456 := by omega
  have r1 : 0 ≤ l % 16 ∧ l % 16 ≤ 15 := by omega
  have HP := Lib.hid (div10_pure h l (h * 1152921504606846976 + l / 16) _ _ _ h0 h1 l0 l1 rfl rfl rfl rfl)
  generalize hA : (h * 18446744073709551616 + l) / 10 = A at *
  generalize hB : (h * 18446744073709551616 + l) % 10 = B at *
  clear hA hB
  go_enter Tryz.func143, Tryz.ntmps143
  go_wp2_with fail
  refine (lz10 w).mono ?_
  rintro e w2' ⟨rfl, rfl⟩
  go_wp2_with fail
  have u0 : 0 ≤ h * 1152921504606846976 + l / 16 ∧ h * 1152921504606846976 + l / 16 < 11529215046068469760 := by omega
  clear o1 w1
  generalize h * 1152921504606846976 + l / 16 = U at *
  generalize l % 16 = m at *
  have e1 : U - U / 2684354560 * 2684354560 = U % 2684354560 := by omega
  have b1 : 0 ≤ U / 2684354560 ∧ U / 2684354560 < 4294967296 := by omega
  have b2 : 0 ≤ U % 2684354560 ∧ U % 2684354560 < 2684354560 := by omega
  have hUq : U = U / 2684354560 * 2684354560 + U % 2684354560 := by omega
  rw [e1]
  clear e1
  generalize U / 2684354560 = q at *
  generalize U % 2684354560 = r at *
  have f3 : IntKind.u64.wrap (IntKind.u64.wrap (IntKind.u64.wrap (U * 4294967296) + m * 268435456) - IntKind.u64.wrap (q * 11529215046068469760)) = r * 4294967296 + m * 268435456 := by simp only [IntKind.wrap_u64]; omega
  have v0 : 0 ≤ r * 4294967296 + m * 268435456 ∧ r * 4294967296 + m * 268435456 < 11529215046068469760 := by omega
  have g2 : 4294967296 * r + m * 268435456 < 18446744073709551616 := by omega
  have g3 : ¬ 4294967296 * r + m * 268435456 < 0 := by omega
  generalize r * 4294967296 + m * 268435456 = V at *
  have HU := Lib.hid hUq
  clear hUq
  go_loopw [15, 16] (fun a b wr => a = .int .u64 q ∧ b = .int .u64 r ∧ wr = w) (fun _ _ _ => 0)
  case atStart => exact ⟨rfl, rfl, rfl⟩
  case round =>
   obtain ⟨rfl, rfl, rfl⟩ := hrel
   have g1 : ¬ (4294967296 : Int) ≤ q := by omega
   have s1 : V - V / 2684354560 * 2684354560 = V % 2684354560 := by omega
   have s2 : 0 ≤ V / 2684354560 ∧ V / 2684354560 < 4294967296 := by omega
   have s3 : 0 ≤ V % 2684354560 ∧ V % 2684354560 < 2684354560 := by omega
   have s4 : V = V / 2684354560 * 2684354560 + V % 2684354560 := by omega
   have f5 : IntKind.u64.wrap (IntKind.u64.wrap (IntKind.u64.wrap (V * 4294967296)) - IntKind.u64.wrap (V / 2684354560 * 11529215046068469760)) = V % 2684354560 * 4294967296 := by simp only [IntKind.wrap_u64]; omega
   have HS4 := Lib.hid s4
   clear s4
   go_wp2_with fail
   clear s1
   generalize V / 2684354560 = q0 at *
   generalize V % 2684354560 = r0 at *
   go_loopw [18, 16] (fun a b wr' => a = .int .u64 q0 ∧ b = .int .u64 r0 ∧ wr' = wr) (fun _ _ _ => 0)
   case atStart => exact ⟨rfl, rfl, rfl⟩
   case round =>
    obtain ⟨rfl, rfl, rfl⟩ := hrel
    have g4 : ¬ (4294967296 : Int) ≤ q0 := by omega
    have g5 : 4294967296 * r0 < 18446744073709551616 := by omega
    have g6 : ¬ 4294967296 * r0 < 0 := by omega
    have f6 : r0 * 4294967296 / 1152921504606846976 = r0 / 268435456 := by omega
    go_wp2_with fail
    exact bodyPost_ret (v := .tuple #[.int .u64 (q * 4294967296 + q0), .int .u64 (r0 / 268435456)]) (by simp [results, Tryz.results143, go_sem, f5, f6]) rfl ⟨by rw [HP.out.1, HP.out.2], Below.refl _ _⟩
theorem bs_sizeN (l : List UInt8) : (⟨l.toArray⟩ : ByteArray).size = l.length := by simp [ByteArray.size]
theorem tenth_pure (A : Int) (h0 : 0 ≤ A) (h1 : A < MM) : hi (A / 10) = hi A / 10 ∧ lo (A / 10) = (hi A % 10 * 18446744073709551616 + lo A) / 10 ∧ A % 10 = (hi A % 10 * 18446744073709551616 + lo A) % 10 := by
 have e := wv_hi_lo A
 rw [Int.emod_eq_of_lt h0 h1] at e
 unfold wv at e
 have a1 := hi_nonneg A
 have a2 := hi_le A
 have a3 := lo_nonneg A
 have a4 := lo_le A
 generalize hi A = H at *
 generalize lo A = L at *
 obtain ⟨u, v, hu, hv0, hv1⟩ : ∃ u v, H = 10 * u + v ∧ 0 ≤ v ∧ v < 10 := ⟨H / 10, H % 10, by omega, by omega, by omega⟩
 have e1 : H / 10 = u := by omega
 have e2 : H % 10 = v := by omega
 rw [e1, e2]
 obtain ⟨D, r, hD, hr0, hr1⟩ : ∃ D r, v * 18446744073709551616 + L = 10 * D + r ∧ 0 ≤ r ∧ r < 10 := ⟨(v * 18446744073709551616 + L) / 10, (v * 18446744073709551616 + L) % 10, by omega, by omega, by omega⟩
 have e3 : (v * 18446744073709551616 + L) / 10 = D := by omega
 have e4 : (v * 18446744073709551616 + L) % 10 = r := by omega
 have e5 : A = 10 * (u * 18446744073709551616 + D) + r := by omega
 have e6 : A / 10 = u * 18446744073709551616 + D := by omega
 have e7 : A % 10 = r := by omega
 rw [e3, e4, e6, e7]
 have d0 : 0 ≤ D ∧ D < 18446744073709551616 := by omega
 have u0 : 0 ≤ u ∧ u < 18446744073709551616 := by omega
 exact ⟨hi_wv (h := u) (l := D) u0 d0, lo_wv (h := u) (l := D) d0, rfl⟩
theorem tenth_t (A : Int) (h0 : 0 ≤ A) (h1 : A < MM) (w : World) : Calls Tryz.prog 122 #[.agg #[.int .u64 (hi A), .int .u64 (lo A)]] w fun e w' => e = .returned (.tuple #[.agg #[.int .u64 (hi (A / 10)), .int .u64 (lo (A / 10))], .int .u8 (A % 10)]) ∧ Below w.heap.size w w' := by
 obtain ⟨p1, p2, p3⟩ := tenth_pure A h0 h1
 rw [p1, p2, p3]
 have a1 := hi_nonneg A
 have a2 := hi_le A
 have a3 := lo_nonneg A
 have a4 := lo_le A
 generalize hi A = h at *
 generalize lo A = l at *
 clear p1 p2 p3 h0 h1
 have b1 : 0 ≤ h % 10 ∧ h % 10 < 10 := by omega
 have hd := fun w => div10_t (h % 10) l b1.1 b1.2 a3 (by omega) w
 have q1 : 0 ≤ (h % 10 * 18446744073709551616 + l) % 10 ∧ (h % 10 * 18446744073709551616 + l) % 10 < 10 := by omega
 generalize (h % 10 * 18446744073709551616 + l) % 10 = R at *
 generalize (h % 10 * 18446744073709551616 + l) / 10 = Q at *
 have wR : IntKind.u8.wrap R = R := by simp [IntKind.wrap, IntKind.bits, IntKind.signed]; omega
 have hb0 : Below w.heap.size w ((w.alloc (.cells #[.int .u64 h, .int .u64 l] 73)).alloc (.cells #[.int .u64 0, .int .u64 0] 73)) := (by repeat (first | exact Below.refl _ _ | assumption | (with_reducible refine Below.drew ?_) | ((with_reducible first | refine Below.setCell ?_ ?h _ | refine Below.alloc ?_ ?h _ | refine Below.trans ?_ (hb2.mono ?h) | refine Below.trans ?_ (hb.mono ?h) | refine Below.trans ?_ (hb0.mono ?h)); case h => first | omega | (simp; done) | (simp; omega))))
 have R0 : Row ((w.alloc (.cells #[.int .u64 h, .int .u64 l] 73)).alloc (.cells #[.int .u64 0, .int .u64 0] 73)) w.heap.size #[.int .u64 h, .int .u64 l] 73 := (Row.new w _ _).alloc _
 have R1 : Row ((w.alloc (.cells #[.int .u64 h, .int .u64 l] 73)).alloc (.cells #[.int .u64 0, .int .u64 0] 73)) (w.heap.size + 1) #[.int .u64 0, .int .u64 0] 73 := by
  have := Row.new (w.alloc (.cells #[.int .u64 h, .int .u64 l] 73)) #[.int .u64 0, .int .u64 0] 73
  rwa [World.size_alloc] at this
 have HR := Lib.hid (And.intro R0 (And.intro R1 hb0))
 clear R0 R1 hb0
 go_enter Tryz.func122, Tryz.ntmps122
 go_wp2_with fail
 obtain ⟨R0, R1, hb⟩ := HR.out
 clear HR
 generalize (w.alloc (.cells #[.int .u64 h, .int .u64 l] 73)).alloc (.cells #[.int .u64 0, .int .u64 0] 73) = w0 at *
 refine (hd w0).mono ?_
 rintro e w1 ⟨rfl, hb2⟩
 replace R0 := R0.later hb2
 replace R1 := R1.later hb2
 replace hb := below_step hb hb2
 clear hb2 hd
 have c0 := (R0.cell 0).trans (show _ = some (Value.int .u64 h) from rfl)
 have d0 := (R1.cell 0).trans (show _ = some (Value.int .u64 0) from rfl)
 have d1 := (R1.cell 1).trans (show _ = some (Value.int .u64 0) from rfl)
 have f0 := R1.frozen 0
 have f1 := R1.frozen 1
 have HR := Lib.hid R1
 clear R0 R1
 go_wp2
 have Rf := (HR.out.set 0 (.int .u64 (h / 10))).set 1 (.int .u64 Q)
 have e0 := (Rf.cell 0).trans (show _ = some (Value.int .u64 (h / 10)) from rfl)
 have e1 := (Rf.cell 1).trans (show _ = some (Value.int .u64 Q) from rfl)
 exact bodyPost_ret (v := .tuple #[.agg #[.int .u64 (h / 10), .int .u64 Q], .int .u8 R]) (by simp only [results, Tryz.results122]; simp [go_sem, e0, e1]) rfl ⟨rfl, (hb.setCell (by dsimp only; omega) _).setCell (by dsimp only; omega) _⟩
/-! digits -/
def dg (n : Nat) : UInt8 := UInt8.ofNat (48 + n % 10)
theorem dg_toNat (n : Nat) : (dg n).toNat = 48 + n % 10 := by unfold dg; rw [UInt8.toNat_ofNat']; omega
def decN (n : Nat) : List UInt8 := if h : n < 10 then [dg n] else decN (n / 10) ++ [dg n]
termination_by n
decreasing_by omega
theorem decN_small {n : Nat} (h : n < 10) : decN n = [dg n] := by rw [decN, dif_pos h]
theorem decN_big {n : Nat} (h : ¬ n < 10) : decN n = decN (n / 10) ++ [dg n] := by rw [decN, dif_neg h]
def digsL : Nat → Nat → List UInt8
 | 0, _ => []
 | k + 1, n => digsL k (n / 10) ++ [dg n]
theorem digsL_length : ∀ (k n : Nat), (digsL k n).length = k
 | 0, _ => rfl
 | k + 1, n => by rw [digsL, List.length_append, digsL_length k]; rfl
theorem digsL_zero : ∀ (k : Nat), (digsL k 0).dropWhile (· == 48) = []
 | 0 => rfl
 | k + 1 => by
  have ih := digsL_zero k
  rw [digsL, Nat.zero_div, List.dropWhile_append, ih]
  decide
theorem dg_ne {n : Nat} (h : n % 10 ≠ 0) : (dg n == 48) = false := by
 rw [beq_eq_false_iff_ne]
 intro e
 have := congrArg UInt8.toNat e
 rw [dg_toNat] at this
 have h48 : (48 : UInt8).toNat = 48 := rfl
 omega
theorem decN_ne (n : Nat) : decN n ≠ [] := by
 by_cases h : n < 10
 ·rw [decN_small h]; simp
 ·rw [decN_big h]; simp
theorem digsL_trim : ∀ (k n : Nat), n < 10 ^ k → n ≠ 0 → (digsL k n).dropWhile (· == 48) = decN n
 | 0, n, h, h0 => by simp at h; exact absurd h h0
 | k + 1, n, h, h0 => by
  rw [digsL, List.dropWhile_append]
  by_cases hs : n < 10
  ·rw [show n / 10 = 0 by omega, digsL_zero k, decN_small hs]
   simp [List.dropWhile, dg_ne (n := n) (by omega)]
  ·have ih := digsL_trim k (n / 10) (by rw [Nat.pow_succ] at h; omega) (by omega)
   rw [ih, decN_big hs]
   have := decN_ne (n / 10)
   cases hq : decN (n / 10) with
   | nil => exact absurd hq this
   | cons a b => simp
theorem trim_last (n : Nat) (h : n < 10 ^ 39) : (digsL 38 (n / 10)).dropWhile (· == 48) ++ [dg n] = decN n := by
 by_cases hs : n < 10
 ·rw [show n / 10 = 0 by omega, digsL_zero, decN_small hs]; rfl
 ·rw [digsL_trim 38 (n / 10) (by rw [show (39 : Nat) = 38 + 1 from rfl, Nat.pow_succ] at h; omega) (by omega), decN_big hs]
def cell39 (n i p : Nat) : Value := .int .u8 (if 39 ≤ p + i then ((48 + n / 10 ^ (38 - p) % 10 : Nat) : Int) else 0)
def cells39 (n i : Nat) : Array Value := ((List.range 39).map (cell39 n i)).toArray
theorem cells39_size (n i : Nat) : (cells39 n i).size = 39 := by simp [cells39]
theorem cells39_get (n i p : Nat) (h : p < 39) : (cells39 n i)[p]? = some (cell39 n i p) := by simp [cells39, h]
theorem cells39_set (n i : Nat) (h : i < 39) : (cells39 n i).setIfInBounds (38 - i) (.int .u8 ((48 + n / 10 ^ i % 10 : Nat) : Int)) = cells39 n (i + 1) := by
 apply Array.ext_getElem?
 intro p
 by_cases hp : p < 39
 ·rw [cells39_get _ _ p hp, Array.getElem?_setIfInBounds]
  by_cases he : 38 - i = p
  ·rw [if_pos he, if_pos (by rw [cells39_size]; omega)]
   unfold cell39
   rw [if_pos (by omega), show 38 - p = i by omega]
  ·rw [if_neg he, cells39_get _ _ p hp]
   unfold cell39
   by_cases h1 : 39 ≤ p + i
   ·rw [if_pos h1, if_pos (by omega)]
   ·rw [if_neg h1, if_neg (by omega)]
 ·rw [Array.getElem?_eq_none (by simp [cells39_size]; omega), Array.getElem?_eq_none (by rw [cells39_size]; omega)]
theorem digsL_get : ∀ (k n j : Nat), j < k → (digsL k n)[j]? = some (dg (n / 10 ^ (k - 1 - j)))
 | 0, _, _, h => by omega
 | k + 1, n, j, h => by
  rw [digsL]
  by_cases hj : j < k
  ·rw [List.getElem?_append_left (by rw [digsL_length]; exact hj), digsL_get k (n / 10) j hj, Nat.div_div_eq_div_mul, ← Nat.pow_succ', show k + 1 - 1 - j = (k - 1 - j) + 1 by omega]
  ·rw [show j = k by omega, List.getElem?_append_right (by rw [digsL_length]; exact Nat.le_refl _), digsL_length]
   simp
theorem cells39_zero (n : Nat) : cells39 n 0 = #[.int .u8 0, .int .u8 0, .int .u8 0, .int .u8 0, .int .u8 0, .int .u8 0, .int .u8 0, .int .u8 0, .int .u8 0, .int .u8 0, .int .u8 0, .int .u8 0, .int .u8 0, .int .u8 0, .int .u8 0, .int .u8 0, .int .u8 0, .int .u8 0, .int .u8 0, .int .u8 0, .int .u8 0, .int .u8 0, .int .u8 0, .int .u8 0, .int .u8 0, .int .u8 0, .int .u8 0, .int .u8 0, .int .u8 0, .int .u8 0, .int .u8 0, .int .u8 0, .int .u8 0, .int .u8 0, .int .u8 0, .int .u8 0, .int .u8 0, .int .u8 0, .int .u8 0] := by kernel_rfl
theorem cutA39l (w : World) (g : Nat) : (Instr.sliceAt 155 (.pointer (some ⟨g, 0, none⟩)) (some (.int .i64 38)) none none).run Tryz.prog w = .ok (.slice (some ⟨g, 38, none⟩) 1 1) w := by
 have ha : Tryz.prog.arrayLen 155 = 39 := by kernel_rfl
 have he : Tryz.prog.elem 155 = 5 := by kernel_rfl
 have hu : Tryz.prog.underlying 155 = some (.array (Tryz.prog.arrayLen 155) (Tryz.prog.elem 155)) := by rw [ha, he]; exact Tryz.underlying155
 rw [run_sliceAt_array_l (P := Tryz.prog) w 155 ⟨g, 0, none⟩ hu .i64 38 (by omega) (by rw [ha]; omega)]
 rw [ha, he]
 simp [go_sem]
theorem cutA39h (w : World) (g : Nat) : (Instr.sliceAt 155 (.pointer (some ⟨g, 0, none⟩)) none (some (.int .i64 38)) none).run Tryz.prog w = .ok (.slice (some ⟨g, 0, none⟩) 38 39) w := by
 have ha : Tryz.prog.arrayLen 155 = 39 := by kernel_rfl
 have he : Tryz.prog.elem 155 = 5 := by kernel_rfl
 have hu : Tryz.prog.underlying 155 = some (.array (Tryz.prog.arrayLen 155) (Tryz.prog.elem 155)) := by rw [ha, he]; exact Tryz.underlying155
 rw [run_sliceAt_array_h (P := Tryz.prog) w 155 ⟨g, 0, none⟩ hu .i64 38 (by omega) (by rw [ha]; omega)]
 rw [ha, he]
 simp [go_sem]
theorem cell39_dg (n p : Nat) : cell39 n 39 p = .int .u8 ((dg (n / 10 ^ (38 - p))).toNat : Int) := by
 unfold cell39
 rw [if_pos (by omega), dg_toNat]
theorem conv39a (n : Nat) {w : World} {g : Nat} (R : Row w g (cells39 n 39) 155) : (convert 118 9 (.slice (some ⟨g, 0, none⟩) 38 39)).run Tryz.prog w = .ok (.string ⟨(digsL 38 (n / 10)).toArray⟩) w := by
 have h := run_convert_bytes_back (P := Tryz.prog) w 118 9 5 ⟨g, 0, none⟩ 39 (digsL 38 (n / 10)) Tryz.underlying118 Tryz.underlying5 Tryz.underlying9 (fun j hj => by
  rw [digsL_length] at hj
  have e := digsL_get 38 (n / 10) j hj
  rw [List.getElem?_eq_getElem (by rw [digsL_length]; exact hj)] at e
  rw [Option.some.inj e, Addr.add_mid, R.cell, Nat.zero_add, cells39_get _ _ _ (by omega), cell39_dg, Nat.div_div_eq_div_mul, ← Nat.pow_succ', show (38 - 1 - j).succ = 38 - j by omega])
 rwa [digsL_length] at h
theorem conv39b (n : Nat) {w : World} {g : Nat} (R : Row w g (cells39 n 39) 155) : (convert 118 9 (.slice (some ⟨g, 38, none⟩) 1 1)).run Tryz.prog w = .ok (.string ⟨[dg n].toArray⟩) w := by
 refine run_convert_bytes_back (P := Tryz.prog) w 118 9 5 ⟨g, 38, none⟩ 1 [dg n] Tryz.underlying118 Tryz.underlying5 Tryz.underlying9 (fun j hj => ?_)
 obtain rfl : j = 0 := by simpa using hj
 rw [Addr.add_mid, R.cell, Nat.add_zero, cells39_get _ _ _ (by omega), cell39_dg]
 simp
theorem Row.drewN {w : World} {g : Nat} {cs : Array Value} {t : TypeId} (h : Row w g cs t) (n : Nat) : Row (w.drewN n) g cs t := h
theorem ba_add (a b : List UInt8) : (⟨a.toArray⟩ : ByteArray) ++ ⟨b.toArray⟩ = ⟨(a ++ b).toArray⟩ := by apply ByteArray.ext; simp
theorem nwide_t (n : Nat) (hn : (n : Int) < MM) (w : World) : Calls Tryz.prog 86 #[.agg #[.int .u64 (hi n), .int .u64 (lo n)]] w fun e w' => e = .returned (.string ⟨(decN n).toArray⟩) ∧ Below w.heap.size w w' := by
  go_enter Tryz.func86, Tryz.ntmps86
  go_wp2_with fail
  go_loopw [7] (fun i wr => ∃ k : Nat, k ≤ 39 ∧ i = .int .i64 (k : Nat) ∧ Row wr w.heap.size #[.int .u64 (hi (n / 10 ^ k : Nat)), .int .u64 (lo (n / 10 ^ k : Nat))] 73 ∧ Row wr (w.heap.size + 1) (cells39 n k) 155 ∧ Below w.heap.size w wr) (fun i _ => 39 - (intOf i).toNat)
  case atStart =>
    refine ⟨0, by omega, rfl, ?_, ?_, (by repeat (first | exact Below.refl _ _ | assumption | (with_reducible refine Below.drew ?_) | ((with_reducible first | refine Below.setCell ?_ ?h _ | refine Below.alloc ?_ ?h _ | refine Below.trans ?_ (hb2.mono ?h) | refine Below.trans ?_ (hb.mono ?h)); case h => first | omega | (simp; done) | (simp; omega))))⟩
    · rw [Nat.pow_zero, Nat.div_one]; exact (Row.new w _ _).alloc _
    · rw [cells39_zero]
      have := Row.new (w.alloc (.cells #[.int .u64 (hi n), .int .u64 (lo n)] 73)) #[.int .u8 0, .int .u8 0, .int .u8 0, .int .u8 0, .int .u8 0, .int .u8 0, .int .u8 0, .int .u8 0, .int .u8 0, .int .u8 0, .int .u8 0, .int .u8 0, .int .u8 0, .int .u8 0, .int .u8 0, .int .u8 0, .int .u8 0, .int .u8 0, .int .u8 0, .int .u8 0, .int .u8 0, .int .u8 0, .int .u8 0, .int .u8 0, .int .u8 0, .int .u8 0, .int .u8 0, .int .u8 0, .int .u8 0, .int .u8 0, .int .u8 0, .int .u8 0, .int .u8 0, .int .u8 0, .int .u8 0, .int .u8 0, .int .u8 0, .int .u8 0, .int .u8 0] 155
      rwa [World.size_alloc] at this
  case round =>
    obtain ⟨k, hk, rfl, R0, R1, hb⟩ := hrel
    by_cases hlt : k < 39
    · have hkb : (k : Int) < 39 := by omega
      have c0 := (R0.cell 0).trans (show _ = some (Value.int .u64 (hi (n / 10 ^ k : Nat))) from rfl)
      have c1 := (R0.cell 1).trans (show _ = some (Value.int .u64 (lo (n / 10 ^ k : Nat))) from rfl)
      have hm : ((n / 10 ^ k : Nat) : Int) < MM := by
        have := Nat.div_le_self n (10 ^ k)
        omega
      have hset := cells39_set n k hlt
      have hnx : n / 10 ^ (k + 1) = n / 10 ^ k / 10 := by rw [Nat.pow_succ, Nat.div_div_eq_div_mul]
      generalize n / 10 ^ k = m at *
      have ht := fun w => tenth_t (m : Int) (by omega) hm w
      rw [show (m : Int) / 10 = ((m / 10 : Nat) : Int) by omega] at ht
      have HR := Lib.hid (And.intro R0 (And.intro R1 hb))
      have HS := Lib.hid (And.intro hset hnx)
      clear R0 R1 hb hset hnx
      go_wp2_with fail
      refine (ht _).mono ?_
      rintro e w1 ⟨rfl, hb2⟩
      obtain ⟨R0, R1, hb⟩ := HR.out
      replace R0 := R0.later hb2
      replace R1 := R1.later hb2
      replace hb := below_step hb hb2
      clear hb2 ht HR c0 c1
      have c0 := (R0.cell 0).trans (show _ = some (Value.int .u64 (hi (m : Nat))) from rfl)
      have c1 := (R0.cell 1).trans (show _ = some (Value.int .u64 (lo (m : Nat))) from rfl)
      have f0 := R0.frozen 0
      have f1 := R0.frozen 1
      have d0 := (R1.cell (38 - k)).trans (cells39_get n k (38 - k) (by omega))
      have f2 := R1.frozen (38 - k)
      have q1 : (38 - (k : Int)) = ((38 - k : Nat) : Int) := by omega
      have q2 : 0 ≤ (m : Int) % 10 ∧ (m : Int) % 10 < 10 := by omega
      have q3 : ((48 + m % 10 : Nat) : Int) = 48 + (m : Int) % 10 := by omega
      rw [q3] at HS
      generalize (m : Int) % 10 = r at *
      have q4 : IntKind.u8.wrap (48 + r) = 48 + r := by simp [IntKind.wrap, IntKind.bits, IntKind.signed]; omega
      have HR := Lib.hid (And.intro R0 (And.intro R1 hb))
      clear R0 R1 hb q3 
      go_wp2
      obtain ⟨R0, R1, hb⟩ := HR.out
      obtain ⟨hset, hnx⟩ := HS.out
      refine ⟨⟨k + 1, by omega, by go_num, ?_, ?_, ?_⟩, by simp [intOf]; omega⟩
      · rw [hnx]
        exact ((R0.set 0 (.int .u64 (hi (m / 10 : Nat)))).set 1 (.int .u64 (lo (m / 10 : Nat)))).set_far _ _ (by simp)
      · rw [← hset]
        exact ((R1.set_far _ _ (by simp)).set_far _ _ (by simp)).set _ _
      · exact (by repeat (first | exact Below.refl _ _ | assumption | (with_reducible refine Below.drew ?_) | ((with_reducible first | refine Below.setCell ?_ ?h _ | refine Below.alloc ?_ ?h _ | refine Below.trans ?_ (hb2.mono ?h) | refine Below.trans ?_ (hb.mono ?h)); case h => first | omega | (simp; done) | (simp; omega))))
    · obtain rfl : k = 39 := by omega
      have hA := fun q => conv39a n (R1.drewN q)
      have hB := fun q => conv39b n (R1.drewN q)
      have s1 := fun q => cutA39l (wr.drewN q) (w.heap.size + 1)
      have s2 := fun q => cutA39h (wr.drewN q) (w.heap.size + 1)
      have ht := fun q => Calls.quiet_of_same (n := q) (Tryz.strings_TrimLeft_one ⟨(digsL 38 (n / 10)).toArray⟩ 48 (by decide) (wr.drewN q))
      have htr := trim_last n (by have h : (MM : Int) = 340282366920938463463374607431768211456 := rfl; have : (10 : Nat) ^ 39 = 1000000000000000000000000000000000000000 := by rfl
                                  omega)
      unfold Lib.trimLeftB at ht
      dsimp only at ht
      have htl : ((digsL 38 (n / 10)).dropWhile (· == 48)).length ≤ 38 := by
        have := (List.dropWhile_sublist (l := digsL 38 (n / 10)) (· == 48)).length_le
        rwa [digsL_length] at this
      generalize (digsL 38 (n / 10)).dropWhile (· == 48) = tl at *
      have hle : ¬ 9223372036854775807 < tl.length + 1 := by omega
      have hle2 : ¬ 9223372036854775807 < (⟨tl.toArray⟩ : ByteArray).size + (⟨#[dg n]⟩ : ByteArray).size := by rw [bs_sizeN]; exact hle
      have HB := Lib.hid hb
      have HT := Lib.hid htr
      clear htr R0 R1 hb
      go_wp2_with fail
      go_quiet (first | (go_at_call 123; exact ht _))
      go_wp2
      go_ret
      refine ⟨?_, below_drewN HB.out _⟩
      rw [← HT.out, ba_add]; rfl
theorem nprint_t (n : Nat) (hn : n < 18446744073709551616) (w : World) : Calls Tryz.prog 42 #[.int .u64 (n : Int)] w fun e w' => e = .returned (.string ⟨(decN n).toArray⟩) ∧ Below w.heap.size w w' := by
 have h1 : hi (n : Int) = 0 := by unfold hi; omega
 have h2 : lo (n : Int) = n := by unfold lo; omega
 have hw := fun w => nwide_t n (by have h : (MM : Int) = 340282366920938463463374607431768211456 := rfl; omega) w
 rw [h1, h2] at hw
 have hb : Below w.heap.size w w := Below.refl _ _
 go_enter Tryz.func42, Tryz.ntmps42
 go_wp2_with fail
 refine (of_any (n : Int) _).mono ?_
 rintro e w1 ⟨rfl, hb2⟩
 replace hb := below_step hb hb2
 clear hb2 
 go_wp2_with fail
 refine (hw _).mono ?_
 rintro e w2 ⟨rfl, hb2⟩
 replace hb := below_step hb hb2
 clear hb2 
 go_wp2
 go_ret
 exact ⟨rfl, hb⟩
def dgB (c : UInt8) : Bool := decide (48 ≤ c.toNat) && decide (c.toNat ≤ 57)
def txB (l : List UInt8) : Bool := l.all dgB && (l == [48] || (!l.isEmpty && l.head? != some 48))
theorem txB_bad {l : List UInt8} {j : Nat} (hj : j < l.length) (h : dgB l[j] = false) : txB l = false := by
 unfold txB
 have : l.all dgB = false := by rw [List.all_eq_false]; exact ⟨l[j], List.getElem_mem hj, by simp [h]⟩
 simp [this]
theorem txB_ok {l : List UInt8} (h : ∀ i (hi : i < l.length), dgB l[i] = true) : txB l = (l == [48] || (!l.isEmpty && l.head? != some 48)) := by
 unfold txB
 have : l.all dgB = true := by rw [List.all_eq_true]; intro x hx; obtain ⟨i, hi, rfl⟩ := List.getElem_of_mem hx; exact h i hi
 simp [this]
theorem isText_t (l : List UInt8) (hl : l.length ≤ 2000000) (w : World) : Calls Tryz.prog 102 #[.string ⟨l.toArray⟩] w fun e w' => e = .returned (.bool (txB l)) ∧ Below w.heap.size w w' := by
 have hsz := bs_sizeN l
 go_enter Tryz.func102, Tryz.ntmps102
 go_wp2_with fail
 go_loopw [6] (fun i wr => ∃ (j : Nat), j ≤ l.length ∧ i = .int .i64 j ∧ Hid (∀ i (hi : i < j) (hl : i < l.length), dgB l[i] = true) ∧ wr = w) (fun i _ => l.length - (intOf i).toNat)
 case atStart => exact ⟨0, by omega, rfl, Lib.hid (fun i hi => by omega), rfl⟩
 case round =>
  obtain ⟨j, hj, rfl, hm, rfl⟩ := hrel
  by_cases hlt : j < l.length
  ·obtain ⟨c, hlj⟩ : ∃ c, l[j] = c := ⟨_, rfl⟩
   have hsp : j < (⟨l.toArray⟩ : ByteArray).size := by rw [hsz]; exact hlt
   have hch : (⟨l.toArray⟩ : ByteArray)[j]'hsp = c := hlj
   have HJ := Lib.hid hlj
   clear hlj
   have hc : c.toNat < 256 := c.toNat_lt
   by_cases h1 : 48 ≤ c.toNat
   ·by_cases h2 : c.toNat ≤ 57
    ·have h1' : ¬ (c.toNat : Int) < 48 := by omega
     have h2' : ¬ (57 : Int) < (c.toNat : Int) := by omega
     have HD := Lib.hid (show dgB c = true by simp [dgB, h1, h2])
     clear h1 h2
     go_wp2
     refine ⟨⟨j + 1, by omega, by go_num, Lib.hid (fun i hi hl => ?_), by first | rfl | trivial⟩, by simp [intOf]; omega⟩
     by_cases hij : i = j
     ·subst hij; rw [HJ.out]; exact HD.out
     ·exact hm.out i (by omega) hl
    ·have h1' : ¬ (c.toNat : Int) < 48 := by omega
     have h2' : (57 : Int) < (c.toNat : Int) := by omega
     have HB := Lib.hid (txB_bad hlt (by rw [HJ.out]; simp [dgB, h2]))
     clear h1 h2
     go_wp2
     go_ret
     exact ⟨by rw [HB.out]; rfl, Below.refl _ _⟩
   ·have h1' : (c.toNat : Int) < 48 := by omega
    have HB := Lib.hid (txB_bad hlt (by rw [HJ.out]; simp [dgB, h1]))
    clear h1
    go_wp2
    go_ret
    exact ⟨by rw [HB.out]; rfl, Below.refl _ _⟩
  ·have HB := Lib.hid (txB_ok (l := l) (fun i hi => hm.out i (by omega) hi))
   have hlt' : ¬ (j : Int) < (l.length : Int) := by omega
   clear hm
   by_cases e1 : l = [48]
   ·have b1 : (l == [48]) = true := by rw [e1]; rfl
    have HC := Lib.hid (show txB l = true by rw [HB.out]; simp [e1])
    have h0 : l.length = 1 := by rw [e1]; rfl
    clear e1 HB
    go_wp2
    go_ret
    exact ⟨by rw [HC.out]; rfl, Below.refl _ _⟩
   ·have b1 : (l == [48]) = false := by rw [beq_eq_false_iff_ne]; exact e1
    by_cases e2 : l = []
    ·have HC := Lib.hid (show txB l = false by rw [HB.out]; simp [e2])
     have he : l.isEmpty = true := by rw [e2]; rfl
     clear e1 HB e2
     go_wp2
     go_ret
     exact ⟨by rw [HC.out]; rfl, Below.refl _ _⟩
    ·have he : l.isEmpty = false := by simpa using e2
     have h0 : 0 < l.length := List.length_pos_iff.2 e2
     obtain ⟨c, hlj⟩ : ∃ c, l[0] = c := ⟨_, rfl⟩
     have hsp : 0 < (⟨l.toArray⟩ : ByteArray).size := by rw [hsz]; exact h0
     have hch : (⟨l.toArray⟩ : ByteArray)[0]'hsp = c := hlj
     have hhd : l.head? = some c := by rw [List.head?_eq_getElem?, List.getElem?_eq_getElem h0, hlj]
     by_cases e3 : c = 48
     ·have HC := Lib.hid (show txB l = false by rw [HB.out, hhd]; simp [e1, e3])
      have e3' : c.toNat = 48 := by rw [e3]; rfl
      have e3'' : ((c.toNat : Int) == 48) = true := by rw [e3']; rfl
      have HQ := Lib.hid (show ((c.toNat : Int) != 48) = !((c.toNat : Int) == 48) from rfl)
      rw [e3''] at HQ
      clear HB e3 hlj hhd e1 e2 e3'
      go_wp2
      go_ret
      exact ⟨by rw [HC.out]; exact congrArg (fun b => Ending.returned (Value.bool b)) HQ.out, Below.refl _ _⟩
     ·have HC := Lib.hid (show txB l = true by rw [HB.out, hhd]; simp [e1, e2, e3])
      have e3' : ¬ c.toNat = 48 := fun h => e3 (UInt8.toNat_inj.1 h)
      have e3'' : ((c.toNat : Int) == 48) = false := by rw [beq_eq_false_iff_ne]; omega
      have HQ := Lib.hid (show ((c.toNat : Int) != 48) = !((c.toNat : Int) == 48) from rfl)
      rw [e3''] at HQ
      clear HB e3 hlj hhd e1 e2 e3'
      go_wp2
      go_ret
      exact ⟨by rw [HC.out]; exact congrArg (fun b => Ending.returned (Value.bool b)) HQ.out, Below.refl _ _⟩
end Go.Proofs.YtboinifeemghaaaGreatDoor
