/- The walk of Parse of package six. No conditions beyond the text's length. -/
import Derived.Test.YtkenkjdelhmaoaaDoorSix11
namespace Go.Proofs.YtkenkjdelhmaoaaDoor
set_option linter.unusedVariables false
set_option linter.unusedSimpArgs false
open Go.RowKit
set_option maxHeartbeats 4000000 in
set_option maxRecDepth 100000 in
theorem parse6_t (l : List UInt8) (hl : l.length ≤ 4000000000) (w : World) (hE : Env w) : Calls Tryd.prog 29 #[.string ⟨l.toArray⟩] w (ParPost (parse6 l) w) := by
  have hcl := cc_len l
  have HP0 := Lib.hid (parse6_seqR l)
  have hcut := fun w0 (h : Env w0) => cutb_t l [58, 58] hl w0 h
  have hcc : Lib.cut l [58, 58] = cc l := rfl
  rw [hcc] at hcut
  obtain ⟨⟨b, a, short⟩, hc⟩ : ∃ c, c = cc l := ⟨_, rfl⟩
  rw [← hc] at hcut hcl HP0
  dsimp only at hcut hcl HP0
  have HSA : Hid (short = false → a = []) := Lib.hid (by
    intro hs
    have h2 : short = (cc l).2.2 := by rw [← hc]
    have h3 : a = (cc l).2.1 := by rw [← hc]
    rw [h2] at hs
    rw [h3]
    revert hs
    unfold cc Lib.cut
    split <;> simp)
  clear hc hcc
  generalize parse6 l = pr at *
  go_enter Tryd.func29, Tryd.ntmps29
  go_wp2_with fail
  have R0 := Row.new w #[.int .u64 0, .int .u64 0] 40
  have hb0 : Below w.heap.size w (w.alloc (.cells #[.int .u64 0, .int .u64 0] 40)) := (Below.refl _ _).alloc (Nat.le_refl _) _
  generalize w.alloc (.cells #[.int .u64 0, .int .u64 0] 40) = w0 at *
  refine (hcut w0 (hE.later hb0)).mono ?_
  rintro e w1 ⟨rfl, hb1⟩
  have HR := Lib.hid (R0.later hb1)
  have HB := Lib.hid (below_step hb0 hb1)
  clear R0 hb0 hb1 hcut
  have hS1 := seq_t (!short) b (by omega) w1 (hE.later HB.out)
  have HS1 := Lib.hid hS1
  clear hS1
  go_wp2_with fail
  refine HS1.out.mono ?_
  rintro e w2 hP
  clear HS1
  cases hu : seqR (!short) b with
  | none =>
    rw [hu] at hP
    obtain ⟨rfl, hb2⟩ := hP
    have HP : Hid (pr = none) := Lib.hid (by have := HP0.out; rw [hu] at this; exact this)
    have HR2 := Lib.hid (HR.out.later hb2)
    have HB2 := Lib.hid (below_step HB.out hb2)
    clear HR HB hb2 hu HP0
    unfold arr8
    have r0 := (HR2.out.cell 0).trans (show _ = some (Value.int .u64 0) from rfl)
    have r1 := (HR2.out.cell 1).trans (show _ = some (Value.int .u64 0) from rfl)
    have f0 := HR2.out.frozen 0
    have f1 := HR2.out.frozen 1
    have hlt := HR2.out.lt
    have hne : ¬ w2.heap.size = w.heap.size := by omega
    have hne' : ¬ w.heap.size = w2.heap.size := by omega
    go_wp2
    have Q2 := ((HR2.out.set 0 (.int .u64 0)).set 1 (.int .u64 0)).alloc (.cells #[.int .u16 0, .int .u16 0, .int .u16 0, .int .u16 0, .int .u16 0, .int .u16 0, .int .u16 0, .int .u16 0] 42)
    have s0 := (Q2.cell 0).trans (show _ = some (Value.int .u64 0) from rfl)
    have s1 := (Q2.cell 1).trans (show _ = some (Value.int .u64 0) from rfl)
    have hbf := ((HB2.out.setCell (p := ⟨w.heap.size, 0, none⟩) (Nat.le_refl _) (.int .u64 0)).setCell (p := ⟨w.heap.size, 1, none⟩) (Nat.le_refl _) (.int .u64 0)).alloc (by simp; omega) (.cells #[.int .u16 0, .int .u16 0, .int .u16 0, .int .u16 0, .int .u16 0, .int .u16 0, .int .u16 0, .int .u16 0] 42)
    clear r0 r1 f0 f1
    exact bodyPost_ret (v := .tuple #[.agg #[.int .u64 0, .int .u64 0], .int .i64 3]) (by simp only [results, Tryd.results29]; simp [go_sem, s0, s1]) rfl (by rw [HP.out]; exact ⟨rfl, hbf⟩)
  | some u =>
    rw [hu] at hP
    obtain ⟨rfl, hb2⟩ := hP
    have HR2 := Lib.hid (HR.out.later hb2)
    have HB2 := Lib.hid (below_step HB.out hb2)
    have hu8 := (seqR_is hu).2
    have HUL := Lib.hid (readV_lt (seqR_is hu).1)
    have HP1 : Hid (pr = match seqR true a with | some v => if fits short u v = true then some (u ++ List.replicate (8 - u.length - v.length) 0 ++ v) else none | none => none) := Lib.hid (by have := HP0.out; rw [hu] at this; rw [this]; cases seqR true a <;> rfl)
    clear HR HB hb2 hu HP0
    unfold arr8
    have hS2 := fun w3 (h : Env w3) => seq_t true a (by omega) w3 h
    have HS2 := Lib.hid hS2
    clear hS2
    go_wp2_with fail
    have Rgw3 := Row.new w2 #[.int .u16 (lf u 0), .int .u16 (lf u 1), .int .u16 (lf u 2), .int .u16 (lf u 3), .int .u16 (lf u 4), .int .u16 (lf u 5), .int .u16 (lf u 6), .int .u16 (lf u 7)] 42
    have hbw3 : Below w2.heap.size w2 (w2.alloc (.cells #[.int .u16 (lf u 0), .int .u16 (lf u 1), .int .u16 (lf u 2), .int .u16 (lf u 3), .int .u16 (lf u 4), .int .u16 (lf u 5), .int .u16 (lf u 6), .int .u16 (lf u 7)] 42)) := (Below.refl _ _).alloc (Nat.le_refl _) _
    generalize (w2.alloc (.cells #[.int .u16 (lf u 0), .int .u16 (lf u 1), .int .u16 (lf u 2), .int .u16 (lf u 3), .int .u16 (lf u 4), .int .u16 (lf u 5), .int .u16 (lf u 6), .int .u16 (lf u 7)] 42)) = w3 at *
    have HR3 := Lib.hid (HR2.out.later hbw3)
    have HB3 := Lib.hid (below_step HB2.out hbw3)
    have HG := Lib.hid Rgw3
    have hg1 := HR2.out.lt
    generalize hg : w2.heap.size = g at *
    have hgw : w.heap.size < g := by omega
    clear HR2 HB2 hbw3 Rgw3 hg hg1
    refine (HS2.out w3 (hE.later HB3.out)).mono ?_
    rintro e w4 hP
    clear HS2
    cases hv : seqR true a with
    | none =>
      rw [hv] at hP
      obtain ⟨rfl, hb4⟩ := hP
      have HP : Hid (pr = none) := Lib.hid (by have := HP1.out; rw [hv] at this; exact this)
      have HR4 := Lib.hid (HR3.out.later hb4)
      have HB4 := Lib.hid (below_step HB3.out hb4)
      clear HR3 HB3 hb4 hv HP1 HG
      unfold arr8
      have r0 := (HR4.out.cell 0).trans (show _ = some (Value.int .u64 0) from rfl)
      have r1 := (HR4.out.cell 1).trans (show _ = some (Value.int .u64 0) from rfl)
      have f0 := HR4.out.frozen 0
      have f1 := HR4.out.frozen 1
      have hlt := HR4.out.lt
      have hne : ¬ w4.heap.size = w.heap.size := by omega
      have hne' : ¬ w.heap.size = w4.heap.size := by omega
      go_wp2
      have Q2 := ((HR4.out.set 0 (.int .u64 0)).set 1 (.int .u64 0)).alloc (.cells #[.int .u16 0, .int .u16 0, .int .u16 0, .int .u16 0, .int .u16 0, .int .u16 0, .int .u16 0, .int .u16 0] 42)
      have s0 := (Q2.cell 0).trans (show _ = some (Value.int .u64 0) from rfl)
      have s1 := (Q2.cell 1).trans (show _ = some (Value.int .u64 0) from rfl)
      have hbf := ((HB4.out.setCell (p := ⟨w.heap.size, 0, none⟩) (Nat.le_refl _) (.int .u64 0)).setCell (p := ⟨w.heap.size, 1, none⟩) (Nat.le_refl _) (.int .u64 0)).alloc (by simp; omega) (.cells #[.int .u16 0, .int .u16 0, .int .u16 0, .int .u16 0, .int .u16 0, .int .u16 0, .int .u16 0, .int .u16 0] 42)
      clear r0 r1 f0 f1
      exact bodyPost_ret (v := .tuple #[.agg #[.int .u64 0, .int .u64 0], .int .i64 3]) (by simp only [results, Tryd.results29]; simp [go_sem, s0, s1]) rfl (by rw [HP.out]; exact ⟨rfl, hbf⟩)
    | some v =>
      rw [hv] at hP
      obtain ⟨rfl, hb4⟩ := hP
      have HR4 := Lib.hid (HR3.out.later hb4)
      have HB4 := Lib.hid (below_step HB3.out hb4)
      have HG4 := Lib.hid (HG.out.later hb4)
      have hv8 := (seqR_is hv).2
      have HVL := Lib.hid (readV_lt (seqR_is hv).1)
      have HVS : Hid (short = false → v = []) := Lib.hid (fun h => by
        have h1 := (seqR_is hv).1
        rw [HSA.out h] at h1
        unfold readV at h1
        rw [if_pos rfl] at h1
        cases h1; rfl)
      have HP2 : Hid (pr = if fits short u v = true then some (u ++ List.replicate (8 - u.length - v.length) 0 ++ v) else none) := Lib.hid (by have := HP1.out; rw [hv] at this; exact this)
      clear HR3 HB3 hb4 hv HP1 HG
      unfold arr8
      have hcs : (fits short u v = false ∧ ((short = true ∧ 8 ≤ u.length + v.length) ∨ (short = false ∧ u.length ≠ 8))) ∨ (fits short u v = true ∧ ((short = true ∧ u.length + v.length ≤ 7) ∨ (short = false ∧ u.length = 8))) := by
        unfold fits
        cases short <;> simp <;> omega
      have hnn : u.length + v.length ≤ 16 := by omega
      rcases hcs with ⟨hft, ⟨rfl, h9⟩ | ⟨rfl, h9⟩⟩ | ⟨hft, hok⟩
      · have HP : Hid (pr = none) := Lib.hid (by rw [HP2.out, hft]; rfl)
        have h9' : (8 : Int) ≤ (u.length : Int) + (v.length : Int) := by omega
        clear HP2 hft HG4 HUL HVL
        have r0 := (HR4.out.cell 0).trans (show _ = some (Value.int .u64 0) from rfl)
        have r1 := (HR4.out.cell 1).trans (show _ = some (Value.int .u64 0) from rfl)
        have f0 := HR4.out.frozen 0
        have f1 := HR4.out.frozen 1
        have hlt := HR4.out.lt
        have hne : ¬ w4.heap.size = w.heap.size := by omega
        have hne' : ¬ w.heap.size = w4.heap.size := by omega
        go_wp2
        have Q2 := ((HR4.out.set 0 (.int .u64 0)).set 1 (.int .u64 0)).alloc (.cells #[.int .u16 (lf v 0), .int .u16 (lf v 1), .int .u16 (lf v 2), .int .u16 (lf v 3), .int .u16 (lf v 4), .int .u16 (lf v 5), .int .u16 (lf v 6), .int .u16 (lf v 7)] 42)
        have s0 := (Q2.cell 0).trans (show _ = some (Value.int .u64 0) from rfl)
        have s1 := (Q2.cell 1).trans (show _ = some (Value.int .u64 0) from rfl)
        have hbf := ((HB4.out.setCell (p := ⟨w.heap.size, 0, none⟩) (Nat.le_refl _) (.int .u64 0)).setCell (p := ⟨w.heap.size, 1, none⟩) (Nat.le_refl _) (.int .u64 0)).alloc (by simp; omega) (.cells #[.int .u16 (lf v 0), .int .u16 (lf v 1), .int .u16 (lf v 2), .int .u16 (lf v 3), .int .u16 (lf v 4), .int .u16 (lf v 5), .int .u16 (lf v 6), .int .u16 (lf v 7)] 42)
        clear r0 r1 f0 f1
        exact bodyPost_ret (v := .tuple #[.agg #[.int .u64 0, .int .u64 0], .int .i64 3]) (by simp only [results, Tryd.results29]; simp [go_sem, s0, s1]) rfl (by rw [HP.out]; exact ⟨rfl, hbf⟩)
      · have HP : Hid (pr = none) := Lib.hid (by rw [HP2.out, hft]; rfl)
        have h9' : ¬ (u.length : Int) = 8 := by omega
        clear HP2 hft HG4 HUL HVL
        have r0 := (HR4.out.cell 0).trans (show _ = some (Value.int .u64 0) from rfl)
        have r1 := (HR4.out.cell 1).trans (show _ = some (Value.int .u64 0) from rfl)
        have f0 := HR4.out.frozen 0
        have f1 := HR4.out.frozen 1
        have hlt := HR4.out.lt
        have hne : ¬ w4.heap.size = w.heap.size := by omega
        have hne' : ¬ w.heap.size = w4.heap.size := by omega
        go_wp2
        have Q2 := ((HR4.out.set 0 (.int .u64 0)).set 1 (.int .u64 0)).alloc (.cells #[.int .u16 (lf v 0), .int .u16 (lf v 1), .int .u16 (lf v 2), .int .u16 (lf v 3), .int .u16 (lf v 4), .int .u16 (lf v 5), .int .u16 (lf v 6), .int .u16 (lf v 7)] 42)
        have s0 := (Q2.cell 0).trans (show _ = some (Value.int .u64 0) from rfl)
        have s1 := (Q2.cell 1).trans (show _ = some (Value.int .u64 0) from rfl)
        have hbf := ((HB4.out.setCell (p := ⟨w.heap.size, 0, none⟩) (Nat.le_refl _) (.int .u64 0)).setCell (p := ⟨w.heap.size, 1, none⟩) (Nat.le_refl _) (.int .u64 0)).alloc (by simp; omega) (.cells #[.int .u16 (lf v 0), .int .u16 (lf v 1), .int .u16 (lf v 2), .int .u16 (lf v 3), .int .u16 (lf v 4), .int .u16 (lf v 5), .int .u16 (lf v 6), .int .u16 (lf v 7)] 42)
        clear r0 r1 f0 f1
        exact bodyPost_ret (v := .tuple #[.agg #[.int .u64 0, .int .u64 0], .int .i64 3]) (by simp only [results, Tryd.results29]; simp [go_sem, s0, s1]) rfl (by rw [HP.out]; exact ⟨rfl, hbf⟩)
      · have HP := Lib.hid (HP2.out.trans (by rw [hft]; rfl) : pr = some (u ++ List.replicate (8 - u.length - v.length) 0 ++ v))
        clear HP2 hft
        rcases hok with ⟨rfl, h9⟩ | ⟨rfl, h9⟩
        · have huv : u.length + v.length ≤ 8 := by omega
          have h9' : (u.length : Int) + (v.length : Int) < 8 := by omega
          have qw : IntKind.i64.wrap (8 - (v.length : Int)) = 8 - (v.length : Int) := by simp [IntKind.wrap, IntKind.bits, IntKind.signed]; omega
          clear HVS
          go_wp2_with fail
          have Rgw5 := Row.new w4 #[.int .u16 (lf v 0), .int .u16 (lf v 1), .int .u16 (lf v 2), .int .u16 (lf v 3), .int .u16 (lf v 4), .int .u16 (lf v 5), .int .u16 (lf v 6), .int .u16 (lf v 7)] 42
          have hbw5 : Below w4.heap.size w4 (w4.alloc (.cells #[.int .u16 (lf v 0), .int .u16 (lf v 1), .int .u16 (lf v 2), .int .u16 (lf v 3), .int .u16 (lf v 4), .int .u16 (lf v 5), .int .u16 (lf v 6), .int .u16 (lf v 7)] 42)) := (Below.refl _ _).alloc (Nat.le_refl _) _
          generalize (w4.alloc (.cells #[.int .u16 (lf v 0), .int .u16 (lf v 1), .int .u16 (lf v 2), .int .u16 (lf v 3), .int .u16 (lf v 4), .int .u16 (lf v 5), .int .u16 (lf v 6), .int .u16 (lf v 7)] 42)) = w5 at *
          have HR5 := Lib.hid (HR4.out.later hbw5)
          have HB5 := Lib.hid (below_step HB4.out hbw5)
          have HG5 := Lib.hid (HG4.out.later hbw5)
          have HT5 := Lib.hid Rgw5
          have hg4 := HG4.out.lt
          generalize hgt : w4.heap.size = gt at *
          clear HR4 HB4 HG4 hbw5 Rgw5 hgt
          obtain ⟨o8, ho8⟩ : ∃ o8 : Nat, o8 = if 8 - v.length = 8 then 0 else 8 - v.length := ⟨_, rfl⟩
          have hcL : ∀ wq : World, (Instr.sliceAt 42 (.pointer (some ⟨g, 0, none⟩)) (some (.int .i64 (8 - (v.length : Int)))) none none).run Tryd.prog wq = .ok (.slice (some ⟨g, o8, none⟩) v.length v.length) wq := fun wq => by
            have h := cutL8 wq g (8 - v.length) (by omega)
            rw [← ho8, show ((8 - v.length : Nat) : Int) = 8 - (v.length : Int) by omega, show 8 - (8 - v.length) = v.length by omega] at h
            exact h
          have hcH : ∀ wq : World, (Instr.sliceAt 42 (.pointer (some ⟨gt, 0, none⟩)) none (some (.int .i64 (v.length : Int))) none).run Tryd.prog wq = .ok (.slice (some ⟨gt, 0, none⟩) v.length 8) wq := fun wq => cutH8 wq gt v.length hv8
          have HROW : Hid (w5.drew.heap[g]? = some (.cells (cellsV u).toList.toArray 42 (0, 0))) := Lib.hid (by rw [Array.toArray_toList]; exact HG5.out.drew)
          have HPOS : Hid (0 < (valsV v).length → (some (⟨g, o8, none⟩ : Addr)) = some ⟨g, 8 - v.length, none⟩ ∧ ∃ ad : Addr, (some (⟨gt, 0, none⟩ : Addr)) = some ad ∧ ∀ j x, (valsV v)[j]? = some x → w5.drew.cell? (ad.add j) = some x) := Lib.hid (by
            intro hp
            have hp' : 0 < v.length := by simpa [valsV] using hp
            refine ⟨by rw [ho8, if_neg (by omega)], ⟨gt, 0, none⟩, rfl, fun j x hx => ?_⟩
            have hj : j < v.length := by have := (List.getElem?_eq_some_iff.1 hx).1; simpa [valsV] using this
            rw [valsV_get v j hj] at hx
            cases hx
            rw [Addr.add_mid, Nat.zero_add]
            exact (HT5.out.drew.cell j).trans (cellsV_get v j (by omega)))
          have hvl : (valsV v).length = v.length := by simp [valsV]
          have HNN : Hid ((valsV v).length = Nat.min v.length v.length) := Lib.hid (by rw [hvl]; exact (Nat.min_self _).symm)
          have HFIT : Hid (8 - v.length + (valsV v).length ≤ (cellsV u).toList.length) := Lib.hid (by rw [hvl]; simp [cellsV_size]; omega)
          clear hvl ho8
          go_region_law (refine step_copy_splice rfl (.tmp 57) (.tmp 59) 76 76 rfl 41 Tryd.underlying76 u16size (some ⟨g, o8, none⟩) (some ⟨gt, 0, none⟩) v.length v.length v.length 8 (by simp [Act.eval, Act.put]) (by simp [Act.eval, Act.put]) g (8 - v.length) (cellsV u).toList 42 HROW.out (valsV v) HNN.out HPOS.out HFIT.out (valsV_one v) g w5.drew (Below.refl _ _) (Nat.le_refl _) ?_; intro w6 hg6 hb6)
          have HR6 := Lib.hid (HR5.out.drew.below hb6 hgw)
          have HB6 := Lib.hid (HB5.out.drew.trans (hb6.mono (Nat.le_of_lt hgw)))
          have R6 : Row w6 g (cellsV (u ++ List.replicate (8 - u.length - v.length) 0 ++ v)) 42 := by have := hg6.out; rw [splice_cells u v huv] at this; exact this
          have hrg : ∀ x ∈ u ++ List.replicate (8 - u.length - v.length) 0 ++ v, x ≤ 65535 := fun x hx => by
            simp only [List.mem_append, List.mem_replicate] at hx
            rcases hx with (hx | hx) | hx
            · exact HUL.out x hx
            · omega
            · exact HVL.out x hx
          have HLR := Lib.hid (lf_range hrg)
          generalize u ++ List.replicate (8 - u.length - v.length) 0 ++ v = gs at *
          have xc0 := (R6.cell 0).trans (show _ = some (Value.int .u16 (lf gs 0)) from rfl)
          have xc1 := (R6.cell 1).trans (show _ = some (Value.int .u16 (lf gs 1)) from rfl)
          have xc2 := (R6.cell 2).trans (show _ = some (Value.int .u16 (lf gs 2)) from rfl)
          have xc3 := (R6.cell 3).trans (show _ = some (Value.int .u16 (lf gs 3)) from rfl)
          have xc4 := (R6.cell 4).trans (show _ = some (Value.int .u16 (lf gs 4)) from rfl)
          have xc5 := (R6.cell 5).trans (show _ = some (Value.int .u16 (lf gs 5)) from rfl)
          have xc6 := (R6.cell 6).trans (show _ = some (Value.int .u16 (lf gs 6)) from rfl)
          have xc7 := (R6.cell 7).trans (show _ = some (Value.int .u16 (lf gs 7)) from rfl)
          clear HG5 HT5 HROW HPOS HNN HFIT HR5 HB5 hg6 hb6 R6 hcL hcH hrg HUL HVL
          go_wp2_with fail
          refine (of8_t (lf gs) HLR.out w6).mono ?_
          rintro e w7 ⟨rfl, hb7⟩
          have HR7 := Lib.hid (HR6.out.later hb7)
          have HB7 := Lib.hid (below_step HB6.out hb7)
          clear HR6 HB6 hb7 HLR xc0 xc1 xc2 xc3 xc4 xc5 xc6 xc7
          have r0 := (HR7.out.cell 0).trans (show _ = some (Value.int .u64 0) from rfl)
          have r1 := (HR7.out.cell 1).trans (show _ = some (Value.int .u64 0) from rfl)
          have f0 := HR7.out.frozen 0
          have f1 := HR7.out.frozen 1
          go_wp2
          have Q2 := (HR7.out.set 0 (.int .u64 (hi (ofN (lf gs) 8)))).set 1 (.int .u64 (lo (ofN (lf gs) 8)))
          have s0 := (Q2.cell 0).trans (show _ = some (Value.int .u64 (hi (ofN (lf gs) 8))) from rfl)
          have s1 := (Q2.cell 1).trans (show _ = some (Value.int .u64 (lo (ofN (lf gs) 8))) from rfl)
          clear r0 r1 f0 f1
          exact bodyPost_ret (v := .tuple #[.agg #[.int .u64 (hi (ofN (lf gs) 8)), .int .u64 (lo (ofN (lf gs) 8))], .int .i64 0]) (by simp only [results, Tryd.results29]; simp [go_sem, s0, s1]) rfl (by rw [HP.out]; exact ⟨rfl, (HB7.out.setCell (p := ⟨w.heap.size, 0, none⟩) (Nat.le_refl _) _).setCell (p := ⟨w.heap.size, 1, none⟩) (Nat.le_refl _) _⟩)
        · have huv : u.length + v.length ≤ 8 := by have h0 : v.length = 0 := (by rw [HVS.out rfl]; rfl); omega
          have h9' : (u.length : Int) = 8 := by omega
          have qw : IntKind.i64.wrap (8 - (v.length : Int)) = 8 - (v.length : Int) := by simp [IntKind.wrap, IntKind.bits, IntKind.signed]; omega
          clear HVS
          go_wp2_with fail
          have Rgw5 := Row.new w4 #[.int .u16 (lf v 0), .int .u16 (lf v 1), .int .u16 (lf v 2), .int .u16 (lf v 3), .int .u16 (lf v 4), .int .u16 (lf v 5), .int .u16 (lf v 6), .int .u16 (lf v 7)] 42
          have hbw5 : Below w4.heap.size w4 (w4.alloc (.cells #[.int .u16 (lf v 0), .int .u16 (lf v 1), .int .u16 (lf v 2), .int .u16 (lf v 3), .int .u16 (lf v 4), .int .u16 (lf v 5), .int .u16 (lf v 6), .int .u16 (lf v 7)] 42)) := (Below.refl _ _).alloc (Nat.le_refl _) _
          generalize (w4.alloc (.cells #[.int .u16 (lf v 0), .int .u16 (lf v 1), .int .u16 (lf v 2), .int .u16 (lf v 3), .int .u16 (lf v 4), .int .u16 (lf v 5), .int .u16 (lf v 6), .int .u16 (lf v 7)] 42)) = w5 at *
          have HR5 := Lib.hid (HR4.out.later hbw5)
          have HB5 := Lib.hid (below_step HB4.out hbw5)
          have HG5 := Lib.hid (HG4.out.later hbw5)
          have HT5 := Lib.hid Rgw5
          have hg4 := HG4.out.lt
          generalize hgt : w4.heap.size = gt at *
          clear HR4 HB4 HG4 hbw5 Rgw5 hgt
          obtain ⟨o8, ho8⟩ : ∃ o8 : Nat, o8 = if 8 - v.length = 8 then 0 else 8 - v.length := ⟨_, rfl⟩
          have hcL : ∀ wq : World, (Instr.sliceAt 42 (.pointer (some ⟨g, 0, none⟩)) (some (.int .i64 (8 - (v.length : Int)))) none none).run Tryd.prog wq = .ok (.slice (some ⟨g, o8, none⟩) v.length v.length) wq := fun wq => by
            have h := cutL8 wq g (8 - v.length) (by omega)
            rw [← ho8, show ((8 - v.length : Nat) : Int) = 8 - (v.length : Int) by omega, show 8 - (8 - v.length) = v.length by omega] at h
            exact h
          have hcH : ∀ wq : World, (Instr.sliceAt 42 (.pointer (some ⟨gt, 0, none⟩)) none (some (.int .i64 (v.length : Int))) none).run Tryd.prog wq = .ok (.slice (some ⟨gt, 0, none⟩) v.length 8) wq := fun wq => cutH8 wq gt v.length hv8
          have HROW : Hid (w5.drew.heap[g]? = some (.cells (cellsV u).toList.toArray 42 (0, 0))) := Lib.hid (by rw [Array.toArray_toList]; exact HG5.out.drew)
          have HPOS : Hid (0 < (valsV v).length → (some (⟨g, o8, none⟩ : Addr)) = some ⟨g, 8 - v.length, none⟩ ∧ ∃ ad : Addr, (some (⟨gt, 0, none⟩ : Addr)) = some ad ∧ ∀ j x, (valsV v)[j]? = some x → w5.drew.cell? (ad.add j) = some x) := Lib.hid (by
            intro hp
            have hp' : 0 < v.length := by simpa [valsV] using hp
            refine ⟨by rw [ho8, if_neg (by omega)], ⟨gt, 0, none⟩, rfl, fun j x hx => ?_⟩
            have hj : j < v.length := by have := (List.getElem?_eq_some_iff.1 hx).1; simpa [valsV] using this
            rw [valsV_get v j hj] at hx
            cases hx
            rw [Addr.add_mid, Nat.zero_add]
            exact (HT5.out.drew.cell j).trans (cellsV_get v j (by omega)))
          have hvl : (valsV v).length = v.length := by simp [valsV]
          have HNN : Hid ((valsV v).length = Nat.min v.length v.length) := Lib.hid (by rw [hvl]; exact (Nat.min_self _).symm)
          have HFIT : Hid (8 - v.length + (valsV v).length ≤ (cellsV u).toList.length) := Lib.hid (by rw [hvl]; simp [cellsV_size]; omega)
          clear hvl ho8
          go_region_law (refine step_copy_splice rfl (.tmp 57) (.tmp 59) 76 76 rfl 41 Tryd.underlying76 u16size (some ⟨g, o8, none⟩) (some ⟨gt, 0, none⟩) v.length v.length v.length 8 (by simp [Act.eval, Act.put]) (by simp [Act.eval, Act.put]) g (8 - v.length) (cellsV u).toList 42 HROW.out (valsV v) HNN.out HPOS.out HFIT.out (valsV_one v) g w5.drew (Below.refl _ _) (Nat.le_refl _) ?_; intro w6 hg6 hb6)
          have HR6 := Lib.hid (HR5.out.drew.below hb6 hgw)
          have HB6 := Lib.hid (HB5.out.drew.trans (hb6.mono (Nat.le_of_lt hgw)))
          have R6 : Row w6 g (cellsV (u ++ List.replicate (8 - u.length - v.length) 0 ++ v)) 42 := by have := hg6.out; rw [splice_cells u v huv] at this; exact this
          have hrg : ∀ x ∈ u ++ List.replicate (8 - u.length - v.length) 0 ++ v, x ≤ 65535 := fun x hx => by
            simp only [List.mem_append, List.mem_replicate] at hx
            rcases hx with (hx | hx) | hx
            · exact HUL.out x hx
            · omega
            · exact HVL.out x hx
          have HLR := Lib.hid (lf_range hrg)
          generalize u ++ List.replicate (8 - u.length - v.length) 0 ++ v = gs at *
          have xc0 := (R6.cell 0).trans (show _ = some (Value.int .u16 (lf gs 0)) from rfl)
          have xc1 := (R6.cell 1).trans (show _ = some (Value.int .u16 (lf gs 1)) from rfl)
          have xc2 := (R6.cell 2).trans (show _ = some (Value.int .u16 (lf gs 2)) from rfl)
          have xc3 := (R6.cell 3).trans (show _ = some (Value.int .u16 (lf gs 3)) from rfl)
          have xc4 := (R6.cell 4).trans (show _ = some (Value.int .u16 (lf gs 4)) from rfl)
          have xc5 := (R6.cell 5).trans (show _ = some (Value.int .u16 (lf gs 5)) from rfl)
          have xc6 := (R6.cell 6).trans (show _ = some (Value.int .u16 (lf gs 6)) from rfl)
          have xc7 := (R6.cell 7).trans (show _ = some (Value.int .u16 (lf gs 7)) from rfl)
          clear HG5 HT5 HROW HPOS HNN HFIT HR5 HB5 hg6 hb6 R6 hcL hcH hrg HUL HVL
          go_wp2_with fail
          refine (of8_t (lf gs) HLR.out w6).mono ?_
          rintro e w7 ⟨rfl, hb7⟩
          have HR7 := Lib.hid (HR6.out.later hb7)
          have HB7 := Lib.hid (below_step HB6.out hb7)
          clear HR6 HB6 hb7 HLR xc0 xc1 xc2 xc3 xc4 xc5 xc6 xc7
          have r0 := (HR7.out.cell 0).trans (show _ = some (Value.int .u64 0) from rfl)
          have r1 := (HR7.out.cell 1).trans (show _ = some (Value.int .u64 0) from rfl)
          have f0 := HR7.out.frozen 0
          have f1 := HR7.out.frozen 1
          go_wp2
          have Q2 := (HR7.out.set 0 (.int .u64 (hi (ofN (lf gs) 8)))).set 1 (.int .u64 (lo (ofN (lf gs) 8)))
          have s0 := (Q2.cell 0).trans (show _ = some (Value.int .u64 (hi (ofN (lf gs) 8))) from rfl)
          have s1 := (Q2.cell 1).trans (show _ = some (Value.int .u64 (lo (ofN (lf gs) 8))) from rfl)
          clear r0 r1 f0 f1
          exact bodyPost_ret (v := .tuple #[.agg #[.int .u64 (hi (ofN (lf gs) 8)), .int .u64 (lo (ofN (lf gs) 8))], .int .i64 0]) (by simp only [results, Tryd.results29]; simp [go_sem, s0, s1]) rfl (by rw [HP.out]; exact ⟨rfl, (HB7.out.setCell (p := ⟨w.heap.size, 0, none⟩) (Nat.le_refl _) _).setCell (p := ⟨w.heap.size, 1, none⟩) (Nat.le_refl _) _⟩)
end Go.Proofs.YtkenkjdelhmaoaaDoor
