/- The closure of package six that reads one part. No conditions beyond ranges and the captured variables' blocks. -/
import Derived.Test.YtkenkjdelhmaoaaDoorSix7b
namespace Go.Proofs.YtkenkjdelhmaoaaDoor
set_option linter.unusedVariables false
set_option linter.unusedSimpArgs false
open Go.RowKit
def lf (vs : List Nat) (i : Nat) : Int := ((vs.getD i 0 : Nat) : Int)
def cellsV (vs : List Nat) : Array Value := #[.int .u16 (lf vs 0), .int .u16 (lf vs 1), .int .u16 (lf vs 2), .int .u16 (lf vs 3), .int .u16 (lf vs 4), .int .u16 (lf vs 5), .int .u16 (lf vs 6), .int .u16 (lf vs 7)]
theorem cellsV_get (vs : List Nat) (i : Nat) (h : i < 8) : (cellsV vs)[i]? = some (.int .u16 (lf vs i)) := by
  rcases i with _ | _ | _ | _ | _ | _ | _ | _ | i <;> first | rfl | omega
theorem cellsV_size (vs : List Nat) : (cellsV vs).size = 8 := rfl
theorem lf_app (vs : List Nat) (v i : Nat) : lf (vs ++ [v]) i = if i = vs.length then (v : Int) else lf vs i := by
  unfold lf
  by_cases h : i < vs.length
  · rw [if_neg (by omega)]; simp [List.getElem?_append_left h]
  · by_cases h2 : i = vs.length
    · subst h2; simp
    · rw [if_neg h2]; simp [List.getElem?_eq_none (show vs.length ≤ i by omega), List.getElem?_eq_none (show (vs ++ [v]).length ≤ i by simp; omega)]
theorem cellsV_set (vs : List Nat) (v : Nat) (h : vs.length < 8) : (cellsV vs).setIfInBounds vs.length (.int .u16 (v : Int)) = cellsV (vs ++ [v]) := by
  apply Array.ext_getElem?
  intro i
  by_cases hi : i < 8
  · rw [cellsV_get _ i hi, lf_app, Array.getElem?_setIfInBounds]
    by_cases he : vs.length = i
    · rw [if_pos he, if_pos (by rw [cellsV_size]; exact h), if_pos he.symm]
    · rw [if_neg he, cellsV_get _ i hi, if_neg (fun e => he e.symm)]
  · rw [Array.getElem?_eq_none (by simp [cellsV_size]; omega), Array.getElem?_eq_none (by rw [cellsV_size]; omega)]
/-- what reading one part adds -/
noncomputable def stepV (d last : Bool) (p : List UInt8) (n : Nat) : Option (List Nat) :=
  if d = true ∧ last = true ∧ (parse4 p).2 = 0 ∧ n + 2 ≤ 8 then some [(parse4 p).1.toNat / 65536, (parse4 p).1.toNat % 65536] else if n < 8 then (grpV p).map fun v => [v] else none
/-- the answer of the closure -/
def StepPost (o : Option (List Nat)) (d : Bool) (vs : List Nat) (B gd gn gg : Nat) (w : World) (e : Ending) (w' : World) : Prop := match o with
  | some xs => e = .returned (.bool true) ∧ Row w' gd #[.bool d] 4 ∧ Row w' gn #[.int .i64 ((vs ++ xs).length : Nat)] 3 ∧ Row w' gg (cellsV (vs ++ xs)) 42 ∧ Below B w w'
  | none => e = .returned (.bool false) ∧ Row w' gd #[.bool d] 4 ∧ Row w' gn #[.int .i64 (vs.length : Nat)] 3 ∧ Row w' gg (cellsV vs) 42 ∧ Below B w w'
set_option maxHeartbeats 4000000 in
set_option maxRecDepth 100000 in
theorem seq1_t (d last : Bool) (p : List UInt8) (hp : p.length ≤ 4000000000) (vs : List Nat) (hvs : vs.length ≤ 8) (B gd gn gg : Nat) (h1 : B ≤ gn) (h2 : B ≤ gg) (h3 : gd ≠ gn) (h4 : gd ≠ gg) (h5 : gn ≠ gg) (w : World) (hE : Env w) (Rd : Row w gd #[.bool d] 4) (Rn : Row w gn #[.int .i64 (vs.length : Nat)] 3) (Rg : Row w gg (cellsV vs) 42) :
    Calls Tryd.prog 56 #[.string ⟨p.toArray⟩, .bool last, .pointer (some ⟨gd, 0, none⟩), .pointer (some ⟨gn, 0, none⟩), .pointer (some ⟨gg, 0, none⟩)] w (StepPost (stepV d last p vs.length) d vs B gd gn gg w) := by
  have hBw : B ≤ w.heap.size := Nat.le_trans h1 (Nat.le_of_lt Rn.lt)
  have HRd := Lib.hid Rd
  have HRn := Lib.hid Rn
  have HRg := Lib.hid Rg
  clear Rd Rn Rg
  have hST : ∀ r, r = stepV d last p vs.length → stepV d last p vs.length = r := fun r h => h.symm
  go_enter Tryd.func56, Tryd.ntmps56
  go_wp2_with fail
  refine (parse4_t p hp w hE).mono ?_
  rintro e w1 ⟨rfl, hb1⟩
  have HB1 := Lib.hid (hb1.mono hBw)
  have HRd1 := Lib.hid (HRd.out.later hb1)
  have HRn1 := Lib.hid (HRn.out.later hb1)
  have HRg1 := Lib.hid (HRg.out.later hb1)
  have HE1 := Lib.hid (hE.later hb1)
  have Rz : ∀ X, X = w1.heap.size → B ≤ w1.heap.size := fun _ _ => Nat.le_trans hBw hb1.size
  have hBw1 := Rz _ rfl
  clear HRd HRn HRg hb1 Rz hST
  have hrng := parse_range p
  have herr := parse_err p
  have HST : Hid (stepV d last p vs.length = if d = true ∧ last = true ∧ (parse4 p).2 = 0 ∧ vs.length + 2 ≤ 8 then some [(parse4 p).1.toNat / 65536, (parse4 p).1.toNat % 65536] else if vs.length < 8 then (grpV p).map fun v => [v] else none) := Lib.hid rfl
  generalize stepV d last p vs.length = sv at *
  generalize parse4 p = pr at *
  obtain ⟨A, er⟩ := pr
  dsimp only at hrng herr HST ⊢
  have cd : w1.cell? ⟨gd, 0, none⟩ = some (.bool d) := (HRd1.out.cell 0).trans rfl
  have cn : w1.cell? ⟨gn, 0, none⟩ = some (.int .i64 (vs.length : Nat)) := (HRn1.out.cell 0).trans rfl
  have hnA : ∀ (P : Prop), P → ¬ (d = true ∧ last = true ∧ er = 0 ∧ vs.length + 2 ≤ 8) → P ∧ ¬ (d = true ∧ last = true ∧ er = 0 ∧ vs.length + 2 ≤ 8) := fun _ a b => ⟨a, b⟩
  have hcs : (d = true ∧ last = true ∧ er = 0 ∧ vs.length + 2 ≤ 8) ∨ (er = 3 ∧ ¬ (d = true ∧ last = true ∧ er = 0 ∧ vs.length + 2 ≤ 8)) ∨ ((er = 0 ∧ d = false) ∧ ¬ (d = true ∧ last = true ∧ er = 0 ∧ vs.length + 2 ≤ 8)) ∨ ((er = 0 ∧ d = true ∧ last = false) ∧ ¬ (d = true ∧ last = true ∧ er = 0 ∧ vs.length + 2 ≤ 8)) ∨ ((er = 0 ∧ d = true ∧ last = true ∧ ¬ vs.length + 2 ≤ 8) ∧ ¬ (d = true ∧ last = true ∧ er = 0 ∧ vs.length + 2 ≤ 8)) := by
    cases d <;> cases last <;> simp <;> omega
  clear hnA
  rcases hcs with hA | ⟨rfl, hA⟩ | ⟨⟨rfl, rfl⟩, hA⟩ | ⟨⟨rfl, rfl, rfl⟩, hA⟩ | ⟨⟨rfl, rfl, rfl, hn8⟩, hA⟩
  · have HS := Lib.hid (HST.out.trans (if_pos hA))
    obtain ⟨rfl, rfl, rfl, hn2⟩ := hA
    clear HST herr hE hvs
    have g0 := (HRg1.out.cell vs.length).trans (cellsV_get vs vs.length (by omega))
    have g1 := (HRg1.out.cell (vs.length + 1)).trans (cellsV_get vs (vs.length + 1) (by omega))
    have f0 := HRg1.out.frozen vs.length
    have f1 := HRg1.out.frozen (vs.length + 1)
    have fn := HRn1.out.frozen 0
    generalize lf vs vs.length = y0 at *
    generalize lf vs (vs.length + 1) = y1 at *
    generalize hn : vs.length = n at *
    have HN := Lib.hid hn
    clear hn
    have q1 : (n : Int) + 2 ≤ 8 := by omega
    have q2 : ((n : Int) + 1).toNat = n + 1 := by omega
    have q4 : 0 ≤ A := hrng.1
    have q5 : A ≤ 4294967295 := hrng.2
    have q6 : IntKind.i64.wrap ((n : Int) + 1) = (n : Int) + 1 := by simp [IntKind.wrap, IntKind.bits, IntKind.signed]; omega
    have q3 : IntKind.u16.wrap (A / 65536) = A / 65536 := by simp [IntKind.wrap, IntKind.bits, IntKind.signed]; omega
    have q7 : IntKind.u16.wrap A = A % 65536 := by simp [IntKind.wrap, IntKind.bits, IntKind.signed]
    go_wp2_with fail
    go_region
    have RG2 := ((HRg1.out.set n (.int .u16 (A / 65536))).set (n + 1) (.int .u16 (A % 65536))).drew
    have RN2 := ((HRn1.out.set_far ⟨gg, n, none⟩ (.int .u16 (A / 65536)) (by dsimp only; omega)).set_far ⟨gg, n + 1, none⟩ (.int .u16 (A % 65536)) (by dsimp only; omega)).drew
    have RD2 := ((HRd1.out.set_far ⟨gg, n, none⟩ (.int .u16 (A / 65536)) (by dsimp only; omega)).set_far ⟨gg, n + 1, none⟩ (.int .u16 (A % 65536)) (by dsimp only; omega)).drew
    have HB2 := Lib.hid ((HB1.out.setCell (p := ⟨gg, n, none⟩) (by dsimp only; omega) (.int .u16 (A / 65536))).setCell (p := ⟨gg, n + 1, none⟩) (by dsimp only; omega) (.int .u16 (A % 65536))).drew
    generalize ((w1.setCell ⟨gg, n, none⟩ (.int .u16 (A / 65536))).setCell ⟨gg, n + 1, none⟩ (.int .u16 (A % 65536))).drew = w2 at *
    have cn2 : w2.cell? ⟨gn, 0, none⟩ = some (.int .i64 (n : Nat)) := (RN2.cell 0).trans rfl
    have fn2 := RN2.frozen 0
    have HRG2 := Lib.hid RG2
    have HRN2 := Lib.hid RN2
    have HRD2 := Lib.hid RD2
    clear RG2 RN2 RD2 g0 g1 f0 f1 cn fn cd HRg1 HRn1 HRd1 HB1
    go_wp2
    go_ret
    rw [HS.out]
    obtain rfl := HN.out
    have e1 : A / 65536 = ((A.toNat / 65536 : Nat) : Int) := by omega
    have e2 : A % 65536 = ((A.toNat % 65536 : Nat) : Int) := by omega
    refine ⟨rfl, HRD2.out.set_far _ _ (by dsimp only; omega), ?_, ?_, HB2.out.setCell (by dsimp only; omega) _⟩
    · have := HRN2.out.set 0 (.int .i64 ((vs.length : Int) + 2))
      simpa using this
    · have h8 := HRG2.out.set_far ⟨gn, 0, none⟩ (.int .i64 ((vs.length : Int) + 2)) (by dsimp only; omega)
      rw [e1, e2, cellsV_set vs _ (by omega), show vs.length + 1 = (vs ++ [A.toNat / 65536]).length by simp, cellsV_set (vs ++ [A.toNat / 65536]) _ (by simp; omega)] at h8
      simpa using h8
  all_goals
    have HS := Lib.hid (HST.out.trans (if_neg hA))
    clear hA HST herr hrng
    try have q8 : (8 : Int) < (vs.length : Int) + 2 := by omega
    go_wp2_with fail
    refine (pu16_t p hp w1 HE1.out).mono ?_
    rintro e w2 ⟨hP, hb2⟩
    have HB2 := Lib.hid (HB1.out.trans (hb2.mono hBw1))
    have HRD2 := Lib.hid (HRd1.out.later hb2)
    have HRN2 := Lib.hid (HRn1.out.later hb2)
    have HRG2 := Lib.hid (HRg1.out.later hb2)
    clear HRd1 HRn1 HRg1 HB1 hb2 cd cn HE1 hE
    have cn2 : w2.cell? ⟨gn, 0, none⟩ = some (.int .i64 (vs.length : Nat)) := (HRN2.out.cell 0).trans rfl
    have fn2 := HRN2.out.frozen 0
    have hgr : grpV p = if 4 < p.length then none else hexP p := rfl
    cases hq : hexP p with
    | none =>
      rw [hq] at hP hgr
      obtain ⟨u, t, pp, rfl⟩ : ∃ u t pp, e = .returned (.tuple #[.int .u64 u, .iface t pp]) := hP
      have hsv : sv = none := by rw [HS.out, hgr]; simp
      clear hgr
      go_wp2
      go_ret
      rw [hsv]
      exact ⟨rfl, HRD2.out, HRN2.out, HRG2.out, HB2.out⟩
    | some v =>
      rw [hq] at hP hgr
      obtain rfl : e = .returned (.tuple #[.int .u64 v, .nilIface]) := hP
      have hv : v ≤ 65535 := by
        unfold hexP at hq
        split at hq
        · cases hq
        · exact hexM_lt _ _ _ (by omega) hq
      clear hq
      by_cases hl4 : 4 < p.length
      · have hsv : sv = none := by rw [HS.out, hgr, if_pos hl4]; simp
        have hl4' : (4 : Int) < (p.length : Int) := by omega
        clear hgr
        go_wp2
        go_ret
        rw [hsv]
        exact ⟨rfl, HRD2.out, HRN2.out, HRG2.out, HB2.out⟩
      · rw [if_neg hl4] at hgr
        have hl4' : ¬ (4 : Int) < (p.length : Int) := by omega
        by_cases hn7 : vs.length < 8
        · have hsv : sv = some [v] := by rw [HS.out, hgr, if_pos hn7]; rfl
          have hn9 : ((vs.length : Int) == 8) = false := by rw [beq_eq_false_iff_ne]; omega
          have hn10 : ¬ (vs.length : Int) = 8 := by omega
          have g0 := (HRG2.out.cell vs.length).trans (cellsV_get vs vs.length (by omega))
          have f0 := HRG2.out.frozen vs.length
          have q9 : (v : Int) % 65536 = v := by omega
          clear hgr
          go_wp2
          go_ret
          rw [hsv]
          refine ⟨rfl, (HRD2.out.set_far _ _ (by dsimp only; omega)).set_far _ _ (by dsimp only; omega), ?_, ?_, (HB2.out.setCell (by dsimp only; omega) _).setCell (by dsimp only; omega) _⟩
          · have := (HRN2.out.set_far ⟨gg, vs.length, none⟩ (.int .u16 (v : Int)) (by dsimp only; omega)).set 0 (.int .i64 ((vs.length : Int) + 1))
            simpa using this
          · have h8 := (HRG2.out.set vs.length (.int .u16 (v : Int))).set_far ⟨gn, 0, none⟩ (.int .i64 ((vs.length : Int) + 1)) (by dsimp only; omega)
            rw [cellsV_set vs _ (by omega)] at h8
            exact h8
        · have hsv : sv = none := by rw [HS.out, if_neg hn7]
          have hn9 : (vs.length : Int) = 8 := by omega
          have hn10 : ((vs.length : Int) == 8) = true := by rw [beq_iff_eq]; omega
          clear hgr
          go_wp2
          go_ret
          rw [hsv]
          exact ⟨rfl, HRD2.out, HRN2.out, HRG2.out, HB2.out⟩
end Go.Proofs.YtkenkjdelhmaoaaDoor
