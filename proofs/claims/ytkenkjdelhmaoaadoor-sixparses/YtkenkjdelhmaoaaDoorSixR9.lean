/- The walk of the reference's Parse of layer 4, a text without a gap. No conditions beyond the text's length. -/
import Derived.Test.YtkenkjdelhmaoaaDoorSixR8
namespace Go.Proofs.YtkenkjdelhmaoaaDoor
set_option linter.unusedVariables false
set_option linter.unusedSimpArgs false
open Go.RowKit
set_option maxRecDepth 100000 in
set_option maxHeartbeats 4000000 in
theorem rparse6_no (l : List UInt8) (hl : l.length ≤ 300) (hix : Lib.index l [58, 58] = -1) (hcc : cc l = (l, [], false)) (w : World) : Calls Tryd.prog 30 #[.string ⟨l.toArray⟩] w (RParPost (parse6 l) w) := by
  have hpd : parse6 l = match readV true l with
      | some u => if u.length = 8 then some u else none
      | none => none := by
    unfold parse6
    rw [hcc]
    dsimp only
    have h2 : readV true [] = some [] := rfl
    rw [h2, show (!false) = true from rfl]
    cases readV true l with
    | none => rfl
    | some u =>
      dsimp only
      by_cases h8 : u.length = 8
      · rw [if_pos (by simp [fits, h8]), if_pos h8]; simp [h8]
      · rw [if_neg (by simp [fits, h8]), if_neg h8]
  have HPD := Lib.hid hpd
  clear hpd hcc
  generalize parse6 l = pr at *
  have hrd := fun wq => read_use true l hl wq
  have HRL := Lib.hid (fun vs (h : readV true l = some vs) => readV_lt h)
  go_enter Tryd.func30, Tryd.ntmps30
  go_wp2_with fail
  have R0 : Row (((w.alloc (.cells #[.int .u64 0, .int .u64 0] 47)).alloc (.cells #[.int .u64 0, .int .u64 0] 47)).alloc (.cells #[.int .u16 0, .int .u16 0, .int .u16 0, .int .u16 0, .int .u16 0, .int .u16 0, .int .u16 0, .int .u16 0] 42)) w.heap.size #[.int .u64 0, .int .u64 0] 47 := ((Row.new w _ _).alloc _).alloc _
  have N0 : Row (((w.alloc (.cells #[.int .u64 0, .int .u64 0] 47)).alloc (.cells #[.int .u64 0, .int .u64 0] 47)).alloc (.cells #[.int .u16 0, .int .u16 0, .int .u16 0, .int .u16 0, .int .u16 0, .int .u16 0, .int .u16 0, .int .u16 0] 42)) (w.heap.size + 1) #[.int .u64 0, .int .u64 0] 47 := by simpa using (Row.new (w.alloc (.cells #[.int .u64 0, .int .u64 0] 47)) #[.int .u64 0, .int .u64 0] 47).alloc (.cells #[.int .u16 0, .int .u16 0, .int .u16 0, .int .u16 0, .int .u16 0, .int .u16 0, .int .u16 0, .int .u16 0] 42)
  have G0 : Row (((w.alloc (.cells #[.int .u64 0, .int .u64 0] 47)).alloc (.cells #[.int .u64 0, .int .u64 0] 47)).alloc (.cells #[.int .u16 0, .int .u16 0, .int .u16 0, .int .u16 0, .int .u16 0, .int .u16 0, .int .u16 0, .int .u16 0] 42)) (w.heap.size + 2) (cellsV []) 42 := by
    have h := Row.new ((w.alloc (.cells #[.int .u64 0, .int .u64 0] 47)).alloc (.cells #[.int .u64 0, .int .u64 0] 47)) #[.int .u16 0, .int .u16 0, .int .u16 0, .int .u16 0, .int .u16 0, .int .u16 0, .int .u16 0, .int .u16 0] 42
    rw [show ((w.alloc (.cells #[.int .u64 0, .int .u64 0] 47)).alloc (.cells #[.int .u64 0, .int .u64 0] 47)).heap.size = w.heap.size + 2 by simp] at h
    exact h
  have hb0 : Below w.heap.size w (((w.alloc (.cells #[.int .u64 0, .int .u64 0] 47)).alloc (.cells #[.int .u64 0, .int .u64 0] 47)).alloc (.cells #[.int .u16 0, .int .u16 0, .int .u16 0, .int .u16 0, .int .u16 0, .int .u16 0, .int .u16 0, .int .u16 0] 42)) := (by repeat (first | exact Below.refl _ _ | assumption | (with_reducible refine Below.setCell ?_ ?h _; case h => first | omega | (simp; done) | (simp; omega)) | (with_reducible refine Below.alloc ?_ ?h _; case h => first | omega | (simp; done) | (simp; omega)) | (with_reducible refine Below.drew ?_) | (with_reducible refine Below.trans ?_ (hb4.mono ?h); case h => first | omega | (simp; done) | (simp; omega)) | (with_reducible refine Below.trans ?_ (hb3.mono ?h); case h => first | omega | (simp; done) | (simp; omega)) | (with_reducible refine Below.trans ?_ (hb2.mono ?h); case h => first | omega | (simp; done) | (simp; omega)) | (with_reducible refine Below.trans ?_ (hb.mono ?h); case h => first | omega | (simp; done) | (simp; omega)) | (with_reducible refine Below.trans ?_ (hb0.mono ?h); case h => first | omega | (simp; done) | (simp; omega))))
  have hz0 : (((w.alloc (.cells #[.int .u64 0, .int .u64 0] 47)).alloc (.cells #[.int .u64 0, .int .u64 0] 47)).alloc (.cells #[.int .u16 0, .int .u16 0, .int .u16 0, .int .u16 0, .int .u16 0, .int .u16 0, .int .u16 0, .int .u16 0] 42)).heap.size = w.heap.size + 3 := by simp
  generalize ((w.alloc (.cells #[.int .u64 0, .int .u64 0] 47)).alloc (.cells #[.int .u64 0, .int .u64 0] 47)).alloc (.cells #[.int .u16 0, .int .u16 0, .int .u16 0, .int .u16 0, .int .u16 0, .int .u16 0, .int .u16 0, .int .u16 0] 42) = w0 at *
  refine (rcut_t l hl w0).mono ?_
  rintro e w1 ⟨rfl, rfl⟩
  rw [hix]
  have HR0 := Lib.hid R0
  have HN0 := Lib.hid N0
  have HG0 := Lib.hid G0
  have HB0 := Lib.hid hb0
  have HRD := Lib.hid hrd
  clear R0 N0 G0 hb0 hrd hix
  go_wp2_with fail
  refine (HRD.out _).mono ?_
  rintro e w2 ⟨hP, hb2⟩
  have HR := Lib.hid (HR0.out.later hb2)
  have HN := Lib.hid (HN0.out.later hb2)
  have HG := Lib.hid (HG0.out.later hb2)
  have HB := Lib.hid (below_step HB0.out hb2)
  clear HR0 HN0 HG0 HB0 HRD hb2
  cases hq : readV true l with
  | none =>
    rw [hq] at hP
    subst hP
    have HP : Hid (pr = none) := Lib.hid (by rw [HPD.out, hq])
    clear hq HPD HRL
    have n0 := (HN.out.cell 0).trans (show _ = some (Value.int .u64 0) from rfl)
    have n1 := (HN.out.cell 1).trans (show _ = some (Value.int .u64 0) from rfl)
    have r0 := (HR.out.cell 0).trans (show _ = some (Value.int .u64 0) from rfl)
    have r1 := (HR.out.cell 1).trans (show _ = some (Value.int .u64 0) from rfl)
    have f0 := HR.out.frozen 0
    have f1 := HR.out.frozen 1
    go_wp2
    have Q2 := (HR.out.set 0 (.int .u64 0)).set 1 (.int .u64 0)
    have s0 := (Q2.cell 0).trans (show _ = some (Value.int .u64 0) from rfl)
    have s1 := (Q2.cell 1).trans (show _ = some (Value.int .u64 0) from rfl)
    clear n0 n1 r0 r1 f0 f1
    exact bodyPost_ret (v := .tuple #[.agg #[.int .u64 0, .int .u64 0], .bool false]) (by simp only [results, Tryd.results30]; simp [go_sem, s0, s1]) rfl (by rw [HP.out]; exact ⟨rfl, (HB.out.setCell (p := ⟨w.heap.size, 0, none⟩) (Nat.le_refl _) _).setCell (p := ⟨w.heap.size, 1, none⟩) (Nat.le_refl _) _⟩)
  | some vs =>
    rw [hq] at hP
    obtain ⟨p, c, g, _, rfl, hp, hg, hc⟩ := hP
    have HRGS := Lib.hid (HRL.out vs hq)
    have HPD2 : Hid (pr = if vs.length = 8 then some vs else none) := Lib.hid (by rw [HPD.out, hq])
    clear hq HPD HRL
    by_cases h8 : vs.length = 8
    · have HP := Lib.hid (HPD2.out.trans (if_pos h8))
      obtain rfl := hp (by omega)
      have HS := Lib.hid hc
      have HRG := HRGS
      have hgne : g ≠ w.heap.size + 2 := by omega
      clear HPD2 hp hc
      rw [h8]
      go_wp2_with fail
      go_loopw [9] (fun i wr => ∃ (j : Nat), j ≤ 8 ∧ i = .int .i64 (j : Nat) ∧ Hid (Row wr w.heap.size #[.int .u64 0, .int .u64 0] 47) ∧ Hid (Row wr (w.heap.size + 2) (cellsV (vs.take j)) 42) ∧ Hid (Below w.heap.size w wr) ∧ Hid (0 < vs.length → ∀ (k x : Nat), vs[k]? = some x → wr.cell? ⟨g, k, none⟩ = some (.int .u16 (x : Int)))) (fun i _ => 8 - (intOf i).toNat)
      case atStart => exact ⟨0, by omega, rfl, HR, Lib.hid (by rw [List.take_zero]; exact HG.out), HB, HS⟩
      case round =>
        clear HR HG HB HS
        obtain ⟨j, hj, rfl, HR, HG, HB, HS⟩ := hrel
        by_cases hlt : j < 8
        · have hlt' : (j : Int) < (8 : Int) := by omega
          have hx : vs[j]? = some vs[j] := List.getElem?_eq_getElem (by omega)
          have hxr : vs[j] ≤ 65535 := HRGS.out _ (List.getElem_mem (by omega))
          have sc := HS.out (by omega) j _ hx
          have g0 := (HG.out.cell j).trans (cellsV_get (vs.take j) j hlt)
          have gf := HG.out.frozen j
          have HSET := Lib.hid (cellsV_take vs j (by omega) hlt)
          generalize vs[j] = x at *
          clear hx
          go_wp2
          refine ⟨⟨j + 1, by omega, by go_num, Lib.hid (HR.out.set_far _ _ (by dsimp only; omega)), Lib.hid ?_, Lib.hid (HB.out.setCell (by dsimp only; omega) _), Lib.hid (fun h k y hy => (World.cell?_setCell_far _ _ _ _ (by dsimp only; omega)).trans (HS.out h k y hy))⟩, by simp [intOf]; omega⟩
          rw [← HSET.out]
          exact HG.out.set j _
        · have hj8 : j = 8 := by omega
          subst hj8
          replace HG := Lib.hid (show Row _ _ (cellsV vs) _ by have := HG.out; rwa [List.take_of_length_le (by omega)] at this)
          have hlt' : ¬ (8 : Int) < 8 := by omega
          clear HS
          have c0 := (HG.out.cell 0).trans (show _ = some (Value.int .u16 (lf vs 0)) from rfl)
          have c1 := (HG.out.cell 1).trans (show _ = some (Value.int .u16 (lf vs 1)) from rfl)
          have c2 := (HG.out.cell 2).trans (show _ = some (Value.int .u16 (lf vs 2)) from rfl)
          have c3 := (HG.out.cell 3).trans (show _ = some (Value.int .u16 (lf vs 3)) from rfl)
          have c4 := (HG.out.cell 4).trans (show _ = some (Value.int .u16 (lf vs 4)) from rfl)
          have c5 := (HG.out.cell 5).trans (show _ = some (Value.int .u16 (lf vs 5)) from rfl)
          have c6 := (HG.out.cell 6).trans (show _ = some (Value.int .u16 (lf vs 6)) from rfl)
          have c7 := (HG.out.cell 7).trans (show _ = some (Value.int .u16 (lf vs 7)) from rfl)
          go_wp2_with fail
          refine (rof_t (lf vs) (lf_range HRG.out) _).mono ?_
          rintro e w9 ⟨rfl, hb9⟩
          have HR9 := Lib.hid (HR.out.later hb9)
          have HB9 := Lib.hid (below_step HB.out hb9)
          clear hb9 c0 c1 c2 c3 c4 c5 c6 c7
          have r0 := (HR9.out.cell 0).trans (show _ = some (Value.int .u64 0) from rfl)
          have r1 := (HR9.out.cell 1).trans (show _ = some (Value.int .u64 0) from rfl)
          have f0 := HR9.out.frozen 0
          have f1 := HR9.out.frozen 1
          go_wp2
          have Q2 := (HR9.out.set 0 (.int .u64 (hi (ofN (lf vs) 8)))).set 1 (.int .u64 (lo (ofN (lf vs) 8)))
          have s0 := (Q2.cell 0).trans (show _ = some (Value.int .u64 (hi (ofN (lf vs) 8))) from rfl)
          have s1 := (Q2.cell 1).trans (show _ = some (Value.int .u64 (lo (ofN (lf vs) 8))) from rfl)
          clear r0 r1 f0 f1
          exact bodyPost_ret (v := .tuple #[.agg #[.int .u64 (hi (ofN (lf vs) 8)), .int .u64 (lo (ofN (lf vs) 8))], .bool true]) (by simp only [results, Tryd.results30]; simp [go_sem, s0, s1]) rfl (by rw [HP.out]; exact ⟨rfl, (HB9.out.setCell (p := ⟨w.heap.size, 0, none⟩) (Nat.le_refl _) _).setCell (p := ⟨w.heap.size, 1, none⟩) (Nat.le_refl _) _⟩)
    · have HP : Hid (pr = none) := Lib.hid (HPD2.out.trans (if_neg h8))
      have h8' : ¬ (vs.length : Int) = 8 := by omega
      have h8b : ((vs.length : Int) != 8) = true := by simpa using h8'
      clear HPD2 HRGS hp hc
      have n0 := (HN.out.cell 0).trans (show _ = some (Value.int .u64 0) from rfl)
      have n1 := (HN.out.cell 1).trans (show _ = some (Value.int .u64 0) from rfl)
      have r0 := (HR.out.cell 0).trans (show _ = some (Value.int .u64 0) from rfl)
      have r1 := (HR.out.cell 1).trans (show _ = some (Value.int .u64 0) from rfl)
      have f0 := HR.out.frozen 0
      have f1 := HR.out.frozen 1
      go_wp2
      have Q2 := (HR.out.set 0 (.int .u64 0)).set 1 (.int .u64 0)
      have s0 := (Q2.cell 0).trans (show _ = some (Value.int .u64 0) from rfl)
      have s1 := (Q2.cell 1).trans (show _ = some (Value.int .u64 0) from rfl)
      clear n0 n1 r0 r1 f0 f1
      exact bodyPost_ret (v := .tuple #[.agg #[.int .u64 0, .int .u64 0], .bool false]) (by simp only [results, Tryd.results30]; simp [go_sem, s0, s1]) rfl (by rw [HP.out]; exact ⟨rfl, (HB.out.setCell (p := ⟨w.heap.size, 0, none⟩) (Nat.le_refl _) _).setCell (p := ⟨w.heap.size, 1, none⟩) (Nat.le_refl _) _⟩)
end Go.Proofs.YtkenkjdelhmaoaaDoor
