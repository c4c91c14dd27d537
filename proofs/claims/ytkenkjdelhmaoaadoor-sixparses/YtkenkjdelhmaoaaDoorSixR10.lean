/- The walk of the reference's Parse of layer 4, a text with a gap. No conditions beyond the text's length. -/
import Derived.Test.YtkenkjdelhmaoaaDoorSixR8
namespace Go.Proofs.YtkenkjdelhmaoaaDoor
set_option linter.unusedVariables false
set_option linter.unusedSimpArgs false
open Go.RowKit
set_option maxRecDepth 100000 in
set_option maxHeartbeats 4000000 in
theorem rparse6_at (l : List UInt8) (hl : l.length ≤ 300) (kx : Nat) (hix : Lib.index l [58, 58] = (kx : Int)) (hk : kx + 2 ≤ l.length) (hcc : cc l = (l.take kx, l.drop (kx + 2), true)) (w : World) : Calls Tryd.prog 30 #[.string ⟨l.toArray⟩] w (RParPost (parse6 l) w) := by
  have hsz := bs_size l
  have hpd : parse6 l = match readV false (l.take kx), readV true (l.drop (kx + 2)) with
      | some u, some v => if u.length + v.length ≤ 7 then some (u ++ List.replicate (8 - u.length - v.length) 0 ++ v) else none
      | _, _ => none := by
    unfold parse6
    rw [hcc]
    dsimp only
    rw [show (!true) = false from rfl]
    cases readV false (l.take kx) with
    | none => cases readV true (l.drop (kx + 2)) <;> rfl
    | some u =>
      cases readV true (l.drop (kx + 2)) with
      | none => rfl
      | some v =>
        dsimp only
        by_cases h7 : u.length + v.length ≤ 7
        · rw [if_pos (by simp [fits, h7]), if_pos h7]
        · rw [if_neg (by simp [fits, h7]), if_neg h7]
  have hrd1 := fun wq => read_use false (l.take kx) (by rw [List.length_take]; omega) wq
  have hrd2 := fun wq => read_use true (l.drop (kx + 2)) (by rw [List.length_drop]; omega) wq
  have hx1 : (⟨l.toArray⟩ : ByteArray).extract 0 kx = ⟨(l.take kx).toArray⟩ := by rw [ext_l]; rfl
  have hx2 : (⟨l.toArray⟩ : ByteArray).extract (kx + 2) l.length = ⟨(l.drop (kx + 2)).toArray⟩ := by rw [ext_l, List.take_length]
  rw [← hx1] at hrd1
  rw [← hx2] at hrd2
  have hrl1 := fun vs (h : readV false (l.take kx) = some vs) => readV_lt h
  have hrl2 := fun vs (h : readV true (l.drop (kx + 2)) = some vs) => readV_lt h
  have HPD := Lib.hid hpd
  have HRL1 := Lib.hid hrl1
  have HRL2 := Lib.hid hrl2
  clear hpd hcc hx1 hx2 hrl1 hrl2
  generalize parse6 l = pr at *
  have q1 : ((kx : Int) + 2).toNat = kx + 2 := by omega
  have q2 : (kx : Int) + 2 ≤ (l.length : Int) := by omega
  have q3 : (kx : Int) ≤ (l.length : Int) := by omega
  go_enter Tryd.func30, Tryd.ntmps30
  go_wp2_with fail
  have R0 : Row (((w.alloc (.cells #[.int .u64 0, .int .u64 0] 47)).alloc (.cells #[.int .u64 0, .int .u64 0] 47)).alloc (.cells #[.int .u16 0, .int .u16 0, .int .u16 0, .int .u16 0, .int .u16 0, .int .u16 0, .int .u16 0, .int .u16 0] 42)) w.heap.size #[.int .u64 0, .int .u64 0] 47 := ((Row.new w _ _).alloc _).alloc _
  have N0 : Row (((w.alloc (.cells #[.int .u64 0, .int .u64 0] 47)).alloc (.cells #[.int .u64 0, .int .u64 0] 47)).alloc (.cells #[.int .u16 0, .int .u16 0, .int .u16 0, .int .u16 0, .int .u16 0, .int .u16 0, .int .u16 0, .int .u16 0] 42)) (w.heap.size + 1) #[.int .u64 0, .int .u64 0] 47 := by simpa using (Row.new (w.alloc (.cells #[.int .u64 0, .int .u64 0] 47)) #[.int .u64 0, .int .u64 0] 47).alloc (.cells #[.int .u16 0, .int .u16 0, .int .u16 0, .int .u16 0, .int .u16 0, .int .u16 0, .int .u16 0, .int .u16 0] 42)
  have G0 : Row (((w.alloc (.cells #[.int .u64 0, .int .u64 0] 47)).alloc (.cells #[.int .u64 0, .int .u64 0] 47)).alloc (.cells #[.int .u16 0, .int .u16 0, .int .u16 0, .int .u16 0, .int .u16 0, .int .u16 0, .int .u16 0, .int .u16 0] 42)) (w.heap.size + 2) (cellsV []) 42 := by
    have h := Row.new ((w.alloc (.cells #[.int .u64 0, .int .u64 0] 47)).alloc (.cells #[.int .u64 0, .int .u64 0] 47)) #[.int .u16 0, .int .u16 0, .int .u16 0, .int .u16 0, .int .u16 0, .int .u16 0, .int .u16 0, .int .u16 0] 42
    rw [show ((w.alloc (.cells #[.int .u64 0, .int .u64 0] 47)).alloc (.cells #[.int .u64 0, .int .u64 0] 47)).heap.size = w.heap.size + 2 by simp] at h
    exact h
  have hb0 : Below w.heap.size w (((w.alloc (.cells #[.int .u64 0, .int .u64 0] 47)).alloc (.cells #[.int .u64 0, .int .u64 0] 47)).alloc (.cells #[.int .u16 0, .int .u16 0, .int .u16 0, .int .u16 0, .int .u16 0, .int .u16 0, .int .u16 0, .int .u16 0] 42)) := (by repeat (first | exact Below.refl _ _ | assumption | (with_reducible refine Below.setCell ?_ ?h _; case h => first | omega | (simp; done) | (simp; omega)) | (with_reducible refine Below.alloc ?_ ?h _; case h => first | omega | (simp; done) | (simp; omega)) | (with_reducible refine Below.drew ?_) | (with_reducible refine Below.trans ?_ (hb4.mono ?h); case h => first | omega | (simp; done) | (simp; omega)) | (with_reducible refine Below.trans ?_ (hb3.mono ?h); case h => first | omega | (simp; done) | (simp; omega)) | (with_reducible refine Below.trans ?_ (hb2.mono ?h); case h => first | omega | (simp; done) | (simp; omega)) | (with_reducible refine Below.trans ?_ (hb.mono ?h); case h => first | omega | (simp; done) | (simp; omega)) | (with_reducible refine Below.trans ?_ (hb0.mono ?h); case h => first | omega | (simp; done) | (simp; omega))))
  have hz0 : (((w.alloc (.cells #[.int .u64 0, .int .u64 0] 47)).alloc (.cells #[.int .u64 0, .int .u64 0] 47)).alloc (.cells #[.int .u16 0, .int .u16 0, .int .u16 0, .int .u16 0, .int .u16 0, .int .u16 0, .int .u16 0, .int .u16 0] 42)).heap.size = w.heap.size + 3 := by simp
  generalize ((w.alloc (.cells #[.int .u64 0, .int .u64 0] 47)).alloc (.cells #[.int .u64 0, .int .u64 0] 47)).alloc (.cells #[.int .u16 0, .int .u16 0, .int .u16 0, .int .u16 0, .int .u16 0, .int .u16 0, .int .u16 0, .int .u16 0] 42) = w0 at *
  refine (rcut_t l hl w0).mono ?_
  rintro e w1 ⟨rfl, rfl⟩
  rw [hix]
  have HR0 := Lib.hid R0
  have HN0 := Lib.hid N0
  have HG0 := Lib.hid G0
  have HB0 := Lib.hid hb0
  have HRD1 := Lib.hid hrd1
  have HRD2 := Lib.hid hrd2
  clear R0 N0 G0 hb0 hrd1 hrd2 hix
  go_wp2_with fail
  refine (HRD1.out _).mono ?_
  rintro e w2 ⟨hP1, hb2⟩
  have HR1 := Lib.hid (HR0.out.later hb2)
  have HN1 := Lib.hid (HN0.out.later hb2)
  have HG1 := Lib.hid (HG0.out.later hb2)
  have HB1 := Lib.hid (below_step HB0.out hb2)
  have hz2 : w.heap.size + 3 ≤ w2.heap.size := by have := hb2.size; omega
  clear HR0 HN0 HG0 HB0 HRD1 hb2
  cases hq1 : readV false (l.take kx) with
  | none =>
    rw [hq1] at hP1
    subst hP1
    have HP : Hid (pr = none) := Lib.hid (by rw [HPD.out, hq1])
    clear hq1 HPD HRL1 HRL2
    go_wp2_with fail
    refine (HRD2.out _).mono ?_
    rintro e w3 ⟨hP2, hb3⟩
    have HR := Lib.hid (HR1.out.later hb3)
    have HN := Lib.hid (HN1.out.later hb3)
    have HB := Lib.hid (below_step HB1.out hb3)
    clear HR1 HN1 HG1 HB1 HRD2 hb3
    cases hq2 : readV true (l.drop (kx + 2)) with
    | none =>
      rw [hq2] at hP2
      subst hP2
      clear hq2
      have n0 := (HN.out.cell 0).trans (show _ = some (Value.int .u64 0) from rfl)
      have n1 := (HN.out.cell 1).trans (show _ = some (Value.int .u64 0) from rfl)
      have r0 := (HR.out.cell 0).trans (show _ = some (Value.int .u64 0) from rfl)
      have r1 := (HR.out.cell 1).trans (show _ = some (Value.int .u64 0) from rfl)
      have f0 := HR.out.frozen 0
      have f1 := HR.out.frozen 1
      go_wp2
      have Q2 := (HR.out.set 0 (.int .u64 0)).set 1 (.int .u64 0)
      have s0 := (Q2.cell 0).trans (show _ = some (Value.int .u64 0) from rfl)
      have s1 := (Q2.cell 1).trans (show _ = some (Value.int .u64 0) from rfl)
      clear n0 n1 r0 r1 f0 f1
      exact bodyPost_ret (v := .tuple #[.agg #[.int .u64 0, .int .u64 0], .bool false]) (by simp only [results, Tryd.results30]; simp [go_sem, s0, s1]) rfl (by rw [HP.out]; exact ⟨rfl, (HB.out.setCell (p := ⟨w.heap.size, 0, none⟩) (Nat.le_refl _) _).setCell (p := ⟨w.heap.size, 1, none⟩) (Nat.le_refl _) _⟩)
    | some v =>
      rw [hq2] at hP2
      obtain ⟨p2, c2, g2, _, rfl, _, _, _⟩ := hP2
      clear hq2
      have n0 := (HN.out.cell 0).trans (show _ = some (Value.int .u64 0) from rfl)
      have n1 := (HN.out.cell 1).trans (show _ = some (Value.int .u64 0) from rfl)
      have r0 := (HR.out.cell 0).trans (show _ = some (Value.int .u64 0) from rfl)
      have r1 := (HR.out.cell 1).trans (show _ = some (Value.int .u64 0) from rfl)
      have f0 := HR.out.frozen 0
      have f1 := HR.out.frozen 1
      go_wp2
      have Q2 := (HR.out.set 0 (.int .u64 0)).set 1 (.int .u64 0)
      have s0 := (Q2.cell 0).trans (show _ = some (Value.int .u64 0) from rfl)
      have s1 := (Q2.cell 1).trans (show _ = some (Value.int .u64 0) from rfl)
      clear n0 n1 r0 r1 f0 f1
      exact bodyPost_ret (v := .tuple #[.agg #[.int .u64 0, .int .u64 0], .bool false]) (by simp only [results, Tryd.results30]; simp [go_sem, s0, s1]) rfl (by rw [HP.out]; exact ⟨rfl, (HB.out.setCell (p := ⟨w.heap.size, 0, none⟩) (Nat.le_refl _) _).setCell (p := ⟨w.heap.size, 1, none⟩) (Nat.le_refl _) _⟩)
  | some u =>
    rw [hq1] at hP1
    obtain ⟨p1, c1, g1, hul, rfl, hp1, hg1, hc1⟩ := hP1
    have hul2 : u.length ≤ 302 := hul
    clear hul
    have HRGS1 := Lib.hid (HRL1.out u hq1)
    have HPD1 := Lib.hid (HPD.out.trans (by rw [hq1]))
    clear HPD HRL1
    have HC1 := Lib.hid hc1
    have HP1 := Lib.hid hp1
    clear hc1 hp1
    go_wp2_with fail
    refine (HRD2.out _).mono ?_
    rintro e w3 ⟨hP2, hb3⟩
    have HR := Lib.hid (HR1.out.later hb3)
    have HN := Lib.hid (HN1.out.later hb3)
    have HG := Lib.hid (HG1.out.later hb3)
    have HB := Lib.hid (below_step HB1.out hb3)
    have HS : Hid (0 < u.length → ∀ (k x : Nat), u[k]? = some x → w3.cell? ⟨g1, k, none⟩ = some (.int .u16 (x : Int))) := Lib.hid (fun h k x hx => cell_later hb3 (HC1.out h k x hx))
    clear HR1 HN1 HG1 HB1 HRD2 hb3 HC1
    cases hq2 : readV true (l.drop (kx + 2)) with
    | none =>
      rw [hq2] at hP2
      subst hP2
      have HP : Hid (pr = none) := Lib.hid (HPD1.out.trans (by rw [hq2]))
      clear hq2 hq1 HPD1 HRL2
      have n0 := (HN.out.cell 0).trans (show _ = some (Value.int .u64 0) from rfl)
      have n1 := (HN.out.cell 1).trans (show _ = some (Value.int .u64 0) from rfl)
      have r0 := (HR.out.cell 0).trans (show _ = some (Value.int .u64 0) from rfl)
      have r1 := (HR.out.cell 1).trans (show _ = some (Value.int .u64 0) from rfl)
      have f0 := HR.out.frozen 0
      have f1 := HR.out.frozen 1
      go_wp2
      have Q2 := (HR.out.set 0 (.int .u64 0)).set 1 (.int .u64 0)
      have s0 := (Q2.cell 0).trans (show _ = some (Value.int .u64 0) from rfl)
      have s1 := (Q2.cell 1).trans (show _ = some (Value.int .u64 0) from rfl)
      clear n0 n1 r0 r1 f0 f1
      exact bodyPost_ret (v := .tuple #[.agg #[.int .u64 0, .int .u64 0], .bool false]) (by simp only [results, Tryd.results30]; simp [go_sem, s0, s1]) rfl (by rw [HP.out]; exact ⟨rfl, (HB.out.setCell (p := ⟨w.heap.size, 0, none⟩) (Nat.le_refl _) _).setCell (p := ⟨w.heap.size, 1, none⟩) (Nat.le_refl _) _⟩)
    | some v =>
      rw [hq2] at hP2
      obtain ⟨p2, c2, g2, hvl, rfl, hp2, hg2, hc2⟩ := hP2
      have hvl2 : v.length ≤ 302 := hvl
      clear hvl
      have HRGS2 := Lib.hid (HRL2.out v hq2)
      have HPD2 : Hid (pr = if u.length + v.length ≤ 7 then some (u ++ List.replicate (8 - u.length - v.length) 0 ++ v) else none) := Lib.hid (HPD1.out.trans (by rw [hq2]))
      have HS2 := Lib.hid hc2
      have HP2 := Lib.hid hp2
      clear hq2 hq1 HPD1 HRL2 hc2 hp2
      by_cases h7 : u.length + v.length ≤ 7
      · have HP := Lib.hid (HPD2.out.trans (if_pos h7))
        have h7' : ¬ (7 : Int) < (u.length : Int) + (v.length : Int) := by omega
        have hgn1 : g1 ≠ w.heap.size + 2 := by omega
        have hgn2 : g2 ≠ w.heap.size + 2 := by omega
        have HRG : Hid (∀ x ∈ (u ++ List.replicate (8 - u.length - v.length) 0 ++ v), x ≤ 65535) := Lib.hid (fun x hx => by
          simp only [List.mem_append, List.mem_replicate] at hx
          rcases hx with (hx | hx) | hx
          · exact HRGS1.out x hx
          · omega
          · exact HRGS2.out x hx)
        clear HPD2
        go_wp2_with fail
        go_loopw [14] (fun i wr => ∃ (j : Nat), j ≤ u.length ∧ i = .int .i64 (j : Nat) ∧ Hid (Row wr w.heap.size #[.int .u64 0, .int .u64 0] 47) ∧ Hid (Row wr (w.heap.size + 2) (cellsV (u.take j)) 42) ∧ Hid (Below w.heap.size w wr) ∧ Hid (0 < u.length → ∀ (k x : Nat), u[k]? = some x → wr.cell? ⟨g1, k, none⟩ = some (.int .u16 (x : Int))) ∧ Hid (0 < v.length → ∀ (k x : Nat), v[k]? = some x → wr.cell? ⟨g2, k, none⟩ = some (.int .u16 (x : Int)))) (fun i _ => u.length - (intOf i).toNat)
        case atStart => exact ⟨0, by omega, rfl, HR, Lib.hid (by rw [List.take_zero]; exact HG.out), HB, HS, HS2⟩
        case round =>
          clear HR HG HB HS HS2 HN
          obtain ⟨j, hj, rfl, HR, HG, HB, HS, HS2⟩ := hrel
          by_cases hlt : j < u.length
          · have hlt' : (j : Int) < (u.length : Int) := by omega
            have hx : u[j]? = some u[j] := List.getElem?_eq_getElem hlt
            have sc := HS.out (by omega) j _ hx
            obtain rfl := HP1.out (by omega)
            have g0 := (HG.out.cell j).trans (cellsV_get (u.take j) j (by omega))
            have gf := HG.out.frozen j
            have j8 : (j : Int) < 8 := by omega
            have HSET := Lib.hid (cellsV_take u j hlt (by omega))
            generalize u[j] = x at *
            clear hx
            go_wp2
            refine ⟨⟨j + 1, by omega, by go_num, Lib.hid (HR.out.set_far _ _ (by dsimp only; omega)), Lib.hid ?_, Lib.hid (HB.out.setCell (by dsimp only; omega) _), Lib.hid (fun h k y hy => (World.cell?_setCell_far _ _ _ _ (by dsimp only; omega)).trans (HS.out h k y hy)), Lib.hid (fun h k y hy => (World.cell?_setCell_far _ _ _ _ (by dsimp only; omega)).trans (HS2.out h k y hy))⟩, by simp [intOf]; omega⟩
            rw [← HSET.out]
            exact HG.out.set j _
          · have hju : j = u.length := by omega
            have hlt' : ¬ (j : Int) < (u.length : Int) := by omega
            have HG2 : Hid (Row wr (w.heap.size + 2) (cellsV (u ++ List.replicate (8 - u.length - v.length) 0 ++ v.take 0)) 42) := Lib.hid (by have := HG.out; rw [hju, List.take_length] at this; rw [List.take_zero, cellsV_pad]; exact this)
            clear HG HS hju
            go_wp2_with fail
            go_loopw [15] (fun i wr => ∃ (j : Nat), j ≤ v.length ∧ i = .int .i64 (j : Nat) ∧ Hid (Row wr w.heap.size #[.int .u64 0, .int .u64 0] 47) ∧ Hid (Row wr (w.heap.size + 2) (cellsV (u ++ List.replicate (8 - u.length - v.length) 0 ++ v.take j)) 42) ∧ Hid (Below w.heap.size w wr) ∧ Hid (0 < v.length → ∀ (k x : Nat), v[k]? = some x → wr.cell? ⟨g2, k, none⟩ = some (.int .u16 (x : Int)))) (fun i _ => v.length - (intOf i).toNat)
            case atStart => exact ⟨0, by omega, rfl, HR, HG2, HB, HS2⟩
            case round =>
              clear HR HG2 HB HS2
              obtain ⟨j, hj, rfl, HR, HG, HB, HS⟩ := hrel
              by_cases hlt2 : j < v.length
              · have hlt2' : (j : Int) < (v.length : Int) := by omega
                have hx : v[j]? = some v[j] := List.getElem?_eq_getElem hlt2
                have sc := HS.out (by omega) j _ hx
                obtain rfl := HP2.out (by omega)
                have g0 := (HG.out.cell (8 - v.length + j)).trans (cellsV_get _ (8 - v.length + j) (by omega))
                have gf := HG.out.frozen (8 - v.length + j)
                have t1 : (8 - (v.length : Int) + (j : Int)).toNat = 8 - v.length + j := by omega
                have t2 : 0 ≤ 8 - (v.length : Int) + (j : Int) := by omega
                have t3 : 8 - (v.length : Int) + (j : Int) < 8 := by omega
                have HSET := Lib.hid (cellsV_more u v j h7 hlt2)
                generalize v[j] = x at *
                generalize lf (u ++ List.replicate (8 - u.length - v.length) 0 ++ v.take j) (8 - v.length + j) = yy at *
                clear hx
                go_wp2
                refine ⟨⟨j + 1, by omega, by go_num, Lib.hid (HR.out.set_far _ _ (by dsimp only; omega)), Lib.hid ?_, Lib.hid (HB.out.setCell (by dsimp only; omega) _), Lib.hid (fun h k y hy => (World.cell?_setCell_far _ _ _ _ (by dsimp only; omega)).trans (HS.out h k y hy))⟩, by simp [intOf]; omega⟩
                rw [← HSET.out]
                exact HG.out.set (8 - v.length + j) _
              · have hjv : j = v.length := by omega
                have hlt2' : ¬ (j : Int) < (v.length : Int) := by omega
                replace HG := Lib.hid (show Row _ _ (cellsV (u ++ List.replicate (8 - u.length - v.length) 0 ++ v)) _ by have := HG.out; rwa [hjv, List.take_length] at this)
                clear HS hjv
                generalize (u ++ List.replicate (8 - u.length - v.length) 0 ++ v) = gs at *
                have c0 := (HG.out.cell 0).trans (show _ = some (Value.int .u16 (lf gs 0)) from rfl)
                have c1 := (HG.out.cell 1).trans (show _ = some (Value.int .u16 (lf gs 1)) from rfl)
                have c2 := (HG.out.cell 2).trans (show _ = some (Value.int .u16 (lf gs 2)) from rfl)
                have c3 := (HG.out.cell 3).trans (show _ = some (Value.int .u16 (lf gs 3)) from rfl)
                have c4 := (HG.out.cell 4).trans (show _ = some (Value.int .u16 (lf gs 4)) from rfl)
                have c5 := (HG.out.cell 5).trans (show _ = some (Value.int .u16 (lf gs 5)) from rfl)
                have c6 := (HG.out.cell 6).trans (show _ = some (Value.int .u16 (lf gs 6)) from rfl)
                have c7 := (HG.out.cell 7).trans (show _ = some (Value.int .u16 (lf gs 7)) from rfl)
                go_wp2_with fail
                refine (rof_t (lf gs) (lf_range HRG.out) _).mono ?_
                rintro e w9 ⟨rfl, hb9⟩
                have HR9 := Lib.hid (HR.out.later hb9)
                have HB9 := Lib.hid (below_step HB.out hb9)
                clear hb9 c0 c1 c2 c3 c4 c5 c6 c7
                have r0 := (HR9.out.cell 0).trans (show _ = some (Value.int .u64 0) from rfl)
                have r1 := (HR9.out.cell 1).trans (show _ = some (Value.int .u64 0) from rfl)
                have f0 := HR9.out.frozen 0
                have f1 := HR9.out.frozen 1
                go_wp2
                have Q2 := (HR9.out.set 0 (.int .u64 (hi (ofN (lf gs) 8)))).set 1 (.int .u64 (lo (ofN (lf gs) 8)))
                have s0 := (Q2.cell 0).trans (show _ = some (Value.int .u64 (hi (ofN (lf gs) 8))) from rfl)
                have s1 := (Q2.cell 1).trans (show _ = some (Value.int .u64 (lo (ofN (lf gs) 8))) from rfl)
                clear r0 r1 f0 f1
                exact bodyPost_ret (v := .tuple #[.agg #[.int .u64 (hi (ofN (lf gs) 8)), .int .u64 (lo (ofN (lf gs) 8))], .bool true]) (by simp only [results, Tryd.results30]; simp [go_sem, s0, s1]) rfl (by rw [HP.out]; exact ⟨rfl, (HB9.out.setCell (p := ⟨w.heap.size, 0, none⟩) (Nat.le_refl _) _).setCell (p := ⟨w.heap.size, 1, none⟩) (Nat.le_refl _) _⟩)
      · have HP : Hid (pr = none) := Lib.hid (HPD2.out.trans (if_neg h7))
        have h7' : (7 : Int) < (u.length : Int) + (v.length : Int) := by omega
        clear HPD2 HRGS1 HRGS2 HS HS2 HG
        have n0 := (HN.out.cell 0).trans (show _ = some (Value.int .u64 0) from rfl)
        have n1 := (HN.out.cell 1).trans (show _ = some (Value.int .u64 0) from rfl)
        have r0 := (HR.out.cell 0).trans (show _ = some (Value.int .u64 0) from rfl)
        have r1 := (HR.out.cell 1).trans (show _ = some (Value.int .u64 0) from rfl)
        have f0 := HR.out.frozen 0
        have f1 := HR.out.frozen 1
        go_wp2
        have Q2 := (HR.out.set 0 (.int .u64 0)).set 1 (.int .u64 0)
        have s0 := (Q2.cell 0).trans (show _ = some (Value.int .u64 0) from rfl)
        have s1 := (Q2.cell 1).trans (show _ = some (Value.int .u64 0) from rfl)
        clear n0 n1 r0 r1 f0 f1
        exact bodyPost_ret (v := .tuple #[.agg #[.int .u64 0, .int .u64 0], .bool false]) (by simp only [results, Tryd.results30]; simp [go_sem, s0, s1]) rfl (by rw [HP.out]; exact ⟨rfl, (HB.out.setCell (p := ⟨w.heap.size, 0, none⟩) (Nat.le_refl _) _).setCell (p := ⟨w.heap.size, 1, none⟩) (Nat.le_refl _) _⟩)
theorem rparse6_t (l : List UInt8) (hl : l.length ≤ 300) (w : World) (hno : ∀ (hix : Lib.index l [58, 58] = -1) (hcc : cc l = (l, [], false)), Calls Tryd.prog 30 #[.string ⟨l.toArray⟩] w (RParPost (parse6 l) w)) : Calls Tryd.prog 30 #[.string ⟨l.toArray⟩] w (RParPost (parse6 l) w) := by
  rcases cc_index l with ⟨h1, h2⟩ | ⟨k, h1, h2, h3⟩
  · exact hno h1 h2
  · exact rparse6_at l hl k h1 h2 h3 w
end Go.Proofs.YtkenkjdelhmaoaaDoor
