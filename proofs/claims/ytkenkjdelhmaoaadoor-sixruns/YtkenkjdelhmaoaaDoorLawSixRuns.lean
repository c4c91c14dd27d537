/- The walk of SixRuns: true for every array of groups. No conditions but what the library's variables hold. -/
import Derived.Test.YtkenkjdelhmaoaaDoorSix14
namespace Go.Proofs.YtkenkjdelhmaoaaDoor
set_option linter.unusedVariables false
set_option linter.unusedSimpArgs false
open Go.RowKit
theorem scan_max (f : Nat → Int) : ∀ k j, j ≤ k → (scan f j).2.2 ≤ (scan f k).2.1 ∧ (1 ≤ (scan f j).2.2 → (scan f j).2.2 = (scan f k).2.1 → (scan f k).1 + (scan f k).2.1 ≤ j)
  | 0, j, h => by
    obtain rfl : j = 0 := by omega
    exact ⟨by simp [scan], fun h => by simp [scan] at h⟩
  | k + 1, j, h => by
    have ih := scan_max f k
    have hi := scan_is f k
    by_cases hj : j ≤ k
    · obtain ⟨h1, h2⟩ := ih j hj
      rw [show scan f (k + 1) = (if f k = 0 then (if (scan f k).2.1 < (scan f k).2.2 + 1 then (k + 1 - ((scan f k).2.2 + 1), (scan f k).2.2 + 1, (scan f k).2.2 + 1) else ((scan f k).1, (scan f k).2.1, (scan f k).2.2 + 1)) else ((scan f k).1, (scan f k).2.1, 0)) from rfl]
      split
      · split
        · exact ⟨by dsimp only; omega, fun _ h => by dsimp only at h; omega⟩
        · exact ⟨h1, h2⟩
      · exact ⟨h1, h2⟩
    · obtain rfl : j = k + 1 := by omega
      rw [show scan f (k + 1) = (if f k = 0 then (if (scan f k).2.1 < (scan f k).2.2 + 1 then (k + 1 - ((scan f k).2.2 + 1), (scan f k).2.2 + 1, (scan f k).2.2 + 1) else ((scan f k).1, (scan f k).2.1, (scan f k).2.2 + 1)) else ((scan f k).1, (scan f k).2.1, 0)) from rfl]
      have ha := hi.a
      have hl := hi.l
      split
      · split
        · exact ⟨by dsimp only; omega, fun _ _ => by dsimp only; omega⟩
        · exact ⟨by dsimp only; omega, fun _ _ => by dsimp only; omega⟩
      · exact ⟨by dsimp only; omega, fun h => by dsimp only at h; omega⟩
theorem scan_one {f : Nat → Int} {k : Nat} (h : f k = 0) : (scan f (k + 1)).2.2 = (scan f k).2.2 + 1 := by
  rw [scan, if_pos h]
  split <;> rfl
theorem scan_off {f : Nat → Int} {k : Nat} (h : ¬ f k = 0) : (scan f (k + 1)).2.2 = 0 := by rw [scan, if_neg h]
theorem run_none {f : Nat → Int} (h : (runS f).2 = 0) (k : Nat) (hk : k < 7) : ¬ (f (k + 1) = 0 ∧ f k = 0) := by
  rintro ⟨h1, h2⟩
  have h3 := scan_one h1
  have h4 := scan_one h2
  have h5 := (scan_max f 8 (k + 1 + 1) (by omega)).1
  unfold runS at h
  split at h
  · omega
  · dsimp only at h; omega
theorem run_long {f : Nat → Int} (h : 2 ≤ (runS f).2) (j : Nat) (hj : j ≤ 8) : (scan f j).2.2 ≤ (runS f).2 ∧ (1 ≤ (scan f j).2.2 → (scan f j).2.2 = (runS f).2 → (runS f).1 + (runS f).2 ≤ j) := by
  have h5 := scan_max f 8 j hj
  unfold runS at h ⊢
  split at h
  · dsimp only at h; omega
  · rename_i hn
    rw [if_neg hn]
    exact h5
set_option maxRecDepth 100000 in
set_option maxHeartbeats 3200000 in
theorem sixRuns_any (f : Nat → Int) (hf : ∀ k, 0 ≤ f k ∧ f k ≤ 65535) (w : World) (hE : Env6 w) : Calls Tryd.prog 9 #[arr8 f] w fun e w' => e = .returned (.bool true) ∧ Below w.heap.size w w' := by
  unfold arr8
  go_enter Tryd.func9, Tryd.ntmps9
  go_wp2_with fail
  have Rg := Row.new w (cellsF f) 42
  have hb0 : Below w.heap.size w (w.alloc (.cells (cellsF f) 42)) := (Below.refl _ _).alloc (Nat.le_refl _) _
  unfold cellsF at Rg hb0
  generalize w.alloc (.cells #[.int .u16 (f 0), .int .u16 (f 1), .int .u16 (f 2), .int .u16 (f 3), .int .u16 (f 4), .int .u16 (f 5), .int .u16 (f 6), .int .u16 (f 7)] 42) = w0 at *
  refine (run_t f hf w0).mono ?_
  rintro e w1 ⟨rfl, hb1⟩
  have R1 : Row w1 w.heap.size (cellsF f) 42 := Rg.later hb1
  have HR := Lib.hid R1
  have HB := Lib.hid (below_step hb0 hb1)
  clear Rg hb0 hb1 R1
  obtain ⟨hr1, hr2, hr3⟩ := runS_is f
  have HN : Hid ((runS f).2 = 0 → ∀ k, k < 7 → ¬ (f (k + 1) = 0 ∧ f k = 0)) := Lib.hid (fun h => run_none h)
  have HL : Hid (2 ≤ (runS f).2 → ∀ j, j ≤ 8 → (scan f j).2.2 ≤ (runS f).2 ∧ (1 ≤ (scan f j).2.2 → (scan f j).2.2 = (runS f).2 → (runS f).1 + (runS f).2 ≤ j)) := Lib.hid (fun h => run_long h)
  have HZ := Lib.hid hr2
  clear hr2
  generalize runS f = r at *
  obtain ⟨at_, n⟩ := r
  dsimp only at *
  have HF := Lib.hid hf
  clear hf
  rcases hr3 with ⟨rfl, rfl⟩ | hn2
  · clear HL HZ hr1
    go_wp2_with fail
    go_loopw [5] (fun i wr => ∃ (k : Nat), k ≤ 7 ∧ i = .int .i64 ((k : Int) + 1) ∧ wr = w1) (fun i _ => 8 - (intOf i).toNat)
    case atStart => exact ⟨0, by omega, rfl, rfl⟩
    case round =>
      obtain ⟨k, hk, rfl, rfl⟩ := hrel
      by_cases hlt : k < 7
      · have hno := HN.out (by trivial) k hlt
        have c0 := (HR.out.cell k).trans (cellsF_get f k (by omega))
        have c1 := (HR.out.cell (k + 1)).trans (cellsF_get f (k + 1) (by omega))
        have f0 := HF.out k
        have f1 := HF.out (k + 1)
        have q1 : (k : Int) + 1 < 8 := by omega
        have q2 : ((k : Int) + 1).toNat = k + 1 := by omega
        generalize f k = y0 at *
        generalize f (k + 1) = y1 at *
        by_cases h1 : y1 = 0
        · have h0 : ¬ y0 = 0 := fun e => hno ⟨h1, e⟩
          have h0b : (y0 == 0) = false := by rw [beq_eq_false_iff_ne]; exact h0
          subst h1
          clear hno
          go_wp2
          exact ⟨⟨k + 1, by omega, by go_num, trivial⟩, by simp [intOf]; omega⟩
        · have h1b : (y1 == 0) = false := by rw [beq_eq_false_iff_ne]; exact h1
          clear hno
          go_wp2
          exact ⟨⟨k + 1, by omega, by go_num, trivial⟩, by simp [intOf]; omega⟩
      · have hk7 : k = 7 := by omega
        subst hk7
        go_wp2_with fail
        refine (alive4_t wr (hE.later HB.out)).mono ?_
        rintro e w2 ⟨rfl, hb2⟩
        have HB2 := Lib.hid (below_step HB.out hb2)
        clear hb2
        go_wp2
        go_ret
        exact ⟨rfl, HB2.out⟩
  · have HL2 := Lib.hid (HL.out hn2)
    clear HN HL
    have n0 : ¬ (n : Int) = 0 := by omega
    have n0b : ((n : Int) == 0) = false := by rw [beq_eq_false_iff_ne]; exact n0
    have n2 : (2 : Int) ≤ n := by omega
    go_wp2_with fail
    go_loopw [6, 7] (fun l i wr => ∃ (j : Nat), j ≤ 8 ∧ i = .int .i64 (j : Nat) ∧ l = .int .i64 ((scan f j).2.2 : Nat) ∧ wr = w1) (fun _ i _ => 8 - (intOf i).toNat)
    case atStart => exact ⟨0, by omega, rfl, rfl, rfl⟩
    case round =>
      obtain ⟨j, hj, rfl, rfl, rfl⟩ := hrel
      by_cases hlt : j < 8
      · have c0 := (HR.out.cell j).trans (cellsF_get f j hlt)
        have f0 := HF.out j
        have hlt' : (j : Int) < 8 := by omega
        have hle := (scan_is f j).l
        by_cases h0 : f j = 0
        · obtain ⟨m1, m2⟩ := HL2.out (j + 1) (by omega)
          rw [scan_one h0] at m1 m2
          have HS := Lib.hid (scan_one h0)
          rw [h0] at c0
          clear f0 h0
          generalize (scan f j).2.2 = l at *
          have k1 : ¬ (n : Int) < (l : Int) + 1 := by omega
          by_cases hq : l + 1 = n
          · have m3 := m2 (by omega) hq
            have k2 : (l : Int) + 1 = n := by omega
            have k3 : ¬ (j : Int) < (at_ : Int) + (n : Int) - 1 := by omega
            have k2b : ((l : Int) + 1 == (n : Int)) = true := by rw [beq_iff_eq]; exact k2
            clear m1 m2 m3
            go_wp2
            exact ⟨⟨j + 1, by omega, by go_num, by rw [HS.out]; go_num, trivial⟩, by simp [intOf]; omega⟩
          · have k2 : ¬ (l : Int) + 1 = n := by omega
            have k2b : ((l : Int) + 1 == (n : Int)) = false := by rw [beq_eq_false_iff_ne]; exact k2
            clear m1 m2
            go_wp2
            exact ⟨⟨j + 1, by omega, by go_num, by rw [HS.out]; go_num, trivial⟩, by simp [intOf]; omega⟩
        · have HS := Lib.hid (scan_off h0)
          have h0b : (f j == 0) = false := by rw [beq_eq_false_iff_ne]; exact h0
          have h0n : (f j != 0) = true := by simpa using h0
          go_wp2
          exact ⟨⟨j + 1, by omega, by go_num, by rw [HS.out]; go_num, trivial⟩, by simp [intOf]; omega⟩
      · have hj8 : j = 8 := by omega
        subst hj8
        generalize (scan f 8).2.2 = l at *
        have k4 : ¬ (at_ : Int) < 0 := by omega
        have k5 : ¬ (n : Int) < 2 := by omega
        have k6 : ¬ 8 - (n : Int) < (at_ : Int) := by omega
        go_wp2_with fail
        go_loopw [8] (fun i wq => ∃ (k : Nat), at_ ≤ k ∧ k ≤ at_ + n ∧ i = .int .i64 (k : Nat) ∧ wq = wr) (fun i _ => 8 - (intOf i).toNat)
        case atStart => exact ⟨at_, by omega, by omega, rfl, rfl⟩
        case round =>
          obtain ⟨k, hk1, hk2, rfl, rfl⟩ := hrel
          by_cases hlt : k < at_ + n
          · have c0 := (HR.out.cell k).trans (cellsF_get f k (by omega))
            rw [HZ.out k hk1 hlt] at c0
            have hlt' : (k : Int) < (at_ : Int) + (n : Int) := by omega
            go_wp2
            exact ⟨⟨k + 1, by omega, by omega, by go_num, trivial⟩, by simp [intOf]; omega⟩
          · have hkk : (k : Int) = (at_ : Int) + (n : Int) := by omega
            have hlt' : ¬ (k : Int) < (at_ : Int) + (n : Int) := by omega
            go_wp2_with fail
            refine (alive4_t _ (hE.later HB.out)).mono ?_
            rintro e w2 ⟨rfl, hb2⟩
            have HB2 := Lib.hid (below_step HB.out hb2)
            clear hb2
            go_wp2
            go_ret
            exact ⟨rfl, HB2.out⟩
end Go.Proofs.YtkenkjdelhmaoaaDoor
