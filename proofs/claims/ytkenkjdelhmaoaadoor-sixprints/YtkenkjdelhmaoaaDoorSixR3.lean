/- The reference's Print of layer 4. No conditions. -/
import Derived.Test.YtkenkjdelhmaoaaDoorSixR2
namespace Go.Proofs.YtkenkjdelhmaoaaDoor
set_option linter.unusedVariables false
set_option linter.unusedSimpArgs false
open Go.RowKit
/-- one round of the reference's Print -/
def pstep (f : Nat → Int) (a n i : Nat) (out : List UInt8) : List UInt8 :=
  if 0 < n ∧ a ≤ i ∧ i < a + n then (if i = a then out ++ [58, 58] else out)
  else (if 0 < i ∧ ¬ (0 < n ∧ i = a + n) then out ++ [58] else out) ++ hexD (f i).toNat
def prR (f : Nat → Int) (a n : Nat) : Nat → List UInt8
  | 0 => []
  | i + 1 => pstep f a n i (prR f a n i)
theorem prR_len (f : Nat → Int) (hf : ∀ k, 0 ≤ f k ∧ f k ≤ 65535) (a n : Nat) : ∀ i, (prR f a n i).length ≤ 5 * i
  | 0 => by simp [prR]
  | i + 1 => by
    have ih := prR_len f hf a n i
    have hl := hexD_len (f i).toNat (by have := hf i; omega)
    rw [prR, pstep]
    split
    · split <;> simp <;> omega
    · split <;> simp <;> omega
theorem gl_is (f : Nat → Int) : gl f = [(f 0).toNat, (f 1).toNat, (f 2).toNat, (f 3).toNat, (f 4).toNat, (f 5).toNat, (f 6).toNat, (f 7).toNat] := rfl
set_option maxHeartbeats 4000000 in
theorem prR_is (f : Nat → Int) (a n : Nat) (h : a + n ≤ 8) (hn : n = 0 ∧ a = 0 ∨ 2 ≤ n) : prR f a n 8 = if n = 0 then joinH (gl f) else joinH ((gl f).take a) ++ [58, 58] ++ joinH ((gl f).drop (a + n)) := by
  rw [gl_is]
  rcases hn with ⟨rfl, rfl⟩ | hn
  · simp [prR, pstep, joinH, Lib.join_cons, Lib.joinTail]
  · rw [if_neg (by omega)]
    have h8 : n ≤ 8 := by omega
    have a6 : a ≤ 6 := by omega
    rcases n with _ | _ | _ | _ | _ | _ | _ | _ | _ | n
    · omega
    · omega
    all_goals first | omega | skip
    all_goals rcases a with _ | _ | _ | _ | _ | _ | _ | a
    all_goals first | omega | skip
    all_goals simp [prR, pstep, joinH, Lib.join_cons, Lib.join_nil, Lib.joinTail]
set_option maxRecDepth 100000 in
set_option maxHeartbeats 3200000 in
theorem rprint6_t (A : Int) (w : World) : Calls Tryd.prog 28 #[.agg #[.int .u64 (hi A), .int .u64 (lo A)]] w fun e w' => e = .returned (.string ⟨(print6 (grp A)).toArray⟩) ∧ Below w.heap.size w w' := by
  have hf := grp_range A
  obtain ⟨f, hfe⟩ : ∃ f, f = grp A := ⟨_, rfl⟩
  rw [← hfe] at hf ⊢
  obtain ⟨hr1, _, hr3⟩ := runS_is f
  have hpr : prR f (runS f).1 (runS f).2 8 = print6 f := prR_is f _ _ hr1 (by omega)
  have hrs := run_same f
  generalize print6 f = pt at *
  have HFE := Lib.hid hfe
  have HRS := Lib.hid hrs
  have HPR := Lib.hid hpr
  clear hfe hrs hpr
  go_enter Tryd.func28, Tryd.ntmps28
  go_wp2_with fail
  have hb0 : Below w.heap.size w (w.alloc (.cells #[.int .u64 (hi A), .int .u64 (lo A)] 47)) := (Below.refl _ _).alloc (Nat.le_refl _) _
  generalize w.alloc (.cells #[.int .u64 (hi A), .int .u64 (lo A)] 47) = w0 at *
  refine (rgroups_t A w0).mono ?_
  rintro e w1 ⟨rfl, hb1⟩
  have HB := Lib.hid (below_step hb0 hb1)
  clear hb0 hb1
  rw [← HFE.out]
  unfold arr8
  go_wp2_with fail
  have Rg := Row.new w1 (cellsF f) 42
  have hb2 : Below w1.heap.size w1 (w1.alloc (.cells (cellsF f) 42)) := (Below.refl _ _).alloc (Nat.le_refl _) _
  unfold cellsF at Rg hb2
  generalize w1.alloc (.cells #[.int .u16 (f 0), .int .u16 (f 1), .int .u16 (f 2), .int .u16 (f 3), .int .u16 (f 4), .int .u16 (f 5), .int .u16 (f 6), .int .u16 (f 7)] 42) = w2 at *
  refine (rrun_t f hf w2).mono ?_
  rintro e w3 ⟨rfl, hb3⟩
  have R3 : Row w3 w1.heap.size (cellsF f) 42 := Rg.later hb3
  have HB3 := Lib.hid (below_step (below_step HB.out hb2) hb3)
  clear Rg hb2 hb3 HB
  generalize w1.heap.size = g at *
  rw [HRS.out]
  clear HRS HFE
  have HR := Lib.hid R3
  clear R3
  have hlen := prR_len f hf (runS f).1 (runS f).2
  generalize runS f = r at *
  obtain ⟨a, n⟩ := r
  dsimp only at *
  have HF := Lib.hid hf
  have HL := Lib.hid hlen
  clear hf hlen
  have hps : ∀ i, prR f a n (i + 1) = pstep f a n i (prR f a n i) := fun _ => rfl
  have HPS := Lib.hid hps
  clear hps
  have HPS2 : Hid (∀ i, prR f a n (i + 1) = if 0 < n ∧ a ≤ i ∧ i < a + n then (if i = a then prR f a n i ++ [58, 58] else prR f a n i) else (if 0 < i ∧ ¬ (0 < n ∧ i = a + n) then prR f a n i ++ [58] else prR f a n i) ++ hexD (f i).toNat) := Lib.hid HPS.out
  clear HPS
  rcases hr3 with ⟨rfl, rfl⟩ | hn2
  · rw [show ((0 : Nat) : Int) = 0 from rfl]
    go_wp2_with fail
    go_loopw [6, 7] (fun o i wr => ∃ (j : Nat), j ≤ 8 ∧ i = .int .i64 (j : Nat) ∧ o = .string ⟨(prR f 0 0 j).toArray⟩ ∧ wr = w3) (fun _ i _ => 8 - (intOf i).toNat)
    case atStart => exact ⟨0, by omega, rfl, rfl, rfl⟩
    case round =>
      obtain ⟨j, hj, rfl, rfl, rfl⟩ := hrel
      by_cases hlt : j < 8
      · have hlt' : (j : Int) < 8 := by omega
        have c0 := (HR.out.cell j).trans (cellsF_get f j hlt)
        have f0 := HF.out j
        have hol := HL.out j
        have hst := HPS2.out j
        have hxl := hexD_len (f j).toNat (by omega)
        have hdg := fun wq => digits16_t (f j).toNat (by omega) wq
        rw [Int.toNat_of_nonneg f0.1] at hdg
        generalize hexD (f j).toNat = dx at *
        generalize f j = y at *
        have hol' : (prR f 0 0 j).length ≤ 40 := by omega
        generalize prR f 0 0 j = o at *
        have HDG := Lib.hid hdg
        clear hdg hol
        have e1 := app_ll o [58]
        have e2 := app_ll o [58, 58]
        have e3 := app_ll o dx
        have e4 := app_ll (o ++ [58]) dx
        have s1 : ¬ 9223372036854775807 < o.length + 1 := by omega
        have s2 : ¬ 9223372036854775807 < o.length + 2 := by omega
        have s3 : ¬ 9223372036854775807 < o.length + dx.length := by omega
        have s4 : ¬ 9223372036854775807 < o.length + 1 + dx.length := by omega
        have HE := Lib.hid (And.intro e1 (And.intro e2 (And.intro e3 e4)))
        clear e1 e2 e3 e4
        by_cases hj0 : j = 0
        · have hst2 : prR f 0 0 (j + 1) = o ++ dx := by rw [hst, if_neg (by omega), if_neg (by omega)]
          have HS := Lib.hid hst2
          clear hst hst2
          subst hj0
          go_wp2_with fail
          refine (HDG.out _).mono ?_
          rintro e wq ⟨rfl, rfl⟩
          clear HDG
          go_wp2
          exact ⟨⟨1, by omega, by go_num, by rw [HS.out, ← HE.out.2.2.1], trivial⟩, by first | (simp [intOf]; done) | (simp [intOf]; omega)⟩
        · have j0' : (0 : Int) < (j : Int) := by omega
          have hst2 : prR f 0 0 (j + 1) = o ++ [58] ++ dx := by rw [hst, if_neg (by omega), if_pos (by omega)]
          have HS := Lib.hid hst2
          clear hst hst2 hj0
          go_wp2_with fail
          refine (HDG.out _).mono ?_
          rintro e wq ⟨rfl, rfl⟩
          clear HDG
          go_wp2
          exact ⟨⟨j + 1, by omega, by go_num, by rw [HS.out, ← HE.out.2.2.2, ← HE.out.1], trivial⟩, by first | (simp [intOf]; done) | (simp [intOf]; omega)⟩
      · have hj8 : j = 8 := by omega
        subst hj8
        have hpp : prR f 0 0 8 = pt := HPR.out
        rw [hpp]
        go_wp2
        go_ret
        exact ⟨rfl, HB3.out⟩
  · go_wp2_with fail
    go_loopw [6, 7] (fun o i wr => ∃ (j : Nat), j ≤ 8 ∧ i = .int .i64 (j : Nat) ∧ o = .string ⟨(prR f a n j).toArray⟩ ∧ wr = w3) (fun _ i _ => 8 - (intOf i).toNat)
    case atStart => exact ⟨0, by omega, rfl, rfl, rfl⟩
    case round =>
      obtain ⟨j, hj, rfl, rfl, rfl⟩ := hrel
      by_cases hlt : j < 8
      · have hlt' : (j : Int) < 8 := by omega
        have c0 := (HR.out.cell j).trans (cellsF_get f j hlt)
        have f0 := HF.out j
        have hol := HL.out j
        have hst := HPS2.out j
        have hxl := hexD_len (f j).toNat (by omega)
        have hdg := fun wq => digits16_t (f j).toNat (by omega) wq
        rw [Int.toNat_of_nonneg f0.1] at hdg
        generalize hexD (f j).toNat = dx at *
        generalize f j = y at *
        have hol' : (prR f a n j).length ≤ 40 := by omega
        generalize prR f a n j = o at *
        have HDG := Lib.hid hdg
        clear hdg hol
        have e1 := app_ll o [58]
        have e2 := app_ll o [58, 58]
        have e3 := app_ll o dx
        have e4 := app_ll (o ++ [58]) dx
        have s1 : ¬ 9223372036854775807 < o.length + 1 := by omega
        have s2 : ¬ 9223372036854775807 < o.length + 2 := by omega
        have s3 : ¬ 9223372036854775807 < o.length + dx.length := by omega
        have s4 : ¬ 9223372036854775807 < o.length + 1 + dx.length := by omega
        have HE := Lib.hid (And.intro e1 (And.intro e2 (And.intro e3 e4)))
        clear e1 e2 e3 e4
        have n0' : (0 : Int) < (n : Int) := by omega
        by_cases hja : j < a
        · have ja' : ¬ (a : Int) ≤ (j : Int) := by omega
          by_cases hj0 : j = 0
          · have hst2 : prR f a n (j + 1) = o ++ dx := by rw [hst, if_neg (by omega), if_neg (by omega)]
            have HS := Lib.hid hst2
            clear hst hst2
            subst hj0
            go_wp2_with fail
            refine (HDG.out _).mono ?_
            rintro e wq ⟨rfl, rfl⟩
            clear HDG
            go_wp2
            exact ⟨⟨1, by omega, by go_num, by rw [HS.out, ← HE.out.2.2.1], trivial⟩, by first | (simp [intOf]; done) | (simp [intOf]; omega)⟩
          · have j0' : (0 : Int) < (j : Int) := by omega
            have jb' : ¬ (j : Int) = (a : Int) + (n : Int) := by omega
            have jbb : ((j : Int) == (a : Int) + (n : Int)) = false := by rw [beq_eq_false_iff_ne]; omega
            have hst2 : prR f a n (j + 1) = o ++ [58] ++ dx := by rw [hst, if_neg (by omega), if_pos (by omega)]
            have HS := Lib.hid hst2
            clear hst hst2 hj0
            go_wp2_with fail
            refine (HDG.out _).mono ?_
            rintro e wq ⟨rfl, rfl⟩
            clear HDG
            go_wp2
            exact ⟨⟨j + 1, by omega, by go_num, by rw [HS.out, ← HE.out.2.2.2, ← HE.out.1], trivial⟩, by first | (simp [intOf]; done) | (simp [intOf]; omega)⟩
        · have ja' : (a : Int) ≤ (j : Int) := by omega
          by_cases hjn : j < a + n
          · have jn' : (j : Int) < (a : Int) + (n : Int) := by omega
            by_cases hje : j = a
            · have hst2 : prR f a n (j + 1) = o ++ [58, 58] := by rw [hst, if_pos (by omega), if_pos hje]
              have HS := Lib.hid hst2
              clear hst hst2 HDG
              subst hje
              go_wp2
              exact ⟨⟨j + 1, by omega, by go_num, by rw [HS.out, ← HE.out.2.1], trivial⟩, by simp [intOf]; omega⟩
            · have je' : ¬ (j : Int) = (a : Int) := by omega
              have hst2 : prR f a n (j + 1) = o := by rw [hst, if_pos (by omega), if_neg hje]
              have HS := Lib.hid hst2
              clear hst hst2 HDG hje
              go_wp2
              exact ⟨⟨j + 1, by omega, by go_num, by rw [HS.out], trivial⟩, by simp [intOf]; omega⟩
          · have jn' : ¬ (j : Int) < (a : Int) + (n : Int) := by omega
            have j0' : (0 : Int) < (j : Int) := by omega
            by_cases hje : j = a + n
            · have hst2 : prR f a n (j + 1) = o ++ dx := by rw [hst, if_neg (by omega), if_neg (by omega)]
              have HS := Lib.hid hst2
              clear hst hst2
              subst hje
              go_wp2_with fail
              refine (HDG.out _).mono ?_
              rintro e wq ⟨rfl, rfl⟩
              clear HDG
              go_wp2
              exact ⟨⟨a + n + 1, by omega, by go_num, by rw [HS.out, ← HE.out.2.2.1], trivial⟩, by first | (simp [intOf]; done) | (simp [intOf]; omega)⟩
            · have jb' : ¬ (j : Int) = (a : Int) + (n : Int) := by omega
              have jbb : ((j : Int) == (a : Int) + (n : Int)) = false := by rw [beq_eq_false_iff_ne]; omega
              have hst2 : prR f a n (j + 1) = o ++ [58] ++ dx := by rw [hst, if_neg (by omega), if_pos (by omega)]
              have HS := Lib.hid hst2
              clear hst hst2 hje
              go_wp2_with fail
              refine (HDG.out _).mono ?_
              rintro e wq ⟨rfl, rfl⟩
              clear HDG
              go_wp2
              exact ⟨⟨j + 1, by omega, by go_num, by rw [HS.out, ← HE.out.2.2.2, ← HE.out.1], trivial⟩, by first | (simp [intOf]; done) | (simp [intOf]; omega)⟩
      · have hj8 : j = 8 := by omega
        subst hj8
        have hpp : prR f a n 8 = pt := HPR.out
        rw [hpp]
        go_wp2
        go_ret
        exact ⟨rfl, HB3.out⟩
end Go.Proofs.YtkenkjdelhmaoaaDoor
