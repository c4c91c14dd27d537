/- Fixed texts of package six; alive. No conditions but what the library's variables hold. -/
import Derived.Test.YtkenkjdelhmaoaaDoorSixB
namespace Go.Proofs.YtkenkjdelhmaoaaDoor
set_option linter.unusedVariables false
set_option linter.unusedSimpArgs false
open Go.RowKit
def hexK (n : Nat) : List UInt8 := if n < 16 then [hexC n] else if n < 256 then [hexC (n / 16), hexC (n % 16)] else if n < 4096 then [hexC (n / 256), hexC (n / 16 % 16), hexC (n % 16)] else [hexC (n / 4096), hexC (n / 256 % 16), hexC (n / 16 % 16), hexC (n % 16)]
theorem hexD_K (n : Nat) (h : n < 65536) : hexD n = hexK n := by
  unfold hexK
  split
  · rw [hexD_one n (by assumption)]
  · split
    · rw [hexD_step n (by omega), hexD_one (n / 16) (by omega)]; rfl
    · split
      · rw [hexD_step n (by omega), hexD_step (n / 16) (by omega), hexD_one (n / 16 / 16) (by omega), Nat.div_div_eq_div_mul]; rfl
      · rw [hexD_step n (by omega), hexD_step (n / 16) (by omega), hexD_step (n / 16 / 16) (by omega), hexD_one (n / 16 / 16 / 16) (by omega), show n / 16 / 16 / 16 = n / 4096 by omega, show n / 16 / 16 = n / 256 by omega]; rfl
theorem print_K (f : Nat → Int) (hf : ∀ k, 0 ≤ f k ∧ f k ≤ 65535) : print6 f = printT hexK f := by
  have h : ∀ fs : List Nat, (∀ x ∈ fs, x ∈ gl f) → joinH fs = joinT hexK fs := fun fs hs => by
    unfold joinH joinT
    rw [List.map_congr_left (fun x hx => hexD_K x (gl_lt hf x (hs x hx)))]
  unfold print6 printT
  rw [h _ (fun x hx => hx), h _ (fun x hx => List.mem_of_mem_take hx), h _ (fun x hx => List.mem_of_mem_drop hx)]
theorem seqV_all (d : Bool) : ∀ (ps : List (List UInt8)) (vs : List Nat), ps ≠ [] → ps.map grpV = vs.map some → seqV d ps = some vs
  | [], _, h, _ => absurd rfl h
  | [p], [], _, h => by cases h
  | [p], [v], _, h => by
    have h1 : grpV p = some v := by simpa using h
    rw [seqV, lastV_grp h1]
  | [p], v :: y :: r, _, h => by simp at h
  | p :: q :: r, [], _, h => by cases h
  | p :: q :: r, v :: vs, _, h => by
    simp only [List.map_cons, List.cons.injEq] at h
    have ih := seqV_all d (q :: r) vs (by simp) (by simpa using h.2)
    rw [seqV_cons d _ _ (by simp), h.1, ih]
def gA : List Nat := [0, 0, 0, 0, 0, 65535, 258, 772]
def gB : List Nat := [8193, 3512, 0, 0, 1, 0, 0, 1]
theorem txt1234 : txt4 1 2 3 4 = [49, 46, 50, 46, 51, 46, 52] := by decide +kernel
theorem par1234 : parse4 [49, 46, 50, 46, 51, 46, 52] = (16909060, 0) := by
  rw [← txt1234, parse_txt 1 2 3 4 ⟨by decide, by decide⟩ ⟨by decide, by decide⟩ ⟨by decide, by decide⟩ ⟨by decide, by decide⟩]
  rfl
theorem par_a : parse6 [58, 58, 102, 102, 102, 102, 58, 49, 46, 50, 46, 51, 46, 52] = some gA := by
  have hc : cc [58, 58, 102, 102, 102, 102, 58, 49, 46, 50, 46, 51, 46, 52] = ([], [102, 102, 102, 102, 58, 49, 46, 50, 46, 51, 46, 52], true) := by decide +kernel
  have h1 : readV (!true) [] = some [] := rfl
  have h2 : readV true [102, 102, 102, 102, 58, 49, 46, 50, 46, 51, 46, 52] = some [65535, 258, 772] := by
    have hs : splitC [102, 102, 102, 102, 58, 49, 46, 50, 46, 51, 46, 52] = [[102, 102, 102, 102], [49, 46, 50, 46, 51, 46, 52]] := by decide +kernel
    have hg : grpV [102, 102, 102, 102] = some 65535 := by decide +kernel
    unfold readV
    rw [if_neg (by simp), hs, seqV_cons _ _ _ (by simp), hg, seqV]
    unfold lastV
    rw [par1234, if_pos ⟨rfl, rfl⟩]
    decide
  unfold parse6
  rw [hc]
  dsimp only
  rw [h1, h2]
  decide
theorem par_b : parse6 [50, 48, 48, 49, 58, 68, 66, 56, 58, 48, 58, 48, 58, 49, 58, 48, 58, 48, 58, 49] = some gB := by
  have hc : cc [50, 48, 48, 49, 58, 68, 66, 56, 58, 48, 58, 48, 58, 49, 58, 48, 58, 48, 58, 49] = ([50, 48, 48, 49, 58, 68, 66, 56, 58, 48, 58, 48, 58, 49, 58, 48, 58, 48, 58, 49], [], false) := by decide +kernel
  have h1 : readV (!false) [50, 48, 48, 49, 58, 68, 66, 56, 58, 48, 58, 48, 58, 49, 58, 48, 58, 48, 58, 49] = some gB := by
    have hs : splitC [50, 48, 48, 49, 58, 68, 66, 56, 58, 48, 58, 48, 58, 49, 58, 48, 58, 48, 58, 49] = [[50, 48, 48, 49], [68, 66, 56], [48], [48], [49], [48], [48], [49]] := by decide +kernel
    unfold readV
    rw [if_neg (by simp), hs]
    exact seqV_all _ _ _ (by simp) (by decide +kernel)
  have h2 : readV true [] = some [] := rfl
  unfold parse6
  rw [hc]
  dsimp only
  rw [h1, h2]
  decide
theorem par_c : parse6 [49, 58, 58, 50, 58, 58, 51] = none := by
  have hc : cc [49, 58, 58, 50, 58, 58, 51] = ([49], [50, 58, 58, 51], true) := by decide +kernel
  have h2 : readV true [50, 58, 58, 51] = none := by
    have hs : splitC [50, 58, 58, 51] = [[50], [], [51]] := by decide +kernel
    have hg : grpV [] = none := by decide +kernel
    have hg2 : grpV [50] = some 2 := by decide +kernel
    unfold readV
    rw [if_neg (by simp), hs, seqV_cons _ _ _ (by simp), hg2, seqV_cons _ _ _ (by simp), hg]
  unfold parse6
  rw [hc]
  dsimp only
  rw [h2]
  cases readV (!true) [49] <;> rfl
theorem par_d : parse6 [49, 58, 50, 58, 51, 58, 52, 58, 53, 58, 54, 58, 55] = none := by
  have hc : cc [49, 58, 50, 58, 51, 58, 52, 58, 53, 58, 54, 58, 55] = ([49, 58, 50, 58, 51, 58, 52, 58, 53, 58, 54, 58, 55], [], false) := by decide +kernel
  have h1 : readV (!false) [49, 58, 50, 58, 51, 58, 52, 58, 53, 58, 54, 58, 55] = some [1, 2, 3, 4, 5, 6, 7] := by
    have hs : splitC [49, 58, 50, 58, 51, 58, 52, 58, 53, 58, 54, 58, 55] = [[49], [50], [51], [52], [53], [54], [55]] := by decide +kernel
    unfold readV
    rw [if_neg (by simp), hs]
    exact seqV_all _ _ _ (by simp) (by decide +kernel)
  have h2 : readV true [] = some [] := rfl
  unfold parse6
  rw [hc]
  dsimp only
  rw [h1, h2]
  decide
def nA : Int := ofN (lf gA) 8
def nB : Int := ofN (lf gB) 8
theorem pr_1 : print6 (grp 1) = [58, 58, 49] := by rw [print_K _ (grp_range 1)]; decide +kernel
theorem pr_0 : print6 (grp 0) = [58, 58] := by rw [print_K _ (grp_range 0)]; decide +kernel
theorem pr_a : print6 (grp nA) = [58, 58, 102, 102, 102, 102, 58, 49, 48, 50, 58, 51, 48, 52] := by rw [print_K _ (grp_range nA)]; decide +kernel
theorem pr_b : print6 (grp nB) = [50, 48, 48, 49, 58, 100, 98, 56, 58, 58, 49, 58, 48, 58, 48, 58, 49] := by rw [print_K _ (grp_range nB)]; decide +kernel
def gR : List Nat := [1, 0, 0, 2, 0, 0, 0, 3]
theorem run_r : runS (lf gR) = (4, 3) := by decide +kernel
set_option maxRecDepth 100000 in
set_option maxHeartbeats 3200000 in
theorem alive4_t (w : World) (hE : Env6 w) : Calls Tryd.prog 25 #[] w fun e w' => e = .returned (.bool true) ∧ Below w.heap.size w w' := by
  go_enter Tryd.func25, Tryd.ntmps25
  go_wp2_with fail
  refine (parse6_t [58, 58, 102, 102, 102, 102, 58, 49, 46, 50, 46, 51, 46, 52] (by decide) w hE.e).mono ?_
  rintro e w1 hP
  rw [par_a] at hP
  obtain ⟨rfl, hb1⟩ := hP
  rw [show ofN (lf gA) 8 = nA from rfl]
  go_wp2_with fail
  have R1 := Row.new w1 #[.int .u64 (hi nA), .int .u64 (lo nA)] 40
  have hbb : Below w.heap.size w (w1.alloc (.cells #[.int .u64 (hi nA), .int .u64 (lo nA)] 40)) := below_step hb1 ((Below.refl _ _).alloc (Nat.le_refl _) _)
  generalize w1.alloc (.cells #[.int .u64 (hi nA), .int .u64 (lo nA)] 40) = w2 at *
  generalize w1.heap.size = g1 at *
  refine (parse6_t [50, 48, 48, 49, 58, 68, 66, 56, 58, 48, 58, 48, 58, 49, 58, 48, 58, 48, 58, 49] (by decide) w2 (hE.e.later hbb)).mono ?_
  rintro e w3 hP
  rw [par_b] at hP
  obtain ⟨rfl, hb3⟩ := hP
  rw [show ofN (lf gB) 8 = nB from rfl]
  replace R1 := R1.later hb3
  replace hbb := below_step hbb hb3
  clear hb1 hb3
  go_wp2_with fail
  have R2 := Row.new w3 #[.int .u64 (hi nB), .int .u64 (lo nB)] 40
  replace R1 := R1.alloc (.cells #[.int .u64 (hi nB), .int .u64 (lo nB)] 40)
  replace hbb : Below w.heap.size w (w3.alloc (.cells #[.int .u64 (hi nB), .int .u64 (lo nB)] 40)) := below_step hbb ((Below.refl _ _).alloc (Nat.le_refl _) _)
  generalize w3.alloc (.cells #[.int .u64 (hi nB), .int .u64 (lo nB)] 40) = w4 at *
  generalize w3.heap.size = g2 at *
  refine (parse6_t [49, 58, 58, 50, 58, 58, 51] (by decide) w4 (hE.e.later hbb)).mono ?_
  rintro e w5 hP
  rw [par_c] at hP
  obtain ⟨rfl, hb5⟩ := hP
  replace R1 := R1.later hb5
  replace R2 := R2.later hb5
  replace hbb := below_step hbb hb5
  clear hb5
  go_wp2_with fail
  have hq : Below w5.heap.size w5 (w5.alloc (.cells #[.int .u64 0, .int .u64 0] 40)) := (Below.refl _ _).alloc (Nat.le_refl _) _
  generalize w5.alloc (.cells #[.int .u64 0, .int .u64 0] 40) = w6 at *
  replace R1 := R1.later hq
  replace R2 := R2.later hq
  replace hbb := below_step hbb hq
  clear hq
  refine (parse6_t [49, 58, 50, 58, 51, 58, 52, 58, 53, 58, 54, 58, 55] (by decide) w6 (hE.e.later hbb)).mono ?_
  rintro e w7 hP
  rw [par_d] at hP
  obtain ⟨rfl, hb7⟩ := hP
  replace R1 := R1.later hb7
  replace R2 := R2.later hb7
  replace hbb := below_step hbb hb7
  clear hb7
  go_wp2_with fail
  have hq : Below w7.heap.size w7 (w7.alloc (.cells #[.int .u64 0, .int .u64 0] 40)) := (Below.refl _ _).alloc (Nat.le_refl _) _
  generalize w7.alloc (.cells #[.int .u64 0, .int .u64 0] 40) = w8 at *
  replace R1 := R1.later hq
  replace R2 := R2.later hq
  replace hbb := below_step hbb hq
  clear hq
  refine (run_t (lf gR) (fun k => lf_range (by decide) k) w8).mono ?_
  rintro e w9 ⟨rfl, hb9⟩
  rw [run_r]
  replace R1 := R1.later hb9
  replace R2 := R2.later hb9
  replace hbb := below_step hbb hb9
  clear hb9
  go_wp2_with fail
  refine (of_any 1 w9).mono ?_
  rintro e wa ⟨rfl, hba⟩
  replace R1 := R1.later hba
  replace R2 := R2.later hba
  replace hbb := below_step hbb hba
  clear hba
  go_wp2_with fail
  refine (print6_t 1 wa (hE.later hbb)).mono ?_
  rintro e wb ⟨rfl, hba⟩
  rw [pr_1]
  replace R1 := R1.later hba
  replace R2 := R2.later hba
  replace hbb := below_step hbb hba
  clear hba
  have c0 := (R1.cell 0).trans (show _ = some (Value.int .u64 (hi nA)) from rfl)
  have c1 := (R1.cell 1).trans (show _ = some (Value.int .u64 (lo nA)) from rfl)
  go_wp2_with fail
  refine (print6_t nA wb (hE.later hbb)).mono ?_
  rintro e wc ⟨rfl, hba⟩
  rw [pr_a]
  replace R2 := R2.later hba
  replace hbb := below_step hbb hba
  clear hba c0 c1 R1
  have c0 := (R2.cell 0).trans (show _ = some (Value.int .u64 (hi nB)) from rfl)
  have c1 := (R2.cell 1).trans (show _ = some (Value.int .u64 (lo nB)) from rfl)
  go_wp2_with fail
  refine (print6_t nB wc (hE.later hbb)).mono ?_
  rintro e wd ⟨rfl, hba⟩
  rw [pr_b]
  replace hbb := below_step hbb hba
  clear hba c0 c1 R2
  go_wp2_with fail
  refine (print6_t 0 wd (hE.later hbb)).mono ?_
  rintro e we ⟨rfl, hba⟩
  rw [pr_0]
  replace hbb := below_step hbb hba
  clear hba
  go_wp2
  go_ret
  exact ⟨rfl, hbb⟩
end Go.Proofs.YtkenkjdelhmaoaaDoor
