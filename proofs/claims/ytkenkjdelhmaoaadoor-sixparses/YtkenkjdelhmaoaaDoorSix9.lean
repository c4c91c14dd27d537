/- The function sequence of package six. No conditions beyond the text's length. -/
import Derived.Test.YtkenkjdelhmaoaaDoorSix8
namespace Go.Proofs.YtkenkjdelhmaoaaDoor
set_option linter.unusedVariables false
set_option linter.unusedSimpArgs false
open Go.RowKit
theorem hexM_mem {c : UInt8} (hc : hexV c = none) : ∀ (l : List UInt8) (acc : Nat), c ∈ l → hexM acc l = none
  | [], _, h => by cases h
  | x :: r, acc, h => by
    rw [hexM]
    by_cases e : c = x
    · subst e; rw [hc]
    · have hr : c ∈ r := by rcases List.mem_cons.1 h with h | h; exact absurd h e; exact h
      split
      · rfl
      · split
        · rfl
        · exact hexM_mem hc r _ hr
theorem grpV_dot {p : List UInt8} (h : (parse4 p).2 = 0) : grpV p = none := by
  have hm : (46 : UInt8) ∈ p := by
    rw [← (parse_ok h).1]
    unfold print4
    rw [txt4_is]
    simp
  unfold grpV hexP
  split
  · rfl
  · split
    · rfl
    · exact hexM_mem (by decide) p 0 hm
theorem seqV_cons (d : Bool) (p : List UInt8) (ps : List (List UInt8)) (h : ps ≠ []) : seqV d (p :: ps) = match grpV p, seqV d ps with
    | some v, some vs => some (v :: vs)
    | _, _ => none := by
  cases ps with
  | nil => exact absurd rfl h
  | cons q r => rw [seqV]; cases grpV p <;> cases seqV d (q :: r) <;> rfl
theorem lastV_pos {d : Bool} {p : List UInt8} {us : List Nat} (h : lastV d p = some us) : 1 ≤ us.length := by
  unfold lastV at h
  split at h
  · cases h; simp
  · cases hg : grpV p with
    | none => rw [hg] at h; cases h
    | some v => rw [hg] at h; cases h; simp
theorem seqV_pos (d : Bool) : ∀ (ps : List (List UInt8)) (us : List Nat), ps ≠ [] → seqV d ps = some us → 1 ≤ us.length
  | [], _, h, _ => absurd rfl h
  | [p], us, _, h => lastV_pos h
  | p :: q :: r, us, _, h => by
    rw [seqV] at h
    split at h
    · cases h; simp
    · cases h
/-- what sequence answers -/
noncomputable def seqR (d : Bool) (l : List UInt8) : Option (List Nat) := match readV d l with
  | some vs => if vs.length ≤ 8 then some vs else none
  | none => none
def MorePost (d : Bool) (l r : List UInt8) (vs : List Nat) (o : Option (List Nat)) : Prop := match o with
  | some xs => (vs ++ xs).length ≤ 8 ∧ seqV d (splitC l) = (seqV d (splitC r)).map fun us => (vs ++ xs) ++ us
  | none => ∀ us, seqV d (splitC l) = some us → 8 < us.length
theorem step_more {d : Bool} {l rest p r : List UInt8} {vs : List Nat} (hs : splitC rest = p :: splitC r) (hrel : seqV d (splitC l) = (seqV d (splitC rest)).map fun us => vs ++ us) (hn : vs.length ≤ 8) : MorePost d l r vs (stepV d false p vs.length) := by
  rw [hs, seqV_cons d p _ (split_ne r)] at hrel
  unfold stepV
  rw [if_neg (by simp)]
  cases hg : grpV p with
  | none =>
    rw [hg] at hrel
    have hR : seqV d (splitC l) = none := hrel
    have : (if vs.length < 8 then Option.map (fun v => [v]) (none : Option Nat) else none) = none := by simp
    rw [this]
    intro us h; rw [hR] at h; cases h
  | some v =>
    rw [hg] at hrel
    by_cases h8 : vs.length < 8
    · rw [if_pos h8]
      refine ⟨by simp; omega, ?_⟩
      rw [hrel]
      cases seqV d (splitC r) with
      | none => rfl
      | some us => simp
    · rw [if_neg h8]
      intro us h
      rw [hrel] at h
      cases hq : seqV d (splitC r) with
      | none => rw [hq] at h; cases h
      | some ys => rw [hq] at h; simp at h; rw [← h]; simp; omega
def LastPost (d : Bool) (l : List UInt8) (vs : List Nat) (o : Option (List Nat)) : Prop := match o with
  | some xs => (vs ++ xs).length ≤ 8 ∧ seqV d (splitC l) = some (vs ++ xs)
  | none => ∀ us, seqV d (splitC l) = some us → 8 < us.length
theorem step_last {d : Bool} {l rest : List UInt8} {vs : List Nat} (hs : splitC rest = [rest]) (hrel : seqV d (splitC l) = (seqV d (splitC rest)).map fun us => vs ++ us) (hn : vs.length ≤ 8) : LastPost d l vs (stepV d true rest vs.length) := by
  rw [hs, seqV] at hrel
  unfold lastV at hrel
  unfold stepV
  by_cases h4 : d = true ∧ (parse4 rest).2 = 0
  · rw [if_pos h4] at hrel
    by_cases h6 : vs.length + 2 ≤ 8
    · rw [if_pos ⟨h4.1, rfl, h4.2, h6⟩]
      exact ⟨by simp; omega, hrel⟩
    · rw [if_neg (fun h => h6 h.2.2.2), grpV_dot h4.2]
      have : (if vs.length < 8 then Option.map (fun v => [v]) (none : Option Nat) else none) = none := by simp
      rw [this]
      intro us h; rw [hrel] at h; simp at h; rw [← h]; simp; omega
  · rw [if_neg h4] at hrel
    rw [if_neg (fun h => h4 ⟨h.1, h.2.2.1⟩)]
    cases hg : grpV rest with
    | none =>
      rw [hg] at hrel
      have : (if vs.length < 8 then Option.map (fun v => [v]) (none : Option Nat) else none) = none := by simp
      rw [this]
      intro us h; rw [hrel] at h; cases h
    | some v =>
      rw [hg] at hrel
      by_cases h8 : vs.length < 8
      · rw [if_pos h8]
        exact ⟨by simp; omega, hrel⟩
      · rw [if_neg h8]
        intro us h; rw [hrel] at h; simp at h; rw [← h]; simp; omega
theorem seqR_none {d : Bool} {l : List UInt8} (h0 : l ≠ []) (h : ∀ us, seqV d (splitC l) = some us → 8 < us.length) : seqR d l = none := by
  unfold seqR readV
  rw [if_neg h0]
  cases hq : seqV d (splitC l) with
  | none => rfl
  | some us => have := h us hq; simp; omega
theorem seqR_some {d : Bool} {l : List UInt8} {vs : List Nat} (h0 : l ≠ []) (h : seqV d (splitC l) = some vs) (h8 : vs.length ≤ 8) : seqR d l = some vs := by
  unfold seqR readV
  rw [if_neg h0, h]
  simp [h8]
theorem cutb_t (l s : List UInt8) (hl : l.length ≤ 4000000000) (w : World) (hE : Env w) : Calls Tryd.prog 35 #[.string ⟨l.toArray⟩, .string ⟨s.toArray⟩] w fun e w' => e = .returned (.tuple #[.string ⟨(Lib.cut l s).1.toArray⟩, .string ⟨(Lib.cut l s).2.1.toArray⟩, .bool (Lib.cut l s).2.2]) ∧ Below w.heap.size w w' := by
  obtain ⟨m, hm⟩ := hE.m
  refine (Tryd.strings_Cut ⟨l.toArray⟩ ⟨s.toArray⟩ m w (by rw [bs_size]; omega) hm).mono ?_
  rintro e w' ⟨rfl, n, rfl⟩
  exact ⟨rfl, below_drewN (Below.refl _ _) n⟩
def SeqPost (o : Option (List Nat)) (w : World) (e : Ending) (w' : World) : Prop := (match o with
  | some vs => e = .returned (.tuple #[arr8 (lf vs), .int .i64 (vs.length : Nat), .bool true])
  | none => e = .returned (.tuple #[arr8 (fun _ => 0), .int .i64 0, .bool false])) ∧ Below w.heap.size w w'
theorem lf_nil : lf [] = fun _ => 0 := by funext i; simp [lf]
def mLen (s m : Value) : Nat := match m, s with
  | .bool true, .string b => b.size + 1
  | _, _ => 0
theorem setV (f : Nat → Int) (a0 a1 a2 a3 a4 a5 a6 a7 : Value) : ((((((((#[Value.int .u16 (f 0), .int .u16 (f 1), .int .u16 (f 2), .int .u16 (f 3), .int .u16 (f 4), .int .u16 (f 5), .int .u16 (f 6), .int .u16 (f 7)] : Array Value).setIfInBounds 0 a0).setIfInBounds 1 a1).setIfInBounds 2 a2).setIfInBounds 3 a3).setIfInBounds 4 a4).setIfInBounds 5 a5).setIfInBounds 6 a6).setIfInBounds 7 a7 = #[a0, a1, a2, a3, a4, a5, a6, a7] := by simp
/-- eight stores into a row of groups -/
theorem Row.set8 {w : World} {g : Nat} {f : Nat → Int} {t : TypeId} (h : Row w g #[.int .u16 (f 0), .int .u16 (f 1), .int .u16 (f 2), .int .u16 (f 3), .int .u16 (f 4), .int .u16 (f 5), .int .u16 (f 6), .int .u16 (f 7)] t) (a0 a1 a2 a3 a4 a5 a6 a7 : Value) :
    Row ((((((((w.setCell ⟨g, 0, none⟩ a0).setCell ⟨g, 1, none⟩ a1).setCell ⟨g, 2, none⟩ a2).setCell ⟨g, 3, none⟩ a3).setCell ⟨g, 4, none⟩ a4).setCell ⟨g, 5, none⟩ a5).setCell ⟨g, 6, none⟩ a6).setCell ⟨g, 7, none⟩ a7) g #[a0, a1, a2, a3, a4, a5, a6, a7] t := by
  have := (((((((h.set 0 a0).set 1 a1).set 2 a2).set 3 a3).set 4 a4).set 5 a5).set 6 a6).set 7 a7
  rwa [setV] at this
theorem Row.far8 {w : World} {g k : Nat} {cs : Array Value} {t : TypeId} (h : Row w k cs t) (hne : k ≠ g) (a0 a1 a2 a3 a4 a5 a6 a7 : Value) :
    Row ((((((((w.setCell ⟨g, 0, none⟩ a0).setCell ⟨g, 1, none⟩ a1).setCell ⟨g, 2, none⟩ a2).setCell ⟨g, 3, none⟩ a3).setCell ⟨g, 4, none⟩ a4).setCell ⟨g, 5, none⟩ a5).setCell ⟨g, 6, none⟩ a6).setCell ⟨g, 7, none⟩ a7) k cs t :=
  (((((((h.set_far ⟨g, 0, none⟩ a0 hne).set_far ⟨g, 1, none⟩ a1 hne).set_far ⟨g, 2, none⟩ a2 hne).set_far ⟨g, 3, none⟩ a3 hne).set_far ⟨g, 4, none⟩ a4 hne).set_far ⟨g, 5, none⟩ a5 hne).set_far ⟨g, 6, none⟩ a6 hne).set_far ⟨g, 7, none⟩ a7 hne
theorem below8 {B : Nat} {u w : World} {g : Nat} (h : Below B u w) (hg : B ≤ g) (a0 a1 a2 a3 a4 a5 a6 a7 : Value) :
    Below B u ((((((((w.setCell ⟨g, 0, none⟩ a0).setCell ⟨g, 1, none⟩ a1).setCell ⟨g, 2, none⟩ a2).setCell ⟨g, 3, none⟩ a3).setCell ⟨g, 4, none⟩ a4).setCell ⟨g, 5, none⟩ a5).setCell ⟨g, 6, none⟩ a6).setCell ⟨g, 7, none⟩ a7) :=
  (((((((h.setCell (p := ⟨g, 0, none⟩) hg a0).setCell (p := ⟨g, 1, none⟩) hg a1).setCell (p := ⟨g, 2, none⟩) hg a2).setCell (p := ⟨g, 3, none⟩) hg a3).setCell (p := ⟨g, 4, none⟩) hg a4).setCell (p := ⟨g, 5, none⟩) hg a5).setCell (p := ⟨g, 6, none⟩) hg a6).setCell (p := ⟨g, 7, none⟩) hg a7
end Go.Proofs.YtkenkjdelhmaoaaDoor
