/- What a text of groups says: Parse of package six as a function of bytes, and that printed texts read back. No conditions. -/
import Derived.Test.YtkenkjdelhmaoaaDoorSix6
import Derived.Test.YtkenkjdelhmaoaaDoorFour4
namespace Go.Proofs.YtkenkjdelhmaoaaDoor
set_option linter.unusedVariables false
set_option linter.unusedSimpArgs false
open Go.RowKit
def hexV (c : UInt8) : Option Nat := if 48 ≤ c.toNat ∧ c.toNat ≤ 57 then some (c.toNat - 48) else if 97 ≤ c.toNat ∧ c.toNat ≤ 102 then some (c.toNat - 87) else if 65 ≤ c.toNat ∧ c.toNat ≤ 70 then some (c.toNat - 55) else none
def hexM : Nat → List UInt8 → Option Nat
  | acc, [] => some acc
  | acc, c :: r => match hexV c with
    | none => none
    | some d => if 65535 < acc * 16 + d then none else hexM (acc * 16 + d) r
def hexP (l : List UInt8) : Option Nat := if l = [] then none else hexM 0 l
/-- the group that a text is -/
def grpV (l : List UInt8) : Option Nat := if 4 < l.length then none else hexP l
def splitC : List UInt8 → List (List UInt8)
  | [] => [[]]
  | c :: r => if c = 58 then [] :: splitC r else match splitC r with
    | h :: t => (c :: h) :: t
    | [] => [[c]]
noncomputable def lastV (d : Bool) (p : List UInt8) : Option (List Nat) := if d = true ∧ (parse4 p).2 = 0 then some [(parse4 p).1.toNat / 65536, (parse4 p).1.toNat % 65536] else (grpV p).map fun v => [v]
noncomputable def seqV (d : Bool) : List (List UInt8) → Option (List Nat)
  | [] => some []
  | [p] => lastV d p
  | p :: q :: r => match grpV p, seqV d (q :: r) with
    | some v, some vs => some (v :: vs)
    | _, _ => none
noncomputable def readV (d : Bool) (l : List UInt8) : Option (List Nat) := if l = [] then some [] else seqV d (splitC l)
def cc (l : List UInt8) : List UInt8 × List UInt8 × Bool := Lib.cut l [58, 58]
def fits (c : Bool) (u v : List Nat) : Bool := if c = true then decide (u.length + v.length ≤ 7) else decide (u.length = 8)
/-- the eight groups of a text -/
noncomputable def parse6 (l : List UInt8) : Option (List Nat) :=
  match readV (!(cc l).2.2) (cc l).1, readV true (cc l).2.1 with
  | some u, some v => if fits (cc l).2.2 u v = true then some (u ++ List.replicate (8 - u.length - v.length) 0 ++ v) else none
  | _, _ => none
/-! texts between colons -/
theorem index_word (s : List UInt8) (b : UInt8) (hs : s.head? = some b) : ∀ (p r : List UInt8), b ∉ p → Lib.index (p ++ r) s = if Lib.index r s = -1 then -1 else Lib.index r s + p.length
  | [], r, _ => by
    rw [List.nil_append]
    split
    · assumption
    · simp
  | c :: p, r, h => by
    have hc : ¬ b = c := fun e => h (by rw [e]; simp)
    have ih := index_word s b hs p r (fun hm => h (List.mem_cons_of_mem _ hm))
    obtain ⟨t, rfl⟩ : ∃ t, s = b :: t := by cases s with | nil => cases hs | cons x t => cases hs; exact ⟨t, rfl⟩
    rw [List.cons_append, Lib.index, ih]
    have h1 : (b :: t).isPrefixOf (c :: (p ++ r)) = false := by simp [List.isPrefixOf, hc]
    have hge := Lib.index_ge r (b :: t)
    rw [h1]
    by_cases h2 : Lib.index r (b :: t) = -1
    · simp [h2]
    · have h3 : ((Lib.index r (b :: t) + (p.length : Int)) == -1) = false := by rw [beq_eq_false_iff_ne]; omega
      simp only [if_neg h2, h3]
      simp
      omega
theorem cut_at (b : UInt8) (d r : List UInt8) (h : b ∉ d) : Lib.cut (d ++ b :: r) [b] = (d, r, true) := by
  unfold Lib.cut
  have h0 : Lib.index (b :: r) [b] = 0 := by simp [Lib.index, List.isPrefixOf]
  rw [index_word [b] b rfl d (b :: r) h, h0]
  simp
theorem cut_none (b : UInt8) (d : List UInt8) (h : b ∉ d) : Lib.cut d [b] = (d, [], false) := by
  unfold Lib.cut
  have h1 := index_word [b] b rfl d [] h
  rw [List.append_nil] at h1
  rw [h1]
  simp [Lib.index]
theorem split_no : ∀ (p : List UInt8), (58 : UInt8) ∉ p → splitC p = [p]
  | [], _ => rfl
  | c :: p, h => by
    have hc : ¬ c = 58 := fun e => h (by rw [e]; simp)
    rw [splitC, if_neg hc, split_no p (fun hm => h (List.mem_cons_of_mem _ hm))]
theorem split_at : ∀ (p r : List UInt8), (58 : UInt8) ∉ p → splitC (p ++ 58 :: r) = p :: splitC r
  | [], r, _ => by rw [List.nil_append, splitC, if_pos rfl]
  | c :: p, r, h => by
    have hc : ¬ c = 58 := fun e => h (by rw [e]; simp)
    rw [List.cons_append, splitC, if_neg hc, split_at p r (fun hm => h (List.mem_cons_of_mem _ hm))]
theorem split_ne (l : List UInt8) : splitC l ≠ [] := by
  cases l with
  | nil => simp [splitC]
  | cons c r =>
    rw [splitC]
    split
    · simp
    · split <;> simp
/-- one part is cut off: what Cut at a colon does to the parts -/
theorem split_cut (l : List UInt8) : (∃ p r, (58 : UInt8) ∉ p ∧ l = p ++ 58 :: r ∧ Lib.cut l [58] = (p, r, true) ∧ splitC l = p :: splitC r) ∨ ((58 : UInt8) ∉ l ∧ Lib.cut l [58] = (l, [], false) ∧ splitC l = [l]) := by
  by_cases h : (58 : UInt8) ∈ l
  · obtain ⟨p, r, rfl, hp⟩ := List.eq_append_cons_of_mem h
    exact Or.inl ⟨p, r, hp, rfl, cut_at 58 p r hp, split_at p r hp⟩
  · exact Or.inr ⟨h, cut_none 58 l h, split_no l h⟩
theorem hexV_lt {c : UInt8} {d : Nat} (h : hexV c = some d) : d < 16 := by
  unfold hexV at h
  split at h
  · cases h; omega
  · split at h
    · cases h; omega
    · split at h
      · cases h; omega
      · cases h
theorem hexM_lt : ∀ (l : List UInt8) (acc v : Nat), acc ≤ 65535 → hexM acc l = some v → v ≤ 65535
  | [], acc, v, h, e => by cases e; exact h
  | c :: r, acc, v, h, e => by
    rw [hexM] at e
    split at e
    · cases e
    · split at e
      · cases e
      · exact hexM_lt r _ v (by omega) e
theorem grpV_lt {l : List UInt8} {v : Nat} (h : grpV l = some v) : v ≤ 65535 := by
  unfold grpV hexP at h
  split at h
  · cases h
  · split at h
    · cases h
    · exact hexM_lt _ _ _ (by omega) h
theorem lastV_lt {d : Bool} {p : List UInt8} {vs : List Nat} (h : lastV d p = some vs) : ∀ v ∈ vs, v ≤ 65535 := by
  unfold lastV at h
  split at h
  · cases h
    have hr := parse_range p
    intro v hv
    simp at hv
    omega
  · cases hg : grpV p with
    | none => rw [hg] at h; cases h
    | some x =>
      rw [hg] at h
      cases h
      intro v hv
      simp at hv
      subst hv
      exact grpV_lt hg
theorem seqV_lt (d : Bool) : ∀ (ps : List (List UInt8)) (vs : List Nat), seqV d ps = some vs → ∀ v ∈ vs, v ≤ 65535
  | [], vs, h => by cases h; intro v hv; cases hv
  | [p], vs, h => lastV_lt h
  | p :: q :: r, vs, h => by
    rw [seqV] at h
    split at h
    · rename_i v us h1 h2
      cases h
      intro x hx
      rcases List.mem_cons.1 hx with rfl | hx
      · exact grpV_lt h1
      · exact seqV_lt d (q :: r) us h2 x hx
    · cases h
theorem readV_lt {d : Bool} {l : List UInt8} {vs : List Nat} (h : readV d l = some vs) : ∀ v ∈ vs, v ≤ 65535 := by
  unfold readV at h
  split at h
  · cases h; intro v hv; cases hv
  · exact seqV_lt d _ _ h
theorem parse6_is {l : List UInt8} {gs : List Nat} (h : parse6 l = some gs) : gs.length = 8 ∧ ∀ v ∈ gs, v ≤ 65535 := by
  unfold parse6 at h
  split at h
  · rename_i u v hu hv
    have hcv : (cc l).2.2 ≠ true → v = [] := fun hc => by
      have : (cc l).2.1 = [] := by
        revert hc
        unfold cc Lib.cut
        split <;> simp
      rw [this] at hv
      unfold readV at hv
      rw [if_pos rfl] at hv
      cases hv; rfl
    split at h
    · rename_i hc
      cases h
      refine ⟨?_, ?_⟩
      · by_cases hf : (cc l).2.2 = true
        · unfold fits at hc; rw [if_pos hf] at hc; simp at hc ⊢; omega
        · unfold fits at hc; rw [if_neg hf] at hc; rw [hcv hf]; simp at hc ⊢; omega
      · intro x hx
        simp only [List.mem_append, List.mem_replicate] at hx
        rcases hx with (hx | hx) | hx
        · exact readV_lt hu x hx
        · omega
        · exact readV_lt hv x hx
    · cases h
  · cases h
end Go.Proofs.YtkenkjdelhmaoaaDoor
