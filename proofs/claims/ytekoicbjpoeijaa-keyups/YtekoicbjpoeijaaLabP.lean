/- Paths and their labels: what splits joins back, tops of tops, what two have in common. No conditions. -/
import Derived.Test.YtekoicbjpoeijaaLab6
namespace Go.Proofs.Ytekoicbjpoeijaa
set_option linter.unusedVariables false
set_option linter.unusedSimpArgs false
open Go.RowKit
theorem labB_no46 {x : List UInt8} (h : labB x = true) : (46 : UInt8) ∉ x := by
  unfold labB at h
  simp at h
  intro hm
  have := h.1.1 46 hm
  exact absurd this (by decide)
theorem labB_ne {x : List UInt8} (h : labB x = true) : x ≠ [] := by unfold labB at h; simp at h; exact h.1.2
theorem split_jn : ∀ (ls : List (List UInt8)), ls ≠ [] → (∀ x ∈ ls, labB x = true) → splitD (jn ls) = ls
  | [], h, _ => absurd rfl h
  | [x], _, h => by rw [jn_one]; exact splitD_no x (labB_no46 (h x (by simp)))
  | x :: y :: r, _, h => by
    rw [jn_cons x (y :: r) (by simp), splitD_at x _ (labB_no46 (h x (by simp))), split_jn (y :: r) (by simp) (fun z hz => h z (List.mem_cons_of_mem _ hz))]
theorem jn_ne {ls : List (List UInt8)} (h : ls ≠ []) (hl : ∀ x ∈ ls, labB x = true) : jn ls ≠ [] := by
  cases ls with
  | nil => exact absurd rfl h
  | cons x r =>
    have hx := labB_ne (hl x (by simp))
    cases r with
    | nil => rw [jn_one]; exact hx
    | cons y r => rw [jn_cons x (y :: r) (by simp)]; simp
theorem parts_jn {ls : List (List UInt8)} (hl : ∀ x ∈ ls, labB x = true) : partsL (jn ls) = ls := by
  unfold partsL
  by_cases h : ls = []
  · subst h; rfl
  · rw [if_neg (jn_ne h hl), split_jn ls h hl]
theorem right_jn {ls : List (List UInt8)} (hl : ∀ x ∈ ls, labB x = true) (h8 : ls.length ≤ 8) : rightB (jn ls) = true := by
  unfold rightB
  rw [parts_jn hl]
  simp [h8]
  exact hl
theorem labs_jn {ls : List (List UInt8)} (hl : ∀ x ∈ ls, labB x = true) (h8 : ls.length ≤ 8) : labsL (jn ls) = ls := by
  unfold labsL
  rw [if_pos (right_jn hl h8), parts_jn hl]
theorem labs_all (l : List UInt8) : ∀ x ∈ labsL l, labB x = true := by
  unfold labsL
  split
  · rename_i h; unfold rightB at h; simp at h; exact h.2
  · intro x hx; cases hx
theorem labs_take_all (l : List UInt8) (n : Nat) : ∀ x ∈ (labsL l).take n, labB x = true := fun x hx => labs_all l x (List.mem_of_mem_take hx)
theorem labs_top (l : List UInt8) (n : Int) : labsL (topL l n) = (labsL l).take n.toNat := labs_jn (labs_take_all l _) (by have := labsL_len l; rw [List.length_take]; omega)
theorem right_top (l : List UInt8) (n : Int) : rightB (topL l n) = true := right_jn (labs_take_all l _) (by have := labsL_len l; rw [List.length_take]; omega)
theorem jn_labs {l : List UInt8} (h : rightB l = true) : jn (labsL l) = l := by unfold labsL; rw [if_pos h, jn_parts]
theorem top_top (l : List UInt8) (n m : Int) : topL (topL l n) m = topL l (min n m) := by
  unfold topL
  rw [show labsL (jn ((labsL l).take n.toNat)) = (labsL l).take n.toNat from labs_top l n, List.take_take]
  congr 2
  omega
theorem top_len (l : List UInt8) (n : Int) : (topL l n).length ≤ 140737488355328 := by
  have h := jn_bound ((labsL l).take n.toNat) (fun x hx => labB_len (labs_take_all l _ x hx))
  have := labsL_len l
  rw [List.length_take] at h
  unfold topL
  omega
theorem join_labs {l : List UInt8} (h : rightB l = true) : joinE (labsL l) = 0 ∧ joinT (labsL l) = l := by
  have h0 : joinE (labsL l) = 0 := by
    unfold joinE
    rw [if_neg (by rw [Bool.not_eq_false, List.all_eq_true]; exact labs_all l), if_neg (by have := labsL_len l; omega)]
  exact ⟨h0, by unfold joinT; rw [if_pos h0, jn_labs h]⟩
theorem sameN_take : ∀ (a b : List (List UInt8)), a.take (sameN a b) = b.take (sameN a b)
  | [], b => by simp [sameN]
  | x :: a, [] => by simp [sameN]
  | x :: a, y :: b => by
    rw [sameN]
    split
    · rename_i h; rw [h, List.take_succ_cons, List.take_succ_cons, sameN_take a b]
    · simp
theorem sameN_next : ∀ (a b : List (List UInt8)), a.take (sameN a b + 1) = b.take (sameN a b + 1) → a = b
  | [], [], _ => rfl
  | [], y :: b, h => by simp [sameN] at h
  | x :: a, [], h => by simp [sameN] at h
  | x :: a, y :: b, h => by
    rw [sameN] at h
    split at h
    · rename_i hxy
      rw [List.take_succ_cons, List.take_succ_cons] at h
      have := sameN_next a b (List.cons.inj h).2
      rw [hxy, this]
    · rename_i hxy
      simp at h; exact absurd h hxy
theorem sameN_comm : ∀ (a b : List (List UInt8)), sameN a b = sameN b a
  | [], [] => rfl
  | [], y :: b => by simp [sameN]
  | x :: a, [] => by simp [sameN]
  | x :: a, y :: b => by
    rw [sameN, sameN, sameN_comm a b]
    by_cases h : x = y
    · rw [if_pos h, if_pos h.symm]
    · rw [if_neg h, if_neg (fun e => h e.symm)]
theorem sameN_self : ∀ (a : List (List UInt8)), sameN a a = a.length
  | [] => rfl
  | x :: a => by rw [sameN, if_pos rfl, sameN_self a]; rfl
theorem sameN_le : ∀ (a b : List (List UInt8)), sameN a b ≤ a.length
  | [], b => by simp [sameN]
  | x :: a, [] => by simp [sameN]
  | x :: a, y :: b => by
    have := sameN_le a b
    rw [sameN]
    split
    · simp; omega
    · simp
theorem topN_same (p q : List UInt8) : topL p (sameN (labsL p) (labsL q) : Nat) = topL q (sameN (labsL p) (labsL q) : Nat) := by
  unfold topL
  rw [Int.toNat_natCast, sameN_take]
theorem topN_next {p q : List UInt8} (hp : rightB p = true) (hq : rightB q = true) : topL p ((sameN (labsL p) (labsL q) : Nat) + 1) = topL q ((sameN (labsL p) (labsL q) : Nat) + 1) ↔ p = q := by
  constructor
  · intro h
    have h2 := congrArg labsL h
    rw [labs_top, labs_top, show (((sameN (labsL p) (labsL q) : Nat) : Int) + 1).toNat = sameN (labsL p) (labsL q) + 1 by omega] at h2
    have h3 := sameN_next _ _ h2
    rw [← jn_labs hp, ← jn_labs hq, h3]
  · rintro rfl; rfl
end Go.Proofs.Ytekoicbjpoeijaa
