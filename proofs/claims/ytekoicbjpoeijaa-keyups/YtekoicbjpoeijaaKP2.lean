/- Keys as data: cuts of cuts, meets. No conditions beyond rightness. -/
import Derived.Test.YtekoicbjpoeijaaKP
namespace Go.Proofs.Ytekoicbjpoeijaa
set_option linter.unusedVariables false
set_option linter.unusedSimpArgs false
open Go.RowKit
theorem cut_bad {k : Ke} (h : rightK k = false) (n : Int) : cutK k n = kz := by unfold cutK; rw [h]; rfl
theorem over_bad {a k : Ke} (h : rightK k = false) : overK a k = false := by
  unfold overK; rw [h]; simp
theorem cut_over {k : Ke} (h : rightK k = true) (n : Int) : overK (cutK k n) k = true := by
  obtain ⟨h1, h2, h3⟩ := cut_right h n
  exact (over_iff _ _).2 ⟨h1, h, h2, by rw [h3]; exact List.take_prefix _ _⟩
theorem cut_cut {k : Ke} (h : rightK k = true) (n m : Int) : cutK (cutK k n) m = cutK k (min n m) := by
  obtain ⟨h1, h2, h3⟩ := cut_right h n
  obtain ⟨g1, g2, g3⟩ := cut_right h1 m
  obtain ⟨f1, f2, f3⟩ := cut_right h (min n m)
  refine ke_of_letters g1 f1 (by rw [g2, h2, f2]) ?_
  rw [g3, h3, f3, List.take_take]
  congr 1
  omega
theorem over_cut {a k : Ke} (h : rightK k = true) : overK a k = (rightK a && decide (cutK k a.len = a)) := by
  rw [Bool.eq_iff_iff, over_iff]
  simp only [Bool.and_eq_true, decide_eq_true_eq]
  obtain ⟨h1, h2, h3⟩ := cut_right h a.len
  constructor
  · rintro ⟨ra, _, hk, hp⟩
    refine ⟨ra, ke_of_letters h1 ra (h2.trans hk.symm) ?_⟩
    rw [h3, List.prefix_iff_eq_take.1 hp]
    congr 1
    have := letK_len ra
    rw [List.prefix_iff_eq_take.1 hp] at this ⊢
    omega
  · rintro ⟨ra, e⟩
    refine ⟨ra, h, by rw [← e]; exact h2, ?_⟩
    rw [e] at h3
    rw [h3]; exact List.take_prefix _ _
theorem kz_ok : kz.ok := ⟨by unfold Word kz; decide, by unfold Word kz; decide, by unfold kz; decide, by unfold kz; decide, by unfold kz; decide, by unfold kz; decide, by unfold kz; decide⟩
theorem top_ok {k : Ke} (ok : k.ok) (n : Int) (n0 : -9223372036854775808 ≤ n) (n1 : n ≤ 9223372036854775807) : (topK k n).ok := by
  unfold topK
  split
  · exact ⟨by unfold Word; dsimp only; decide, by unfold Word; dsimp only; decide, by dsimp only; decide, by dsimp only; decide, n0, n1, top_len _ _⟩
  · exact ⟨word_hi _, word_lo _, ok.k0, ok.k1, n0, n1, by dsimp only; simp⟩
theorem cut_ok {k : Ke} (ok : k.ok) (n : Int) (n1 : n ≤ 9223372036854775807) : (cutK k n).ok := by
  unfold cutK
  split
  · split
    · exact ok
    · exact top_ok ok _ (by omega) (by omega)
  · exact kz_ok
theorem meet_ok {a b : Ke} (ok : a.ok) : (meetK a b).ok := by
  unfold meetK
  split
  · rename_i h
    have h1 := sameK_le a b
    have h2 : 0 ≤ sameK a b := by
      unfold meetB at h
      simp only [Bool.and_eq_true, decide_eq_true_eq] at h
      rw [sameK_eq h.2.1 h.2.2 h.1]; omega
    exact top_ok ok _ (by omega) (by omega)
  · exact kz_ok
theorem meetB_comm (a b : Ke) : meetB b a = meetB a b := by
  unfold meetB
  rw [Bool.eq_iff_iff]
  simp only [Bool.and_eq_true, decide_eq_true_eq]
  constructor
  · rintro ⟨h, h1, h2⟩; exact ⟨h.symm, h2, h1⟩
  · rintro ⟨h, h1, h2⟩; exact ⟨h.symm, h2, h1⟩
theorem meetK_comm (a b : Ke) : meetK b a = meetK a b := by
  cases h : meetB a b with
  | false =>
    have h' := h
    rw [← meetB_comm] at h'
    unfold meetK; rw [h, h']; rfl
  | true =>
    have h' := h
    rw [← meetB_comm] at h'
    obtain ⟨g1, g2, g3⟩ := meet_right h
    obtain ⟨f1, f2, f3⟩ := meet_right h'
    have hk : a.kind = b.kind := by unfold meetB at h; simp only [Bool.and_eq_true, decide_eq_true_eq] at h; exact h.1
    refine ke_of_letters f1 g1 (by rw [f2, g2, hk]) ?_
    rw [f3, g3, sameN_comm (letK b) (letK a), sameN_take]
theorem prefix_same : ∀ (x a b : List (List UInt8)), x <+: a → x <+: b → x.length ≤ sameN a b
  | [], _, _, _, _ => Nat.zero_le _
  | c :: x, [], b, h, _ => by simp at h
  | c :: x, a :: r, [], _, h => by simp at h
  | c :: x, a :: r, b :: s, h1, h2 => by
    rw [List.cons_prefix_cons] at h1 h2
    rw [sameN, if_pos (h1.1.symm.trans h2.1)]
    have := prefix_same x r s h1.2 h2.2
    simp; omega
theorem meet_over {a b : Ke} (x : Ke) (h : meetB a b = true) : overK x (meetK a b) = (overK x a && overK x b) := by
  obtain ⟨g1, g2, g3⟩ := meet_right h
  have hm := h
  unfold meetB at hm
  simp only [Bool.and_eq_true, decide_eq_true_eq] at hm
  obtain ⟨hk, ra, rb⟩ := hm
  rw [Bool.eq_iff_iff]
  simp only [Bool.and_eq_true, over_iff]
  constructor
  · rintro ⟨rx, _, hx, hp⟩
    rw [g3] at hp
    exact ⟨⟨rx, ra, hx.trans g2, hp.trans (List.take_prefix _ _)⟩, rx, rb, (hx.trans g2).trans hk, by rw [sameN_take] at hp; exact hp.trans (List.take_prefix _ _)⟩
  · rintro ⟨⟨rx, _, hx, p1⟩, _, _, _, p2⟩
    refine ⟨rx, g1, hx.trans g2.symm, ?_⟩
    rw [g3]
    have := prefix_same _ _ _ p1 p2
    rw [List.prefix_take_iff]
    exact ⟨p1, this⟩
theorem meet_over_a {a b : Ke} (h : meetB a b = true) : overK (meetK a b) a = true ∧ overK (meetK a b) b = true := by
  have g := (meet_right h).1
  have := meet_over (meetK a b) h
  rw [over_self, g] at this
  simpa using this.symm
theorem meet_bad {a b : Ke} (h : meetB a b = false) : meetK a b = kz := by unfold meetK; rw [h]; rfl
end Go.Proofs.Ytekoicbjpoeijaa
