/- Dimensions as data: lengths fall, cuts to levels. No conditions beyond rightness. -/
import Derived.Test.YtekoicbjpoeijaaD6
namespace Go.Proofs.Ytekoicbjpoeijaa
set_option linter.unusedVariables false
set_option linter.unusedSimpArgs false
open Go.RowKit
theorem lenD_yes {d : Dm} {l : Int} (h : rightD d = true) (h0 : 0 ≤ l) (h1 : l ≤ depthD d) : lenD d l = max (wid d.kind - l * d.step) 0 := by
  unfold lenD; rw [if_pos ⟨h, h0, h1⟩]
theorem lenD_no {d : Dm} {l : Int} (h : ¬ (rightD d = true ∧ 0 ≤ l ∧ l ≤ depthD d)) : lenD d l = -1 := by
  unfold lenD; rw [if_neg h]
theorem lenD_there {d : Dm} {l : Int} (h : 0 ≤ lenD d l) : rightD d = true ∧ 0 ≤ l ∧ l ≤ depthD d := Classical.byContradiction fun e => by
  rw [lenD_no e] at h; omega
theorem lenD_zero {d : Dm} (h : rightD d = true) : lenD d 0 = wid d.kind := by
  obtain ⟨g1, _, _, _⟩ := depth_range h
  have hw := wid_range d.kind
  rw [lenD_yes h (by omega) (by omega)]; omega
theorem lenD_end {d : Dm} (h : rightD d = true) : lenD d (depthD d) = 0 := by
  obtain ⟨g1, _, g3, _⟩ := depth_range h
  rw [lenD_yes h (by omega) (by omega)]; omega
theorem lenD_iff {d : Dm} (h : rightD d = true) (l : Int) : decide (lenD d l = -1) = (decide (l < 0) || decide (depthD d < l)) := by
  rw [Bool.eq_iff_iff]
  simp only [decide_eq_true_eq, Bool.or_eq_true]
  constructor
  · intro e
    by_cases h0 : l < 0
    · exact .inl h0
    · by_cases h1 : depthD d < l
      · exact .inr h1
      · rw [lenD_yes h (by omega) (by omega)] at e; omega
  · intro e
    exact lenD_no (by omega)
theorem mul_step {l m s : Int} (h : l ≤ m) (hs : 0 ≤ s) : l * s ≤ m * s := Int.mul_le_mul_of_nonneg_right h hs
theorem lenD_mono {d : Dm} {i j : Int} (hi : 0 ≤ lenD d i) (hj : 0 ≤ lenD d j) (h : i ≤ j) : lenD d j ≤ lenD d i := by
  obtain ⟨r, i0, i1⟩ := lenD_there hi
  obtain ⟨_, j0, j1⟩ := lenD_there hj
  obtain ⟨_, s1, s2⟩ := (rightD_iff d).1 r
  rw [lenD_yes r i0 i1, lenD_yes r j0 j1]
  have := mul_step h (show 0 ≤ d.step by omega)
  omega
/-- from one level to the next -/
theorem lenD_step {d : Dm} (h : rightD d = true) {l : Int} (h0 : 0 ≤ l) (h1 : l < depthD d) : lenD d (l + 1) < lenD d l ∧ (lenD d l - lenD d (l + 1) = d.step ∨ (lenD d l - lenD d (l + 1) < d.step ∧ l + 1 = depthD d)) ∧ 0 < lenD d l := by
  obtain ⟨g1, g2, g3, g4⟩ := depth_range h
  obtain ⟨_, s1, s2⟩ := (rightD_iff d).1 h
  rw [lenD_yes h h0 (by omega), lenD_yes h (by omega) (by omega)]
  have e1 := mul_step (show l ≤ depthD d - 1 by omega) (show 0 ≤ d.step by omega)
  have e2 : (l + 1) * d.step = l * d.step + d.step := by rw [Int.add_mul, Int.one_mul]
  by_cases hl : l + 1 = depthD d
  · rw [← hl] at g3 g4
    rw [show l + 1 - 1 = l by omega] at g4
    refine ⟨by omega, ?_, by omega⟩
    by_cases hz : wid d.kind - (l + 1) * d.step < 0
    · right; exact ⟨by omega, hl⟩
    · left; omega
  · have e3 := mul_step (show l + 1 ≤ depthD d - 1 by omega) (show 0 ≤ d.step by omega)
    refine ⟨by omega, .inl (by omega), by omega⟩
theorem lenD_less {d : Dm} (h : rightD d = true) : ∀ (m : Nat) (l : Int), 0 ≤ l → l + m + 1 ≤ depthD d → lenD d (l + m + 1) < lenD d l
  | 0, l, h0, h1 => by
    have := (lenD_step h h0 (by omega)).1
    rw [show l + ((0 : Nat) : Int) + 1 = l + 1 by omega]; exact this
  | m + 1, l, h0, h1 => by
    have a := lenD_less h m l h0 (by omega)
    have b := (lenD_step h (l := l + m + 1) (by omega) (by omega)).1
    rw [show l + ((m + 1 : Nat) : Int) + 1 = l + m + 1 + 1 by omega]
    omega
theorem levelD_len {d : Dm} (h : rightD d = true) {l : Int} (h0 : 0 ≤ l) (h1 : l < depthD d) : levelD d (lenD d l) = l := by
  obtain ⟨k, rfl⟩ := Int.eq_ofNat_of_zero_le h0
  have hc := cntD_ok h
  refine levelD_at (fun j hj => ?_) (by omega) rfl
  have := lenD_less h (k - j - 1) j (by omega) (by omega)
  rw [show (j : Int) + ((k - j - 1 : Nat) : Int) + 1 = (k : Int) by omega] at this
  omega
theorem levelD_bad {d : Dm} (h : rightD d = false) (n : Int) : levelD d n = -1 := levelD_no (fun j hj => by rw [cntD_bad h] at hj; omega)
theorem onD_iff (d : Dm) (l : Int) (k : Ke) : onD d l k = true ↔ 0 ≤ lenD d l ∧ k.kind = d.kind ∧ rightK k = true ∧ (k.len = lenD d l ∨ (d.kind = 3 ∧ k.len < lenD d l)) := by
  have := lenD_range d l
  unfold onD
  simp only [Bool.and_eq_true, Bool.or_eq_true, Bool.not_eq_true', decide_eq_false_iff_not, decide_eq_true_eq]
  constructor
  · rintro ⟨a, b, c, e⟩; exact ⟨by omega, b, c, e⟩
  · rintro ⟨a, b, c, e⟩; exact ⟨by omega, b, c, e⟩
theorem cutD_yes {d : Dm} {l : Int} {k : Ke} (h : 0 ≤ lenD d l) (hk : k.kind = d.kind) : cutD d l k = cutK k (lenD d l) := by
  unfold cutD; rw [if_neg (by rintro (e | e); omega; exact e hk)]
theorem cutD_kind {d : Dm} {l : Int} {k : Ke} (hk : ¬ k.kind = d.kind) : cutD d l k = kz := by unfold cutD; rw [if_pos (.inr hk)]
theorem kind_dim {d : Dm} (h : rightD d = true) : d.kind = 1 ∨ d.kind = 2 ∨ d.kind = 3 := by
  obtain ⟨_, s1, s2⟩ := (rightD_iff d).1 h
  unfold wid at s2
  by_cases a : d.kind = 1
  · exact .inl a
  · by_cases b : d.kind = 2
    · exact .inr (.inl b)
    · by_cases c : d.kind = 3
      · exact .inr (.inr c)
      · rw [if_neg a, if_neg b, if_neg c] at s2; omega
theorem on_cut {d : Dm} {l : Int} {k : Ke} (h : onD d l k = true) : cutD d l k = k ∧ rightK k = true := by
  obtain ⟨a, b, c, e⟩ := (onD_iff d l k).1 h
  refine ⟨?_, c⟩
  rw [cutD_yes a b]
  unfold cutK
  rw [if_pos c, if_pos (by rcases e with e | e <;> omega)]
theorem cut_on {d : Dm} {i j : Int} {k : Ke} (h : onD d i k = true) (hj : 0 ≤ lenD d j) (hij : i ≤ j) : onD d j (cutD d j k) = true := by
  obtain ⟨a, b, c, e⟩ := (onD_iff d i k).1 h
  have hm := lenD_mono a hj hij
  have hl := len_range c
  obtain ⟨c1, c2, c3⟩ := cut_right c (lenD d j)
  rw [cutD_yes hj b]
  refine (onD_iff _ _ _).2 ⟨hj, c2.trans b, c1, ?_⟩
  have l1 := letK_len c1
  have l2 := letK_len c
  rw [c3, List.length_take] at l1
  rcases e with e | ⟨e1, e2⟩
  · left; omega
  · by_cases hx : k.len < lenD d j
    · right; exact ⟨e1, by omega⟩
    · left; omega
theorem cutD_cutD {d : Dm} {i j : Int} (k : Ke) (hi : 0 ≤ lenD d i) (hj : 0 ≤ lenD d j) (hij : i ≤ j) : cutD d j (cutD d i k) = cutD d j k := by
  have hd := kind_dim (lenD_there hi).1
  have hm := lenD_mono hi hj hij
  have hz : ¬ kz.kind = d.kind := by unfold kz; dsimp only; omega
  by_cases hk : k.kind = d.kind
  · cases hr : rightK k with
    | false =>
      rw [cutD_yes hi hk, cut_bad hr, cutD_kind hz, cutD_yes hj hk, cut_bad hr]
    | true =>
      have h2 := (cut_right hr (lenD d i)).2.1
      rw [cutD_yes hi hk, cutD_yes hj (h2.trans hk), cut_cut hr, cutD_yes hj hk, show min (lenD d i) (lenD d j) = lenD d j by omega]
  · rw [cutD_kind hk, cutD_kind hz, cutD_kind hk]
theorem cutD_same {d : Dm} {i j : Int} (k x : Ke) (hi : 0 ≤ lenD d i) (hj : 0 ≤ lenD d j) (hij : i ≤ j) (h : cutD d i k = cutD d i x) : cutD d j k = cutD d j x := by
  rw [← cutD_cutD k hi hj hij, h, cutD_cutD x hi hj hij]
theorem cutD_ok {k : Ke} (ok : k.ok) (d : Dm) (l : Int) : (cutD d l k).ok := by
  have := lenD_range d l
  unfold cutD
  split
  · exact kz_ok
  · exact cut_ok ok _ (by omega)
theorem over_level {d : Dm} {i j : Int} {k x : Ke} (hk : onD d i k = true) (hx : onD d j x = true) (h3 : ¬ d.kind = 3) : overK x k = decide (cutD d j k = x) := by
  obtain ⟨a, b, c, e⟩ := (onD_iff d i k).1 hk
  obtain ⟨a2, b2, c2, e2⟩ := (onD_iff d j x).1 hx
  rw [over_cut c, c2, cutD_yes a2 b, Bool.true_and]
  have : x.len = lenD d j := by rcases e2 with e | e; exact e; exact absurd e.1 h3
  rw [this]
theorem over_cutD {d : Dm} {i j : Int} {k x : Ke} (hk : onD d i k = true) (hx : onD d j x = true) : overK (cutD d j k) k = true := by
  obtain ⟨a, b, c, e⟩ := (onD_iff d i k).1 hk
  obtain ⟨a2, _, _, _⟩ := (onD_iff d j x).1 hx
  rw [cutD_yes a2 b]
  exact cut_over c _
theorem over_is_cut {k x : Ke} (hr : rightK k = true) (h : overK x k = true) : cutK k x.len = x := by
  rw [over_cut hr] at h
  simp only [Bool.and_eq_true, decide_eq_true_eq] at h
  exact h.2
end Go.Proofs.Ytekoicbjpoeijaa
