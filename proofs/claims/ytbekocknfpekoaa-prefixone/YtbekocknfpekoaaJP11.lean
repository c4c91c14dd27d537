/- P11, P12: what the theorem needs of these texts. No conditions beyond those that are written. -/
import Derived.Test.YtbekocknfpekoaaP9
namespace Go.Proofs.Ytbekocknfpekoaa
set_option linter.unusedVariables false
set_option linter.unusedSimpArgs false
open Go.RowKit
/-- on a level of a dimension, the zero dimension of a space of one dimension too -/
def onE (d : Dm) (l : Int) (k : Ke) : Bool := if d = dz then decide (l = 0) && decide (k = kz) else onD d l k
theorem rightD_dz : rightD dz = false := by decide +kernel
theorem depth_dz : depthD dz = 0 := by decide +kernel
theorem lenD_dz (l : Int) : lenD dz l = -1 := lenD_no (by rw [rightD_dz]; simp)
theorem cutD_dz (l : Int) (k : Ke) : cutD dz l k = kz := by unfold cutD; rw [if_pos (.inl (lenD_dz l))]
theorem not_dz {d : Dm} (h : rightD d = true) : ¬ d = dz := by rintro rfl; rw [rightD_dz] at h; cases h
theorem onE_range {d : Dm} {l : Int} {k : Ke} (h : onE d l k = true) : 0 ≤ l ∧ l ≤ depthD d := by
  unfold onE at h
  split at h
  · rename_i e; subst e
    simp only [Bool.and_eq_true, decide_eq_true_eq] at h
    rw [depth_dz]; omega
  · obtain ⟨_, g2, g3⟩ := lenD_there ((onD_iff d l k).1 h).1
    exact ⟨g2, g3⟩
theorem lenD_nn {d : Dm} {l : Int} (h : rightD d = true) (h0 : 0 ≤ l) (h1 : l ≤ depthD d) : 0 ≤ lenD d l := by
  rw [lenD_yes h h0 h1]; omega
theorem onE_cut {d : Dm} {l : Int} {k : Ke} (h : onE d l k = true) : cutD d l k = k := by
  unfold onE at h
  split at h
  · rename_i e; subst e
    simp only [Bool.and_eq_true, decide_eq_true_eq] at h
    rw [cutD_dz, h.2]
  · exact (on_cut h).1
theorem onE_up {d : Dm} {i j : Int} {k : Ke} (h : onE d i k = true) (hij : i ≤ j) (hj : j ≤ depthD d) : onE d j (cutD d j k) = true := by
  have hr := onE_range h
  unfold onE at *
  split at h
  · rename_i e; subst e
    rw [if_pos rfl, cutD_dz]
    rw [depth_dz] at hj
    simp; omega
  · rename_i e
    rw [if_neg e]
    have r := (lenD_there ((onD_iff d i k).1 h).1).1
    exact cut_on h (lenD_nn r (by omega) hj) hij
theorem onE_twice {d : Dm} {i j l : Int} {k x : Ke} (h : onE d l x = true) (h0 : 0 ≤ i) (hij : i ≤ j) (hj : j ≤ depthD d) : cutD d j (cutD d i k) = cutD d j k := by
  unfold onE at h
  split at h
  · rename_i e; subst e; rw [cutD_dz, cutD_dz]
  · have r := (lenD_there ((onD_iff d l x).1 h).1).1
    exact cutD_cutD k (lenD_nn r h0 (by omega)) (lenD_nn r (by omega) hj) hij
theorem root_right {k : Int} (h : k = 1 ∨ k = 2 ∨ k = 3) : rightK (rootK k) = true ∧ letK (rootK k) = [] ∧ (rootK k).kind = k := by
  rcases h with rfl | rfl | rfl <;> exact ⟨by decide +kernel, by decide +kernel, by decide +kernel⟩
theorem cut_root {k : Ke} (h : rightK k = true) (hk : k.kind = 1 ∨ k.kind = 2 ∨ k.kind = 3) : cutK k 0 = rootK k.kind := by
  obtain ⟨c1, c2, c3⟩ := cut_right h 0
  obtain ⟨r1, r2, r3⟩ := root_right hk
  exact ke_of_letters c1 r1 (by rw [c2, r3]) (by rw [c3, r2]; rfl)
theorem onE_root {d : Dm} {l : Int} {k : Ke} (h : onE d l k = true) : cutD d (depthD d) k = rootK d.kind := by
  unfold onE at h
  split at h
  · rename_i e; subst e; rw [cutD_dz]; decide +kernel
  · obtain ⟨g1, g2, g3, _⟩ := (onD_iff d l k).1 h
    have r := (lenD_there g1).1
    have e := lenD_end r
    rw [cutD_yes (by omega) g2, e, ← g2]
    exact cut_root g3 (by rw [g2]; exact kind_dim r)
theorem onE_top {d : Dm} (h : rightD d = true ∨ d = dz) : onE d (depthD d) (rootK d.kind) = true := by
  unfold onE
  split
  · rename_i e; subst e; decide +kernel
  · rename_i e
    have r := h.resolve_right e
    have el := lenD_end r
    have hk := kind_dim r
    obtain ⟨r1, r2, r3⟩ := root_right hk
    have hl := letK_len r1
    rw [r2] at hl
    exact (onD_iff _ _ _).2 ⟨by omega, r3, r1, .inl (by rw [el, ← hl]; rfl)⟩
theorem sound_dims {s : Sp} (h : soundS s = true) : rightD s.d0 = true ∧ (rightD s.d1 = true ∨ s.d1 = dz) ∧ (s.n = 1 ∧ s.d1 = dz ∨ s.n = 2 ∧ rightD s.d1 = true) := by
  unfold soundS at h
  split at h
  · simp only [Bool.and_eq_true, decide_eq_true_eq] at h
    exact ⟨h.1, .inr h.2, .inl ⟨by assumption, h.2⟩⟩
  · simp only [Bool.and_eq_true, decide_eq_true_eq] at h
    exact ⟨h.2.1, .inl h.2.2, .inr ⟨h.1, h.2.2⟩⟩
theorem right_iff (s : Sp) (p : Px) : rightP s p = true ↔ soundS s = true ∧ onE s.d0 p.a0 p.k0 = true ∧ onE s.d1 p.a1 p.k1 = true := by
  unfold rightP
  simp only [Bool.and_eq_true]
  constructor
  · rintro ⟨h1, h2, h3⟩
    obtain ⟨g1, g2, g3⟩ := sound_dims h1
    refine ⟨h1, by unfold onE; rw [if_neg (not_dz g1)]; exact h2, ?_⟩
    unfold onE
    rcases g3 with ⟨g3, g4⟩ | ⟨g3, g4⟩
    · rw [if_pos g3] at h3; rw [if_pos g4]; exact h3
    · rw [if_neg (by omega)] at h3; rw [if_neg (not_dz g4)]; exact h3
  · rintro ⟨h1, h2, h3⟩
    obtain ⟨g1, g2, g3⟩ := sound_dims h1
    unfold onE at h2 h3
    rw [if_neg (not_dz g1)] at h2
    refine ⟨h1, h2, ?_⟩
    rcases g3 with ⟨g3, g4⟩ | ⟨g3, g4⟩
    · rw [if_pos g4] at h3; rw [if_pos g3]; exact h3
    · rw [if_neg (not_dz g4)] at h3; rw [if_neg (by omega)]; exact h3
theorem pz_not_right (s : Sp) : rightP s pz = false := by
  cases h : rightP s pz with
  | false => rfl
  | true =>
    obtain ⟨h1, h2, _⟩ := (right_iff s pz).1 h
    obtain ⟨g1, _, _⟩ := sound_dims h1
    unfold onE at h2
    rw [if_neg (not_dz g1)] at h2
    obtain ⟨_, e, _⟩ := (onD_iff _ _ _).1 h2
    have := kind_dim g1
    rw [← e] at this
    revert this
    decide +kernel
/-- what covering says -/
theorem overP_iff (s : Sp) (p q : Px) : overP s p q = true ↔ rightP s p = true ∧ rightP s q = true ∧ (q.a0 ≤ p.a0 ∧ p.k0 = cutD s.d0 p.a0 q.k0) ∧ q.a1 ≤ p.a1 ∧ p.k1 = cutD s.d1 p.a1 q.k1 := by
  unfold overP
  simp only [Bool.and_eq_true, decide_eq_true_eq]
  constructor
  · rintro ⟨h1, h2⟩
    cases hb : upB s q p.a0 p.a1 with
    | false =>
      unfold upP at h2
      rw [hb, if_neg (by simp)] at h2
      rw [h2, pz_not_right] at h1; cases h1
    | true =>
      unfold upP at h2
      rw [hb, if_pos rfl] at h2
      unfold upB at hb
      simp only [Bool.and_eq_true, decide_eq_true_eq] at hb
      have e0 : p.k0 = cutD s.d0 p.a0 q.k0 := congrArg Px.k0 h2
      have e1 : p.k1 = cutD s.d1 p.a1 q.k1 := congrArg Px.k1 h2
      exact ⟨h1, hb.1, ⟨hb.2.1, e0⟩, hb.2.2.2.1, e1⟩
  · rintro ⟨h1, h2, ⟨h3, h4⟩, h5, h6⟩
    refine ⟨h1, ?_⟩
    obtain ⟨_, o0, o1⟩ := (right_iff s p).1 h1
    have r0 := onE_range o0
    have r1 := onE_range o1
    unfold upP
    rw [if_pos (by unfold upB; simp only [Bool.and_eq_true, decide_eq_true_eq]; exact ⟨h2, h3, r0.2, h5, r1.2⟩)]
    exact px_ext rfl rfl h4 h6
theorem over_self9 (s : Sp) (p : Px) : overP s p p = rightP s p := by
  rw [Bool.eq_iff_iff, overP_iff]
  constructor
  · exact fun h => h.1
  · intro h
    obtain ⟨_, o0, o1⟩ := (right_iff s p).1 h
    exact ⟨h, h, ⟨by omega, (onE_cut o0).symm⟩, by omega, (onE_cut o1).symm⟩
theorem top_right9 {s : Sp} (h : soundS s = true) : rightP s (topP s) = true := by
  obtain ⟨g1, g2, _⟩ := sound_dims h
  rw [right_iff]
  unfold topP
  rw [if_pos h]
  exact ⟨h, onE_top (.inl g1), onE_top g2⟩
theorem over_top (s : Sp) (p : Px) : overP s (topP s) p = rightP s p := by
  rw [Bool.eq_iff_iff, overP_iff]
  constructor
  · exact fun h => h.2.1
  · intro h
    obtain ⟨h1, o0, o1⟩ := (right_iff s p).1 h
    have r0 := onE_range o0
    have r1 := onE_range o1
    refine ⟨top_right9 h1, h, ?_⟩
    unfold topP
    rw [if_pos h1]
    exact ⟨⟨r0.2, (onE_root o0).symm⟩, r1.2, (onE_root o1).symm⟩
theorem over_anti9 {s : Sp} {p q : Px} (h : overP s p q = true) (h' : overP s q p = true) : p = q := by
  obtain ⟨_, q1, ⟨q2, q3⟩, q4, q5⟩ := (overP_iff s p q).1 h
  obtain ⟨_, _, ⟨t2, _⟩, t4, _⟩ := (overP_iff s q p).1 h'
  obtain ⟨_, o0, o1⟩ := (right_iff s q).1 q1
  have e0 : p.a0 = q.a0 := by omega
  have e1 : p.a1 = q.a1 := by omega
  exact px_ext e0 e1 (by rw [q3, e0, onE_cut o0]) (by rw [q5, e1, onE_cut o1])
theorem over_trans9 {s : Sp} {p q x : Px} (h : overP s p q = true) (h' : overP s q x = true) : overP s p x = true := by
  obtain ⟨p1, q1, ⟨q2, q3⟩, q4, q5⟩ := (overP_iff s p q).1 h
  obtain ⟨_, x1, ⟨t2, t3⟩, t4, t5⟩ := (overP_iff s q x).1 h'
  obtain ⟨_, o0, o1⟩ := (right_iff s p).1 p1
  obtain ⟨_, m0, m1⟩ := (right_iff s q).1 q1
  have r0 := onE_range o0
  have r1 := onE_range o1
  have n0 := onE_range m0
  have n1 := onE_range m1
  rw [overP_iff]
  refine ⟨p1, x1, ⟨by omega, ?_⟩, by omega, ?_⟩
  · rw [q3, t3, onE_twice m0 n0.1 q2 r0.2]
  · rw [q5, t5, onE_twice m1 n1.1 q4 r1.2]
theorem over_right {s : Sp} {p q : Px} (h : overP s p q = true) : rightP s p = true ∧ rightP s q = true := ⟨((overP_iff s p q).1 h).1, ((overP_iff s p q).1 h).2.1⟩
end Go.Proofs.Ytbekocknfpekoaa
namespace Go.Proofs.Ytbekocknfpekoaa
set_option linter.unusedVariables false
set_option linter.unusedSimpArgs false
open Go.RowKit
/-- in one dimension: where both cover something, the lower one is covered by both -/
theorem dim_lower {d : Dm} {a b l : Int} {j k m : Ke} (hj : onE d a j = true) (hk : onE d b k = true) (hm : onE d l m = true) (h1 : l ≤ a) (h2 : j = cutD d a m) (h3 : l ≤ b) (h4 : k = cutD d b m) :
    ((if b < a then b else a) ≤ a ∧ j = cutD d a (if b < a then k else j)) ∧ (if b < a then b else a) ≤ b ∧ k = cutD d b (if b < a then k else j) := by
  have ra := onE_range hj
  have rb := onE_range hk
  have rl := onE_range hm
  by_cases h : b < a
  · rw [if_pos h, if_pos h]
    refine ⟨⟨by omega, ?_⟩, by omega, (onE_cut hk).symm⟩
    rw [h4, onE_twice hm rb.1 (by omega) ra.2, ← h2]
  · rw [if_neg h, if_neg h]
    refine ⟨⟨by omega, (onE_cut hj).symm⟩, by omega, ?_⟩
    rw [h2, onE_twice hm ra.1 (by omega) rb.2, ← h4]
theorem cross_right {s : Sp} {p q : Px} (hp : rightP s p = true) (hq : rightP s q = true) : rightP s (crossX p q) = true := by
  obtain ⟨h1, o0, o1⟩ := (right_iff s p).1 hp
  obtain ⟨_, m0, m1⟩ := (right_iff s q).1 hq
  rw [right_iff]
  unfold crossX
  dsimp only
  refine ⟨h1, ?_, ?_⟩
  · split; exact m0; exact o0
  · split; exact m1; exact o1
theorem cross_both {s : Sp} {p q x : Px} (h : overP s p x = true) (h' : overP s q x = true) : crossB s p q = true ∧ overP s (crossX p q) x = true := by
  obtain ⟨p1, x1, ⟨p2, p3⟩, p4, p5⟩ := (overP_iff s p x).1 h
  obtain ⟨q1, _, ⟨q2, q3⟩, q4, q5⟩ := (overP_iff s q x).1 h'
  obtain ⟨_, o0, o1⟩ := (right_iff s p).1 p1
  obtain ⟨_, m0, m1⟩ := (right_iff s q).1 q1
  obtain ⟨_, n0, n1⟩ := (right_iff s x).1 x1
  have hr := cross_right p1 q1
  have a0 := dim_lower o0 m0 n0 p2 p3 q2 q3
  have a1 := dim_lower o1 m1 n1 p4 p5 q4 q5
  constructor
  · unfold crossB
    rw [Bool.and_eq_true, overP_iff, overP_iff]
    unfold crossX at *
    exact ⟨⟨p1, hr, a0.1, a1.1⟩, q1, hr, a0.2, a1.2⟩
  · rw [overP_iff]
    refine ⟨hr, x1, ?_, ?_⟩
    · unfold crossX; dsimp only
      split
      · exact ⟨q2, q3⟩
      · exact ⟨p2, p3⟩
    · unfold crossX; dsimp only
      split
      · exact ⟨q4, q5⟩
      · exact ⟨p4, p5⟩
theorem cross_swap {s : Sp} {p q : Px} (h : crossB s p q = true) : crossX p q = crossX q p := by
  unfold crossB at h
  rw [Bool.and_eq_true, overP_iff, overP_iff] at h
  obtain ⟨⟨p1, c1, ⟨p2, p3⟩, p4, p5⟩, q1, _, ⟨q2, q3⟩, q4, q5⟩ := h
  obtain ⟨_, o0, o1⟩ := (right_iff s p).1 p1
  obtain ⟨_, m0, m1⟩ := (right_iff s q).1 q1
  unfold crossX at *
  dsimp only at *
  have k0 : p.a0 = q.a0 → p.k0 = q.k0 := fun e => by
    rw [if_neg (by omega)] at q3
    rw [q3, ← e, onE_cut o0]
  have k1 : p.a1 = q.a1 → p.k1 = q.k1 := fun e => by
    rw [if_neg (by omega)] at q5
    rw [q5, ← e, onE_cut o1]
  refine px_ext ?_ ?_ ?_ ?_ <;> dsimp only
  · split <;> split <;> omega
  · split <;> split <;> omega
  · by_cases h1 : q.a0 < p.a0
    · rw [if_pos h1, if_neg (by omega)]
    · rw [if_neg h1]
      by_cases h2 : p.a0 < q.a0
      · rw [if_pos h2]
      · rw [if_neg h2]; exact k0 (by omega)
  · by_cases h1 : q.a1 < p.a1
    · rw [if_pos h1, if_neg (by omega)]
    · rw [if_neg h1]
      by_cases h2 : p.a1 < q.a1
      · rw [if_pos h2]
      · rw [if_neg h2]; exact k1 (by omega)
theorem crossB_swap (s : Sp) (p q : Px) : crossB s p q = crossB s q p := by
  rw [Bool.eq_iff_iff]
  constructor
  · intro h
    have e := cross_swap h
    unfold crossB at *
    rw [← e, Bool.and_comm]; exact h
  · intro h
    have e := cross_swap h
    unfold crossB at *
    rw [← e, Bool.and_comm]; exact h
theorem crossP_swap (s : Sp) (p q : Px) : crossP s p q = crossP s q p := by
  unfold crossP
  rw [← crossB_swap s p q]
  cases h : crossB s p q with
  | false => rfl
  | true => rw [if_pos rfl, if_pos rfl]; exact cross_swap h
theorem cross_meets {s : Sp} {p q : Px} (h : crossB s p q = true) (x : Px) : crossP s p q = crossX p q ∧ overP s p (crossX p q) = true ∧ overP s q (crossX p q) = true ∧ (overP s p x && overP s q x) = overP s (crossX p q) x := by
  refine ⟨by unfold crossP; rw [if_pos h], ?_⟩
  have h2 := h
  unfold crossB at h2
  rw [Bool.and_eq_true] at h2
  refine ⟨h2.1, h2.2, ?_⟩
  rw [Bool.eq_iff_iff, Bool.and_eq_true]
  constructor
  · rintro ⟨a, b⟩; exact (cross_both a b).2
  · intro a; exact ⟨over_trans9 h2.1 a, over_trans9 h2.2 a⟩
/-- what Up gives on a node -/
theorem up_on {s : Sp} {p : Px} {b0 b1 : Int} (h : upB s p b0 b1 = true) : upP s p b0 b1 = upX s p b0 b1 ∧ overP s (upX s p b0 b1) p = true ∧ rightP s (upX s p b0 b1) = true := by
  have h2 := h
  unfold upB at h2
  simp only [Bool.and_eq_true, decide_eq_true_eq] at h2
  obtain ⟨h1, g0, g1, g2, g3⟩ := h2
  obtain ⟨hs, o0, o1⟩ := (right_iff s p).1 h1
  have hr : rightP s (upX s p b0 b1) = true := (right_iff _ _).2 ⟨hs, onE_up o0 g0 g1, onE_up o1 g2 g3⟩
  refine ⟨by unfold upP; rw [if_pos h], ?_, hr⟩
  rw [overP_iff]
  exact ⟨hr, h1, ⟨g0, rfl⟩, g2, rfl⟩
theorem over_is_up (s : Sp) (p q : Px) : overP s q p = (rightP s q && (rightP s p && decide (upP s p q.a0 q.a1 = q))) := by
  rw [Bool.eq_iff_iff]
  simp only [Bool.and_eq_true, decide_eq_true_eq]
  constructor
  · intro h
    have hr := over_right h
    unfold overP at h
    simp only [Bool.and_eq_true, decide_eq_true_eq] at h
    exact ⟨hr.1, hr.2, h.2.symm⟩
  · rintro ⟨h1, _, h3⟩
    unfold overP
    simp only [Bool.and_eq_true, decide_eq_true_eq]
    exact ⟨h1, h3.symm⟩
end Go.Proofs.Ytbekocknfpekoaa
