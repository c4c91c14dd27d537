/- P9, P11, P12: what the theorem needs of these texts. No conditions beyond those that are written. -/
import Derived.Test.YtbekocknfpekoaaPA
namespace Go.Proofs.Ytbekocknfpekoaa
set_option linter.unusedVariables false
set_option linter.unusedSimpArgs false
open Go.RowKit
theorem pz_ok : pz.ok := ⟨kz_ok, kz_ok, by decide, by decide, by decide, by decide⟩
theorem upP_ok {p : Px} (ok : p.ok) (s : Sp) (b0 b1 : Int) (h0 : -9223372036854775808 ≤ b0) (h1 : b0 ≤ 9223372036854775807) (h2 : -9223372036854775808 ≤ b1) (h3 : b1 ≤ 9223372036854775807) : (upP s p b0 b1).ok := by
  unfold upP
  split
  · exact ⟨cutD_ok ok.k0 _ _, cutD_ok ok.k1 _ _, h0, h1, h2, h3⟩
  · exact pz_ok
theorem crossP_ok {p q : Px} (op : p.ok) (oq : q.ok) (s : Sp) : (crossP s p q).ok := by
  unfold crossP
  split
  · exact px_lower_ok op oq
  · exact pz_ok
theorem rootK_ok (k : Int) (h0 : -9223372036854775808 ≤ k) (h1 : k ≤ 9223372036854775807) : (rootK k).ok := by
  unfold rootK
  split
  · exact kz_ok
  · exact ⟨by unfold Word; dsimp only; omega, by unfold Word; dsimp only; omega, h0, h1, by dsimp only; omega, by dsimp only; omega, by simp⟩
theorem depthD_range (d : Dm) : 0 ≤ depthD d ∧ depthD d ≤ 128 := by
  cases h : rightD d with
  | true => have := depth_range h; omega
  | false => unfold depthD; rw [if_neg (by simp [h])]; omega
structure Sp.ok (s : Sp) : Prop where
  n0 : -9223372036854775808 ≤ s.n
  n1 : s.n ≤ 9223372036854775807
  d0 : s.d0.ok
  d1 : s.d1.ok
theorem topP_ok {s : Sp} (ok : s.ok) : (topP s).ok := by
  have h0 := depthD_range s.d0
  have h1 := depthD_range s.d1
  unfold topP
  split
  · exact ⟨rootK_ok _ ok.d0.k0 ok.d0.k1, rootK_ok _ ok.d1.k0 ok.d1.k1, by dsimp only; omega, by dsimp only; omega, by dsimp only; omega, by dsimp only; omega⟩
  · exact pz_ok
theorem fourK_ok (a : Int) : (fourK a).ok := ⟨word_hi _, word_lo _, by unfold fourK; dsimp only; omega, by unfold fourK; dsimp only; omega, by unfold fourK; dsimp only; omega, by unfold fourK; dsimp only; omega, by unfold fourK; simp⟩
def s9 : Sp := ⟨2, ⟨1, 1, 8⟩, ⟨1, 2, 8⟩⟩
theorem s9_ok : s9.ok := ⟨by decide, by decide, ⟨by decide, by decide, by decide, by decide, by decide, by decide⟩, ⟨by decide, by decide, by decide, by decide, by decide, by decide⟩⟩
def p9 : Px := ⟨0, 0, fourK 167837953, fourK 3232235777⟩
theorem p9_ok : p9.ok := ⟨fourK_ok _, fourK_ok _, by decide, by decide, by decide, by decide⟩
def a9 : Px := upP s9 p9 3 4
def b9 : Px := upP s9 p9 4 2
def x9 : Px := crossP s9 a9 b9
def t9 : Px := topP s9
theorem a9_ok : a9.ok := upP_ok p9_ok s9 3 4 (by decide) (by decide) (by decide) (by decide)
theorem b9_ok : b9.ok := upP_ok p9_ok s9 4 2 (by decide) (by decide) (by decide) (by decide)
theorem x9_ok : x9.ok := crossP_ok a9_ok b9_ok s9
theorem t9_ok : t9.ok := topP_ok s9_ok
theorem alive9_t (w : World) : Calls Try.prog 24 #[] w fun e w' => e = .returned (.bool true) ∧ Below w.heap.size w w' := by
  refine alive9_go s9 (fourK 167837953) (fourK 3232235777) (fourK 1) p9 a9 b9 x9 t9 (by decide +kernel) (by decide +kernel) four9_t
    (kfour_t _ (by decide) (by decide)) (kfour_t _ (by decide) (by decide)) (kfour_t _ (by decide) (by decide)) ?_ ?_ (up9_t s9 p9 p9_ok 3 4) (up9_t s9 p9 p9_ok 4 2) ?_ (top9_t s9) ?_ ?_ ?_ ?_ ?_ ?_ ?_ ?_ w
  · intro w
    have h := leaf_t s9 (fourK 167837953) (fourK 3232235777) (fourK_ok _) (fourK_ok _) w
    rw [show leafP s9 (fourK 167837953) (fourK 3232235777) = p9 by decide +kernel, show rightP s9 ⟨0, 0, fourK 167837953, fourK 3232235777⟩ = true by decide +kernel] at h
    exact h
  · intro w
    have h := leaf_t s9 (fourK 1) kz (fourK_ok _) kz_ok w
    rw [show leafP s9 (fourK 1) kz = pz by decide +kernel, show rightP s9 ⟨0, 0, fourK 1, kz⟩ = false by decide +kernel] at h
    exact h
  · intro w
    have h := cross9_t s9 a9 b9 a9_ok b9_ok w
    rw [show crossB s9 a9 b9 = true by decide +kernel] at h
    exact h
  · intro w
    have h := sound_t s9 w
    rw [show soundS s9 = true by decide +kernel] at h
    exact h
  · intro w
    have h := sound_t ⟨3, s9.d0, s9.d1⟩ w
    rw [show soundS ⟨3, s9.d0, s9.d1⟩ = false by decide +kernel] at h
    exact h
  · intro w
    have h := up9_t s9 p9 p9_ok 3 2 w
    rw [show upP s9 p9 3 2 = x9 by decide +kernel] at h
    exact h
  · intro w
    have h := height_t s9 x9 x9_ok w
    rw [show heightP s9 x9 = 5 by decide +kernel] at h
    exact h
  · intro w
    have h := over9_t s9 t9 p9 t9_ok p9_ok w
    rw [show overP s9 t9 p9 = true by decide +kernel] at h
    exact h
  · intro w
    have h := over9_t s9 p9 t9 p9_ok t9_ok w
    rw [show overP s9 p9 t9 = false by decide +kernel] at h
    exact h
  · intro w
    have h := pcmp_t p9 t9 p9_ok t9_ok w
    rw [show cmpP p9 t9 = -1 by decide +kernel] at h
    exact h
  · intro w
    have h := right9_t s9 x9 x9_ok w
    rw [show rightP s9 x9 = true by decide +kernel] at h
    exact h
end Go.Proofs.Ytbekocknfpekoaa
namespace Go.Proofs.Ytbekocknfpekoaa
set_option linter.unusedVariables false
set_option linter.unusedSimpArgs false
open Go.RowKit
/-- on a level of a dimension, the zero dimension of a space of one dimension too -/
def onE (d : Dm) (l : Int) (k : Ke) : Bool := if d = dz then decide (l = 0) && decide (k = kz) else onD d l k
theorem rightD_dz : rightD dz = false := by decide +kernel
theorem depth_dz : depthD dz = 0 := by decide +kernel
theorem lenD_dz (l : Int) : lenD dz l = -1 := lenD_no (by rw [rightD_dz]; simp)
theorem cutD_dz (l : Int) (k : Ke) : cutD dz l k = kz := by unfold cutD; rw [if_pos (.inl (lenD_dz l))]
theorem not_dz {d : Dm} (h : rightD d = true) : ¬ d = dz := by rintro rfl; rw [rightD_dz] at h; cases h
theorem onE_range {d : Dm} {l : Int} {k : Ke} (h : onE d l k = true) : 0 ≤ l ∧ l ≤ depthD d := by
  unfold onE at h
  split at h
  · rename_i e; subst e
    simp only [Bool.and_eq_true, decide_eq_true_eq] at h
    rw [depth_dz]; omega
  · obtain ⟨_, g2, g3⟩ := lenD_there ((onD_iff d l k).1 h).1
    exact ⟨g2, g3⟩
theorem lenD_nn {d : Dm} {l : Int} (h : rightD d = true) (h0 : 0 ≤ l) (h1 : l ≤ depthD d) : 0 ≤ lenD d l := by
  rw [lenD_yes h h0 h1]; omega
theorem onE_cut {d : Dm} {l : Int} {k : Ke} (h : onE d l k = true) : cutD d l k = k := by
  unfold onE at h
  split at h
  · rename_i e; subst e
    simp only [Bool.and_eq_true, decide_eq_true_eq] at h
    rw [cutD_dz, h.2]
  · exact (on_cut h).1
theorem onE_twice {d : Dm} {i j l : Int} {k x : Ke} (h : onE d l x = true) (h0 : 0 ≤ i) (hij : i ≤ j) (hj : j ≤ depthD d) : cutD d j (cutD d i k) = cutD d j k := by
  unfold onE at h
  split at h
  · rename_i e; subst e; rw [cutD_dz, cutD_dz]
  · have r := (lenD_there ((onD_iff d l x).1 h).1).1
    exact cutD_cutD k (lenD_nn r h0 (by omega)) (lenD_nn r (by omega) hj) hij
theorem root_right {k : Int} (h : k = 1 ∨ k = 2 ∨ k = 3) : rightK (rootK k) = true ∧ letK (rootK k) = [] ∧ (rootK k).kind = k := by
  rcases h with rfl | rfl | rfl <;> exact ⟨by decide +kernel, by decide +kernel, by decide +kernel⟩
theorem cut_root {k : Ke} (h : rightK k = true) (hk : k.kind = 1 ∨ k.kind = 2 ∨ k.kind = 3) : cutK k 0 = rootK k.kind := by
  obtain ⟨c1, c2, c3⟩ := cut_right h 0
  obtain ⟨r1, r2, r3⟩ := root_right hk
  exact ke_of_letters c1 r1 (by rw [c2, r3]) (by rw [c3, r2]; rfl)
theorem onE_root {d : Dm} {l : Int} {k : Ke} (h : onE d l k = true) : cutD d (depthD d) k = rootK d.kind := by
  unfold onE at h
  split at h
  · rename_i e; subst e; rw [cutD_dz]; decide +kernel
  · obtain ⟨g1, g2, g3, _⟩ := (onD_iff d l k).1 h
    have r := (lenD_there g1).1
    have e := lenD_end r
    rw [cutD_yes (by omega) g2, e, ← g2]
    exact cut_root g3 (by rw [g2]; exact kind_dim r)
theorem onE_top {d : Dm} (h : rightD d = true ∨ d = dz) : onE d (depthD d) (rootK d.kind) = true := by
  unfold onE
  split
  · rename_i e; subst e; decide +kernel
  · rename_i e
    have r := h.resolve_right e
    have el := lenD_end r
    have hk := kind_dim r
    obtain ⟨r1, r2, r3⟩ := root_right hk
    have hl := letK_len r1
    rw [r2] at hl
    exact (onD_iff _ _ _).2 ⟨by omega, r3, r1, .inl (by rw [el, ← hl]; rfl)⟩
theorem sound_dims {s : Sp} (h : soundS s = true) : rightD s.d0 = true ∧ (rightD s.d1 = true ∨ s.d1 = dz) ∧ (s.n = 1 ∧ s.d1 = dz ∨ s.n = 2 ∧ rightD s.d1 = true) := by
  unfold soundS at h
  split at h
  · simp only [Bool.and_eq_true, decide_eq_true_eq] at h
    exact ⟨h.1, .inr h.2, .inl ⟨by assumption, h.2⟩⟩
  · simp only [Bool.and_eq_true, decide_eq_true_eq] at h
    exact ⟨h.2.1, .inl h.2.2, .inr ⟨h.1, h.2.2⟩⟩
theorem right_iff (s : Sp) (p : Px) : rightP s p = true ↔ soundS s = true ∧ onE s.d0 p.a0 p.k0 = true ∧ onE s.d1 p.a1 p.k1 = true := by
  unfold rightP
  simp only [Bool.and_eq_true]
  constructor
  · rintro ⟨h1, h2, h3⟩
    obtain ⟨g1, g2, g3⟩ := sound_dims h1
    refine ⟨h1, by unfold onE; rw [if_neg (not_dz g1)]; exact h2, ?_⟩
    unfold onE
    rcases g3 with ⟨g3, g4⟩ | ⟨g3, g4⟩
    · rw [if_pos g3] at h3; rw [if_pos g4]; exact h3
    · rw [if_neg (by omega)] at h3; rw [if_neg (not_dz g4)]; exact h3
  · rintro ⟨h1, h2, h3⟩
    obtain ⟨g1, g2, g3⟩ := sound_dims h1
    unfold onE at h2 h3
    rw [if_neg (not_dz g1)] at h2
    refine ⟨h1, h2, ?_⟩
    rcases g3 with ⟨g3, g4⟩ | ⟨g3, g4⟩
    · rw [if_pos g4] at h3; rw [if_pos g3]; exact h3
    · rw [if_neg (not_dz g4)] at h3; rw [if_neg (by omega)]; exact h3
theorem pz_not_right (s : Sp) : rightP s pz = false := by
  cases h : rightP s pz with
  | false => rfl
  | true =>
    obtain ⟨h1, h2, _⟩ := (right_iff s pz).1 h
    obtain ⟨g1, _, _⟩ := sound_dims h1
    unfold onE at h2
    rw [if_neg (not_dz g1)] at h2
    obtain ⟨_, e, _⟩ := (onD_iff _ _ _).1 h2
    have := kind_dim g1
    rw [← e] at this
    revert this
    decide +kernel
/-- what covering says -/
theorem overP_iff (s : Sp) (p q : Px) : overP s p q = true ↔ rightP s p = true ∧ rightP s q = true ∧ (q.a0 ≤ p.a0 ∧ p.k0 = cutD s.d0 p.a0 q.k0) ∧ q.a1 ≤ p.a1 ∧ p.k1 = cutD s.d1 p.a1 q.k1 := by
  unfold overP
  simp only [Bool.and_eq_true, decide_eq_true_eq]
  constructor
  · rintro ⟨h1, h2⟩
    cases hb : upB s q p.a0 p.a1 with
    | false =>
      unfold upP at h2
      rw [hb, if_neg (by simp)] at h2
      rw [h2, pz_not_right] at h1; cases h1
    | true =>
      unfold upP at h2
      rw [hb, if_pos rfl] at h2
      unfold upB at hb
      simp only [Bool.and_eq_true, decide_eq_true_eq] at hb
      have e0 : p.k0 = cutD s.d0 p.a0 q.k0 := congrArg Px.k0 h2
      have e1 : p.k1 = cutD s.d1 p.a1 q.k1 := congrArg Px.k1 h2
      exact ⟨h1, hb.1, ⟨hb.2.1, e0⟩, hb.2.2.2.1, e1⟩
  · rintro ⟨h1, h2, ⟨h3, h4⟩, h5, h6⟩
    refine ⟨h1, ?_⟩
    obtain ⟨_, o0, o1⟩ := (right_iff s p).1 h1
    have r0 := onE_range o0
    have r1 := onE_range o1
    unfold upP
    rw [if_pos (by unfold upB; simp only [Bool.and_eq_true, decide_eq_true_eq]; exact ⟨h2, h3, r0.2, h5, r1.2⟩)]
    exact px_ext rfl rfl h4 h6
theorem over_self9 (s : Sp) (p : Px) : overP s p p = rightP s p := by
  rw [Bool.eq_iff_iff, overP_iff]
  constructor
  · exact fun h => h.1
  · intro h
    obtain ⟨_, o0, o1⟩ := (right_iff s p).1 h
    exact ⟨h, h, ⟨by omega, (onE_cut o0).symm⟩, by omega, (onE_cut o1).symm⟩
theorem top_right9 {s : Sp} (h : soundS s = true) : rightP s (topP s) = true := by
  obtain ⟨g1, g2, _⟩ := sound_dims h
  rw [right_iff]
  unfold topP
  rw [if_pos h]
  exact ⟨h, onE_top (.inl g1), onE_top g2⟩
theorem over_top (s : Sp) (p : Px) : overP s (topP s) p = rightP s p := by
  rw [Bool.eq_iff_iff, overP_iff]
  constructor
  · exact fun h => h.2.1
  · intro h
    obtain ⟨h1, o0, o1⟩ := (right_iff s p).1 h
    have r0 := onE_range o0
    have r1 := onE_range o1
    refine ⟨top_right9 h1, h, ?_⟩
    unfold topP
    rw [if_pos h1]
    exact ⟨⟨r0.2, (onE_root o0).symm⟩, r1.2, (onE_root o1).symm⟩
theorem over_anti9 {s : Sp} {p q : Px} (h : overP s p q = true) (h' : overP s q p = true) : p = q := by
  obtain ⟨_, q1, ⟨q2, q3⟩, q4, q5⟩ := (overP_iff s p q).1 h
  obtain ⟨_, _, ⟨t2, _⟩, t4, _⟩ := (overP_iff s q p).1 h'
  obtain ⟨_, o0, o1⟩ := (right_iff s q).1 q1
  have e0 : p.a0 = q.a0 := by omega
  have e1 : p.a1 = q.a1 := by omega
  exact px_ext e0 e1 (by rw [q3, e0, onE_cut o0]) (by rw [q5, e1, onE_cut o1])
theorem over_trans9 {s : Sp} {p q x : Px} (h : overP s p q = true) (h' : overP s q x = true) : overP s p x = true := by
  obtain ⟨p1, q1, ⟨q2, q3⟩, q4, q5⟩ := (overP_iff s p q).1 h
  obtain ⟨_, x1, ⟨t2, t3⟩, t4, t5⟩ := (overP_iff s q x).1 h'
  obtain ⟨_, o0, o1⟩ := (right_iff s p).1 p1
  obtain ⟨_, m0, m1⟩ := (right_iff s q).1 q1
  have r0 := onE_range o0
  have r1 := onE_range o1
  have n0 := onE_range m0
  have n1 := onE_range m1
  rw [overP_iff]
  refine ⟨p1, x1, ⟨by omega, ?_⟩, by omega, ?_⟩
  · rw [q3, t3, onE_twice m0 n0.1 q2 r0.2]
  · rw [q5, t5, onE_twice m1 n1.1 q4 r1.2]
theorem over_right {s : Sp} {p q : Px} (h : overP s p q = true) : rightP s p = true ∧ rightP s q = true := ⟨((overP_iff s p q).1 h).1, ((overP_iff s p q).1 h).2.1⟩
end Go.Proofs.Ytbekocknfpekoaa
