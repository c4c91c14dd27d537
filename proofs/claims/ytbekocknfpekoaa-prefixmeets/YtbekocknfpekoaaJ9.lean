/- P9, P11, P12, LawPrefixMeets, OpenP: what the theorem needs of these texts. No conditions beyond those that are written. -/
import Derived.Test.YtbekocknfpekoaaPA
import Derived.Test.YtbekocknfpekoaaJ0
import Derived.Test.YtbekocknfpekoaaJ1
import Derived.ChangeSame
namespace Go.Proofs.Ytbekocknfpekoaa
set_option linter.unusedVariables false
set_option linter.unusedSimpArgs false
open Go.RowKit
theorem pz_ok : pz.ok := ⟨kz_ok, kz_ok, by decide, by decide, by decide, by decide⟩
theorem upP_ok {p : Px} (ok : p.ok) (s : Sp) (b0 b1 : Int) (h0 : -9223372036854775808 ≤ b0) (h1 : b0 ≤ 9223372036854775807) (h2 : -9223372036854775808 ≤ b1) (h3 : b1 ≤ 9223372036854775807) : (upP s p b0 b1).ok := by
  unfold upP
  split
  · exact ⟨cutD_ok ok.k0 _ _, cutD_ok ok.k1 _ _, h0, h1, h2, h3⟩
  · exact pz_ok
theorem crossP_ok {p q : Px} (op : p.ok) (oq : q.ok) (s : Sp) : (crossP s p q).ok := by
  unfold crossP
  split
  · exact px_lower_ok op oq
  · exact pz_ok
theorem rootK_ok (k : Int) (h0 : -9223372036854775808 ≤ k) (h1 : k ≤ 9223372036854775807) : (rootK k).ok := by
  unfold rootK
  split
  · exact kz_ok
  · exact ⟨by unfold Word; dsimp only; omega, by unfold Word; dsimp only; omega, h0, h1, by dsimp only; omega, by dsimp only; omega, by simp⟩
theorem depthD_range (d : Dm) : 0 ≤ depthD d ∧ depthD d ≤ 128 := by
  cases h : rightD d with
  | true => have := depth_range h; omega
  | false => unfold depthD; rw [if_neg (by simp [h])]; omega
structure Sp.ok (s : Sp) : Prop where
  n0 : -9223372036854775808 ≤ s.n
  n1 : s.n ≤ 9223372036854775807
  d0 : s.d0.ok
  d1 : s.d1.ok
theorem topP_ok {s : Sp} (ok : s.ok) : (topP s).ok := by
  have h0 := depthD_range s.d0
  have h1 := depthD_range s.d1
  unfold topP
  split
  · exact ⟨rootK_ok _ ok.d0.k0 ok.d0.k1, rootK_ok _ ok.d1.k0 ok.d1.k1, by dsimp only; omega, by dsimp only; omega, by dsimp only; omega, by dsimp only; omega⟩
  · exact pz_ok
theorem fourK_ok (a : Int) : (fourK a).ok := ⟨word_hi _, word_lo _, by unfold fourK; dsimp only; omega, by unfold fourK; dsimp only; omega, by unfold fourK; dsimp only; omega, by unfold fourK; dsimp only; omega, by unfold fourK; simp⟩
def s9 : Sp := ⟨2, ⟨1, 1, 8⟩, ⟨1, 2, 8⟩⟩
theorem s9_ok : s9.ok := ⟨by decide, by decide, ⟨by decide, by decide, by decide, by decide, by decide, by decide⟩, ⟨by decide, by decide, by decide, by decide, by decide, by decide⟩⟩
def p9 : Px := ⟨0, 0, fourK 167837953, fourK 3232235777⟩
theorem p9_ok : p9.ok := ⟨fourK_ok _, fourK_ok _, by decide, by decide, by decide, by decide⟩
def a9 : Px := upP s9 p9 3 4
def b9 : Px := upP s9 p9 4 2
def x9 : Px := crossP s9 a9 b9
def t9 : Px := topP s9
theorem a9_ok : a9.ok := upP_ok p9_ok s9 3 4 (by decide) (by decide) (by decide) (by decide)
theorem b9_ok : b9.ok := upP_ok p9_ok s9 4 2 (by decide) (by decide) (by decide) (by decide)
theorem x9_ok : x9.ok := crossP_ok a9_ok b9_ok s9
theorem t9_ok : t9.ok := topP_ok s9_ok
theorem alive9_t (w : World) : Calls Try.prog 24 #[] w fun e w' => e = .returned (.bool true) ∧ Below w.heap.size w w' := by
  refine alive9_go s9 (fourK 167837953) (fourK 3232235777) (fourK 1) p9 a9 b9 x9 t9 (by decide +kernel) (by decide +kernel) four9_t
    (kfour_t _ (by decide) (by decide)) (kfour_t _ (by decide) (by decide)) (kfour_t _ (by decide) (by decide)) ?_ ?_ (up9_t s9 p9 p9_ok 3 4) (up9_t s9 p9 p9_ok 4 2) ?_ (top9_t s9) ?_ ?_ ?_ ?_ ?_ ?_ ?_ ?_ w
  · intro w
    have h := leaf_t s9 (fourK 167837953) (fourK 3232235777) (fourK_ok _) (fourK_ok _) w
    rw [show leafP s9 (fourK 167837953) (fourK 3232235777) = p9 by decide +kernel, show rightP s9 ⟨0, 0, fourK 167837953, fourK 3232235777⟩ = true by decide +kernel] at h
    exact h
  · intro w
    have h := leaf_t s9 (fourK 1) kz (fourK_ok _) kz_ok w
    rw [show leafP s9 (fourK 1) kz = pz by decide +kernel, show rightP s9 ⟨0, 0, fourK 1, kz⟩ = false by decide +kernel] at h
    exact h
  · intro w
    have h := cross9_t s9 a9 b9 a9_ok b9_ok w
    rw [show crossB s9 a9 b9 = true by decide +kernel] at h
    exact h
  · intro w
    have h := sound_t s9 w
    rw [show soundS s9 = true by decide +kernel] at h
    exact h
  · intro w
    have h := sound_t ⟨3, s9.d0, s9.d1⟩ w
    rw [show soundS ⟨3, s9.d0, s9.d1⟩ = false by decide +kernel] at h
    exact h
  · intro w
    have h := up9_t s9 p9 p9_ok 3 2 w
    rw [show upP s9 p9 3 2 = x9 by decide +kernel] at h
    exact h
  · intro w
    have h := height_t s9 x9 x9_ok w
    rw [show heightP s9 x9 = 5 by decide +kernel] at h
    exact h
  · intro w
    have h := over9_t s9 t9 p9 t9_ok p9_ok w
    rw [show overP s9 t9 p9 = true by decide +kernel] at h
    exact h
  · intro w
    have h := over9_t s9 p9 t9 p9_ok t9_ok w
    rw [show overP s9 p9 t9 = false by decide +kernel] at h
    exact h
  · intro w
    have h := pcmp_t p9 t9 p9_ok t9_ok w
    rw [show cmpP p9 t9 = -1 by decide +kernel] at h
    exact h
  · intro w
    have h := right9_t s9 x9 x9_ok w
    rw [show rightP s9 x9 = true by decide +kernel] at h
    exact h
end Go.Proofs.Ytbekocknfpekoaa
namespace Go.Proofs.Ytbekocknfpekoaa
set_option linter.unusedVariables false
set_option linter.unusedSimpArgs false
open Go.RowKit
/-- on a level of a dimension, the zero dimension of a space of one dimension too -/
def onE (d : Dm) (l : Int) (k : Ke) : Bool := if d = dz then decide (l = 0) && decide (k = kz) else onD d l k
theorem rightD_dz : rightD dz = false := by decide +kernel
theorem depth_dz : depthD dz = 0 := by decide +kernel
theorem lenD_dz (l : Int) : lenD dz l = -1 := lenD_no (by rw [rightD_dz]; simp)
theorem cutD_dz (l : Int) (k : Ke) : cutD dz l k = kz := by unfold cutD; rw [if_pos (.inl (lenD_dz l))]
theorem not_dz {d : Dm} (h : rightD d = true) : ¬ d = dz := by rintro rfl; rw [rightD_dz] at h; cases h
theorem onE_range {d : Dm} {l : Int} {k : Ke} (h : onE d l k = true) : 0 ≤ l ∧ l ≤ depthD d := by
  unfold onE at h
  split at h
  · rename_i e; subst e
    simp only [Bool.and_eq_true, decide_eq_true_eq] at h
    rw [depth_dz]; omega
  · obtain ⟨_, g2, g3⟩ := lenD_there ((onD_iff d l k).1 h).1
    exact ⟨g2, g3⟩
theorem lenD_nn {d : Dm} {l : Int} (h : rightD d = true) (h0 : 0 ≤ l) (h1 : l ≤ depthD d) : 0 ≤ lenD d l := by
  rw [lenD_yes h h0 h1]; omega
theorem onE_cut {d : Dm} {l : Int} {k : Ke} (h : onE d l k = true) : cutD d l k = k := by
  unfold onE at h
  split at h
  · rename_i e; subst e
    simp only [Bool.and_eq_true, decide_eq_true_eq] at h
    rw [cutD_dz, h.2]
  · exact (on_cut h).1
theorem onE_twice {d : Dm} {i j l : Int} {k x : Ke} (h : onE d l x = true) (h0 : 0 ≤ i) (hij : i ≤ j) (hj : j ≤ depthD d) : cutD d j (cutD d i k) = cutD d j k := by
  unfold onE at h
  split at h
  · rename_i e; subst e; rw [cutD_dz, cutD_dz]
  · have r := (lenD_there ((onD_iff d l x).1 h).1).1
    exact cutD_cutD k (lenD_nn r h0 (by omega)) (lenD_nn r (by omega) hj) hij
theorem sound_dims {s : Sp} (h : soundS s = true) : rightD s.d0 = true ∧ (rightD s.d1 = true ∨ s.d1 = dz) ∧ (s.n = 1 ∧ s.d1 = dz ∨ s.n = 2 ∧ rightD s.d1 = true) := by
  unfold soundS at h
  split at h
  · simp only [Bool.and_eq_true, decide_eq_true_eq] at h
    exact ⟨h.1, .inr h.2, .inl ⟨by assumption, h.2⟩⟩
  · simp only [Bool.and_eq_true, decide_eq_true_eq] at h
    exact ⟨h.2.1, .inl h.2.2, .inr ⟨h.1, h.2.2⟩⟩
theorem right_iff (s : Sp) (p : Px) : rightP s p = true ↔ soundS s = true ∧ onE s.d0 p.a0 p.k0 = true ∧ onE s.d1 p.a1 p.k1 = true := by
  unfold rightP
  simp only [Bool.and_eq_true]
  constructor
  · rintro ⟨h1, h2, h3⟩
    obtain ⟨g1, g2, g3⟩ := sound_dims h1
    refine ⟨h1, by unfold onE; rw [if_neg (not_dz g1)]; exact h2, ?_⟩
    unfold onE
    rcases g3 with ⟨g3, g4⟩ | ⟨g3, g4⟩
    · rw [if_pos g3] at h3; rw [if_pos g4]; exact h3
    · rw [if_neg (by omega)] at h3; rw [if_neg (not_dz g4)]; exact h3
  · rintro ⟨h1, h2, h3⟩
    obtain ⟨g1, g2, g3⟩ := sound_dims h1
    unfold onE at h2 h3
    rw [if_neg (not_dz g1)] at h2
    refine ⟨h1, h2, ?_⟩
    rcases g3 with ⟨g3, g4⟩ | ⟨g3, g4⟩
    · rw [if_pos g4] at h3; rw [if_pos g3]; exact h3
    · rw [if_neg (not_dz g4)] at h3; rw [if_neg (by omega)]; exact h3
theorem pz_not_right (s : Sp) : rightP s pz = false := by
  cases h : rightP s pz with
  | false => rfl
  | true =>
    obtain ⟨h1, h2, _⟩ := (right_iff s pz).1 h
    obtain ⟨g1, _, _⟩ := sound_dims h1
    unfold onE at h2
    rw [if_neg (not_dz g1)] at h2
    obtain ⟨_, e, _⟩ := (onD_iff _ _ _).1 h2
    have := kind_dim g1
    rw [← e] at this
    revert this
    decide +kernel
/-- what covering says -/
theorem overP_iff (s : Sp) (p q : Px) : overP s p q = true ↔ rightP s p = true ∧ rightP s q = true ∧ (q.a0 ≤ p.a0 ∧ p.k0 = cutD s.d0 p.a0 q.k0) ∧ q.a1 ≤ p.a1 ∧ p.k1 = cutD s.d1 p.a1 q.k1 := by
  unfold overP
  simp only [Bool.and_eq_true, decide_eq_true_eq]
  constructor
  · rintro ⟨h1, h2⟩
    cases hb : upB s q p.a0 p.a1 with
    | false =>
      unfold upP at h2
      rw [hb, if_neg (by simp)] at h2
      rw [h2, pz_not_right] at h1; cases h1
    | true =>
      unfold upP at h2
      rw [hb, if_pos rfl] at h2
      unfold upB at hb
      simp only [Bool.and_eq_true, decide_eq_true_eq] at hb
      have e0 : p.k0 = cutD s.d0 p.a0 q.k0 := congrArg Px.k0 h2
      have e1 : p.k1 = cutD s.d1 p.a1 q.k1 := congrArg Px.k1 h2
      exact ⟨h1, hb.1, ⟨hb.2.1, e0⟩, hb.2.2.2.1, e1⟩
  · rintro ⟨h1, h2, ⟨h3, h4⟩, h5, h6⟩
    refine ⟨h1, ?_⟩
    obtain ⟨_, o0, o1⟩ := (right_iff s p).1 h1
    have r0 := onE_range o0
    have r1 := onE_range o1
    unfold upP
    rw [if_pos (by unfold upB; simp only [Bool.and_eq_true, decide_eq_true_eq]; exact ⟨h2, h3, r0.2, h5, r1.2⟩)]
    exact px_ext rfl rfl h4 h6
theorem over_trans9 {s : Sp} {p q x : Px} (h : overP s p q = true) (h' : overP s q x = true) : overP s p x = true := by
  obtain ⟨p1, q1, ⟨q2, q3⟩, q4, q5⟩ := (overP_iff s p q).1 h
  obtain ⟨_, x1, ⟨t2, t3⟩, t4, t5⟩ := (overP_iff s q x).1 h'
  obtain ⟨_, o0, o1⟩ := (right_iff s p).1 p1
  obtain ⟨_, m0, m1⟩ := (right_iff s q).1 q1
  have r0 := onE_range o0
  have r1 := onE_range o1
  have n0 := onE_range m0
  have n1 := onE_range m1
  rw [overP_iff]
  refine ⟨p1, x1, ⟨by omega, ?_⟩, by omega, ?_⟩
  · rw [q3, t3, onE_twice m0 n0.1 q2 r0.2]
  · rw [q5, t5, onE_twice m1 n1.1 q4 r1.2]
end Go.Proofs.Ytbekocknfpekoaa
namespace Go.Proofs.Ytbekocknfpekoaa
set_option linter.unusedVariables false
set_option linter.unusedSimpArgs false
open Go.RowKit
/-- in one dimension: where both cover something, the lower one is covered by both -/
theorem dim_lower {d : Dm} {a b l : Int} {j k m : Ke} (hj : onE d a j = true) (hk : onE d b k = true) (hm : onE d l m = true) (h1 : l ≤ a) (h2 : j = cutD d a m) (h3 : l ≤ b) (h4 : k = cutD d b m) :
    ((if b < a then b else a) ≤ a ∧ j = cutD d a (if b < a then k else j)) ∧ (if b < a then b else a) ≤ b ∧ k = cutD d b (if b < a then k else j) := by
  have ra := onE_range hj
  have rb := onE_range hk
  have rl := onE_range hm
  by_cases h : b < a
  · rw [if_pos h, if_pos h]
    refine ⟨⟨by omega, ?_⟩, by omega, (onE_cut hk).symm⟩
    rw [h4, onE_twice hm rb.1 (by omega) ra.2, ← h2]
  · rw [if_neg h, if_neg h]
    refine ⟨⟨by omega, (onE_cut hj).symm⟩, by omega, ?_⟩
    rw [h2, onE_twice hm ra.1 (by omega) rb.2, ← h4]
theorem cross_right {s : Sp} {p q : Px} (hp : rightP s p = true) (hq : rightP s q = true) : rightP s (crossX p q) = true := by
  obtain ⟨h1, o0, o1⟩ := (right_iff s p).1 hp
  obtain ⟨_, m0, m1⟩ := (right_iff s q).1 hq
  rw [right_iff]
  unfold crossX
  dsimp only
  refine ⟨h1, ?_, ?_⟩
  · split; exact m0; exact o0
  · split; exact m1; exact o1
theorem cross_both {s : Sp} {p q x : Px} (h : overP s p x = true) (h' : overP s q x = true) : crossB s p q = true ∧ overP s (crossX p q) x = true := by
  obtain ⟨p1, x1, ⟨p2, p3⟩, p4, p5⟩ := (overP_iff s p x).1 h
  obtain ⟨q1, _, ⟨q2, q3⟩, q4, q5⟩ := (overP_iff s q x).1 h'
  obtain ⟨_, o0, o1⟩ := (right_iff s p).1 p1
  obtain ⟨_, m0, m1⟩ := (right_iff s q).1 q1
  obtain ⟨_, n0, n1⟩ := (right_iff s x).1 x1
  have hr := cross_right p1 q1
  have a0 := dim_lower o0 m0 n0 p2 p3 q2 q3
  have a1 := dim_lower o1 m1 n1 p4 p5 q4 q5
  constructor
  · unfold crossB
    rw [Bool.and_eq_true, overP_iff, overP_iff]
    unfold crossX at *
    exact ⟨⟨p1, hr, a0.1, a1.1⟩, q1, hr, a0.2, a1.2⟩
  · rw [overP_iff]
    refine ⟨hr, x1, ?_, ?_⟩
    · unfold crossX; dsimp only
      split
      · exact ⟨q2, q3⟩
      · exact ⟨p2, p3⟩
    · unfold crossX; dsimp only
      split
      · exact ⟨q4, q5⟩
      · exact ⟨p4, p5⟩
theorem cross_swap {s : Sp} {p q : Px} (h : crossB s p q = true) : crossX p q = crossX q p := by
  unfold crossB at h
  rw [Bool.and_eq_true, overP_iff, overP_iff] at h
  obtain ⟨⟨p1, c1, ⟨p2, p3⟩, p4, p5⟩, q1, _, ⟨q2, q3⟩, q4, q5⟩ := h
  obtain ⟨_, o0, o1⟩ := (right_iff s p).1 p1
  obtain ⟨_, m0, m1⟩ := (right_iff s q).1 q1
  unfold crossX at *
  dsimp only at *
  have k0 : p.a0 = q.a0 → p.k0 = q.k0 := fun e => by
    rw [if_neg (by omega)] at q3
    rw [q3, ← e, onE_cut o0]
  have k1 : p.a1 = q.a1 → p.k1 = q.k1 := fun e => by
    rw [if_neg (by omega)] at q5
    rw [q5, ← e, onE_cut o1]
  refine px_ext ?_ ?_ ?_ ?_ <;> dsimp only
  · split <;> split <;> omega
  · split <;> split <;> omega
  · by_cases h1 : q.a0 < p.a0
    · rw [if_pos h1, if_neg (by omega)]
    · rw [if_neg h1]
      by_cases h2 : p.a0 < q.a0
      · rw [if_pos h2]
      · rw [if_neg h2]; exact k0 (by omega)
  · by_cases h1 : q.a1 < p.a1
    · rw [if_pos h1, if_neg (by omega)]
    · rw [if_neg h1]
      by_cases h2 : p.a1 < q.a1
      · rw [if_pos h2]
      · rw [if_neg h2]; exact k1 (by omega)
theorem crossB_swap (s : Sp) (p q : Px) : crossB s p q = crossB s q p := by
  rw [Bool.eq_iff_iff]
  constructor
  · intro h
    have e := cross_swap h
    unfold crossB at *
    rw [← e, Bool.and_comm]; exact h
  · intro h
    have e := cross_swap h
    unfold crossB at *
    rw [← e, Bool.and_comm]; exact h
theorem crossP_swap (s : Sp) (p q : Px) : crossP s p q = crossP s q p := by
  unfold crossP
  rw [← crossB_swap s p q]
  cases h : crossB s p q with
  | false => rfl
  | true => rw [if_pos rfl, if_pos rfl]; exact cross_swap h
theorem cross_meets {s : Sp} {p q : Px} (h : crossB s p q = true) (x : Px) : crossP s p q = crossX p q ∧ overP s p (crossX p q) = true ∧ overP s q (crossX p q) = true ∧ (overP s p x && overP s q x) = overP s (crossX p q) x := by
  refine ⟨by unfold crossP; rw [if_pos h], ?_⟩
  have h2 := h
  unfold crossB at h2
  rw [Bool.and_eq_true] at h2
  refine ⟨h2.1, h2.2, ?_⟩
  rw [Bool.eq_iff_iff, Bool.and_eq_true]
  constructor
  · rintro ⟨a, b⟩; exact (cross_both a b).2
  · intro a; exact ⟨over_trans9 h2.1 a, over_trans9 h2.2 a⟩
end Go.Proofs.Ytbekocknfpekoaa
namespace Go.Proofs.Ytbekocknfpekoaa
set_option linter.unusedVariables false
set_option linter.unusedSimpArgs false
open Go.RowKit
set_option maxRecDepth 100000 in
set_option maxHeartbeats 32000000 in
theorem meets_a (s : Sp) (p q x c : Px)
    (H1 : ∀ w, Calls Try.prog 30 #[sv s, pv p, pv q] w fun e w' => e = .returned (.tuple #[pv pz, .bool false]) ∧ Below w.heap.size w w')
    (H2 : ∀ w, Calls Try.prog 30 #[sv s, pv q, pv p] w fun e w' => e = .returned (.tuple #[pv pz, .bool false]) ∧ Below w.heap.size w w')
    (H3 : ∀ w, Calls Try.prog 28 #[sv s, pv p, pv x] w fun e w' => e = .returned (.bool false) ∧ Below w.heap.size w w') (w : World) :
    Calls Try.prog 8 #[sv s, pv p, pv q, pv x] w fun e w' => e = .returned (.bool true) ∧ Below w.heap.size w w' := by
  have HA := alive9_t
  have qn := neq_px pz pz
  have qe := eql_px pz pz
  rw [decide_eq_true rfl] at qn qe
  unfold pz kz at *
  unfold sv pv at *
  obtain ⟨Rg, Rd, Re, Rf, hb0⟩ := four_rows w #[.int .i64 s.n, .int .i64 s.d0.kind, .int .i64 s.d0.side, .int .i64 s.d0.step, .int .i64 s.d1.kind, .int .i64 s.d1.side, .int .i64 s.d1.step] #[.int .i64 p.a0, .int .i64 p.a1, .int .i64 p.k0.kind, .int .i64 p.k0.len, .int .u64 p.k0.h, .int .u64 p.k0.l, .string ⟨p.k0.path.toArray⟩, .int .i64 p.k1.kind, .int .i64 p.k1.len, .int .u64 p.k1.h, .int .u64 p.k1.l, .string ⟨p.k1.path.toArray⟩] #[.int .i64 q.a0, .int .i64 q.a1, .int .i64 q.k0.kind, .int .i64 q.k0.len, .int .u64 q.k0.h, .int .u64 q.k0.l, .string ⟨q.k0.path.toArray⟩, .int .i64 q.k1.kind, .int .i64 q.k1.len, .int .u64 q.k1.h, .int .u64 q.k1.l, .string ⟨q.k1.path.toArray⟩] #[.int .i64 x.a0, .int .i64 x.a1, .int .i64 x.k0.kind, .int .i64 x.k0.len, .int .u64 x.k0.h, .int .u64 x.k0.l, .string ⟨x.k0.path.toArray⟩, .int .i64 x.k1.kind, .int .i64 x.k1.len, .int .u64 x.k1.h, .int .u64 x.k1.l, .string ⟨x.k1.path.toArray⟩] 26 33 33 33
  (try clear g0 g1 g2 g3 g4 g5 g6); obtain ⟨g0, g1, g2, g3, g4, g5, g6⟩ := row7 Rg
  (try clear d0 d1 d2 d3 d4 d5 d6 d7 d8 d9 d10 d11); obtain ⟨d0, d1, d2, d3, d4, d5, d6, d7, d8, d9, d10, d11⟩ := row12 Rd
  (try clear e0 e1 e2 e3 e4 e5 e6 e7 e8 e9 e10 e11); obtain ⟨e0, e1, e2, e3, e4, e5, e6, e7, e8, e9, e10, e11⟩ := row12 Re
  (try clear f0 f1 f2 f3 f4 f5 f6 f7 f8 f9 f10 f11); obtain ⟨f0, f1, f2, f3, f4, f5, f6, f7, f8, f9, f10, f11⟩ := row12 Rf
  go_enter Try.func8, Try.ntmps8
  go_wp2_with fail
  refine (H1 _).mono ?_
  rintro e w1 ⟨rfl, hb⟩
  replace Rg := Rg.later hb
  replace Rd := Rd.later hb
  replace Re := Re.later hb
  replace Rf := Rf.later hb
  replace hb0 := below_step hb0 hb
  clear hb
  have lg := Rg.lt
  have ld := Rd.lt
  have le := Re.lt
  have lf := Rf.lt
  (try clear g0 g1 g2 g3 g4 g5 g6); obtain ⟨g0, g1, g2, g3, g4, g5, g6⟩ := row7 Rg
  (try clear d0 d1 d2 d3 d4 d5 d6 d7 d8 d9 d10 d11); obtain ⟨d0, d1, d2, d3, d4, d5, d6, d7, d8, d9, d10, d11⟩ := row12 Rd
  (try clear e0 e1 e2 e3 e4 e5 e6 e7 e8 e9 e10 e11); obtain ⟨e0, e1, e2, e3, e4, e5, e6, e7, e8, e9, e10, e11⟩ := row12 Re
  (try clear f0 f1 f2 f3 f4 f5 f6 f7 f8 f9 f10 f11); obtain ⟨f0, f1, f2, f3, f4, f5, f6, f7, f8, f9, f10, f11⟩ := row12 Rf
  go_wp2_with fail
  refine (H2 _).mono ?_
  rintro e w2 ⟨rfl, hb⟩
  have nmg := Rg.lt
  have nmd := Rd.lt
  have nme := Re.lt
  have nmf := Rf.lt
  replace Rg := (Rg.alloc _).later hb
  replace Rd := (Rd.alloc _).later hb
  replace Re := (Re.alloc _).later hb
  replace Rf := (Rf.alloc _).later hb
  have Rm := Row.later (Row.new _ _ _) hb
  have mm := hb0.size
  replace hb0 := below_step (hb0.alloc hb0.size _) hb
  clear hb
  generalize w1.heap.size = gm at *
  have lg := Rg.lt
  have ld := Rd.lt
  have le := Re.lt
  have lf := Rf.lt
  have lm := Rm.lt
  (try clear g0 g1 g2 g3 g4 g5 g6); obtain ⟨g0, g1, g2, g3, g4, g5, g6⟩ := row7 Rg
  (try clear d0 d1 d2 d3 d4 d5 d6 d7 d8 d9 d10 d11); obtain ⟨d0, d1, d2, d3, d4, d5, d6, d7, d8, d9, d10, d11⟩ := row12 Rd
  (try clear e0 e1 e2 e3 e4 e5 e6 e7 e8 e9 e10 e11); obtain ⟨e0, e1, e2, e3, e4, e5, e6, e7, e8, e9, e10, e11⟩ := row12 Re
  (try clear f0 f1 f2 f3 f4 f5 f6 f7 f8 f9 f10 f11); obtain ⟨f0, f1, f2, f3, f4, f5, f6, f7, f8, f9, f10, f11⟩ := row12 Rf
  (try clear m0 m1 m2 m3 m4 m5 m6 m7 m8 m9 m10 m11); obtain ⟨m0, m1, m2, m3, m4, m5, m6, m7, m8, m9, m10, m11⟩ := row12 Rm
  go_wp2_with fail
  refine (H3 _).mono ?_
  rintro e w3 ⟨rfl, hb⟩
  have nng := Rg.lt
  have nnd := Rd.lt
  have nne := Re.lt
  have nnf := Rf.lt
  have nnm := Rm.lt
  replace Rg := (Rg.alloc _).later hb
  replace Rd := (Rd.alloc _).later hb
  replace Re := (Re.alloc _).later hb
  replace Rf := (Rf.alloc _).later hb
  replace Rm := (Rm.alloc _).later hb
  have Rn := Row.later (Row.new _ _ _) hb
  have mn := hb0.size
  replace hb0 := below_step (hb0.alloc hb0.size _) hb
  clear hb
  generalize w2.heap.size = gn at *
  have lg := Rg.lt
  have ld := Rd.lt
  have le := Re.lt
  have lf := Rf.lt
  have lm := Rm.lt
  have ln := Rn.lt
  (try clear g0 g1 g2 g3 g4 g5 g6); obtain ⟨g0, g1, g2, g3, g4, g5, g6⟩ := row7 Rg
  (try clear d0 d1 d2 d3 d4 d5 d6 d7 d8 d9 d10 d11); obtain ⟨d0, d1, d2, d3, d4, d5, d6, d7, d8, d9, d10, d11⟩ := row12 Rd
  (try clear e0 e1 e2 e3 e4 e5 e6 e7 e8 e9 e10 e11); obtain ⟨e0, e1, e2, e3, e4, e5, e6, e7, e8, e9, e10, e11⟩ := row12 Re
  (try clear f0 f1 f2 f3 f4 f5 f6 f7 f8 f9 f10 f11); obtain ⟨f0, f1, f2, f3, f4, f5, f6, f7, f8, f9, f10, f11⟩ := row12 Rf
  (try clear m0 m1 m2 m3 m4 m5 m6 m7 m8 m9 m10 m11); obtain ⟨m0, m1, m2, m3, m4, m5, m6, m7, m8, m9, m10, m11⟩ := row12 Rm
  (try clear n0 n1 n2 n3 n4 n5 n6 n7 n8 n9 n10 n11); obtain ⟨n0, n1, n2, n3, n4, n5, n6, n7, n8, n9, n10, n11⟩ := row12 Rn
  go_wp2_with fail
  refine (HA _).mono ?_
  rintro e w4 ⟨rfl, hb⟩
  replace Rg := Rg.later hb
  replace Rd := Rd.later hb
  replace Re := Re.later hb
  replace Rf := Rf.later hb
  replace Rm := Rm.later hb
  replace Rn := Rn.later hb
  replace hb0 := below_step hb0 hb
  clear hb
  have lg := Rg.lt
  have ld := Rd.lt
  have le := Re.lt
  have lf := Rf.lt
  have lm := Rm.lt
  have ln := Rn.lt
  (try clear g0 g1 g2 g3 g4 g5 g6); obtain ⟨g0, g1, g2, g3, g4, g5, g6⟩ := row7 Rg
  (try clear d0 d1 d2 d3 d4 d5 d6 d7 d8 d9 d10 d11); obtain ⟨d0, d1, d2, d3, d4, d5, d6, d7, d8, d9, d10, d11⟩ := row12 Rd
  (try clear e0 e1 e2 e3 e4 e5 e6 e7 e8 e9 e10 e11); obtain ⟨e0, e1, e2, e3, e4, e5, e6, e7, e8, e9, e10, e11⟩ := row12 Re
  (try clear f0 f1 f2 f3 f4 f5 f6 f7 f8 f9 f10 f11); obtain ⟨f0, f1, f2, f3, f4, f5, f6, f7, f8, f9, f10, f11⟩ := row12 Rf
  (try clear m0 m1 m2 m3 m4 m5 m6 m7 m8 m9 m10 m11); obtain ⟨m0, m1, m2, m3, m4, m5, m6, m7, m8, m9, m10, m11⟩ := row12 Rm
  (try clear n0 n1 n2 n3 n4 n5 n6 n7 n8 n9 n10 n11); obtain ⟨n0, n1, n2, n3, n4, n5, n6, n7, n8, n9, n10, n11⟩ := row12 Rn
  go_wp2
  go_ret
  exact ⟨rfl, hb0⟩
set_option maxRecDepth 100000 in
set_option maxHeartbeats 32000000 in
theorem meets_b (s : Sp) (p q x c : Px)
    (H1 : ∀ w, Calls Try.prog 30 #[sv s, pv p, pv q] w fun e w' => e = .returned (.tuple #[pv pz, .bool false]) ∧ Below w.heap.size w w')
    (H2 : ∀ w, Calls Try.prog 30 #[sv s, pv q, pv p] w fun e w' => e = .returned (.tuple #[pv pz, .bool false]) ∧ Below w.heap.size w w')
    (H3 : ∀ w, Calls Try.prog 28 #[sv s, pv p, pv x] w fun e w' => e = .returned (.bool true) ∧ Below w.heap.size w w')
    (H4 : ∀ w, Calls Try.prog 28 #[sv s, pv q, pv x] w fun e w' => e = .returned (.bool false) ∧ Below w.heap.size w w') (w : World) :
    Calls Try.prog 8 #[sv s, pv p, pv q, pv x] w fun e w' => e = .returned (.bool true) ∧ Below w.heap.size w w' := by
  have HA := alive9_t
  have qn := neq_px pz pz
  have qe := eql_px pz pz
  rw [decide_eq_true rfl] at qn qe
  unfold pz kz at *
  unfold sv pv at *
  obtain ⟨Rg, Rd, Re, Rf, hb0⟩ := four_rows w #[.int .i64 s.n, .int .i64 s.d0.kind, .int .i64 s.d0.side, .int .i64 s.d0.step, .int .i64 s.d1.kind, .int .i64 s.d1.side, .int .i64 s.d1.step] #[.int .i64 p.a0, .int .i64 p.a1, .int .i64 p.k0.kind, .int .i64 p.k0.len, .int .u64 p.k0.h, .int .u64 p.k0.l, .string ⟨p.k0.path.toArray⟩, .int .i64 p.k1.kind, .int .i64 p.k1.len, .int .u64 p.k1.h, .int .u64 p.k1.l, .string ⟨p.k1.path.toArray⟩] #[.int .i64 q.a0, .int .i64 q.a1, .int .i64 q.k0.kind, .int .i64 q.k0.len, .int .u64 q.k0.h, .int .u64 q.k0.l, .string ⟨q.k0.path.toArray⟩, .int .i64 q.k1.kind, .int .i64 q.k1.len, .int .u64 q.k1.h, .int .u64 q.k1.l, .string ⟨q.k1.path.toArray⟩] #[.int .i64 x.a0, .int .i64 x.a1, .int .i64 x.k0.kind, .int .i64 x.k0.len, .int .u64 x.k0.h, .int .u64 x.k0.l, .string ⟨x.k0.path.toArray⟩, .int .i64 x.k1.kind, .int .i64 x.k1.len, .int .u64 x.k1.h, .int .u64 x.k1.l, .string ⟨x.k1.path.toArray⟩] 26 33 33 33
  (try clear g0 g1 g2 g3 g4 g5 g6); obtain ⟨g0, g1, g2, g3, g4, g5, g6⟩ := row7 Rg
  (try clear d0 d1 d2 d3 d4 d5 d6 d7 d8 d9 d10 d11); obtain ⟨d0, d1, d2, d3, d4, d5, d6, d7, d8, d9, d10, d11⟩ := row12 Rd
  (try clear e0 e1 e2 e3 e4 e5 e6 e7 e8 e9 e10 e11); obtain ⟨e0, e1, e2, e3, e4, e5, e6, e7, e8, e9, e10, e11⟩ := row12 Re
  (try clear f0 f1 f2 f3 f4 f5 f6 f7 f8 f9 f10 f11); obtain ⟨f0, f1, f2, f3, f4, f5, f6, f7, f8, f9, f10, f11⟩ := row12 Rf
  go_enter Try.func8, Try.ntmps8
  go_wp2_with fail
  refine (H1 _).mono ?_
  rintro e w1 ⟨rfl, hb⟩
  replace Rg := Rg.later hb
  replace Rd := Rd.later hb
  replace Re := Re.later hb
  replace Rf := Rf.later hb
  replace hb0 := below_step hb0 hb
  clear hb
  have lg := Rg.lt
  have ld := Rd.lt
  have le := Re.lt
  have lf := Rf.lt
  (try clear g0 g1 g2 g3 g4 g5 g6); obtain ⟨g0, g1, g2, g3, g4, g5, g6⟩ := row7 Rg
  (try clear d0 d1 d2 d3 d4 d5 d6 d7 d8 d9 d10 d11); obtain ⟨d0, d1, d2, d3, d4, d5, d6, d7, d8, d9, d10, d11⟩ := row12 Rd
  (try clear e0 e1 e2 e3 e4 e5 e6 e7 e8 e9 e10 e11); obtain ⟨e0, e1, e2, e3, e4, e5, e6, e7, e8, e9, e10, e11⟩ := row12 Re
  (try clear f0 f1 f2 f3 f4 f5 f6 f7 f8 f9 f10 f11); obtain ⟨f0, f1, f2, f3, f4, f5, f6, f7, f8, f9, f10, f11⟩ := row12 Rf
  go_wp2_with fail
  refine (H2 _).mono ?_
  rintro e w2 ⟨rfl, hb⟩
  have nmg := Rg.lt
  have nmd := Rd.lt
  have nme := Re.lt
  have nmf := Rf.lt
  replace Rg := (Rg.alloc _).later hb
  replace Rd := (Rd.alloc _).later hb
  replace Re := (Re.alloc _).later hb
  replace Rf := (Rf.alloc _).later hb
  have Rm := Row.later (Row.new _ _ _) hb
  have mm := hb0.size
  replace hb0 := below_step (hb0.alloc hb0.size _) hb
  clear hb
  generalize w1.heap.size = gm at *
  have lg := Rg.lt
  have ld := Rd.lt
  have le := Re.lt
  have lf := Rf.lt
  have lm := Rm.lt
  (try clear g0 g1 g2 g3 g4 g5 g6); obtain ⟨g0, g1, g2, g3, g4, g5, g6⟩ := row7 Rg
  (try clear d0 d1 d2 d3 d4 d5 d6 d7 d8 d9 d10 d11); obtain ⟨d0, d1, d2, d3, d4, d5, d6, d7, d8, d9, d10, d11⟩ := row12 Rd
  (try clear e0 e1 e2 e3 e4 e5 e6 e7 e8 e9 e10 e11); obtain ⟨e0, e1, e2, e3, e4, e5, e6, e7, e8, e9, e10, e11⟩ := row12 Re
  (try clear f0 f1 f2 f3 f4 f5 f6 f7 f8 f9 f10 f11); obtain ⟨f0, f1, f2, f3, f4, f5, f6, f7, f8, f9, f10, f11⟩ := row12 Rf
  (try clear m0 m1 m2 m3 m4 m5 m6 m7 m8 m9 m10 m11); obtain ⟨m0, m1, m2, m3, m4, m5, m6, m7, m8, m9, m10, m11⟩ := row12 Rm
  go_wp2_with fail
  refine (H3 _).mono ?_
  rintro e w3 ⟨rfl, hb⟩
  have nng := Rg.lt
  have nnd := Rd.lt
  have nne := Re.lt
  have nnf := Rf.lt
  have nnm := Rm.lt
  replace Rg := (Rg.alloc _).later hb
  replace Rd := (Rd.alloc _).later hb
  replace Re := (Re.alloc _).later hb
  replace Rf := (Rf.alloc _).later hb
  replace Rm := (Rm.alloc _).later hb
  have Rn := Row.later (Row.new _ _ _) hb
  have mn := hb0.size
  replace hb0 := below_step (hb0.alloc hb0.size _) hb
  clear hb
  generalize w2.heap.size = gn at *
  have lg := Rg.lt
  have ld := Rd.lt
  have le := Re.lt
  have lf := Rf.lt
  have lm := Rm.lt
  have ln := Rn.lt
  (try clear g0 g1 g2 g3 g4 g5 g6); obtain ⟨g0, g1, g2, g3, g4, g5, g6⟩ := row7 Rg
  (try clear d0 d1 d2 d3 d4 d5 d6 d7 d8 d9 d10 d11); obtain ⟨d0, d1, d2, d3, d4, d5, d6, d7, d8, d9, d10, d11⟩ := row12 Rd
  (try clear e0 e1 e2 e3 e4 e5 e6 e7 e8 e9 e10 e11); obtain ⟨e0, e1, e2, e3, e4, e5, e6, e7, e8, e9, e10, e11⟩ := row12 Re
  (try clear f0 f1 f2 f3 f4 f5 f6 f7 f8 f9 f10 f11); obtain ⟨f0, f1, f2, f3, f4, f5, f6, f7, f8, f9, f10, f11⟩ := row12 Rf
  (try clear m0 m1 m2 m3 m4 m5 m6 m7 m8 m9 m10 m11); obtain ⟨m0, m1, m2, m3, m4, m5, m6, m7, m8, m9, m10, m11⟩ := row12 Rm
  (try clear n0 n1 n2 n3 n4 n5 n6 n7 n8 n9 n10 n11); obtain ⟨n0, n1, n2, n3, n4, n5, n6, n7, n8, n9, n10, n11⟩ := row12 Rn
  go_wp2_with fail
  refine (H4 _).mono ?_
  rintro e w4 ⟨rfl, hb⟩
  replace Rg := Rg.later hb
  replace Rd := Rd.later hb
  replace Re := Re.later hb
  replace Rf := Rf.later hb
  replace Rm := Rm.later hb
  replace Rn := Rn.later hb
  replace hb0 := below_step hb0 hb
  clear hb
  have lg := Rg.lt
  have ld := Rd.lt
  have le := Re.lt
  have lf := Rf.lt
  have lm := Rm.lt
  have ln := Rn.lt
  (try clear g0 g1 g2 g3 g4 g5 g6); obtain ⟨g0, g1, g2, g3, g4, g5, g6⟩ := row7 Rg
  (try clear d0 d1 d2 d3 d4 d5 d6 d7 d8 d9 d10 d11); obtain ⟨d0, d1, d2, d3, d4, d5, d6, d7, d8, d9, d10, d11⟩ := row12 Rd
  (try clear e0 e1 e2 e3 e4 e5 e6 e7 e8 e9 e10 e11); obtain ⟨e0, e1, e2, e3, e4, e5, e6, e7, e8, e9, e10, e11⟩ := row12 Re
  (try clear f0 f1 f2 f3 f4 f5 f6 f7 f8 f9 f10 f11); obtain ⟨f0, f1, f2, f3, f4, f5, f6, f7, f8, f9, f10, f11⟩ := row12 Rf
  (try clear m0 m1 m2 m3 m4 m5 m6 m7 m8 m9 m10 m11); obtain ⟨m0, m1, m2, m3, m4, m5, m6, m7, m8, m9, m10, m11⟩ := row12 Rm
  (try clear n0 n1 n2 n3 n4 n5 n6 n7 n8 n9 n10 n11); obtain ⟨n0, n1, n2, n3, n4, n5, n6, n7, n8, n9, n10, n11⟩ := row12 Rn
  go_wp2_with fail
  refine (HA _).mono ?_
  rintro e w5 ⟨rfl, hb⟩
  replace Rg := Rg.later hb
  replace Rd := Rd.later hb
  replace Re := Re.later hb
  replace Rf := Rf.later hb
  replace Rm := Rm.later hb
  replace Rn := Rn.later hb
  replace hb0 := below_step hb0 hb
  clear hb
  have lg := Rg.lt
  have ld := Rd.lt
  have le := Re.lt
  have lf := Rf.lt
  have lm := Rm.lt
  have ln := Rn.lt
  (try clear g0 g1 g2 g3 g4 g5 g6); obtain ⟨g0, g1, g2, g3, g4, g5, g6⟩ := row7 Rg
  (try clear d0 d1 d2 d3 d4 d5 d6 d7 d8 d9 d10 d11); obtain ⟨d0, d1, d2, d3, d4, d5, d6, d7, d8, d9, d10, d11⟩ := row12 Rd
  (try clear e0 e1 e2 e3 e4 e5 e6 e7 e8 e9 e10 e11); obtain ⟨e0, e1, e2, e3, e4, e5, e6, e7, e8, e9, e10, e11⟩ := row12 Re
  (try clear f0 f1 f2 f3 f4 f5 f6 f7 f8 f9 f10 f11); obtain ⟨f0, f1, f2, f3, f4, f5, f6, f7, f8, f9, f10, f11⟩ := row12 Rf
  (try clear m0 m1 m2 m3 m4 m5 m6 m7 m8 m9 m10 m11); obtain ⟨m0, m1, m2, m3, m4, m5, m6, m7, m8, m9, m10, m11⟩ := row12 Rm
  (try clear n0 n1 n2 n3 n4 n5 n6 n7 n8 n9 n10 n11); obtain ⟨n0, n1, n2, n3, n4, n5, n6, n7, n8, n9, n10, n11⟩ := row12 Rn
  go_wp2
  go_ret
  exact ⟨rfl, hb0⟩
set_option maxRecDepth 100000 in
set_option maxHeartbeats 32000000 in
theorem meets_c (s : Sp) (p q x c : Px)
    (H1 : ∀ w, Calls Try.prog 30 #[sv s, pv p, pv q] w fun e w' => e = .returned (.tuple #[pv c, .bool true]) ∧ Below w.heap.size w w')
    (H2 : ∀ w, Calls Try.prog 30 #[sv s, pv q, pv p] w fun e w' => e = .returned (.tuple #[pv c, .bool true]) ∧ Below w.heap.size w w')
    (H3 : ∀ w, Calls Try.prog 28 #[sv s, pv p, pv x] w fun e w' => e = .returned (.bool false) ∧ Below w.heap.size w w')
    (H5 : ∀ w, Calls Try.prog 28 #[sv s, pv p, pv c] w fun e w' => e = .returned (.bool true) ∧ Below w.heap.size w w')
    (H6 : ∀ w, Calls Try.prog 28 #[sv s, pv q, pv c] w fun e w' => e = .returned (.bool true) ∧ Below w.heap.size w w')
    (H7 : ∀ w, Calls Try.prog 28 #[sv s, pv c, pv x] w fun e w' => e = .returned (.bool false) ∧ Below w.heap.size w w') (w : World) :
    Calls Try.prog 8 #[sv s, pv p, pv q, pv x] w fun e w' => e = .returned (.bool true) ∧ Below w.heap.size w w' := by
  have HA := alive9_t
  have qn := neq_px c c
  have qe := eql_px pz pz
  rw [decide_eq_true rfl] at qn qe
  unfold pz kz at *
  unfold sv pv at *
  obtain ⟨Rg, Rd, Re, Rf, hb0⟩ := four_rows w #[.int .i64 s.n, .int .i64 s.d0.kind, .int .i64 s.d0.side, .int .i64 s.d0.step, .int .i64 s.d1.kind, .int .i64 s.d1.side, .int .i64 s.d1.step] #[.int .i64 p.a0, .int .i64 p.a1, .int .i64 p.k0.kind, .int .i64 p.k0.len, .int .u64 p.k0.h, .int .u64 p.k0.l, .string ⟨p.k0.path.toArray⟩, .int .i64 p.k1.kind, .int .i64 p.k1.len, .int .u64 p.k1.h, .int .u64 p.k1.l, .string ⟨p.k1.path.toArray⟩] #[.int .i64 q.a0, .int .i64 q.a1, .int .i64 q.k0.kind, .int .i64 q.k0.len, .int .u64 q.k0.h, .int .u64 q.k0.l, .string ⟨q.k0.path.toArray⟩, .int .i64 q.k1.kind, .int .i64 q.k1.len, .int .u64 q.k1.h, .int .u64 q.k1.l, .string ⟨q.k1.path.toArray⟩] #[.int .i64 x.a0, .int .i64 x.a1, .int .i64 x.k0.kind, .int .i64 x.k0.len, .int .u64 x.k0.h, .int .u64 x.k0.l, .string ⟨x.k0.path.toArray⟩, .int .i64 x.k1.kind, .int .i64 x.k1.len, .int .u64 x.k1.h, .int .u64 x.k1.l, .string ⟨x.k1.path.toArray⟩] 26 33 33 33
  (try clear g0 g1 g2 g3 g4 g5 g6); obtain ⟨g0, g1, g2, g3, g4, g5, g6⟩ := row7 Rg
  (try clear d0 d1 d2 d3 d4 d5 d6 d7 d8 d9 d10 d11); obtain ⟨d0, d1, d2, d3, d4, d5, d6, d7, d8, d9, d10, d11⟩ := row12 Rd
  (try clear e0 e1 e2 e3 e4 e5 e6 e7 e8 e9 e10 e11); obtain ⟨e0, e1, e2, e3, e4, e5, e6, e7, e8, e9, e10, e11⟩ := row12 Re
  (try clear f0 f1 f2 f3 f4 f5 f6 f7 f8 f9 f10 f11); obtain ⟨f0, f1, f2, f3, f4, f5, f6, f7, f8, f9, f10, f11⟩ := row12 Rf
  go_enter Try.func8, Try.ntmps8
  go_wp2_with fail
  refine (H1 _).mono ?_
  rintro e w1 ⟨rfl, hb⟩
  replace Rg := Rg.later hb
  replace Rd := Rd.later hb
  replace Re := Re.later hb
  replace Rf := Rf.later hb
  replace hb0 := below_step hb0 hb
  clear hb
  have lg := Rg.lt
  have ld := Rd.lt
  have le := Re.lt
  have lf := Rf.lt
  (try clear g0 g1 g2 g3 g4 g5 g6); obtain ⟨g0, g1, g2, g3, g4, g5, g6⟩ := row7 Rg
  (try clear d0 d1 d2 d3 d4 d5 d6 d7 d8 d9 d10 d11); obtain ⟨d0, d1, d2, d3, d4, d5, d6, d7, d8, d9, d10, d11⟩ := row12 Rd
  (try clear e0 e1 e2 e3 e4 e5 e6 e7 e8 e9 e10 e11); obtain ⟨e0, e1, e2, e3, e4, e5, e6, e7, e8, e9, e10, e11⟩ := row12 Re
  (try clear f0 f1 f2 f3 f4 f5 f6 f7 f8 f9 f10 f11); obtain ⟨f0, f1, f2, f3, f4, f5, f6, f7, f8, f9, f10, f11⟩ := row12 Rf
  go_wp2_with fail
  refine (H2 _).mono ?_
  rintro e w2 ⟨rfl, hb⟩
  have nmg := Rg.lt
  have nmd := Rd.lt
  have nme := Re.lt
  have nmf := Rf.lt
  replace Rg := (Rg.alloc _).later hb
  replace Rd := (Rd.alloc _).later hb
  replace Re := (Re.alloc _).later hb
  replace Rf := (Rf.alloc _).later hb
  have Rm := Row.later (Row.new _ _ _) hb
  have mm := hb0.size
  replace hb0 := below_step (hb0.alloc hb0.size _) hb
  clear hb
  generalize w1.heap.size = gm at *
  have lg := Rg.lt
  have ld := Rd.lt
  have le := Re.lt
  have lf := Rf.lt
  have lm := Rm.lt
  (try clear g0 g1 g2 g3 g4 g5 g6); obtain ⟨g0, g1, g2, g3, g4, g5, g6⟩ := row7 Rg
  (try clear d0 d1 d2 d3 d4 d5 d6 d7 d8 d9 d10 d11); obtain ⟨d0, d1, d2, d3, d4, d5, d6, d7, d8, d9, d10, d11⟩ := row12 Rd
  (try clear e0 e1 e2 e3 e4 e5 e6 e7 e8 e9 e10 e11); obtain ⟨e0, e1, e2, e3, e4, e5, e6, e7, e8, e9, e10, e11⟩ := row12 Re
  (try clear f0 f1 f2 f3 f4 f5 f6 f7 f8 f9 f10 f11); obtain ⟨f0, f1, f2, f3, f4, f5, f6, f7, f8, f9, f10, f11⟩ := row12 Rf
  (try clear m0 m1 m2 m3 m4 m5 m6 m7 m8 m9 m10 m11); obtain ⟨m0, m1, m2, m3, m4, m5, m6, m7, m8, m9, m10, m11⟩ := row12 Rm
  go_wp2_with fail
  refine (H3 _).mono ?_
  rintro e w3 ⟨rfl, hb⟩
  have nng := Rg.lt
  have nnd := Rd.lt
  have nne := Re.lt
  have nnf := Rf.lt
  have nnm := Rm.lt
  replace Rg := (Rg.alloc _).later hb
  replace Rd := (Rd.alloc _).later hb
  replace Re := (Re.alloc _).later hb
  replace Rf := (Rf.alloc _).later hb
  replace Rm := (Rm.alloc _).later hb
  have Rn := Row.later (Row.new _ _ _) hb
  have mn := hb0.size
  replace hb0 := below_step (hb0.alloc hb0.size _) hb
  clear hb
  generalize w2.heap.size = gn at *
  have lg := Rg.lt
  have ld := Rd.lt
  have le := Re.lt
  have lf := Rf.lt
  have lm := Rm.lt
  have ln := Rn.lt
  (try clear g0 g1 g2 g3 g4 g5 g6); obtain ⟨g0, g1, g2, g3, g4, g5, g6⟩ := row7 Rg
  (try clear d0 d1 d2 d3 d4 d5 d6 d7 d8 d9 d10 d11); obtain ⟨d0, d1, d2, d3, d4, d5, d6, d7, d8, d9, d10, d11⟩ := row12 Rd
  (try clear e0 e1 e2 e3 e4 e5 e6 e7 e8 e9 e10 e11); obtain ⟨e0, e1, e2, e3, e4, e5, e6, e7, e8, e9, e10, e11⟩ := row12 Re
  (try clear f0 f1 f2 f3 f4 f5 f6 f7 f8 f9 f10 f11); obtain ⟨f0, f1, f2, f3, f4, f5, f6, f7, f8, f9, f10, f11⟩ := row12 Rf
  (try clear m0 m1 m2 m3 m4 m5 m6 m7 m8 m9 m10 m11); obtain ⟨m0, m1, m2, m3, m4, m5, m6, m7, m8, m9, m10, m11⟩ := row12 Rm
  (try clear n0 n1 n2 n3 n4 n5 n6 n7 n8 n9 n10 n11); obtain ⟨n0, n1, n2, n3, n4, n5, n6, n7, n8, n9, n10, n11⟩ := row12 Rn
  go_wp2_with fail
  refine (HA _).mono ?_
  rintro e w4 ⟨rfl, hb⟩
  replace Rg := Rg.later hb
  replace Rd := Rd.later hb
  replace Re := Re.later hb
  replace Rf := Rf.later hb
  replace Rm := Rm.later hb
  replace Rn := Rn.later hb
  replace hb0 := below_step hb0 hb
  clear hb
  have lg := Rg.lt
  have ld := Rd.lt
  have le := Re.lt
  have lf := Rf.lt
  have lm := Rm.lt
  have ln := Rn.lt
  (try clear g0 g1 g2 g3 g4 g5 g6); obtain ⟨g0, g1, g2, g3, g4, g5, g6⟩ := row7 Rg
  (try clear d0 d1 d2 d3 d4 d5 d6 d7 d8 d9 d10 d11); obtain ⟨d0, d1, d2, d3, d4, d5, d6, d7, d8, d9, d10, d11⟩ := row12 Rd
  (try clear e0 e1 e2 e3 e4 e5 e6 e7 e8 e9 e10 e11); obtain ⟨e0, e1, e2, e3, e4, e5, e6, e7, e8, e9, e10, e11⟩ := row12 Re
  (try clear f0 f1 f2 f3 f4 f5 f6 f7 f8 f9 f10 f11); obtain ⟨f0, f1, f2, f3, f4, f5, f6, f7, f8, f9, f10, f11⟩ := row12 Rf
  (try clear m0 m1 m2 m3 m4 m5 m6 m7 m8 m9 m10 m11); obtain ⟨m0, m1, m2, m3, m4, m5, m6, m7, m8, m9, m10, m11⟩ := row12 Rm
  (try clear n0 n1 n2 n3 n4 n5 n6 n7 n8 n9 n10 n11); obtain ⟨n0, n1, n2, n3, n4, n5, n6, n7, n8, n9, n10, n11⟩ := row12 Rn
  clear n0 n1 n2 n3 n4 n5 n6 n7 n8 n9 n10 n11
  go_wp2_with fail
  refine (H5 _).mono ?_
  rintro e w5 ⟨rfl, hb⟩
  replace Rg := Rg.later hb
  replace Rd := Rd.later hb
  replace Re := Re.later hb
  replace Rf := Rf.later hb
  replace Rm := Rm.later hb
  replace Rn := Rn.later hb
  replace hb0 := below_step hb0 hb
  clear hb
  have lg := Rg.lt
  have ld := Rd.lt
  have le := Re.lt
  have lf := Rf.lt
  have lm := Rm.lt
  have ln := Rn.lt
  (try clear g0 g1 g2 g3 g4 g5 g6); obtain ⟨g0, g1, g2, g3, g4, g5, g6⟩ := row7 Rg
  (try clear d0 d1 d2 d3 d4 d5 d6 d7 d8 d9 d10 d11); obtain ⟨d0, d1, d2, d3, d4, d5, d6, d7, d8, d9, d10, d11⟩ := row12 Rd
  (try clear e0 e1 e2 e3 e4 e5 e6 e7 e8 e9 e10 e11); obtain ⟨e0, e1, e2, e3, e4, e5, e6, e7, e8, e9, e10, e11⟩ := row12 Re
  (try clear f0 f1 f2 f3 f4 f5 f6 f7 f8 f9 f10 f11); obtain ⟨f0, f1, f2, f3, f4, f5, f6, f7, f8, f9, f10, f11⟩ := row12 Rf
  (try clear m0 m1 m2 m3 m4 m5 m6 m7 m8 m9 m10 m11); obtain ⟨m0, m1, m2, m3, m4, m5, m6, m7, m8, m9, m10, m11⟩ := row12 Rm
  go_wp2_with fail
  refine (H6 _).mono ?_
  rintro e w6 ⟨rfl, hb⟩
  replace Rg := Rg.later hb
  replace Rd := Rd.later hb
  replace Re := Re.later hb
  replace Rf := Rf.later hb
  replace Rm := Rm.later hb
  replace Rn := Rn.later hb
  replace hb0 := below_step hb0 hb
  clear hb
  have lg := Rg.lt
  have ld := Rd.lt
  have le := Re.lt
  have lf := Rf.lt
  have lm := Rm.lt
  have ln := Rn.lt
  (try clear g0 g1 g2 g3 g4 g5 g6); obtain ⟨g0, g1, g2, g3, g4, g5, g6⟩ := row7 Rg
  (try clear d0 d1 d2 d3 d4 d5 d6 d7 d8 d9 d10 d11); obtain ⟨d0, d1, d2, d3, d4, d5, d6, d7, d8, d9, d10, d11⟩ := row12 Rd
  (try clear e0 e1 e2 e3 e4 e5 e6 e7 e8 e9 e10 e11); obtain ⟨e0, e1, e2, e3, e4, e5, e6, e7, e8, e9, e10, e11⟩ := row12 Re
  (try clear f0 f1 f2 f3 f4 f5 f6 f7 f8 f9 f10 f11); obtain ⟨f0, f1, f2, f3, f4, f5, f6, f7, f8, f9, f10, f11⟩ := row12 Rf
  (try clear m0 m1 m2 m3 m4 m5 m6 m7 m8 m9 m10 m11); obtain ⟨m0, m1, m2, m3, m4, m5, m6, m7, m8, m9, m10, m11⟩ := row12 Rm
  go_wp2_with fail
  refine (H7 _).mono ?_
  rintro e w7 ⟨rfl, hb⟩
  replace Rg := Rg.later hb
  replace Rd := Rd.later hb
  replace Re := Re.later hb
  replace Rf := Rf.later hb
  replace Rm := Rm.later hb
  replace Rn := Rn.later hb
  replace hb0 := below_step hb0 hb
  clear hb
  have lg := Rg.lt
  have ld := Rd.lt
  have le := Re.lt
  have lf := Rf.lt
  have lm := Rm.lt
  have ln := Rn.lt
  (try clear g0 g1 g2 g3 g4 g5 g6); obtain ⟨g0, g1, g2, g3, g4, g5, g6⟩ := row7 Rg
  (try clear d0 d1 d2 d3 d4 d5 d6 d7 d8 d9 d10 d11); obtain ⟨d0, d1, d2, d3, d4, d5, d6, d7, d8, d9, d10, d11⟩ := row12 Rd
  (try clear e0 e1 e2 e3 e4 e5 e6 e7 e8 e9 e10 e11); obtain ⟨e0, e1, e2, e3, e4, e5, e6, e7, e8, e9, e10, e11⟩ := row12 Re
  (try clear f0 f1 f2 f3 f4 f5 f6 f7 f8 f9 f10 f11); obtain ⟨f0, f1, f2, f3, f4, f5, f6, f7, f8, f9, f10, f11⟩ := row12 Rf
  (try clear m0 m1 m2 m3 m4 m5 m6 m7 m8 m9 m10 m11); obtain ⟨m0, m1, m2, m3, m4, m5, m6, m7, m8, m9, m10, m11⟩ := row12 Rm
  go_wp2
  go_ret
  exact ⟨rfl, hb0⟩
set_option maxRecDepth 100000 in
set_option maxHeartbeats 32000000 in
theorem meets_d (s : Sp) (p q x c : Px)
    (H1 : ∀ w, Calls Try.prog 30 #[sv s, pv p, pv q] w fun e w' => e = .returned (.tuple #[pv c, .bool true]) ∧ Below w.heap.size w w')
    (H2 : ∀ w, Calls Try.prog 30 #[sv s, pv q, pv p] w fun e w' => e = .returned (.tuple #[pv c, .bool true]) ∧ Below w.heap.size w w')
    (H3 : ∀ w, Calls Try.prog 28 #[sv s, pv p, pv x] w fun e w' => e = .returned (.bool true) ∧ Below w.heap.size w w')
    (H4 : ∀ w, Calls Try.prog 28 #[sv s, pv q, pv x] w fun e w' => e = .returned (.bool false) ∧ Below w.heap.size w w')
    (H5 : ∀ w, Calls Try.prog 28 #[sv s, pv p, pv c] w fun e w' => e = .returned (.bool true) ∧ Below w.heap.size w w')
    (H6 : ∀ w, Calls Try.prog 28 #[sv s, pv q, pv c] w fun e w' => e = .returned (.bool true) ∧ Below w.heap.size w w')
    (H7 : ∀ w, Calls Try.prog 28 #[sv s, pv c, pv x] w fun e w' => e = .returned (.bool false) ∧ Below w.heap.size w w') (w : World) :
    Calls Try.prog 8 #[sv s, pv p, pv q, pv x] w fun e w' => e = .returned (.bool true) ∧ Below w.heap.size w w' := by
  have HA := alive9_t
  have qn := neq_px c c
  have qe := eql_px pz pz
  rw [decide_eq_true rfl] at qn qe
  unfold pz kz at *
  unfold sv pv at *
  obtain ⟨Rg, Rd, Re, Rf, hb0⟩ := four_rows w #[.int .i64 s.n, .int .i64 s.d0.kind, .int .i64 s.d0.side, .int .i64 s.d0.step, .int .i64 s.d1.kind, .int .i64 s.d1.side, .int .i64 s.d1.step] #[.int .i64 p.a0, .int .i64 p.a1, .int .i64 p.k0.kind, .int .i64 p.k0.len, .int .u64 p.k0.h, .int .u64 p.k0.l, .string ⟨p.k0.path.toArray⟩, .int .i64 p.k1.kind, .int .i64 p.k1.len, .int .u64 p.k1.h, .int .u64 p.k1.l, .string ⟨p.k1.path.toArray⟩] #[.int .i64 q.a0, .int .i64 q.a1, .int .i64 q.k0.kind, .int .i64 q.k0.len, .int .u64 q.k0.h, .int .u64 q.k0.l, .string ⟨q.k0.path.toArray⟩, .int .i64 q.k1.kind, .int .i64 q.k1.len, .int .u64 q.k1.h, .int .u64 q.k1.l, .string ⟨q.k1.path.toArray⟩] #[.int .i64 x.a0, .int .i64 x.a1, .int .i64 x.k0.kind, .int .i64 x.k0.len, .int .u64 x.k0.h, .int .u64 x.k0.l, .string ⟨x.k0.path.toArray⟩, .int .i64 x.k1.kind, .int .i64 x.k1.len, .int .u64 x.k1.h, .int .u64 x.k1.l, .string ⟨x.k1.path.toArray⟩] 26 33 33 33
  (try clear g0 g1 g2 g3 g4 g5 g6); obtain ⟨g0, g1, g2, g3, g4, g5, g6⟩ := row7 Rg
  (try clear d0 d1 d2 d3 d4 d5 d6 d7 d8 d9 d10 d11); obtain ⟨d0, d1, d2, d3, d4, d5, d6, d7, d8, d9, d10, d11⟩ := row12 Rd
  (try clear e0 e1 e2 e3 e4 e5 e6 e7 e8 e9 e10 e11); obtain ⟨e0, e1, e2, e3, e4, e5, e6, e7, e8, e9, e10, e11⟩ := row12 Re
  (try clear f0 f1 f2 f3 f4 f5 f6 f7 f8 f9 f10 f11); obtain ⟨f0, f1, f2, f3, f4, f5, f6, f7, f8, f9, f10, f11⟩ := row12 Rf
  go_enter Try.func8, Try.ntmps8
  go_wp2_with fail
  refine (H1 _).mono ?_
  rintro e w1 ⟨rfl, hb⟩
  replace Rg := Rg.later hb
  replace Rd := Rd.later hb
  replace Re := Re.later hb
  replace Rf := Rf.later hb
  replace hb0 := below_step hb0 hb
  clear hb
  have lg := Rg.lt
  have ld := Rd.lt
  have le := Re.lt
  have lf := Rf.lt
  (try clear g0 g1 g2 g3 g4 g5 g6); obtain ⟨g0, g1, g2, g3, g4, g5, g6⟩ := row7 Rg
  (try clear d0 d1 d2 d3 d4 d5 d6 d7 d8 d9 d10 d11); obtain ⟨d0, d1, d2, d3, d4, d5, d6, d7, d8, d9, d10, d11⟩ := row12 Rd
  (try clear e0 e1 e2 e3 e4 e5 e6 e7 e8 e9 e10 e11); obtain ⟨e0, e1, e2, e3, e4, e5, e6, e7, e8, e9, e10, e11⟩ := row12 Re
  (try clear f0 f1 f2 f3 f4 f5 f6 f7 f8 f9 f10 f11); obtain ⟨f0, f1, f2, f3, f4, f5, f6, f7, f8, f9, f10, f11⟩ := row12 Rf
  go_wp2_with fail
  refine (H2 _).mono ?_
  rintro e w2 ⟨rfl, hb⟩
  have nmg := Rg.lt
  have nmd := Rd.lt
  have nme := Re.lt
  have nmf := Rf.lt
  replace Rg := (Rg.alloc _).later hb
  replace Rd := (Rd.alloc _).later hb
  replace Re := (Re.alloc _).later hb
  replace Rf := (Rf.alloc _).later hb
  have Rm := Row.later (Row.new _ _ _) hb
  have mm := hb0.size
  replace hb0 := below_step (hb0.alloc hb0.size _) hb
  clear hb
  generalize w1.heap.size = gm at *
  have lg := Rg.lt
  have ld := Rd.lt
  have le := Re.lt
  have lf := Rf.lt
  have lm := Rm.lt
  (try clear g0 g1 g2 g3 g4 g5 g6); obtain ⟨g0, g1, g2, g3, g4, g5, g6⟩ := row7 Rg
  (try clear d0 d1 d2 d3 d4 d5 d6 d7 d8 d9 d10 d11); obtain ⟨d0, d1, d2, d3, d4, d5, d6, d7, d8, d9, d10, d11⟩ := row12 Rd
  (try clear e0 e1 e2 e3 e4 e5 e6 e7 e8 e9 e10 e11); obtain ⟨e0, e1, e2, e3, e4, e5, e6, e7, e8, e9, e10, e11⟩ := row12 Re
  (try clear f0 f1 f2 f3 f4 f5 f6 f7 f8 f9 f10 f11); obtain ⟨f0, f1, f2, f3, f4, f5, f6, f7, f8, f9, f10, f11⟩ := row12 Rf
  (try clear m0 m1 m2 m3 m4 m5 m6 m7 m8 m9 m10 m11); obtain ⟨m0, m1, m2, m3, m4, m5, m6, m7, m8, m9, m10, m11⟩ := row12 Rm
  go_wp2_with fail
  refine (H3 _).mono ?_
  rintro e w3 ⟨rfl, hb⟩
  have nng := Rg.lt
  have nnd := Rd.lt
  have nne := Re.lt
  have nnf := Rf.lt
  have nnm := Rm.lt
  replace Rg := (Rg.alloc _).later hb
  replace Rd := (Rd.alloc _).later hb
  replace Re := (Re.alloc _).later hb
  replace Rf := (Rf.alloc _).later hb
  replace Rm := (Rm.alloc _).later hb
  have Rn := Row.later (Row.new _ _ _) hb
  have mn := hb0.size
  replace hb0 := below_step (hb0.alloc hb0.size _) hb
  clear hb
  generalize w2.heap.size = gn at *
  have lg := Rg.lt
  have ld := Rd.lt
  have le := Re.lt
  have lf := Rf.lt
  have lm := Rm.lt
  have ln := Rn.lt
  (try clear g0 g1 g2 g3 g4 g5 g6); obtain ⟨g0, g1, g2, g3, g4, g5, g6⟩ := row7 Rg
  (try clear d0 d1 d2 d3 d4 d5 d6 d7 d8 d9 d10 d11); obtain ⟨d0, d1, d2, d3, d4, d5, d6, d7, d8, d9, d10, d11⟩ := row12 Rd
  (try clear e0 e1 e2 e3 e4 e5 e6 e7 e8 e9 e10 e11); obtain ⟨e0, e1, e2, e3, e4, e5, e6, e7, e8, e9, e10, e11⟩ := row12 Re
  (try clear f0 f1 f2 f3 f4 f5 f6 f7 f8 f9 f10 f11); obtain ⟨f0, f1, f2, f3, f4, f5, f6, f7, f8, f9, f10, f11⟩ := row12 Rf
  (try clear m0 m1 m2 m3 m4 m5 m6 m7 m8 m9 m10 m11); obtain ⟨m0, m1, m2, m3, m4, m5, m6, m7, m8, m9, m10, m11⟩ := row12 Rm
  (try clear n0 n1 n2 n3 n4 n5 n6 n7 n8 n9 n10 n11); obtain ⟨n0, n1, n2, n3, n4, n5, n6, n7, n8, n9, n10, n11⟩ := row12 Rn
  go_wp2_with fail
  refine (H4 _).mono ?_
  rintro e w4 ⟨rfl, hb⟩
  replace Rg := Rg.later hb
  replace Rd := Rd.later hb
  replace Re := Re.later hb
  replace Rf := Rf.later hb
  replace Rm := Rm.later hb
  replace Rn := Rn.later hb
  replace hb0 := below_step hb0 hb
  clear hb
  have lg := Rg.lt
  have ld := Rd.lt
  have le := Re.lt
  have lf := Rf.lt
  have lm := Rm.lt
  have ln := Rn.lt
  (try clear g0 g1 g2 g3 g4 g5 g6); obtain ⟨g0, g1, g2, g3, g4, g5, g6⟩ := row7 Rg
  (try clear d0 d1 d2 d3 d4 d5 d6 d7 d8 d9 d10 d11); obtain ⟨d0, d1, d2, d3, d4, d5, d6, d7, d8, d9, d10, d11⟩ := row12 Rd
  (try clear e0 e1 e2 e3 e4 e5 e6 e7 e8 e9 e10 e11); obtain ⟨e0, e1, e2, e3, e4, e5, e6, e7, e8, e9, e10, e11⟩ := row12 Re
  (try clear f0 f1 f2 f3 f4 f5 f6 f7 f8 f9 f10 f11); obtain ⟨f0, f1, f2, f3, f4, f5, f6, f7, f8, f9, f10, f11⟩ := row12 Rf
  (try clear m0 m1 m2 m3 m4 m5 m6 m7 m8 m9 m10 m11); obtain ⟨m0, m1, m2, m3, m4, m5, m6, m7, m8, m9, m10, m11⟩ := row12 Rm
  (try clear n0 n1 n2 n3 n4 n5 n6 n7 n8 n9 n10 n11); obtain ⟨n0, n1, n2, n3, n4, n5, n6, n7, n8, n9, n10, n11⟩ := row12 Rn
  go_wp2_with fail
  refine (HA _).mono ?_
  rintro e w5 ⟨rfl, hb⟩
  replace Rg := Rg.later hb
  replace Rd := Rd.later hb
  replace Re := Re.later hb
  replace Rf := Rf.later hb
  replace Rm := Rm.later hb
  replace Rn := Rn.later hb
  replace hb0 := below_step hb0 hb
  clear hb
  have lg := Rg.lt
  have ld := Rd.lt
  have le := Re.lt
  have lf := Rf.lt
  have lm := Rm.lt
  have ln := Rn.lt
  (try clear g0 g1 g2 g3 g4 g5 g6); obtain ⟨g0, g1, g2, g3, g4, g5, g6⟩ := row7 Rg
  (try clear d0 d1 d2 d3 d4 d5 d6 d7 d8 d9 d10 d11); obtain ⟨d0, d1, d2, d3, d4, d5, d6, d7, d8, d9, d10, d11⟩ := row12 Rd
  (try clear e0 e1 e2 e3 e4 e5 e6 e7 e8 e9 e10 e11); obtain ⟨e0, e1, e2, e3, e4, e5, e6, e7, e8, e9, e10, e11⟩ := row12 Re
  (try clear f0 f1 f2 f3 f4 f5 f6 f7 f8 f9 f10 f11); obtain ⟨f0, f1, f2, f3, f4, f5, f6, f7, f8, f9, f10, f11⟩ := row12 Rf
  (try clear m0 m1 m2 m3 m4 m5 m6 m7 m8 m9 m10 m11); obtain ⟨m0, m1, m2, m3, m4, m5, m6, m7, m8, m9, m10, m11⟩ := row12 Rm
  (try clear n0 n1 n2 n3 n4 n5 n6 n7 n8 n9 n10 n11); obtain ⟨n0, n1, n2, n3, n4, n5, n6, n7, n8, n9, n10, n11⟩ := row12 Rn
  clear n0 n1 n2 n3 n4 n5 n6 n7 n8 n9 n10 n11
  go_wp2_with fail
  refine (H5 _).mono ?_
  rintro e w6 ⟨rfl, hb⟩
  replace Rg := Rg.later hb
  replace Rd := Rd.later hb
  replace Re := Re.later hb
  replace Rf := Rf.later hb
  replace Rm := Rm.later hb
  replace Rn := Rn.later hb
  replace hb0 := below_step hb0 hb
  clear hb
  have lg := Rg.lt
  have ld := Rd.lt
  have le := Re.lt
  have lf := Rf.lt
  have lm := Rm.lt
  have ln := Rn.lt
  (try clear g0 g1 g2 g3 g4 g5 g6); obtain ⟨g0, g1, g2, g3, g4, g5, g6⟩ := row7 Rg
  (try clear d0 d1 d2 d3 d4 d5 d6 d7 d8 d9 d10 d11); obtain ⟨d0, d1, d2, d3, d4, d5, d6, d7, d8, d9, d10, d11⟩ := row12 Rd
  (try clear e0 e1 e2 e3 e4 e5 e6 e7 e8 e9 e10 e11); obtain ⟨e0, e1, e2, e3, e4, e5, e6, e7, e8, e9, e10, e11⟩ := row12 Re
  (try clear f0 f1 f2 f3 f4 f5 f6 f7 f8 f9 f10 f11); obtain ⟨f0, f1, f2, f3, f4, f5, f6, f7, f8, f9, f10, f11⟩ := row12 Rf
  (try clear m0 m1 m2 m3 m4 m5 m6 m7 m8 m9 m10 m11); obtain ⟨m0, m1, m2, m3, m4, m5, m6, m7, m8, m9, m10, m11⟩ := row12 Rm
  go_wp2_with fail
  refine (H6 _).mono ?_
  rintro e w7 ⟨rfl, hb⟩
  replace Rg := Rg.later hb
  replace Rd := Rd.later hb
  replace Re := Re.later hb
  replace Rf := Rf.later hb
  replace Rm := Rm.later hb
  replace Rn := Rn.later hb
  replace hb0 := below_step hb0 hb
  clear hb
  have lg := Rg.lt
  have ld := Rd.lt
  have le := Re.lt
  have lf := Rf.lt
  have lm := Rm.lt
  have ln := Rn.lt
  (try clear g0 g1 g2 g3 g4 g5 g6); obtain ⟨g0, g1, g2, g3, g4, g5, g6⟩ := row7 Rg
  (try clear d0 d1 d2 d3 d4 d5 d6 d7 d8 d9 d10 d11); obtain ⟨d0, d1, d2, d3, d4, d5, d6, d7, d8, d9, d10, d11⟩ := row12 Rd
  (try clear e0 e1 e2 e3 e4 e5 e6 e7 e8 e9 e10 e11); obtain ⟨e0, e1, e2, e3, e4, e5, e6, e7, e8, e9, e10, e11⟩ := row12 Re
  (try clear f0 f1 f2 f3 f4 f5 f6 f7 f8 f9 f10 f11); obtain ⟨f0, f1, f2, f3, f4, f5, f6, f7, f8, f9, f10, f11⟩ := row12 Rf
  (try clear m0 m1 m2 m3 m4 m5 m6 m7 m8 m9 m10 m11); obtain ⟨m0, m1, m2, m3, m4, m5, m6, m7, m8, m9, m10, m11⟩ := row12 Rm
  go_wp2_with fail
  refine (H7 _).mono ?_
  rintro e w8 ⟨rfl, hb⟩
  replace Rg := Rg.later hb
  replace Rd := Rd.later hb
  replace Re := Re.later hb
  replace Rf := Rf.later hb
  replace Rm := Rm.later hb
  replace Rn := Rn.later hb
  replace hb0 := below_step hb0 hb
  clear hb
  have lg := Rg.lt
  have ld := Rd.lt
  have le := Re.lt
  have lf := Rf.lt
  have lm := Rm.lt
  have ln := Rn.lt
  (try clear g0 g1 g2 g3 g4 g5 g6); obtain ⟨g0, g1, g2, g3, g4, g5, g6⟩ := row7 Rg
  (try clear d0 d1 d2 d3 d4 d5 d6 d7 d8 d9 d10 d11); obtain ⟨d0, d1, d2, d3, d4, d5, d6, d7, d8, d9, d10, d11⟩ := row12 Rd
  (try clear e0 e1 e2 e3 e4 e5 e6 e7 e8 e9 e10 e11); obtain ⟨e0, e1, e2, e3, e4, e5, e6, e7, e8, e9, e10, e11⟩ := row12 Re
  (try clear f0 f1 f2 f3 f4 f5 f6 f7 f8 f9 f10 f11); obtain ⟨f0, f1, f2, f3, f4, f5, f6, f7, f8, f9, f10, f11⟩ := row12 Rf
  (try clear m0 m1 m2 m3 m4 m5 m6 m7 m8 m9 m10 m11); obtain ⟨m0, m1, m2, m3, m4, m5, m6, m7, m8, m9, m10, m11⟩ := row12 Rm
  go_wp2
  go_ret
  exact ⟨rfl, hb0⟩
set_option maxRecDepth 100000 in
set_option maxHeartbeats 32000000 in
theorem meets_e (s : Sp) (p q x c : Px)
    (H1 : ∀ w, Calls Try.prog 30 #[sv s, pv p, pv q] w fun e w' => e = .returned (.tuple #[pv c, .bool true]) ∧ Below w.heap.size w w')
    (H2 : ∀ w, Calls Try.prog 30 #[sv s, pv q, pv p] w fun e w' => e = .returned (.tuple #[pv c, .bool true]) ∧ Below w.heap.size w w')
    (H3 : ∀ w, Calls Try.prog 28 #[sv s, pv p, pv x] w fun e w' => e = .returned (.bool true) ∧ Below w.heap.size w w')
    (H4 : ∀ w, Calls Try.prog 28 #[sv s, pv q, pv x] w fun e w' => e = .returned (.bool true) ∧ Below w.heap.size w w')
    (H5 : ∀ w, Calls Try.prog 28 #[sv s, pv p, pv c] w fun e w' => e = .returned (.bool true) ∧ Below w.heap.size w w')
    (H6 : ∀ w, Calls Try.prog 28 #[sv s, pv q, pv c] w fun e w' => e = .returned (.bool true) ∧ Below w.heap.size w w')
    (H7 : ∀ w, Calls Try.prog 28 #[sv s, pv c, pv x] w fun e w' => e = .returned (.bool true) ∧ Below w.heap.size w w') (w : World) :
    Calls Try.prog 8 #[sv s, pv p, pv q, pv x] w fun e w' => e = .returned (.bool true) ∧ Below w.heap.size w w' := by
  have HA := alive9_t
  have qn := neq_px c c
  have qe := eql_px pz pz
  rw [decide_eq_true rfl] at qn qe
  unfold pz kz at *
  unfold sv pv at *
  obtain ⟨Rg, Rd, Re, Rf, hb0⟩ := four_rows w #[.int .i64 s.n, .int .i64 s.d0.kind, .int .i64 s.d0.side, .int .i64 s.d0.step, .int .i64 s.d1.kind, .int .i64 s.d1.side, .int .i64 s.d1.step] #[.int .i64 p.a0, .int .i64 p.a1, .int .i64 p.k0.kind, .int .i64 p.k0.len, .int .u64 p.k0.h, .int .u64 p.k0.l, .string ⟨p.k0.path.toArray⟩, .int .i64 p.k1.kind, .int .i64 p.k1.len, .int .u64 p.k1.h, .int .u64 p.k1.l, .string ⟨p.k1.path.toArray⟩] #[.int .i64 q.a0, .int .i64 q.a1, .int .i64 q.k0.kind, .int .i64 q.k0.len, .int .u64 q.k0.h, .int .u64 q.k0.l, .string ⟨q.k0.path.toArray⟩, .int .i64 q.k1.kind, .int .i64 q.k1.len, .int .u64 q.k1.h, .int .u64 q.k1.l, .string ⟨q.k1.path.toArray⟩] #[.int .i64 x.a0, .int .i64 x.a1, .int .i64 x.k0.kind, .int .i64 x.k0.len, .int .u64 x.k0.h, .int .u64 x.k0.l, .string ⟨x.k0.path.toArray⟩, .int .i64 x.k1.kind, .int .i64 x.k1.len, .int .u64 x.k1.h, .int .u64 x.k1.l, .string ⟨x.k1.path.toArray⟩] 26 33 33 33
  (try clear g0 g1 g2 g3 g4 g5 g6); obtain ⟨g0, g1, g2, g3, g4, g5, g6⟩ := row7 Rg
  (try clear d0 d1 d2 d3 d4 d5 d6 d7 d8 d9 d10 d11); obtain ⟨d0, d1, d2, d3, d4, d5, d6, d7, d8, d9, d10, d11⟩ := row12 Rd
  (try clear e0 e1 e2 e3 e4 e5 e6 e7 e8 e9 e10 e11); obtain ⟨e0, e1, e2, e3, e4, e5, e6, e7, e8, e9, e10, e11⟩ := row12 Re
  (try clear f0 f1 f2 f3 f4 f5 f6 f7 f8 f9 f10 f11); obtain ⟨f0, f1, f2, f3, f4, f5, f6, f7, f8, f9, f10, f11⟩ := row12 Rf
  go_enter Try.func8, Try.ntmps8
  go_wp2_with fail
  refine (H1 _).mono ?_
  rintro e w1 ⟨rfl, hb⟩
  replace Rg := Rg.later hb
  replace Rd := Rd.later hb
  replace Re := Re.later hb
  replace Rf := Rf.later hb
  replace hb0 := below_step hb0 hb
  clear hb
  have lg := Rg.lt
  have ld := Rd.lt
  have le := Re.lt
  have lf := Rf.lt
  (try clear g0 g1 g2 g3 g4 g5 g6); obtain ⟨g0, g1, g2, g3, g4, g5, g6⟩ := row7 Rg
  (try clear d0 d1 d2 d3 d4 d5 d6 d7 d8 d9 d10 d11); obtain ⟨d0, d1, d2, d3, d4, d5, d6, d7, d8, d9, d10, d11⟩ := row12 Rd
  (try clear e0 e1 e2 e3 e4 e5 e6 e7 e8 e9 e10 e11); obtain ⟨e0, e1, e2, e3, e4, e5, e6, e7, e8, e9, e10, e11⟩ := row12 Re
  (try clear f0 f1 f2 f3 f4 f5 f6 f7 f8 f9 f10 f11); obtain ⟨f0, f1, f2, f3, f4, f5, f6, f7, f8, f9, f10, f11⟩ := row12 Rf
  go_wp2_with fail
  refine (H2 _).mono ?_
  rintro e w2 ⟨rfl, hb⟩
  have nmg := Rg.lt
  have nmd := Rd.lt
  have nme := Re.lt
  have nmf := Rf.lt
  replace Rg := (Rg.alloc _).later hb
  replace Rd := (Rd.alloc _).later hb
  replace Re := (Re.alloc _).later hb
  replace Rf := (Rf.alloc _).later hb
  have Rm := Row.later (Row.new _ _ _) hb
  have mm := hb0.size
  replace hb0 := below_step (hb0.alloc hb0.size _) hb
  clear hb
  generalize w1.heap.size = gm at *
  have lg := Rg.lt
  have ld := Rd.lt
  have le := Re.lt
  have lf := Rf.lt
  have lm := Rm.lt
  (try clear g0 g1 g2 g3 g4 g5 g6); obtain ⟨g0, g1, g2, g3, g4, g5, g6⟩ := row7 Rg
  (try clear d0 d1 d2 d3 d4 d5 d6 d7 d8 d9 d10 d11); obtain ⟨d0, d1, d2, d3, d4, d5, d6, d7, d8, d9, d10, d11⟩ := row12 Rd
  (try clear e0 e1 e2 e3 e4 e5 e6 e7 e8 e9 e10 e11); obtain ⟨e0, e1, e2, e3, e4, e5, e6, e7, e8, e9, e10, e11⟩ := row12 Re
  (try clear f0 f1 f2 f3 f4 f5 f6 f7 f8 f9 f10 f11); obtain ⟨f0, f1, f2, f3, f4, f5, f6, f7, f8, f9, f10, f11⟩ := row12 Rf
  (try clear m0 m1 m2 m3 m4 m5 m6 m7 m8 m9 m10 m11); obtain ⟨m0, m1, m2, m3, m4, m5, m6, m7, m8, m9, m10, m11⟩ := row12 Rm
  go_wp2_with fail
  refine (H3 _).mono ?_
  rintro e w3 ⟨rfl, hb⟩
  have nng := Rg.lt
  have nnd := Rd.lt
  have nne := Re.lt
  have nnf := Rf.lt
  have nnm := Rm.lt
  replace Rg := (Rg.alloc _).later hb
  replace Rd := (Rd.alloc _).later hb
  replace Re := (Re.alloc _).later hb
  replace Rf := (Rf.alloc _).later hb
  replace Rm := (Rm.alloc _).later hb
  have Rn := Row.later (Row.new _ _ _) hb
  have mn := hb0.size
  replace hb0 := below_step (hb0.alloc hb0.size _) hb
  clear hb
  generalize w2.heap.size = gn at *
  have lg := Rg.lt
  have ld := Rd.lt
  have le := Re.lt
  have lf := Rf.lt
  have lm := Rm.lt
  have ln := Rn.lt
  (try clear g0 g1 g2 g3 g4 g5 g6); obtain ⟨g0, g1, g2, g3, g4, g5, g6⟩ := row7 Rg
  (try clear d0 d1 d2 d3 d4 d5 d6 d7 d8 d9 d10 d11); obtain ⟨d0, d1, d2, d3, d4, d5, d6, d7, d8, d9, d10, d11⟩ := row12 Rd
  (try clear e0 e1 e2 e3 e4 e5 e6 e7 e8 e9 e10 e11); obtain ⟨e0, e1, e2, e3, e4, e5, e6, e7, e8, e9, e10, e11⟩ := row12 Re
  (try clear f0 f1 f2 f3 f4 f5 f6 f7 f8 f9 f10 f11); obtain ⟨f0, f1, f2, f3, f4, f5, f6, f7, f8, f9, f10, f11⟩ := row12 Rf
  (try clear m0 m1 m2 m3 m4 m5 m6 m7 m8 m9 m10 m11); obtain ⟨m0, m1, m2, m3, m4, m5, m6, m7, m8, m9, m10, m11⟩ := row12 Rm
  (try clear n0 n1 n2 n3 n4 n5 n6 n7 n8 n9 n10 n11); obtain ⟨n0, n1, n2, n3, n4, n5, n6, n7, n8, n9, n10, n11⟩ := row12 Rn
  go_wp2_with fail
  refine (H4 _).mono ?_
  rintro e w4 ⟨rfl, hb⟩
  replace Rg := Rg.later hb
  replace Rd := Rd.later hb
  replace Re := Re.later hb
  replace Rf := Rf.later hb
  replace Rm := Rm.later hb
  replace Rn := Rn.later hb
  replace hb0 := below_step hb0 hb
  clear hb
  have lg := Rg.lt
  have ld := Rd.lt
  have le := Re.lt
  have lf := Rf.lt
  have lm := Rm.lt
  have ln := Rn.lt
  (try clear g0 g1 g2 g3 g4 g5 g6); obtain ⟨g0, g1, g2, g3, g4, g5, g6⟩ := row7 Rg
  (try clear d0 d1 d2 d3 d4 d5 d6 d7 d8 d9 d10 d11); obtain ⟨d0, d1, d2, d3, d4, d5, d6, d7, d8, d9, d10, d11⟩ := row12 Rd
  (try clear e0 e1 e2 e3 e4 e5 e6 e7 e8 e9 e10 e11); obtain ⟨e0, e1, e2, e3, e4, e5, e6, e7, e8, e9, e10, e11⟩ := row12 Re
  (try clear f0 f1 f2 f3 f4 f5 f6 f7 f8 f9 f10 f11); obtain ⟨f0, f1, f2, f3, f4, f5, f6, f7, f8, f9, f10, f11⟩ := row12 Rf
  (try clear m0 m1 m2 m3 m4 m5 m6 m7 m8 m9 m10 m11); obtain ⟨m0, m1, m2, m3, m4, m5, m6, m7, m8, m9, m10, m11⟩ := row12 Rm
  (try clear n0 n1 n2 n3 n4 n5 n6 n7 n8 n9 n10 n11); obtain ⟨n0, n1, n2, n3, n4, n5, n6, n7, n8, n9, n10, n11⟩ := row12 Rn
  go_wp2_with fail
  refine (HA _).mono ?_
  rintro e w5 ⟨rfl, hb⟩
  replace Rg := Rg.later hb
  replace Rd := Rd.later hb
  replace Re := Re.later hb
  replace Rf := Rf.later hb
  replace Rm := Rm.later hb
  replace Rn := Rn.later hb
  replace hb0 := below_step hb0 hb
  clear hb
  have lg := Rg.lt
  have ld := Rd.lt
  have le := Re.lt
  have lf := Rf.lt
  have lm := Rm.lt
  have ln := Rn.lt
  (try clear g0 g1 g2 g3 g4 g5 g6); obtain ⟨g0, g1, g2, g3, g4, g5, g6⟩ := row7 Rg
  (try clear d0 d1 d2 d3 d4 d5 d6 d7 d8 d9 d10 d11); obtain ⟨d0, d1, d2, d3, d4, d5, d6, d7, d8, d9, d10, d11⟩ := row12 Rd
  (try clear e0 e1 e2 e3 e4 e5 e6 e7 e8 e9 e10 e11); obtain ⟨e0, e1, e2, e3, e4, e5, e6, e7, e8, e9, e10, e11⟩ := row12 Re
  (try clear f0 f1 f2 f3 f4 f5 f6 f7 f8 f9 f10 f11); obtain ⟨f0, f1, f2, f3, f4, f5, f6, f7, f8, f9, f10, f11⟩ := row12 Rf
  (try clear m0 m1 m2 m3 m4 m5 m6 m7 m8 m9 m10 m11); obtain ⟨m0, m1, m2, m3, m4, m5, m6, m7, m8, m9, m10, m11⟩ := row12 Rm
  (try clear n0 n1 n2 n3 n4 n5 n6 n7 n8 n9 n10 n11); obtain ⟨n0, n1, n2, n3, n4, n5, n6, n7, n8, n9, n10, n11⟩ := row12 Rn
  clear n0 n1 n2 n3 n4 n5 n6 n7 n8 n9 n10 n11
  go_wp2_with fail
  refine (H5 _).mono ?_
  rintro e w6 ⟨rfl, hb⟩
  replace Rg := Rg.later hb
  replace Rd := Rd.later hb
  replace Re := Re.later hb
  replace Rf := Rf.later hb
  replace Rm := Rm.later hb
  replace Rn := Rn.later hb
  replace hb0 := below_step hb0 hb
  clear hb
  have lg := Rg.lt
  have ld := Rd.lt
  have le := Re.lt
  have lf := Rf.lt
  have lm := Rm.lt
  have ln := Rn.lt
  (try clear g0 g1 g2 g3 g4 g5 g6); obtain ⟨g0, g1, g2, g3, g4, g5, g6⟩ := row7 Rg
  (try clear d0 d1 d2 d3 d4 d5 d6 d7 d8 d9 d10 d11); obtain ⟨d0, d1, d2, d3, d4, d5, d6, d7, d8, d9, d10, d11⟩ := row12 Rd
  (try clear e0 e1 e2 e3 e4 e5 e6 e7 e8 e9 e10 e11); obtain ⟨e0, e1, e2, e3, e4, e5, e6, e7, e8, e9, e10, e11⟩ := row12 Re
  (try clear f0 f1 f2 f3 f4 f5 f6 f7 f8 f9 f10 f11); obtain ⟨f0, f1, f2, f3, f4, f5, f6, f7, f8, f9, f10, f11⟩ := row12 Rf
  (try clear m0 m1 m2 m3 m4 m5 m6 m7 m8 m9 m10 m11); obtain ⟨m0, m1, m2, m3, m4, m5, m6, m7, m8, m9, m10, m11⟩ := row12 Rm
  go_wp2_with fail
  refine (H6 _).mono ?_
  rintro e w7 ⟨rfl, hb⟩
  replace Rg := Rg.later hb
  replace Rd := Rd.later hb
  replace Re := Re.later hb
  replace Rf := Rf.later hb
  replace Rm := Rm.later hb
  replace Rn := Rn.later hb
  replace hb0 := below_step hb0 hb
  clear hb
  have lg := Rg.lt
  have ld := Rd.lt
  have le := Re.lt
  have lf := Rf.lt
  have lm := Rm.lt
  have ln := Rn.lt
  (try clear g0 g1 g2 g3 g4 g5 g6); obtain ⟨g0, g1, g2, g3, g4, g5, g6⟩ := row7 Rg
  (try clear d0 d1 d2 d3 d4 d5 d6 d7 d8 d9 d10 d11); obtain ⟨d0, d1, d2, d3, d4, d5, d6, d7, d8, d9, d10, d11⟩ := row12 Rd
  (try clear e0 e1 e2 e3 e4 e5 e6 e7 e8 e9 e10 e11); obtain ⟨e0, e1, e2, e3, e4, e5, e6, e7, e8, e9, e10, e11⟩ := row12 Re
  (try clear f0 f1 f2 f3 f4 f5 f6 f7 f8 f9 f10 f11); obtain ⟨f0, f1, f2, f3, f4, f5, f6, f7, f8, f9, f10, f11⟩ := row12 Rf
  (try clear m0 m1 m2 m3 m4 m5 m6 m7 m8 m9 m10 m11); obtain ⟨m0, m1, m2, m3, m4, m5, m6, m7, m8, m9, m10, m11⟩ := row12 Rm
  go_wp2_with fail
  refine (H7 _).mono ?_
  rintro e w8 ⟨rfl, hb⟩
  replace Rg := Rg.later hb
  replace Rd := Rd.later hb
  replace Re := Re.later hb
  replace Rf := Rf.later hb
  replace Rm := Rm.later hb
  replace Rn := Rn.later hb
  replace hb0 := below_step hb0 hb
  clear hb
  have lg := Rg.lt
  have ld := Rd.lt
  have le := Re.lt
  have lf := Rf.lt
  have lm := Rm.lt
  have ln := Rn.lt
  (try clear g0 g1 g2 g3 g4 g5 g6); obtain ⟨g0, g1, g2, g3, g4, g5, g6⟩ := row7 Rg
  (try clear d0 d1 d2 d3 d4 d5 d6 d7 d8 d9 d10 d11); obtain ⟨d0, d1, d2, d3, d4, d5, d6, d7, d8, d9, d10, d11⟩ := row12 Rd
  (try clear e0 e1 e2 e3 e4 e5 e6 e7 e8 e9 e10 e11); obtain ⟨e0, e1, e2, e3, e4, e5, e6, e7, e8, e9, e10, e11⟩ := row12 Re
  (try clear f0 f1 f2 f3 f4 f5 f6 f7 f8 f9 f10 f11); obtain ⟨f0, f1, f2, f3, f4, f5, f6, f7, f8, f9, f10, f11⟩ := row12 Rf
  (try clear m0 m1 m2 m3 m4 m5 m6 m7 m8 m9 m10 m11); obtain ⟨m0, m1, m2, m3, m4, m5, m6, m7, m8, m9, m10, m11⟩ := row12 Rm
  go_wp2
  go_ret
  exact ⟨rfl, hb0⟩
theorem meets_any9 (s : Sp) (p q x : Px) (op : p.ok) (oq : q.ok) (ox : x.ok) (w : World) : Calls Try.prog 8 #[sv s, pv p, pv q, pv x] w fun e w' => e = .returned (.bool true) ∧ Below w.heap.size w w' := by
  have H1 := cross9_t s p q op oq
  have H2 := cross9_t s q p oq op
  have H3 := over9_t s p x op ox
  have H4 := over9_t s q x oq ox
  have oc := px_lower_ok op oq
  have H5 := over9_t s p (crossX p q) op oc
  have H6 := over9_t s q (crossX p q) oq oc
  have H7 := over9_t s (crossX p q) x oc ox
  rw [← crossB_swap s p q, ← crossP_swap s p q] at H2
  have hm := @cross_meets s p q
  have hb := @cross_both s p q x
  cases hc : crossB s p q with
  | false =>
    rw [hc] at H1 H2
    rw [show crossP s p q = pz by unfold crossP; rw [hc]; rfl] at H1 H2
    cases h1 : overP s p x with
    | false => rw [h1] at H3; exact meets_a s p q x pz H1 H2 H3 w
    | true =>
      cases h2 : overP s q x with
      | false => rw [h1] at H3; rw [h2] at H4; exact meets_b s p q x pz H1 H2 H3 H4 w
      | true => have := (hb h1 h2).1; rw [hc] at this; cases this
  | true =>
    obtain ⟨e, e1, e2, e3⟩ := hm hc x
    rw [hc, e] at H1 H2
    rw [e1] at H5
    rw [e2] at H6
    rw [← e3] at H7
    generalize crossX p q = c at *
    cases h1 : overP s p x with
    | false => rw [h1] at H3 H7; exact meets_c s p q x c H1 H2 H3 H5 H6 H7 w
    | true =>
      cases h2 : overP s q x with
      | false => rw [h1] at H3 H7; rw [h2] at H4 H7; exact meets_d s p q x c H1 H2 H3 H4 H5 H6 H7 w
      | true => rw [h1] at H3 H7; rw [h2] at H4 H7; exact meets_e s p q x c H1 H2 H3 H4 H5 H6 H7 w
end Go.Proofs.Ytbekocknfpekoaa
namespace Go.Proofs.Ytbekocknfpekoaa
set_option linter.unusedVariables false
set_option linter.unusedSimpArgs false
open Go.ChangeShapes Go.WideShapes Go.ChangeAt Go.RowKit Go.Joins Go.Deep
theorem cellsPx : Try.prog.cellsOf 33 = 12 := by kernel_rfl
theorem cellsSp : Try.prog.cellsOf 26 = 7 := by kernel_rfl
theorem cellsAt : Try.prog.cellsOf 27 = 2 := by kernel_rfl
theorem cellsK2 : Try.prog.cellsOf 31 = 10 := by kernel_rfl
theorem cellsD2 : Try.prog.cellsOf 24 = 6 := by kernel_rfl
theorem cellsInt : Try.prog.cellsOf 3 = 1 := by kernel_rfl
section
variable {H : Type} {enc : TypeId × Value → H} {W : World} {base : Nat} {sp : Nat → Bool} {held : Bool}
def keyData (k : Ke) : DataW H := .agg [.lit (.int .i64 k.kind), .lit (.int .i64 k.len), .lit (.int .u64 k.h), .lit (.int .u64 k.l), .lit (.string k.path)]
set_option maxRecDepth 100000 in
theorem keyc_of {c0 c1 c2 c3 c4 : Value} {x : DataW H × List MemPlace} {fuel : Nat} (hf : DataW.trod enc Try.prog W base sp held fuel 30 [c0, c1, c2, c3, c4] = some x) :
    ∃ k : Ke, c0 = .int .i64 k.kind ∧ c1 = .int .i64 k.len ∧ c2 = .int .u64 k.h ∧ c3 = .int .u64 k.l ∧ c4 = .string ⟨k.path.toArray⟩ ∧ k.okL ∧ x.1 = keyData k := by
  have hs := Try.underlying30
  have F := field_at hs (by kernel_rfl) hf
  obtain ⟨_, _, h0, d0⟩ := F 0 _ c0 rfl rfl
  obtain ⟨_, _, h1, d1⟩ := F 1 _ c1 rfl rfl
  obtain ⟨_, _, h2, d2⟩ := F 2 _ c2 rfl rfl
  obtain ⟨_, _, h3, d3⟩ := F 3 _ c3 rfl rfl
  obtain ⟨_, _, h4, d4⟩ := F 4 _ c4 rfl rfl
  obtain ⟨n0, e0, g0, w0⟩ := DataW.trod_int Try.underlying3 h0
  obtain ⟨n1, e1, g1, w1⟩ := DataW.trod_int Try.underlying3 h1
  obtain ⟨n2, e2, g2, w2⟩ := DataW.trod_int Try.underlying28 h2
  obtain ⟨n3, e3, g3, w3⟩ := DataW.trod_int Try.underlying28 h3
  obtain ⟨s, e4, g4, w4⟩ := DataW.trod_string Try.underlying9 h4
  subst g0 g1 g2 g3 g4
  simp only [List.cons.injEq, and_true] at e0 e1 e2 e3 e4
  subst e0 e1 e2 e3 e4
  simp [Lit.wf, IntKind.min, IntKind.max, IntKind.signed, IntKind.bits] at w0 w1 w2 w3
  refine ⟨⟨n0, n1, n2, n3, s.data.toList⟩, rfl, rfl, rfl, rfl, rfl, ?_, ?_⟩
  · constructor <;> dsimp only
    · unfold Word; omega
    · unfold Word; omega
    · omega
    · omega
    · omega
    · omega
  · obtain ⟨ys, hy, hl, z0⟩ := d0
    obtain ⟨y1, hy1, _, z1⟩ := d1
    obtain ⟨y2, hy2, _, z2⟩ := d2
    obtain ⟨y3, hy3, _, z3⟩ := d3
    obtain ⟨y4, hy4, _, z4⟩ := d4
    rw [hy] at hy1 hy2 hy3 hy4
    cases hy1; cases hy2; cases hy3; cases hy4
    rw [hy]
    match ys, hl with
    | [a, b, c, d, e], _ =>
      simp at z0 z1 z2 z3 z4
      rw [z0, z1, z2, z3, z4]; rfl
def pxData (p : Px) : DataW H := .agg [.agg [.lit (.int .i64 p.a0), .lit (.int .i64 p.a1)], .agg [keyData p.k0, keyData p.k1]]
/-- what a prefix holds as an argument, its paths' lengths aside -/
structure Px.okL (p : Px) : Prop where
  k0 : p.k0.okL
  k1 : p.k1.okL
  a00 : -9223372036854775808 ≤ p.a0
  a01 : p.a0 ≤ 9223372036854775807
  a10 : -9223372036854775808 ≤ p.a1
  a11 : p.a1 ≤ 9223372036854775807
theorem int_cell {c : Value} {x : DataW H × List MemPlace} {fuel : Nat} (hf : DataW.trod enc Try.prog W base sp held fuel 3 [c] = some x) : ∃ n : Int, c = .int .i64 n ∧ x.1 = .lit (.int .i64 n) ∧ -9223372036854775808 ≤ n ∧ n ≤ 9223372036854775807 := by
  obtain ⟨n, e, g, w⟩ := DataW.trod_int Try.underlying3 hf
  simp only [List.cons.injEq, and_true] at e
  simp [Lit.wf, IntKind.min, IntKind.max, IntKind.signed, IntKind.bits] at w
  subst g
  exact ⟨n, e, rfl, by omega, by omega⟩
theorem pair_of {α : Type} {xs : List α} (h : xs.length = 2) : ∃ a b, xs = [a, b] := by
  match xs, h with
  | [a, b], _ => exact ⟨a, b, rfl⟩
set_option maxRecDepth 100000 in
theorem px_of_trod {v : Value} {d : DataW H} {p : List MemPlace} {r : Reach} {b0 : Nat} (hv : Value.okWide Try.prog W r b0 33 v) (h : DataW.Trod enc Try.prog W base sp held 33 v d p) : ∃ k : Px, v = pv k ∧ k.okL ∧ d = pxData k := by
  have hs := Try.underlying33
  obtain ⟨⟨l⟩, rfl, hsz⟩ := okWide_struct hs hv
  obtain ⟨fuel, hf⟩ := h
  match l, hsz.trans cellsPx with
  | [c0, c1, c2, c3, c4, c5, c6, c7, c8, c9, c10, c11], _ =>
    obtain ⟨y0, y1, n, hx, _, h0, h1⟩ := trod_struct2 hs hf
    rw [cellsAt] at h0
    rw [cellsK2] at h1
    simp [Value.cells] at h0 h1
    obtain ⟨xs, m, _, rfl, _, hl, hi⟩ := DataW.trod_array Try.underlying27 h0
    obtain ⟨zs, m2, _, rfl, _, hl2, hi2⟩ := DataW.trod_array Try.underlying31 h1
    rw [cellsInt] at hi
    rw [cellsKey] at hi2
    obtain ⟨xa, xb, rfl⟩ := pair_of hl
    obtain ⟨za, zb, rfl⟩ := pair_of hl2
    have g0 := hi 0 (by omega)
    have g1 := hi 1 (by omega)
    have g2 := hi2 0 (by omega)
    have g3 := hi2 1 (by omega)
    simp at g0 g1 g2 g3
    obtain ⟨n0, rfl, q0, r0, r1⟩ := int_cell g0
    obtain ⟨n1, rfl, q1, r2, r3⟩ := int_cell g1
    obtain ⟨k0, rfl, rfl, rfl, rfl, rfl, o0, e0⟩ := keyc_of g2
    obtain ⟨k1, rfl, rfl, rfl, rfl, rfl, o1, e1⟩ := keyc_of g3
    refine ⟨⟨n0, n1, k0, k1⟩, rfl, ⟨o0, o1, r0, r1, r2, r3⟩, ?_⟩
    have := congrArg Prod.fst hx
    simp only at this
    rw [this]
    simp [q0, q1, e0, e1, pxData]
theorem dimc_of {c0 c1 c2 : Value} {x : DataW H × List MemPlace} {fuel : Nat} (hf : DataW.trod enc Try.prog W base sp held fuel 23 [c0, c1, c2] = some x) : ∃ k : Dm, c0 = .int .i64 k.kind ∧ c1 = .int .i64 k.side ∧ c2 = .int .i64 k.step ∧ k.ok := by
  have hs := Try.underlying23
  have F := field_at hs (by kernel_rfl) hf
  obtain ⟨_, _, h0, _⟩ := F 0 _ c0 rfl rfl
  obtain ⟨_, _, h1, _⟩ := F 1 _ c1 rfl rfl
  obtain ⟨_, _, h2, _⟩ := F 2 _ c2 rfl rfl
  obtain ⟨n0, rfl, _, r0, r1⟩ := int_cell h0
  obtain ⟨n1, rfl, _, r2, r3⟩ := int_cell h1
  obtain ⟨n2, rfl, _, r4, r5⟩ := int_cell h2
  exact ⟨⟨n0, n1, n2⟩, rfl, rfl, rfl, ⟨r0, r1, r2, r3, r4, r5⟩⟩
set_option maxRecDepth 100000 in
theorem sp_of_trod {v : Value} {d : DataW H} {p : List MemPlace} {r : Reach} {b0 : Nat} (hv : Value.okWide Try.prog W r b0 26 v) (h : DataW.Trod enc Try.prog W base sp held 26 v d p) : ∃ s : Sp, v = sv s ∧ s.ok := by
  have hs := Try.underlying26
  obtain ⟨⟨l⟩, rfl, hsz⟩ := okWide_struct hs hv
  obtain ⟨fuel, hf⟩ := h
  match l, hsz.trans cellsSp with
  | [c0, c1, c2, c3, c4, c5, c6], _ =>
    obtain ⟨y0, y1, n, _, _, h0, h1⟩ := trod_struct2 hs hf
    rw [cellsInt] at h0
    rw [cellsD2] at h1
    simp [Value.cells] at h0 h1
    obtain ⟨n0, rfl, _, r0, r1⟩ := int_cell h0
    obtain ⟨zs, m2, _, rfl, _, hl2, hi2⟩ := DataW.trod_array Try.underlying24 h1
    rw [cellsDim] at hi2
    obtain ⟨za, zb, rfl⟩ := pair_of hl2
    have g2 := hi2 0 (by omega)
    have g3 := hi2 1 (by omega)
    simp at g2 g3
    obtain ⟨k0, rfl, rfl, rfl, o0⟩ := dimc_of g2
    obtain ⟨k1, rfl, rfl, rfl, o1⟩ := dimc_of g3
    exact ⟨⟨n0, k0, k1⟩, rfl, r0, r1, o0, o1⟩
theorem px_sized {ts : List TypeId} {ds : List (DataW H)} {d : DataW H} {j : Nat} {k : Px} (h : (DataW.weightsEach Try.prog ts ds).all (· ≤ reachBytes) = true) (ht : ts[j]? = some 33) (hd : ds[j]? = some d)
    (e : d = pxData k) (ok : k.okL) : k.ok := by
  subst e
  have hu := Try.underlying30
  have hu1 := Try.underlying33
  have hu2 := Try.underlying31
  have hu3 := Try.underlying27
  have m0 := List.all_eq_true.1 h _ (DataW.weights_mem_each ht hd k.k0.path.length (by simp [pxData, keyData, DataW.weights, DataW.weightsEach, DataW.weightsAll, hu, hu1, hu2, hu3]))
  have m1 := List.all_eq_true.1 h _ (DataW.weights_mem_each ht hd k.k1.path.length (by simp [pxData, keyData, DataW.weights, DataW.weightsEach, DataW.weightsAll, hu, hu1, hu2, hu3]))
  have h2 : k.k0.path.length ≤ reachBytes := by simpa using m0
  have h4 : k.k1.path.length ≤ reachBytes := by simpa using m1
  have h3 : reachBytes < 140737488355328 := by decide
  exact ⟨⟨ok.k0.h, ok.k0.l, ok.k0.k0, ok.k0.k1, ok.k0.n0, ok.k0.n1, by omega⟩, ⟨ok.k1.h, ok.k1.l, ok.k1.k0, ok.k1.k1, ok.k1.n0, ok.k1.n1, by omega⟩, ok.a00, ok.a01, ok.a10, ok.a11⟩
end
end Go.Proofs.Ytbekocknfpekoaa
