/- P9: what the theorem needs of these texts. No conditions beyond those that are written. -/
import Derived.Test.YtbekocknfpekoaaPA
namespace Go.Proofs.Ytbekocknfpekoaa
set_option linter.unusedVariables false
set_option linter.unusedSimpArgs false
open Go.RowKit
theorem pz_ok : pz.ok := ⟨kz_ok, kz_ok, by decide, by decide, by decide, by decide⟩
theorem upP_ok {p : Px} (ok : p.ok) (s : Sp) (b0 b1 : Int) (h0 : -9223372036854775808 ≤ b0) (h1 : b0 ≤ 9223372036854775807) (h2 : -9223372036854775808 ≤ b1) (h3 : b1 ≤ 9223372036854775807) : (upP s p b0 b1).ok := by
  unfold upP
  split
  · exact ⟨cutD_ok ok.k0 _ _, cutD_ok ok.k1 _ _, h0, h1, h2, h3⟩
  · exact pz_ok
theorem crossP_ok {p q : Px} (op : p.ok) (oq : q.ok) (s : Sp) : (crossP s p q).ok := by
  unfold crossP
  split
  · exact px_lower_ok op oq
  · exact pz_ok
theorem rootK_ok (k : Int) (h0 : -9223372036854775808 ≤ k) (h1 : k ≤ 9223372036854775807) : (rootK k).ok := by
  unfold rootK
  split
  · exact kz_ok
  · exact ⟨by unfold Word; dsimp only; omega, by unfold Word; dsimp only; omega, h0, h1, by dsimp only; omega, by dsimp only; omega, by simp⟩
theorem depthD_range (d : Dm) : 0 ≤ depthD d ∧ depthD d ≤ 128 := by
  cases h : rightD d with
  | true => have := depth_range h; omega
  | false => unfold depthD; rw [if_neg (by simp [h])]; omega
structure Sp.ok (s : Sp) : Prop where
  n0 : -9223372036854775808 ≤ s.n
  n1 : s.n ≤ 9223372036854775807
  d0 : s.d0.ok
  d1 : s.d1.ok
theorem topP_ok {s : Sp} (ok : s.ok) : (topP s).ok := by
  have h0 := depthD_range s.d0
  have h1 := depthD_range s.d1
  unfold topP
  split
  · exact ⟨rootK_ok _ ok.d0.k0 ok.d0.k1, rootK_ok _ ok.d1.k0 ok.d1.k1, by dsimp only; omega, by dsimp only; omega, by dsimp only; omega, by dsimp only; omega⟩
  · exact pz_ok
theorem fourK_ok (a : Int) : (fourK a).ok := ⟨word_hi _, word_lo _, by unfold fourK; dsimp only; omega, by unfold fourK; dsimp only; omega, by unfold fourK; dsimp only; omega, by unfold fourK; dsimp only; omega, by unfold fourK; simp⟩
def s9 : Sp := ⟨2, ⟨1, 1, 8⟩, ⟨1, 2, 8⟩⟩
theorem s9_ok : s9.ok := ⟨by decide, by decide, ⟨by decide, by decide, by decide, by decide, by decide, by decide⟩, ⟨by decide, by decide, by decide, by decide, by decide, by decide⟩⟩
def p9 : Px := ⟨0, 0, fourK 167837953, fourK 3232235777⟩
theorem p9_ok : p9.ok := ⟨fourK_ok _, fourK_ok _, by decide, by decide, by decide, by decide⟩
def a9 : Px := upP s9 p9 3 4
def b9 : Px := upP s9 p9 4 2
def x9 : Px := crossP s9 a9 b9
def t9 : Px := topP s9
theorem a9_ok : a9.ok := upP_ok p9_ok s9 3 4 (by decide) (by decide) (by decide) (by decide)
theorem b9_ok : b9.ok := upP_ok p9_ok s9 4 2 (by decide) (by decide) (by decide) (by decide)
theorem x9_ok : x9.ok := crossP_ok a9_ok b9_ok s9
theorem t9_ok : t9.ok := topP_ok s9_ok
theorem alive9_t (w : World) : Calls Try.prog 24 #[] w fun e w' => e = .returned (.bool true) ∧ Below w.heap.size w w' := by
  refine alive9_go s9 (fourK 167837953) (fourK 3232235777) (fourK 1) p9 a9 b9 x9 t9 (by decide +kernel) (by decide +kernel) four9_t
    (kfour_t _ (by decide) (by decide)) (kfour_t _ (by decide) (by decide)) (kfour_t _ (by decide) (by decide)) ?_ ?_ (up9_t s9 p9 p9_ok 3 4) (up9_t s9 p9 p9_ok 4 2) ?_ (top9_t s9) ?_ ?_ ?_ ?_ ?_ ?_ ?_ ?_ w
  · intro w
    have h := leaf_t s9 (fourK 167837953) (fourK 3232235777) (fourK_ok _) (fourK_ok _) w
    rw [show leafP s9 (fourK 167837953) (fourK 3232235777) = p9 by decide +kernel, show rightP s9 ⟨0, 0, fourK 167837953, fourK 3232235777⟩ = true by decide +kernel] at h
    exact h
  · intro w
    have h := leaf_t s9 (fourK 1) kz (fourK_ok _) kz_ok w
    rw [show leafP s9 (fourK 1) kz = pz by decide +kernel, show rightP s9 ⟨0, 0, fourK 1, kz⟩ = false by decide +kernel] at h
    exact h
  · intro w
    have h := cross9_t s9 a9 b9 a9_ok b9_ok w
    rw [show crossB s9 a9 b9 = true by decide +kernel] at h
    exact h
  · intro w
    have h := sound_t s9 w
    rw [show soundS s9 = true by decide +kernel] at h
    exact h
  · intro w
    have h := sound_t ⟨3, s9.d0, s9.d1⟩ w
    rw [show soundS ⟨3, s9.d0, s9.d1⟩ = false by decide +kernel] at h
    exact h
  · intro w
    have h := up9_t s9 p9 p9_ok 3 2 w
    rw [show upP s9 p9 3 2 = x9 by decide +kernel] at h
    exact h
  · intro w
    have h := height_t s9 x9 x9_ok w
    rw [show heightP s9 x9 = 5 by decide +kernel] at h
    exact h
  · intro w
    have h := over9_t s9 t9 p9 t9_ok p9_ok w
    rw [show overP s9 t9 p9 = true by decide +kernel] at h
    exact h
  · intro w
    have h := over9_t s9 p9 t9 p9_ok t9_ok w
    rw [show overP s9 p9 t9 = false by decide +kernel] at h
    exact h
  · intro w
    have h := pcmp_t p9 t9 p9_ok t9_ok w
    rw [show cmpP p9 t9 = -1 by decide +kernel] at h
    exact h
  · intro w
    have h := right9_t s9 x9 x9_ok w
    rw [show rightP s9 x9 = true by decide +kernel] at h
    exact h
end Go.Proofs.Ytbekocknfpekoaa
