/- Parts as records; their bytes in a row; reading them back, whole or cut. No conditions beyond ranges. -/
import Derived.Test.YtgioompelogopaaBacks
import Derived.Deep.Slices
namespace Go.Proofs.Ytgioompelogopaa
set_option linter.unusedVariables false
set_option linter.unusedSimpArgs false
open Go.RowKit
structure PD where
  k : Int
  i : Int
  n : Int
  ah : Int
  al : Int
  s : ByteArray
  b : Value
  bl : List Int
def PD.at (d : PD) (w : World) (g o : Nat) : Prop := PartAt w g o d.k d.i d.n d.ah d.al d.s d.b d.bl
def pB (d : PD) : List Int := partB d.k d.i d.n d.ah d.al d.s d.bl
theorem parts_fun {w : World} {g o n : Nat} (h : ∀ j, j < n → ∃ k i m ah al s b bl, PartAt w g (o + j * 7) k i m ah al s b bl) : ∃ f : Nat → PD, ∀ j, j < n → (f j).at w g (o + j * 7) := by
  have h2 : ∀ j, ∃ d : PD, j < n → d.at w g (o + j * 7) := by
    intro j
    by_cases hj : j < n
    · obtain ⟨k, i, m, ah, al, s, b, bl, P⟩ := h j hj
      exact ⟨⟨k, i, m, ah, al, s, b, bl⟩, fun _ => P⟩
    · exact ⟨⟨0, 0, 0, 0, 0, ⟨#[]⟩, undef, []⟩, fun h => absurd h hj⟩
  exact ⟨fun j => Classical.choose (h2 j), fun j hj => Classical.choose_spec (h2 j) hj⟩
/-- the bytes of the first j parts -/
def upto (f : Nat → PD) : Nat → List Int
  | 0 => []
  | j + 1 => upto f j ++ pB (f j)
/-- the bytes of m parts from the part j on -/
def after (f : Nat → PD) : Nat → Nat → List Int
  | 0, _ => []
  | m + 1, j => pB (f j) ++ after f m (j + 1)
theorem upto_after (f : Nat → PD) : ∀ (m j : Nat), upto f j ++ after f m j = upto f (j + m)
  | 0, j => by simp [after]
  | m + 1, j => by
    rw [after, ← List.append_assoc, show upto f j ++ pB (f j) = upto f (j + 1) from rfl, upto_after f m (j + 1)]
    congr 1; omega
theorem after_all (f : Nat → PD) (n : Nat) : after f n 0 = upto f n := by
  have := upto_after f n 0
  simpa [upto] using this
theorem takenS_app (a r : List Int) : takenS (a ++ r) 0 (a.length : Int) = a := by
  unfold takenS; rw [if_pos ⟨rfl, by rw [List.length_append]; omega⟩]; simp
theorem leftS_app (a r : List Int) : leftS (a ++ r) 0 (a.length : Int) = r := by
  unfold leftS; rw [if_pos ⟨rfl, by rw [List.length_append]; omega⟩]; simp
theorem errS_app (a r : List Int) : errS (a ++ r) 0 (a.length : Int) = 0 := by
  unfold errS; rw [if_neg]; intro h; have := h.2; rw [List.length_append] at this; omega
/-- a reader of a cut: what is left is a true beginning of r, or bytes were missing -/
def Cut (r l : List Int) (e : Int) : Prop := (e = 0 ∧ ∃ m, l = r.take m ∧ m < r.length) ∨ e = 8
theorem Cut.step {a r l : List Int} {e : Int} (h : Cut (a ++ r) l e) : Cut r (leftS l e a.length) (errS l e a.length) ∧ (errS l e a.length = 0 → takenS l e a.length = a) := by
  rcases h with ⟨rfl, m, rfl, hm⟩ | rfl
  · rw [List.length_append] at hm
    have hl : ((a ++ r).take m).length = m := by rw [List.length_take, List.length_append]; omega
    by_cases ha : a.length ≤ m
    · have hc : ((0 : Int) = 0 ∧ (a.length : Int) ≤ ((a ++ r).take m).length) := ⟨rfl, by rw [hl]; omega⟩
      have hn : ¬ ((0 : Int) = 0 ∧ (((a ++ r).take m).length : Int) < a.length) := fun h => by rw [hl] at h; omega
      unfold leftS errS takenS
      rw [if_pos hc, if_neg hn, if_pos hc]
      refine ⟨.inl ⟨rfl, m - a.length, ?_, by omega⟩, fun _ => ?_⟩
      · simp [List.drop_take]
      · simp [List.take_take, Nat.min_eq_left ha]
    · have hc : ¬ ((0 : Int) = 0 ∧ (a.length : Int) ≤ ((a ++ r).take m).length) := fun h => by rw [hl] at h; omega
      have hn : ((0 : Int) = 0 ∧ (((a ++ r).take m).length : Int) < a.length) := ⟨rfl, by rw [hl]; omega⟩
      unfold leftS errS
      rw [if_neg hc, if_pos hn]
      exact ⟨.inr rfl, fun h => by cases h⟩
  · unfold leftS errS
    rw [if_neg (fun h => by cases h.1), if_neg (fun h => by cases h.1)]
    exact ⟨.inr rfl, fun h => by cases h⟩
theorem Cut.must {r l : List Int} {e : Int} (h : Cut r l e) (b : Bool) (hb : e = 0 → b = true) : Cut r l (mustS e b) := by
  have : mustS e b = e := by
    unfold mustS; rw [if_neg]; intro h2; have := hb h2.1; rw [this] at h2; cases h2.2
  rw [this]; exact h
theorem Cut.end {l : List Int} {e : Int} (h : Cut [] l e) : e = 8 := by
  rcases h with ⟨_, m, _, hm⟩ | h
  · cases hm
  · exact h
/-- the kinds of parts that are read back -/
structure Good (d : PD) : Prop where
  k0 : 0 ≤ d.k
  k3 : d.k ≤ 3
  s3 : d.s.size ≤ 300
  b3 : d.bl.length ≤ 300
theorem pB_len {d : PD} (h : Good d) : (pB d).length ≤ 302 := by
  unfold pB partB
  have h1 := limK_range d.i
  have h2 := h.s3
  have h3 := h.b3
  split
  · rw [numB_length]; omega
  split
  · rw [List.length_append, numB_length, numB_length]; omega
  split
  · unfold textB cut65
    rw [if_pos (by omega), List.length_append, numB_length, strB_length]; omega
  split
  · omega
  · simp
theorem pB0 {d : PD} (h : d.k = 0) : pB d = numB d.n (limK d.i) := by unfold pB partB; rw [if_pos h]
theorem pB1 {d : PD} (h : d.k = 1) : pB d = numB d.ah 8 ++ numB d.al 8 := by unfold pB partB; rw [h]; rfl
theorem pB2 {d : PD} (h : d.k = 2) (hs : d.s.size ≤ 300) : pB d = numB d.s.size 2 ++ strB d.s := by
  unfold pB partB; rw [h]
  show textB d.s = _
  unfold textB cut65; rw [if_pos (by omega)]
theorem pB3 {d : PD} (h : d.k = 3) : pB d = d.bl := by unfold pB partB; rw [h]; rfl
theorem val16 (ah al : Int) (hh : Word ah) (hl : Word al) : hi (valB (numB ah 8 ++ numB al 8)) = ah ∧ lo (valB (numB ah 8 ++ numB al 8)) = al := by
  obtain ⟨a0, a1⟩ := hh
  obtain ⟨b0, b1⟩ := hl
  rw [valB_app, valB_numB, valB_numB, numB_length]
  have e : (256 : Int) ^ 8 = 18446744073709551616 := by decide
  rw [e]
  unfold hi lo
  omega
theorem val2 (s : Nat) (h : s ≤ 300) : valB (numB (s : Int) 2) = s := by
  rw [valB_numB]
  have e : (256 : Int) ^ 2 = 65536 := by decide
  rw [e]; omega
/-- a text, read whole -/
theorem text_back (s : ByteArray) (r : List Int) (hs : s.size ≤ 300) :
    byS (textT (numB s.size 2 ++ strB s ++ r) 0 300) = s ∧ textL (numB s.size 2 ++ strB s ++ r) 0 300 = r ∧ textX (numB s.size 2 ++ strB s ++ r) 0 300 = 0 := by
  have e1 : takenS (numB s.size 2 ++ strB s ++ r) 0 2 = numB s.size 2 := by
    rw [List.append_assoc]; have := takenS_app (numB s.size 2) (strB s ++ r); rwa [numB_length] at this
  have e2 : leftS (numB s.size 2 ++ strB s ++ r) 0 2 = strB s ++ r := by
    rw [List.append_assoc]; have := leftS_app (numB s.size 2) (strB s ++ r); rwa [numB_length] at this
  have e3 : errS (numB s.size 2 ++ strB s ++ r) 0 2 = 0 := by
    rw [List.append_assoc]; have := errS_app (numB s.size 2) (strB s ++ r); rwa [numB_length] at this
  have e4 : textN (numB s.size 2 ++ strB s ++ r) 0 = s.size := by unfold textN; rw [e1]; exact val2 _ hs
  have e5 : textE (numB s.size 2 ++ strB s ++ r) 0 300 = 0 := by
    unfold textE; rw [e3, e4]; unfold mustS; rw [if_neg]; intro h; have := h.2; simp at this; omega
  unfold textT textL textX
  rw [e2, e4, e5]
  have hl : (s.size : Int) = ((strB s).length : Int) := by rw [strB_length]
  rw [hl, takenS_app, leftS_app, errS_app, byS_strB]
  exact ⟨rfl, rfl, rfl⟩
/-- a text, read of a cut -/
theorem Cut.text {s : ByteArray} {r l : List Int} {e : Int} (hs : s.size ≤ 300) (h : Cut (numB s.size 2 ++ strB s ++ r) l e) : Cut r (textL l e 300) (textX l e 300) := by
  rw [List.append_assoc] at h
  have h1 := h.step
  rw [numB_length] at h1
  obtain ⟨h1, h2⟩ := h1
  have hb : errS l e ((2 : Nat) : Int) = 0 → textN l e = s.size := fun h0 => by
    unfold textN; rw [show (2 : Int) = ((2 : Nat) : Int) from rfl, h2 h0]; exact val2 _ hs
  have hm := h1.must (decide (textN l e ≤ 300)) (fun h0 => by rw [hb h0]; simp; omega)
  unfold textL textX
  have he : textE l e 300 = mustS (errS l e ((2 : Nat) : Int)) (decide (textN l e ≤ 300)) := rfl
  rw [he]
  rcases hm with ⟨h0, m, hl, hmm⟩ | h8
  · have hz : errS l e ((2 : Nat) : Int) = 0 := by
      unfold mustS at h0; split at h0
      · cases h0
      · exact h0
    have hs2 := (Cut.step (a := strB s) (r := r) (l := leftS l e ((2 : Nat) : Int)) (e := mustS (errS l e ((2 : Nat) : Int)) (decide (textN l e ≤ 300))) (.inl ⟨h0, m, hl, hmm⟩)).1
    rw [strB_length] at hs2
    rw [hb hz]
    rw [hb hz] at hs2
    exact hs2
  · rw [h8]
    right
    unfold errS
    rw [if_neg (fun h => by cases h.1)]
end Go.Proofs.Ytgioompelogopaa
