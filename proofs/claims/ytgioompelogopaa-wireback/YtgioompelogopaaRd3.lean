/- The reader of package wire as a state: bytes left and an error; take and Must. No conditions beyond lengths. -/
import Derived.Test.YtgioompelogopaaRd2
namespace Go.Proofs.Ytgioompelogopaa
set_option linter.unusedVariables false
set_option linter.unusedSimpArgs false
open Go.RowKit
/-- a reader at the value x: made, with the bytes l left and the error e (d = false); or one that answers e, not OK, whatever is asked (d = true) -/
def St (d : Bool) (w : World) (x : Value) (l : List Int) (e : Int) : Prop :=
  (d = false ∧ ∃ p, x = .pointer (some ⟨p, 0, none⟩) ∧ Rd w p l e) ∨ (d = true ∧ Dead w x e ∧ l = [])
def atP (x : Value) (k : Nat) : Prop := x = .pointer (some ⟨k, 0, none⟩)
/-- what take takes, what it leaves, and the error behind it -/
def takenS (l : List Int) (e n : Int) : List Int := if e = 0 ∧ n ≤ l.length then l.take n.toNat else []
def leftS (l : List Int) (e n : Int) : List Int := if e = 0 ∧ n ≤ l.length then l.drop n.toNat else l
def errS (l : List Int) (e n : Int) : Int := if e = 0 ∧ (l.length : Int) < n then 8 else e
def mustS (e : Int) (b : Bool) : Int := if e = 0 ∧ b = false then 3 else e
theorem St.later {w w1 : World} {d : Bool} {x : Value} {l : List Int} {e : Int} (h : St d w x l e) (hb : Below w.heap.size w w1) : St d w1 x l e := by
  rcases h with ⟨hd, p, rfl, h⟩ | ⟨hd, h, rfl⟩
  · exact .inl ⟨hd, p, rfl, h.later hb⟩
  · exact .inr ⟨hd, h.later hb, rfl⟩
theorem St.dead {w : World} {d : Bool} {x : Value} {l : List Int} {e : Int} (h : St d w x l e) (he : e ≠ 0) : Dead w x e := by
  rcases h with ⟨hd, p, rfl, h⟩ | ⟨hd, h, rfl⟩
  · exact h.dead he
  · exact h
theorem St.live {w : World} {d : Bool} {x : Value} {l : List Int} (h : St d w x l 0) : d = false ∧ ∃ p, x = .pointer (some ⟨p, 0, none⟩) ∧ Rd w p l 0 := by
  rcases h with h | ⟨hd, h, rfl⟩
  · exact h
  · exact absurd rfl h.1
theorem keeps_atP {p : Nat} {w w' : World} (h : Keeps (fun k => k = p) w w') : Keeps (atP (.pointer (some ⟨p, 0, none⟩))) w w' :=
  ⟨h.os, h.tape, h.output, h.size, fun k hk hF => h.block k hk (fun e => hF (by rw [e]; rfl))⟩
theorem take_a {d : Bool} (x : Value) (l : List Int) (e n : Int) (w : World) (h : St d w x l e) (hn : e = 0 → 0 ≤ n) :
    Calls Try.prog 70 #[x, .int .i64 n] w fun r w' => (∃ v, r = .returned v ∧ BS w' v (takenS l e n)) ∧ St d w' x (leftS l e n) (errS l e n) ∧ Keeps (atP x) w w' := by
  by_cases he : e = 0
  · subst he
    obtain ⟨hd, p, rfl, hr⟩ := h.live
    have h0 := hn rfl
    by_cases hl : (l.length : Int) < n
    · refine (takeS_t p l n w hr hl).mono ?_
      rintro r w' ⟨rfl, h1, h2⟩
      have hle : ¬ ((0 : Int) = 0 ∧ n ≤ l.length) := fun h => by omega
      unfold takenS leftS errS
      rw [if_neg hle, if_neg hle, if_pos ⟨rfl, hl⟩]
      exact ⟨⟨_, rfl, BS.nil _⟩, .inl ⟨hd, p, rfl, h1⟩, keeps_atP h2⟩
    · obtain ⟨m, rfl⟩ : ∃ m : Nat, n = m := ⟨n.toNat, by omega⟩
      refine (take_t p l m w hr (by omega)).mono ?_
      rintro r w' ⟨⟨v, rfl, hv, _⟩, h1, h2⟩
      have hle : ((0 : Int) = 0 ∧ (m : Int) ≤ l.length) := ⟨rfl, by omega⟩
      have hnl : ¬ ((0 : Int) = 0 ∧ (l.length : Int) < m) := fun h => by omega
      unfold takenS leftS errS
      rw [if_pos hle, if_pos hle, if_neg hnl]
      exact ⟨⟨v, rfl, hv⟩, .inl ⟨hd, p, rfl, h1⟩, keeps_atP h2⟩
  · refine (take_d x e n w (h.dead he)).mono ?_
    rintro r w' ⟨rfl, rfl⟩
    unfold takenS leftS errS
    rw [if_neg (fun h => he h.1), if_neg (fun h => he h.1), if_neg (fun h => he h.1)]
    exact ⟨⟨_, rfl, BS.nil _⟩, h, Keeps.refl _ _⟩
theorem must_a {d : Bool} (x : Value) (l : List Int) (e : Int) (b : Bool) (w : World) (h : St d w x l e) :
    Calls Try.prog 49 #[x, .bool b] w fun r w' => r = .returned (.tuple #[]) ∧ St d w' x l (mustS e b) ∧ Keeps (atP x) w w' := by
  by_cases he : e = 0
  · subst he
    obtain ⟨hd, p, rfl, hr⟩ := h.live
    refine (must_t p l b w hr).mono ?_
    rintro r w' ⟨rfl, h1, h2⟩
    refine ⟨rfl, .inl ⟨hd, p, rfl, ?_⟩, keeps_atP h2⟩
    unfold mustS
    cases b
    · exact h1
    · exact h1
  · refine (must_d x e b w (h.dead he)).mono ?_
    rintro r w' ⟨rfl, rfl⟩
    unfold mustS
    rw [if_neg (fun h => he h.1)]
    exact ⟨rfl, h, Keeps.refl _ _⟩
theorem left_a {d : Bool} (x : Value) (l : List Int) (e : Int) (w : World) (h : St d w x l e) :
    Calls Try.prog 47 #[x] w fun r w' => r = .returned (.int .i64 (if e = 0 then (l.length : Int) else 0)) ∧ w = w' := by
  by_cases he : e = 0
  · subst he
    obtain ⟨hd, p, rfl, hr⟩ := h.live
    rw [if_pos rfl]; exact left_t p l w hr
  · rw [if_neg he]; exact left_d x e w (h.dead he)
theorem err_a {d : Bool} (x : Value) (l : List Int) (e : Int) (w : World) (h : St d w x l e) :
    Calls Try.prog 44 #[x] w fun r w' => r = .returned (.int .i64 e) ∧ w = w' := by
  by_cases he : e = 0
  · subst he
    obtain ⟨hd, p, rfl, hr⟩ := h.live
    exact err_t p l 0 w hr
  · exact err_d x e w (h.dead he)
theorem end_a {d : Bool} (x : Value) (l : List Int) (e : Int) (w : World) (h : St d w x l e) :
    Calls Try.prog 45 #[x] w fun r w' => r = .returned (.int .i64 (if e = 0 then (if l.length = 0 then 0 else 2) else e)) ∧ w = w' := by
  by_cases he : e = 0
  · subst he
    obtain ⟨hd, p, rfl, hr⟩ := h.live
    rw [if_pos rfl]; exact end_t p l w hr
  · rw [if_neg he]; exact end_d x e w (h.dead he)
end Go.Proofs.Ytgioompelogopaa
