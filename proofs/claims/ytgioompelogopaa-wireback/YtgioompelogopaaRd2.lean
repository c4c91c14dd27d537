/- From, End and Num of the reader. No conditions beyond lengths. -/
import Derived.Test.YtgioompelogopaaTake
namespace Go.Proofs.Ytgioompelogopaa
set_option linter.unusedVariables false
set_option linter.unusedSimpArgs false
open Go.RowKit
set_option maxHeartbeats 800000 in
theorem end_d (x : Value) (e : Int) (w : World) (h : Dead w x e) : Calls Try.prog 45 #[x] w fun r w' => r = .returned (.int .i64 e) ∧ w = w' := by
  have HD := h
  go_enter Try.func45, Try.ntmps45
  go_wp2_with fail
  refine (left_d x e _ HD).mono ?_
  rintro r w1 ⟨rfl, rfl⟩
  go_wp2_with fail
  refine (err_d x e _ HD).mono ?_
  rintro r w1 ⟨rfl, rfl⟩
  go_wp2
  go_ret
  exact ⟨rfl, rfl⟩
set_option maxHeartbeats 800000 in
theorem end_t (p : Nat) (l : List Int) (w : World) (h : Rd w p l 0) : Calls Try.prog 45 #[.pointer (some ⟨p, 0, none⟩)] w fun r w' => r = .returned (.int .i64 (if l.length = 0 then 0 else 2)) ∧ w = w' := by
  have HD := h
  by_cases h0 : l.length = 0
  · have hl : (l.length : Int) = 0 := by omega
    rw [if_pos h0]
    go_enter Try.func45, Try.ntmps45
    go_wp2_with fail
    refine (left_t p l _ HD).mono ?_
    rintro r w1 ⟨rfl, rfl⟩
    rw [hl]
    go_wp2_with fail
    refine (err_t p l 0 _ HD).mono ?_
    rintro r w1 ⟨rfl, rfl⟩
    go_wp2
    go_ret
    exact ⟨rfl, rfl⟩
  · have hl : decide ((0 : Int) < l.length) = true := by simp; omega
    rw [if_neg h0]
    go_enter Try.func45, Try.ntmps45
    go_wp2_with fail
    refine (left_t p l _ HD).mono ?_
    rintro r w1 ⟨rfl, rfl⟩
    have hp : 0 < l.length := by omega
    go_wp2
    go_ret
    exact ⟨rfl, rfl⟩
set_option maxHeartbeats 800000 in
theorem from_t (v : Value) (l : List Int) (w : World) (h : BS w v l) (hl : l.length ≤ 2147483647) : Calls Try.prog 42 #[v] w fun r w' => ∃ p, r = .returned (.pointer (some ⟨p, 0, none⟩)) ∧ w.heap.size ≤ p ∧ Rd w' p l 0 ∧ Below w.heap.size w w' := by
  have h' := h
  obtain ⟨pp, c, rfl, _, _, _, _, _⟩ := h'
  go_enter Try.func42, Try.ntmps42
  go_wp2_with fail
  refine (clone_t _ l _ h hl).mono ?_
  rintro r w1 ⟨v1, rfl, ho, hb⟩
  have hfr := ho.block
  obtain ⟨p1, c1, rfl⟩ := ho.form
  go_wp2
  go_ret
  have hb2 : Below w1.heap.size w1 (w1.alloc (.cells #[.bool true, .slice p1 l.length c1, .int .i64 0] 74)) := (Below.refl _ _).alloc (Nat.le_refl _) _
  exact ⟨_, rfl, hb.size, ⟨_, Row.new w1 _ _, ho.bs.later hb2, fun g e => (hfr g e).2⟩, below_step hb hb2⟩
end Go.Proofs.Ytgioompelogopaa
