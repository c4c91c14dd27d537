/- The reader of package wire: what it holds; Err, Left, fail, Must, End. No conditions beyond lengths. -/
import Derived.Test.YtgioompelogopaaPutN
namespace Go.Proofs.Ytgioompelogopaa
set_option linter.unusedVariables false
set_option linter.unusedSimpArgs false
open Go.RowKit
/-- the reader at block p: the bytes l are left, its error is e -/
def Rd (w : World) (p : Nat) (l : List Int) (e : Int) : Prop :=
  ∃ v, Row w p #[.bool true, v, .int .i64 e] 74 ∧ BS w v l ∧ ∀ g, v.ownBlock = some g → g < p
/-- a reader that answers with the error e, not OK: nil, not made, or with an error kept -/
def Dead (w : World) (x : Value) (e : Int) : Prop :=
  e ≠ 0 ∧ ((x = .pointer none ∧ e = 6) ∨ ∃ p, x = .pointer (some ⟨p, 0, none⟩) ∧ ((∃ v d, Row w p #[.bool false, v, d] 74 ∧ e = 6) ∨ ∃ v, Row w p #[.bool true, v, .int .i64 e] 74))
theorem Dead.later {w w1 : World} {x : Value} {e : Int} (h : Dead w x e) (hb : Below w.heap.size w w1) : Dead w1 x e := by
  obtain ⟨h0, h | ⟨p, rfl, ⟨v, d, R, h⟩ | ⟨v, R⟩⟩⟩ := h
  · exact ⟨h0, .inl h⟩
  · exact ⟨h0, .inr ⟨p, rfl, .inl ⟨v, d, R.later hb, h⟩⟩⟩
  · exact ⟨h0, .inr ⟨p, rfl, .inr ⟨v, R.later hb⟩⟩⟩
theorem Rd.dead {w : World} {p : Nat} {l : List Int} {e : Int} (h : Rd w p l e) (he : e ≠ 0) : Dead w (.pointer (some ⟨p, 0, none⟩)) e := by
  obtain ⟨v, R, _⟩ := h; exact ⟨he, .inr ⟨p, rfl, .inr ⟨v, R⟩⟩⟩
theorem Rd.later {w w1 : World} {p : Nat} {l : List Int} {e : Int} (h : Rd w p l e) (hb : Below w.heap.size w w1) : Rd w1 p l e := by
  obtain ⟨v, R, h1, h2⟩ := h; exact ⟨v, R.later hb, h1.later hb, h2⟩
set_option maxHeartbeats 400000 in
theorem err_t (p : Nat) (l : List Int) (e : Int) (w : World) (h : Rd w p l e) : Calls Try.prog 44 #[.pointer (some ⟨p, 0, none⟩)] w fun r w' => r = .returned (.int .i64 e) ∧ w = w' := by
  obtain ⟨v, R, hb, hv⟩ := h
  have c0 := (R.cell 0).trans (show _ = some (Value.bool true) from rfl)
  have c2 := (R.cell 2).trans (show _ = some (Value.int .i64 e) from rfl)
  go_enter Try.func44, Try.ntmps44
  go_wp2
  go_ret
  exact ⟨rfl, rfl⟩
set_option maxHeartbeats 400000 in
theorem err_d (x : Value) (e : Int) (w : World) (h : Dead w x e) : Calls Try.prog 44 #[x] w fun r w' => r = .returned (.int .i64 e) ∧ w = w' := by
  obtain ⟨h0, ⟨rfl, rfl⟩ | ⟨p, rfl, ⟨v, d, R, rfl⟩ | ⟨v, R⟩⟩⟩ := h
  · go_enter Try.func44, Try.ntmps44
    go_wp2
    go_ret
    exact ⟨rfl, rfl⟩
  · have c0 := (R.cell 0).trans (show _ = some (Value.bool false) from rfl)
    go_enter Try.func44, Try.ntmps44
    go_wp2
    go_ret
    exact ⟨rfl, rfl⟩
  · have c0 := (R.cell 0).trans (show _ = some (Value.bool true) from rfl)
    have c2 := (R.cell 2).trans (show _ = some (Value.int .i64 e) from rfl)
    go_enter Try.func44, Try.ntmps44
    go_wp2
    go_ret
    exact ⟨rfl, rfl⟩
set_option maxHeartbeats 400000 in
theorem left_d (x : Value) (e : Int) (w : World) (h : Dead w x e) : Calls Try.prog 47 #[x] w fun r w' => r = .returned (.int .i64 0) ∧ w = w' := by
  have h0 := h.1
  have e0 : (e != 0) = true := by simpa using h0
  have e1 : (e == 0) = false := by simpa using h0
  go_enter Try.func47, Try.ntmps47
  go_wp2_with fail
  refine (err_d x e _ h).mono ?_
  rintro r w1 ⟨rfl, rfl⟩
  go_wp2
  go_ret
  exact ⟨rfl, rfl⟩
set_option maxHeartbeats 400000 in
theorem left_t (p : Nat) (l : List Int) (w : World) (h : Rd w p l 0) : Calls Try.prog 47 #[.pointer (some ⟨p, 0, none⟩)] w fun r w' => r = .returned (.int .i64 l.length) ∧ w = w' := by
  have h' := h
  obtain ⟨v, R, hb, hv⟩ := h'
  obtain ⟨pp, c, rfl, _, _, _, _, _⟩ := hb
  have c1 := (R.cell 1).trans (show _ = some (Value.slice pp l.length c) from rfl)
  go_enter Try.func47, Try.ntmps47
  go_wp2_with fail
  refine (err_t p l 0 _ h).mono ?_
  rintro r w1 ⟨rfl, rfl⟩
  go_wp2
  go_ret
  exact ⟨rfl, rfl⟩
set_option maxHeartbeats 400000 in
theorem fail_d (x : Value) (e f : Int) (w : World) (h : Dead w x e) : Calls Try.prog 69 #[x, .int .i64 f] w fun r w' => r = .returned (.tuple #[]) ∧ w = w' := by
  have h0 := h.1
  have e0 : (e != 0) = true := by simpa using h0
  have e1 : (e == 0) = false := by simpa using h0
  go_enter Try.func69, Try.ntmps69
  go_wp2_with fail
  refine (err_d x e _ h).mono ?_
  rintro r w1 ⟨rfl, rfl⟩
  go_wp2
  exact bodyPost_end (v := .tuple #[]) (by simp [results, Try.results69, go_sem]) rfl ⟨rfl, rfl⟩
set_option maxHeartbeats 400000 in
theorem fail_t (p : Nat) (l : List Int) (f : Int) (w : World) (h : Rd w p l 0) : Calls Try.prog 69 #[.pointer (some ⟨p, 0, none⟩), .int .i64 f] w fun r w' => r = .returned (.tuple #[]) ∧ Rd w' p l f ∧ Keeps (fun k => k = p) w w' := by
  have h' := h
  obtain ⟨v, R, hb, hv⟩ := h'
  have c2 := (R.cell 2).trans (show _ = some (Value.int .i64 0) from rfl)
  have f2 := R.frozen 2
  go_enter Try.func69, Try.ntmps69
  go_wp2_with fail
  refine (err_t p l 0 _ h).mono ?_
  rintro r w1 ⟨rfl, rfl⟩
  go_wp2
  have hk : Keeps (fun k => k = p) w (w.setCell ⟨p, 2, none⟩ (.int .i64 f)) := Keeps.setCell (F := fun k => k = p) (a := ⟨p, 2, none⟩) (Keeps.refl _ _) rfl _
  have R2 := R.set 2 (.int .i64 f)
  exact bodyPost_end (v := .tuple #[]) (by simp [results, Try.results69, go_sem]) rfl ⟨rfl, ⟨v, by simpa using R2, hk.bs hb (fun g hg e => by have := hv g hg; omega), hv⟩, hk⟩
set_option maxHeartbeats 400000 in
theorem must_d (x : Value) (e : Int) (b : Bool) (w : World) (h : Dead w x e) : Calls Try.prog 49 #[x, .bool b] w fun r w' => r = .returned (.tuple #[]) ∧ w = w' := by
  cases b
  · go_enter Try.func49, Try.ntmps49
    go_wp2_with fail
    refine (fail_d x e 3 _ h).mono ?_
    rintro r w1 ⟨rfl, rfl⟩
    go_wp2
    exact bodyPost_end (v := .tuple #[]) (by simp [results, Try.results49, go_sem]) rfl ⟨rfl, rfl⟩
  · go_enter Try.func49, Try.ntmps49
    go_wp2
    exact bodyPost_end (v := .tuple #[]) (by simp [results, Try.results49, go_sem]) rfl ⟨rfl, rfl⟩
set_option maxHeartbeats 400000 in
theorem must_t (p : Nat) (l : List Int) (b : Bool) (w : World) (h : Rd w p l 0) : Calls Try.prog 49 #[.pointer (some ⟨p, 0, none⟩), .bool b] w fun r w' => r = .returned (.tuple #[]) ∧ Rd w' p l (if b then 0 else 3) ∧ Keeps (fun k => k = p) w w' := by
  cases b
  · go_enter Try.func49, Try.ntmps49
    go_wp2_with fail
    refine (fail_t p l 3 _ h).mono ?_
    rintro r w1 ⟨rfl, h1, h2⟩
    go_wp2
    exact bodyPost_end (v := .tuple #[]) (by simp [results, Try.results49, go_sem]) rfl ⟨rfl, h1, h2⟩
  · have HR := h
    go_enter Try.func49, Try.ntmps49
    go_wp2
    exact bodyPost_end (v := .tuple #[]) (by simp [results, Try.results49, go_sem]) rfl ⟨rfl, HR, Keeps.refl _ _⟩
end Go.Proofs.Ytgioompelogopaa
