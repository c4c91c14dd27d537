/- take of the reader. No conditions beyond lengths. -/
import Derived.Test.YtgioompelogopaaRd
namespace Go.Proofs.Ytgioompelogopaa
set_option linter.unusedVariables false
set_option linter.unusedSimpArgs false
open Go.RowKit
theorem BS.take {w : World} {pp : Option Addr} {c : Nat} {l : List Int} (h : BS w (.slice pp l.length c) l) (n : Nat) (hn : n ≤ l.length) : BS w (.slice pp n n) (l.take n) := by
  obtain ⟨pp', c', he, h1, h2, h3, h4, h6⟩ := h
  cases he
  have hl : (l.take n).length = n := by rw [List.length_take]; omega
  refine ⟨pp, n, by rw [hl], by omega, by omega, fun h0 => ?_, fun x hx => h4 x (List.mem_of_mem_take hx), fun h => by have := h6 h; omega⟩
  obtain ⟨g, o, hp, h5⟩ := h3 (by omega)
  refine ⟨g, o, hp, fun j x hx => h5 j x ?_⟩
  rw [List.getElem?_take] at hx
  split at hx
  · exact hx
  · cases hx
theorem BS.drop {w : World} {pp : Option Addr} {c : Nat} {l : List Int} (h : BS w (.slice pp l.length c) l) (n : Nat) (hn : n ≤ l.length) (hc : c ≠ n) : BS w (.slice (pp.map (fun x => x.add n)) (l.length - n) (c - n)) (l.drop n) := by
  obtain ⟨pp', c', he, h1, h2, h3, h4, h6⟩ := h
  cases he
  have hl : (l.drop n).length = l.length - n := by rw [List.length_drop]
  refine ⟨_, _, by rw [hl], by omega, by omega, fun h0 => ?_, fun x hx => h4 x (List.mem_of_mem_drop hx), fun h => ?_⟩
  · obtain ⟨g, o, rfl, h5⟩ := h3 (by omega)
    refine ⟨g, o + n, by simp [Addr.add_mid], fun j x hx => ?_⟩
    rw [List.getElem?_drop] at hx
    rw [Nat.add_assoc]; exact h5 (n + j) x hx
  · cases pp with
    | none => have := h6 rfl; omega
    | some a => cases h
theorem BS.drop0 {w : World} {pp : Option Addr} {l : List Int} {n : Nat} (hl : l.length ≤ n) : BS w (.slice pp (l.length - n) 0) (l.drop n) := by
  have hd : l.drop n = [] := List.drop_eq_nil_of_le hl
  rw [hd, show l.length - n = 0 by omega]
  exact ⟨pp, 0, rfl, Nat.le_refl _, by decide, fun h => absurd h (by simp), fun _ h => (by cases h), fun _ => rfl⟩
theorem own_add (pp : Option Addr) (n a b c d : Nat) : (Value.slice (pp.map (fun x => x.add n)) a b).ownBlock = (Value.slice pp c d).ownBlock := by
  cases pp with
  | none => rfl
  | some x => obtain ⟨g, o, q⟩ := x; cases q <;> simp [Value.ownBlock, Addr.add] <;> split <;> rfl
theorem own_any (pp : Option Addr) (a b c d : Nat) : (Value.slice pp a b).ownBlock = (Value.slice pp c d).ownBlock := by
  cases pp <;> simp [Value.ownBlock]
set_option maxHeartbeats 800000 in
theorem take_d (x : Value) (e n : Int) (w : World) (h : Dead w x e) : Calls Try.prog 70 #[x, .int .i64 n] w fun r w' => r = .returned (.slice none 0 0) ∧ w = w' := by
  have HD := h
  have h0 := h.1
  have e0 : (e != 0) = true := by simpa using h0
  have e1 : (e == 0) = false := by simpa using h0
  go_enter Try.func70, Try.ntmps70
  go_wp2_with fail
  refine (left_d x e _ HD).mono ?_
  rintro r w1 ⟨rfl, rfl⟩
  by_cases hn : 0 < n
  · have g1 : decide (0 < n) = true := by simpa using hn
    go_wp2_with fail
    refine (fail_d x e 8 _ HD).mono ?_
    rintro r w1 ⟨rfl, rfl⟩
    go_wp2_with fail
    refine (err_d x e _ HD).mono ?_
    rintro r w1 ⟨rfl, rfl⟩
    go_wp2
    go_ret
    exact ⟨rfl, rfl⟩
  · have g1 : decide (0 < n) = false := by simpa using hn
    go_wp2_with fail
    refine (err_d x e _ HD).mono ?_
    rintro r w1 ⟨rfl, rfl⟩
    go_wp2
    go_ret
    exact ⟨rfl, rfl⟩
set_option maxHeartbeats 800000 in
theorem takeS_t (p : Nat) (l : List Int) (n : Int) (w : World) (h : Rd w p l 0) (hn : (l.length : Int) < n) : Calls Try.prog 70 #[.pointer (some ⟨p, 0, none⟩), .int .i64 n] w fun r w' => r = .returned (.slice none 0 0) ∧ Rd w' p l 8 ∧ Keeps (fun k => k = p) w w' := by
  have HD := h
  have g1 : decide ((l.length : Int) < n) = true := by simpa using hn
  go_enter Try.func70, Try.ntmps70
  go_wp2_with fail
  refine (left_t p l _ HD).mono ?_
  rintro r w1 ⟨rfl, rfl⟩
  go_wp2_with fail
  refine (fail_t p l 8 _ HD).mono ?_
  rintro r w1 ⟨rfl, hr, hk⟩
  go_wp2_with fail
  refine (err_t p l 8 _ hr).mono ?_
  rintro r w2 ⟨rfl, rfl⟩
  go_wp2
  go_ret
  exact ⟨rfl, hr, hk⟩
set_option maxHeartbeats 800000 in
theorem take_t (p : Nat) (l : List Int) (n : Nat) (w : World) (h : Rd w p l 0) (hn : n ≤ l.length) : Calls Try.prog 70 #[.pointer (some ⟨p, 0, none⟩), .int .i64 n] w fun r w' => (∃ v, r = .returned v ∧ BS w' v (l.take n) ∧ v.ownBlock ≠ some p) ∧ Rd w' p (l.drop n) 0 ∧ Keeps (fun k => k = p) w w' := by
  have HD := h
  have g1 : decide ((l.length : Int) < (n : Int)) = false := by simp; omega
  obtain ⟨v, R, hb, hv⟩ := h
  obtain ⟨pp, c, rfl, h1, h2, h3, h4, h6⟩ := hb
  have c1 := (R.cell 1).trans (show _ = some (Value.slice pp l.length c) from rfl)
  have f1 := R.frozen 1
  go_enter Try.func70, Try.ntmps70
  go_wp2_with fail
  refine (left_t p l _ HD).mono ?_
  rintro r w1 ⟨rfl, rfl⟩
  go_wp2_with fail
  refine (err_t p l 0 _ HD).mono ?_
  rintro r w1 ⟨rfl, rfl⟩
  have b0 : (0 : Int) ≤ (n : Int) := by omega
  have b1 : (n : Int) ≤ (c : Int) := by omega
  have b2 : (n : Int) ≤ (l.length : Int) := by omega
  have b3 : (l.length : Int) ≤ (c : Int) := by omega
  have hbs : BS w (.slice pp l.length c) l := ⟨pp, c, rfl, h1, h2, h3, h4, h6⟩
  have HB := Lib.hid hbs
  clear hbs h3 h4 h6
  go_wp2
  · rename_i hcn
    go_ret
    have hk : Keeps (fun k => k = p) w (w.setCell ⟨p, 1, none⟩ (.slice pp (l.length - n) 0)) := Keeps.setCell (F := fun k => k = p) (a := ⟨p, 1, none⟩) (Keeps.refl _ _) rfl _
    have hlow : ∀ a b : Nat, ∀ g, (Value.slice pp a b).ownBlock = some g → g < p := fun a b => by rw [own_any pp a b l.length c]; exact hv
    have hfar : ∀ a b : Nat, (Value.slice pp a b).ownBlock ≠ some p := fun a b e => by have := hlow a b p e; omega
    have R2 := R.set 1 (.slice pp (l.length - n) 0)
    exact ⟨⟨_, rfl, hk.bs (HB.out.take n hn) (fun g hg e => hfar n n (hg.trans (congrArg some e))), hfar n n⟩, ⟨_, by simpa using R2, BS.drop0 (by omega), hlow _ _⟩, hk⟩
  · rename_i hcn
    go_ret
    have hk : Keeps (fun k => k = p) w (w.setCell ⟨p, 1, none⟩ (.slice (pp.map (fun x => x.add n)) (l.length - n) (c - n))) := Keeps.setCell (F := fun k => k = p) (a := ⟨p, 1, none⟩) (Keeps.refl _ _) rfl _
    have hlow : ∀ a b : Nat, ∀ g, (Value.slice pp a b).ownBlock = some g → g < p := fun a b => by rw [own_any pp a b l.length c]; exact hv
    have hfar : ∀ a b : Nat, (Value.slice pp a b).ownBlock ≠ some p := fun a b e => by have := hlow a b p e; omega
    have hlow2 : ∀ g, (Value.slice (pp.map (fun x => x.add n)) (l.length - n) (c - n)).ownBlock = some g → g < p := by rw [own_add pp n _ _ n n]; exact hlow n n
    have hfar2 : (Value.slice (pp.map (fun x => x.add n)) (l.length - n) (c - n)).ownBlock ≠ some p := fun e => by have := hlow2 p e; omega
    have R2 := R.set 1 (.slice (pp.map (fun x => x.add n)) (l.length - n) (c - n))
    exact ⟨⟨_, rfl, hk.bs (HB.out.take n hn) (fun g hg e => hfar n n (hg.trans (congrArg some e))), hfar n n⟩, ⟨_, by simpa using R2, hk.bs (HB.out.drop n hn (by omega)) (fun g hg e => hfar2 (hg.trans (congrArg some e))), hlow2⟩, hk⟩
end Go.Proofs.Ytgioompelogopaa
