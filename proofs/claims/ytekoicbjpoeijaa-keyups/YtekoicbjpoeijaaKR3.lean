/- Letters of the reference of layer 7. No conditions beyond lengths. -/
import Derived.Test.YtekoicbjpoeijaaKR2
import Derived.Test.YtekoicbjpoeijaaLabR4
import Derived.Test.YtekoicbjpoeijaaKP
namespace Go.Proofs.Ytekoicbjpoeijaa
set_option linter.unusedVariables false
set_option linter.unusedSimpArgs false
open Go.RowKit
theorem one_row (w : World) (a : Array Value) (t : TypeId) : Row (w.alloc (.cells a t)) w.heap.size a t ∧ Below w.heap.size w (w.alloc (.cells a t)) := ⟨Row.new _ _ _, (by repeat (first | exact Below.refl _ _ | assumption | (with_reducible refine Below.setCell ?_ ?h _; case h => first | omega | (simp; done) | (simp; omega)) | (with_reducible refine Below.alloc ?_ ?h _; case h => first | omega | (simp; done) | (simp; omega)) | (with_reducible refine Below.drew ?_) | (with_reducible refine Below.trans ?_ (hb4.mono ?h); case h => first | omega | (simp; done) | (simp; omega)) | (with_reducible refine Below.trans ?_ (hb3.mono ?h); case h => first | omega | (simp; done) | (simp; omega)) | (with_reducible refine Below.trans ?_ (hb2.mono ?h); case h => first | omega | (simp; done) | (simp; omega)) | (with_reducible refine Below.trans ?_ (hb.mono ?h); case h => first | omega | (simp; done) | (simp; omega)) | (with_reducible refine Below.trans ?_ (hb0.mono ?h); case h => first | omega | (simp; done) | (simp; omega))))⟩
def letR (k : Ke) : List (List UInt8) := if rightK k = true then letK k else []
def LetPost (k : Ke) (w : World) (e : Ending) (w' : World) : Prop := ∃ v, e = .returned (.tuple #[v, .bool (rightK k)]) ∧ SS w' v (letR k) ∧ Below w.heap.size w w'
theorem letPost_bad {k : Ke} {w w' : World} (h : rightK k = false) (hb : Below w.heap.size w w') : LetPost k w (.returned (.tuple #[.slice none 0 0, .bool false])) w' :=
  ⟨_, by rw [h], by unfold letR; rw [h]; exact SS.nil _, hb⟩
theorem letPost_ok {k : Ke} {w w' : World} {v : Value} (h : rightK k = true) (hs : SS w' v (letK k)) (hb : Below w.heap.size w w') : LetPost k w (.returned (.tuple #[v, .bool true])) w' :=
  ⟨v, by rw [h], by unfold letR; rw [h]; exact hs, hb⟩
theorem right3 (k : Ke) (hk : k.kind = 3) : rightK k = (rightB k.path && (decide (((labsL k.path).length : Int) = k.len) && (decide (k.h = 0) && decide (k.l = 0)))) := by
  obtain ⟨a, b, c, d, p⟩ := k
  dsimp only at hk
  subst hk
  unfold rightK pathK
  rw [if_neg (by simp), if_pos rfl, Bool.eq_iff_iff]
  simp only [Bool.and_eq_true, decide_eq_true_eq, Ke.mk.injEq, true_and, and_true]
  constructor
  · rintro ⟨h1, h2, h3, h4⟩; exact ⟨h1, h2.symm, h3, h4⟩
  · rintro ⟨h1, h2, h3, h4⟩; exact ⟨h1, h2.symm, h3, h4⟩
theorem right_adr (k : Ke) (h3 : ¬ k.kind = 3) : rightK k = true → wid k.kind ≠ 0 ∧ 0 ≤ k.len ∧ k.len ≤ wid k.kind ∧ k.path = [] := by
  intro h
  rcases right_kind h with hk | hk
  · have A := adr_of_right h hk
    exact ⟨by unfold wid; rcases A.kind with e | e <;> rw [e] <;> decide, A.lo, A.up, A.path⟩
  · exact absurd hk h3
/-- the first j letters of n bits of A -/
def lets (A : Int) (n j : Nat) : List (List UInt8) := (List.range (min j n)).map fun i : Nat => bitS (bitI A i)
theorem lets_len (A : Int) (n j : Nat) : (lets A n j).length = min j n := by unfold lets; simp
theorem lets_more {A : Int} {n j : Nat} (h : j < n) : lets A n (j + 1) = lets A n j ++ [bitS (bitI A j)] := by
  unfold lets
  rw [show min (j + 1) n = min j n + 1 by omega, List.range_succ, List.map_append, show min j n = j by omega]
  rfl
theorem lets_stay {A : Int} {n j : Nat} (h : n ≤ j) : lets A n (j + 1) = lets A n j := by
  unfold lets
  rw [show min (j + 1) n = min j n by omega]
theorem adr_bits {k : Ke} {n : Nat} (hk : k.kind = 1 ∨ k.kind = 2) (hl : k.len = (n : Nat)) (hu : k.len ≤ wid k.kind) (hp : k.path = []) (hh : Word k.h) (hl2 : Word k.l) (hz : ∀ t : Nat, n ≤ t → t < 128 → bitI k.num t = false) : rightK k = true ∧ letK k = lets k.num n 128 := by
  have hw := (wid_range k.kind).2
  have hr := num_range hh hl2
  have A : Adr k := by
    refine ⟨hk, by omega, hu, hp, hh, hl2, ?_⟩
    have r := tp_range (n := k.len.toNat) hr.1 hr.2
    refine num_eq_of_bits hr.1 hr.2 r.1 (by omega) fun j hj => ?_
    rw [tp_bit _ _ j (by omega) hj]
    by_cases h : j < k.len.toNat
    · rw [if_pos h]
    · rw [if_neg h]; exact hz j (by omega) hj
  refine ⟨right_of_adr A, ?_⟩
  rw [letK_adr A]
  unfold lets
  rw [show min 128 n = k.len.toNat by omega]
theorem adr_bit_bad {k : Ke} {n t : Nat} (h3 : ¬ k.kind = 3) (hl : k.len = (n : Nat)) (ht : n ≤ t) (ht2 : t < 128) (hb : bitI k.num t = true) : rightK k = false := by
  cases h : rightK k with
  | false => rfl
  | true =>
    exfalso
    rcases right_kind h with hk | hk
    · have A := adr_of_right h hk
      have := A.len
      rw [A.num, tp_bit _ _ t (by omega) ht2, if_neg (by omega)] at hb
      cases hb
    · exact h3 hk
set_option maxRecDepth 100000 in
set_option maxHeartbeats 4000000 in
theorem letters_path (k : Ke) (hk : k.kind = 3) (hp : k.path.length ≤ 140737488355328) (w : World) : Calls Try.prog 53 #[kv k] w (LetPost k w) := by
  have hr := right3 k hk
  have HG := Lib.hid (fun (v : Value) (w' : World) (h : rightK k = true) (hs : SS w' v (letK k)) (hb : Below w.heap.size w w') => letPost_ok h hs hb)
  have HB := Lib.hid (fun (w' : World) (h : rightK k = false) (hb : Below w.heap.size w w') => letPost_bad h hb)
  have cs : ∀ w1, Calls Try.prog 72 #[.string ⟨k.path.toArray⟩] w1 fun e w' => ∃ v, e = .returned (.tuple #[v, .bool (rightB k.path)]) ∧ SS w' v (labsL k.path) ∧ Below w1.heap.size w1 w' := fun w1 => rSplit_t k.path hp w1
  have hlet : letK k = labsL k.path := by unfold letK; rw [if_pos hk]
  rw [hlet] at HG
  clear hlet
  obtain ⟨kd, len, h, l, p⟩ := k
  dsimp only at *
  subst hk
  generalize labsL p = ls at *
  generalize rightB p = rb at *
  generalize rightK ⟨3, len, h, l, p⟩ = rk at *
  generalize LetPost ⟨3, len, h, l, p⟩ w = PP at *
  replace hr := Lib.hid hr
  unfold kv
  dsimp only
  obtain ⟨RR0, hb0⟩ := one_row w #[.int .i64 3, .int .i64 len, .int .u64 h, .int .u64 l, .string ⟨p.toArray⟩] 24
  have c0 := (RR0.cell 0).trans (show _ = some (Value.int .i64 3) from rfl)
  have c1 := (RR0.cell 1).trans (show _ = some (Value.int .i64 len) from rfl)
  have c2 := (RR0.cell 2).trans (show _ = some (Value.int .u64 h) from rfl)
  have c3 := (RR0.cell 3).trans (show _ = some (Value.int .u64 l) from rfl)
  have c4 := (RR0.cell 4).trans (show _ = some (Value.string ⟨p.toArray⟩) from rfl)
  clear RR0
  cases rb with
  | false =>
    have HX := Lib.hid (fun w' => HB.out w' (by rw [hr.out]; rfl))
    clear HB HG hr
    go_enter Try.func53, Try.ntmps53
    go_wp2_with fail
    refine (cs _).mono ?_
    rintro e w1 ⟨v, rfl, hs, hb⟩
    obtain ⟨pp, cc, rfl, _, _⟩ := hs
    replace hb0 := below_step hb0 hb
    replace c1 := cell_later hb c1
    replace c2 := cell_later hb c2
    replace c3 := cell_later hb c3
    replace HX := Lib.hid (HX.out _ hb0)
    clear hb hb0 cs c0 c4
    go_wp2
    exact HX.out
  | true =>
    rw [Bool.true_and] at hr
    by_cases t1 : (ls.length : Int) = len ∧ h = 0 ∧ l = 0
    · obtain ⟨t1, rfl, rfl⟩ := t1
      have HX := Lib.hid (fun v w' => HG.out v w' (by rw [hr.out]; simp [t1]))
      subst t1
      clear HB HG hr
      go_enter Try.func53, Try.ntmps53
      go_wp2_with fail
      refine (cs _).mono ?_
      rintro e w1 ⟨v, rfl, hs, hb⟩
      replace hb0 := below_step hb0 hb
      replace c1 := cell_later hb c1
      replace c2 := cell_later hb c2
      replace c3 := cell_later hb c3
      replace HX := Lib.hid (HX.out _ _ hs hb0)
      obtain ⟨pp, cc, rfl, _, _⟩ := hs
      clear hb hb0 cs c0 c4
      go_wp2
      exact HX.out
    · have HX := Lib.hid (fun w' => HB.out w' (by
        rw [hr.out, Bool.eq_false_iff]
        intro e
        simp only [Bool.and_eq_true, decide_eq_true_eq] at e
        exact t1 e))
      have b1 : (¬ (ls.length : Int) = len) ∨ ((ls.length : Int) = len ∧ ¬ h = 0) ∨ ((ls.length : Int) = len ∧ h = 0 ∧ ¬ l = 0) := by omega
      clear HB HG hr t1
      rcases b1 with b1 | ⟨rfl, b1⟩ | ⟨rfl, rfl, b1⟩
      all_goals
        first
          | (have b2 : ((ls.length : Int) == len) = false := by simpa using b1)
          | (have b2 : (h == 0) = false := by simpa using b1)
          | (have b2 : (l == 0) = false := by simpa using b1)
        go_enter Try.func53, Try.ntmps53
        go_wp2_with fail
        refine (cs _).mono ?_
        rintro e w1 ⟨v, rfl, hs, hb⟩
        obtain ⟨pp, cc, rfl, _, _⟩ := hs
        replace hb0 := below_step hb0 hb
        replace c1 := cell_later hb c1
        replace c2 := cell_later hb c2
        replace c3 := cell_later hb c3
        replace HX := Lib.hid (HX.out _ hb0)
        clear hb hb0 cs c0 c4
        go_wp2
        exact HX.out
end Go.Proofs.Ytekoicbjpoeijaa
