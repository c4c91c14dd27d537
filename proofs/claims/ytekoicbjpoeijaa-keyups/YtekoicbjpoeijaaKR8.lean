/- Right, Root, Cut and Begins of the reference of layer 7. No conditions beyond ranges and lengths. -/
import Derived.Test.YtekoicbjpoeijaaKR7
import Derived.Test.YtekoicbjpoeijaaKP2
import Derived.BigQuiet
namespace Go.Proofs.Ytekoicbjpoeijaa
set_option linter.unusedVariables false
set_option linter.unusedSimpArgs false
open Go.RowKit
theorem letters_t (k : Ke) (ok : k.ok) (w : World) : Calls Try.prog 53 #[kv k] w (LetPost k w) := by
  by_cases h3 : k.kind = 3
  · exact letters_path k h3 ok.path w
  · by_cases hb : wid k.kind = 0 ∨ k.len < 0 ∨ wid k.kind < k.len ∨ k.path ≠ []
    · exact letters_adr_bad k h3 hb w
    · obtain ⟨kd, len, h, l, p⟩ := k
      have o1 := ok.h
      have o2 := ok.l
      clear ok
      dsimp only at *
      have hp : p = [] := Classical.byContradiction fun e => hb (.inr (.inr (.inr e)))
      subst hp
      have hl0 : 0 ≤ len := by omega
      obtain ⟨n, rfl⟩ := Int.eq_ofNat_of_zero_le hl0
      refine letters_adr_go kd n h l ?_ (by omega) o1 o2 w
      by_cases h1 : kd = 1
      · exact .inl h1
      · by_cases h2 : kd = 2
        · exact .inr h2
        · exfalso
          apply hb
          left
          unfold wid; rw [if_neg h1, if_neg h2, if_neg h3]
theorem ss_take {w : World} {p : Option Addr} {n c : Nat} {ls : List (List UInt8)} (h : SS w (.slice p n c) ls) (m : Nat) (hm : m ≤ ls.length) : SS w (.slice p m c) (ls.take m) ∧ m ≤ c := by
  obtain ⟨p', c', e, hc, hp⟩ := h
  cases e
  refine ⟨⟨p, c, by rw [List.length_take, Nat.min_eq_left hm], by rw [List.length_take]; omega, fun h0 => ?_⟩, by omega⟩
  rw [List.length_take] at h0
  obtain ⟨g, o, e1, e2, e3⟩ := hp (by omega)
  refine ⟨g, o, e1, e2, fun j x hx => e3 j x ?_⟩
  rw [List.getElem?_take] at hx
  split at hx
  · exact hx
  · cases hx
theorem letK_small {k : Ke} (h : rightK k = true) : (letK k).length ≤ 128 := by
  have h1 := letK_len h
  have h2 := len_range h
  omega
theorem rof_take (k : Ke) (ok : k.ok) (hr : rightK k = true) (m : Nat) (hm : m ≤ (letK k).length) (v : Value) (w : World) (hS : SS w v ((letK k).take m)) : Calls Try.prog 56 #[.int .i64 k.kind, v] w fun e w' => e = .returned (kv (topK k m)) ∧ Below w.heap.size w w' := by
  rcases right_kind hr with hk | hk
  · have A := adr_of_right hr hk
    have hl := letK_len hr
    have h8 := letK_small hr
    have e : (letK k).take m = (List.range m).map fun i : Nat => bitS (bitI k.num i) := by
      rw [letK_adr A, ← List.map_take, List.take_range, Nat.min_eq_left (by omega)]
    rw [e] at hS
    have h := rof_adr k.kind A.ne k.num A.range.1 A.range.2 m (by omega) v w hS
    have et : topK k m = ⟨k.kind, m, hi (tp k.num m), lo (tp k.num m), []⟩ := by
      unfold topK
      rw [if_neg A.ne, tp_eq k.num m A.range.1 A.range.2 (by omega), Int.toNat_natCast]
    rw [et]
    exact h
  · have e : letK k = labsL k.path := by unfold letK; rw [if_pos hk]
    rw [e] at hS hm
    have h8 := labsL_len k.path
    have h := rof_path v ((labsL k.path).take m) (by rw [List.length_take]; omega) (fun x hx => labB_len (labs_all k.path x (List.mem_of_mem_take hx))) w hS
    have et : topK k m = ⟨3, m, 0, 0, jn ((labsL k.path).take m)⟩ := by
      unfold topK topL
      rw [if_pos hk, Int.toNat_natCast]
    rw [et, hk]
    rw [List.length_take, Nat.min_eq_left hm] at h
    exact h
theorem rof_nil (kd : Int) (hw : wid kd ≠ 0) (w : World) : Calls Try.prog 56 #[.int .i64 kd, .slice none 0 0] w fun e w' => e = .returned (kv ⟨kd, 0, 0, 0, []⟩) ∧ Below w.heap.size w w' := by
  by_cases h3 : kd = 3
  · subst h3
    exact rof_path _ [] (by simp) (by simp) w (SS.nil _)
  · have h := rof_adr kd h3 0 (by decide) (by decide) 0 (by decide) (.slice none 0 0) w (SS.nil _)
    have e : tp 0 0 = 0 := by decide
    rw [e] at h
    exact h
set_option maxHeartbeats 1000000 in
theorem rroot_t (k : Int) (w : World) : Calls Try.prog 23 #[.int .i64 k] w fun e w' => e = .returned (kv (rootK k)) ∧ Below w.heap.size w w' := by
  have HW := rwidth_t k
  have HO := rof_nil k
  unfold rootK
  generalize wid k = d at *
  have hb0 : Below w.heap.size w (w.alloc (.cells #[.int .i64 0, .int .i64 0, .int .u64 0, .int .u64 0, .string ⟨#[]⟩] 24)) := (by repeat (first | exact Below.refl _ _ | assumption | (with_reducible refine Below.setCell ?_ ?h _; case h => first | omega | (simp; done) | (simp; omega)) | (with_reducible refine Below.alloc ?_ ?h _; case h => first | omega | (simp; done) | (simp; omega)) | (with_reducible refine Below.drew ?_) | (with_reducible refine Below.trans ?_ (hb4.mono ?h); case h => first | omega | (simp; done) | (simp; omega)) | (with_reducible refine Below.trans ?_ (hb3.mono ?h); case h => first | omega | (simp; done) | (simp; omega)) | (with_reducible refine Below.trans ?_ (hb2.mono ?h); case h => first | omega | (simp; done) | (simp; omega)) | (with_reducible refine Below.trans ?_ (hb.mono ?h); case h => first | omega | (simp; done) | (simp; omega)) | (with_reducible refine Below.trans ?_ (hb0.mono ?h); case h => first | omega | (simp; done) | (simp; omega))))
  have R := Row.new w #[.int .i64 0, .int .i64 0, .int .u64 0, .int .u64 0, .string ⟨#[]⟩] 24
  by_cases h : d = 0
  · subst h
    rw [if_pos rfl]
    unfold kv kz
    dsimp only
    clear HO
    go_enter Try.func23, Try.ntmps23
    go_wp2_with fail
    refine (HW _).mono ?_
    rintro e w1 ⟨rfl, hb⟩
    replace R := R.later hb
    replace hb0 := below_step hb0 hb
    clear hb HW
    have c0 := ((R).cell 0).trans (show _ = some (Value.int .i64 0) from rfl)
    have cf0 := (R).frozen 0
    have c1 := ((R).cell 1).trans (show _ = some (Value.int .i64 0) from rfl)
    have cf1 := (R).frozen 1
    have c2 := ((R).cell 2).trans (show _ = some (Value.int .u64 0) from rfl)
    have cf2 := (R).frozen 2
    have c3 := ((R).cell 3).trans (show _ = some (Value.int .u64 0) from rfl)
    have cf3 := (R).frozen 3
    have c4 := ((R).cell 4).trans (show _ = some (Value.string ⟨#[]⟩) from rfl)
    have cf4 := (R).frozen 4
    clear R
    go_wp2
    refine bodyPost_ret (v := .agg #[.int .i64 0, .int .i64 0, .int .u64 0, .int .u64 0, .string ⟨#[]⟩]) (by simp [results, Try.results23, go_sem, c0, c1, c2, c3, c4]) rfl ⟨rfl, bset5 hb0 (by omega) _ _ _ _ _⟩
  · rw [if_neg h]
    have h' : (d == 0) = false := by simpa using h
    replace HO := HO h
    clear h
    unfold kv at *
    dsimp only at *
    go_enter Try.func23, Try.ntmps23
    go_wp2_with fail
    refine (HW _).mono ?_
    rintro e w1 ⟨rfl, hb⟩
    replace R := R.later hb
    replace hb0 := below_step hb0 hb
    clear hb HW
    go_wp2_with fail
    refine (HO _).mono ?_
    rintro e w2 ⟨rfl, hb⟩
    replace R := R.later hb
    replace hb0 := below_step hb0 hb
    clear hb HO
    have c0 := ((R).cell 0).trans (show _ = some (Value.int .i64 0) from rfl)
    have cf0 := (R).frozen 0
    have c1 := ((R).cell 1).trans (show _ = some (Value.int .i64 0) from rfl)
    have cf1 := (R).frozen 1
    have c2 := ((R).cell 2).trans (show _ = some (Value.int .u64 0) from rfl)
    have cf2 := (R).frozen 2
    have c3 := ((R).cell 3).trans (show _ = some (Value.int .u64 0) from rfl)
    have cf3 := (R).frozen 3
    have c4 := ((R).cell 4).trans (show _ = some (Value.string ⟨#[]⟩) from rfl)
    have cf4 := (R).frozen 4
    clear R
    go_wp2
    refine bodyPost_ret (v := .agg #[.int .i64 k, .int .i64 0, .int .u64 0, .int .u64 0, .string ⟨#[]⟩]) (by simp [results, Try.results23, go_sem, c0, c1, c2, c3, c4]) rfl ⟨rfl, bset5 hb0 (by omega) _ _ _ _ _⟩
set_option maxHeartbeats 1000000 in
theorem rright_t (k : Ke) (ok : k.ok) (w : World) : Calls Try.prog 17 #[kv k] w fun e w' => e = .returned (.bool (rightK k)) ∧ Below w.heap.size w w' := by
  have HL : ∀ w1, Calls Try.prog 53 #[kv k] w1 fun e w' => ∃ v, e = .returned (.tuple #[v, .bool (rightK k)]) ∧ SS w' v (letR k) ∧ Below w1.heap.size w1 w' := fun w1 => letters_t k ok w1
  generalize rightK k = r at *
  generalize letR k = ls at *
  clear ok
  unfold kv at *
  have hb0 : Below w.heap.size w (w.alloc (.cells #[.int .i64 k.kind, .int .i64 k.len, .int .u64 k.h, .int .u64 k.l, .string ⟨k.path.toArray⟩] 24)) := (by repeat (first | exact Below.refl _ _ | assumption | (with_reducible refine Below.setCell ?_ ?h _; case h => first | omega | (simp; done) | (simp; omega)) | (with_reducible refine Below.alloc ?_ ?h _; case h => first | omega | (simp; done) | (simp; omega)) | (with_reducible refine Below.drew ?_) | (with_reducible refine Below.trans ?_ (hb4.mono ?h); case h => first | omega | (simp; done) | (simp; omega)) | (with_reducible refine Below.trans ?_ (hb3.mono ?h); case h => first | omega | (simp; done) | (simp; omega)) | (with_reducible refine Below.trans ?_ (hb2.mono ?h); case h => first | omega | (simp; done) | (simp; omega)) | (with_reducible refine Below.trans ?_ (hb.mono ?h); case h => first | omega | (simp; done) | (simp; omega)) | (with_reducible refine Below.trans ?_ (hb0.mono ?h); case h => first | omega | (simp; done) | (simp; omega))))
  go_enter Try.func17, Try.ntmps17
  go_wp2_with fail
  refine (HL _).mono ?_
  rintro e w1 ⟨v, rfl, _, hb⟩
  replace hb0 := below_step hb0 hb
  clear hb HL
  go_wp2
  go_ret
  exact ⟨rfl, hb0⟩
end Go.Proofs.Ytekoicbjpoeijaa
