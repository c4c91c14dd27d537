/- G9b, P12, GT: what the theorem needs of these texts. No conditions beyond those that are written. -/
import Derived.Test.YtbekocknfpekoaaBG9
namespace Go.Proofs.Ytbekocknfpekoaa
set_option linter.unusedVariables false
set_option linter.unusedSimpArgs false
open Go.RowKit
theorem cuts_own (d : Dm) (l0 : Int) (k : Ke) (ok : k.ok) (h0 : 0 ≤ l0) (h1 : l0 ≤ depthD d) (w : World) : Calls Try.prog 75 #[dv d, .int .i64 l0, kv k] w fun e w' => ∃ g c cur, e = .returned (.slice (some ⟨g, 0, none⟩) (depthD d + 1 - l0).toNat c) ∧ (depthD d + 1 - l0).toNat ≤ c ∧ w.heap.size ≤ g ∧ Row w' g cur 30 ∧ Hid (∀ j, j < (depthD d + 1 - l0).toNat → ∀ i x, (cellsK (cutD d (l0 + (j : Int)) k))[i]? = some x → cur[j * 5 + i]? = some x) ∧ Below w.heap.size w w' := by
  refine (cuts_t d l0 k ok h0 (by omega) w).mono ?_
  rintro e w' ⟨v, rfl, _, hk, hb⟩
  obtain ⟨g, c, cur, rfl, e1, e2, e3, e4⟩ := hk h1
  rw [cutT_len] at e1 ⊢
  exact ⟨g, c, cur, rfl, e1, e2, e3, Lib.hid (fun j hj i x hx => e4 j _ (cutT_get hj) i x hx), hb⟩
set_option maxRecDepth 100000 in
set_option maxHeartbeats 2000000 in
theorem all_t (s : Sp) (p : Px) (op : p.ok) (w : World) : Calls Try.prog 47 #[sv s, pv p] w fun e w' => ∃ v, e = .returned v ∧ XS w' v (allP s p) ∧ Below w.heap.size w w' := by
  have HR := right9_t s p op
  have hi := right_iff s p
  unfold allP
  cases h : rightP s p with
  | false => rw [h] at HR; exact all_no s p HR w
  | true =>
    rw [h] at HR
    rw [if_pos rfl]
    obtain ⟨_, n0, n1⟩ := hi.1 h
    have q0 := onE_range n0
    have q1 := onE_range n1
    have d0 := depthD_range s.d0
    have d1 := depthD_range s.d1
    have HU0 := cuts_own s.d0 p.a0 p.k0 op.k0 q0.1 q0.2
    have HU1 := cuts_own s.d1 p.a1 p.k1 op.k1 q1.1 q1.2
    have hN0 : (((depthD s.d0 + 1 - p.a0).toNat : Nat) : Int) - 1 = depthD s.d0 - p.a0 := by omega
    have hN1 : (((depthD s.d1 + 1 - p.a1).toNat : Nat) : Int) - 1 = depthD s.d1 - p.a1 := by omega
    obtain ⟨hc1, hc2⟩ := walk_cnt (a := depthD s.d0 - p.a0) (b := depthD s.d1 - p.a1) (by omega) (by omega) (by omega) (by omega)
    have HC := count_t (depthD s.d0 - p.a0) (depthD s.d1 - p.a1) (by omega) (by omega) (by omega) (by omega)
    have hseq := fun g w0 R => walk1_in (depthD s.d0 - p.a0) (depthD s.d1 - p.a1) (by omega) (by omega) (by omega) (by omega) 2 g w0 R
    rw [← hc1] at HC
    have hg : ∀ k, k < (walkN (depthD s.d0 - p.a0) (depthD s.d1 - p.a1)).length → ∃ x y, (walkN (depthD s.d0 - p.a0) (depthD s.d1 - p.a1))[k]? = some (x, y) ∧ (0 ≤ x ∧ x ≤ depthD s.d0 - p.a0 ∧ 0 ≤ y ∧ y ≤ depthD s.d1 - p.a1) := fun k hk => by
      obtain ⟨x, y, e1, e2, _⟩ := walkN_get (a := depthD s.d0 - p.a0) (b := depthD s.d1 - p.a1) (by omega) (by omega) hk
      exact ⟨x, y, e1, e2⟩
    have hX : ∀ k, ((((walkN (depthD s.d0 - p.a0) (depthD s.d1 - p.a1)).getD k (0, 0)).1.toNat : Nat) : Int) = ((walkN (depthD s.d0 - p.a0) (depthD s.d1 - p.a1)).getD k (0, 0)).1 ∧ ((((walkN (depthD s.d0 - p.a0) (depthD s.d1 - p.a1)).getD k (0, 0)).2.toNat : Nat) : Int) = ((walkN (depthD s.d0 - p.a0) (depthD s.d1 - p.a1)).getD k (0, 0)).2 := fun k => by
      by_cases hk : k < (walkN (depthD s.d0 - p.a0) (depthD s.d1 - p.a1)).length
      · obtain ⟨x, y, e1, e2⟩ := hg k hk
        rw [List.getD_eq_getElem?_getD, e1]
        show (((x.toNat : Nat) : Int) = x) ∧ (((y.toNat : Nat) : Int) = y)
        omega
      · rw [List.getD_eq_getElem?_getD, List.getElem?_eq_none (by omega)]
        exact ⟨rfl, rfl⟩
    refine all_ok s p (depthD s.d0 + 1 - p.a0).toNat (depthD s.d1 + 1 - p.a1).toNat (walkN (depthD s.d0 - p.a0) (depthD s.d1 - p.a1)).length (fun j => cutD s.d0 (p.a0 + (j : Int)) p.k0) (fun j => cutD s.d1 (p.a1 + (j : Int)) p.k1) ((walkN (depthD s.d0 - p.a0) (depthD s.d1 - p.a1)).map (upAt s p)) (walF (depthD s.d0 - p.a0) (depthD s.d1 - p.a1)) (fun k => (((walkN (depthD s.d0 - p.a0) (depthD s.d1 - p.a1)).getD k (0, 0)).1.toNat, ((walkN (depthD s.d0 - p.a0) (depthD s.d1 - p.a1)).getD k (0, 0)).2.toNat)) HR HU0 HU1 (by omega) (by omega) (by omega) (by omega) q0.1 (by omega) q1.1 (by omega) ?_ ?_ ?_ ?_ w
    · intro k
      obtain ⟨e1, e2⟩ := hX k
      unfold walF
      dsimp only
      rw [e1, e2]
    · refine Lib.hid ⟨hc2, fun k hk => by rw [List.length_take, List.length_map]; omega, by rw [← List.length_map (f := upAt s p)]; exact take_full _, fun k hk => ?_⟩
      obtain ⟨x, y, e1, e2⟩ := hg k hk
      have e3 : (walkN (depthD s.d0 - p.a0) (depthD s.d1 - p.a1)).getD k (0, 0) = (x, y) := by rw [List.getD_eq_getElem?_getD, e1]; rfl
      dsimp only
      rw [e3]
      dsimp only
      refine ⟨by omega, by omega, ?_⟩
      have hx : ((x.toNat : Nat) : Int) = x := by omega
      have hy : ((y.toNat : Nat) : Int) = y := by omega
      rw [hx, hy]
      exact take_snoc _ _ _ (by rw [List.getElem?_map, e1]; rfl)
    · intro w1
      rw [hN0, hN1]
      exact HC w1
    · intro g w0 R
      rw [hN0, hN1] at R
      exact hseq g w0 R
end Go.Proofs.Ytbekocknfpekoaa
namespace Go.Proofs.Ytbekocknfpekoaa
set_option linter.unusedVariables false
set_option linter.unusedSimpArgs false
open Go.RowKit
/-- what Up gives on a node -/
theorem up_on {s : Sp} {p : Px} {b0 b1 : Int} (h : upB s p b0 b1 = true) : upP s p b0 b1 = upX s p b0 b1 ∧ overP s (upX s p b0 b1) p = true ∧ rightP s (upX s p b0 b1) = true := by
  have h2 := h
  unfold upB at h2
  simp only [Bool.and_eq_true, decide_eq_true_eq] at h2
  obtain ⟨h1, g0, g1, g2, g3⟩ := h2
  obtain ⟨hs, o0, o1⟩ := (right_iff s p).1 h1
  have hr : rightP s (upX s p b0 b1) = true := (right_iff _ _).2 ⟨hs, onE_up o0 g0 g1, onE_up o1 g2 g3⟩
  refine ⟨by unfold upP; rw [if_pos h], ?_, hr⟩
  rw [overP_iff]
  exact ⟨hr, h1, ⟨g0, rfl⟩, g2, rfl⟩
end Go.Proofs.Ytbekocknfpekoaa
namespace Go.Proofs.Ytbekocknfpekoaa
set_option linter.unusedVariables false
set_option linter.unusedSimpArgs false
open Go.RowKit
attribute [local go_sem] Oper.semAt_some
/-- what is read of a row of nodes -/
theorem ts_read {w : World} {v : Value} {l : List (Int × Int)} (h : TS w v l) : ∃ p c, v = .slice p l.length c ∧ l.length ≤ c ∧ (0 < l.length → ∃ g o, p = some ⟨g, o, none⟩ ∧ g < w.heap.size ∧ ∀ (j : Nat) x y, l[j]? = some (x, y) → w.cell? ⟨g, o + j * 2, none⟩ = some (.int .i64 x) ∧ w.cell? ⟨g, o + j * 2 + 1, none⟩ = some (.int .i64 y)) := by
  obtain ⟨p, c, e, hc, hp⟩ := h
  refine ⟨p, c, e, hc, fun h0 => ?_⟩
  obtain ⟨g, o, e1, e2, e3⟩ := hp h0
  exact ⟨g, o, e1, e2, fun j x y hk => ⟨e3 j _ hk 0 _ rfl, e3 j _ hk 1 _ rfl⟩⟩
theorem shift_up (s : Sp) (p : Px) (n : Int × Int) : upX s p (n.1 + p.a0) (n.2 + p.a1) = upAt s p n := by
  unfold upX upAt
  rw [Int.add_comm n.1, Int.add_comm n.2]
/-- all that cover a prefix, by the reference's way -/
theorem all_filter (s : Sp) (p : Px) : ((walkN (wA s) (wB s)).map (fun n => upP s p n.1 n.2)).filter (rightP s) = allP s p := by
  have hi := right_iff s p
  unfold allP
  cases hr : rightP s p with
  | false =>
    rw [if_neg (by simp), List.filter_eq_nil_iff]
    intro u hu
    obtain ⟨n, _, rfl⟩ := List.mem_map.1 hu
    have hb : upB s p n.1 n.2 = false := by unfold upB; rw [hr]; rfl
    have e : upP s p n.1 n.2 = pz := by unfold upP; rw [hb]; rfl
    rw [e, pz_not_right]; simp
  | true =>
    rw [if_pos rfl]
    obtain ⟨hs, n0, n1⟩ := hi.1 hr
    have q0 := onE_range n0
    have q1 := onE_range n1
    have ea : wA s = depthD s.d0 := by unfold wA; rw [if_pos hs]
    have eb : wB s = depthD s.d1 := by unfold wB; rw [if_pos hs]
    rw [ea, eb, List.filter_map]
    have hf := filter_above (a := depthD s.d0) (b := depthD s.d1) q0.1 q1.1 q0.2 q1.2
    have hin : ∀ n ∈ walkN (depthD s.d0) (depthD s.d1), n.1 ≤ depthD s.d0 ∧ n.2 ≤ depthD s.d1 := fun n hn => by
      obtain ⟨i, hlt, e⟩ := List.mem_iff_getElem.1 hn
      obtain ⟨x, y, e1, e2, _⟩ := walkN_get (a := depthD s.d0) (b := depthD s.d1) (by omega) (by omega) hlt
      rw [List.getElem?_eq_getElem hlt, e] at e1
      cases e1; exact ⟨e2.2.1, e2.2.2.2⟩
    have hub : ∀ n ∈ walkN (depthD s.d0) (depthD s.d1), upB s p n.1 n.2 = (decide (p.a0 ≤ n.1) && decide (p.a1 ≤ n.2)) := fun n hn => by
      obtain ⟨h1, h2⟩ := hin n hn
      unfold upB
      rw [hr, decide_eq_true h1, decide_eq_true h2]; simp
    have hp : (walkN (depthD s.d0) (depthD s.d1)).filter (rightP s ∘ fun n => upP s p n.1 n.2) = (walkN (depthD s.d0) (depthD s.d1)).filter (fun n => decide (p.a0 ≤ n.1) && decide (p.a1 ≤ n.2)) := by
      apply List.filter_congr
      intro n hn
      simp only [Function.comp]
      cases hb : upB s p n.1 n.2 with
      | false =>
        have e : upP s p n.1 n.2 = pz := by unfold upP; rw [hb]; rfl
        rw [e, pz_not_right, ← hub n hn, hb]
      | true =>
        obtain ⟨e, _, h2⟩ := up_on hb
        rw [e, h2, ← hub n hn, hb]
    rw [hp]
    have hm : ((walkN (depthD s.d0) (depthD s.d1)).filter (fun n => decide (p.a0 ≤ n.1) && decide (p.a1 ≤ n.2))).map (fun n => upP s p n.1 n.2) = ((walkN (depthD s.d0) (depthD s.d1)).filter (fun n => decide (p.a0 ≤ n.1) && decide (p.a1 ≤ n.2))).map (fun n => upX s p n.1 n.2) := by
      apply List.map_congr_left
      intro n hn
      obtain ⟨h1, h2⟩ := List.mem_filter.1 hn
      exact (up_on (by rw [hub n h1]; exact h2)).1
    rw [hm, hf, List.map_map]
    apply List.map_congr_left
    intro n _
    exact shift_up s p n
/-- what is read of a row of prefixes -/
theorem xs_read {w : World} {v : Value} {l : List Px} (h : XS w v l) : ∃ p c, v = .slice p l.length c ∧ l.length ≤ c ∧ (0 < l.length → ∃ g o, p = some ⟨g, o, none⟩ ∧ g < w.heap.size ∧ ∀ (j : Nat) k, l[j]? = some k → ∀ i x, (cellsX k)[i]? = some x → w.cell? ⟨g, o + (j * 12 + i), none⟩ = some x) := by
  obtain ⟨p, c, e, hc, hp⟩ := h
  exact ⟨p, c, e, hc, hp⟩
end Go.Proofs.Ytbekocknfpekoaa
