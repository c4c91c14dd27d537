/- GD: what the theorem needs of these texts. No conditions beyond those that are written. -/
import Derived.Test.YtbekocknfpekoaaJG9b
import Derived.Test.YtbekocknfpekoaaG10
namespace Go.Proofs.Ytbekocknfpekoaa
set_option linter.unusedVariables false
set_option linter.unusedSimpArgs false
open Go.RowKit
theorem walk_pair {a b : Int} (ha : -1 ≤ a) (hb : 0 ≤ b) : (walkN a b).Pairwise (fun m n => placeN a b m.1 m.2 < placeN a b n.1 n.2) := by
  rw [List.pairwise_iff_getElem]
  intro i j hi hj hij
  have e1 := placeN_of (a := a) (b := b) ha hb (i := i) (x := (walkN a b)[i].1) (y := (walkN a b)[i].2) (List.getElem?_eq_getElem hi)
  have e2 := placeN_of (a := a) (b := b) ha hb (i := j) (x := (walkN a b)[j].1) (y := (walkN a b)[j].2) (List.getElem?_eq_getElem hj)
  rw [e1, e2]; omega
/-- the nodes of all that cover p -/
theorem all_mem {s : Sp} {p q : Px} : q ∈ allP s p ↔ overP s q p = true := by
  rw [← all_filter, List.mem_filter, List.mem_map, over_is_up]
  have hi := right_iff s q
  constructor
  · rintro ⟨⟨n, hn, rfl⟩, hr⟩
    have hp : rightP s p = true ∧ upB s p n.1 n.2 = true := by
      cases hb : upB s p n.1 n.2 with
      | false =>
        have e : upP s p n.1 n.2 = pz := by unfold upP; rw [hb]; rfl
        rw [e, pz_not_right] at hr; cases hr
      | true =>
        refine ⟨?_, rfl⟩
        unfold upB at hb
        rw [Bool.and_eq_true] at hb; exact hb.1
    obtain ⟨e, _, _⟩ := up_on hp.2
    have ea : (upP s p n.1 n.2).a0 = n.1 ∧ (upP s p n.1 n.2).a1 = n.2 := by rw [e]; exact ⟨rfl, rfl⟩
    rw [hr, hp.1, ea.1, ea.2]; simp
  · intro h
    rw [Bool.and_eq_true, Bool.and_eq_true] at h
    obtain ⟨hq, hp, he⟩ := h
    have he := of_decide_eq_true he
    obtain ⟨hs, n0, n1⟩ := hi.1 hq
    have q0 := onE_range n0
    have q1 := onE_range n1
    have ea : wA s = depthD s.d0 := by unfold wA; rw [if_pos hs]
    have eb : wB s = depthD s.d1 := by unfold wB; rw [if_pos hs]
    obtain ⟨_, hat⟩ := walkN_at (a := wA s) (b := wB s) (x := q.a0) (y := q.a1) (by omega)
    exact ⟨⟨(q.a0, q.a1), List.mem_of_getElem? hat, he⟩, hq⟩
theorem all_places {s : Sp} {p : Px} {k : Nat} {u v : Px} (h1 : (allP s p)[k]? = some u) (h2 : (allP s p)[k + 1]? = some v) : placeN (wA s) (wB s) u.a0 u.a1 < placeN (wA s) (wB s) v.a0 v.a1 := by
  have ra := wA_range s
  have rb := wB_range s
  have hp := walk_pair (a := wA s) (b := wB s) ra.1 rb.1
  have hpm : (allP s p).Pairwise (fun m n => placeN (wA s) (wB s) m.a0 m.a1 < placeN (wA s) (wB s) n.a0 n.a1) := by
    rw [← all_filter, List.filter_map, List.pairwise_map]
    refine List.Pairwise.imp_of_mem ?_ (hp.filter _)
    intro m n hm hn hlt
    have hat : ∀ m ∈ (walkN (wA s) (wB s)).filter (rightP s ∘ fun n => upP s p n.1 n.2), (upP s p m.1 m.2).a0 = m.1 ∧ (upP s p m.1 m.2).a1 = m.2 := fun m hm => by
      have hr := (List.mem_filter.1 hm).2
      cases hb : upB s p m.1 m.2 with
      | false =>
        have e : upP s p m.1 m.2 = pz := by unfold upP; rw [hb]; rfl
        simp only [Function.comp, e, pz_not_right] at hr; cases hr
      | true => rw [(up_on hb).1]; exact ⟨rfl, rfl⟩
    rw [(hat m hm).1, (hat m hm).2, (hat n hn).1, (hat n hn).2]
    exact hlt
  rw [List.pairwise_iff_getElem] at hpm
  obtain ⟨i1, e1⟩ := List.getElem?_eq_some_iff.1 h1
  obtain ⟨i2, e2⟩ := List.getElem?_eq_some_iff.1 h2
  have := hpm k (k + 1) i1 i2 (by omega)
  rw [e1, e2] at this
  exact this
theorem all_some (s : Sp) (p : Px) : decide (0 < (allP s p).length) = rightP s p := by
  cases h : rightP s p with
  | true =>
    have : p ∈ allP s p := all_mem.2 (by rw [over_self9]; exact h)
    exact decide_eq_true (List.length_pos_of_mem this)
  | false => unfold allP; rw [h]; rfl
/-- a parent -/
theorem par_mem {s : Sp} {p u : Px} (hu : u ∈ parP s p) : overP s u p = true ∧ rightP s u = true ∧ rightP s p = true ∧ u.a0 + u.a1 = p.a0 + p.a1 + 1 := by
  unfold parP at hu
  split at hu
  · rename_i hp
    rw [List.mem_filter] at hu
    obtain ⟨h1, h2⟩ := hu
    have key : ∀ b0 b1, b0 + b1 = p.a0 + p.a1 + 1 → u = upP s p b0 b1 → overP s u p = true ∧ rightP s u = true ∧ rightP s p = true ∧ u.a0 + u.a1 = p.a0 + p.a1 + 1 := fun b0 b1 hs e => by
      cases hb : upB s p b0 b1 with
      | false =>
        have ez : upP s p b0 b1 = pz := by unfold upP; rw [hb]; rfl
        rw [e, ez] at h2; simp at h2
      | true =>
        obtain ⟨e1, e2, e3⟩ := up_on hb
        rw [e, e1]; exact ⟨e2, e3, hp, hs⟩
    simp only [List.mem_cons, List.not_mem_nil, or_false] at h1
    rcases h1 with h1 | h1
    · exact key _ _ (by omega) h1
    · exact key _ _ (by omega) h1
  · cases hu
theorem over_up {s : Sp} {p q : Px} {b0 b1 : Int} (h : overP s q p = true) (h0 : p.a0 ≤ b0) (h1 : b0 ≤ q.a0) (h2 : p.a1 ≤ b1) (h3 : b1 ≤ q.a1) : upB s p b0 b1 = true ∧ overP s q (upP s p b0 b1) = true := by
  obtain ⟨hq, hp, ⟨l0, e0⟩, l1, e1⟩ := (overP_iff s q p).1 h
  obtain ⟨_, m0, m1⟩ := (right_iff s q).1 hq
  obtain ⟨_, n0, n1⟩ := (right_iff s p).1 hp
  have r0 := onE_range m0
  have r1 := onE_range m1
  have p0 := onE_range n0
  have p1 := onE_range n1
  have hb : upB s p b0 b1 = true := by
    unfold upB; simp only [Bool.and_eq_true, decide_eq_true_eq]
    exact ⟨hp, h0, by omega, h2, by omega⟩
  obtain ⟨eu, _, hr⟩ := up_on hb
  refine ⟨hb, ?_⟩
  rw [eu, overP_iff]
  refine ⟨hq, hr, ⟨h1, ?_⟩, h3, ?_⟩
  · show q.k0 = cutD s.d0 q.a0 (cutD s.d0 b0 p.k0)
    rw [onE_twice n0 (by omega) h1 r0.2]; exact e0
  · show q.k1 = cutD s.d1 q.a1 (cutD s.d1 b1 p.k1)
    rw [onE_twice n1 (by omega) h3 r1.2]; exact e1
theorem par_under {s : Sp} {p q : Px} : (∃ u ∈ parP s p, overP s q u = true) ↔ overP s q p = true ∧ q ≠ p := by
  constructor
  · rintro ⟨u, hu, ho⟩
    obtain ⟨h1, _, _, h4⟩ := par_mem hu
    refine ⟨over_trans9 ho h1, fun e => ?_⟩
    obtain ⟨_, _, ⟨l0, _⟩, l1, _⟩ := (overP_iff s q u).1 ho
    rw [e] at l0 l1; omega
  · rintro ⟨h, hne⟩
    obtain ⟨hq, hp, ⟨l0, e0⟩, l1, e1⟩ := (overP_iff s q p).1 h
    obtain ⟨_, n0, n1⟩ := (right_iff s p).1 hp
    have mk : ∀ b0 b1, upP s p b0 b1 ∈ [upP s p (p.a0 + 1) p.a1, upP s p p.a0 (p.a1 + 1)] → upB s p b0 b1 = true → upP s p b0 b1 ∈ parP s p := fun b0 b1 hm hb => by
      unfold parP
      rw [if_pos hp, List.mem_filter]
      refine ⟨hm, ?_⟩
      obtain ⟨e, _, hr⟩ := up_on hb
      rw [e]
      cases hd : decide (upX s p b0 b1 = pz) with
      | false => rfl
      | true => rw [of_decide_eq_true hd, pz_not_right] at hr; cases hr
    by_cases g0 : p.a0 < q.a0
    · obtain ⟨hb, ho⟩ := over_up h (b0 := p.a0 + 1) (b1 := p.a1) (by omega) (by omega) (by omega) (by omega)
      exact ⟨_, mk _ _ (by simp) hb, ho⟩
    · by_cases g1 : p.a1 < q.a1
      · obtain ⟨hb, ho⟩ := over_up h (b0 := p.a0) (b1 := p.a1 + 1) (by omega) (by omega) (by omega) (by omega)
        exact ⟨_, mk _ _ (by simp) hb, ho⟩
      · exfalso
        have a0 : q.a0 = p.a0 := by omega
        have a1 : q.a1 = p.a1 := by omega
        refine hne (px_ext a0 a1 ?_ ?_)
        · rw [e0, a0, onE_cut n0]
        · rw [e1, a1, onE_cut n1]
end Go.Proofs.Ytbekocknfpekoaa
