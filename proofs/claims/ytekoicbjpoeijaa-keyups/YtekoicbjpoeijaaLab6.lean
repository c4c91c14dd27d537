/- Same and Join of package label. No conditions beyond lengths. -/
import Derived.Test.YtekoicbjpoeijaaLab5
namespace Go.Proofs.Ytekoicbjpoeijaa
set_option linter.unusedVariables false
set_option linter.unusedSimpArgs false
open Go.RowKit
/-- how many leading elements two lists have in common -/
def sameN : List (List UInt8) → List (List UInt8) → Nat
  | x :: a, y :: b => if x = y then sameN a b + 1 else 0
  | _, _ => 0
theorem sameN_stop : ∀ (a b : List (List UInt8)) (j : Nat), (∀ i, i < j → a[i]? = b[i]? ∧ i < a.length ∧ i < b.length) → (¬ (j < a.length ∧ j < b.length) ∨ a[j]? ≠ b[j]?) → sameN a b = j
  | [], b, j, h, _ => by
    rcases j with _ | j
    · simp [sameN]
    · have := (h 0 (by omega)).2.1; simp at this
  | x :: a, [], j, h, _ => by
    rcases j with _ | j
    · simp [sameN]
    · have := (h 0 (by omega)).2.2; simp at this
  | x :: a, y :: b, j, h, hs => by
    rcases j with _ | j
    · rcases hs with hs | hs
      · simp at hs
      · rw [sameN, if_neg (fun e => hs (by simp [e]))]
    · have h0 := (h 0 (by omega)).1
      simp at h0
      rw [sameN, if_pos h0, sameN_stop a b j (fun i hi => by have := h (i + 1) (by omega); simpa using this) (by simpa using hs)]
theorem str_eq (x y : List UInt8) : (⟨x.toArray⟩ : ByteArray) = ⟨y.toArray⟩ ↔ x = y := by
  constructor
  · intro h
    have := congrArg (fun b : ByteArray => b.data.toList) h
    simpa using this
  · rintro rfl; rfl
set_option maxRecDepth 100000 in
set_option maxHeartbeats 2000000 in
theorem same_t (a b : List UInt8) (ha : a.length ≤ 140737488355328) (hb : b.length ≤ 140737488355328) (w : World) : Calls Try.prog 77 #[.string ⟨a.toArray⟩, .string ⟨b.toArray⟩] w fun e w' => e = .returned (.int .i64 (sameN (labsL a) (labsL b) : Nat)) ∧ Below w.heap.size w w' := by
  have h8a := labsL_len a
  have h8b := labsL_len b
  have sa : Calls Try.prog 90 #[.string ⟨a.toArray⟩] w fun e w' => ∃ v, e = .returned (.tuple #[v, .int .i64 (splE a)]) ∧ SS w' v (labsL a) ∧ Below w.heap.size w w' := split_t a ha w
  have sb : ∀ w1, Calls Try.prog 90 #[.string ⟨b.toArray⟩] w1 fun e w' => ∃ v, e = .returned (.tuple #[v, .int .i64 (splE b)]) ∧ SS w' v (labsL b) ∧ Below w1.heap.size w1 w' := fun w1 => split_t b hb w1
  have hst := Lib.hid (sameN_stop (labsL a) (labsL b))
  generalize labsL a = la at *
  generalize labsL b = lb at *
  generalize splE a = ea at *
  generalize splE b = eb at *
  go_enter Try.func77, Try.ntmps77
  go_wp2_with fail
  refine sa.mono ?_
  rintro e w1 ⟨v, rfl, Sa, hb1⟩
  clear sa
  go_wp2_with fail
  refine (sb w1).mono ?_
  rintro e w2 ⟨u, rfl, Sb, hb2⟩
  clear sb
  replace Sa := Sa.later hb2
  have hbw := below_step hb1 hb2
  clear hb1 hb2
  obtain ⟨pa, ca, rfl, hca, hpa⟩ := Sa
  obtain ⟨pb, cb, rfl, hcb, hpb⟩ := Sb
  have Hpa := Lib.hid hpa
  have Hpb := Lib.hid hpb
  clear hpa hpb
  go_wp2_with fail
  go_loopw [9] (fun i wr => ∃ (j : Nat), j ≤ 8 ∧ i = .int .i64 j ∧ Hid (∀ i, i < j → la[i]? = lb[i]? ∧ i < la.length ∧ i < lb.length) ∧ Hid (∃ n, wr = w2.drewN n)) (fun i _ => 8 - (intOf i).toNat)
  case atStart => exact ⟨0, by omega, rfl, Lib.hid (fun i hi => by omega), Lib.hid ⟨0, rfl⟩⟩
  case round =>
    obtain ⟨j, hj, rfl, hi, hw⟩ := hrel
    by_cases h1 : j < la.length ∧ j < lb.length
    · obtain ⟨ga, oa, rfl, hga, hA⟩ := Hpa.out (by omega)
      obtain ⟨gb, ob, rfl, hgb, hB⟩ := Hpb.out (by omega)
      obtain ⟨x, hx⟩ : ∃ x, la[j]? = some x := ⟨_, List.getElem?_eq_getElem h1.1⟩
      obtain ⟨y, hy⟩ : ∃ y, lb[j]? = some y := ⟨_, List.getElem?_eq_getElem h1.2⟩
      have cA : wr.cell? ⟨ga, oa + j, none⟩ = some (.string ⟨x.toArray⟩) := by obtain ⟨n, rfl⟩ := hw.out; exact hA j x hx
      have cB : wr.cell? ⟨gb, ob + j, none⟩ = some (.string ⟨y.toArray⟩) := by obtain ⟨n, rfl⟩ := hw.out; exact hB j y hy
      have q1 : (j : Int) < min (la.length : Int) (lb.length : Int) := by omega
      have q2 : (j : Int) < (la.length : Int) := by omega
      have q3 : (j : Int) < (lb.length : Int) := by omega
      clear hA hB Hpa Hpb
      by_cases hxy : x = y
      · subst hxy
        have hnx := Lib.hid (show ∀ i, i < j + 1 → la[i]? = lb[i]? ∧ i < la.length ∧ i < lb.length from fun i h => by
          by_cases e : i = j
          · subst e; exact ⟨by rw [hx, hy], h1⟩
          · exact hi.out i (by omega))
        have hw' := Lib.hid (show ∃ n, wr.drew = w2.drewN n by obtain ⟨n, rfl⟩ := hw.out; exact ⟨n + 1, rfl⟩)
        clear hx hy hi hw
        go_wp2_with fail
        go_region
        go_wp2
        exact ⟨⟨j + 1, by omega, by go_num, hnx, hw'⟩, by simp [intOf]; omega⟩
      · have hne : ¬ (⟨x.toArray⟩ : ByteArray) = ⟨y.toArray⟩ := fun e => hxy ((str_eq x y).1 e)
        have HS := Lib.hid (hst.out j hi.out (.inr (by rw [hx, hy]; simpa using hxy)))
        have hw' := Lib.hid (show Below w.heap.size w wr.drew by obtain ⟨n, rfl⟩ := hw.out; exact (below_drewN hbw n).drew)
        clear hx hy hi hw
        have hbe : (x == y) = false := by simpa using hxy
        go_wp2_with fail
        go_region
        go_wp2
        go_ret
        exact ⟨by rw [HS.out]; rfl, hw'.out⟩
    · have HS := Lib.hid (hst.out j hi.out (.inl h1))
      have hw' := Lib.hid (show Below w.heap.size w wr.drew by obtain ⟨n, rfl⟩ := hw.out; exact (below_drewN hbw n).drew)
      have q1 : decide ((j : Int) < min (la.length : Int) (lb.length : Int)) = false := by rw [decide_eq_false_iff_not]; omega
      clear hi hw Hpa Hpb h1
      go_wp2_with fail
      go_region
      go_wp2
      go_ret
      exact ⟨by rw [HS.out]; rfl, hw'.out⟩
def joinE (ls : List (List UInt8)) : Int := if ls.all labB = false then 3 else if 8 < ls.length then 2 else 0
def joinT (ls : List (List UInt8)) : List UInt8 := if joinE ls = 0 then jn ls else []
theorem join_bad {ls : List (List UInt8)} {j : Nat} {x : List UInt8} (hx : ls[j]? = some x) (h : labB x = false) : joinE ls = 3 ∧ joinT ls = [] := by
  have : ls.all labB = false := by rw [List.all_eq_false]; exact ⟨x, List.mem_of_getElem? hx, by simp [h]⟩
  have h3 : joinE ls = 3 := by unfold joinE; rw [if_pos this]
  exact ⟨h3, by unfold joinT; rw [h3]; rfl⟩
theorem labB_len {x : List UInt8} (h : labB x = true) : x.length ≤ 16 := by unfold labB at h; simp at h; exact h.2
theorem jn_bound : ∀ (ls : List (List UInt8)), (∀ x ∈ ls, x.length ≤ 16) → (jn ls).length ≤ 17 * ls.length
  | [], _ => by simp [jn, Lib.join]
  | [x], h => by rw [jn_one]; have := h x (by simp); simp; omega
  | x :: y :: r, h => by
    have ih := jn_bound (y :: r) (fun z hz => h z (List.mem_cons_of_mem _ hz))
    have := h x (by simp)
    rw [jn_cons x (y :: r) (by simp)]
    simp at ih ⊢; omega
end Go.Proofs.Ytekoicbjpoeijaa
