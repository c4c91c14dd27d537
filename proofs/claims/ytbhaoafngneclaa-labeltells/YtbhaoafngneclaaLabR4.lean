/- Same of the reference of layer 5, and the law's own comparison. No conditions beyond lengths. -/
import Derived.Test.YtbhaoafngneclaaLabR3
import Derived.BigQuiet
namespace Go.Proofs.Ytbhaoafngneclaa
set_option linter.unusedVariables false
set_option linter.unusedSimpArgs false
open Go.RowKit
set_option maxRecDepth 100000 in
set_option maxHeartbeats 4000000 in
theorem rSame_t (a b : List UInt8) (ha : a.length ≤ 400) (hb : b.length ≤ 400) (w : World) : Calls Try.prog 17 #[.string ⟨a.toArray⟩, .string ⟨b.toArray⟩] w fun e w' => e = .returned (.int .i64 (sameN (labsL a) (labsL b) : Nat)) ∧ Below w.heap.size w w' := by
  have h8a := labsL_len a
  have h8b := labsL_len b
  have sa : Calls Try.prog 8 #[.string ⟨a.toArray⟩] w fun e w' => ∃ v, e = .returned (.tuple #[v, .bool (rightB a)]) ∧ SS w' v (labsL a) ∧ Below w.heap.size w w' := rSplit_t a ha w
  have sb : ∀ w1, Calls Try.prog 8 #[.string ⟨b.toArray⟩] w1 fun e w' => ∃ v, e = .returned (.tuple #[v, .bool (rightB b)]) ∧ SS w' v (labsL b) ∧ Below w1.heap.size w1 w' := fun w1 => rSplit_t b hb w1
  have hst := Lib.hid (sameN_stop (labsL a) (labsL b))
  generalize labsL a = la at *
  generalize labsL b = lb at *
  generalize rightB a = ea at *
  generalize rightB b = eb at *
  go_enter Try.func17, Try.ntmps17
  go_wp2_with fail
  refine sa.mono ?_
  rintro e w1 ⟨v, rfl, Sa, hb1⟩
  clear sa
  go_wp2_with fail
  refine (sb w1).mono ?_
  rintro e w2 ⟨u, rfl, Sb, hb2⟩
  clear sb
  replace Sa := Sa.later hb2
  have hbw := below_step hb1 hb2
  clear hb1 hb2
  obtain ⟨pa, ca, rfl, hca, hpa⟩ := Sa
  obtain ⟨pb, cb, rfl, hcb, hpb⟩ := Sb
  have Hpa := Lib.hid hpa
  have Hpb := Lib.hid hpb
  clear hpa hpb
  go_wp2_with fail
  go_loopw [9] (fun i wr => ∃ (j : Nat), j ≤ 8 ∧ i = .int .i64 j ∧ Hid (∀ i, i < j → la[i]? = lb[i]? ∧ i < la.length ∧ i < lb.length) ∧ Hid (∃ n, wr = w2.drewN n)) (fun i _ => 8 - (intOf i).toNat)
  case atStart => exact ⟨0, by omega, rfl, Lib.hid (fun i hi => by omega), Lib.hid ⟨0, rfl⟩⟩
  case round =>
    obtain ⟨j, hj, rfl, hi, hw⟩ := hrel
    by_cases h1 : j < la.length
    · have q2 : (j : Int) < (la.length : Int) := by omega
      have hw2 := Lib.hid (show ∀ q, Below w.heap.size w (wr.drewN q) by intro q; obtain ⟨n, rfl⟩ := hw.out; exact below_drewN (below_drewN hbw n) q)
      by_cases h2 : j < lb.length
      · obtain ⟨ga, oa, rfl, hga, hA⟩ := Hpa.out (by omega)
        obtain ⟨gb, ob, rfl, hgb, hB⟩ := Hpb.out (by omega)
        obtain ⟨x, hx⟩ : ∃ x, la[j]? = some x := ⟨_, List.getElem?_eq_getElem h1⟩
        obtain ⟨y, hy⟩ : ∃ y, lb[j]? = some y := ⟨_, List.getElem?_eq_getElem h2⟩
        have cA : wr.cell? ⟨ga, oa + j, none⟩ = some (.string ⟨x.toArray⟩) := by obtain ⟨n, rfl⟩ := hw.out; exact hA j x hx
        have cB : wr.cell? ⟨gb, ob + j, none⟩ = some (.string ⟨y.toArray⟩) := by obtain ⟨n, rfl⟩ := hw.out; exact hB j y hy
        have q3 : decide ((lb.length : Int) ≤ (j : Int)) = false := by rw [decide_eq_false_iff_not]; omega
        have q4 : (j : Int) < (lb.length : Int) := by omega
        clear hA hB Hpa Hpb
        by_cases hxy : x = y
        · subst hxy
          have hnx := Lib.hid (show ∀ i, i < j + 1 → la[i]? = lb[i]? ∧ i < la.length ∧ i < lb.length from fun i h => by
            by_cases e : i = j
            · subst e; exact ⟨by rw [hx, hy], h1, h2⟩
            · exact hi.out i (by omega))
          have hw' := Lib.hid (show ∀ q, ∃ n, wr.drewN q = w2.drewN n by intro q; obtain ⟨n, rfl⟩ := hw.out; exact ⟨n + q, by simp [World.drewN, Nat.add_assoc]⟩)
          clear hx hy hi hw hw2
          go_wp2_with fail
          go_quiet (fail)
          go_wp2
          exact ⟨⟨j + 1, by omega, by go_num, hnx, Lib.hid (hw'.out _)⟩, by simp [intOf]; omega⟩
        · have HS := Lib.hid (hst.out j hi.out (.inr (by rw [hx, hy]; simpa using hxy)))
          have hbe : (x == y) = false := by simpa using hxy
          clear hx hy hi hw
          go_wp2_with fail
          go_quiet (fail)
          go_wp2
          go_ret
          exact ⟨by rw [HS.out]; rfl, hw2.out _⟩
      · have HS := Lib.hid (hst.out j hi.out (.inl (fun h => h2 h.2)))
        have q3 : decide ((lb.length : Int) ≤ (j : Int)) = true := by rw [decide_eq_true_iff]; omega
        clear hi hw Hpa Hpb
        go_wp2_with fail
        go_quiet (fail)
        go_wp2
        go_ret
        exact ⟨by rw [HS.out]; rfl, hw2.out _⟩
    · have HS := Lib.hid (hst.out j hi.out (.inl (fun h => h1 h.1)))
      have hjl : j = la.length := by
        rcases Nat.eq_zero_or_pos j with h | h
        · omega
        · have := (hi.out (j - 1) (by omega)).2.1; omega
      have hw2 := Lib.hid (show Below w.heap.size w wr by obtain ⟨n, rfl⟩ := hw.out; exact below_drewN hbw n)
      subst hjl
      clear hi hw Hpa Hpb
      go_wp2
      go_ret
      exact ⟨by rw [HS.out]; rfl, hw2.out⟩
set_option maxRecDepth 100000 in
set_option maxHeartbeats 4000000 in
/-- equal lists are found equal -/
theorem lsame_t (u v : Value) (ls : List (List UInt8)) (h8 : ls.length ≤ 8) (w : World) (Su : SS w u ls) (Sv : SS w v ls) : Calls Try.prog 9 #[u, v] w fun e w' => e = .returned (.bool true) ∧ Below w.heap.size w w' := by
  obtain ⟨pa, ca, rfl, hca, hpa⟩ := Su
  obtain ⟨pb, cb, rfl, hcb, hpb⟩ := Sv
  have Hpa := Lib.hid hpa
  have Hpb := Lib.hid hpb
  clear hpa hpb
  go_enter Try.func9, Try.ntmps9
  go_wp2_with fail
  go_loopw [5] (fun i wr => ∃ (j : Nat), j ≤ ls.length ∧ i = .int .i64 j ∧ Hid (∃ n, wr = w.drewN n)) (fun i _ => ls.length - (intOf i).toNat)
  case atStart => exact ⟨0, by omega, rfl, Lib.hid ⟨0, rfl⟩⟩
  case round =>
    obtain ⟨j, hj, rfl, hw⟩ := hrel
    by_cases h1 : j < ls.length
    · obtain ⟨ga, oa, rfl, hga, hA⟩ := Hpa.out (by omega)
      obtain ⟨gb, ob, rfl, hgb, hB⟩ := Hpb.out (by omega)
      obtain ⟨x, hx⟩ : ∃ x, ls[j]? = some x := ⟨_, List.getElem?_eq_getElem h1⟩
      have cA : wr.cell? ⟨ga, oa + j, none⟩ = some (.string ⟨x.toArray⟩) := by obtain ⟨n, rfl⟩ := hw.out; exact hA j x hx
      have cB : wr.cell? ⟨gb, ob + j, none⟩ = some (.string ⟨x.toArray⟩) := by obtain ⟨n, rfl⟩ := hw.out; exact hB j x hx
      have q2 : (j : Int) < (ls.length : Int) := by omega
      have hw' := Lib.hid (show ∀ q, ∃ n, wr.drewN q = w.drewN n by intro q; obtain ⟨n, rfl⟩ := hw.out; exact ⟨n + q, by simp [World.drewN, Nat.add_assoc]⟩)
      clear hA hB Hpa Hpb hx hw
      go_wp2_with fail
      go_quiet (fail)
      go_wp2
      exact ⟨⟨j + 1, by omega, by go_num, Lib.hid (hw'.out _)⟩, by simp [intOf]; omega⟩
    · have hjl : j = ls.length := by omega
      have hw2 := Lib.hid (show Below w.heap.size w wr by obtain ⟨n, rfl⟩ := hw.out; exact below_drewN (Below.refl _ _) n)
      subst hjl
      clear hw Hpa Hpb
      go_wp2
      go_ret
      exact ⟨rfl, hw2.out⟩
end Go.Proofs.Ytbhaoafngneclaa
