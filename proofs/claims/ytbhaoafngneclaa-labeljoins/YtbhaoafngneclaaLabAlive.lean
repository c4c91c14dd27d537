/- The fixed calls of layer 5. No conditions. -/
import Derived.Test.YtbhaoafngneclaaLab6
namespace Go.Proofs.Ytbhaoafngneclaa
set_option linter.unusedVariables false
set_option linter.unusedSimpArgs false
open Go.RowKit
theorem al1 (w : World) : Calls Try.prog 7 #[.string ⟨#[110, 101, 116, 46, 100, 99, 49, 46, 114, 97, 99, 107, 95, 50]⟩] w fun e w' => ∃ p c, e = .returned (.tuple #[.slice p 3 c, .int .i64 0]) ∧ Below w.heap.size w w' := by
  refine (split_t [110, 101, 116, 46, 100, 99, 49, 46, 114, 97, 99, 107, 95, 50] (by decide) w).mono ?_
  rintro e w' ⟨v, rfl, ⟨p, c, rfl, _, _⟩, hb⟩
  have h1 : (labsL [110, 101, 116, 46, 100, 99, 49, 46, 114, 97, 99, 107, 95, 50]).length = 3 := by decide +kernel
  have h2 : splE [110, 101, 116, 46, 100, 99, 49, 46, 114, 97, 99, 107, 95, 50] = 0 := by decide +kernel
  rw [h1, h2]
  exact ⟨p, c, rfl, hb⟩
theorem al2 (w : World) : Calls Try.prog 7 #[.string ⟨#[110, 101, 116, 46, 46, 120]⟩] w fun e w' => ∃ p n c, e = .returned (.tuple #[.slice p n c, .int .i64 3]) ∧ Below w.heap.size w w' := by
  refine (split_t [110, 101, 116, 46, 46, 120] (by decide) w).mono ?_
  rintro e w' ⟨v, rfl, ⟨p, c, rfl, _, _⟩, hb⟩
  have h2 : splE [110, 101, 116, 46, 46, 120] = 3 := by decide +kernel
  rw [h2]
  exact ⟨p, _, c, rfl, hb⟩
theorem ss_made {w : World} {g : Nat} (ls : List (List UInt8)) (n : Nat) (hn : ls.length = n) {cs : Array Value} (h : Row w g cs 9) (hc : cs = (ls.map fun x => Value.string ⟨x.toArray⟩).toArray) : SS w (.slice (some ⟨g, 0, none⟩) n n) ls := by
  subst hn hc
  refine ⟨_, _, rfl, Nat.le_refl _, fun h0 => ⟨g, 0, rfl, h.lt, fun j x hx => ?_⟩⟩
  rw [Nat.zero_add, h.cell j]
  simp [hx]
theorem al_join (ls : List (List UInt8)) (n : Nat) (hn : ls.length = n) (cs : Array Value) (hc : cs = (ls.map fun x => Value.string ⟨x.toArray⟩).toArray) (hs : ∀ x ∈ ls, x.length ≤ 4000000000) (hl : ls.length ≤ 4000000000) (t : List UInt8) (ht : joinT ls = t) (x : Int) (hx : joinE ls = x) (w : World) :
    Calls Try.prog 18 #[.slice (some ⟨w.heap.size, 0, none⟩) n n] (w.alloc (.cells cs 9)) fun e w' => e = .returned (.tuple #[.string ⟨t.toArray⟩, .int .i64 x]) ∧ Below w.heap.size w w' := by
  subst ht hx
  refine (join_t _ ls hl hs _ (ss_made ls n hn (Row.new w cs 9) hc)).mono ?_
  rintro e w' ⟨rfl, hb⟩
  exact ⟨rfl, below_step ((Below.refl _ _).alloc (Nat.le_refl _) _) hb⟩
theorem al_top (w : World) : Calls Try.prog 14 #[.string ⟨#[110, 101, 116, 46, 100, 99, 49, 46, 114, 97, 99, 107, 50]⟩, .int .i64 2] w fun e w' => e = .returned (.string ⟨#[110, 101, 116, 46, 100, 99, 49]⟩) ∧ Below w.heap.size w w' := by
  refine (top_t [110, 101, 116, 46, 100, 99, 49, 46, 114, 97, 99, 107, 50] (by decide) 2 w).mono ?_
  rintro e w' ⟨rfl, hb⟩
  rw [show topL [110, 101, 116, 46, 100, 99, 49, 46, 114, 97, 99, 107, 50] 2 = [110, 101, 116, 46, 100, 99, 49] by decide +kernel]
  exact ⟨rfl, hb⟩
theorem al_same (w : World) : Calls Try.prog 16 #[.string ⟨#[97, 46, 98, 46, 99]⟩, .string ⟨#[97, 46, 98, 46, 100]⟩] w fun e w' => e = .returned (.int .i64 2) ∧ Below w.heap.size w w' := by
  refine (same_t [97, 46, 98, 46, 99] [97, 46, 98, 46, 100] (by decide) (by decide) w).mono ?_
  rintro e w' ⟨rfl, hb⟩
  rw [show sameN (labsL [97, 46, 98, 46, 99]) (labsL [97, 46, 98, 46, 100]) = 2 by decide +kernel]
  exact ⟨rfl, hb⟩
theorem al_right (w : World) : Calls Try.prog 12 #[.string ⟨#[]⟩] w fun e w' => e = .returned (.bool true) ∧ Below w.heap.size w w' := by
  refine (right_t [] (by decide) w).mono ?_
  rintro e w' ⟨rfl, hb⟩
  exact ⟨rfl, hb⟩
theorem al_islabel (w : World) : Calls Try.prog 10 #[.string ⟨#[]⟩] w fun e w' => e = .returned (.bool false) ∧ w = w' := by
  refine (isLabel_t [] (by decide) w).mono ?_
  rintro e w' ⟨rfl, rfl⟩
  exact ⟨rfl, rfl⟩
theorem al_len (w : World) : Calls Try.prog 13 #[.string ⟨#[97, 46, 98]⟩] w fun e w' => e = .returned (.int .i64 2) ∧ Below w.heap.size w w' := by
  refine (len_t [97, 46, 98] (by decide) w).mono ?_
  rintro e w' ⟨rfl, hb⟩
  rw [show (labsL [97, 46, 98]).length = 2 by decide +kernel]
  exact ⟨rfl, hb⟩
set_option maxRecDepth 100000 in
set_option maxHeartbeats 4000000 in
theorem alive5_t (w : World) : Calls Try.prog 6 #[] w fun e w' => e = .returned (.bool true) ∧ Below w.heap.size w w' := by
  go_enter Try.func6, Try.ntmps6
  go_wp2_with fail
  refine (al1 w).mono ?_
  rintro e w1 ⟨p1, c1, rfl, hb1⟩
  go_wp2_with fail
  refine (al2 w1).mono ?_
  rintro e w2 ⟨p2, n2, c2, rfl, hb2⟩
  replace hb1 := below_step hb1 hb2
  clear hb2
  go_wp2_with fail
  refine (al_join [[97], [98]] 2 rfl _ rfl (by decide) (by decide) [97, 46, 98] (by decide +kernel) 0 (by decide +kernel) w2).mono ?_
  rintro e w3 ⟨rfl, hb2⟩
  replace hb1 := below_step hb1 hb2
  clear hb2
  go_wp2_with fail
  refine (al_join [[97, 46, 98]] 1 rfl _ rfl (by decide) (by decide) [] (by decide +kernel) 3 (by decide +kernel) w3).mono ?_
  rintro e w4 ⟨rfl, hb2⟩
  replace hb1 := below_step hb1 hb2
  clear hb2
  go_wp2_with fail
  refine (al_join [[97], [98], [99], [100], [101], [102], [103], [104], [105]] 9 rfl _ rfl (by decide) (by decide) [] (by decide +kernel) 2 (by decide +kernel) w4).mono ?_
  rintro e w5 ⟨rfl, hb2⟩
  replace hb1 := below_step hb1 hb2
  clear hb2
  go_wp2_with fail
  refine (al_top w5).mono ?_
  rintro e w6 ⟨rfl, hb2⟩
  replace hb1 := below_step hb1 hb2
  clear hb2
  go_wp2_with fail
  refine (al_same w6).mono ?_
  rintro e w7 ⟨rfl, hb2⟩
  replace hb1 := below_step hb1 hb2
  clear hb2
  go_wp2_with fail
  refine (al_right w7).mono ?_
  rintro e w8 ⟨rfl, hb2⟩
  replace hb1 := below_step hb1 hb2
  clear hb2
  go_wp2_with fail
  refine (al_islabel w8).mono ?_
  rintro e w9 ⟨rfl, rfl⟩
  go_wp2_with fail
  refine (al_len w8).mono ?_
  rintro e w10 ⟨rfl, hb2⟩
  replace hb1 := below_step hb1 hb2
  clear hb2
  go_wp2
  go_ret
  exact ⟨rfl, hb1⟩
end Go.Proofs.Ytbhaoafngneclaa
