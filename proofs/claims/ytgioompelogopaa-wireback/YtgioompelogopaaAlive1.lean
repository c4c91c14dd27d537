/- The fixed calls of the statements on package wide. No conditions. -/
import Derived.Test.YtgioompelogopaaWide4
import Derived.Deep.MidRow
namespace Go.Proofs.Ytgioompelogopaa
set_option linter.unusedVariables false
set_option linter.unusedSimpArgs false
open Go.RowKit
theorem av_add (w : World) : Calls Try.prog 12 #[.agg #[.int .u64 18446744073709551615, .int .u64 18446744073709551615], .agg #[.int .u64 0, .int .u64 2]] w fun e w' => e = .returned (.tuple #[.agg #[.int .u64 0, .int .u64 1], .bool true]) ∧ Below w.heap.size w w' := by
  have h := add_any 18446744073709551615 18446744073709551615 0 2 (word_lit _ (by decide) (by decide)) (word_lit _ (by decide) (by decide)) (word_lit _ (by decide) (by decide)) (word_lit _ (by decide) (by decide)) w
  rw [show hi (wv 18446744073709551615 18446744073709551615 + wv 0 2) = 0 by decide +kernel, show lo (wv 18446744073709551615 18446744073709551615 + wv 0 2) = 1 by decide +kernel, show addB (wv 18446744073709551615 18446744073709551615) (wv 0 2) = true by decide +kernel] at h
  exact h
theorem av_sub (w : World) : Calls Try.prog 15 #[.agg #[.int .u64 0, .int .u64 1], .agg #[.int .u64 0, .int .u64 2]] w fun e w' => e = .returned (.tuple #[.agg #[.int .u64 18446744073709551615, .int .u64 18446744073709551615], .bool true]) ∧ Below w.heap.size w w' := by
  have h := sub_any 0 1 0 2 (word_lit _ (by decide) (by decide)) (word_lit _ (by decide) (by decide)) (word_lit _ (by decide) (by decide)) (word_lit _ (by decide) (by decide)) w
  rw [show hi (wv 0 1 - wv 0 2) = 18446744073709551615 by decide +kernel, show lo (wv 0 1 - wv 0 2) = 18446744073709551615 by decide +kernel, show subB (wv 0 1) (wv 0 2) = true by decide +kernel] at h
  exact h
theorem av_mul (w : World) : Calls Try.prog 21 #[.int .u64 9223372036854775808, .int .u64 4] w fun e w' => e = .returned (.agg #[.int .u64 2, .int .u64 0]) ∧ Below w.heap.size w w' := by
  have h := mul_any 9223372036854775808 4 (word_lit _ (by decide) (by decide)) (word_lit _ (by decide) (by decide)) w
  rw [show hi (9223372036854775808 * 4) = 2 by decide +kernel, show lo (9223372036854775808 * 4) = 0 by decide +kernel] at h
  exact h
theorem av_cmp (w : World) : Calls Try.prog 18 #[.agg #[.int .u64 0, .int .u64 3], .agg #[.int .u64 0, .int .u64 4]] w fun e w' => e = .returned (.int .i64 (-1)) ∧ Below w.heap.size w w' := by
  have h := cmp_any 0 3 0 4 (word_lit _ (by decide) (by decide)) (word_lit _ (by decide) (by decide)) (word_lit _ (by decide) (by decide)) (word_lit _ (by decide) (by decide)) w
  rw [show cmpI (wv 0 3) (wv 0 4) = -1 by decide +kernel] at h
  exact h
theorem av_mask (w : World) : Calls Try.prog 30 #[.int .i64 65] w fun e w' => e = .returned (.agg #[.int .u64 18446744073709551615, .int .u64 9223372036854775808]) ∧ Below w.heap.size w w' := by
  have h := mask_any 65 (by decide) w
  rw [show hi (maskI 65) = 18446744073709551615 by decide +kernel, show lo (maskI 65) = 9223372036854775808 by decide +kernel] at h
  exact h
theorem av_bit (w : World) : Calls Try.prog 33 #[.agg #[.int .u64 0, .int .u64 1], .int .i64 127] w fun e w' => e = .returned (.bool true) ∧ Below w.heap.size w w' := by
  have h := bit_any 0 1 127 (word_lit _ (by decide) (by decide)) (word_lit _ (by decide) (by decide)) w
  rw [show bitI (wv 0 1) 127 = true by decide +kernel] at h
  exact h
theorem av_same (w : World) : Calls Try.prog 35 #[.agg #[.int .u64 0, .int .u64 1], .agg #[.int .u64 0, .int .u64 0]] w fun e w' => e = .returned (.int .i64 127) ∧ Below w.heap.size w w' := by
  have h := same_any 0 1 0 0 (word_lit _ (by decide) (by decide)) (word_lit _ (by decide) (by decide)) (word_lit _ (by decide) (by decide)) (word_lit _ (by decide) (by decide)) w
  rw [show sameI (wv 0 1) (wv 0 0) = 127 by decide +kernel] at h
  exact h
theorem av_left (w : World) : Calls Try.prog 23 #[.agg #[.int .u64 0, .int .u64 1], .int .i64 64] w fun e w' => e = .returned (.agg #[.int .u64 1, .int .u64 0]) ∧ Below w.heap.size w w' := by
  have h := left_any 0 1 64 (word_lit _ (by decide) (by decide)) (word_lit _ (by decide) (by decide)) w
  rw [show hi (wv 0 1 * 2 ^ (64 : Int).toNat) = 1 by decide +kernel, show lo (wv 0 1 * 2 ^ (64 : Int).toNat) = 0 by decide +kernel] at h
  exact h

theorem below_step {w W w' : World} (h : Below w.heap.size w W) (hb : Below W.heap.size W w') : Below w.heap.size w w' := h.trans (hb.mono h.size)

set_option maxRecDepth 100000 in
set_option maxHeartbeats 1600000 in
theorem alive_any (w : World) : Calls Try.prog 17 #[] w fun e w' => e = .returned (.bool true) ∧ Below w.heap.size w w' := by
  go_enter Try.func17, Try.ntmps17
  go_wp2_with fail
  refine (of_any _ _).mono ?_; rintro e w1 ⟨rfl, hb1⟩
  go_wp2_with fail
  refine (av_add _).mono ?_; rintro e w2 ⟨rfl, hb2⟩
  replace hb2 := below_step hb1 hb2; clear hb1
  go_wp2_with fail
  refine (of_any _ _).mono ?_; rintro e w3 ⟨rfl, hb3⟩
  have c30 := cell_later (a := ⟨w2.heap.size, 0, none⟩) hb3 (v := .int .u64 0) (by simp [go_sem])
  have c31 := cell_later (a := ⟨w2.heap.size, 1, none⟩) hb3 (v := .int .u64 1) (by simp [go_sem])
  replace hb3 := below_step (hb2.alloc hb2.size _) hb3
  go_wp2_with fail
  refine (of_any _ _).mono ?_; rintro e w4 ⟨rfl, hb4⟩
  have c40 := cell_later hb4 c30
  have c41 := cell_later hb4 c31
  replace hb4 := below_step hb3 hb4
  clear hb2 hb3 c30 c31
  go_wp2_with fail
  refine (av_sub _).mono ?_; rintro e w5 ⟨rfl, hb5⟩
  have c50 := cell_later hb5 c40
  have c51 := cell_later hb5 c41
  replace hb5 := below_step hb4 hb5
  clear hb4 c40 c41
  go_wp2_with fail
  have c60 : (w5.alloc (.cells #[.int .u64 18446744073709551615, .int .u64 18446744073709551615] 24)).cell? ⟨w2.heap.size, 0, none⟩ = some (.int .u64 0) := cell_later ((Below.refl _ _).alloc (Nat.le_refl _) _) c50
  have c61 : (w5.alloc (.cells #[.int .u64 18446744073709551615, .int .u64 18446744073709551615] 24)).cell? ⟨w2.heap.size, 1, none⟩ = some (.int .u64 1) := cell_later ((Below.refl _ _).alloc (Nat.le_refl _) _) c51
  have c62 : (w5.alloc (.cells #[.int .u64 18446744073709551615, .int .u64 18446744073709551615] 24)).cell? ⟨w5.heap.size, 1, none⟩ = some (.int .u64 18446744073709551615) := by simp [go_sem]
  have hb6 := hb5.alloc hb5.size (.cells #[.int .u64 18446744073709551615, .int .u64 18446744073709551615] 24)
  clear c50 c51
  generalize (w5.alloc (.cells #[.int .u64 18446744073709551615, .int .u64 18446744073709551615] 24)) = w6 at *
  generalize w5.heap.size = n5 at *
  generalize w2.heap.size = n2 at *
  clear hb5
  go_region_held3 (fun w' => w'.cell? ⟨n2, 0, none⟩ = some (.int .u64 0) ∧ w'.cell? ⟨n2, 1, none⟩ = some (.int .u64 1) ∧ w'.cell? ⟨n5, 1, none⟩ = some (.int .u64 18446744073709551615) ∧ Below w.heap.size w w') (first | (simp [go_sem, World.cell?_alloc_past, *]; done) | (go_split_ands; (repeat' apply And.intro) <;> (first | assumption | exact cell_later hb (by assumption) | exact below_step (by assumption) hb | exact Below.drew (by assumption) | ((repeat (with_reducible refine (World.cell?_setCell_far _ _ _ _ ?h).trans ?_; case h => first | omega | (simp; done) | (simp; omega))); first | assumption | exact cell_later hb (by assumption) | (simp [go_sem, World.cell?_alloc_past]; done)))))
    (first
      | (go_at_call 20; refine (of_any _ _).mono ?_; rintro e w' ⟨rfl, hb⟩)
      | (go_at_call 21; refine (av_mul _).mono ?_; rintro e w' ⟨rfl, hb⟩)
      | (go_at_call 18; refine (av_cmp _).mono ?_; rintro e w' ⟨rfl, hb⟩)
      | (go_at_call 30; refine (av_mask _).mono ?_; rintro e w' ⟨rfl, hb⟩)
      | (go_at_call 33; refine (av_bit _).mono ?_; rintro e w' ⟨rfl, hb⟩)
      | (go_at_call 35; refine (av_same _).mono ?_; rintro e w' ⟨rfl, hb⟩)
      | (go_at_call 23; refine (av_left _).mono ?_; rintro e w' ⟨rfl, hb⟩))
  go_wp2
  go_ret
  go_split_ands
  exact ⟨rfl, by assumption⟩
end Go.Proofs.Ytgioompelogopaa
