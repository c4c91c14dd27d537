/- Right, Depth, Len, Level of the reference of layer 8. No conditions beyond ranges. -/
import Derived.Test.YtekoicbjpoeijaaD10
namespace Go.Proofs.Ytekoicbjpoeijaa
set_option linter.unusedVariables false
set_option linter.unusedSimpArgs false
open Go.RowKit
theorem rlens_t (d : Dm) (w : World) : Calls Try.prog 67 #[dv d] w fun e w' => ∃ v, e = .returned v ∧ IS w' v (lensL d) ∧ Below w.heap.size w w' := by
  cases h : rightD d with
  | false => exact rlens_bad d h w
  | true => exact rlens_ok d h w
theorem lensL_len (d : Dm) : (lensL d).length = cntD d := lensT_len d _
theorem cnt_pos (d : Dm) : decide (0 < cntD d) = rightD d := by
  cases h : rightD d with
  | false => rw [cntD_bad h]; rfl
  | true => have := cntD_ok h; have := (depth_range h).1; exact decide_eq_true (by omega)
theorem cnt_le (d : Dm) : cntD d ≤ 129 := by
  cases h : rightD d with
  | false => rw [cntD_bad h]; omega
  | true => have := cntD_ok h; have := (depth_range h).2.1; omega
theorem depth_cnt (d : Dm) : depthD d = if cntD d = 0 then 0 else (cntD d : Int) - 1 := by
  cases h : rightD d with
  | false => rw [cntD_bad h]; unfold depthD; rw [h]; rfl
  | true => have := cntD_ok h; have := (depth_range h).1; rw [if_neg (by omega)]; omega
set_option maxRecDepth 100000 in
set_option maxHeartbeats 2000000 in
theorem r8right_t (d : Dm) (w : World) : Calls Try.prog 40 #[dv d] w fun e w' => e = .returned (.bool (rightD d)) ∧ Below w.heap.size w w' := by
  have HL := rlens_t d
  have hc := cnt_pos d
  rw [← hc]
  clear hc
  have hl := lensL_len d
  generalize lensL d = ls at *
  generalize cntD d = N at *
  unfold dv at *
  obtain ⟨RR0, hb0⟩ := one_row w #[.int .i64 d.kind, .int .i64 d.side, .int .i64 d.step] 53
  have c0 := (RR0.cell 0).trans (show _ = some (Value.int .i64 d.kind) from rfl)
  have c1 := (RR0.cell 1).trans (show _ = some (Value.int .i64 d.side) from rfl)
  have c2 := (RR0.cell 2).trans (show _ = some (Value.int .i64 d.step) from rfl)
  clear RR0
  go_enter Try.func40, Try.ntmps40
  go_wp2_with fail
  refine (HL _).mono ?_
  rintro e w1 ⟨v, rfl, ⟨p, cc, rfl, _, _⟩, hb⟩
  rw [hl]
  replace hb0 := below_step hb0 hb
  clear hb c0 c1 c2 HL hl
  go_wp2
  go_ret
  exact ⟨rfl, hb0⟩
set_option maxRecDepth 100000 in
set_option maxHeartbeats 2000000 in
theorem r8depth_t (d : Dm) (w : World) : Calls Try.prog 42 #[dv d] w fun e w' => e = .returned (.int .i64 (depthD d)) ∧ Below w.heap.size w w' := by
  have HL := rlens_t d
  have hc := depth_cnt d
  have h9 := cnt_le d
  rw [hc]
  clear hc
  have hl := lensL_len d
  generalize lensL d = ls at *
  generalize cntD d = N at *
  unfold dv at *
  obtain ⟨RR0, hb0⟩ := one_row w #[.int .i64 d.kind, .int .i64 d.side, .int .i64 d.step] 53
  have c0 := (RR0.cell 0).trans (show _ = some (Value.int .i64 d.kind) from rfl)
  have c1 := (RR0.cell 1).trans (show _ = some (Value.int .i64 d.side) from rfl)
  have c2 := (RR0.cell 2).trans (show _ = some (Value.int .i64 d.step) from rfl)
  clear RR0
  by_cases h0 : N = 0
  · subst h0
    rw [if_pos rfl]
    go_enter Try.func42, Try.ntmps42
    go_wp2_with fail
    refine (HL _).mono ?_
    rintro e w1 ⟨v, rfl, ⟨p, cc, rfl, _, _⟩, hb⟩
    rw [hl]
    replace hb0 := below_step hb0 hb
    clear hb c0 c1 c2 HL hl
    go_wp2
    go_ret
    exact ⟨rfl, hb0⟩
  · rw [if_neg h0]
    have h0' : ((N : Int) == 0) = false := by simp; omega
    have h0'' : ¬ (N : Int) = 0 := by omega
    have h1 : (1 : Int) ≤ (N : Int) := by omega
    go_enter Try.func42, Try.ntmps42
    go_wp2_with fail
    refine (HL _).mono ?_
    rintro e w1 ⟨v, rfl, ⟨p, cc, rfl, _, _⟩, hb⟩
    rw [hl]
    replace hb0 := below_step hb0 hb
    clear hb c0 c1 c2 HL hl h0
    go_wp2
    go_ret
    exact ⟨rfl, hb0⟩
theorem lenD_cnt (d : Dm) (l : Int) : (l < 0 ∨ (cntD d : Int) ≤ l) → lenD d l = -1 := fun h => lenD_no (by
  rintro ⟨r, h0, h1⟩
  have := cntD_ok r
  omega)
set_option maxRecDepth 100000 in
set_option maxHeartbeats 2000000 in
theorem r8len_t (d : Dm) (l : Int) (w : World) : Calls Try.prog 44 #[dv d, .int .i64 l] w fun e w' => e = .returned (.int .i64 (lenD d l)) ∧ Below w.heap.size w w' := by
  have HL := rlens_t d
  have hc := lenD_cnt d l
  have hl := lensL_len d
  have hg : ∀ j : Nat, l = (j : Int) → j < cntD d → (lensL d)[j]? = some (lenD d l) := fun j e h => by rw [e]; exact lensT_get h
  generalize lenD d l = r at *
  generalize lensL d = ls at *
  generalize cntD d = N at *
  unfold dv at *
  obtain ⟨RR0, hb0⟩ := one_row w #[.int .i64 d.kind, .int .i64 d.side, .int .i64 d.step] 53
  have c0 := (RR0.cell 0).trans (show _ = some (Value.int .i64 d.kind) from rfl)
  have c1 := (RR0.cell 1).trans (show _ = some (Value.int .i64 d.side) from rfl)
  have c2 := (RR0.cell 2).trans (show _ = some (Value.int .i64 d.step) from rfl)
  clear RR0
  by_cases h0 : l < 0
  · obtain rfl := hc (.inl h0)
    clear hc hg
    go_enter Try.func44, Try.ntmps44
    go_wp2_with fail
    refine (HL _).mono ?_
    rintro e w1 ⟨v, rfl, ⟨p, cc, rfl, _, _⟩, hb⟩
    rw [hl]
    replace hb0 := below_step hb0 hb
    clear hb c0 c1 c2 HL hl
    go_wp2
    go_ret
    exact ⟨rfl, hb0⟩
  · obtain ⟨j, rfl⟩ := Int.eq_ofNat_of_zero_le (show 0 ≤ l by omega)
    clear h0
    by_cases h1 : N ≤ j
    · obtain rfl := hc (.inr (by omega))
      clear hc hg
      go_enter Try.func44, Try.ntmps44
      go_wp2_with fail
      refine (HL _).mono ?_
      rintro e w1 ⟨v, rfl, ⟨p, cc, rfl, _, _⟩, hb⟩
      rw [hl]
      replace hb0 := below_step hb0 hb
      clear hb c0 c1 c2 HL hl
      go_wp2
      go_ret
      exact ⟨rfl, hb0⟩
    · have hj := hg j rfl (by omega)
      clear hc hg
      go_enter Try.func44, Try.ntmps44
      go_wp2_with fail
      refine (HL _).mono ?_
      rintro e w1 ⟨v, rfl, ⟨p, cc, rfl, h3, h4⟩, hb⟩
      rw [hl] at h3 h4 ⊢
      obtain ⟨g, o, rfl, _, hC⟩ := h4 (by omega)
      have cA := hC j r hj
      have h1' : j < N := by omega
      replace hb0 := below_step hb0 hb
      clear hb c0 c1 c2 HL hl h1 hC h4 hj
      go_wp2
      go_ret
      exact ⟨rfl, hb0⟩
set_option maxRecDepth 100000 in
set_option maxHeartbeats 2000000 in
theorem r8level_t (d : Dm) (n : Int) (w : World) : Calls Try.prog 46 #[dv d, .int .i64 n] w fun e w' => e = .returned (.int .i64 (levelD d n)) ∧ Below w.heap.size w w' := by
  have HL := rlens_t d
  have HA := Lib.hid (fun (k : Nat) (h : ∀ j : Nat, j < k → lenD d j ≠ n) (hk : k < cntD d) (hn : lenD d k = n) => levelD_at h hk hn)
  have HN := Lib.hid (fun (h : ∀ j : Nat, j < cntD d → lenD d j ≠ n) => levelD_no h)
  have hl := lensL_len d
  have hg0 : ∀ j : Nat, j < cntD d → (lensL d)[j]? = some (lenD d j) := fun j h => lensT_get h
  have hg := Lib.hid hg0
  clear hg0
  have h9 := cnt_le d
  generalize levelD d n = r at *
  generalize lensL d = ls at *
  generalize cntD d = N at *
  unfold dv at *
  obtain ⟨RR0, hb0⟩ := one_row w #[.int .i64 d.kind, .int .i64 d.side, .int .i64 d.step] 53
  have c0 := (RR0.cell 0).trans (show _ = some (Value.int .i64 d.kind) from rfl)
  have c1 := (RR0.cell 1).trans (show _ = some (Value.int .i64 d.side) from rfl)
  have c2 := (RR0.cell 2).trans (show _ = some (Value.int .i64 d.step) from rfl)
  clear RR0
  go_enter Try.func46, Try.ntmps46
  go_wp2_with fail
  refine (HL _).mono ?_
  rintro e w1 ⟨v, rfl, ⟨p, cc, rfl, h3, h4⟩, hb⟩
  rw [hl] at h3 h4 ⊢
  have H4 := Lib.hid h4
  replace hb0 := Lib.hid (below_step hb0 hb)
  clear hb c0 c1 c2 HL hl h4
  go_wp2_with fail
  go_loop [6] (fun i => ∃ j : Nat, j ≤ N ∧ i = .int .i64 (j : Nat) ∧ Hid (∀ t : Nat, t < j → lenD d t ≠ n)) (fun i => N - (intOf i).toNat)
  case atStart => exact ⟨0, Nat.zero_le _, rfl, Lib.hid (fun t h => by omega)⟩
  case round =>
    obtain ⟨j, hj, rfl, hz⟩ := hrel
    by_cases hlt : j < N
    · obtain ⟨g, o, rfl, _, hC⟩ := H4.out (by omega)
      have cA := hC j _ (hg.out j hlt)
      by_cases e : lenD d j = n
      · have HE := Lib.hid (HA.out j hz.out hlt e)
        rw [e] at cA
        clear hz HA HN hC e H4
        go_wp2
        go_ret
        exact ⟨ret_int HE.out.symm, hb0.out⟩
      · have HZ := Lib.hid (show ∀ t : Nat, t < j + 1 → lenD d t ≠ n from fun t ht => by
          by_cases q : t = j
          · subst q; exact e
          · exact hz.out t (by omega))
        have e' : (lenD d j == n) = false := by simpa using e
        clear hz HA HN hC H4
        generalize lenD d j = lj at *
        go_wp2
        go_round
        case rel => exact ⟨j + 1, by omega, by go_num, HZ⟩
        case measure => simp [intOf]; omega
    · have HE := Lib.hid (HN.out (fun t ht => hz.out t (by omega)))
      clear hz HA HN H4
      go_wp2
      go_ret
      exact ⟨ret_int HE.out.symm, hb0.out⟩
end Go.Proofs.Ytekoicbjpoeijaa
