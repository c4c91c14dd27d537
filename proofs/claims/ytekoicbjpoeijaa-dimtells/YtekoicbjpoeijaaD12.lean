/- On and Cut of the reference of layer 8. No conditions beyond ranges. -/
import Derived.Test.YtekoicbjpoeijaaD11
import Derived.Test.YtekoicbjpoeijaaKR9
namespace Go.Proofs.Ytekoicbjpoeijaa
set_option linter.unusedVariables false
set_option linter.unusedSimpArgs false
open Go.RowKit
set_option maxRecDepth 100000 in
set_option maxHeartbeats 8000000 in
theorem r8on_t (d : Dm) (l : Int) (k : Ke) (ok : k.ok) (w : World) : Calls Try.prog 48 #[dv d, .int .i64 l, kv k] w fun e w' => e = .returned (.bool (onD d l k)) ∧ Below w.heap.size w w' := by
  have HL := r8len_t d l
  have HR := rright_t k ok
  have hn := lenD_range d l
  have hd : onD d l k = (!decide (lenD d l = -1) && (decide (k.kind = d.kind) && (rightK k && (decide (k.len = lenD d l) || (decide (d.kind = 3) && decide (k.len < lenD d l)))))) := rfl
  clear ok
  generalize onD d l k = r at *
  generalize lenD d l = n at *
  generalize rightK k = rk at *
  obtain ⟨dk, sd, st⟩ := d
  dsimp only at *
  unfold dv kv at *
  dsimp only at *
  obtain ⟨RR0, RR1, hb0⟩ := two_rows w #[.int .i64 dk, .int .i64 sd, .int .i64 st] #[.int .i64 k.kind, .int .i64 k.len, .int .u64 k.h, .int .u64 k.l, .string ⟨k.path.toArray⟩] 53 24
  have c0 := (RR0.cell 0).trans (show _ = some (Value.int .i64 dk) from rfl)
  have c1 := (RR0.cell 1).trans (show _ = some (Value.int .i64 sd) from rfl)
  have c2 := (RR0.cell 2).trans (show _ = some (Value.int .i64 st) from rfl)
  have e0 := (RR1.cell 0).trans (show _ = some (Value.int .i64 k.kind) from rfl)
  have e1 := (RR1.cell 1).trans (show _ = some (Value.int .i64 k.len) from rfl)
  have e2 := (RR1.cell 2).trans (show _ = some (Value.int .u64 k.h) from rfl)
  have e3 := (RR1.cell 3).trans (show _ = some (Value.int .u64 k.l) from rfl)
  have e4 := (RR1.cell 4).trans (show _ = some (Value.string ⟨k.path.toArray⟩) from rfl)
  clear RR0 RR1
  by_cases h1 : n < 0
  · have e : r = false := by rw [hd]; simp; omega
    subst e
    clear hd HR
    go_enter Try.func48, Try.ntmps48
    go_wp2_with fail
    refine (HL _).mono ?_
    rintro e w1 ⟨rfl, hb⟩
    replace c0 := cell_later hb c0
    replace c1 := cell_later hb c1
    replace c2 := cell_later hb c2
    replace e0 := cell_later hb e0
    replace e1 := cell_later hb e1
    replace e2 := cell_later hb e2
    replace e3 := cell_later hb e3
    replace e4 := cell_later hb e4
    replace hb0 := below_step hb0 hb
    clear hb
    have lc := World.block_lt_of_cell? _ _ c0
    dsimp only at lc
    have le := World.block_lt_of_cell? _ _ e0
    dsimp only at le
    go_wp2
    go_ret
    exact ⟨rfl, hb0⟩
  have h1' : ¬ n = -1 := by omega
  have h1b : decide (n < 0) = false := decide_eq_false h1
  cases rk with
  | false =>
    have e : r = false := by rw [hd]; simp
    subst e
    clear hd
    go_enter Try.func48, Try.ntmps48
    go_wp2_with fail
    refine (HL _).mono ?_
    rintro e w2 ⟨rfl, hb⟩
    replace c0 := cell_later hb c0
    replace c1 := cell_later hb c1
    replace c2 := cell_later hb c2
    replace e0 := cell_later hb e0
    replace e1 := cell_later hb e1
    replace e2 := cell_later hb e2
    replace e3 := cell_later hb e3
    replace e4 := cell_later hb e4
    replace hb0 := below_step hb0 hb
    clear hb
    have lc := World.block_lt_of_cell? _ _ c0
    dsimp only at lc
    have le := World.block_lt_of_cell? _ _ e0
    dsimp only at le
    go_wp2_with fail
    refine (HR _).mono ?_
    rintro e w3 ⟨rfl, hb⟩
    replace c0 := cell_later hb c0
    replace c1 := cell_later hb c1
    replace c2 := cell_later hb c2
    replace e0 := cell_later hb e0
    replace e1 := cell_later hb e1
    replace e2 := cell_later hb e2
    replace e3 := cell_later hb e3
    replace e4 := cell_later hb e4
    replace hb0 := below_step hb0 hb
    clear hb
    have lc := World.block_lt_of_cell? _ _ c0
    dsimp only at lc
    have le := World.block_lt_of_cell? _ _ e0
    dsimp only at le
    go_wp2
    go_ret
    exact ⟨rfl, hb0⟩
  | true =>
    by_cases h2 : k.kind = dk
    · subst h2
      have hd2 : r = (decide (k.len = n) || (decide (k.kind = 3) && decide (k.len < n))) := by rw [hd]; simp [h1']
      clear hd
      by_cases h4 : k.kind = 3
      · obtain ⟨kk, kn, kh, kl, kp⟩ := k
        dsimp only at *
        subst h4
        have e : r = decide (kn ≤ n) := by
          rw [hd2, Bool.eq_iff_iff]
          simp only [Bool.or_eq_true, Bool.and_eq_true, decide_eq_true_eq, true_and]
          constructor
          · rintro (h | h) <;> omega
          · intro h; omega
        subst e
        clear hd2
        go_enter Try.func48, Try.ntmps48
        go_wp2_with fail
        refine (HL _).mono ?_
        rintro e w4 ⟨rfl, hb⟩
        replace c0 := cell_later hb c0
        replace c1 := cell_later hb c1
        replace c2 := cell_later hb c2
        replace e0 := cell_later hb e0
        replace e1 := cell_later hb e1
        replace e2 := cell_later hb e2
        replace e3 := cell_later hb e3
        replace e4 := cell_later hb e4
        replace hb0 := below_step hb0 hb
        clear hb
        have lc := World.block_lt_of_cell? _ _ c0
        dsimp only at lc
        have le := World.block_lt_of_cell? _ _ e0
        dsimp only at le
        go_wp2_with fail
        refine (HR _).mono ?_
        rintro e w5 ⟨rfl, hb⟩
        replace c0 := cell_later hb c0
        replace c1 := cell_later hb c1
        replace c2 := cell_later hb c2
        replace e0 := cell_later hb e0
        replace e1 := cell_later hb e1
        replace e2 := cell_later hb e2
        replace e3 := cell_later hb e3
        replace e4 := cell_later hb e4
        replace hb0 := below_step hb0 hb
        clear hb
        have lc := World.block_lt_of_cell? _ _ c0
        dsimp only at lc
        have le := World.block_lt_of_cell? _ _ e0
        dsimp only at le
        go_wp2
        go_ret
        exact ⟨rfl, hb0⟩
      · have h4' : (k.kind == 3) = false := by simpa using h4
        have e : r = (k.len == n) := by
          rw [hd2, Bool.eq_iff_iff]
          simp [h4]
        subst e
        clear hd2
        go_enter Try.func48, Try.ntmps48
        go_wp2_with fail
        refine (HL _).mono ?_
        rintro e w6 ⟨rfl, hb⟩
        replace c0 := cell_later hb c0
        replace c1 := cell_later hb c1
        replace c2 := cell_later hb c2
        replace e0 := cell_later hb e0
        replace e1 := cell_later hb e1
        replace e2 := cell_later hb e2
        replace e3 := cell_later hb e3
        replace e4 := cell_later hb e4
        replace hb0 := below_step hb0 hb
        clear hb
        have lc := World.block_lt_of_cell? _ _ c0
        dsimp only at lc
        have le := World.block_lt_of_cell? _ _ e0
        dsimp only at le
        go_wp2_with fail
        refine (HR _).mono ?_
        rintro e w7 ⟨rfl, hb⟩
        replace c0 := cell_later hb c0
        replace c1 := cell_later hb c1
        replace c2 := cell_later hb c2
        replace e0 := cell_later hb e0
        replace e1 := cell_later hb e1
        replace e2 := cell_later hb e2
        replace e3 := cell_later hb e3
        replace e4 := cell_later hb e4
        replace hb0 := below_step hb0 hb
        clear hb
        have lc := World.block_lt_of_cell? _ _ c0
        dsimp only at lc
        have le := World.block_lt_of_cell? _ _ e0
        dsimp only at le
        go_wp2
        go_ret
        exact ⟨by simp, hb0⟩
    · have h2' : (k.kind == dk) = false := by simpa using h2
      have e : r = false := by rw [hd]; simp [h2]
      subst e
      clear hd
      go_enter Try.func48, Try.ntmps48
      go_wp2_with fail
      refine (HL _).mono ?_
      rintro e w8 ⟨rfl, hb⟩
      replace c0 := cell_later hb c0
      replace c1 := cell_later hb c1
      replace c2 := cell_later hb c2
      replace e0 := cell_later hb e0
      replace e1 := cell_later hb e1
      replace e2 := cell_later hb e2
      replace e3 := cell_later hb e3
      replace e4 := cell_later hb e4
      replace hb0 := below_step hb0 hb
      clear hb
      have lc := World.block_lt_of_cell? _ _ c0
      dsimp only at lc
      have le := World.block_lt_of_cell? _ _ e0
      dsimp only at le
      go_wp2_with fail
      refine (HR _).mono ?_
      rintro e w9 ⟨rfl, hb⟩
      replace c0 := cell_later hb c0
      replace c1 := cell_later hb c1
      replace c2 := cell_later hb c2
      replace e0 := cell_later hb e0
      replace e1 := cell_later hb e1
      replace e2 := cell_later hb e2
      replace e3 := cell_later hb e3
      replace e4 := cell_later hb e4
      replace hb0 := below_step hb0 hb
      clear hb
      have lc := World.block_lt_of_cell? _ _ c0
      dsimp only at lc
      have le := World.block_lt_of_cell? _ _ e0
      dsimp only at le
      go_wp2
      go_ret
      exact ⟨rfl, hb0⟩
set_option maxRecDepth 100000 in
set_option maxHeartbeats 8000000 in
theorem r8cut_t (d : Dm) (l : Int) (k : Ke) (ok : k.ok) (w : World) : Calls Try.prog 50 #[dv d, .int .i64 l, kv k] w fun e w' => e = .returned (kv (cutD d l k)) ∧ Below w.heap.size w w' := by
  have HL := r8len_t d l
  have HR := rright_t k ok
  have hn := lenD_range d l
  have HC := rcut_t k ok (lenD d l)
  have hcase : (lenD d l < 0 ∨ rightK k = false ∨ ¬ k.kind = d.kind) → cutD d l k = kz := fun h => by
    unfold cutD
    by_cases a : lenD d l = -1 ∨ ¬ k.kind = d.kind
    · rw [if_pos a]
    · rw [if_neg a]
      rcases h with h | h | h
      · exact absurd (.inl (by omega)) a
      · exact cut_bad h _
      · exact absurd (.inr h) a
  have hgo : ¬ lenD d l < 0 → k.kind = d.kind → cutD d l k = cutK k (lenD d l) := fun h1 h2 => by
    unfold cutD; rw [if_neg (by rintro (a | a); omega; exact a h2)]
  clear ok
  generalize cutK k (lenD d l) = t at *
  generalize cutD d l k = r at *
  generalize lenD d l = n at *
  generalize rightK k = rk at *
  obtain ⟨dk, sd, st⟩ := d
  dsimp only at *
  unfold dv at *
  dsimp only at *
  obtain ⟨R0, R1, R2, hb0⟩ := three_rows w #[.int .i64 dk, .int .i64 sd, .int .i64 st] #[.int .i64 k.kind, .int .i64 k.len, .int .u64 k.h, .int .u64 k.l, .string ⟨k.path.toArray⟩] #[.int .i64 0, .int .i64 0, .int .u64 0, .int .u64 0, .string ⟨#[]⟩] 53 24 24
  by_cases h1 : n < 0
  · obtain rfl := hcase (.inl h1)
    clear HC HR hcase hgo R0 R1
    unfold kv kz
    dsimp only
    go_enter Try.func50, Try.ntmps50
    go_wp2_with fail
    refine (HL _).mono ?_
    rintro e w1 ⟨rfl, hb⟩
    replace R2 := R2.later hb
    replace hb0 := below_step hb0 hb
    clear hb
    have z0 := ((R2).cell 0).trans (show _ = some (Value.int .i64 0) from rfl)
    have zf0 := (R2).frozen 0
    have z1 := ((R2).cell 1).trans (show _ = some (Value.int .i64 0) from rfl)
    have zf1 := (R2).frozen 1
    have z2 := ((R2).cell 2).trans (show _ = some (Value.int .u64 0) from rfl)
    have zf2 := (R2).frozen 2
    have z3 := ((R2).cell 3).trans (show _ = some (Value.int .u64 0) from rfl)
    have zf3 := (R2).frozen 3
    have z4 := ((R2).cell 4).trans (show _ = some (Value.string ⟨#[]⟩) from rfl)
    have zf4 := (R2).frozen 4
    clear R2
    go_wp2
    refine bodyPost_ret (v := .agg #[.int .i64 0, .int .i64 0, .int .u64 0, .int .u64 0, .string ⟨#[]⟩]) (by simp [results, Try.results50, go_sem, z0, z1, z2, z3, z4]) rfl ⟨rfl, bset5 hb0 (by omega) _ _ _ _ _⟩
  have h1b : decide (n < 0) = false := decide_eq_false h1
  cases rk with
  | false =>
    obtain rfl := hcase (.inr (.inl rfl))
    clear HC hcase hgo R0
    unfold kv kz at *
    dsimp only
    go_enter Try.func50, Try.ntmps50
    go_wp2_with fail
    refine (HL _).mono ?_
    rintro e w1 ⟨rfl, hb⟩
    replace R1 := R1.later hb
    replace R2 := R2.later hb
    replace hb0 := below_step hb0 hb
    clear hb
    have d0 := ((R1).cell 0).trans (show _ = some (Value.int .i64 k.kind) from rfl)
    have df0 := (R1).frozen 0
    have d1 := ((R1).cell 1).trans (show _ = some (Value.int .i64 k.len) from rfl)
    have df1 := (R1).frozen 1
    have d2 := ((R1).cell 2).trans (show _ = some (Value.int .u64 k.h) from rfl)
    have df2 := (R1).frozen 2
    have d3 := ((R1).cell 3).trans (show _ = some (Value.int .u64 k.l) from rfl)
    have df3 := (R1).frozen 3
    have d4 := ((R1).cell 4).trans (show _ = some (Value.string ⟨k.path.toArray⟩) from rfl)
    have df4 := (R1).frozen 4
    clear R1
    go_wp2_with fail
    refine (HR _).mono ?_
    rintro e w2 ⟨rfl, hb⟩
    replace R2 := R2.later hb
    replace hb0 := below_step hb0 hb
    clear hb d0 d1 d2 d3 d4 df0 df1 df2 df3 df4
    have z0 := ((R2).cell 0).trans (show _ = some (Value.int .i64 0) from rfl)
    have zf0 := (R2).frozen 0
    have z1 := ((R2).cell 1).trans (show _ = some (Value.int .i64 0) from rfl)
    have zf1 := (R2).frozen 1
    have z2 := ((R2).cell 2).trans (show _ = some (Value.int .u64 0) from rfl)
    have zf2 := (R2).frozen 2
    have z3 := ((R2).cell 3).trans (show _ = some (Value.int .u64 0) from rfl)
    have zf3 := (R2).frozen 3
    have z4 := ((R2).cell 4).trans (show _ = some (Value.string ⟨#[]⟩) from rfl)
    have zf4 := (R2).frozen 4
    clear R2
    go_wp2
    refine bodyPost_ret (v := .agg #[.int .i64 0, .int .i64 0, .int .u64 0, .int .u64 0, .string ⟨#[]⟩]) (by simp [results, Try.results50, go_sem, z0, z1, z2, z3, z4]) rfl ⟨rfl, bset5 hb0 (by omega) _ _ _ _ _⟩
  | true =>
    by_cases h2 : k.kind = dk
    · obtain rfl := hgo h1 h2
      clear hcase hgo
      obtain ⟨kk, kn, kh, kl, kp⟩ := k
      dsimp only at *
      subst h2
      obtain ⟨t0, t1, t2, t3, t4⟩ := r
      unfold kv at *
      dsimp only at *
      go_enter Try.func50, Try.ntmps50
      go_wp2_with fail
      refine (HL _).mono ?_
      rintro e w1 ⟨rfl, hb⟩
      replace R0 := R0.later hb
      replace R1 := R1.later hb
      replace R2 := R2.later hb
      replace hb0 := below_step hb0 hb
      clear hb HL
      have d0 := ((R1).cell 0).trans (show _ = some (Value.int .i64 kk) from rfl)
      have df0 := (R1).frozen 0
      have d1 := ((R1).cell 1).trans (show _ = some (Value.int .i64 kn) from rfl)
      have df1 := (R1).frozen 1
      have d2 := ((R1).cell 2).trans (show _ = some (Value.int .u64 kh) from rfl)
      have df2 := (R1).frozen 2
      have d3 := ((R1).cell 3).trans (show _ = some (Value.int .u64 kl) from rfl)
      have df3 := (R1).frozen 3
      have d4 := ((R1).cell 4).trans (show _ = some (Value.string ⟨kp.toArray⟩) from rfl)
      have df4 := (R1).frozen 4
      go_wp2_with fail
      refine (HR _).mono ?_
      rintro e w2 ⟨rfl, hb⟩
      have a0 := ((R0.later hb).cell 0).trans (show _ = some (Value.int .i64 kk) from rfl)
      replace R1 := R1.later hb
      replace R2 := R2.later hb
      replace hb0 := below_step hb0 hb
      clear hb HR d0 d1 d2 d3 d4 df0 df1 df2 df3 df4 R0
      have d0 := ((R1).cell 0).trans (show _ = some (Value.int .i64 kk) from rfl)
      have df0 := (R1).frozen 0
      have d1 := ((R1).cell 1).trans (show _ = some (Value.int .i64 kn) from rfl)
      have df1 := (R1).frozen 1
      have d2 := ((R1).cell 2).trans (show _ = some (Value.int .u64 kh) from rfl)
      have df2 := (R1).frozen 2
      have d3 := ((R1).cell 3).trans (show _ = some (Value.int .u64 kl) from rfl)
      have df3 := (R1).frozen 3
      have d4 := ((R1).cell 4).trans (show _ = some (Value.string ⟨kp.toArray⟩) from rfl)
      have df4 := (R1).frozen 4
      clear R1
      go_wp2_with fail
      refine (HC _).mono ?_
      rintro e w3 ⟨rfl, hb⟩
      replace R2 := R2.later hb
      replace hb0 := below_step hb0 hb
      clear hb HC a0 d0 d1 d2 d3 d4 df0 df1 df2 df3 df4
      have z0 := ((R2).cell 0).trans (show _ = some (Value.int .i64 0) from rfl)
      have zf0 := (R2).frozen 0
      have z1 := ((R2).cell 1).trans (show _ = some (Value.int .i64 0) from rfl)
      have zf1 := (R2).frozen 1
      have z2 := ((R2).cell 2).trans (show _ = some (Value.int .u64 0) from rfl)
      have zf2 := (R2).frozen 2
      have z3 := ((R2).cell 3).trans (show _ = some (Value.int .u64 0) from rfl)
      have zf3 := (R2).frozen 3
      have z4 := ((R2).cell 4).trans (show _ = some (Value.string ⟨#[]⟩) from rfl)
      have zf4 := (R2).frozen 4
      clear R2
      go_wp2
      refine bodyPost_ret (v := .agg #[.int .i64 t0, .int .i64 t1, .int .u64 t2, .int .u64 t3, .string ⟨t4.toArray⟩]) (by simp [results, Try.results50, go_sem, z0, z1, z2, z3, z4]) rfl ⟨rfl, bset5 hb0 (by omega) _ _ _ _ _⟩
    · obtain rfl := hcase (.inr (.inr h2))
      have h2' : (k.kind == dk) = false := by simpa using h2
      clear HC hcase hgo
      unfold kv kz at *
      dsimp only
      go_enter Try.func50, Try.ntmps50
      go_wp2_with fail
      refine (HL _).mono ?_
      rintro e w1 ⟨rfl, hb⟩
      replace R0 := R0.later hb
      replace R1 := R1.later hb
      replace R2 := R2.later hb
      replace hb0 := below_step hb0 hb
      clear hb HL
      have d0 := ((R1).cell 0).trans (show _ = some (Value.int .i64 k.kind) from rfl)
      have df0 := (R1).frozen 0
      have d1 := ((R1).cell 1).trans (show _ = some (Value.int .i64 k.len) from rfl)
      have df1 := (R1).frozen 1
      have d2 := ((R1).cell 2).trans (show _ = some (Value.int .u64 k.h) from rfl)
      have df2 := (R1).frozen 2
      have d3 := ((R1).cell 3).trans (show _ = some (Value.int .u64 k.l) from rfl)
      have df3 := (R1).frozen 3
      have d4 := ((R1).cell 4).trans (show _ = some (Value.string ⟨k.path.toArray⟩) from rfl)
      have df4 := (R1).frozen 4
      go_wp2_with fail
      refine (HR _).mono ?_
      rintro e w2 ⟨rfl, hb⟩
      have a0 := ((R0.later hb).cell 0).trans (show _ = some (Value.int .i64 dk) from rfl)
      have b0 := ((R1.later hb).cell 0).trans (show _ = some (Value.int .i64 k.kind) from rfl)
      replace R2 := R2.later hb
      replace hb0 := below_step hb0 hb
      clear hb HR d0 d1 d2 d3 d4 df0 df1 df2 df3 df4 R0 R1
      have z0 := ((R2).cell 0).trans (show _ = some (Value.int .i64 0) from rfl)
      have zf0 := (R2).frozen 0
      have z1 := ((R2).cell 1).trans (show _ = some (Value.int .i64 0) from rfl)
      have zf1 := (R2).frozen 1
      have z2 := ((R2).cell 2).trans (show _ = some (Value.int .u64 0) from rfl)
      have zf2 := (R2).frozen 2
      have z3 := ((R2).cell 3).trans (show _ = some (Value.int .u64 0) from rfl)
      have zf3 := (R2).frozen 3
      have z4 := ((R2).cell 4).trans (show _ = some (Value.string ⟨#[]⟩) from rfl)
      have zf4 := (R2).frozen 4
      clear R2
      go_wp2
      refine bodyPost_ret (v := .agg #[.int .i64 0, .int .i64 0, .int .u64 0, .int .u64 0, .string ⟨#[]⟩]) (by simp [results, Try.results50, go_sem, z0, z1, z2, z3, z4]) rfl ⟨rfl, bset5 hb0 (by omega) _ _ _ _ _⟩
end Go.Proofs.Ytekoicbjpoeijaa
