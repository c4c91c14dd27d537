/- Cut of package dim. No conditions beyond ranges. -/
import Derived.Test.YtekoicbjpoeijaaD3
namespace Go.Proofs.Ytekoicbjpoeijaa
set_option linter.unusedVariables false
set_option linter.unusedSimpArgs false
open Go.RowKit
set_option maxRecDepth 100000 in
set_option maxHeartbeats 8000000 in
theorem dcut_t (d : Dm) (l : Int) (k : Ke) (ok : k.ok) (w : World) : Calls Try.prog 49 #[dv d, .int .i64 l, kv k] w fun e w' => e = .returned (kv (cutD d l k)) ∧ Below w.heap.size w w' := by
  have HL := dlen_t d l
  have hn := lenD_range d l
  have HC := kcut_t k ok (lenD d l) (by omega)
  have hd : cutD d l k = if lenD d l = -1 ∨ ¬ k.kind = d.kind then kz else cutK k (lenD d l) := rfl
  clear ok
  generalize cutK k (lenD d l) = t at *
  generalize cutD d l k = r at *
  generalize lenD d l = n at *
  obtain ⟨dk, sd, st⟩ := d
  dsimp only at *
  unfold dv at *
  dsimp only at *
  obtain ⟨R0, R1, R2, hb0⟩ := three_rows w #[.int .i64 dk, .int .i64 sd, .int .i64 st] #[.int .i64 k.kind, .int .i64 k.len, .int .u64 k.h, .int .u64 k.l, .string ⟨k.path.toArray⟩] #[.int .i64 0, .int .i64 0, .int .u64 0, .int .u64 0, .string ⟨#[]⟩] 53 24 24
  have c0 := (R0.cell 0).trans (show _ = some (Value.int .i64 dk) from rfl)
  have c1 := (R0.cell 1).trans (show _ = some (Value.int .i64 sd) from rfl)
  have c2 := (R0.cell 2).trans (show _ = some (Value.int .i64 st) from rfl)
  clear R0
  by_cases h1 : n = -1
  · subst h1
    rw [if_pos (.inl rfl)] at hd
    subst hd
    clear HC R1
    unfold kv kz
    dsimp only
    go_enter Try.func49, Try.ntmps49
    go_wp2_with fail
    refine (HL _).mono ?_
    rintro e w1 ⟨rfl, hb⟩
    replace R2 := R2.later hb
    replace hb0 := below_step hb0 hb
    clear hb c0 c1 c2
    have z0 := ((R2).cell 0).trans (show _ = some (Value.int .i64 0) from rfl)
    have zf0 := (R2).frozen 0
    have z1 := ((R2).cell 1).trans (show _ = some (Value.int .i64 0) from rfl)
    have zf1 := (R2).frozen 1
    have z2 := ((R2).cell 2).trans (show _ = some (Value.int .u64 0) from rfl)
    have zf2 := (R2).frozen 2
    have z3 := ((R2).cell 3).trans (show _ = some (Value.int .u64 0) from rfl)
    have zf3 := (R2).frozen 3
    have z4 := ((R2).cell 4).trans (show _ = some (Value.string ⟨#[]⟩) from rfl)
    have zf4 := (R2).frozen 4
    clear R2
    go_wp2
    refine bodyPost_ret (v := .agg #[.int .i64 0, .int .i64 0, .int .u64 0, .int .u64 0, .string ⟨#[]⟩]) (by simp [results, Try.results49, go_sem, z0, z1, z2, z3, z4]) rfl ⟨rfl, bset5 hb0 (by omega) _ _ _ _ _⟩
  have h1' : (n == -1) = false := by simpa using h1
  by_cases h2 : k.kind = dk
  · rw [if_neg (by simp [h1, h2])] at hd
    subst hd
    obtain ⟨kk, kn, kh, kl, kp⟩ := k
    dsimp only at *
    subst h2
    obtain ⟨t0, t1, t2, t3, t4⟩ := r
    unfold kv at *
    dsimp only at *
    go_enter Try.func49, Try.ntmps49
    go_wp2_with fail
    refine (HL _).mono ?_
    rintro e w1 ⟨rfl, hb⟩
    replace c0 := cell_later hb c0
    replace R1 := R1.later hb
    replace R2 := R2.later hb
    replace hb0 := below_step hb0 hb
    clear hb c1 c2 HL
    have d0 := ((R1).cell 0).trans (show _ = some (Value.int .i64 kk) from rfl)
    have df0 := (R1).frozen 0
    have d1 := ((R1).cell 1).trans (show _ = some (Value.int .i64 kn) from rfl)
    have df1 := (R1).frozen 1
    have d2 := ((R1).cell 2).trans (show _ = some (Value.int .u64 kh) from rfl)
    have df2 := (R1).frozen 2
    have d3 := ((R1).cell 3).trans (show _ = some (Value.int .u64 kl) from rfl)
    have df3 := (R1).frozen 3
    have d4 := ((R1).cell 4).trans (show _ = some (Value.string ⟨kp.toArray⟩) from rfl)
    have df4 := (R1).frozen 4
    clear R1
    go_wp2_with fail
    refine (HC _).mono ?_
    rintro e w2 ⟨rfl, hb⟩
    replace R2 := R2.later hb
    replace hb0 := below_step hb0 hb
    clear hb c0 d0 d1 d2 d3 d4 df0 df1 df2 df3 df4 HC
    have z0 := ((R2).cell 0).trans (show _ = some (Value.int .i64 0) from rfl)
    have zf0 := (R2).frozen 0
    have z1 := ((R2).cell 1).trans (show _ = some (Value.int .i64 0) from rfl)
    have zf1 := (R2).frozen 1
    have z2 := ((R2).cell 2).trans (show _ = some (Value.int .u64 0) from rfl)
    have zf2 := (R2).frozen 2
    have z3 := ((R2).cell 3).trans (show _ = some (Value.int .u64 0) from rfl)
    have zf3 := (R2).frozen 3
    have z4 := ((R2).cell 4).trans (show _ = some (Value.string ⟨#[]⟩) from rfl)
    have zf4 := (R2).frozen 4
    clear R2
    go_wp2
    refine bodyPost_ret (v := .agg #[.int .i64 t0, .int .i64 t1, .int .u64 t2, .int .u64 t3, .string ⟨t4.toArray⟩]) (by simp [results, Try.results49, go_sem, z0, z1, z2, z3, z4]) rfl ⟨rfl, bset5 hb0 (by omega) _ _ _ _ _⟩
  · rw [if_pos (.inr h2)] at hd
    subst hd
    have h2' : (k.kind == dk) = false := by simpa using h2
    clear HC
    unfold kv kz
    dsimp only
    go_enter Try.func49, Try.ntmps49
    go_wp2_with fail
    refine (HL _).mono ?_
    rintro e w1 ⟨rfl, hb⟩
    replace c0 := cell_later hb c0
    have d0 := ((R1.later hb).cell 0).trans (show _ = some (Value.int .i64 k.kind) from rfl)
    replace R2 := R2.later hb
    replace hb0 := below_step hb0 hb
    clear hb c1 c2 R1 HL
    have z0 := ((R2).cell 0).trans (show _ = some (Value.int .i64 0) from rfl)
    have zf0 := (R2).frozen 0
    have z1 := ((R2).cell 1).trans (show _ = some (Value.int .i64 0) from rfl)
    have zf1 := (R2).frozen 1
    have z2 := ((R2).cell 2).trans (show _ = some (Value.int .u64 0) from rfl)
    have zf2 := (R2).frozen 2
    have z3 := ((R2).cell 3).trans (show _ = some (Value.int .u64 0) from rfl)
    have zf3 := (R2).frozen 3
    have z4 := ((R2).cell 4).trans (show _ = some (Value.string ⟨#[]⟩) from rfl)
    have zf4 := (R2).frozen 4
    clear R2
    go_wp2
    refine bodyPost_ret (v := .agg #[.int .i64 0, .int .i64 0, .int .u64 0, .int .u64 0, .string ⟨#[]⟩]) (by simp [results, Try.results49, go_sem, z0, z1, z2, z3, z4]) rfl ⟨rfl, bset5 hb0 (by omega) _ _ _ _ _⟩
end Go.Proofs.Ytekoicbjpoeijaa
