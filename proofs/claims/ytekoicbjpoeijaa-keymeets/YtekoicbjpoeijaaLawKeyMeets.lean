/- The walk of KeyMeets: it returns true. No conditions beyond lengths. -/
import Derived.Test.YtekoicbjpoeijaaK10
import Derived.Test.YtekoicbjpoeijaaKP2
namespace Go.Proofs.Ytekoicbjpoeijaa
set_option linter.unusedVariables false
set_option linter.unusedSimpArgs false
open Go.RowKit
set_option maxRecDepth 100000 in
set_option maxHeartbeats 16000000 in
theorem keyMeets_t (a b x : Ke) (ha : a.ok) (hb' : b.ok) (hx : x.ok) (w : World) : Calls Try.prog 9 #[kv a, kv b, kv x] w fun e w' => e = .returned (.bool true) ∧ Below w.heap.size w w' := by
  have HM := kmeet_t a b ha hb'
  have HN := kmeet_t b a hb' ha
  rw [meetK_comm, meetB_comm] at HN
  have HA := kright_t a ha
  have HB := kright_t b hb'
  have q := eql_key
  have q1 := neq_key
  have q2 := eqK_self
  have hd : meetB a b = (decide (a.kind = b.kind) && (rightK a && rightK b)) := rfl
  have HXA := kover_t x a hx ha
  have HXB := kover_t x b hx hb'
  cases hm : meetB a b
  · rw [hm, meet_bad hm] at HM HN
    rw [hm] at hd
    clear hm ha hb' hx HXA HXB
    generalize rightK a = ra at *
    generalize rightK b = rb at *
    unfold kv kz at *
    dsimp only at HM HN
    obtain ⟨RR0, RR1, RR2, hb0⟩ := three_rows w #[.int .i64 a.kind, .int .i64 a.len, .int .u64 a.h, .int .u64 a.l, .string ⟨a.path.toArray⟩] #[.int .i64 b.kind, .int .i64 b.len, .int .u64 b.h, .int .u64 b.l, .string ⟨b.path.toArray⟩] #[.int .i64 x.kind, .int .i64 x.len, .int .u64 x.h, .int .u64 x.l, .string ⟨x.path.toArray⟩] 24 24 24
    have c0 := (RR0.cell 0).trans (show _ = some (Value.int .i64 a.kind) from rfl)
    have c1 := (RR0.cell 1).trans (show _ = some (Value.int .i64 a.len) from rfl)
    have c2 := (RR0.cell 2).trans (show _ = some (Value.int .u64 a.h) from rfl)
    have c3 := (RR0.cell 3).trans (show _ = some (Value.int .u64 a.l) from rfl)
    have c4 := (RR0.cell 4).trans (show _ = some (Value.string ⟨a.path.toArray⟩) from rfl)
    have d0 := (RR1.cell 0).trans (show _ = some (Value.int .i64 b.kind) from rfl)
    have d1 := (RR1.cell 1).trans (show _ = some (Value.int .i64 b.len) from rfl)
    have d2 := (RR1.cell 2).trans (show _ = some (Value.int .u64 b.h) from rfl)
    have d3 := (RR1.cell 3).trans (show _ = some (Value.int .u64 b.l) from rfl)
    have d4 := (RR1.cell 4).trans (show _ = some (Value.string ⟨b.path.toArray⟩) from rfl)
    have e0 := (RR2.cell 0).trans (show _ = some (Value.int .i64 x.kind) from rfl)
    have e1 := (RR2.cell 1).trans (show _ = some (Value.int .i64 x.len) from rfl)
    have e2 := (RR2.cell 2).trans (show _ = some (Value.int .u64 x.h) from rfl)
    have e3 := (RR2.cell 3).trans (show _ = some (Value.int .u64 x.l) from rfl)
    have e4 := (RR2.cell 4).trans (show _ = some (Value.string ⟨x.path.toArray⟩) from rfl)
    clear RR0 RR1 RR2
    cases ra
    case false =>
      clear hd
      go_enter Try.func9, Try.ntmps9
      go_wp2_with fail
      refine (HM _).mono ?_
      rintro e w1 ⟨rfl, hb⟩
      replace c0 := cell_later hb c0
      replace c1 := cell_later hb c1
      replace c2 := cell_later hb c2
      replace c3 := cell_later hb c3
      replace c4 := cell_later hb c4
      replace d0 := cell_later hb d0
      replace d1 := cell_later hb d1
      replace d2 := cell_later hb d2
      replace d3 := cell_later hb d3
      replace d4 := cell_later hb d4
      replace e0 := cell_later hb e0
      replace e1 := cell_later hb e1
      replace e2 := cell_later hb e2
      replace e3 := cell_later hb e3
      replace e4 := cell_later hb e4
      replace hb0 := below_step hb0 hb
      clear hb
      have lc := World.block_lt_of_cell? _ _ c0
      dsimp only at lc
      have ld := World.block_lt_of_cell? _ _ d0
      dsimp only at ld
      have le := World.block_lt_of_cell? _ _ e0
      dsimp only at le
      go_wp2_with fail
      refine (HN _).mono ?_
      rintro e w2 ⟨rfl, hb⟩
      replace c0 := cell_later hb (cell_later ((Below.refl _ _).alloc (Nat.le_refl _) _) c0)
      replace c1 := cell_later hb (cell_later ((Below.refl _ _).alloc (Nat.le_refl _) _) c1)
      replace c2 := cell_later hb (cell_later ((Below.refl _ _).alloc (Nat.le_refl _) _) c2)
      replace c3 := cell_later hb (cell_later ((Below.refl _ _).alloc (Nat.le_refl _) _) c3)
      replace c4 := cell_later hb (cell_later ((Below.refl _ _).alloc (Nat.le_refl _) _) c4)
      replace d0 := cell_later hb (cell_later ((Below.refl _ _).alloc (Nat.le_refl _) _) d0)
      replace d1 := cell_later hb (cell_later ((Below.refl _ _).alloc (Nat.le_refl _) _) d1)
      replace d2 := cell_later hb (cell_later ((Below.refl _ _).alloc (Nat.le_refl _) _) d2)
      replace d3 := cell_later hb (cell_later ((Below.refl _ _).alloc (Nat.le_refl _) _) d3)
      replace d4 := cell_later hb (cell_later ((Below.refl _ _).alloc (Nat.le_refl _) _) d4)
      replace e0 := cell_later hb (cell_later ((Below.refl _ _).alloc (Nat.le_refl _) _) e0)
      replace e1 := cell_later hb (cell_later ((Below.refl _ _).alloc (Nat.le_refl _) _) e1)
      replace e2 := cell_later hb (cell_later ((Below.refl _ _).alloc (Nat.le_refl _) _) e2)
      replace e3 := cell_later hb (cell_later ((Below.refl _ _).alloc (Nat.le_refl _) _) e3)
      replace e4 := cell_later hb (cell_later ((Below.refl _ _).alloc (Nat.le_refl _) _) e4)
      have f0 := ((Row.later (Row.new _ _ _) hb).cell 0).trans (show _ = some (Value.int .i64 0) from rfl)
      have f1 := ((Row.later (Row.new _ _ _) hb).cell 1).trans (show _ = some (Value.int .i64 0) from rfl)
      have f2 := ((Row.later (Row.new _ _ _) hb).cell 2).trans (show _ = some (Value.int .u64 0) from rfl)
      have f3 := ((Row.later (Row.new _ _ _) hb).cell 3).trans (show _ = some (Value.int .u64 0) from rfl)
      have f4 := ((Row.later (Row.new _ _ _) hb).cell 4).trans (show _ = some (Value.string ⟨#[]⟩) from rfl)
      replace hb0 := below_step (hb0.alloc hb0.size _) hb
      clear hb
      generalize w1.heap.size = gf at *
      have lc := World.block_lt_of_cell? _ _ c0
      dsimp only at lc
      have ld := World.block_lt_of_cell? _ _ d0
      dsimp only at ld
      have le := World.block_lt_of_cell? _ _ e0
      dsimp only at le
      have lf := World.block_lt_of_cell? _ _ f0
      dsimp only at lf
      go_wp2_with fail
      refine (HA _).mono ?_
      rintro e w3 ⟨rfl, hb⟩
      replace c0 := cell_later hb (cell_later ((Below.refl _ _).alloc (Nat.le_refl _) _) c0)
      replace c1 := cell_later hb (cell_later ((Below.refl _ _).alloc (Nat.le_refl _) _) c1)
      replace c2 := cell_later hb (cell_later ((Below.refl _ _).alloc (Nat.le_refl _) _) c2)
      replace c3 := cell_later hb (cell_later ((Below.refl _ _).alloc (Nat.le_refl _) _) c3)
      replace c4 := cell_later hb (cell_later ((Below.refl _ _).alloc (Nat.le_refl _) _) c4)
      replace d0 := cell_later hb (cell_later ((Below.refl _ _).alloc (Nat.le_refl _) _) d0)
      replace d1 := cell_later hb (cell_later ((Below.refl _ _).alloc (Nat.le_refl _) _) d1)
      replace d2 := cell_later hb (cell_later ((Below.refl _ _).alloc (Nat.le_refl _) _) d2)
      replace d3 := cell_later hb (cell_later ((Below.refl _ _).alloc (Nat.le_refl _) _) d3)
      replace d4 := cell_later hb (cell_later ((Below.refl _ _).alloc (Nat.le_refl _) _) d4)
      replace e0 := cell_later hb (cell_later ((Below.refl _ _).alloc (Nat.le_refl _) _) e0)
      replace e1 := cell_later hb (cell_later ((Below.refl _ _).alloc (Nat.le_refl _) _) e1)
      replace e2 := cell_later hb (cell_later ((Below.refl _ _).alloc (Nat.le_refl _) _) e2)
      replace e3 := cell_later hb (cell_later ((Below.refl _ _).alloc (Nat.le_refl _) _) e3)
      replace e4 := cell_later hb (cell_later ((Below.refl _ _).alloc (Nat.le_refl _) _) e4)
      replace f0 := cell_later hb (cell_later ((Below.refl _ _).alloc (Nat.le_refl _) _) f0)
      replace f1 := cell_later hb (cell_later ((Below.refl _ _).alloc (Nat.le_refl _) _) f1)
      replace f2 := cell_later hb (cell_later ((Below.refl _ _).alloc (Nat.le_refl _) _) f2)
      replace f3 := cell_later hb (cell_later ((Below.refl _ _).alloc (Nat.le_refl _) _) f3)
      replace f4 := cell_later hb (cell_later ((Below.refl _ _).alloc (Nat.le_refl _) _) f4)
      have h0 := ((Row.later (Row.new _ _ _) hb).cell 0).trans (show _ = some (Value.int .i64 0) from rfl)
      have h1 := ((Row.later (Row.new _ _ _) hb).cell 1).trans (show _ = some (Value.int .i64 0) from rfl)
      have h2 := ((Row.later (Row.new _ _ _) hb).cell 2).trans (show _ = some (Value.int .u64 0) from rfl)
      have h3 := ((Row.later (Row.new _ _ _) hb).cell 3).trans (show _ = some (Value.int .u64 0) from rfl)
      have h4 := ((Row.later (Row.new _ _ _) hb).cell 4).trans (show _ = some (Value.string ⟨#[]⟩) from rfl)
      replace hb0 := below_step (hb0.alloc hb0.size _) hb
      clear hb
      generalize w2.heap.size = gh at *
      have lc := World.block_lt_of_cell? _ _ c0
      dsimp only at lc
      have ld := World.block_lt_of_cell? _ _ d0
      dsimp only at ld
      have le := World.block_lt_of_cell? _ _ e0
      dsimp only at le
      have lf := World.block_lt_of_cell? _ _ f0
      dsimp only at lf
      have lh := World.block_lt_of_cell? _ _ h0
      dsimp only at lh
      go_wp2_with fail
      refine (alive7_t _).mono ?_
      rintro e w4 ⟨rfl, hb⟩
      replace c0 := cell_later hb c0
      replace c1 := cell_later hb c1
      replace c2 := cell_later hb c2
      replace c3 := cell_later hb c3
      replace c4 := cell_later hb c4
      replace d0 := cell_later hb d0
      replace d1 := cell_later hb d1
      replace d2 := cell_later hb d2
      replace d3 := cell_later hb d3
      replace d4 := cell_later hb d4
      replace e0 := cell_later hb e0
      replace e1 := cell_later hb e1
      replace e2 := cell_later hb e2
      replace e3 := cell_later hb e3
      replace e4 := cell_later hb e4
      replace f0 := cell_later hb f0
      replace f1 := cell_later hb f1
      replace f2 := cell_later hb f2
      replace f3 := cell_later hb f3
      replace f4 := cell_later hb f4
      replace h0 := cell_later hb h0
      replace h1 := cell_later hb h1
      replace h2 := cell_later hb h2
      replace h3 := cell_later hb h3
      replace h4 := cell_later hb h4
      replace hb0 := below_step hb0 hb
      clear hb
      have lc := World.block_lt_of_cell? _ _ c0
      dsimp only at lc
      have ld := World.block_lt_of_cell? _ _ d0
      dsimp only at ld
      have le := World.block_lt_of_cell? _ _ e0
      dsimp only at le
      have lf := World.block_lt_of_cell? _ _ f0
      dsimp only at lf
      have lh := World.block_lt_of_cell? _ _ h0
      dsimp only at lh
      go_wp2
      go_ret
      exact ⟨rfl, hb0⟩
    case true =>
      cases rb
      case false =>
        clear hd
        go_enter Try.func9, Try.ntmps9
        go_wp2_with fail
        refine (HM _).mono ?_
        rintro e w5 ⟨rfl, hb⟩
        replace c0 := cell_later hb c0
        replace c1 := cell_later hb c1
        replace c2 := cell_later hb c2
        replace c3 := cell_later hb c3
        replace c4 := cell_later hb c4
        replace d0 := cell_later hb d0
        replace d1 := cell_later hb d1
        replace d2 := cell_later hb d2
        replace d3 := cell_later hb d3
        replace d4 := cell_later hb d4
        replace e0 := cell_later hb e0
        replace e1 := cell_later hb e1
        replace e2 := cell_later hb e2
        replace e3 := cell_later hb e3
        replace e4 := cell_later hb e4
        replace hb0 := below_step hb0 hb
        clear hb
        have lc := World.block_lt_of_cell? _ _ c0
        dsimp only at lc
        have ld := World.block_lt_of_cell? _ _ d0
        dsimp only at ld
        have le := World.block_lt_of_cell? _ _ e0
        dsimp only at le
        go_wp2_with fail
        refine (HN _).mono ?_
        rintro e w6 ⟨rfl, hb⟩
        replace c0 := cell_later hb (cell_later ((Below.refl _ _).alloc (Nat.le_refl _) _) c0)
        replace c1 := cell_later hb (cell_later ((Below.refl _ _).alloc (Nat.le_refl _) _) c1)
        replace c2 := cell_later hb (cell_later ((Below.refl _ _).alloc (Nat.le_refl _) _) c2)
        replace c3 := cell_later hb (cell_later ((Below.refl _ _).alloc (Nat.le_refl _) _) c3)
        replace c4 := cell_later hb (cell_later ((Below.refl _ _).alloc (Nat.le_refl _) _) c4)
        replace d0 := cell_later hb (cell_later ((Below.refl _ _).alloc (Nat.le_refl _) _) d0)
        replace d1 := cell_later hb (cell_later ((Below.refl _ _).alloc (Nat.le_refl _) _) d1)
        replace d2 := cell_later hb (cell_later ((Below.refl _ _).alloc (Nat.le_refl _) _) d2)
        replace d3 := cell_later hb (cell_later ((Below.refl _ _).alloc (Nat.le_refl _) _) d3)
        replace d4 := cell_later hb (cell_later ((Below.refl _ _).alloc (Nat.le_refl _) _) d4)
        replace e0 := cell_later hb (cell_later ((Below.refl _ _).alloc (Nat.le_refl _) _) e0)
        replace e1 := cell_later hb (cell_later ((Below.refl _ _).alloc (Nat.le_refl _) _) e1)
        replace e2 := cell_later hb (cell_later ((Below.refl _ _).alloc (Nat.le_refl _) _) e2)
        replace e3 := cell_later hb (cell_later ((Below.refl _ _).alloc (Nat.le_refl _) _) e3)
        replace e4 := cell_later hb (cell_later ((Below.refl _ _).alloc (Nat.le_refl _) _) e4)
        have f0 := ((Row.later (Row.new _ _ _) hb).cell 0).trans (show _ = some (Value.int .i64 0) from rfl)
        have f1 := ((Row.later (Row.new _ _ _) hb).cell 1).trans (show _ = some (Value.int .i64 0) from rfl)
        have f2 := ((Row.later (Row.new _ _ _) hb).cell 2).trans (show _ = some (Value.int .u64 0) from rfl)
        have f3 := ((Row.later (Row.new _ _ _) hb).cell 3).trans (show _ = some (Value.int .u64 0) from rfl)
        have f4 := ((Row.later (Row.new _ _ _) hb).cell 4).trans (show _ = some (Value.string ⟨#[]⟩) from rfl)
        replace hb0 := below_step (hb0.alloc hb0.size _) hb
        clear hb
        generalize w5.heap.size = gf at *
        have lc := World.block_lt_of_cell? _ _ c0
        dsimp only at lc
        have ld := World.block_lt_of_cell? _ _ d0
        dsimp only at ld
        have le := World.block_lt_of_cell? _ _ e0
        dsimp only at le
        have lf := World.block_lt_of_cell? _ _ f0
        dsimp only at lf
        go_wp2_with fail
        refine (HA _).mono ?_
        rintro e w7 ⟨rfl, hb⟩
        replace c0 := cell_later hb (cell_later ((Below.refl _ _).alloc (Nat.le_refl _) _) c0)
        replace c1 := cell_later hb (cell_later ((Below.refl _ _).alloc (Nat.le_refl _) _) c1)
        replace c2 := cell_later hb (cell_later ((Below.refl _ _).alloc (Nat.le_refl _) _) c2)
        replace c3 := cell_later hb (cell_later ((Below.refl _ _).alloc (Nat.le_refl _) _) c3)
        replace c4 := cell_later hb (cell_later ((Below.refl _ _).alloc (Nat.le_refl _) _) c4)
        replace d0 := cell_later hb (cell_later ((Below.refl _ _).alloc (Nat.le_refl _) _) d0)
        replace d1 := cell_later hb (cell_later ((Below.refl _ _).alloc (Nat.le_refl _) _) d1)
        replace d2 := cell_later hb (cell_later ((Below.refl _ _).alloc (Nat.le_refl _) _) d2)
        replace d3 := cell_later hb (cell_later ((Below.refl _ _).alloc (Nat.le_refl _) _) d3)
        replace d4 := cell_later hb (cell_later ((Below.refl _ _).alloc (Nat.le_refl _) _) d4)
        replace e0 := cell_later hb (cell_later ((Below.refl _ _).alloc (Nat.le_refl _) _) e0)
        replace e1 := cell_later hb (cell_later ((Below.refl _ _).alloc (Nat.le_refl _) _) e1)
        replace e2 := cell_later hb (cell_later ((Below.refl _ _).alloc (Nat.le_refl _) _) e2)
        replace e3 := cell_later hb (cell_later ((Below.refl _ _).alloc (Nat.le_refl _) _) e3)
        replace e4 := cell_later hb (cell_later ((Below.refl _ _).alloc (Nat.le_refl _) _) e4)
        replace f0 := cell_later hb (cell_later ((Below.refl _ _).alloc (Nat.le_refl _) _) f0)
        replace f1 := cell_later hb (cell_later ((Below.refl _ _).alloc (Nat.le_refl _) _) f1)
        replace f2 := cell_later hb (cell_later ((Below.refl _ _).alloc (Nat.le_refl _) _) f2)
        replace f3 := cell_later hb (cell_later ((Below.refl _ _).alloc (Nat.le_refl _) _) f3)
        replace f4 := cell_later hb (cell_later ((Below.refl _ _).alloc (Nat.le_refl _) _) f4)
        have h0 := ((Row.later (Row.new _ _ _) hb).cell 0).trans (show _ = some (Value.int .i64 0) from rfl)
        have h1 := ((Row.later (Row.new _ _ _) hb).cell 1).trans (show _ = some (Value.int .i64 0) from rfl)
        have h2 := ((Row.later (Row.new _ _ _) hb).cell 2).trans (show _ = some (Value.int .u64 0) from rfl)
        have h3 := ((Row.later (Row.new _ _ _) hb).cell 3).trans (show _ = some (Value.int .u64 0) from rfl)
        have h4 := ((Row.later (Row.new _ _ _) hb).cell 4).trans (show _ = some (Value.string ⟨#[]⟩) from rfl)
        replace hb0 := below_step (hb0.alloc hb0.size _) hb
        clear hb
        generalize w6.heap.size = gh at *
        have lc := World.block_lt_of_cell? _ _ c0
        dsimp only at lc
        have ld := World.block_lt_of_cell? _ _ d0
        dsimp only at ld
        have le := World.block_lt_of_cell? _ _ e0
        dsimp only at le
        have lf := World.block_lt_of_cell? _ _ f0
        dsimp only at lf
        have lh := World.block_lt_of_cell? _ _ h0
        dsimp only at lh
        go_wp2_with fail
        refine (HB _).mono ?_
        rintro e w8 ⟨rfl, hb⟩
        replace c0 := cell_later hb c0
        replace c1 := cell_later hb c1
        replace c2 := cell_later hb c2
        replace c3 := cell_later hb c3
        replace c4 := cell_later hb c4
        replace d0 := cell_later hb d0
        replace d1 := cell_later hb d1
        replace d2 := cell_later hb d2
        replace d3 := cell_later hb d3
        replace d4 := cell_later hb d4
        replace e0 := cell_later hb e0
        replace e1 := cell_later hb e1
        replace e2 := cell_later hb e2
        replace e3 := cell_later hb e3
        replace e4 := cell_later hb e4
        replace f0 := cell_later hb f0
        replace f1 := cell_later hb f1
        replace f2 := cell_later hb f2
        replace f3 := cell_later hb f3
        replace f4 := cell_later hb f4
        replace h0 := cell_later hb h0
        replace h1 := cell_later hb h1
        replace h2 := cell_later hb h2
        replace h3 := cell_later hb h3
        replace h4 := cell_later hb h4
        replace hb0 := below_step hb0 hb
        clear hb
        have lc := World.block_lt_of_cell? _ _ c0
        dsimp only at lc
        have ld := World.block_lt_of_cell? _ _ d0
        dsimp only at ld
        have le := World.block_lt_of_cell? _ _ e0
        dsimp only at le
        have lf := World.block_lt_of_cell? _ _ f0
        dsimp only at lf
        have lh := World.block_lt_of_cell? _ _ h0
        dsimp only at lh
        go_wp2_with fail
        refine (alive7_t _).mono ?_
        rintro e w9 ⟨rfl, hb⟩
        replace c0 := cell_later hb c0
        replace c1 := cell_later hb c1
        replace c2 := cell_later hb c2
        replace c3 := cell_later hb c3
        replace c4 := cell_later hb c4
        replace d0 := cell_later hb d0
        replace d1 := cell_later hb d1
        replace d2 := cell_later hb d2
        replace d3 := cell_later hb d3
        replace d4 := cell_later hb d4
        replace e0 := cell_later hb e0
        replace e1 := cell_later hb e1
        replace e2 := cell_later hb e2
        replace e3 := cell_later hb e3
        replace e4 := cell_later hb e4
        replace f0 := cell_later hb f0
        replace f1 := cell_later hb f1
        replace f2 := cell_later hb f2
        replace f3 := cell_later hb f3
        replace f4 := cell_later hb f4
        replace h0 := cell_later hb h0
        replace h1 := cell_later hb h1
        replace h2 := cell_later hb h2
        replace h3 := cell_later hb h3
        replace h4 := cell_later hb h4
        replace hb0 := below_step hb0 hb
        clear hb
        have lc := World.block_lt_of_cell? _ _ c0
        dsimp only at lc
        have ld := World.block_lt_of_cell? _ _ d0
        dsimp only at ld
        have le := World.block_lt_of_cell? _ _ e0
        dsimp only at le
        have lf := World.block_lt_of_cell? _ _ f0
        dsimp only at lf
        have lh := World.block_lt_of_cell? _ _ h0
        dsimp only at lh
        go_wp2
        go_ret
        exact ⟨rfl, hb0⟩
      case true =>
        have hk : (a.kind == b.kind) = false := by
          have h3 := hd.symm
          simp only [Bool.and_true, decide_eq_false_iff_not] at h3
          simpa using h3
        clear hd
        go_enter Try.func9, Try.ntmps9
        go_wp2_with fail
        refine (HM _).mono ?_
        rintro e w10 ⟨rfl, hb⟩
        replace c0 := cell_later hb c0
        replace c1 := cell_later hb c1
        replace c2 := cell_later hb c2
        replace c3 := cell_later hb c3
        replace c4 := cell_later hb c4
        replace d0 := cell_later hb d0
        replace d1 := cell_later hb d1
        replace d2 := cell_later hb d2
        replace d3 := cell_later hb d3
        replace d4 := cell_later hb d4
        replace e0 := cell_later hb e0
        replace e1 := cell_later hb e1
        replace e2 := cell_later hb e2
        replace e3 := cell_later hb e3
        replace e4 := cell_later hb e4
        replace hb0 := below_step hb0 hb
        clear hb
        have lc := World.block_lt_of_cell? _ _ c0
        dsimp only at lc
        have ld := World.block_lt_of_cell? _ _ d0
        dsimp only at ld
        have le := World.block_lt_of_cell? _ _ e0
        dsimp only at le
        go_wp2_with fail
        refine (HN _).mono ?_
        rintro e w11 ⟨rfl, hb⟩
        replace c0 := cell_later hb (cell_later ((Below.refl _ _).alloc (Nat.le_refl _) _) c0)
        replace c1 := cell_later hb (cell_later ((Below.refl _ _).alloc (Nat.le_refl _) _) c1)
        replace c2 := cell_later hb (cell_later ((Below.refl _ _).alloc (Nat.le_refl _) _) c2)
        replace c3 := cell_later hb (cell_later ((Below.refl _ _).alloc (Nat.le_refl _) _) c3)
        replace c4 := cell_later hb (cell_later ((Below.refl _ _).alloc (Nat.le_refl _) _) c4)
        replace d0 := cell_later hb (cell_later ((Below.refl _ _).alloc (Nat.le_refl _) _) d0)
        replace d1 := cell_later hb (cell_later ((Below.refl _ _).alloc (Nat.le_refl _) _) d1)
        replace d2 := cell_later hb (cell_later ((Below.refl _ _).alloc (Nat.le_refl _) _) d2)
        replace d3 := cell_later hb (cell_later ((Below.refl _ _).alloc (Nat.le_refl _) _) d3)
        replace d4 := cell_later hb (cell_later ((Below.refl _ _).alloc (Nat.le_refl _) _) d4)
        replace e0 := cell_later hb (cell_later ((Below.refl _ _).alloc (Nat.le_refl _) _) e0)
        replace e1 := cell_later hb (cell_later ((Below.refl _ _).alloc (Nat.le_refl _) _) e1)
        replace e2 := cell_later hb (cell_later ((Below.refl _ _).alloc (Nat.le_refl _) _) e2)
        replace e3 := cell_later hb (cell_later ((Below.refl _ _).alloc (Nat.le_refl _) _) e3)
        replace e4 := cell_later hb (cell_later ((Below.refl _ _).alloc (Nat.le_refl _) _) e4)
        have f0 := ((Row.later (Row.new _ _ _) hb).cell 0).trans (show _ = some (Value.int .i64 0) from rfl)
        have f1 := ((Row.later (Row.new _ _ _) hb).cell 1).trans (show _ = some (Value.int .i64 0) from rfl)
        have f2 := ((Row.later (Row.new _ _ _) hb).cell 2).trans (show _ = some (Value.int .u64 0) from rfl)
        have f3 := ((Row.later (Row.new _ _ _) hb).cell 3).trans (show _ = some (Value.int .u64 0) from rfl)
        have f4 := ((Row.later (Row.new _ _ _) hb).cell 4).trans (show _ = some (Value.string ⟨#[]⟩) from rfl)
        replace hb0 := below_step (hb0.alloc hb0.size _) hb
        clear hb
        generalize w10.heap.size = gf at *
        have lc := World.block_lt_of_cell? _ _ c0
        dsimp only at lc
        have ld := World.block_lt_of_cell? _ _ d0
        dsimp only at ld
        have le := World.block_lt_of_cell? _ _ e0
        dsimp only at le
        have lf := World.block_lt_of_cell? _ _ f0
        dsimp only at lf
        go_wp2_with fail
        refine (HA _).mono ?_
        rintro e w12 ⟨rfl, hb⟩
        replace c0 := cell_later hb (cell_later ((Below.refl _ _).alloc (Nat.le_refl _) _) c0)
        replace c1 := cell_later hb (cell_later ((Below.refl _ _).alloc (Nat.le_refl _) _) c1)
        replace c2 := cell_later hb (cell_later ((Below.refl _ _).alloc (Nat.le_refl _) _) c2)
        replace c3 := cell_later hb (cell_later ((Below.refl _ _).alloc (Nat.le_refl _) _) c3)
        replace c4 := cell_later hb (cell_later ((Below.refl _ _).alloc (Nat.le_refl _) _) c4)
        replace d0 := cell_later hb (cell_later ((Below.refl _ _).alloc (Nat.le_refl _) _) d0)
        replace d1 := cell_later hb (cell_later ((Below.refl _ _).alloc (Nat.le_refl _) _) d1)
        replace d2 := cell_later hb (cell_later ((Below.refl _ _).alloc (Nat.le_refl _) _) d2)
        replace d3 := cell_later hb (cell_later ((Below.refl _ _).alloc (Nat.le_refl _) _) d3)
        replace d4 := cell_later hb (cell_later ((Below.refl _ _).alloc (Nat.le_refl _) _) d4)
        replace e0 := cell_later hb (cell_later ((Below.refl _ _).alloc (Nat.le_refl _) _) e0)
        replace e1 := cell_later hb (cell_later ((Below.refl _ _).alloc (Nat.le_refl _) _) e1)
        replace e2 := cell_later hb (cell_later ((Below.refl _ _).alloc (Nat.le_refl _) _) e2)
        replace e3 := cell_later hb (cell_later ((Below.refl _ _).alloc (Nat.le_refl _) _) e3)
        replace e4 := cell_later hb (cell_later ((Below.refl _ _).alloc (Nat.le_refl _) _) e4)
        replace f0 := cell_later hb (cell_later ((Below.refl _ _).alloc (Nat.le_refl _) _) f0)
        replace f1 := cell_later hb (cell_later ((Below.refl _ _).alloc (Nat.le_refl _) _) f1)
        replace f2 := cell_later hb (cell_later ((Below.refl _ _).alloc (Nat.le_refl _) _) f2)
        replace f3 := cell_later hb (cell_later ((Below.refl _ _).alloc (Nat.le_refl _) _) f3)
        replace f4 := cell_later hb (cell_later ((Below.refl _ _).alloc (Nat.le_refl _) _) f4)
        have h0 := ((Row.later (Row.new _ _ _) hb).cell 0).trans (show _ = some (Value.int .i64 0) from rfl)
        have h1 := ((Row.later (Row.new _ _ _) hb).cell 1).trans (show _ = some (Value.int .i64 0) from rfl)
        have h2 := ((Row.later (Row.new _ _ _) hb).cell 2).trans (show _ = some (Value.int .u64 0) from rfl)
        have h3 := ((Row.later (Row.new _ _ _) hb).cell 3).trans (show _ = some (Value.int .u64 0) from rfl)
        have h4 := ((Row.later (Row.new _ _ _) hb).cell 4).trans (show _ = some (Value.string ⟨#[]⟩) from rfl)
        replace hb0 := below_step (hb0.alloc hb0.size _) hb
        clear hb
        generalize w11.heap.size = gh at *
        have lc := World.block_lt_of_cell? _ _ c0
        dsimp only at lc
        have ld := World.block_lt_of_cell? _ _ d0
        dsimp only at ld
        have le := World.block_lt_of_cell? _ _ e0
        dsimp only at le
        have lf := World.block_lt_of_cell? _ _ f0
        dsimp only at lf
        have lh := World.block_lt_of_cell? _ _ h0
        dsimp only at lh
        go_wp2_with fail
        refine (HB _).mono ?_
        rintro e w13 ⟨rfl, hb⟩
        replace c0 := cell_later hb c0
        replace c1 := cell_later hb c1
        replace c2 := cell_later hb c2
        replace c3 := cell_later hb c3
        replace c4 := cell_later hb c4
        replace d0 := cell_later hb d0
        replace d1 := cell_later hb d1
        replace d2 := cell_later hb d2
        replace d3 := cell_later hb d3
        replace d4 := cell_later hb d4
        replace e0 := cell_later hb e0
        replace e1 := cell_later hb e1
        replace e2 := cell_later hb e2
        replace e3 := cell_later hb e3
        replace e4 := cell_later hb e4
        replace f0 := cell_later hb f0
        replace f1 := cell_later hb f1
        replace f2 := cell_later hb f2
        replace f3 := cell_later hb f3
        replace f4 := cell_later hb f4
        replace h0 := cell_later hb h0
        replace h1 := cell_later hb h1
        replace h2 := cell_later hb h2
        replace h3 := cell_later hb h3
        replace h4 := cell_later hb h4
        replace hb0 := below_step hb0 hb
        clear hb
        have lc := World.block_lt_of_cell? _ _ c0
        dsimp only at lc
        have ld := World.block_lt_of_cell? _ _ d0
        dsimp only at ld
        have le := World.block_lt_of_cell? _ _ e0
        dsimp only at le
        have lf := World.block_lt_of_cell? _ _ f0
        dsimp only at lf
        have lh := World.block_lt_of_cell? _ _ h0
        dsimp only at lh
        go_wp2_with fail
        refine (alive7_t _).mono ?_
        rintro e w14 ⟨rfl, hb⟩
        replace c0 := cell_later hb c0
        replace c1 := cell_later hb c1
        replace c2 := cell_later hb c2
        replace c3 := cell_later hb c3
        replace c4 := cell_later hb c4
        replace d0 := cell_later hb d0
        replace d1 := cell_later hb d1
        replace d2 := cell_later hb d2
        replace d3 := cell_later hb d3
        replace d4 := cell_later hb d4
        replace e0 := cell_later hb e0
        replace e1 := cell_later hb e1
        replace e2 := cell_later hb e2
        replace e3 := cell_later hb e3
        replace e4 := cell_later hb e4
        replace f0 := cell_later hb f0
        replace f1 := cell_later hb f1
        replace f2 := cell_later hb f2
        replace f3 := cell_later hb f3
        replace f4 := cell_later hb f4
        replace h0 := cell_later hb h0
        replace h1 := cell_later hb h1
        replace h2 := cell_later hb h2
        replace h3 := cell_later hb h3
        replace h4 := cell_later hb h4
        replace hb0 := below_step hb0 hb
        clear hb
        have lc := World.block_lt_of_cell? _ _ c0
        dsimp only at lc
        have ld := World.block_lt_of_cell? _ _ d0
        dsimp only at ld
        have le := World.block_lt_of_cell? _ _ e0
        dsimp only at le
        have lf := World.block_lt_of_cell? _ _ f0
        dsimp only at lf
        have lh := World.block_lt_of_cell? _ _ h0
        dsimp only at lh
        go_wp2
        go_ret
        exact ⟨rfl, hb0⟩
  · rw [hm] at HM HN hd
    have hmo := meet_over x hm
    obtain ⟨o1, o2⟩ := meet_over_a hm
    have HXM := kover_t x (meetK a b) hx (meet_ok ha)
    have HMA := kover_t (meetK a b) a (meet_ok ha) ha
    have HMB := kover_t (meetK a b) b (meet_ok ha) hb'
    rw [o1] at HMA
    rw [o2] at HMB
    rw [hmo] at HXM
    clear hm hmo o1 o2 ha hb' hx
    generalize meetK a b = t at *
    generalize rightK a = ra at *
    generalize rightK b = rb at *
    generalize overK x a = xa at *
    generalize overK x b = xb at *
    have h1 : ra = true := by
      have h3 := hd.symm
      simp only [Bool.and_eq_true] at h3
      exact h3.2.1
    have h2 : rb = true := by
      have h3 := hd.symm
      simp only [Bool.and_eq_true] at h3
      exact h3.2.2
    have hk : (a.kind == b.kind) = true := by
      have h3 := hd.symm
      simp only [Bool.and_eq_true, decide_eq_true_eq] at h3
      simpa using h3.1
    subst h1 h2
    clear hd
    unfold kv at *
    obtain ⟨RR0, RR1, RR2, hb0⟩ := three_rows w #[.int .i64 a.kind, .int .i64 a.len, .int .u64 a.h, .int .u64 a.l, .string ⟨a.path.toArray⟩] #[.int .i64 b.kind, .int .i64 b.len, .int .u64 b.h, .int .u64 b.l, .string ⟨b.path.toArray⟩] #[.int .i64 x.kind, .int .i64 x.len, .int .u64 x.h, .int .u64 x.l, .string ⟨x.path.toArray⟩] 24 24 24
    have c0 := (RR0.cell 0).trans (show _ = some (Value.int .i64 a.kind) from rfl)
    have c1 := (RR0.cell 1).trans (show _ = some (Value.int .i64 a.len) from rfl)
    have c2 := (RR0.cell 2).trans (show _ = some (Value.int .u64 a.h) from rfl)
    have c3 := (RR0.cell 3).trans (show _ = some (Value.int .u64 a.l) from rfl)
    have c4 := (RR0.cell 4).trans (show _ = some (Value.string ⟨a.path.toArray⟩) from rfl)
    have d0 := (RR1.cell 0).trans (show _ = some (Value.int .i64 b.kind) from rfl)
    have d1 := (RR1.cell 1).trans (show _ = some (Value.int .i64 b.len) from rfl)
    have d2 := (RR1.cell 2).trans (show _ = some (Value.int .u64 b.h) from rfl)
    have d3 := (RR1.cell 3).trans (show _ = some (Value.int .u64 b.l) from rfl)
    have d4 := (RR1.cell 4).trans (show _ = some (Value.string ⟨b.path.toArray⟩) from rfl)
    have e0 := (RR2.cell 0).trans (show _ = some (Value.int .i64 x.kind) from rfl)
    have e1 := (RR2.cell 1).trans (show _ = some (Value.int .i64 x.len) from rfl)
    have e2 := (RR2.cell 2).trans (show _ = some (Value.int .u64 x.h) from rfl)
    have e3 := (RR2.cell 3).trans (show _ = some (Value.int .u64 x.l) from rfl)
    have e4 := (RR2.cell 4).trans (show _ = some (Value.string ⟨x.path.toArray⟩) from rfl)
    clear RR0 RR1 RR2
    cases xa <;> cases xb
    case false.false =>
      go_enter Try.func9, Try.ntmps9
      go_wp2_with fail
      refine (HM _).mono ?_
      rintro e w15 ⟨rfl, hb⟩
      replace c0 := cell_later hb c0
      replace c1 := cell_later hb c1
      replace c2 := cell_later hb c2
      replace c3 := cell_later hb c3
      replace c4 := cell_later hb c4
      replace d0 := cell_later hb d0
      replace d1 := cell_later hb d1
      replace d2 := cell_later hb d2
      replace d3 := cell_later hb d3
      replace d4 := cell_later hb d4
      replace e0 := cell_later hb e0
      replace e1 := cell_later hb e1
      replace e2 := cell_later hb e2
      replace e3 := cell_later hb e3
      replace e4 := cell_later hb e4
      replace hb0 := below_step hb0 hb
      clear hb
      have lc := World.block_lt_of_cell? _ _ c0
      dsimp only at lc
      have ld := World.block_lt_of_cell? _ _ d0
      dsimp only at ld
      have le := World.block_lt_of_cell? _ _ e0
      dsimp only at le
      go_wp2_with fail
      refine (HN _).mono ?_
      rintro e w16 ⟨rfl, hb⟩
      replace c0 := cell_later hb (cell_later ((Below.refl _ _).alloc (Nat.le_refl _) _) c0)
      replace c1 := cell_later hb (cell_later ((Below.refl _ _).alloc (Nat.le_refl _) _) c1)
      replace c2 := cell_later hb (cell_later ((Below.refl _ _).alloc (Nat.le_refl _) _) c2)
      replace c3 := cell_later hb (cell_later ((Below.refl _ _).alloc (Nat.le_refl _) _) c3)
      replace c4 := cell_later hb (cell_later ((Below.refl _ _).alloc (Nat.le_refl _) _) c4)
      replace d0 := cell_later hb (cell_later ((Below.refl _ _).alloc (Nat.le_refl _) _) d0)
      replace d1 := cell_later hb (cell_later ((Below.refl _ _).alloc (Nat.le_refl _) _) d1)
      replace d2 := cell_later hb (cell_later ((Below.refl _ _).alloc (Nat.le_refl _) _) d2)
      replace d3 := cell_later hb (cell_later ((Below.refl _ _).alloc (Nat.le_refl _) _) d3)
      replace d4 := cell_later hb (cell_later ((Below.refl _ _).alloc (Nat.le_refl _) _) d4)
      replace e0 := cell_later hb (cell_later ((Below.refl _ _).alloc (Nat.le_refl _) _) e0)
      replace e1 := cell_later hb (cell_later ((Below.refl _ _).alloc (Nat.le_refl _) _) e1)
      replace e2 := cell_later hb (cell_later ((Below.refl _ _).alloc (Nat.le_refl _) _) e2)
      replace e3 := cell_later hb (cell_later ((Below.refl _ _).alloc (Nat.le_refl _) _) e3)
      replace e4 := cell_later hb (cell_later ((Below.refl _ _).alloc (Nat.le_refl _) _) e4)
      have f0 := ((Row.later (Row.new _ _ _) hb).cell 0).trans (show _ = some (Value.int .i64 t.kind) from rfl)
      have f1 := ((Row.later (Row.new _ _ _) hb).cell 1).trans (show _ = some (Value.int .i64 t.len) from rfl)
      have f2 := ((Row.later (Row.new _ _ _) hb).cell 2).trans (show _ = some (Value.int .u64 t.h) from rfl)
      have f3 := ((Row.later (Row.new _ _ _) hb).cell 3).trans (show _ = some (Value.int .u64 t.l) from rfl)
      have f4 := ((Row.later (Row.new _ _ _) hb).cell 4).trans (show _ = some (Value.string ⟨t.path.toArray⟩) from rfl)
      replace hb0 := below_step (hb0.alloc hb0.size _) hb
      clear hb
      generalize w15.heap.size = gf at *
      have lc := World.block_lt_of_cell? _ _ c0
      dsimp only at lc
      have ld := World.block_lt_of_cell? _ _ d0
      dsimp only at ld
      have le := World.block_lt_of_cell? _ _ e0
      dsimp only at le
      have lf := World.block_lt_of_cell? _ _ f0
      dsimp only at lf
      go_wp2_with fail
      refine (HA _).mono ?_
      rintro e w17 ⟨rfl, hb⟩
      replace c0 := cell_later hb (cell_later ((Below.refl _ _).alloc (Nat.le_refl _) _) c0)
      replace c1 := cell_later hb (cell_later ((Below.refl _ _).alloc (Nat.le_refl _) _) c1)
      replace c2 := cell_later hb (cell_later ((Below.refl _ _).alloc (Nat.le_refl _) _) c2)
      replace c3 := cell_later hb (cell_later ((Below.refl _ _).alloc (Nat.le_refl _) _) c3)
      replace c4 := cell_later hb (cell_later ((Below.refl _ _).alloc (Nat.le_refl _) _) c4)
      replace d0 := cell_later hb (cell_later ((Below.refl _ _).alloc (Nat.le_refl _) _) d0)
      replace d1 := cell_later hb (cell_later ((Below.refl _ _).alloc (Nat.le_refl _) _) d1)
      replace d2 := cell_later hb (cell_later ((Below.refl _ _).alloc (Nat.le_refl _) _) d2)
      replace d3 := cell_later hb (cell_later ((Below.refl _ _).alloc (Nat.le_refl _) _) d3)
      replace d4 := cell_later hb (cell_later ((Below.refl _ _).alloc (Nat.le_refl _) _) d4)
      replace e0 := cell_later hb (cell_later ((Below.refl _ _).alloc (Nat.le_refl _) _) e0)
      replace e1 := cell_later hb (cell_later ((Below.refl _ _).alloc (Nat.le_refl _) _) e1)
      replace e2 := cell_later hb (cell_later ((Below.refl _ _).alloc (Nat.le_refl _) _) e2)
      replace e3 := cell_later hb (cell_later ((Below.refl _ _).alloc (Nat.le_refl _) _) e3)
      replace e4 := cell_later hb (cell_later ((Below.refl _ _).alloc (Nat.le_refl _) _) e4)
      replace f0 := cell_later hb (cell_later ((Below.refl _ _).alloc (Nat.le_refl _) _) f0)
      replace f1 := cell_later hb (cell_later ((Below.refl _ _).alloc (Nat.le_refl _) _) f1)
      replace f2 := cell_later hb (cell_later ((Below.refl _ _).alloc (Nat.le_refl _) _) f2)
      replace f3 := cell_later hb (cell_later ((Below.refl _ _).alloc (Nat.le_refl _) _) f3)
      replace f4 := cell_later hb (cell_later ((Below.refl _ _).alloc (Nat.le_refl _) _) f4)
      have h0 := ((Row.later (Row.new _ _ _) hb).cell 0).trans (show _ = some (Value.int .i64 t.kind) from rfl)
      have h1 := ((Row.later (Row.new _ _ _) hb).cell 1).trans (show _ = some (Value.int .i64 t.len) from rfl)
      have h2 := ((Row.later (Row.new _ _ _) hb).cell 2).trans (show _ = some (Value.int .u64 t.h) from rfl)
      have h3 := ((Row.later (Row.new _ _ _) hb).cell 3).trans (show _ = some (Value.int .u64 t.l) from rfl)
      have h4 := ((Row.later (Row.new _ _ _) hb).cell 4).trans (show _ = some (Value.string ⟨t.path.toArray⟩) from rfl)
      replace hb0 := below_step (hb0.alloc hb0.size _) hb
      clear hb
      generalize w16.heap.size = gh at *
      have lc := World.block_lt_of_cell? _ _ c0
      dsimp only at lc
      have ld := World.block_lt_of_cell? _ _ d0
      dsimp only at ld
      have le := World.block_lt_of_cell? _ _ e0
      dsimp only at le
      have lf := World.block_lt_of_cell? _ _ f0
      dsimp only at lf
      have lh := World.block_lt_of_cell? _ _ h0
      dsimp only at lh
      go_wp2_with fail
      refine (HB _).mono ?_
      rintro e w18 ⟨rfl, hb⟩
      replace c0 := cell_later hb c0
      replace c1 := cell_later hb c1
      replace c2 := cell_later hb c2
      replace c3 := cell_later hb c3
      replace c4 := cell_later hb c4
      replace d0 := cell_later hb d0
      replace d1 := cell_later hb d1
      replace d2 := cell_later hb d2
      replace d3 := cell_later hb d3
      replace d4 := cell_later hb d4
      replace e0 := cell_later hb e0
      replace e1 := cell_later hb e1
      replace e2 := cell_later hb e2
      replace e3 := cell_later hb e3
      replace e4 := cell_later hb e4
      replace f0 := cell_later hb f0
      replace f1 := cell_later hb f1
      replace f2 := cell_later hb f2
      replace f3 := cell_later hb f3
      replace f4 := cell_later hb f4
      replace h0 := cell_later hb h0
      replace h1 := cell_later hb h1
      replace h2 := cell_later hb h2
      replace h3 := cell_later hb h3
      replace h4 := cell_later hb h4
      replace hb0 := below_step hb0 hb
      clear hb
      have lc := World.block_lt_of_cell? _ _ c0
      dsimp only at lc
      have ld := World.block_lt_of_cell? _ _ d0
      dsimp only at ld
      have le := World.block_lt_of_cell? _ _ e0
      dsimp only at le
      have lf := World.block_lt_of_cell? _ _ f0
      dsimp only at lf
      have lh := World.block_lt_of_cell? _ _ h0
      dsimp only at lh
      go_wp2_with fail
      refine wp_region_held_drew (S := (fun w' => w'.cell? ⟨w.heap.size, 0, none⟩ = some (.int .i64 a.kind) ∧ w'.cell? ⟨w.heap.size, 1, none⟩ = some (.int .i64 a.len) ∧ w'.cell? ⟨w.heap.size, 2, none⟩ = some (.int .u64 a.h) ∧ w'.cell? ⟨w.heap.size, 3, none⟩ = some (.int .u64 a.l) ∧ w'.cell? ⟨w.heap.size, 4, none⟩ = some (.string ⟨a.path.toArray⟩) ∧ w'.cell? ⟨w.heap.size + 1, 0, none⟩ = some (.int .i64 b.kind) ∧ w'.cell? ⟨w.heap.size + 1, 1, none⟩ = some (.int .i64 b.len) ∧ w'.cell? ⟨w.heap.size + 1, 2, none⟩ = some (.int .u64 b.h) ∧ w'.cell? ⟨w.heap.size + 1, 3, none⟩ = some (.int .u64 b.l) ∧ w'.cell? ⟨w.heap.size + 1, 4, none⟩ = some (.string ⟨b.path.toArray⟩) ∧ w'.cell? ⟨w.heap.size + 1 + 1, 0, none⟩ = some (.int .i64 x.kind) ∧ w'.cell? ⟨w.heap.size + 1 + 1, 1, none⟩ = some (.int .i64 x.len) ∧ w'.cell? ⟨w.heap.size + 1 + 1, 2, none⟩ = some (.int .u64 x.h) ∧ w'.cell? ⟨w.heap.size + 1 + 1, 3, none⟩ = some (.int .u64 x.l) ∧ w'.cell? ⟨w.heap.size + 1 + 1, 4, none⟩ = some (.string ⟨x.path.toArray⟩) ∧ w'.cell? ⟨gf, 0, none⟩ = some (Value.int .i64 t.kind) ∧ w'.cell? ⟨gf, 1, none⟩ = some (Value.int .i64 t.len) ∧ w'.cell? ⟨gf, 2, none⟩ = some (Value.int .u64 t.h) ∧ w'.cell? ⟨gf, 3, none⟩ = some (Value.int .u64 t.l) ∧ w'.cell? ⟨gf, 4, none⟩ = some (Value.string ⟨t.path.toArray⟩) ∧ w'.cell? ⟨gh, 0, none⟩ = some (Value.int .i64 t.kind) ∧ w'.cell? ⟨gh, 1, none⟩ = some (Value.int .i64 t.len) ∧ w'.cell? ⟨gh, 2, none⟩ = some (Value.int .u64 t.h) ∧ w'.cell? ⟨gh, 3, none⟩ = some (Value.int .u64 t.l) ∧ w'.cell? ⟨gh, 4, none⟩ = some (Value.string ⟨t.path.toArray⟩) ∧ Below w.heap.size w w')) (by kernel_rfl) ?hSr1_ (fun hHeld => ?_)
      case hSr1_ => (first | exact ⟨c0, c1, c2, c3, c4, d0, d1, d2, d3, d4, e0, e1, e2, e3, e4, f0, f1, f2, f3, f4, h0, h1, h2, h3, h4, hb0.drew⟩ | exact ⟨c0, c1, c2, c3, c4, d0, d1, d2, d3, d4, e0, e1, e2, e3, e4, f0, f1, f2, f3, f4, h0, h1, h2, h3, h4, hb0⟩ | (obtain ⟨c0, c1, c2, c3, c4, d0, d1, d2, d3, d4, e0, e1, e2, e3, e4, f0, f1, f2, f3, f4, h0, h1, h2, h3, h4, hb0⟩ := hHeld; exact ⟨cell_later hb c0, cell_later hb c1, cell_later hb c2, cell_later hb c3, cell_later hb c4, cell_later hb d0, cell_later hb d1, cell_later hb d2, cell_later hb d3, cell_later hb d4, cell_later hb e0, cell_later hb e1, cell_later hb e2, cell_later hb e3, cell_later hb e4, cell_later hb f0, cell_later hb f1, cell_later hb f2, cell_later hb f3, cell_later hb f4, cell_later hb h0, cell_later hb h1, cell_later hb h2, cell_later hb h3, cell_later hb h4, below_step hb0 hb⟩))
      refine wpAnyH_ready (rs := [0]) (by kernel_rfl) (by simp) ?_
      refine AllReadyH.cons (o := { dst := some 56, op := Go.Op.call { callee := Go.Callee.value (Go.Operand.func 18), args := #[], argTypes := #[] }, type := 4, pos := _, after := #[], guard := none }) rfl (fun K hK => ?_) AllReadyH.nil
      (go_simp; (refine (alive7_t _).mono ?_); (rintro e wn ⟨rfl, hb⟩); go_wp2_with fail)
      refine hK.out _ _ ?hSr1_1_0 (fun hHeld2 => ?_)
      case hSr1_1_0 => (first | exact ⟨c0, c1, c2, c3, c4, d0, d1, d2, d3, d4, e0, e1, e2, e3, e4, f0, f1, f2, f3, f4, h0, h1, h2, h3, h4, hb0.drew⟩ | exact ⟨c0, c1, c2, c3, c4, d0, d1, d2, d3, d4, e0, e1, e2, e3, e4, f0, f1, f2, f3, f4, h0, h1, h2, h3, h4, hb0⟩ | (obtain ⟨c0, c1, c2, c3, c4, d0, d1, d2, d3, d4, e0, e1, e2, e3, e4, f0, f1, f2, f3, f4, h0, h1, h2, h3, h4, hb0⟩ := hHeld; exact ⟨cell_later hb c0, cell_later hb c1, cell_later hb c2, cell_later hb c3, cell_later hb c4, cell_later hb d0, cell_later hb d1, cell_later hb d2, cell_later hb d3, cell_later hb d4, cell_later hb e0, cell_later hb e1, cell_later hb e2, cell_later hb e3, cell_later hb e4, cell_later hb f0, cell_later hb f1, cell_later hb f2, cell_later hb f3, cell_later hb f4, cell_later hb h0, cell_later hb h1, cell_later hb h2, cell_later hb h3, cell_later hb h4, below_step hb0 hb⟩))
      clear hK K hHeld
      have hHeld := hHeld2
      clear hHeld2
      (try simp only [Act.put, List.setIfInBounds_toArray, List.set_cons_zero, List.set_cons_succ])
      refine wpAnyH_take (i := 1) (oi := { dst := some 57, op := Go.Op.move (Go.Operand.tmp 56), type := 4, pos := _, after := #[{ on := 0, ground := Go.Ground.data }, { on := 0, ground := Go.Ground.chain }], guard := none }) (v := ?vr1_2_1) rfl (by kernel_rfl) (by kernel_rfl) (by kernel_rfl) (fun _ _ _ h => h) (Or.inl ⟨by rfl, ?yr1_2_1⟩) hHeld ?_
      case yr1_2_1 => ((intro w hSw; (try dsimp only at hSw); go_simp) <;> with_reducible rfl)
      (try simp only [Act.put, List.setIfInBounds_toArray, List.set_cons_zero, List.set_cons_succ])
      refine wpAnyH_take (i := 2) (oi := { dst := some 58, op := Go.Op.load 24 (Go.Operand.tmp 7), type := 24, pos := _, after := #[{ on := 1, ground := Go.Ground.guard }], guard := some (1, true) }) (v := ?vr1_3_2) rfl (by kernel_rfl) (by kernel_rfl) (by kernel_rfl) (fun _ _ _ h => h) (Or.inl ⟨by rfl, ?yr1_3_2⟩) hHeld ?_
      case yr1_3_2 => ((intro w hSw; (try dsimp only at hSw); go_simp) <;> with_reducible rfl)
      (try simp only [Act.put, List.setIfInBounds_toArray, List.set_cons_zero, List.set_cons_succ])
      refine wpAnyH_take (i := 3) (oi := { dst := some 59, op := Go.Op.load 24 (Go.Operand.tmp 3), type := 24, pos := _, after := #[{ on := 1, ground := Go.Ground.guard }], guard := some (1, true) }) (v := ?vr1_4_3) rfl (by kernel_rfl) (by kernel_rfl) (by kernel_rfl) (fun _ _ _ h => h) (Or.inl ⟨by rfl, ?yr1_4_3⟩) hHeld ?_
      case yr1_4_3 => ((intro w hSw; (try dsimp only at hSw); go_simp) <;> with_reducible rfl)
      (try simp only [Act.put, List.setIfInBounds_toArray, List.set_cons_zero, List.set_cons_succ])
      refine wpAnyH_ready (rs := [4]) (by kernel_rfl) (by simp) ?_
      refine AllReadyH.cons (o := { dst := some 60, op := Go.Op.call { callee := Go.Callee.value (Go.Operand.func 32), args := #[Go.Operand.tmp 58, Go.Operand.tmp 59], argTypes := #[24, 24] }, type := 4, pos := _, after := #[{ on := 2, ground := Go.Ground.data }, { on := 3, ground := Go.Ground.data }, { on := 1, ground := Go.Ground.chain }, { on := 1, ground := Go.Ground.guard }], guard := some (1, true) }) rfl (fun K hK => ?_) AllReadyH.nil
      (go_simp; (refine (HMA _).mono ?_); (rintro e wn ⟨rfl, hb⟩); go_wp2_with fail)
      refine hK.out _ _ ?hSr1_5_4 (fun hHeld2 => ?_)
      case hSr1_5_4 => (first | exact ⟨c0, c1, c2, c3, c4, d0, d1, d2, d3, d4, e0, e1, e2, e3, e4, f0, f1, f2, f3, f4, h0, h1, h2, h3, h4, hb0.drew⟩ | exact ⟨c0, c1, c2, c3, c4, d0, d1, d2, d3, d4, e0, e1, e2, e3, e4, f0, f1, f2, f3, f4, h0, h1, h2, h3, h4, hb0⟩ | (obtain ⟨c0, c1, c2, c3, c4, d0, d1, d2, d3, d4, e0, e1, e2, e3, e4, f0, f1, f2, f3, f4, h0, h1, h2, h3, h4, hb0⟩ := hHeld; exact ⟨cell_later hb c0, cell_later hb c1, cell_later hb c2, cell_later hb c3, cell_later hb c4, cell_later hb d0, cell_later hb d1, cell_later hb d2, cell_later hb d3, cell_later hb d4, cell_later hb e0, cell_later hb e1, cell_later hb e2, cell_later hb e3, cell_later hb e4, cell_later hb f0, cell_later hb f1, cell_later hb f2, cell_later hb f3, cell_later hb f4, cell_later hb h0, cell_later hb h1, cell_later hb h2, cell_later hb h3, cell_later hb h4, below_step hb0 hb⟩))
      clear hK K hHeld
      have hHeld := hHeld2
      clear hHeld2
      (try simp only [Act.put, List.setIfInBounds_toArray, List.set_cons_zero, List.set_cons_succ])
      refine wpAnyH_take (i := 5) (oi := { dst := some 61, op := Go.Op.pick (Go.Operand.tmp 57) (Go.Operand.tmp 60) (Go.Operand.const (Go.Value.bool false)), type := 4, pos := _, after := #[{ on := 1, ground := Go.Ground.data }, { on := 4, ground := Go.Ground.data }], guard := none }) (v := ?vr1_6_5) rfl (by kernel_rfl) (by kernel_rfl) (by kernel_rfl) (fun _ _ _ h => h) (Or.inl ⟨by rfl, ?yr1_6_5⟩) hHeld ?_
      case yr1_6_5 => ((intro w hSw; (try dsimp only at hSw); go_simp) <;> with_reducible rfl)
      (try simp only [Act.put, List.setIfInBounds_toArray, List.set_cons_zero, List.set_cons_succ])
      refine wpAnyH_take (i := 6) (oi := { dst := some 62, op := Go.Op.move (Go.Operand.tmp 61), type := 4, pos := _, after := #[{ on := 5, ground := Go.Ground.data }, { on := 4, ground := Go.Ground.chain }], guard := none }) (v := ?vr1_7_6) rfl (by kernel_rfl) (by kernel_rfl) (by kernel_rfl) (fun _ _ _ h => h) (Or.inl ⟨by rfl, ?yr1_7_6⟩) hHeld ?_
      case yr1_7_6 => ((intro w hSw; (try dsimp only at hSw); go_simp) <;> with_reducible rfl)
      (try simp only [Act.put, List.setIfInBounds_toArray, List.set_cons_zero, List.set_cons_succ])
      refine wpAnyH_take (i := 7) (oi := { dst := some 63, op := Go.Op.load 24 (Go.Operand.tmp 7), type := 24, pos := _, after := #[{ on := 6, ground := Go.Ground.guard }], guard := some (6, true) }) (v := ?vr1_8_7) rfl (by kernel_rfl) (by kernel_rfl) (by kernel_rfl) (fun _ _ _ h => h) (Or.inl ⟨by rfl, ?yr1_8_7⟩) hHeld ?_
      case yr1_8_7 => ((intro w hSw; (try dsimp only at hSw); go_simp) <;> with_reducible rfl)
      (try simp only [Act.put, List.setIfInBounds_toArray, List.set_cons_zero, List.set_cons_succ])
      refine wpAnyH_take (i := 8) (oi := { dst := some 64, op := Go.Op.load 24 (Go.Operand.tmp 4), type := 24, pos := _, after := #[{ on := 6, ground := Go.Ground.guard }], guard := some (6, true) }) (v := ?vr1_9_8) rfl (by kernel_rfl) (by kernel_rfl) (by kernel_rfl) (fun _ _ _ h => h) (Or.inl ⟨by rfl, ?yr1_9_8⟩) hHeld ?_
      case yr1_9_8 => ((intro w hSw; (try dsimp only at hSw); go_simp) <;> with_reducible rfl)
      (try simp only [Act.put, List.setIfInBounds_toArray, List.set_cons_zero, List.set_cons_succ])
      refine wpAnyH_ready (rs := [9]) (by kernel_rfl) (by simp) ?_
      refine AllReadyH.cons (o := { dst := some 65, op := Go.Op.call { callee := Go.Callee.value (Go.Operand.func 32), args := #[Go.Operand.tmp 63, Go.Operand.tmp 64], argTypes := #[24, 24] }, type := 4, pos := _, after := #[{ on := 7, ground := Go.Ground.data }, { on := 8, ground := Go.Ground.data }, { on := 6, ground := Go.Ground.chain }, { on := 6, ground := Go.Ground.guard }], guard := some (6, true) }) rfl (fun K hK => ?_) AllReadyH.nil
      (go_simp; (refine (HMB _).mono ?_); (rintro e wn ⟨rfl, hb⟩); go_wp2_with fail)
      refine hK.out _ _ ?hSr1_10_9 (fun hHeld2 => ?_)
      case hSr1_10_9 => (first | exact ⟨c0, c1, c2, c3, c4, d0, d1, d2, d3, d4, e0, e1, e2, e3, e4, f0, f1, f2, f3, f4, h0, h1, h2, h3, h4, hb0.drew⟩ | exact ⟨c0, c1, c2, c3, c4, d0, d1, d2, d3, d4, e0, e1, e2, e3, e4, f0, f1, f2, f3, f4, h0, h1, h2, h3, h4, hb0⟩ | (obtain ⟨c0, c1, c2, c3, c4, d0, d1, d2, d3, d4, e0, e1, e2, e3, e4, f0, f1, f2, f3, f4, h0, h1, h2, h3, h4, hb0⟩ := hHeld; exact ⟨cell_later hb c0, cell_later hb c1, cell_later hb c2, cell_later hb c3, cell_later hb c4, cell_later hb d0, cell_later hb d1, cell_later hb d2, cell_later hb d3, cell_later hb d4, cell_later hb e0, cell_later hb e1, cell_later hb e2, cell_later hb e3, cell_later hb e4, cell_later hb f0, cell_later hb f1, cell_later hb f2, cell_later hb f3, cell_later hb f4, cell_later hb h0, cell_later hb h1, cell_later hb h2, cell_later hb h3, cell_later hb h4, below_step hb0 hb⟩))
      clear hK K hHeld
      have hHeld := hHeld2
      clear hHeld2
      (try simp only [Act.put, List.setIfInBounds_toArray, List.set_cons_zero, List.set_cons_succ])
      refine wpAnyH_take (i := 10) (oi := { dst := some 66, op := Go.Op.pick (Go.Operand.tmp 62) (Go.Operand.tmp 65) (Go.Operand.const (Go.Value.bool false)), type := 4, pos := _, after := #[{ on := 6, ground := Go.Ground.data }, { on := 9, ground := Go.Ground.data }], guard := none }) (v := ?vr1_11_10) rfl (by kernel_rfl) (by kernel_rfl) (by kernel_rfl) (fun _ _ _ h => h) (Or.inl ⟨by rfl, ?yr1_11_10⟩) hHeld ?_
      case yr1_11_10 => ((intro w hSw; (try dsimp only at hSw); go_simp) <;> with_reducible rfl)
      (try simp only [Act.put, List.setIfInBounds_toArray, List.set_cons_zero, List.set_cons_succ])
      refine wpAnyH_take (i := 11) (oi := { dst := some 67, op := Go.Op.move (Go.Operand.tmp 66), type := 4, pos := _, after := #[{ on := 10, ground := Go.Ground.data }, { on := 9, ground := Go.Ground.chain }], guard := none }) (v := ?vr1_12_11) rfl (by kernel_rfl) (by kernel_rfl) (by kernel_rfl) (fun _ _ _ h => h) (Or.inl ⟨by rfl, ?yr1_12_11⟩) hHeld ?_
      case yr1_12_11 => ((intro w hSw; (try dsimp only at hSw); go_simp) <;> with_reducible rfl)
      (try simp only [Act.put, List.setIfInBounds_toArray, List.set_cons_zero, List.set_cons_succ])
      refine wpAnyH_take (i := 12) (oi := { dst := some 68, op := Go.Op.load 24 (Go.Operand.tmp 5), type := 24, pos := _, after := #[{ on := 11, ground := Go.Ground.guard }], guard := some (11, true) }) (v := ?vr1_13_12) rfl (by kernel_rfl) (by kernel_rfl) (by kernel_rfl) (fun _ _ _ h => h) (Or.inl ⟨by rfl, ?yr1_13_12⟩) hHeld ?_
      case yr1_13_12 => ((intro w hSw; (try dsimp only at hSw); go_simp) <;> with_reducible rfl)
      (try simp only [Act.put, List.setIfInBounds_toArray, List.set_cons_zero, List.set_cons_succ])
      refine wpAnyH_take (i := 13) (oi := { dst := some 69, op := Go.Op.load 24 (Go.Operand.tmp 3), type := 24, pos := _, after := #[{ on := 11, ground := Go.Ground.guard }], guard := some (11, true) }) (v := ?vr1_14_13) rfl (by kernel_rfl) (by kernel_rfl) (by kernel_rfl) (fun _ _ _ h => h) (Or.inl ⟨by rfl, ?yr1_14_13⟩) hHeld ?_
      case yr1_14_13 => ((intro w hSw; (try dsimp only at hSw); go_simp) <;> with_reducible rfl)
      (try simp only [Act.put, List.setIfInBounds_toArray, List.set_cons_zero, List.set_cons_succ])
      refine wpAnyH_take (i := 20) (oi := { dst := some 76, op := Go.Op.load 24 (Go.Operand.tmp 5), type := 24, pos := _, after := #[{ on := 11, ground := Go.Ground.guard }], guard := some (11, true) }) (v := ?vr1_15_20) rfl (by kernel_rfl) (by kernel_rfl) (by kernel_rfl) (fun _ _ _ h => h) (Or.inl ⟨by rfl, ?yr1_15_20⟩) hHeld ?_
      case yr1_15_20 => ((intro w hSw; (try dsimp only at hSw); go_simp) <;> with_reducible rfl)
      (try simp only [Act.put, List.setIfInBounds_toArray, List.set_cons_zero, List.set_cons_succ])
      refine wpAnyH_take (i := 21) (oi := { dst := some 77, op := Go.Op.load 24 (Go.Operand.tmp 7), type := 24, pos := _, after := #[{ on := 11, ground := Go.Ground.guard }], guard := some (11, true) }) (v := ?vr1_16_21) rfl (by kernel_rfl) (by kernel_rfl) (by kernel_rfl) (fun _ _ _ h => h) (Or.inl ⟨by rfl, ?yr1_16_21⟩) hHeld ?_
      case yr1_16_21 => ((intro w hSw; (try dsimp only at hSw); go_simp) <;> with_reducible rfl)
      (try simp only [Act.put, List.setIfInBounds_toArray, List.set_cons_zero, List.set_cons_succ])
      refine wpAnyH_ready (rs := [14]) (by kernel_rfl) (by simp) ?_
      refine AllReadyH.cons (o := { dst := some 70, op := Go.Op.call { callee := Go.Callee.value (Go.Operand.func 32), args := #[Go.Operand.tmp 68, Go.Operand.tmp 69], argTypes := #[24, 24] }, type := 4, pos := _, after := #[{ on := 12, ground := Go.Ground.data }, { on := 13, ground := Go.Ground.data }, { on := 11, ground := Go.Ground.chain }, { on := 11, ground := Go.Ground.guard }], guard := some (11, true) }) rfl (fun K hK => ?_) AllReadyH.nil
      (go_simp; (refine (HXA _).mono ?_); (rintro e wn ⟨rfl, hb⟩); go_wp2_with fail)
      refine hK.out _ _ ?hSr1_17_14 (fun hHeld2 => ?_)
      case hSr1_17_14 => (first | exact ⟨c0, c1, c2, c3, c4, d0, d1, d2, d3, d4, e0, e1, e2, e3, e4, f0, f1, f2, f3, f4, h0, h1, h2, h3, h4, hb0.drew⟩ | exact ⟨c0, c1, c2, c3, c4, d0, d1, d2, d3, d4, e0, e1, e2, e3, e4, f0, f1, f2, f3, f4, h0, h1, h2, h3, h4, hb0⟩ | (obtain ⟨c0, c1, c2, c3, c4, d0, d1, d2, d3, d4, e0, e1, e2, e3, e4, f0, f1, f2, f3, f4, h0, h1, h2, h3, h4, hb0⟩ := hHeld; exact ⟨cell_later hb c0, cell_later hb c1, cell_later hb c2, cell_later hb c3, cell_later hb c4, cell_later hb d0, cell_later hb d1, cell_later hb d2, cell_later hb d3, cell_later hb d4, cell_later hb e0, cell_later hb e1, cell_later hb e2, cell_later hb e3, cell_later hb e4, cell_later hb f0, cell_later hb f1, cell_later hb f2, cell_later hb f3, cell_later hb f4, cell_later hb h0, cell_later hb h1, cell_later hb h2, cell_later hb h3, cell_later hb h4, below_step hb0 hb⟩))
      clear hK K hHeld
      have hHeld := hHeld2
      clear hHeld2
      (try simp only [Act.put, List.setIfInBounds_toArray, List.set_cons_zero, List.set_cons_succ])
      refine wpAnyH_take (i := 15) (oi := { dst := some 71, op := Go.Op.move (Go.Operand.tmp 70), type := 4, pos := _, after := #[{ on := 14, ground := Go.Ground.data }, { on := 14, ground := Go.Ground.chain }, { on := 11, ground := Go.Ground.guard }], guard := some (11, true) }) (v := ?vr1_18_15) rfl (by kernel_rfl) (by kernel_rfl) (by kernel_rfl) (fun _ _ _ h => h) (Or.inl ⟨by rfl, ?yr1_18_15⟩) hHeld ?_
      case yr1_18_15 => ((intro w hSw; (try dsimp only at hSw); go_simp) <;> with_reducible rfl)
      (try simp only [Act.put, List.setIfInBounds_toArray, List.set_cons_zero, List.set_cons_succ])
      refine wpAnyH_take (i := 16) (oi := { dst := some 72, op := Go.Op.load 24 (Go.Operand.tmp 5), type := 24, pos := _, after := #[{ on := 15, ground := Go.Ground.guard }], guard := some (15, true) }) (v := undef) rfl (by kernel_rfl) (by kernel_rfl) (by kernel_rfl) (fun _ _ _ h => h) (Or.inr ⟨by rfl, rfl⟩) hHeld ?_
      (try simp only [Act.put, List.setIfInBounds_toArray, List.set_cons_zero, List.set_cons_succ])
      refine wpAnyH_take (i := 17) (oi := { dst := some 73, op := Go.Op.load 24 (Go.Operand.tmp 4), type := 24, pos := _, after := #[{ on := 15, ground := Go.Ground.guard }], guard := some (15, true) }) (v := undef) rfl (by kernel_rfl) (by kernel_rfl) (by kernel_rfl) (fun _ _ _ h => h) (Or.inr ⟨by rfl, rfl⟩) hHeld ?_
      (try simp only [Act.put, List.setIfInBounds_toArray, List.set_cons_zero, List.set_cons_succ])
      refine wpAnyH_take (i := 18) (oi := { dst := some 74, op := Go.Op.call { callee := Go.Callee.value (Go.Operand.func 32), args := #[Go.Operand.tmp 72, Go.Operand.tmp 73], argTypes := #[24, 24] }, type := 4, pos := _, after := #[{ on := 16, ground := Go.Ground.data }, { on := 17, ground := Go.Ground.data }, { on := 15, ground := Go.Ground.chain }, { on := 15, ground := Go.Ground.guard }], guard := some (15, true) }) (v := undef) rfl (by kernel_rfl) (by kernel_rfl) (by kernel_rfl) (fun _ _ _ h => h) (Or.inr ⟨by rfl, rfl⟩) hHeld ?_
      (try simp only [Act.put, List.setIfInBounds_toArray, List.set_cons_zero, List.set_cons_succ])
      refine wpAnyH_take (i := 19) (oi := { dst := some 75, op := Go.Op.pick (Go.Operand.tmp 71) (Go.Operand.tmp 74) (Go.Operand.const (Go.Value.bool false)), type := 4, pos := _, after := #[{ on := 15, ground := Go.Ground.data }, { on := 18, ground := Go.Ground.data }, { on := 11, ground := Go.Ground.guard }], guard := some (11, true) }) (v := ?vr1_22_19) rfl (by kernel_rfl) (by kernel_rfl) (by kernel_rfl) (fun _ _ _ h => h) (Or.inl ⟨by rfl, ?yr1_22_19⟩) hHeld ?_
      case yr1_22_19 => ((intro w hSw; (try dsimp only at hSw); go_simp) <;> with_reducible rfl)
      (try simp only [Act.put, List.setIfInBounds_toArray, List.set_cons_zero, List.set_cons_succ])
      refine wpAnyH_ready (rs := [22]) (by kernel_rfl) (by simp) ?_
      refine AllReadyH.cons (o := { dst := some 78, op := Go.Op.call { callee := Go.Callee.value (Go.Operand.func 32), args := #[Go.Operand.tmp 76, Go.Operand.tmp 77], argTypes := #[24, 24] }, type := 4, pos := _, after := #[{ on := 20, ground := Go.Ground.data }, { on := 21, ground := Go.Ground.data }, { on := 18, ground := Go.Ground.chain }, { on := 11, ground := Go.Ground.guard }], guard := some (11, true) }) rfl (fun K hK => ?_) AllReadyH.nil
      (go_simp; (refine (HXM _).mono ?_); (rintro e wn ⟨rfl, hb⟩); go_wp2_with fail)
      refine hK.out _ _ ?hSr1_23_22 (fun hHeld2 => ?_)
      case hSr1_23_22 => (first | exact ⟨c0, c1, c2, c3, c4, d0, d1, d2, d3, d4, e0, e1, e2, e3, e4, f0, f1, f2, f3, f4, h0, h1, h2, h3, h4, hb0.drew⟩ | exact ⟨c0, c1, c2, c3, c4, d0, d1, d2, d3, d4, e0, e1, e2, e3, e4, f0, f1, f2, f3, f4, h0, h1, h2, h3, h4, hb0⟩ | (obtain ⟨c0, c1, c2, c3, c4, d0, d1, d2, d3, d4, e0, e1, e2, e3, e4, f0, f1, f2, f3, f4, h0, h1, h2, h3, h4, hb0⟩ := hHeld; exact ⟨cell_later hb c0, cell_later hb c1, cell_later hb c2, cell_later hb c3, cell_later hb c4, cell_later hb d0, cell_later hb d1, cell_later hb d2, cell_later hb d3, cell_later hb d4, cell_later hb e0, cell_later hb e1, cell_later hb e2, cell_later hb e3, cell_later hb e4, cell_later hb f0, cell_later hb f1, cell_later hb f2, cell_later hb f3, cell_later hb f4, cell_later hb h0, cell_later hb h1, cell_later hb h2, cell_later hb h3, cell_later hb h4, below_step hb0 hb⟩))
      clear hK K hHeld
      have hHeld := hHeld2
      clear hHeld2
      (try simp only [Act.put, List.setIfInBounds_toArray, List.set_cons_zero, List.set_cons_succ])
      refine wpAnyH_take (i := 23) (oi := { dst := some 79, op := Go.Op.binOp Go.BinOp.eql 4 (Go.Operand.tmp 75) (Go.Operand.tmp 78) 4, type := 4, pos := _, after := #[{ on := 19, ground := Go.Ground.data }, { on := 22, ground := Go.Ground.data }, { on := 11, ground := Go.Ground.guard }], guard := some (11, true) }) (v := ?vr1_24_23) rfl (by kernel_rfl) (by kernel_rfl) (by kernel_rfl) (fun _ _ _ h => h) (Or.inl ⟨by rfl, ?yr1_24_23⟩) hHeld ?_
      case yr1_24_23 => ((intro w hSw; (try dsimp only at hSw); go_simp) <;> with_reducible rfl)
      (try simp only [Act.put, List.setIfInBounds_toArray, List.set_cons_zero, List.set_cons_succ])
      refine wpAnyH_take (i := 24) (oi := { dst := some 80, op := Go.Op.pick (Go.Operand.tmp 67) (Go.Operand.tmp 79) (Go.Operand.const (Go.Value.bool false)), type := 4, pos := _, after := #[{ on := 11, ground := Go.Ground.data }, { on := 23, ground := Go.Ground.data }], guard := none }) (v := ?vr1_25_24) rfl (by kernel_rfl) (by kernel_rfl) (by kernel_rfl) (fun _ _ _ h => h) (Or.inl ⟨by rfl, ?yr1_25_24⟩) hHeld ?_
      case yr1_25_24 => ((intro w hSw; (try dsimp only at hSw); go_simp) <;> with_reducible rfl)
      (try simp only [Act.put, List.setIfInBounds_toArray, List.set_cons_zero, List.set_cons_succ])
      refine wpAnyH_take (i := 25) (oi := { dst := some 6, op := Go.Op.assign (Go.Operand.tmp 80), type := 4, pos := _, after := #[{ on := 24, ground := Go.Ground.data }, { on := 22, ground := Go.Ground.chain }, { on := 0, ground := Go.Ground.phase }, { on := 1, ground := Go.Ground.phase }, { on := 2, ground := Go.Ground.phase }, { on := 3, ground := Go.Ground.phase }, { on := 4, ground := Go.Ground.phase }, { on := 5, ground := Go.Ground.phase }, { on := 6, ground := Go.Ground.phase }, { on := 7, ground := Go.Ground.phase }, { on := 8, ground := Go.Ground.phase }, { on := 9, ground := Go.Ground.phase }, { on := 10, ground := Go.Ground.phase }, { on := 11, ground := Go.Ground.phase }, { on := 12, ground := Go.Ground.phase }, { on := 13, ground := Go.Ground.phase }, { on := 14, ground := Go.Ground.phase }, { on := 15, ground := Go.Ground.phase }, { on := 16, ground := Go.Ground.phase }, { on := 17, ground := Go.Ground.phase }, { on := 18, ground := Go.Ground.phase }, { on := 19, ground := Go.Ground.phase }, { on := 20, ground := Go.Ground.phase }, { on := 21, ground := Go.Ground.phase }, { on := 22, ground := Go.Ground.phase }, { on := 23, ground := Go.Ground.phase }, { on := 24, ground := Go.Ground.phase }], guard := none }) (v := ?vr1_26_25) rfl (by kernel_rfl) (by kernel_rfl) (by kernel_rfl) (fun _ _ _ h => h) (Or.inl ⟨by rfl, ?yr1_26_25⟩) hHeld ?_
      case yr1_26_25 => ((intro w hSw; (try dsimp only at hSw); go_simp) <;> with_reducible rfl)
      (try simp only [Act.put, List.setIfInBounds_toArray, List.set_cons_zero, List.set_cons_succ])
      refine wpAnyH_done (by kernel_rfl) ?_ _
      clear c0 c1 c2 c3 c4 d0 d1 d2 d3 d4 e0 e1 e2 e3 e4 f0 f1 f2 f3 f4 h0 h1 h2 h3 h4 hb0
      obtain ⟨c0, c1, c2, c3, c4, d0, d1, d2, d3, d4, e0, e1, e2, e3, e4, f0, f1, f2, f3, f4, h0, h1, h2, h3, h4, hb0⟩ := hHeld
      go_wp2
      go_ret
      exact ⟨rfl, hb0⟩
    case false.true =>
      go_enter Try.func9, Try.ntmps9
      go_wp2_with fail
      refine (HM _).mono ?_
      rintro e w19 ⟨rfl, hb⟩
      replace c0 := cell_later hb c0
      replace c1 := cell_later hb c1
      replace c2 := cell_later hb c2
      replace c3 := cell_later hb c3
      replace c4 := cell_later hb c4
      replace d0 := cell_later hb d0
      replace d1 := cell_later hb d1
      replace d2 := cell_later hb d2
      replace d3 := cell_later hb d3
      replace d4 := cell_later hb d4
      replace e0 := cell_later hb e0
      replace e1 := cell_later hb e1
      replace e2 := cell_later hb e2
      replace e3 := cell_later hb e3
      replace e4 := cell_later hb e4
      replace hb0 := below_step hb0 hb
      clear hb
      have lc := World.block_lt_of_cell? _ _ c0
      dsimp only at lc
      have ld := World.block_lt_of_cell? _ _ d0
      dsimp only at ld
      have le := World.block_lt_of_cell? _ _ e0
      dsimp only at le
      go_wp2_with fail
      refine (HN _).mono ?_
      rintro e w20 ⟨rfl, hb⟩
      replace c0 := cell_later hb (cell_later ((Below.refl _ _).alloc (Nat.le_refl _) _) c0)
      replace c1 := cell_later hb (cell_later ((Below.refl _ _).alloc (Nat.le_refl _) _) c1)
      replace c2 := cell_later hb (cell_later ((Below.refl _ _).alloc (Nat.le_refl _) _) c2)
      replace c3 := cell_later hb (cell_later ((Below.refl _ _).alloc (Nat.le_refl _) _) c3)
      replace c4 := cell_later hb (cell_later ((Below.refl _ _).alloc (Nat.le_refl _) _) c4)
      replace d0 := cell_later hb (cell_later ((Below.refl _ _).alloc (Nat.le_refl _) _) d0)
      replace d1 := cell_later hb (cell_later ((Below.refl _ _).alloc (Nat.le_refl _) _) d1)
      replace d2 := cell_later hb (cell_later ((Below.refl _ _).alloc (Nat.le_refl _) _) d2)
      replace d3 := cell_later hb (cell_later ((Below.refl _ _).alloc (Nat.le_refl _) _) d3)
      replace d4 := cell_later hb (cell_later ((Below.refl _ _).alloc (Nat.le_refl _) _) d4)
      replace e0 := cell_later hb (cell_later ((Below.refl _ _).alloc (Nat.le_refl _) _) e0)
      replace e1 := cell_later hb (cell_later ((Below.refl _ _).alloc (Nat.le_refl _) _) e1)
      replace e2 := cell_later hb (cell_later ((Below.refl _ _).alloc (Nat.le_refl _) _) e2)
      replace e3 := cell_later hb (cell_later ((Below.refl _ _).alloc (Nat.le_refl _) _) e3)
      replace e4 := cell_later hb (cell_later ((Below.refl _ _).alloc (Nat.le_refl _) _) e4)
      have f0 := ((Row.later (Row.new _ _ _) hb).cell 0).trans (show _ = some (Value.int .i64 t.kind) from rfl)
      have f1 := ((Row.later (Row.new _ _ _) hb).cell 1).trans (show _ = some (Value.int .i64 t.len) from rfl)
      have f2 := ((Row.later (Row.new _ _ _) hb).cell 2).trans (show _ = some (Value.int .u64 t.h) from rfl)
      have f3 := ((Row.later (Row.new _ _ _) hb).cell 3).trans (show _ = some (Value.int .u64 t.l) from rfl)
      have f4 := ((Row.later (Row.new _ _ _) hb).cell 4).trans (show _ = some (Value.string ⟨t.path.toArray⟩) from rfl)
      replace hb0 := below_step (hb0.alloc hb0.size _) hb
      clear hb
      generalize w19.heap.size = gf at *
      have lc := World.block_lt_of_cell? _ _ c0
      dsimp only at lc
      have ld := World.block_lt_of_cell? _ _ d0
      dsimp only at ld
      have le := World.block_lt_of_cell? _ _ e0
      dsimp only at le
      have lf := World.block_lt_of_cell? _ _ f0
      dsimp only at lf
      go_wp2_with fail
      refine (HA _).mono ?_
      rintro e w21 ⟨rfl, hb⟩
      replace c0 := cell_later hb (cell_later ((Below.refl _ _).alloc (Nat.le_refl _) _) c0)
      replace c1 := cell_later hb (cell_later ((Below.refl _ _).alloc (Nat.le_refl _) _) c1)
      replace c2 := cell_later hb (cell_later ((Below.refl _ _).alloc (Nat.le_refl _) _) c2)
      replace c3 := cell_later hb (cell_later ((Below.refl _ _).alloc (Nat.le_refl _) _) c3)
      replace c4 := cell_later hb (cell_later ((Below.refl _ _).alloc (Nat.le_refl _) _) c4)
      replace d0 := cell_later hb (cell_later ((Below.refl _ _).alloc (Nat.le_refl _) _) d0)
      replace d1 := cell_later hb (cell_later ((Below.refl _ _).alloc (Nat.le_refl _) _) d1)
      replace d2 := cell_later hb (cell_later ((Below.refl _ _).alloc (Nat.le_refl _) _) d2)
      replace d3 := cell_later hb (cell_later ((Below.refl _ _).alloc (Nat.le_refl _) _) d3)
      replace d4 := cell_later hb (cell_later ((Below.refl _ _).alloc (Nat.le_refl _) _) d4)
      replace e0 := cell_later hb (cell_later ((Below.refl _ _).alloc (Nat.le_refl _) _) e0)
      replace e1 := cell_later hb (cell_later ((Below.refl _ _).alloc (Nat.le_refl _) _) e1)
      replace e2 := cell_later hb (cell_later ((Below.refl _ _).alloc (Nat.le_refl _) _) e2)
      replace e3 := cell_later hb (cell_later ((Below.refl _ _).alloc (Nat.le_refl _) _) e3)
      replace e4 := cell_later hb (cell_later ((Below.refl _ _).alloc (Nat.le_refl _) _) e4)
      replace f0 := cell_later hb (cell_later ((Below.refl _ _).alloc (Nat.le_refl _) _) f0)
      replace f1 := cell_later hb (cell_later ((Below.refl _ _).alloc (Nat.le_refl _) _) f1)
      replace f2 := cell_later hb (cell_later ((Below.refl _ _).alloc (Nat.le_refl _) _) f2)
      replace f3 := cell_later hb (cell_later ((Below.refl _ _).alloc (Nat.le_refl _) _) f3)
      replace f4 := cell_later hb (cell_later ((Below.refl _ _).alloc (Nat.le_refl _) _) f4)
      have h0 := ((Row.later (Row.new _ _ _) hb).cell 0).trans (show _ = some (Value.int .i64 t.kind) from rfl)
      have h1 := ((Row.later (Row.new _ _ _) hb).cell 1).trans (show _ = some (Value.int .i64 t.len) from rfl)
      have h2 := ((Row.later (Row.new _ _ _) hb).cell 2).trans (show _ = some (Value.int .u64 t.h) from rfl)
      have h3 := ((Row.later (Row.new _ _ _) hb).cell 3).trans (show _ = some (Value.int .u64 t.l) from rfl)
      have h4 := ((Row.later (Row.new _ _ _) hb).cell 4).trans (show _ = some (Value.string ⟨t.path.toArray⟩) from rfl)
      replace hb0 := below_step (hb0.alloc hb0.size _) hb
      clear hb
      generalize w20.heap.size = gh at *
      have lc := World.block_lt_of_cell? _ _ c0
      dsimp only at lc
      have ld := World.block_lt_of_cell? _ _ d0
      dsimp only at ld
      have le := World.block_lt_of_cell? _ _ e0
      dsimp only at le
      have lf := World.block_lt_of_cell? _ _ f0
      dsimp only at lf
      have lh := World.block_lt_of_cell? _ _ h0
      dsimp only at lh
      go_wp2_with fail
      refine (HB _).mono ?_
      rintro e w22 ⟨rfl, hb⟩
      replace c0 := cell_later hb c0
      replace c1 := cell_later hb c1
      replace c2 := cell_later hb c2
      replace c3 := cell_later hb c3
      replace c4 := cell_later hb c4
      replace d0 := cell_later hb d0
      replace d1 := cell_later hb d1
      replace d2 := cell_later hb d2
      replace d3 := cell_later hb d3
      replace d4 := cell_later hb d4
      replace e0 := cell_later hb e0
      replace e1 := cell_later hb e1
      replace e2 := cell_later hb e2
      replace e3 := cell_later hb e3
      replace e4 := cell_later hb e4
      replace f0 := cell_later hb f0
      replace f1 := cell_later hb f1
      replace f2 := cell_later hb f2
      replace f3 := cell_later hb f3
      replace f4 := cell_later hb f4
      replace h0 := cell_later hb h0
      replace h1 := cell_later hb h1
      replace h2 := cell_later hb h2
      replace h3 := cell_later hb h3
      replace h4 := cell_later hb h4
      replace hb0 := below_step hb0 hb
      clear hb
      have lc := World.block_lt_of_cell? _ _ c0
      dsimp only at lc
      have ld := World.block_lt_of_cell? _ _ d0
      dsimp only at ld
      have le := World.block_lt_of_cell? _ _ e0
      dsimp only at le
      have lf := World.block_lt_of_cell? _ _ f0
      dsimp only at lf
      have lh := World.block_lt_of_cell? _ _ h0
      dsimp only at lh
      go_wp2_with fail
      refine wp_region_held_drew (S := (fun w' => w'.cell? ⟨w.heap.size, 0, none⟩ = some (.int .i64 a.kind) ∧ w'.cell? ⟨w.heap.size, 1, none⟩ = some (.int .i64 a.len) ∧ w'.cell? ⟨w.heap.size, 2, none⟩ = some (.int .u64 a.h) ∧ w'.cell? ⟨w.heap.size, 3, none⟩ = some (.int .u64 a.l) ∧ w'.cell? ⟨w.heap.size, 4, none⟩ = some (.string ⟨a.path.toArray⟩) ∧ w'.cell? ⟨w.heap.size + 1, 0, none⟩ = some (.int .i64 b.kind) ∧ w'.cell? ⟨w.heap.size + 1, 1, none⟩ = some (.int .i64 b.len) ∧ w'.cell? ⟨w.heap.size + 1, 2, none⟩ = some (.int .u64 b.h) ∧ w'.cell? ⟨w.heap.size + 1, 3, none⟩ = some (.int .u64 b.l) ∧ w'.cell? ⟨w.heap.size + 1, 4, none⟩ = some (.string ⟨b.path.toArray⟩) ∧ w'.cell? ⟨w.heap.size + 1 + 1, 0, none⟩ = some (.int .i64 x.kind) ∧ w'.cell? ⟨w.heap.size + 1 + 1, 1, none⟩ = some (.int .i64 x.len) ∧ w'.cell? ⟨w.heap.size + 1 + 1, 2, none⟩ = some (.int .u64 x.h) ∧ w'.cell? ⟨w.heap.size + 1 + 1, 3, none⟩ = some (.int .u64 x.l) ∧ w'.cell? ⟨w.heap.size + 1 + 1, 4, none⟩ = some (.string ⟨x.path.toArray⟩) ∧ w'.cell? ⟨gf, 0, none⟩ = some (Value.int .i64 t.kind) ∧ w'.cell? ⟨gf, 1, none⟩ = some (Value.int .i64 t.len) ∧ w'.cell? ⟨gf, 2, none⟩ = some (Value.int .u64 t.h) ∧ w'.cell? ⟨gf, 3, none⟩ = some (Value.int .u64 t.l) ∧ w'.cell? ⟨gf, 4, none⟩ = some (Value.string ⟨t.path.toArray⟩) ∧ w'.cell? ⟨gh, 0, none⟩ = some (Value.int .i64 t.kind) ∧ w'.cell? ⟨gh, 1, none⟩ = some (Value.int .i64 t.len) ∧ w'.cell? ⟨gh, 2, none⟩ = some (Value.int .u64 t.h) ∧ w'.cell? ⟨gh, 3, none⟩ = some (Value.int .u64 t.l) ∧ w'.cell? ⟨gh, 4, none⟩ = some (Value.string ⟨t.path.toArray⟩) ∧ Below w.heap.size w w')) (by kernel_rfl) ?hSr2_ (fun hHeld => ?_)
      case hSr2_ => (first | exact ⟨c0, c1, c2, c3, c4, d0, d1, d2, d3, d4, e0, e1, e2, e3, e4, f0, f1, f2, f3, f4, h0, h1, h2, h3, h4, hb0.drew⟩ | exact ⟨c0, c1, c2, c3, c4, d0, d1, d2, d3, d4, e0, e1, e2, e3, e4, f0, f1, f2, f3, f4, h0, h1, h2, h3, h4, hb0⟩ | (obtain ⟨c0, c1, c2, c3, c4, d0, d1, d2, d3, d4, e0, e1, e2, e3, e4, f0, f1, f2, f3, f4, h0, h1, h2, h3, h4, hb0⟩ := hHeld; exact ⟨cell_later hb c0, cell_later hb c1, cell_later hb c2, cell_later hb c3, cell_later hb c4, cell_later hb d0, cell_later hb d1, cell_later hb d2, cell_later hb d3, cell_later hb d4, cell_later hb e0, cell_later hb e1, cell_later hb e2, cell_later hb e3, cell_later hb e4, cell_later hb f0, cell_later hb f1, cell_later hb f2, cell_later hb f3, cell_later hb f4, cell_later hb h0, cell_later hb h1, cell_later hb h2, cell_later hb h3, cell_later hb h4, below_step hb0 hb⟩))
      refine wpAnyH_ready (rs := [0]) (by kernel_rfl) (by simp) ?_
      refine AllReadyH.cons (o := { dst := some 56, op := Go.Op.call { callee := Go.Callee.value (Go.Operand.func 18), args := #[], argTypes := #[] }, type := 4, pos := _, after := #[], guard := none }) rfl (fun K hK => ?_) AllReadyH.nil
      (go_simp; (refine (alive7_t _).mono ?_); (rintro e wn ⟨rfl, hb⟩); go_wp2_with fail)
      refine hK.out _ _ ?hSr2_1_0 (fun hHeld2 => ?_)
      case hSr2_1_0 => (first | exact ⟨c0, c1, c2, c3, c4, d0, d1, d2, d3, d4, e0, e1, e2, e3, e4, f0, f1, f2, f3, f4, h0, h1, h2, h3, h4, hb0.drew⟩ | exact ⟨c0, c1, c2, c3, c4, d0, d1, d2, d3, d4, e0, e1, e2, e3, e4, f0, f1, f2, f3, f4, h0, h1, h2, h3, h4, hb0⟩ | (obtain ⟨c0, c1, c2, c3, c4, d0, d1, d2, d3, d4, e0, e1, e2, e3, e4, f0, f1, f2, f3, f4, h0, h1, h2, h3, h4, hb0⟩ := hHeld; exact ⟨cell_later hb c0, cell_later hb c1, cell_later hb c2, cell_later hb c3, cell_later hb c4, cell_later hb d0, cell_later hb d1, cell_later hb d2, cell_later hb d3, cell_later hb d4, cell_later hb e0, cell_later hb e1, cell_later hb e2, cell_later hb e3, cell_later hb e4, cell_later hb f0, cell_later hb f1, cell_later hb f2, cell_later hb f3, cell_later hb f4, cell_later hb h0, cell_later hb h1, cell_later hb h2, cell_later hb h3, cell_later hb h4, below_step hb0 hb⟩))
      clear hK K hHeld
      have hHeld := hHeld2
      clear hHeld2
      (try simp only [Act.put, List.setIfInBounds_toArray, List.set_cons_zero, List.set_cons_succ])
      refine wpAnyH_take (i := 1) (oi := { dst := some 57, op := Go.Op.move (Go.Operand.tmp 56), type := 4, pos := _, after := #[{ on := 0, ground := Go.Ground.data }, { on := 0, ground := Go.Ground.chain }], guard := none }) (v := ?vr2_2_1) rfl (by kernel_rfl) (by kernel_rfl) (by kernel_rfl) (fun _ _ _ h => h) (Or.inl ⟨by rfl, ?yr2_2_1⟩) hHeld ?_
      case yr2_2_1 => ((intro w hSw; (try dsimp only at hSw); go_simp) <;> with_reducible rfl)
      (try simp only [Act.put, List.setIfInBounds_toArray, List.set_cons_zero, List.set_cons_succ])
      refine wpAnyH_take (i := 2) (oi := { dst := some 58, op := Go.Op.load 24 (Go.Operand.tmp 7), type := 24, pos := _, after := #[{ on := 1, ground := Go.Ground.guard }], guard := some (1, true) }) (v := ?vr2_3_2) rfl (by kernel_rfl) (by kernel_rfl) (by kernel_rfl) (fun _ _ _ h => h) (Or.inl ⟨by rfl, ?yr2_3_2⟩) hHeld ?_
      case yr2_3_2 => ((intro w hSw; (try dsimp only at hSw); go_simp) <;> with_reducible rfl)
      (try simp only [Act.put, List.setIfInBounds_toArray, List.set_cons_zero, List.set_cons_succ])
      refine wpAnyH_take (i := 3) (oi := { dst := some 59, op := Go.Op.load 24 (Go.Operand.tmp 3), type := 24, pos := _, after := #[{ on := 1, ground := Go.Ground.guard }], guard := some (1, true) }) (v := ?vr2_4_3) rfl (by kernel_rfl) (by kernel_rfl) (by kernel_rfl) (fun _ _ _ h => h) (Or.inl ⟨by rfl, ?yr2_4_3⟩) hHeld ?_
      case yr2_4_3 => ((intro w hSw; (try dsimp only at hSw); go_simp) <;> with_reducible rfl)
      (try simp only [Act.put, List.setIfInBounds_toArray, List.set_cons_zero, List.set_cons_succ])
      refine wpAnyH_ready (rs := [4]) (by kernel_rfl) (by simp) ?_
      refine AllReadyH.cons (o := { dst := some 60, op := Go.Op.call { callee := Go.Callee.value (Go.Operand.func 32), args := #[Go.Operand.tmp 58, Go.Operand.tmp 59], argTypes := #[24, 24] }, type := 4, pos := _, after := #[{ on := 2, ground := Go.Ground.data }, { on := 3, ground := Go.Ground.data }, { on := 1, ground := Go.Ground.chain }, { on := 1, ground := Go.Ground.guard }], guard := some (1, true) }) rfl (fun K hK => ?_) AllReadyH.nil
      (go_simp; (refine (HMA _).mono ?_); (rintro e wn ⟨rfl, hb⟩); go_wp2_with fail)
      refine hK.out _ _ ?hSr2_5_4 (fun hHeld2 => ?_)
      case hSr2_5_4 => (first | exact ⟨c0, c1, c2, c3, c4, d0, d1, d2, d3, d4, e0, e1, e2, e3, e4, f0, f1, f2, f3, f4, h0, h1, h2, h3, h4, hb0.drew⟩ | exact ⟨c0, c1, c2, c3, c4, d0, d1, d2, d3, d4, e0, e1, e2, e3, e4, f0, f1, f2, f3, f4, h0, h1, h2, h3, h4, hb0⟩ | (obtain ⟨c0, c1, c2, c3, c4, d0, d1, d2, d3, d4, e0, e1, e2, e3, e4, f0, f1, f2, f3, f4, h0, h1, h2, h3, h4, hb0⟩ := hHeld; exact ⟨cell_later hb c0, cell_later hb c1, cell_later hb c2, cell_later hb c3, cell_later hb c4, cell_later hb d0, cell_later hb d1, cell_later hb d2, cell_later hb d3, cell_later hb d4, cell_later hb e0, cell_later hb e1, cell_later hb e2, cell_later hb e3, cell_later hb e4, cell_later hb f0, cell_later hb f1, cell_later hb f2, cell_later hb f3, cell_later hb f4, cell_later hb h0, cell_later hb h1, cell_later hb h2, cell_later hb h3, cell_later hb h4, below_step hb0 hb⟩))
      clear hK K hHeld
      have hHeld := hHeld2
      clear hHeld2
      (try simp only [Act.put, List.setIfInBounds_toArray, List.set_cons_zero, List.set_cons_succ])
      refine wpAnyH_take (i := 5) (oi := { dst := some 61, op := Go.Op.pick (Go.Operand.tmp 57) (Go.Operand.tmp 60) (Go.Operand.const (Go.Value.bool false)), type := 4, pos := _, after := #[{ on := 1, ground := Go.Ground.data }, { on := 4, ground := Go.Ground.data }], guard := none }) (v := ?vr2_6_5) rfl (by kernel_rfl) (by kernel_rfl) (by kernel_rfl) (fun _ _ _ h => h) (Or.inl ⟨by rfl, ?yr2_6_5⟩) hHeld ?_
      case yr2_6_5 => ((intro w hSw; (try dsimp only at hSw); go_simp) <;> with_reducible rfl)
      (try simp only [Act.put, List.setIfInBounds_toArray, List.set_cons_zero, List.set_cons_succ])
      refine wpAnyH_take (i := 6) (oi := { dst := some 62, op := Go.Op.move (Go.Operand.tmp 61), type := 4, pos := _, after := #[{ on := 5, ground := Go.Ground.data }, { on := 4, ground := Go.Ground.chain }], guard := none }) (v := ?vr2_7_6) rfl (by kernel_rfl) (by kernel_rfl) (by kernel_rfl) (fun _ _ _ h => h) (Or.inl ⟨by rfl, ?yr2_7_6⟩) hHeld ?_
      case yr2_7_6 => ((intro w hSw; (try dsimp only at hSw); go_simp) <;> with_reducible rfl)
      (try simp only [Act.put, List.setIfInBounds_toArray, List.set_cons_zero, List.set_cons_succ])
      refine wpAnyH_take (i := 7) (oi := { dst := some 63, op := Go.Op.load 24 (Go.Operand.tmp 7), type := 24, pos := _, after := #[{ on := 6, ground := Go.Ground.guard }], guard := some (6, true) }) (v := ?vr2_8_7) rfl (by kernel_rfl) (by kernel_rfl) (by kernel_rfl) (fun _ _ _ h => h) (Or.inl ⟨by rfl, ?yr2_8_7⟩) hHeld ?_
      case yr2_8_7 => ((intro w hSw; (try dsimp only at hSw); go_simp) <;> with_reducible rfl)
      (try simp only [Act.put, List.setIfInBounds_toArray, List.set_cons_zero, List.set_cons_succ])
      refine wpAnyH_take (i := 8) (oi := { dst := some 64, op := Go.Op.load 24 (Go.Operand.tmp 4), type := 24, pos := _, after := #[{ on := 6, ground := Go.Ground.guard }], guard := some (6, true) }) (v := ?vr2_9_8) rfl (by kernel_rfl) (by kernel_rfl) (by kernel_rfl) (fun _ _ _ h => h) (Or.inl ⟨by rfl, ?yr2_9_8⟩) hHeld ?_
      case yr2_9_8 => ((intro w hSw; (try dsimp only at hSw); go_simp) <;> with_reducible rfl)
      (try simp only [Act.put, List.setIfInBounds_toArray, List.set_cons_zero, List.set_cons_succ])
      refine wpAnyH_ready (rs := [9]) (by kernel_rfl) (by simp) ?_
      refine AllReadyH.cons (o := { dst := some 65, op := Go.Op.call { callee := Go.Callee.value (Go.Operand.func 32), args := #[Go.Operand.tmp 63, Go.Operand.tmp 64], argTypes := #[24, 24] }, type := 4, pos := _, after := #[{ on := 7, ground := Go.Ground.data }, { on := 8, ground := Go.Ground.data }, { on := 6, ground := Go.Ground.chain }, { on := 6, ground := Go.Ground.guard }], guard := some (6, true) }) rfl (fun K hK => ?_) AllReadyH.nil
      (go_simp; (refine (HMB _).mono ?_); (rintro e wn ⟨rfl, hb⟩); go_wp2_with fail)
      refine hK.out _ _ ?hSr2_10_9 (fun hHeld2 => ?_)
      case hSr2_10_9 => (first | exact ⟨c0, c1, c2, c3, c4, d0, d1, d2, d3, d4, e0, e1, e2, e3, e4, f0, f1, f2, f3, f4, h0, h1, h2, h3, h4, hb0.drew⟩ | exact ⟨c0, c1, c2, c3, c4, d0, d1, d2, d3, d4, e0, e1, e2, e3, e4, f0, f1, f2, f3, f4, h0, h1, h2, h3, h4, hb0⟩ | (obtain ⟨c0, c1, c2, c3, c4, d0, d1, d2, d3, d4, e0, e1, e2, e3, e4, f0, f1, f2, f3, f4, h0, h1, h2, h3, h4, hb0⟩ := hHeld; exact ⟨cell_later hb c0, cell_later hb c1, cell_later hb c2, cell_later hb c3, cell_later hb c4, cell_later hb d0, cell_later hb d1, cell_later hb d2, cell_later hb d3, cell_later hb d4, cell_later hb e0, cell_later hb e1, cell_later hb e2, cell_later hb e3, cell_later hb e4, cell_later hb f0, cell_later hb f1, cell_later hb f2, cell_later hb f3, cell_later hb f4, cell_later hb h0, cell_later hb h1, cell_later hb h2, cell_later hb h3, cell_later hb h4, below_step hb0 hb⟩))
      clear hK K hHeld
      have hHeld := hHeld2
      clear hHeld2
      (try simp only [Act.put, List.setIfInBounds_toArray, List.set_cons_zero, List.set_cons_succ])
      refine wpAnyH_take (i := 10) (oi := { dst := some 66, op := Go.Op.pick (Go.Operand.tmp 62) (Go.Operand.tmp 65) (Go.Operand.const (Go.Value.bool false)), type := 4, pos := _, after := #[{ on := 6, ground := Go.Ground.data }, { on := 9, ground := Go.Ground.data }], guard := none }) (v := ?vr2_11_10) rfl (by kernel_rfl) (by kernel_rfl) (by kernel_rfl) (fun _ _ _ h => h) (Or.inl ⟨by rfl, ?yr2_11_10⟩) hHeld ?_
      case yr2_11_10 => ((intro w hSw; (try dsimp only at hSw); go_simp) <;> with_reducible rfl)
      (try simp only [Act.put, List.setIfInBounds_toArray, List.set_cons_zero, List.set_cons_succ])
      refine wpAnyH_take (i := 11) (oi := { dst := some 67, op := Go.Op.move (Go.Operand.tmp 66), type := 4, pos := _, after := #[{ on := 10, ground := Go.Ground.data }, { on := 9, ground := Go.Ground.chain }], guard := none }) (v := ?vr2_12_11) rfl (by kernel_rfl) (by kernel_rfl) (by kernel_rfl) (fun _ _ _ h => h) (Or.inl ⟨by rfl, ?yr2_12_11⟩) hHeld ?_
      case yr2_12_11 => ((intro w hSw; (try dsimp only at hSw); go_simp) <;> with_reducible rfl)
      (try simp only [Act.put, List.setIfInBounds_toArray, List.set_cons_zero, List.set_cons_succ])
      refine wpAnyH_take (i := 12) (oi := { dst := some 68, op := Go.Op.load 24 (Go.Operand.tmp 5), type := 24, pos := _, after := #[{ on := 11, ground := Go.Ground.guard }], guard := some (11, true) }) (v := ?vr2_13_12) rfl (by kernel_rfl) (by kernel_rfl) (by kernel_rfl) (fun _ _ _ h => h) (Or.inl ⟨by rfl, ?yr2_13_12⟩) hHeld ?_
      case yr2_13_12 => ((intro w hSw; (try dsimp only at hSw); go_simp) <;> with_reducible rfl)
      (try simp only [Act.put, List.setIfInBounds_toArray, List.set_cons_zero, List.set_cons_succ])
      refine wpAnyH_take (i := 13) (oi := { dst := some 69, op := Go.Op.load 24 (Go.Operand.tmp 3), type := 24, pos := _, after := #[{ on := 11, ground := Go.Ground.guard }], guard := some (11, true) }) (v := ?vr2_14_13) rfl (by kernel_rfl) (by kernel_rfl) (by kernel_rfl) (fun _ _ _ h => h) (Or.inl ⟨by rfl, ?yr2_14_13⟩) hHeld ?_
      case yr2_14_13 => ((intro w hSw; (try dsimp only at hSw); go_simp) <;> with_reducible rfl)
      (try simp only [Act.put, List.setIfInBounds_toArray, List.set_cons_zero, List.set_cons_succ])
      refine wpAnyH_take (i := 20) (oi := { dst := some 76, op := Go.Op.load 24 (Go.Operand.tmp 5), type := 24, pos := _, after := #[{ on := 11, ground := Go.Ground.guard }], guard := some (11, true) }) (v := ?vr2_15_20) rfl (by kernel_rfl) (by kernel_rfl) (by kernel_rfl) (fun _ _ _ h => h) (Or.inl ⟨by rfl, ?yr2_15_20⟩) hHeld ?_
      case yr2_15_20 => ((intro w hSw; (try dsimp only at hSw); go_simp) <;> with_reducible rfl)
      (try simp only [Act.put, List.setIfInBounds_toArray, List.set_cons_zero, List.set_cons_succ])
      refine wpAnyH_take (i := 21) (oi := { dst := some 77, op := Go.Op.load 24 (Go.Operand.tmp 7), type := 24, pos := _, after := #[{ on := 11, ground := Go.Ground.guard }], guard := some (11, true) }) (v := ?vr2_16_21) rfl (by kernel_rfl) (by kernel_rfl) (by kernel_rfl) (fun _ _ _ h => h) (Or.inl ⟨by rfl, ?yr2_16_21⟩) hHeld ?_
      case yr2_16_21 => ((intro w hSw; (try dsimp only at hSw); go_simp) <;> with_reducible rfl)
      (try simp only [Act.put, List.setIfInBounds_toArray, List.set_cons_zero, List.set_cons_succ])
      refine wpAnyH_ready (rs := [14]) (by kernel_rfl) (by simp) ?_
      refine AllReadyH.cons (o := { dst := some 70, op := Go.Op.call { callee := Go.Callee.value (Go.Operand.func 32), args := #[Go.Operand.tmp 68, Go.Operand.tmp 69], argTypes := #[24, 24] }, type := 4, pos := _, after := #[{ on := 12, ground := Go.Ground.data }, { on := 13, ground := Go.Ground.data }, { on := 11, ground := Go.Ground.chain }, { on := 11, ground := Go.Ground.guard }], guard := some (11, true) }) rfl (fun K hK => ?_) AllReadyH.nil
      (go_simp; (refine (HXA _).mono ?_); (rintro e wn ⟨rfl, hb⟩); go_wp2_with fail)
      refine hK.out _ _ ?hSr2_17_14 (fun hHeld2 => ?_)
      case hSr2_17_14 => (first | exact ⟨c0, c1, c2, c3, c4, d0, d1, d2, d3, d4, e0, e1, e2, e3, e4, f0, f1, f2, f3, f4, h0, h1, h2, h3, h4, hb0.drew⟩ | exact ⟨c0, c1, c2, c3, c4, d0, d1, d2, d3, d4, e0, e1, e2, e3, e4, f0, f1, f2, f3, f4, h0, h1, h2, h3, h4, hb0⟩ | (obtain ⟨c0, c1, c2, c3, c4, d0, d1, d2, d3, d4, e0, e1, e2, e3, e4, f0, f1, f2, f3, f4, h0, h1, h2, h3, h4, hb0⟩ := hHeld; exact ⟨cell_later hb c0, cell_later hb c1, cell_later hb c2, cell_later hb c3, cell_later hb c4, cell_later hb d0, cell_later hb d1, cell_later hb d2, cell_later hb d3, cell_later hb d4, cell_later hb e0, cell_later hb e1, cell_later hb e2, cell_later hb e3, cell_later hb e4, cell_later hb f0, cell_later hb f1, cell_later hb f2, cell_later hb f3, cell_later hb f4, cell_later hb h0, cell_later hb h1, cell_later hb h2, cell_later hb h3, cell_later hb h4, below_step hb0 hb⟩))
      clear hK K hHeld
      have hHeld := hHeld2
      clear hHeld2
      (try simp only [Act.put, List.setIfInBounds_toArray, List.set_cons_zero, List.set_cons_succ])
      refine wpAnyH_take (i := 15) (oi := { dst := some 71, op := Go.Op.move (Go.Operand.tmp 70), type := 4, pos := _, after := #[{ on := 14, ground := Go.Ground.data }, { on := 14, ground := Go.Ground.chain }, { on := 11, ground := Go.Ground.guard }], guard := some (11, true) }) (v := ?vr2_18_15) rfl (by kernel_rfl) (by kernel_rfl) (by kernel_rfl) (fun _ _ _ h => h) (Or.inl ⟨by rfl, ?yr2_18_15⟩) hHeld ?_
      case yr2_18_15 => ((intro w hSw; (try dsimp only at hSw); go_simp) <;> with_reducible rfl)
      (try simp only [Act.put, List.setIfInBounds_toArray, List.set_cons_zero, List.set_cons_succ])
      refine wpAnyH_take (i := 16) (oi := { dst := some 72, op := Go.Op.load 24 (Go.Operand.tmp 5), type := 24, pos := _, after := #[{ on := 15, ground := Go.Ground.guard }], guard := some (15, true) }) (v := undef) rfl (by kernel_rfl) (by kernel_rfl) (by kernel_rfl) (fun _ _ _ h => h) (Or.inr ⟨by rfl, rfl⟩) hHeld ?_
      (try simp only [Act.put, List.setIfInBounds_toArray, List.set_cons_zero, List.set_cons_succ])
      refine wpAnyH_take (i := 17) (oi := { dst := some 73, op := Go.Op.load 24 (Go.Operand.tmp 4), type := 24, pos := _, after := #[{ on := 15, ground := Go.Ground.guard }], guard := some (15, true) }) (v := undef) rfl (by kernel_rfl) (by kernel_rfl) (by kernel_rfl) (fun _ _ _ h => h) (Or.inr ⟨by rfl, rfl⟩) hHeld ?_
      (try simp only [Act.put, List.setIfInBounds_toArray, List.set_cons_zero, List.set_cons_succ])
      refine wpAnyH_take (i := 18) (oi := { dst := some 74, op := Go.Op.call { callee := Go.Callee.value (Go.Operand.func 32), args := #[Go.Operand.tmp 72, Go.Operand.tmp 73], argTypes := #[24, 24] }, type := 4, pos := _, after := #[{ on := 16, ground := Go.Ground.data }, { on := 17, ground := Go.Ground.data }, { on := 15, ground := Go.Ground.chain }, { on := 15, ground := Go.Ground.guard }], guard := some (15, true) }) (v := undef) rfl (by kernel_rfl) (by kernel_rfl) (by kernel_rfl) (fun _ _ _ h => h) (Or.inr ⟨by rfl, rfl⟩) hHeld ?_
      (try simp only [Act.put, List.setIfInBounds_toArray, List.set_cons_zero, List.set_cons_succ])
      refine wpAnyH_take (i := 19) (oi := { dst := some 75, op := Go.Op.pick (Go.Operand.tmp 71) (Go.Operand.tmp 74) (Go.Operand.const (Go.Value.bool false)), type := 4, pos := _, after := #[{ on := 15, ground := Go.Ground.data }, { on := 18, ground := Go.Ground.data }, { on := 11, ground := Go.Ground.guard }], guard := some (11, true) }) (v := ?vr2_22_19) rfl (by kernel_rfl) (by kernel_rfl) (by kernel_rfl) (fun _ _ _ h => h) (Or.inl ⟨by rfl, ?yr2_22_19⟩) hHeld ?_
      case yr2_22_19 => ((intro w hSw; (try dsimp only at hSw); go_simp) <;> with_reducible rfl)
      (try simp only [Act.put, List.setIfInBounds_toArray, List.set_cons_zero, List.set_cons_succ])
      refine wpAnyH_ready (rs := [22]) (by kernel_rfl) (by simp) ?_
      refine AllReadyH.cons (o := { dst := some 78, op := Go.Op.call { callee := Go.Callee.value (Go.Operand.func 32), args := #[Go.Operand.tmp 76, Go.Operand.tmp 77], argTypes := #[24, 24] }, type := 4, pos := _, after := #[{ on := 20, ground := Go.Ground.data }, { on := 21, ground := Go.Ground.data }, { on := 18, ground := Go.Ground.chain }, { on := 11, ground := Go.Ground.guard }], guard := some (11, true) }) rfl (fun K hK => ?_) AllReadyH.nil
      (go_simp; (refine (HXM _).mono ?_); (rintro e wn ⟨rfl, hb⟩); go_wp2_with fail)
      refine hK.out _ _ ?hSr2_23_22 (fun hHeld2 => ?_)
      case hSr2_23_22 => (first | exact ⟨c0, c1, c2, c3, c4, d0, d1, d2, d3, d4, e0, e1, e2, e3, e4, f0, f1, f2, f3, f4, h0, h1, h2, h3, h4, hb0.drew⟩ | exact ⟨c0, c1, c2, c3, c4, d0, d1, d2, d3, d4, e0, e1, e2, e3, e4, f0, f1, f2, f3, f4, h0, h1, h2, h3, h4, hb0⟩ | (obtain ⟨c0, c1, c2, c3, c4, d0, d1, d2, d3, d4, e0, e1, e2, e3, e4, f0, f1, f2, f3, f4, h0, h1, h2, h3, h4, hb0⟩ := hHeld; exact ⟨cell_later hb c0, cell_later hb c1, cell_later hb c2, cell_later hb c3, cell_later hb c4, cell_later hb d0, cell_later hb d1, cell_later hb d2, cell_later hb d3, cell_later hb d4, cell_later hb e0, cell_later hb e1, cell_later hb e2, cell_later hb e3, cell_later hb e4, cell_later hb f0, cell_later hb f1, cell_later hb f2, cell_later hb f3, cell_later hb f4, cell_later hb h0, cell_later hb h1, cell_later hb h2, cell_later hb h3, cell_later hb h4, below_step hb0 hb⟩))
      clear hK K hHeld
      have hHeld := hHeld2
      clear hHeld2
      (try simp only [Act.put, List.setIfInBounds_toArray, List.set_cons_zero, List.set_cons_succ])
      refine wpAnyH_take (i := 23) (oi := { dst := some 79, op := Go.Op.binOp Go.BinOp.eql 4 (Go.Operand.tmp 75) (Go.Operand.tmp 78) 4, type := 4, pos := _, after := #[{ on := 19, ground := Go.Ground.data }, { on := 22, ground := Go.Ground.data }, { on := 11, ground := Go.Ground.guard }], guard := some (11, true) }) (v := ?vr2_24_23) rfl (by kernel_rfl) (by kernel_rfl) (by kernel_rfl) (fun _ _ _ h => h) (Or.inl ⟨by rfl, ?yr2_24_23⟩) hHeld ?_
      case yr2_24_23 => ((intro w hSw; (try dsimp only at hSw); go_simp) <;> with_reducible rfl)
      (try simp only [Act.put, List.setIfInBounds_toArray, List.set_cons_zero, List.set_cons_succ])
      refine wpAnyH_take (i := 24) (oi := { dst := some 80, op := Go.Op.pick (Go.Operand.tmp 67) (Go.Operand.tmp 79) (Go.Operand.const (Go.Value.bool false)), type := 4, pos := _, after := #[{ on := 11, ground := Go.Ground.data }, { on := 23, ground := Go.Ground.data }], guard := none }) (v := ?vr2_25_24) rfl (by kernel_rfl) (by kernel_rfl) (by kernel_rfl) (fun _ _ _ h => h) (Or.inl ⟨by rfl, ?yr2_25_24⟩) hHeld ?_
      case yr2_25_24 => ((intro w hSw; (try dsimp only at hSw); go_simp) <;> with_reducible rfl)
      (try simp only [Act.put, List.setIfInBounds_toArray, List.set_cons_zero, List.set_cons_succ])
      refine wpAnyH_take (i := 25) (oi := { dst := some 6, op := Go.Op.assign (Go.Operand.tmp 80), type := 4, pos := _, after := #[{ on := 24, ground := Go.Ground.data }, { on := 22, ground := Go.Ground.chain }, { on := 0, ground := Go.Ground.phase }, { on := 1, ground := Go.Ground.phase }, { on := 2, ground := Go.Ground.phase }, { on := 3, ground := Go.Ground.phase }, { on := 4, ground := Go.Ground.phase }, { on := 5, ground := Go.Ground.phase }, { on := 6, ground := Go.Ground.phase }, { on := 7, ground := Go.Ground.phase }, { on := 8, ground := Go.Ground.phase }, { on := 9, ground := Go.Ground.phase }, { on := 10, ground := Go.Ground.phase }, { on := 11, ground := Go.Ground.phase }, { on := 12, ground := Go.Ground.phase }, { on := 13, ground := Go.Ground.phase }, { on := 14, ground := Go.Ground.phase }, { on := 15, ground := Go.Ground.phase }, { on := 16, ground := Go.Ground.phase }, { on := 17, ground := Go.Ground.phase }, { on := 18, ground := Go.Ground.phase }, { on := 19, ground := Go.Ground.phase }, { on := 20, ground := Go.Ground.phase }, { on := 21, ground := Go.Ground.phase }, { on := 22, ground := Go.Ground.phase }, { on := 23, ground := Go.Ground.phase }, { on := 24, ground := Go.Ground.phase }], guard := none }) (v := ?vr2_26_25) rfl (by kernel_rfl) (by kernel_rfl) (by kernel_rfl) (fun _ _ _ h => h) (Or.inl ⟨by rfl, ?yr2_26_25⟩) hHeld ?_
      case yr2_26_25 => ((intro w hSw; (try dsimp only at hSw); go_simp) <;> with_reducible rfl)
      (try simp only [Act.put, List.setIfInBounds_toArray, List.set_cons_zero, List.set_cons_succ])
      refine wpAnyH_done (by kernel_rfl) ?_ _
      clear c0 c1 c2 c3 c4 d0 d1 d2 d3 d4 e0 e1 e2 e3 e4 f0 f1 f2 f3 f4 h0 h1 h2 h3 h4 hb0
      obtain ⟨c0, c1, c2, c3, c4, d0, d1, d2, d3, d4, e0, e1, e2, e3, e4, f0, f1, f2, f3, f4, h0, h1, h2, h3, h4, hb0⟩ := hHeld
      go_wp2
      go_ret
      exact ⟨rfl, hb0⟩
    case true.false =>
      go_enter Try.func9, Try.ntmps9
      go_wp2_with fail
      refine (HM _).mono ?_
      rintro e w23 ⟨rfl, hb⟩
      replace c0 := cell_later hb c0
      replace c1 := cell_later hb c1
      replace c2 := cell_later hb c2
      replace c3 := cell_later hb c3
      replace c4 := cell_later hb c4
      replace d0 := cell_later hb d0
      replace d1 := cell_later hb d1
      replace d2 := cell_later hb d2
      replace d3 := cell_later hb d3
      replace d4 := cell_later hb d4
      replace e0 := cell_later hb e0
      replace e1 := cell_later hb e1
      replace e2 := cell_later hb e2
      replace e3 := cell_later hb e3
      replace e4 := cell_later hb e4
      replace hb0 := below_step hb0 hb
      clear hb
      have lc := World.block_lt_of_cell? _ _ c0
      dsimp only at lc
      have ld := World.block_lt_of_cell? _ _ d0
      dsimp only at ld
      have le := World.block_lt_of_cell? _ _ e0
      dsimp only at le
      go_wp2_with fail
      refine (HN _).mono ?_
      rintro e w24 ⟨rfl, hb⟩
      replace c0 := cell_later hb (cell_later ((Below.refl _ _).alloc (Nat.le_refl _) _) c0)
      replace c1 := cell_later hb (cell_later ((Below.refl _ _).alloc (Nat.le_refl _) _) c1)
      replace c2 := cell_later hb (cell_later ((Below.refl _ _).alloc (Nat.le_refl _) _) c2)
      replace c3 := cell_later hb (cell_later ((Below.refl _ _).alloc (Nat.le_refl _) _) c3)
      replace c4 := cell_later hb (cell_later ((Below.refl _ _).alloc (Nat.le_refl _) _) c4)
      replace d0 := cell_later hb (cell_later ((Below.refl _ _).alloc (Nat.le_refl _) _) d0)
      replace d1 := cell_later hb (cell_later ((Below.refl _ _).alloc (Nat.le_refl _) _) d1)
      replace d2 := cell_later hb (cell_later ((Below.refl _ _).alloc (Nat.le_refl _) _) d2)
      replace d3 := cell_later hb (cell_later ((Below.refl _ _).alloc (Nat.le_refl _) _) d3)
      replace d4 := cell_later hb (cell_later ((Below.refl _ _).alloc (Nat.le_refl _) _) d4)
      replace e0 := cell_later hb (cell_later ((Below.refl _ _).alloc (Nat.le_refl _) _) e0)
      replace e1 := cell_later hb (cell_later ((Below.refl _ _).alloc (Nat.le_refl _) _) e1)
      replace e2 := cell_later hb (cell_later ((Below.refl _ _).alloc (Nat.le_refl _) _) e2)
      replace e3 := cell_later hb (cell_later ((Below.refl _ _).alloc (Nat.le_refl _) _) e3)
      replace e4 := cell_later hb (cell_later ((Below.refl _ _).alloc (Nat.le_refl _) _) e4)
      have f0 := ((Row.later (Row.new _ _ _) hb).cell 0).trans (show _ = some (Value.int .i64 t.kind) from rfl)
      have f1 := ((Row.later (Row.new _ _ _) hb).cell 1).trans (show _ = some (Value.int .i64 t.len) from rfl)
      have f2 := ((Row.later (Row.new _ _ _) hb).cell 2).trans (show _ = some (Value.int .u64 t.h) from rfl)
      have f3 := ((Row.later (Row.new _ _ _) hb).cell 3).trans (show _ = some (Value.int .u64 t.l) from rfl)
      have f4 := ((Row.later (Row.new _ _ _) hb).cell 4).trans (show _ = some (Value.string ⟨t.path.toArray⟩) from rfl)
      replace hb0 := below_step (hb0.alloc hb0.size _) hb
      clear hb
      generalize w23.heap.size = gf at *
      have lc := World.block_lt_of_cell? _ _ c0
      dsimp only at lc
      have ld := World.block_lt_of_cell? _ _ d0
      dsimp only at ld
      have le := World.block_lt_of_cell? _ _ e0
      dsimp only at le
      have lf := World.block_lt_of_cell? _ _ f0
      dsimp only at lf
      go_wp2_with fail
      refine (HA _).mono ?_
      rintro e w25 ⟨rfl, hb⟩
      replace c0 := cell_later hb (cell_later ((Below.refl _ _).alloc (Nat.le_refl _) _) c0)
      replace c1 := cell_later hb (cell_later ((Below.refl _ _).alloc (Nat.le_refl _) _) c1)
      replace c2 := cell_later hb (cell_later ((Below.refl _ _).alloc (Nat.le_refl _) _) c2)
      replace c3 := cell_later hb (cell_later ((Below.refl _ _).alloc (Nat.le_refl _) _) c3)
      replace c4 := cell_later hb (cell_later ((Below.refl _ _).alloc (Nat.le_refl _) _) c4)
      replace d0 := cell_later hb (cell_later ((Below.refl _ _).alloc (Nat.le_refl _) _) d0)
      replace d1 := cell_later hb (cell_later ((Below.refl _ _).alloc (Nat.le_refl _) _) d1)
      replace d2 := cell_later hb (cell_later ((Below.refl _ _).alloc (Nat.le_refl _) _) d2)
      replace d3 := cell_later hb (cell_later ((Below.refl _ _).alloc (Nat.le_refl _) _) d3)
      replace d4 := cell_later hb (cell_later ((Below.refl _ _).alloc (Nat.le_refl _) _) d4)
      replace e0 := cell_later hb (cell_later ((Below.refl _ _).alloc (Nat.le_refl _) _) e0)
      replace e1 := cell_later hb (cell_later ((Below.refl _ _).alloc (Nat.le_refl _) _) e1)
      replace e2 := cell_later hb (cell_later ((Below.refl _ _).alloc (Nat.le_refl _) _) e2)
      replace e3 := cell_later hb (cell_later ((Below.refl _ _).alloc (Nat.le_refl _) _) e3)
      replace e4 := cell_later hb (cell_later ((Below.refl _ _).alloc (Nat.le_refl _) _) e4)
      replace f0 := cell_later hb (cell_later ((Below.refl _ _).alloc (Nat.le_refl _) _) f0)
      replace f1 := cell_later hb (cell_later ((Below.refl _ _).alloc (Nat.le_refl _) _) f1)
      replace f2 := cell_later hb (cell_later ((Below.refl _ _).alloc (Nat.le_refl _) _) f2)
      replace f3 := cell_later hb (cell_later ((Below.refl _ _).alloc (Nat.le_refl _) _) f3)
      replace f4 := cell_later hb (cell_later ((Below.refl _ _).alloc (Nat.le_refl _) _) f4)
      have h0 := ((Row.later (Row.new _ _ _) hb).cell 0).trans (show _ = some (Value.int .i64 t.kind) from rfl)
      have h1 := ((Row.later (Row.new _ _ _) hb).cell 1).trans (show _ = some (Value.int .i64 t.len) from rfl)
      have h2 := ((Row.later (Row.new _ _ _) hb).cell 2).trans (show _ = some (Value.int .u64 t.h) from rfl)
      have h3 := ((Row.later (Row.new _ _ _) hb).cell 3).trans (show _ = some (Value.int .u64 t.l) from rfl)
      have h4 := ((Row.later (Row.new _ _ _) hb).cell 4).trans (show _ = some (Value.string ⟨t.path.toArray⟩) from rfl)
      replace hb0 := below_step (hb0.alloc hb0.size _) hb
      clear hb
      generalize w24.heap.size = gh at *
      have lc := World.block_lt_of_cell? _ _ c0
      dsimp only at lc
      have ld := World.block_lt_of_cell? _ _ d0
      dsimp only at ld
      have le := World.block_lt_of_cell? _ _ e0
      dsimp only at le
      have lf := World.block_lt_of_cell? _ _ f0
      dsimp only at lf
      have lh := World.block_lt_of_cell? _ _ h0
      dsimp only at lh
      go_wp2_with fail
      refine (HB _).mono ?_
      rintro e w26 ⟨rfl, hb⟩
      replace c0 := cell_later hb c0
      replace c1 := cell_later hb c1
      replace c2 := cell_later hb c2
      replace c3 := cell_later hb c3
      replace c4 := cell_later hb c4
      replace d0 := cell_later hb d0
      replace d1 := cell_later hb d1
      replace d2 := cell_later hb d2
      replace d3 := cell_later hb d3
      replace d4 := cell_later hb d4
      replace e0 := cell_later hb e0
      replace e1 := cell_later hb e1
      replace e2 := cell_later hb e2
      replace e3 := cell_later hb e3
      replace e4 := cell_later hb e4
      replace f0 := cell_later hb f0
      replace f1 := cell_later hb f1
      replace f2 := cell_later hb f2
      replace f3 := cell_later hb f3
      replace f4 := cell_later hb f4
      replace h0 := cell_later hb h0
      replace h1 := cell_later hb h1
      replace h2 := cell_later hb h2
      replace h3 := cell_later hb h3
      replace h4 := cell_later hb h4
      replace hb0 := below_step hb0 hb
      clear hb
      have lc := World.block_lt_of_cell? _ _ c0
      dsimp only at lc
      have ld := World.block_lt_of_cell? _ _ d0
      dsimp only at ld
      have le := World.block_lt_of_cell? _ _ e0
      dsimp only at le
      have lf := World.block_lt_of_cell? _ _ f0
      dsimp only at lf
      have lh := World.block_lt_of_cell? _ _ h0
      dsimp only at lh
      go_wp2_with fail
      refine wp_region_held_drew (S := (fun w' => w'.cell? ⟨w.heap.size, 0, none⟩ = some (.int .i64 a.kind) ∧ w'.cell? ⟨w.heap.size, 1, none⟩ = some (.int .i64 a.len) ∧ w'.cell? ⟨w.heap.size, 2, none⟩ = some (.int .u64 a.h) ∧ w'.cell? ⟨w.heap.size, 3, none⟩ = some (.int .u64 a.l) ∧ w'.cell? ⟨w.heap.size, 4, none⟩ = some (.string ⟨a.path.toArray⟩) ∧ w'.cell? ⟨w.heap.size + 1, 0, none⟩ = some (.int .i64 b.kind) ∧ w'.cell? ⟨w.heap.size + 1, 1, none⟩ = some (.int .i64 b.len) ∧ w'.cell? ⟨w.heap.size + 1, 2, none⟩ = some (.int .u64 b.h) ∧ w'.cell? ⟨w.heap.size + 1, 3, none⟩ = some (.int .u64 b.l) ∧ w'.cell? ⟨w.heap.size + 1, 4, none⟩ = some (.string ⟨b.path.toArray⟩) ∧ w'.cell? ⟨w.heap.size + 1 + 1, 0, none⟩ = some (.int .i64 x.kind) ∧ w'.cell? ⟨w.heap.size + 1 + 1, 1, none⟩ = some (.int .i64 x.len) ∧ w'.cell? ⟨w.heap.size + 1 + 1, 2, none⟩ = some (.int .u64 x.h) ∧ w'.cell? ⟨w.heap.size + 1 + 1, 3, none⟩ = some (.int .u64 x.l) ∧ w'.cell? ⟨w.heap.size + 1 + 1, 4, none⟩ = some (.string ⟨x.path.toArray⟩) ∧ w'.cell? ⟨gf, 0, none⟩ = some (Value.int .i64 t.kind) ∧ w'.cell? ⟨gf, 1, none⟩ = some (Value.int .i64 t.len) ∧ w'.cell? ⟨gf, 2, none⟩ = some (Value.int .u64 t.h) ∧ w'.cell? ⟨gf, 3, none⟩ = some (Value.int .u64 t.l) ∧ w'.cell? ⟨gf, 4, none⟩ = some (Value.string ⟨t.path.toArray⟩) ∧ w'.cell? ⟨gh, 0, none⟩ = some (Value.int .i64 t.kind) ∧ w'.cell? ⟨gh, 1, none⟩ = some (Value.int .i64 t.len) ∧ w'.cell? ⟨gh, 2, none⟩ = some (Value.int .u64 t.h) ∧ w'.cell? ⟨gh, 3, none⟩ = some (Value.int .u64 t.l) ∧ w'.cell? ⟨gh, 4, none⟩ = some (Value.string ⟨t.path.toArray⟩) ∧ Below w.heap.size w w')) (by kernel_rfl) ?hSr3_ (fun hHeld => ?_)
      case hSr3_ => (first | exact ⟨c0, c1, c2, c3, c4, d0, d1, d2, d3, d4, e0, e1, e2, e3, e4, f0, f1, f2, f3, f4, h0, h1, h2, h3, h4, hb0.drew⟩ | exact ⟨c0, c1, c2, c3, c4, d0, d1, d2, d3, d4, e0, e1, e2, e3, e4, f0, f1, f2, f3, f4, h0, h1, h2, h3, h4, hb0⟩ | (obtain ⟨c0, c1, c2, c3, c4, d0, d1, d2, d3, d4, e0, e1, e2, e3, e4, f0, f1, f2, f3, f4, h0, h1, h2, h3, h4, hb0⟩ := hHeld; exact ⟨cell_later hb c0, cell_later hb c1, cell_later hb c2, cell_later hb c3, cell_later hb c4, cell_later hb d0, cell_later hb d1, cell_later hb d2, cell_later hb d3, cell_later hb d4, cell_later hb e0, cell_later hb e1, cell_later hb e2, cell_later hb e3, cell_later hb e4, cell_later hb f0, cell_later hb f1, cell_later hb f2, cell_later hb f3, cell_later hb f4, cell_later hb h0, cell_later hb h1, cell_later hb h2, cell_later hb h3, cell_later hb h4, below_step hb0 hb⟩))
      refine wpAnyH_ready (rs := [0]) (by kernel_rfl) (by simp) ?_
      refine AllReadyH.cons (o := { dst := some 56, op := Go.Op.call { callee := Go.Callee.value (Go.Operand.func 18), args := #[], argTypes := #[] }, type := 4, pos := _, after := #[], guard := none }) rfl (fun K hK => ?_) AllReadyH.nil
      (go_simp; (refine (alive7_t _).mono ?_); (rintro e wn ⟨rfl, hb⟩); go_wp2_with fail)
      refine hK.out _ _ ?hSr3_1_0 (fun hHeld2 => ?_)
      case hSr3_1_0 => (first | exact ⟨c0, c1, c2, c3, c4, d0, d1, d2, d3, d4, e0, e1, e2, e3, e4, f0, f1, f2, f3, f4, h0, h1, h2, h3, h4, hb0.drew⟩ | exact ⟨c0, c1, c2, c3, c4, d0, d1, d2, d3, d4, e0, e1, e2, e3, e4, f0, f1, f2, f3, f4, h0, h1, h2, h3, h4, hb0⟩ | (obtain ⟨c0, c1, c2, c3, c4, d0, d1, d2, d3, d4, e0, e1, e2, e3, e4, f0, f1, f2, f3, f4, h0, h1, h2, h3, h4, hb0⟩ := hHeld; exact ⟨cell_later hb c0, cell_later hb c1, cell_later hb c2, cell_later hb c3, cell_later hb c4, cell_later hb d0, cell_later hb d1, cell_later hb d2, cell_later hb d3, cell_later hb d4, cell_later hb e0, cell_later hb e1, cell_later hb e2, cell_later hb e3, cell_later hb e4, cell_later hb f0, cell_later hb f1, cell_later hb f2, cell_later hb f3, cell_later hb f4, cell_later hb h0, cell_later hb h1, cell_later hb h2, cell_later hb h3, cell_later hb h4, below_step hb0 hb⟩))
      clear hK K hHeld
      have hHeld := hHeld2
      clear hHeld2
      (try simp only [Act.put, List.setIfInBounds_toArray, List.set_cons_zero, List.set_cons_succ])
      refine wpAnyH_take (i := 1) (oi := { dst := some 57, op := Go.Op.move (Go.Operand.tmp 56), type := 4, pos := _, after := #[{ on := 0, ground := Go.Ground.data }, { on := 0, ground := Go.Ground.chain }], guard := none }) (v := ?vr3_2_1) rfl (by kernel_rfl) (by kernel_rfl) (by kernel_rfl) (fun _ _ _ h => h) (Or.inl ⟨by rfl, ?yr3_2_1⟩) hHeld ?_
      case yr3_2_1 => ((intro w hSw; (try dsimp only at hSw); go_simp) <;> with_reducible rfl)
      (try simp only [Act.put, List.setIfInBounds_toArray, List.set_cons_zero, List.set_cons_succ])
      refine wpAnyH_take (i := 2) (oi := { dst := some 58, op := Go.Op.load 24 (Go.Operand.tmp 7), type := 24, pos := _, after := #[{ on := 1, ground := Go.Ground.guard }], guard := some (1, true) }) (v := ?vr3_3_2) rfl (by kernel_rfl) (by kernel_rfl) (by kernel_rfl) (fun _ _ _ h => h) (Or.inl ⟨by rfl, ?yr3_3_2⟩) hHeld ?_
      case yr3_3_2 => ((intro w hSw; (try dsimp only at hSw); go_simp) <;> with_reducible rfl)
      (try simp only [Act.put, List.setIfInBounds_toArray, List.set_cons_zero, List.set_cons_succ])
      refine wpAnyH_take (i := 3) (oi := { dst := some 59, op := Go.Op.load 24 (Go.Operand.tmp 3), type := 24, pos := _, after := #[{ on := 1, ground := Go.Ground.guard }], guard := some (1, true) }) (v := ?vr3_4_3) rfl (by kernel_rfl) (by kernel_rfl) (by kernel_rfl) (fun _ _ _ h => h) (Or.inl ⟨by rfl, ?yr3_4_3⟩) hHeld ?_
      case yr3_4_3 => ((intro w hSw; (try dsimp only at hSw); go_simp) <;> with_reducible rfl)
      (try simp only [Act.put, List.setIfInBounds_toArray, List.set_cons_zero, List.set_cons_succ])
      refine wpAnyH_ready (rs := [4]) (by kernel_rfl) (by simp) ?_
      refine AllReadyH.cons (o := { dst := some 60, op := Go.Op.call { callee := Go.Callee.value (Go.Operand.func 32), args := #[Go.Operand.tmp 58, Go.Operand.tmp 59], argTypes := #[24, 24] }, type := 4, pos := _, after := #[{ on := 2, ground := Go.Ground.data }, { on := 3, ground := Go.Ground.data }, { on := 1, ground := Go.Ground.chain }, { on := 1, ground := Go.Ground.guard }], guard := some (1, true) }) rfl (fun K hK => ?_) AllReadyH.nil
      (go_simp; (refine (HMA _).mono ?_); (rintro e wn ⟨rfl, hb⟩); go_wp2_with fail)
      refine hK.out _ _ ?hSr3_5_4 (fun hHeld2 => ?_)
      case hSr3_5_4 => (first | exact ⟨c0, c1, c2, c3, c4, d0, d1, d2, d3, d4, e0, e1, e2, e3, e4, f0, f1, f2, f3, f4, h0, h1, h2, h3, h4, hb0.drew⟩ | exact ⟨c0, c1, c2, c3, c4, d0, d1, d2, d3, d4, e0, e1, e2, e3, e4, f0, f1, f2, f3, f4, h0, h1, h2, h3, h4, hb0⟩ | (obtain ⟨c0, c1, c2, c3, c4, d0, d1, d2, d3, d4, e0, e1, e2, e3, e4, f0, f1, f2, f3, f4, h0, h1, h2, h3, h4, hb0⟩ := hHeld; exact ⟨cell_later hb c0, cell_later hb c1, cell_later hb c2, cell_later hb c3, cell_later hb c4, cell_later hb d0, cell_later hb d1, cell_later hb d2, cell_later hb d3, cell_later hb d4, cell_later hb e0, cell_later hb e1, cell_later hb e2, cell_later hb e3, cell_later hb e4, cell_later hb f0, cell_later hb f1, cell_later hb f2, cell_later hb f3, cell_later hb f4, cell_later hb h0, cell_later hb h1, cell_later hb h2, cell_later hb h3, cell_later hb h4, below_step hb0 hb⟩))
      clear hK K hHeld
      have hHeld := hHeld2
      clear hHeld2
      (try simp only [Act.put, List.setIfInBounds_toArray, List.set_cons_zero, List.set_cons_succ])
      refine wpAnyH_take (i := 5) (oi := { dst := some 61, op := Go.Op.pick (Go.Operand.tmp 57) (Go.Operand.tmp 60) (Go.Operand.const (Go.Value.bool false)), type := 4, pos := _, after := #[{ on := 1, ground := Go.Ground.data }, { on := 4, ground := Go.Ground.data }], guard := none }) (v := ?vr3_6_5) rfl (by kernel_rfl) (by kernel_rfl) (by kernel_rfl) (fun _ _ _ h => h) (Or.inl ⟨by rfl, ?yr3_6_5⟩) hHeld ?_
      case yr3_6_5 => ((intro w hSw; (try dsimp only at hSw); go_simp) <;> with_reducible rfl)
      (try simp only [Act.put, List.setIfInBounds_toArray, List.set_cons_zero, List.set_cons_succ])
      refine wpAnyH_take (i := 6) (oi := { dst := some 62, op := Go.Op.move (Go.Operand.tmp 61), type := 4, pos := _, after := #[{ on := 5, ground := Go.Ground.data }, { on := 4, ground := Go.Ground.chain }], guard := none }) (v := ?vr3_7_6) rfl (by kernel_rfl) (by kernel_rfl) (by kernel_rfl) (fun _ _ _ h => h) (Or.inl ⟨by rfl, ?yr3_7_6⟩) hHeld ?_
      case yr3_7_6 => ((intro w hSw; (try dsimp only at hSw); go_simp) <;> with_reducible rfl)
      (try simp only [Act.put, List.setIfInBounds_toArray, List.set_cons_zero, List.set_cons_succ])
      refine wpAnyH_take (i := 7) (oi := { dst := some 63, op := Go.Op.load 24 (Go.Operand.tmp 7), type := 24, pos := _, after := #[{ on := 6, ground := Go.Ground.guard }], guard := some (6, true) }) (v := ?vr3_8_7) rfl (by kernel_rfl) (by kernel_rfl) (by kernel_rfl) (fun _ _ _ h => h) (Or.inl ⟨by rfl, ?yr3_8_7⟩) hHeld ?_
      case yr3_8_7 => ((intro w hSw; (try dsimp only at hSw); go_simp) <;> with_reducible rfl)
      (try simp only [Act.put, List.setIfInBounds_toArray, List.set_cons_zero, List.set_cons_succ])
      refine wpAnyH_take (i := 8) (oi := { dst := some 64, op := Go.Op.load 24 (Go.Operand.tmp 4), type := 24, pos := _, after := #[{ on := 6, ground := Go.Ground.guard }], guard := some (6, true) }) (v := ?vr3_9_8) rfl (by kernel_rfl) (by kernel_rfl) (by kernel_rfl) (fun _ _ _ h => h) (Or.inl ⟨by rfl, ?yr3_9_8⟩) hHeld ?_
      case yr3_9_8 => ((intro w hSw; (try dsimp only at hSw); go_simp) <;> with_reducible rfl)
      (try simp only [Act.put, List.setIfInBounds_toArray, List.set_cons_zero, List.set_cons_succ])
      refine wpAnyH_ready (rs := [9]) (by kernel_rfl) (by simp) ?_
      refine AllReadyH.cons (o := { dst := some 65, op := Go.Op.call { callee := Go.Callee.value (Go.Operand.func 32), args := #[Go.Operand.tmp 63, Go.Operand.tmp 64], argTypes := #[24, 24] }, type := 4, pos := _, after := #[{ on := 7, ground := Go.Ground.data }, { on := 8, ground := Go.Ground.data }, { on := 6, ground := Go.Ground.chain }, { on := 6, ground := Go.Ground.guard }], guard := some (6, true) }) rfl (fun K hK => ?_) AllReadyH.nil
      (go_simp; (refine (HMB _).mono ?_); (rintro e wn ⟨rfl, hb⟩); go_wp2_with fail)
      refine hK.out _ _ ?hSr3_10_9 (fun hHeld2 => ?_)
      case hSr3_10_9 => (first | exact ⟨c0, c1, c2, c3, c4, d0, d1, d2, d3, d4, e0, e1, e2, e3, e4, f0, f1, f2, f3, f4, h0, h1, h2, h3, h4, hb0.drew⟩ | exact ⟨c0, c1, c2, c3, c4, d0, d1, d2, d3, d4, e0, e1, e2, e3, e4, f0, f1, f2, f3, f4, h0, h1, h2, h3, h4, hb0⟩ | (obtain ⟨c0, c1, c2, c3, c4, d0, d1, d2, d3, d4, e0, e1, e2, e3, e4, f0, f1, f2, f3, f4, h0, h1, h2, h3, h4, hb0⟩ := hHeld; exact ⟨cell_later hb c0, cell_later hb c1, cell_later hb c2, cell_later hb c3, cell_later hb c4, cell_later hb d0, cell_later hb d1, cell_later hb d2, cell_later hb d3, cell_later hb d4, cell_later hb e0, cell_later hb e1, cell_later hb e2, cell_later hb e3, cell_later hb e4, cell_later hb f0, cell_later hb f1, cell_later hb f2, cell_later hb f3, cell_later hb f4, cell_later hb h0, cell_later hb h1, cell_later hb h2, cell_later hb h3, cell_later hb h4, below_step hb0 hb⟩))
      clear hK K hHeld
      have hHeld := hHeld2
      clear hHeld2
      (try simp only [Act.put, List.setIfInBounds_toArray, List.set_cons_zero, List.set_cons_succ])
      refine wpAnyH_take (i := 10) (oi := { dst := some 66, op := Go.Op.pick (Go.Operand.tmp 62) (Go.Operand.tmp 65) (Go.Operand.const (Go.Value.bool false)), type := 4, pos := _, after := #[{ on := 6, ground := Go.Ground.data }, { on := 9, ground := Go.Ground.data }], guard := none }) (v := ?vr3_11_10) rfl (by kernel_rfl) (by kernel_rfl) (by kernel_rfl) (fun _ _ _ h => h) (Or.inl ⟨by rfl, ?yr3_11_10⟩) hHeld ?_
      case yr3_11_10 => ((intro w hSw; (try dsimp only at hSw); go_simp) <;> with_reducible rfl)
      (try simp only [Act.put, List.setIfInBounds_toArray, List.set_cons_zero, List.set_cons_succ])
      refine wpAnyH_take (i := 11) (oi := { dst := some 67, op := Go.Op.move (Go.Operand.tmp 66), type := 4, pos := _, after := #[{ on := 10, ground := Go.Ground.data }, { on := 9, ground := Go.Ground.chain }], guard := none }) (v := ?vr3_12_11) rfl (by kernel_rfl) (by kernel_rfl) (by kernel_rfl) (fun _ _ _ h => h) (Or.inl ⟨by rfl, ?yr3_12_11⟩) hHeld ?_
      case yr3_12_11 => ((intro w hSw; (try dsimp only at hSw); go_simp) <;> with_reducible rfl)
      (try simp only [Act.put, List.setIfInBounds_toArray, List.set_cons_zero, List.set_cons_succ])
      refine wpAnyH_take (i := 12) (oi := { dst := some 68, op := Go.Op.load 24 (Go.Operand.tmp 5), type := 24, pos := _, after := #[{ on := 11, ground := Go.Ground.guard }], guard := some (11, true) }) (v := ?vr3_13_12) rfl (by kernel_rfl) (by kernel_rfl) (by kernel_rfl) (fun _ _ _ h => h) (Or.inl ⟨by rfl, ?yr3_13_12⟩) hHeld ?_
      case yr3_13_12 => ((intro w hSw; (try dsimp only at hSw); go_simp) <;> with_reducible rfl)
      (try simp only [Act.put, List.setIfInBounds_toArray, List.set_cons_zero, List.set_cons_succ])
      refine wpAnyH_take (i := 13) (oi := { dst := some 69, op := Go.Op.load 24 (Go.Operand.tmp 3), type := 24, pos := _, after := #[{ on := 11, ground := Go.Ground.guard }], guard := some (11, true) }) (v := ?vr3_14_13) rfl (by kernel_rfl) (by kernel_rfl) (by kernel_rfl) (fun _ _ _ h => h) (Or.inl ⟨by rfl, ?yr3_14_13⟩) hHeld ?_
      case yr3_14_13 => ((intro w hSw; (try dsimp only at hSw); go_simp) <;> with_reducible rfl)
      (try simp only [Act.put, List.setIfInBounds_toArray, List.set_cons_zero, List.set_cons_succ])
      refine wpAnyH_take (i := 20) (oi := { dst := some 76, op := Go.Op.load 24 (Go.Operand.tmp 5), type := 24, pos := _, after := #[{ on := 11, ground := Go.Ground.guard }], guard := some (11, true) }) (v := ?vr3_15_20) rfl (by kernel_rfl) (by kernel_rfl) (by kernel_rfl) (fun _ _ _ h => h) (Or.inl ⟨by rfl, ?yr3_15_20⟩) hHeld ?_
      case yr3_15_20 => ((intro w hSw; (try dsimp only at hSw); go_simp) <;> with_reducible rfl)
      (try simp only [Act.put, List.setIfInBounds_toArray, List.set_cons_zero, List.set_cons_succ])
      refine wpAnyH_take (i := 21) (oi := { dst := some 77, op := Go.Op.load 24 (Go.Operand.tmp 7), type := 24, pos := _, after := #[{ on := 11, ground := Go.Ground.guard }], guard := some (11, true) }) (v := ?vr3_16_21) rfl (by kernel_rfl) (by kernel_rfl) (by kernel_rfl) (fun _ _ _ h => h) (Or.inl ⟨by rfl, ?yr3_16_21⟩) hHeld ?_
      case yr3_16_21 => ((intro w hSw; (try dsimp only at hSw); go_simp) <;> with_reducible rfl)
      (try simp only [Act.put, List.setIfInBounds_toArray, List.set_cons_zero, List.set_cons_succ])
      refine wpAnyH_ready (rs := [14]) (by kernel_rfl) (by simp) ?_
      refine AllReadyH.cons (o := { dst := some 70, op := Go.Op.call { callee := Go.Callee.value (Go.Operand.func 32), args := #[Go.Operand.tmp 68, Go.Operand.tmp 69], argTypes := #[24, 24] }, type := 4, pos := _, after := #[{ on := 12, ground := Go.Ground.data }, { on := 13, ground := Go.Ground.data }, { on := 11, ground := Go.Ground.chain }, { on := 11, ground := Go.Ground.guard }], guard := some (11, true) }) rfl (fun K hK => ?_) AllReadyH.nil
      (go_simp; (refine (HXA _).mono ?_); (rintro e wn ⟨rfl, hb⟩); go_wp2_with fail)
      refine hK.out _ _ ?hSr3_17_14 (fun hHeld2 => ?_)
      case hSr3_17_14 => (first | exact ⟨c0, c1, c2, c3, c4, d0, d1, d2, d3, d4, e0, e1, e2, e3, e4, f0, f1, f2, f3, f4, h0, h1, h2, h3, h4, hb0.drew⟩ | exact ⟨c0, c1, c2, c3, c4, d0, d1, d2, d3, d4, e0, e1, e2, e3, e4, f0, f1, f2, f3, f4, h0, h1, h2, h3, h4, hb0⟩ | (obtain ⟨c0, c1, c2, c3, c4, d0, d1, d2, d3, d4, e0, e1, e2, e3, e4, f0, f1, f2, f3, f4, h0, h1, h2, h3, h4, hb0⟩ := hHeld; exact ⟨cell_later hb c0, cell_later hb c1, cell_later hb c2, cell_later hb c3, cell_later hb c4, cell_later hb d0, cell_later hb d1, cell_later hb d2, cell_later hb d3, cell_later hb d4, cell_later hb e0, cell_later hb e1, cell_later hb e2, cell_later hb e3, cell_later hb e4, cell_later hb f0, cell_later hb f1, cell_later hb f2, cell_later hb f3, cell_later hb f4, cell_later hb h0, cell_later hb h1, cell_later hb h2, cell_later hb h3, cell_later hb h4, below_step hb0 hb⟩))
      clear hK K hHeld
      have hHeld := hHeld2
      clear hHeld2
      (try simp only [Act.put, List.setIfInBounds_toArray, List.set_cons_zero, List.set_cons_succ])
      refine wpAnyH_take (i := 15) (oi := { dst := some 71, op := Go.Op.move (Go.Operand.tmp 70), type := 4, pos := _, after := #[{ on := 14, ground := Go.Ground.data }, { on := 14, ground := Go.Ground.chain }, { on := 11, ground := Go.Ground.guard }], guard := some (11, true) }) (v := ?vr3_18_15) rfl (by kernel_rfl) (by kernel_rfl) (by kernel_rfl) (fun _ _ _ h => h) (Or.inl ⟨by rfl, ?yr3_18_15⟩) hHeld ?_
      case yr3_18_15 => ((intro w hSw; (try dsimp only at hSw); go_simp) <;> with_reducible rfl)
      (try simp only [Act.put, List.setIfInBounds_toArray, List.set_cons_zero, List.set_cons_succ])
      refine wpAnyH_take (i := 16) (oi := { dst := some 72, op := Go.Op.load 24 (Go.Operand.tmp 5), type := 24, pos := _, after := #[{ on := 15, ground := Go.Ground.guard }], guard := some (15, true) }) (v := ?vr3_19_16) rfl (by kernel_rfl) (by kernel_rfl) (by kernel_rfl) (fun _ _ _ h => h) (Or.inl ⟨by rfl, ?yr3_19_16⟩) hHeld ?_
      case yr3_19_16 => ((intro w hSw; (try dsimp only at hSw); go_simp) <;> with_reducible rfl)
      (try simp only [Act.put, List.setIfInBounds_toArray, List.set_cons_zero, List.set_cons_succ])
      refine wpAnyH_take (i := 17) (oi := { dst := some 73, op := Go.Op.load 24 (Go.Operand.tmp 4), type := 24, pos := _, after := #[{ on := 15, ground := Go.Ground.guard }], guard := some (15, true) }) (v := ?vr3_20_17) rfl (by kernel_rfl) (by kernel_rfl) (by kernel_rfl) (fun _ _ _ h => h) (Or.inl ⟨by rfl, ?yr3_20_17⟩) hHeld ?_
      case yr3_20_17 => ((intro w hSw; (try dsimp only at hSw); go_simp) <;> with_reducible rfl)
      (try simp only [Act.put, List.setIfInBounds_toArray, List.set_cons_zero, List.set_cons_succ])
      refine wpAnyH_ready (rs := [18]) (by kernel_rfl) (by simp) ?_
      refine AllReadyH.cons (o := { dst := some 74, op := Go.Op.call { callee := Go.Callee.value (Go.Operand.func 32), args := #[Go.Operand.tmp 72, Go.Operand.tmp 73], argTypes := #[24, 24] }, type := 4, pos := _, after := #[{ on := 16, ground := Go.Ground.data }, { on := 17, ground := Go.Ground.data }, { on := 15, ground := Go.Ground.chain }, { on := 15, ground := Go.Ground.guard }], guard := some (15, true) }) rfl (fun K hK => ?_) AllReadyH.nil
      (go_simp; (refine (HXB _).mono ?_); (rintro e wn ⟨rfl, hb⟩); go_wp2_with fail)
      refine hK.out _ _ ?hSr3_21_18 (fun hHeld2 => ?_)
      case hSr3_21_18 => (first | exact ⟨c0, c1, c2, c3, c4, d0, d1, d2, d3, d4, e0, e1, e2, e3, e4, f0, f1, f2, f3, f4, h0, h1, h2, h3, h4, hb0.drew⟩ | exact ⟨c0, c1, c2, c3, c4, d0, d1, d2, d3, d4, e0, e1, e2, e3, e4, f0, f1, f2, f3, f4, h0, h1, h2, h3, h4, hb0⟩ | (obtain ⟨c0, c1, c2, c3, c4, d0, d1, d2, d3, d4, e0, e1, e2, e3, e4, f0, f1, f2, f3, f4, h0, h1, h2, h3, h4, hb0⟩ := hHeld; exact ⟨cell_later hb c0, cell_later hb c1, cell_later hb c2, cell_later hb c3, cell_later hb c4, cell_later hb d0, cell_later hb d1, cell_later hb d2, cell_later hb d3, cell_later hb d4, cell_later hb e0, cell_later hb e1, cell_later hb e2, cell_later hb e3, cell_later hb e4, cell_later hb f0, cell_later hb f1, cell_later hb f2, cell_later hb f3, cell_later hb f4, cell_later hb h0, cell_later hb h1, cell_later hb h2, cell_later hb h3, cell_later hb h4, below_step hb0 hb⟩))
      clear hK K hHeld
      have hHeld := hHeld2
      clear hHeld2
      (try simp only [Act.put, List.setIfInBounds_toArray, List.set_cons_zero, List.set_cons_succ])
      refine wpAnyH_take (i := 19) (oi := { dst := some 75, op := Go.Op.pick (Go.Operand.tmp 71) (Go.Operand.tmp 74) (Go.Operand.const (Go.Value.bool false)), type := 4, pos := _, after := #[{ on := 15, ground := Go.Ground.data }, { on := 18, ground := Go.Ground.data }, { on := 11, ground := Go.Ground.guard }], guard := some (11, true) }) (v := ?vr3_22_19) rfl (by kernel_rfl) (by kernel_rfl) (by kernel_rfl) (fun _ _ _ h => h) (Or.inl ⟨by rfl, ?yr3_22_19⟩) hHeld ?_
      case yr3_22_19 => ((intro w hSw; (try dsimp only at hSw); go_simp) <;> with_reducible rfl)
      (try simp only [Act.put, List.setIfInBounds_toArray, List.set_cons_zero, List.set_cons_succ])
      refine wpAnyH_ready (rs := [22]) (by kernel_rfl) (by simp) ?_
      refine AllReadyH.cons (o := { dst := some 78, op := Go.Op.call { callee := Go.Callee.value (Go.Operand.func 32), args := #[Go.Operand.tmp 76, Go.Operand.tmp 77], argTypes := #[24, 24] }, type := 4, pos := _, after := #[{ on := 20, ground := Go.Ground.data }, { on := 21, ground := Go.Ground.data }, { on := 18, ground := Go.Ground.chain }, { on := 11, ground := Go.Ground.guard }], guard := some (11, true) }) rfl (fun K hK => ?_) AllReadyH.nil
      (go_simp; (refine (HXM _).mono ?_); (rintro e wn ⟨rfl, hb⟩); go_wp2_with fail)
      refine hK.out _ _ ?hSr3_23_22 (fun hHeld2 => ?_)
      case hSr3_23_22 => (first | exact ⟨c0, c1, c2, c3, c4, d0, d1, d2, d3, d4, e0, e1, e2, e3, e4, f0, f1, f2, f3, f4, h0, h1, h2, h3, h4, hb0.drew⟩ | exact ⟨c0, c1, c2, c3, c4, d0, d1, d2, d3, d4, e0, e1, e2, e3, e4, f0, f1, f2, f3, f4, h0, h1, h2, h3, h4, hb0⟩ | (obtain ⟨c0, c1, c2, c3, c4, d0, d1, d2, d3, d4, e0, e1, e2, e3, e4, f0, f1, f2, f3, f4, h0, h1, h2, h3, h4, hb0⟩ := hHeld; exact ⟨cell_later hb c0, cell_later hb c1, cell_later hb c2, cell_later hb c3, cell_later hb c4, cell_later hb d0, cell_later hb d1, cell_later hb d2, cell_later hb d3, cell_later hb d4, cell_later hb e0, cell_later hb e1, cell_later hb e2, cell_later hb e3, cell_later hb e4, cell_later hb f0, cell_later hb f1, cell_later hb f2, cell_later hb f3, cell_later hb f4, cell_later hb h0, cell_later hb h1, cell_later hb h2, cell_later hb h3, cell_later hb h4, below_step hb0 hb⟩))
      clear hK K hHeld
      have hHeld := hHeld2
      clear hHeld2
      (try simp only [Act.put, List.setIfInBounds_toArray, List.set_cons_zero, List.set_cons_succ])
      refine wpAnyH_take (i := 23) (oi := { dst := some 79, op := Go.Op.binOp Go.BinOp.eql 4 (Go.Operand.tmp 75) (Go.Operand.tmp 78) 4, type := 4, pos := _, after := #[{ on := 19, ground := Go.Ground.data }, { on := 22, ground := Go.Ground.data }, { on := 11, ground := Go.Ground.guard }], guard := some (11, true) }) (v := ?vr3_24_23) rfl (by kernel_rfl) (by kernel_rfl) (by kernel_rfl) (fun _ _ _ h => h) (Or.inl ⟨by rfl, ?yr3_24_23⟩) hHeld ?_
      case yr3_24_23 => ((intro w hSw; (try dsimp only at hSw); go_simp) <;> with_reducible rfl)
      (try simp only [Act.put, List.setIfInBounds_toArray, List.set_cons_zero, List.set_cons_succ])
      refine wpAnyH_take (i := 24) (oi := { dst := some 80, op := Go.Op.pick (Go.Operand.tmp 67) (Go.Operand.tmp 79) (Go.Operand.const (Go.Value.bool false)), type := 4, pos := _, after := #[{ on := 11, ground := Go.Ground.data }, { on := 23, ground := Go.Ground.data }], guard := none }) (v := ?vr3_25_24) rfl (by kernel_rfl) (by kernel_rfl) (by kernel_rfl) (fun _ _ _ h => h) (Or.inl ⟨by rfl, ?yr3_25_24⟩) hHeld ?_
      case yr3_25_24 => ((intro w hSw; (try dsimp only at hSw); go_simp) <;> with_reducible rfl)
      (try simp only [Act.put, List.setIfInBounds_toArray, List.set_cons_zero, List.set_cons_succ])
      refine wpAnyH_take (i := 25) (oi := { dst := some 6, op := Go.Op.assign (Go.Operand.tmp 80), type := 4, pos := _, after := #[{ on := 24, ground := Go.Ground.data }, { on := 22, ground := Go.Ground.chain }, { on := 0, ground := Go.Ground.phase }, { on := 1, ground := Go.Ground.phase }, { on := 2, ground := Go.Ground.phase }, { on := 3, ground := Go.Ground.phase }, { on := 4, ground := Go.Ground.phase }, { on := 5, ground := Go.Ground.phase }, { on := 6, ground := Go.Ground.phase }, { on := 7, ground := Go.Ground.phase }, { on := 8, ground := Go.Ground.phase }, { on := 9, ground := Go.Ground.phase }, { on := 10, ground := Go.Ground.phase }, { on := 11, ground := Go.Ground.phase }, { on := 12, ground := Go.Ground.phase }, { on := 13, ground := Go.Ground.phase }, { on := 14, ground := Go.Ground.phase }, { on := 15, ground := Go.Ground.phase }, { on := 16, ground := Go.Ground.phase }, { on := 17, ground := Go.Ground.phase }, { on := 18, ground := Go.Ground.phase }, { on := 19, ground := Go.Ground.phase }, { on := 20, ground := Go.Ground.phase }, { on := 21, ground := Go.Ground.phase }, { on := 22, ground := Go.Ground.phase }, { on := 23, ground := Go.Ground.phase }, { on := 24, ground := Go.Ground.phase }], guard := none }) (v := ?vr3_26_25) rfl (by kernel_rfl) (by kernel_rfl) (by kernel_rfl) (fun _ _ _ h => h) (Or.inl ⟨by rfl, ?yr3_26_25⟩) hHeld ?_
      case yr3_26_25 => ((intro w hSw; (try dsimp only at hSw); go_simp) <;> with_reducible rfl)
      (try simp only [Act.put, List.setIfInBounds_toArray, List.set_cons_zero, List.set_cons_succ])
      refine wpAnyH_done (by kernel_rfl) ?_ _
      clear c0 c1 c2 c3 c4 d0 d1 d2 d3 d4 e0 e1 e2 e3 e4 f0 f1 f2 f3 f4 h0 h1 h2 h3 h4 hb0
      obtain ⟨c0, c1, c2, c3, c4, d0, d1, d2, d3, d4, e0, e1, e2, e3, e4, f0, f1, f2, f3, f4, h0, h1, h2, h3, h4, hb0⟩ := hHeld
      go_wp2
      go_ret
      exact ⟨rfl, hb0⟩
    case true.true =>
      go_enter Try.func9, Try.ntmps9
      go_wp2_with fail
      refine (HM _).mono ?_
      rintro e w27 ⟨rfl, hb⟩
      replace c0 := cell_later hb c0
      replace c1 := cell_later hb c1
      replace c2 := cell_later hb c2
      replace c3 := cell_later hb c3
      replace c4 := cell_later hb c4
      replace d0 := cell_later hb d0
      replace d1 := cell_later hb d1
      replace d2 := cell_later hb d2
      replace d3 := cell_later hb d3
      replace d4 := cell_later hb d4
      replace e0 := cell_later hb e0
      replace e1 := cell_later hb e1
      replace e2 := cell_later hb e2
      replace e3 := cell_later hb e3
      replace e4 := cell_later hb e4
      replace hb0 := below_step hb0 hb
      clear hb
      have lc := World.block_lt_of_cell? _ _ c0
      dsimp only at lc
      have ld := World.block_lt_of_cell? _ _ d0
      dsimp only at ld
      have le := World.block_lt_of_cell? _ _ e0
      dsimp only at le
      go_wp2_with fail
      refine (HN _).mono ?_
      rintro e w28 ⟨rfl, hb⟩
      replace c0 := cell_later hb (cell_later ((Below.refl _ _).alloc (Nat.le_refl _) _) c0)
      replace c1 := cell_later hb (cell_later ((Below.refl _ _).alloc (Nat.le_refl _) _) c1)
      replace c2 := cell_later hb (cell_later ((Below.refl _ _).alloc (Nat.le_refl _) _) c2)
      replace c3 := cell_later hb (cell_later ((Below.refl _ _).alloc (Nat.le_refl _) _) c3)
      replace c4 := cell_later hb (cell_later ((Below.refl _ _).alloc (Nat.le_refl _) _) c4)
      replace d0 := cell_later hb (cell_later ((Below.refl _ _).alloc (Nat.le_refl _) _) d0)
      replace d1 := cell_later hb (cell_later ((Below.refl _ _).alloc (Nat.le_refl _) _) d1)
      replace d2 := cell_later hb (cell_later ((Below.refl _ _).alloc (Nat.le_refl _) _) d2)
      replace d3 := cell_later hb (cell_later ((Below.refl _ _).alloc (Nat.le_refl _) _) d3)
      replace d4 := cell_later hb (cell_later ((Below.refl _ _).alloc (Nat.le_refl _) _) d4)
      replace e0 := cell_later hb (cell_later ((Below.refl _ _).alloc (Nat.le_refl _) _) e0)
      replace e1 := cell_later hb (cell_later ((Below.refl _ _).alloc (Nat.le_refl _) _) e1)
      replace e2 := cell_later hb (cell_later ((Below.refl _ _).alloc (Nat.le_refl _) _) e2)
      replace e3 := cell_later hb (cell_later ((Below.refl _ _).alloc (Nat.le_refl _) _) e3)
      replace e4 := cell_later hb (cell_later ((Below.refl _ _).alloc (Nat.le_refl _) _) e4)
      have f0 := ((Row.later (Row.new _ _ _) hb).cell 0).trans (show _ = some (Value.int .i64 t.kind) from rfl)
      have f1 := ((Row.later (Row.new _ _ _) hb).cell 1).trans (show _ = some (Value.int .i64 t.len) from rfl)
      have f2 := ((Row.later (Row.new _ _ _) hb).cell 2).trans (show _ = some (Value.int .u64 t.h) from rfl)
      have f3 := ((Row.later (Row.new _ _ _) hb).cell 3).trans (show _ = some (Value.int .u64 t.l) from rfl)
      have f4 := ((Row.later (Row.new _ _ _) hb).cell 4).trans (show _ = some (Value.string ⟨t.path.toArray⟩) from rfl)
      replace hb0 := below_step (hb0.alloc hb0.size _) hb
      clear hb
      generalize w27.heap.size = gf at *
      have lc := World.block_lt_of_cell? _ _ c0
      dsimp only at lc
      have ld := World.block_lt_of_cell? _ _ d0
      dsimp only at ld
      have le := World.block_lt_of_cell? _ _ e0
      dsimp only at le
      have lf := World.block_lt_of_cell? _ _ f0
      dsimp only at lf
      go_wp2_with fail
      refine (HA _).mono ?_
      rintro e w29 ⟨rfl, hb⟩
      replace c0 := cell_later hb (cell_later ((Below.refl _ _).alloc (Nat.le_refl _) _) c0)
      replace c1 := cell_later hb (cell_later ((Below.refl _ _).alloc (Nat.le_refl _) _) c1)
      replace c2 := cell_later hb (cell_later ((Below.refl _ _).alloc (Nat.le_refl _) _) c2)
      replace c3 := cell_later hb (cell_later ((Below.refl _ _).alloc (Nat.le_refl _) _) c3)
      replace c4 := cell_later hb (cell_later ((Below.refl _ _).alloc (Nat.le_refl _) _) c4)
      replace d0 := cell_later hb (cell_later ((Below.refl _ _).alloc (Nat.le_refl _) _) d0)
      replace d1 := cell_later hb (cell_later ((Below.refl _ _).alloc (Nat.le_refl _) _) d1)
      replace d2 := cell_later hb (cell_later ((Below.refl _ _).alloc (Nat.le_refl _) _) d2)
      replace d3 := cell_later hb (cell_later ((Below.refl _ _).alloc (Nat.le_refl _) _) d3)
      replace d4 := cell_later hb (cell_later ((Below.refl _ _).alloc (Nat.le_refl _) _) d4)
      replace e0 := cell_later hb (cell_later ((Below.refl _ _).alloc (Nat.le_refl _) _) e0)
      replace e1 := cell_later hb (cell_later ((Below.refl _ _).alloc (Nat.le_refl _) _) e1)
      replace e2 := cell_later hb (cell_later ((Below.refl _ _).alloc (Nat.le_refl _) _) e2)
      replace e3 := cell_later hb (cell_later ((Below.refl _ _).alloc (Nat.le_refl _) _) e3)
      replace e4 := cell_later hb (cell_later ((Below.refl _ _).alloc (Nat.le_refl _) _) e4)
      replace f0 := cell_later hb (cell_later ((Below.refl _ _).alloc (Nat.le_refl _) _) f0)
      replace f1 := cell_later hb (cell_later ((Below.refl _ _).alloc (Nat.le_refl _) _) f1)
      replace f2 := cell_later hb (cell_later ((Below.refl _ _).alloc (Nat.le_refl _) _) f2)
      replace f3 := cell_later hb (cell_later ((Below.refl _ _).alloc (Nat.le_refl _) _) f3)
      replace f4 := cell_later hb (cell_later ((Below.refl _ _).alloc (Nat.le_refl _) _) f4)
      have h0 := ((Row.later (Row.new _ _ _) hb).cell 0).trans (show _ = some (Value.int .i64 t.kind) from rfl)
      have h1 := ((Row.later (Row.new _ _ _) hb).cell 1).trans (show _ = some (Value.int .i64 t.len) from rfl)
      have h2 := ((Row.later (Row.new _ _ _) hb).cell 2).trans (show _ = some (Value.int .u64 t.h) from rfl)
      have h3 := ((Row.later (Row.new _ _ _) hb).cell 3).trans (show _ = some (Value.int .u64 t.l) from rfl)
      have h4 := ((Row.later (Row.new _ _ _) hb).cell 4).trans (show _ = some (Value.string ⟨t.path.toArray⟩) from rfl)
      replace hb0 := below_step (hb0.alloc hb0.size _) hb
      clear hb
      generalize w28.heap.size = gh at *
      have lc := World.block_lt_of_cell? _ _ c0
      dsimp only at lc
      have ld := World.block_lt_of_cell? _ _ d0
      dsimp only at ld
      have le := World.block_lt_of_cell? _ _ e0
      dsimp only at le
      have lf := World.block_lt_of_cell? _ _ f0
      dsimp only at lf
      have lh := World.block_lt_of_cell? _ _ h0
      dsimp only at lh
      go_wp2_with fail
      refine (HB _).mono ?_
      rintro e w30 ⟨rfl, hb⟩
      replace c0 := cell_later hb c0
      replace c1 := cell_later hb c1
      replace c2 := cell_later hb c2
      replace c3 := cell_later hb c3
      replace c4 := cell_later hb c4
      replace d0 := cell_later hb d0
      replace d1 := cell_later hb d1
      replace d2 := cell_later hb d2
      replace d3 := cell_later hb d3
      replace d4 := cell_later hb d4
      replace e0 := cell_later hb e0
      replace e1 := cell_later hb e1
      replace e2 := cell_later hb e2
      replace e3 := cell_later hb e3
      replace e4 := cell_later hb e4
      replace f0 := cell_later hb f0
      replace f1 := cell_later hb f1
      replace f2 := cell_later hb f2
      replace f3 := cell_later hb f3
      replace f4 := cell_later hb f4
      replace h0 := cell_later hb h0
      replace h1 := cell_later hb h1
      replace h2 := cell_later hb h2
      replace h3 := cell_later hb h3
      replace h4 := cell_later hb h4
      replace hb0 := below_step hb0 hb
      clear hb
      have lc := World.block_lt_of_cell? _ _ c0
      dsimp only at lc
      have ld := World.block_lt_of_cell? _ _ d0
      dsimp only at ld
      have le := World.block_lt_of_cell? _ _ e0
      dsimp only at le
      have lf := World.block_lt_of_cell? _ _ f0
      dsimp only at lf
      have lh := World.block_lt_of_cell? _ _ h0
      dsimp only at lh
      go_wp2_with fail
      refine wp_region_held_drew (S := (fun w' => w'.cell? ⟨w.heap.size, 0, none⟩ = some (.int .i64 a.kind) ∧ w'.cell? ⟨w.heap.size, 1, none⟩ = some (.int .i64 a.len) ∧ w'.cell? ⟨w.heap.size, 2, none⟩ = some (.int .u64 a.h) ∧ w'.cell? ⟨w.heap.size, 3, none⟩ = some (.int .u64 a.l) ∧ w'.cell? ⟨w.heap.size, 4, none⟩ = some (.string ⟨a.path.toArray⟩) ∧ w'.cell? ⟨w.heap.size + 1, 0, none⟩ = some (.int .i64 b.kind) ∧ w'.cell? ⟨w.heap.size + 1, 1, none⟩ = some (.int .i64 b.len) ∧ w'.cell? ⟨w.heap.size + 1, 2, none⟩ = some (.int .u64 b.h) ∧ w'.cell? ⟨w.heap.size + 1, 3, none⟩ = some (.int .u64 b.l) ∧ w'.cell? ⟨w.heap.size + 1, 4, none⟩ = some (.string ⟨b.path.toArray⟩) ∧ w'.cell? ⟨w.heap.size + 1 + 1, 0, none⟩ = some (.int .i64 x.kind) ∧ w'.cell? ⟨w.heap.size + 1 + 1, 1, none⟩ = some (.int .i64 x.len) ∧ w'.cell? ⟨w.heap.size + 1 + 1, 2, none⟩ = some (.int .u64 x.h) ∧ w'.cell? ⟨w.heap.size + 1 + 1, 3, none⟩ = some (.int .u64 x.l) ∧ w'.cell? ⟨w.heap.size + 1 + 1, 4, none⟩ = some (.string ⟨x.path.toArray⟩) ∧ w'.cell? ⟨gf, 0, none⟩ = some (Value.int .i64 t.kind) ∧ w'.cell? ⟨gf, 1, none⟩ = some (Value.int .i64 t.len) ∧ w'.cell? ⟨gf, 2, none⟩ = some (Value.int .u64 t.h) ∧ w'.cell? ⟨gf, 3, none⟩ = some (Value.int .u64 t.l) ∧ w'.cell? ⟨gf, 4, none⟩ = some (Value.string ⟨t.path.toArray⟩) ∧ w'.cell? ⟨gh, 0, none⟩ = some (Value.int .i64 t.kind) ∧ w'.cell? ⟨gh, 1, none⟩ = some (Value.int .i64 t.len) ∧ w'.cell? ⟨gh, 2, none⟩ = some (Value.int .u64 t.h) ∧ w'.cell? ⟨gh, 3, none⟩ = some (Value.int .u64 t.l) ∧ w'.cell? ⟨gh, 4, none⟩ = some (Value.string ⟨t.path.toArray⟩) ∧ Below w.heap.size w w')) (by kernel_rfl) ?hSr4_ (fun hHeld => ?_)
      case hSr4_ => (first | exact ⟨c0, c1, c2, c3, c4, d0, d1, d2, d3, d4, e0, e1, e2, e3, e4, f0, f1, f2, f3, f4, h0, h1, h2, h3, h4, hb0.drew⟩ | exact ⟨c0, c1, c2, c3, c4, d0, d1, d2, d3, d4, e0, e1, e2, e3, e4, f0, f1, f2, f3, f4, h0, h1, h2, h3, h4, hb0⟩ | (obtain ⟨c0, c1, c2, c3, c4, d0, d1, d2, d3, d4, e0, e1, e2, e3, e4, f0, f1, f2, f3, f4, h0, h1, h2, h3, h4, hb0⟩ := hHeld; exact ⟨cell_later hb c0, cell_later hb c1, cell_later hb c2, cell_later hb c3, cell_later hb c4, cell_later hb d0, cell_later hb d1, cell_later hb d2, cell_later hb d3, cell_later hb d4, cell_later hb e0, cell_later hb e1, cell_later hb e2, cell_later hb e3, cell_later hb e4, cell_later hb f0, cell_later hb f1, cell_later hb f2, cell_later hb f3, cell_later hb f4, cell_later hb h0, cell_later hb h1, cell_later hb h2, cell_later hb h3, cell_later hb h4, below_step hb0 hb⟩))
      refine wpAnyH_ready (rs := [0]) (by kernel_rfl) (by simp) ?_
      refine AllReadyH.cons (o := { dst := some 56, op := Go.Op.call { callee := Go.Callee.value (Go.Operand.func 18), args := #[], argTypes := #[] }, type := 4, pos := _, after := #[], guard := none }) rfl (fun K hK => ?_) AllReadyH.nil
      (go_simp; (refine (alive7_t _).mono ?_); (rintro e wn ⟨rfl, hb⟩); go_wp2_with fail)
      refine hK.out _ _ ?hSr4_1_0 (fun hHeld2 => ?_)
      case hSr4_1_0 => (first | exact ⟨c0, c1, c2, c3, c4, d0, d1, d2, d3, d4, e0, e1, e2, e3, e4, f0, f1, f2, f3, f4, h0, h1, h2, h3, h4, hb0.drew⟩ | exact ⟨c0, c1, c2, c3, c4, d0, d1, d2, d3, d4, e0, e1, e2, e3, e4, f0, f1, f2, f3, f4, h0, h1, h2, h3, h4, hb0⟩ | (obtain ⟨c0, c1, c2, c3, c4, d0, d1, d2, d3, d4, e0, e1, e2, e3, e4, f0, f1, f2, f3, f4, h0, h1, h2, h3, h4, hb0⟩ := hHeld; exact ⟨cell_later hb c0, cell_later hb c1, cell_later hb c2, cell_later hb c3, cell_later hb c4, cell_later hb d0, cell_later hb d1, cell_later hb d2, cell_later hb d3, cell_later hb d4, cell_later hb e0, cell_later hb e1, cell_later hb e2, cell_later hb e3, cell_later hb e4, cell_later hb f0, cell_later hb f1, cell_later hb f2, cell_later hb f3, cell_later hb f4, cell_later hb h0, cell_later hb h1, cell_later hb h2, cell_later hb h3, cell_later hb h4, below_step hb0 hb⟩))
      clear hK K hHeld
      have hHeld := hHeld2
      clear hHeld2
      (try simp only [Act.put, List.setIfInBounds_toArray, List.set_cons_zero, List.set_cons_succ])
      refine wpAnyH_take (i := 1) (oi := { dst := some 57, op := Go.Op.move (Go.Operand.tmp 56), type := 4, pos := _, after := #[{ on := 0, ground := Go.Ground.data }, { on := 0, ground := Go.Ground.chain }], guard := none }) (v := ?vr4_2_1) rfl (by kernel_rfl) (by kernel_rfl) (by kernel_rfl) (fun _ _ _ h => h) (Or.inl ⟨by rfl, ?yr4_2_1⟩) hHeld ?_
      case yr4_2_1 => ((intro w hSw; (try dsimp only at hSw); go_simp) <;> with_reducible rfl)
      (try simp only [Act.put, List.setIfInBounds_toArray, List.set_cons_zero, List.set_cons_succ])
      refine wpAnyH_take (i := 2) (oi := { dst := some 58, op := Go.Op.load 24 (Go.Operand.tmp 7), type := 24, pos := _, after := #[{ on := 1, ground := Go.Ground.guard }], guard := some (1, true) }) (v := ?vr4_3_2) rfl (by kernel_rfl) (by kernel_rfl) (by kernel_rfl) (fun _ _ _ h => h) (Or.inl ⟨by rfl, ?yr4_3_2⟩) hHeld ?_
      case yr4_3_2 => ((intro w hSw; (try dsimp only at hSw); go_simp) <;> with_reducible rfl)
      (try simp only [Act.put, List.setIfInBounds_toArray, List.set_cons_zero, List.set_cons_succ])
      refine wpAnyH_take (i := 3) (oi := { dst := some 59, op := Go.Op.load 24 (Go.Operand.tmp 3), type := 24, pos := _, after := #[{ on := 1, ground := Go.Ground.guard }], guard := some (1, true) }) (v := ?vr4_4_3) rfl (by kernel_rfl) (by kernel_rfl) (by kernel_rfl) (fun _ _ _ h => h) (Or.inl ⟨by rfl, ?yr4_4_3⟩) hHeld ?_
      case yr4_4_3 => ((intro w hSw; (try dsimp only at hSw); go_simp) <;> with_reducible rfl)
      (try simp only [Act.put, List.setIfInBounds_toArray, List.set_cons_zero, List.set_cons_succ])
      refine wpAnyH_ready (rs := [4]) (by kernel_rfl) (by simp) ?_
      refine AllReadyH.cons (o := { dst := some 60, op := Go.Op.call { callee := Go.Callee.value (Go.Operand.func 32), args := #[Go.Operand.tmp 58, Go.Operand.tmp 59], argTypes := #[24, 24] }, type := 4, pos := _, after := #[{ on := 2, ground := Go.Ground.data }, { on := 3, ground := Go.Ground.data }, { on := 1, ground := Go.Ground.chain }, { on := 1, ground := Go.Ground.guard }], guard := some (1, true) }) rfl (fun K hK => ?_) AllReadyH.nil
      (go_simp; (refine (HMA _).mono ?_); (rintro e wn ⟨rfl, hb⟩); go_wp2_with fail)
      refine hK.out _ _ ?hSr4_5_4 (fun hHeld2 => ?_)
      case hSr4_5_4 => (first | exact ⟨c0, c1, c2, c3, c4, d0, d1, d2, d3, d4, e0, e1, e2, e3, e4, f0, f1, f2, f3, f4, h0, h1, h2, h3, h4, hb0.drew⟩ | exact ⟨c0, c1, c2, c3, c4, d0, d1, d2, d3, d4, e0, e1, e2, e3, e4, f0, f1, f2, f3, f4, h0, h1, h2, h3, h4, hb0⟩ | (obtain ⟨c0, c1, c2, c3, c4, d0, d1, d2, d3, d4, e0, e1, e2, e3, e4, f0, f1, f2, f3, f4, h0, h1, h2, h3, h4, hb0⟩ := hHeld; exact ⟨cell_later hb c0, cell_later hb c1, cell_later hb c2, cell_later hb c3, cell_later hb c4, cell_later hb d0, cell_later hb d1, cell_later hb d2, cell_later hb d3, cell_later hb d4, cell_later hb e0, cell_later hb e1, cell_later hb e2, cell_later hb e3, cell_later hb e4, cell_later hb f0, cell_later hb f1, cell_later hb f2, cell_later hb f3, cell_later hb f4, cell_later hb h0, cell_later hb h1, cell_later hb h2, cell_later hb h3, cell_later hb h4, below_step hb0 hb⟩))
      clear hK K hHeld
      have hHeld := hHeld2
      clear hHeld2
      (try simp only [Act.put, List.setIfInBounds_toArray, List.set_cons_zero, List.set_cons_succ])
      refine wpAnyH_take (i := 5) (oi := { dst := some 61, op := Go.Op.pick (Go.Operand.tmp 57) (Go.Operand.tmp 60) (Go.Operand.const (Go.Value.bool false)), type := 4, pos := _, after := #[{ on := 1, ground := Go.Ground.data }, { on := 4, ground := Go.Ground.data }], guard := none }) (v := ?vr4_6_5) rfl (by kernel_rfl) (by kernel_rfl) (by kernel_rfl) (fun _ _ _ h => h) (Or.inl ⟨by rfl, ?yr4_6_5⟩) hHeld ?_
      case yr4_6_5 => ((intro w hSw; (try dsimp only at hSw); go_simp) <;> with_reducible rfl)
      (try simp only [Act.put, List.setIfInBounds_toArray, List.set_cons_zero, List.set_cons_succ])
      refine wpAnyH_take (i := 6) (oi := { dst := some 62, op := Go.Op.move (Go.Operand.tmp 61), type := 4, pos := _, after := #[{ on := 5, ground := Go.Ground.data }, { on := 4, ground := Go.Ground.chain }], guard := none }) (v := ?vr4_7_6) rfl (by kernel_rfl) (by kernel_rfl) (by kernel_rfl) (fun _ _ _ h => h) (Or.inl ⟨by rfl, ?yr4_7_6⟩) hHeld ?_
      case yr4_7_6 => ((intro w hSw; (try dsimp only at hSw); go_simp) <;> with_reducible rfl)
      (try simp only [Act.put, List.setIfInBounds_toArray, List.set_cons_zero, List.set_cons_succ])
      refine wpAnyH_take (i := 7) (oi := { dst := some 63, op := Go.Op.load 24 (Go.Operand.tmp 7), type := 24, pos := _, after := #[{ on := 6, ground := Go.Ground.guard }], guard := some (6, true) }) (v := ?vr4_8_7) rfl (by kernel_rfl) (by kernel_rfl) (by kernel_rfl) (fun _ _ _ h => h) (Or.inl ⟨by rfl, ?yr4_8_7⟩) hHeld ?_
      case yr4_8_7 => ((intro w hSw; (try dsimp only at hSw); go_simp) <;> with_reducible rfl)
      (try simp only [Act.put, List.setIfInBounds_toArray, List.set_cons_zero, List.set_cons_succ])
      refine wpAnyH_take (i := 8) (oi := { dst := some 64, op := Go.Op.load 24 (Go.Operand.tmp 4), type := 24, pos := _, after := #[{ on := 6, ground := Go.Ground.guard }], guard := some (6, true) }) (v := ?vr4_9_8) rfl (by kernel_rfl) (by kernel_rfl) (by kernel_rfl) (fun _ _ _ h => h) (Or.inl ⟨by rfl, ?yr4_9_8⟩) hHeld ?_
      case yr4_9_8 => ((intro w hSw; (try dsimp only at hSw); go_simp) <;> with_reducible rfl)
      (try simp only [Act.put, List.setIfInBounds_toArray, List.set_cons_zero, List.set_cons_succ])
      refine wpAnyH_ready (rs := [9]) (by kernel_rfl) (by simp) ?_
      refine AllReadyH.cons (o := { dst := some 65, op := Go.Op.call { callee := Go.Callee.value (Go.Operand.func 32), args := #[Go.Operand.tmp 63, Go.Operand.tmp 64], argTypes := #[24, 24] }, type := 4, pos := _, after := #[{ on := 7, ground := Go.Ground.data }, { on := 8, ground := Go.Ground.data }, { on := 6, ground := Go.Ground.chain }, { on := 6, ground := Go.Ground.guard }], guard := some (6, true) }) rfl (fun K hK => ?_) AllReadyH.nil
      (go_simp; (refine (HMB _).mono ?_); (rintro e wn ⟨rfl, hb⟩); go_wp2_with fail)
      refine hK.out _ _ ?hSr4_10_9 (fun hHeld2 => ?_)
      case hSr4_10_9 => (first | exact ⟨c0, c1, c2, c3, c4, d0, d1, d2, d3, d4, e0, e1, e2, e3, e4, f0, f1, f2, f3, f4, h0, h1, h2, h3, h4, hb0.drew⟩ | exact ⟨c0, c1, c2, c3, c4, d0, d1, d2, d3, d4, e0, e1, e2, e3, e4, f0, f1, f2, f3, f4, h0, h1, h2, h3, h4, hb0⟩ | (obtain ⟨c0, c1, c2, c3, c4, d0, d1, d2, d3, d4, e0, e1, e2, e3, e4, f0, f1, f2, f3, f4, h0, h1, h2, h3, h4, hb0⟩ := hHeld; exact ⟨cell_later hb c0, cell_later hb c1, cell_later hb c2, cell_later hb c3, cell_later hb c4, cell_later hb d0, cell_later hb d1, cell_later hb d2, cell_later hb d3, cell_later hb d4, cell_later hb e0, cell_later hb e1, cell_later hb e2, cell_later hb e3, cell_later hb e4, cell_later hb f0, cell_later hb f1, cell_later hb f2, cell_later hb f3, cell_later hb f4, cell_later hb h0, cell_later hb h1, cell_later hb h2, cell_later hb h3, cell_later hb h4, below_step hb0 hb⟩))
      clear hK K hHeld
      have hHeld := hHeld2
      clear hHeld2
      (try simp only [Act.put, List.setIfInBounds_toArray, List.set_cons_zero, List.set_cons_succ])
      refine wpAnyH_take (i := 10) (oi := { dst := some 66, op := Go.Op.pick (Go.Operand.tmp 62) (Go.Operand.tmp 65) (Go.Operand.const (Go.Value.bool false)), type := 4, pos := _, after := #[{ on := 6, ground := Go.Ground.data }, { on := 9, ground := Go.Ground.data }], guard := none }) (v := ?vr4_11_10) rfl (by kernel_rfl) (by kernel_rfl) (by kernel_rfl) (fun _ _ _ h => h) (Or.inl ⟨by rfl, ?yr4_11_10⟩) hHeld ?_
      case yr4_11_10 => ((intro w hSw; (try dsimp only at hSw); go_simp) <;> with_reducible rfl)
      (try simp only [Act.put, List.setIfInBounds_toArray, List.set_cons_zero, List.set_cons_succ])
      refine wpAnyH_take (i := 11) (oi := { dst := some 67, op := Go.Op.move (Go.Operand.tmp 66), type := 4, pos := _, after := #[{ on := 10, ground := Go.Ground.data }, { on := 9, ground := Go.Ground.chain }], guard := none }) (v := ?vr4_12_11) rfl (by kernel_rfl) (by kernel_rfl) (by kernel_rfl) (fun _ _ _ h => h) (Or.inl ⟨by rfl, ?yr4_12_11⟩) hHeld ?_
      case yr4_12_11 => ((intro w hSw; (try dsimp only at hSw); go_simp) <;> with_reducible rfl)
      (try simp only [Act.put, List.setIfInBounds_toArray, List.set_cons_zero, List.set_cons_succ])
      refine wpAnyH_take (i := 12) (oi := { dst := some 68, op := Go.Op.load 24 (Go.Operand.tmp 5), type := 24, pos := _, after := #[{ on := 11, ground := Go.Ground.guard }], guard := some (11, true) }) (v := ?vr4_13_12) rfl (by kernel_rfl) (by kernel_rfl) (by kernel_rfl) (fun _ _ _ h => h) (Or.inl ⟨by rfl, ?yr4_13_12⟩) hHeld ?_
      case yr4_13_12 => ((intro w hSw; (try dsimp only at hSw); go_simp) <;> with_reducible rfl)
      (try simp only [Act.put, List.setIfInBounds_toArray, List.set_cons_zero, List.set_cons_succ])
      refine wpAnyH_take (i := 13) (oi := { dst := some 69, op := Go.Op.load 24 (Go.Operand.tmp 3), type := 24, pos := _, after := #[{ on := 11, ground := Go.Ground.guard }], guard := some (11, true) }) (v := ?vr4_14_13) rfl (by kernel_rfl) (by kernel_rfl) (by kernel_rfl) (fun _ _ _ h => h) (Or.inl ⟨by rfl, ?yr4_14_13⟩) hHeld ?_
      case yr4_14_13 => ((intro w hSw; (try dsimp only at hSw); go_simp) <;> with_reducible rfl)
      (try simp only [Act.put, List.setIfInBounds_toArray, List.set_cons_zero, List.set_cons_succ])
      refine wpAnyH_take (i := 20) (oi := { dst := some 76, op := Go.Op.load 24 (Go.Operand.tmp 5), type := 24, pos := _, after := #[{ on := 11, ground := Go.Ground.guard }], guard := some (11, true) }) (v := ?vr4_15_20) rfl (by kernel_rfl) (by kernel_rfl) (by kernel_rfl) (fun _ _ _ h => h) (Or.inl ⟨by rfl, ?yr4_15_20⟩) hHeld ?_
      case yr4_15_20 => ((intro w hSw; (try dsimp only at hSw); go_simp) <;> with_reducible rfl)
      (try simp only [Act.put, List.setIfInBounds_toArray, List.set_cons_zero, List.set_cons_succ])
      refine wpAnyH_take (i := 21) (oi := { dst := some 77, op := Go.Op.load 24 (Go.Operand.tmp 7), type := 24, pos := _, after := #[{ on := 11, ground := Go.Ground.guard }], guard := some (11, true) }) (v := ?vr4_16_21) rfl (by kernel_rfl) (by kernel_rfl) (by kernel_rfl) (fun _ _ _ h => h) (Or.inl ⟨by rfl, ?yr4_16_21⟩) hHeld ?_
      case yr4_16_21 => ((intro w hSw; (try dsimp only at hSw); go_simp) <;> with_reducible rfl)
      (try simp only [Act.put, List.setIfInBounds_toArray, List.set_cons_zero, List.set_cons_succ])
      refine wpAnyH_ready (rs := [14]) (by kernel_rfl) (by simp) ?_
      refine AllReadyH.cons (o := { dst := some 70, op := Go.Op.call { callee := Go.Callee.value (Go.Operand.func 32), args := #[Go.Operand.tmp 68, Go.Operand.tmp 69], argTypes := #[24, 24] }, type := 4, pos := _, after := #[{ on := 12, ground := Go.Ground.data }, { on := 13, ground := Go.Ground.data }, { on := 11, ground := Go.Ground.chain }, { on := 11, ground := Go.Ground.guard }], guard := some (11, true) }) rfl (fun K hK => ?_) AllReadyH.nil
      (go_simp; (refine (HXA _).mono ?_); (rintro e wn ⟨rfl, hb⟩); go_wp2_with fail)
      refine hK.out _ _ ?hSr4_17_14 (fun hHeld2 => ?_)
      case hSr4_17_14 => (first | exact ⟨c0, c1, c2, c3, c4, d0, d1, d2, d3, d4, e0, e1, e2, e3, e4, f0, f1, f2, f3, f4, h0, h1, h2, h3, h4, hb0.drew⟩ | exact ⟨c0, c1, c2, c3, c4, d0, d1, d2, d3, d4, e0, e1, e2, e3, e4, f0, f1, f2, f3, f4, h0, h1, h2, h3, h4, hb0⟩ | (obtain ⟨c0, c1, c2, c3, c4, d0, d1, d2, d3, d4, e0, e1, e2, e3, e4, f0, f1, f2, f3, f4, h0, h1, h2, h3, h4, hb0⟩ := hHeld; exact ⟨cell_later hb c0, cell_later hb c1, cell_later hb c2, cell_later hb c3, cell_later hb c4, cell_later hb d0, cell_later hb d1, cell_later hb d2, cell_later hb d3, cell_later hb d4, cell_later hb e0, cell_later hb e1, cell_later hb e2, cell_later hb e3, cell_later hb e4, cell_later hb f0, cell_later hb f1, cell_later hb f2, cell_later hb f3, cell_later hb f4, cell_later hb h0, cell_later hb h1, cell_later hb h2, cell_later hb h3, cell_later hb h4, below_step hb0 hb⟩))
      clear hK K hHeld
      have hHeld := hHeld2
      clear hHeld2
      (try simp only [Act.put, List.setIfInBounds_toArray, List.set_cons_zero, List.set_cons_succ])
      refine wpAnyH_take (i := 15) (oi := { dst := some 71, op := Go.Op.move (Go.Operand.tmp 70), type := 4, pos := _, after := #[{ on := 14, ground := Go.Ground.data }, { on := 14, ground := Go.Ground.chain }, { on := 11, ground := Go.Ground.guard }], guard := some (11, true) }) (v := ?vr4_18_15) rfl (by kernel_rfl) (by kernel_rfl) (by kernel_rfl) (fun _ _ _ h => h) (Or.inl ⟨by rfl, ?yr4_18_15⟩) hHeld ?_
      case yr4_18_15 => ((intro w hSw; (try dsimp only at hSw); go_simp) <;> with_reducible rfl)
      (try simp only [Act.put, List.setIfInBounds_toArray, List.set_cons_zero, List.set_cons_succ])
      refine wpAnyH_take (i := 16) (oi := { dst := some 72, op := Go.Op.load 24 (Go.Operand.tmp 5), type := 24, pos := _, after := #[{ on := 15, ground := Go.Ground.guard }], guard := some (15, true) }) (v := ?vr4_19_16) rfl (by kernel_rfl) (by kernel_rfl) (by kernel_rfl) (fun _ _ _ h => h) (Or.inl ⟨by rfl, ?yr4_19_16⟩) hHeld ?_
      case yr4_19_16 => ((intro w hSw; (try dsimp only at hSw); go_simp) <;> with_reducible rfl)
      (try simp only [Act.put, List.setIfInBounds_toArray, List.set_cons_zero, List.set_cons_succ])
      refine wpAnyH_take (i := 17) (oi := { dst := some 73, op := Go.Op.load 24 (Go.Operand.tmp 4), type := 24, pos := _, after := #[{ on := 15, ground := Go.Ground.guard }], guard := some (15, true) }) (v := ?vr4_20_17) rfl (by kernel_rfl) (by kernel_rfl) (by kernel_rfl) (fun _ _ _ h => h) (Or.inl ⟨by rfl, ?yr4_20_17⟩) hHeld ?_
      case yr4_20_17 => ((intro w hSw; (try dsimp only at hSw); go_simp) <;> with_reducible rfl)
      (try simp only [Act.put, List.setIfInBounds_toArray, List.set_cons_zero, List.set_cons_succ])
      refine wpAnyH_ready (rs := [18]) (by kernel_rfl) (by simp) ?_
      refine AllReadyH.cons (o := { dst := some 74, op := Go.Op.call { callee := Go.Callee.value (Go.Operand.func 32), args := #[Go.Operand.tmp 72, Go.Operand.tmp 73], argTypes := #[24, 24] }, type := 4, pos := _, after := #[{ on := 16, ground := Go.Ground.data }, { on := 17, ground := Go.Ground.data }, { on := 15, ground := Go.Ground.chain }, { on := 15, ground := Go.Ground.guard }], guard := some (15, true) }) rfl (fun K hK => ?_) AllReadyH.nil
      (go_simp; (refine (HXB _).mono ?_); (rintro e wn ⟨rfl, hb⟩); go_wp2_with fail)
      refine hK.out _ _ ?hSr4_21_18 (fun hHeld2 => ?_)
      case hSr4_21_18 => (first | exact ⟨c0, c1, c2, c3, c4, d0, d1, d2, d3, d4, e0, e1, e2, e3, e4, f0, f1, f2, f3, f4, h0, h1, h2, h3, h4, hb0.drew⟩ | exact ⟨c0, c1, c2, c3, c4, d0, d1, d2, d3, d4, e0, e1, e2, e3, e4, f0, f1, f2, f3, f4, h0, h1, h2, h3, h4, hb0⟩ | (obtain ⟨c0, c1, c2, c3, c4, d0, d1, d2, d3, d4, e0, e1, e2, e3, e4, f0, f1, f2, f3, f4, h0, h1, h2, h3, h4, hb0⟩ := hHeld; exact ⟨cell_later hb c0, cell_later hb c1, cell_later hb c2, cell_later hb c3, cell_later hb c4, cell_later hb d0, cell_later hb d1, cell_later hb d2, cell_later hb d3, cell_later hb d4, cell_later hb e0, cell_later hb e1, cell_later hb e2, cell_later hb e3, cell_later hb e4, cell_later hb f0, cell_later hb f1, cell_later hb f2, cell_later hb f3, cell_later hb f4, cell_later hb h0, cell_later hb h1, cell_later hb h2, cell_later hb h3, cell_later hb h4, below_step hb0 hb⟩))
      clear hK K hHeld
      have hHeld := hHeld2
      clear hHeld2
      (try simp only [Act.put, List.setIfInBounds_toArray, List.set_cons_zero, List.set_cons_succ])
      refine wpAnyH_take (i := 19) (oi := { dst := some 75, op := Go.Op.pick (Go.Operand.tmp 71) (Go.Operand.tmp 74) (Go.Operand.const (Go.Value.bool false)), type := 4, pos := _, after := #[{ on := 15, ground := Go.Ground.data }, { on := 18, ground := Go.Ground.data }, { on := 11, ground := Go.Ground.guard }], guard := some (11, true) }) (v := ?vr4_22_19) rfl (by kernel_rfl) (by kernel_rfl) (by kernel_rfl) (fun _ _ _ h => h) (Or.inl ⟨by rfl, ?yr4_22_19⟩) hHeld ?_
      case yr4_22_19 => ((intro w hSw; (try dsimp only at hSw); go_simp) <;> with_reducible rfl)
      (try simp only [Act.put, List.setIfInBounds_toArray, List.set_cons_zero, List.set_cons_succ])
      refine wpAnyH_ready (rs := [22]) (by kernel_rfl) (by simp) ?_
      refine AllReadyH.cons (o := { dst := some 78, op := Go.Op.call { callee := Go.Callee.value (Go.Operand.func 32), args := #[Go.Operand.tmp 76, Go.Operand.tmp 77], argTypes := #[24, 24] }, type := 4, pos := _, after := #[{ on := 20, ground := Go.Ground.data }, { on := 21, ground := Go.Ground.data }, { on := 18, ground := Go.Ground.chain }, { on := 11, ground := Go.Ground.guard }], guard := some (11, true) }) rfl (fun K hK => ?_) AllReadyH.nil
      (go_simp; (refine (HXM _).mono ?_); (rintro e wn ⟨rfl, hb⟩); go_wp2_with fail)
      refine hK.out _ _ ?hSr4_23_22 (fun hHeld2 => ?_)
      case hSr4_23_22 => (first | exact ⟨c0, c1, c2, c3, c4, d0, d1, d2, d3, d4, e0, e1, e2, e3, e4, f0, f1, f2, f3, f4, h0, h1, h2, h3, h4, hb0.drew⟩ | exact ⟨c0, c1, c2, c3, c4, d0, d1, d2, d3, d4, e0, e1, e2, e3, e4, f0, f1, f2, f3, f4, h0, h1, h2, h3, h4, hb0⟩ | (obtain ⟨c0, c1, c2, c3, c4, d0, d1, d2, d3, d4, e0, e1, e2, e3, e4, f0, f1, f2, f3, f4, h0, h1, h2, h3, h4, hb0⟩ := hHeld; exact ⟨cell_later hb c0, cell_later hb c1, cell_later hb c2, cell_later hb c3, cell_later hb c4, cell_later hb d0, cell_later hb d1, cell_later hb d2, cell_later hb d3, cell_later hb d4, cell_later hb e0, cell_later hb e1, cell_later hb e2, cell_later hb e3, cell_later hb e4, cell_later hb f0, cell_later hb f1, cell_later hb f2, cell_later hb f3, cell_later hb f4, cell_later hb h0, cell_later hb h1, cell_later hb h2, cell_later hb h3, cell_later hb h4, below_step hb0 hb⟩))
      clear hK K hHeld
      have hHeld := hHeld2
      clear hHeld2
      (try simp only [Act.put, List.setIfInBounds_toArray, List.set_cons_zero, List.set_cons_succ])
      refine wpAnyH_take (i := 23) (oi := { dst := some 79, op := Go.Op.binOp Go.BinOp.eql 4 (Go.Operand.tmp 75) (Go.Operand.tmp 78) 4, type := 4, pos := _, after := #[{ on := 19, ground := Go.Ground.data }, { on := 22, ground := Go.Ground.data }, { on := 11, ground := Go.Ground.guard }], guard := some (11, true) }) (v := ?vr4_24_23) rfl (by kernel_rfl) (by kernel_rfl) (by kernel_rfl) (fun _ _ _ h => h) (Or.inl ⟨by rfl, ?yr4_24_23⟩) hHeld ?_
      case yr4_24_23 => ((intro w hSw; (try dsimp only at hSw); go_simp) <;> with_reducible rfl)
      (try simp only [Act.put, List.setIfInBounds_toArray, List.set_cons_zero, List.set_cons_succ])
      refine wpAnyH_take (i := 24) (oi := { dst := some 80, op := Go.Op.pick (Go.Operand.tmp 67) (Go.Operand.tmp 79) (Go.Operand.const (Go.Value.bool false)), type := 4, pos := _, after := #[{ on := 11, ground := Go.Ground.data }, { on := 23, ground := Go.Ground.data }], guard := none }) (v := ?vr4_25_24) rfl (by kernel_rfl) (by kernel_rfl) (by kernel_rfl) (fun _ _ _ h => h) (Or.inl ⟨by rfl, ?yr4_25_24⟩) hHeld ?_
      case yr4_25_24 => ((intro w hSw; (try dsimp only at hSw); go_simp) <;> with_reducible rfl)
      (try simp only [Act.put, List.setIfInBounds_toArray, List.set_cons_zero, List.set_cons_succ])
      refine wpAnyH_take (i := 25) (oi := { dst := some 6, op := Go.Op.assign (Go.Operand.tmp 80), type := 4, pos := _, after := #[{ on := 24, ground := Go.Ground.data }, { on := 22, ground := Go.Ground.chain }, { on := 0, ground := Go.Ground.phase }, { on := 1, ground := Go.Ground.phase }, { on := 2, ground := Go.Ground.phase }, { on := 3, ground := Go.Ground.phase }, { on := 4, ground := Go.Ground.phase }, { on := 5, ground := Go.Ground.phase }, { on := 6, ground := Go.Ground.phase }, { on := 7, ground := Go.Ground.phase }, { on := 8, ground := Go.Ground.phase }, { on := 9, ground := Go.Ground.phase }, { on := 10, ground := Go.Ground.phase }, { on := 11, ground := Go.Ground.phase }, { on := 12, ground := Go.Ground.phase }, { on := 13, ground := Go.Ground.phase }, { on := 14, ground := Go.Ground.phase }, { on := 15, ground := Go.Ground.phase }, { on := 16, ground := Go.Ground.phase }, { on := 17, ground := Go.Ground.phase }, { on := 18, ground := Go.Ground.phase }, { on := 19, ground := Go.Ground.phase }, { on := 20, ground := Go.Ground.phase }, { on := 21, ground := Go.Ground.phase }, { on := 22, ground := Go.Ground.phase }, { on := 23, ground := Go.Ground.phase }, { on := 24, ground := Go.Ground.phase }], guard := none }) (v := ?vr4_26_25) rfl (by kernel_rfl) (by kernel_rfl) (by kernel_rfl) (fun _ _ _ h => h) (Or.inl ⟨by rfl, ?yr4_26_25⟩) hHeld ?_
      case yr4_26_25 => ((intro w hSw; (try dsimp only at hSw); go_simp) <;> with_reducible rfl)
      (try simp only [Act.put, List.setIfInBounds_toArray, List.set_cons_zero, List.set_cons_succ])
      refine wpAnyH_done (by kernel_rfl) ?_ _
      clear c0 c1 c2 c3 c4 d0 d1 d2 d3 d4 e0 e1 e2 e3 e4 f0 f1 f2 f3 f4 h0 h1 h2 h3 h4 hb0
      obtain ⟨c0, c1, c2, c3, c4, d0, d1, d2, d3, d4, e0, e1, e2, e3, e4, f0, f1, f2, f3, f4, h0, h1, h2, h3, h4, hb0⟩ := hHeld
      go_wp2
      go_ret
      exact ⟨rfl, hb0⟩
end Go.Proofs.Ytekoicbjpoeijaa
