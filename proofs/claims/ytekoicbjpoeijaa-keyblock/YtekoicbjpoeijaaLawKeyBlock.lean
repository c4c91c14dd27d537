/- The walk of KeyBlock: it returns true. No conditions beyond lengths. -/
import Derived.Test.YtekoicbjpoeijaaK10
import Derived.Test.YtekoicbjpoeijaaKP3
namespace Go.Proofs.Ytekoicbjpoeijaa
set_option linter.unusedVariables false
set_option linter.unusedSimpArgs false
open Go.RowKit
set_option maxHeartbeats 16000000 in
theorem keyBlock_t (a b x : Ke) (ha : a.ok) (hb' : b.ok) (hx : x.ok) (w : World) : Calls Try.prog 10 #[kv a, kv b, kv x] w fun e w' => e = .returned (.bool true) ∧ Below w.heap.size w w' := by
  have HO := kover_t a b ha hb'
  have HC := kcmp_t a b ha hb'
  have HX := kright_t x hx
  have HAX := kcmp_t a x ha hx
  have HXB := kcmp_t x b hx hb'
  have HOX := kover_t a x ha hx
  have HAA := kcmp_t a a ha ha
  rw [cmpK_self] at HAA
  have B1 := @block_ahead a b
  have B2 := @block_between a b x
  have q1 := neq_key
  have HE := eqK_ke a b
  clear ha hb' hx
  generalize overK a b = oab at *
  generalize cmpK a b = cab at *
  generalize rightK x = rx at *
  generalize cmpK a x = cax at *
  generalize cmpK x b = cxb at *
  generalize overK a x = oax at *
  generalize he : eqK a.kind a.len a.h a.l ⟨a.path.toArray⟩ b.kind b.len b.h b.l ⟨b.path.toArray⟩ = eab at *
  unfold kv at *
  obtain ⟨RR0, RR1, RR2, hb0⟩ := three_rows w #[.int .i64 a.kind, .int .i64 a.len, .int .u64 a.h, .int .u64 a.l, .string ⟨a.path.toArray⟩] #[.int .i64 b.kind, .int .i64 b.len, .int .u64 b.h, .int .u64 b.l, .string ⟨b.path.toArray⟩] #[.int .i64 x.kind, .int .i64 x.len, .int .u64 x.h, .int .u64 x.l, .string ⟨x.path.toArray⟩] 24 24 24
  have c0 := (RR0.cell 0).trans (show _ = some (Value.int .i64 a.kind) from rfl)
  have c1 := (RR0.cell 1).trans (show _ = some (Value.int .i64 a.len) from rfl)
  have c2 := (RR0.cell 2).trans (show _ = some (Value.int .u64 a.h) from rfl)
  have c3 := (RR0.cell 3).trans (show _ = some (Value.int .u64 a.l) from rfl)
  have c4 := (RR0.cell 4).trans (show _ = some (Value.string ⟨a.path.toArray⟩) from rfl)
  have d0 := (RR1.cell 0).trans (show _ = some (Value.int .i64 b.kind) from rfl)
  have d1 := (RR1.cell 1).trans (show _ = some (Value.int .i64 b.len) from rfl)
  have d2 := (RR1.cell 2).trans (show _ = some (Value.int .u64 b.h) from rfl)
  have d3 := (RR1.cell 3).trans (show _ = some (Value.int .u64 b.l) from rfl)
  have d4 := (RR1.cell 4).trans (show _ = some (Value.string ⟨b.path.toArray⟩) from rfl)
  have e0 := (RR2.cell 0).trans (show _ = some (Value.int .i64 x.kind) from rfl)
  have e1 := (RR2.cell 1).trans (show _ = some (Value.int .i64 x.len) from rfl)
  have e2 := (RR2.cell 2).trans (show _ = some (Value.int .u64 x.h) from rfl)
  have e3 := (RR2.cell 3).trans (show _ = some (Value.int .u64 x.l) from rfl)
  have e4 := (RR2.cell 4).trans (show _ = some (Value.string ⟨x.path.toArray⟩) from rfl)
  clear RR0 RR1 RR2
  cases oab
  case false =>
    clear B1 B2 HE
    go_enter Try.func10, Try.ntmps10
    go_wp2_with fail
    refine (HO _).mono ?_
    rintro e w1 ⟨rfl, hb⟩
    replace c0 := cell_later hb c0
    replace c1 := cell_later hb c1
    replace c2 := cell_later hb c2
    replace c3 := cell_later hb c3
    replace c4 := cell_later hb c4
    replace d0 := cell_later hb d0
    replace d1 := cell_later hb d1
    replace d2 := cell_later hb d2
    replace d3 := cell_later hb d3
    replace d4 := cell_later hb d4
    replace e0 := cell_later hb e0
    replace e1 := cell_later hb e1
    replace e2 := cell_later hb e2
    replace e3 := cell_later hb e3
    replace e4 := cell_later hb e4
    replace hb0 := below_step hb0 hb
    clear hb
    go_wp2_with fail
    refine (alive7_t _).mono ?_
    rintro e w2 ⟨rfl, hb⟩
    replace c0 := cell_later hb c0
    replace c1 := cell_later hb c1
    replace c2 := cell_later hb c2
    replace c3 := cell_later hb c3
    replace c4 := cell_later hb c4
    replace d0 := cell_later hb d0
    replace d1 := cell_later hb d1
    replace d2 := cell_later hb d2
    replace d3 := cell_later hb d3
    replace d4 := cell_later hb d4
    replace e0 := cell_later hb e0
    replace e1 := cell_later hb e1
    replace e2 := cell_later hb e2
    replace e3 := cell_later hb e3
    replace e4 := cell_later hb e4
    replace hb0 := below_step hb0 hb
    clear hb
    go_wp2
    go_ret
    exact ⟨rfl, hb0⟩
  case true =>
    replace B1 := B1 rfl
    replace B2 := B2 rfl
    by_cases hab : a = b
    · have heb : eab = true := by rw [HE]; simpa using hab
      subst heb
      clear B1 HE hab
      cases rx
      case false =>
        clear B2
        go_enter Try.func10, Try.ntmps10
        go_wp2_with fail
        refine (HO _).mono ?_
        rintro e w3 ⟨rfl, hb⟩
        replace c0 := cell_later hb c0
        replace c1 := cell_later hb c1
        replace c2 := cell_later hb c2
        replace c3 := cell_later hb c3
        replace c4 := cell_later hb c4
        replace d0 := cell_later hb d0
        replace d1 := cell_later hb d1
        replace d2 := cell_later hb d2
        replace d3 := cell_later hb d3
        replace d4 := cell_later hb d4
        replace e0 := cell_later hb e0
        replace e1 := cell_later hb e1
        replace e2 := cell_later hb e2
        replace e3 := cell_later hb e3
        replace e4 := cell_later hb e4
        replace hb0 := below_step hb0 hb
        clear hb
        go_wp2_with fail
        refine (HX _).mono ?_
        rintro e w4 ⟨rfl, hb⟩
        replace c0 := cell_later hb c0
        replace c1 := cell_later hb c1
        replace c2 := cell_later hb c2
        replace c3 := cell_later hb c3
        replace c4 := cell_later hb c4
        replace d0 := cell_later hb d0
        replace d1 := cell_later hb d1
        replace d2 := cell_later hb d2
        replace d3 := cell_later hb d3
        replace d4 := cell_later hb d4
        replace e0 := cell_later hb e0
        replace e1 := cell_later hb e1
        replace e2 := cell_later hb e2
        replace e3 := cell_later hb e3
        replace e4 := cell_later hb e4
        replace hb0 := below_step hb0 hb
        clear hb
        go_wp2_with fail
        refine (alive7_t _).mono ?_
        rintro e w5 ⟨rfl, hb⟩
        replace c0 := cell_later hb c0
        replace c1 := cell_later hb c1
        replace c2 := cell_later hb c2
        replace c3 := cell_later hb c3
        replace c4 := cell_later hb c4
        replace d0 := cell_later hb d0
        replace d1 := cell_later hb d1
        replace d2 := cell_later hb d2
        replace d3 := cell_later hb d3
        replace d4 := cell_later hb d4
        replace e0 := cell_later hb e0
        replace e1 := cell_later hb e1
        replace e2 := cell_later hb e2
        replace e3 := cell_later hb e3
        replace e4 := cell_later hb e4
        replace hb0 := below_step hb0 hb
        clear hb
        go_wp2_with fail
        refine (HAA _).mono ?_
        rintro e w6 ⟨rfl, hb⟩
        replace c0 := cell_later hb c0
        replace c1 := cell_later hb c1
        replace c2 := cell_later hb c2
        replace c3 := cell_later hb c3
        replace c4 := cell_later hb c4
        replace d0 := cell_later hb d0
        replace d1 := cell_later hb d1
        replace d2 := cell_later hb d2
        replace d3 := cell_later hb d3
        replace d4 := cell_later hb d4
        replace e0 := cell_later hb e0
        replace e1 := cell_later hb e1
        replace e2 := cell_later hb e2
        replace e3 := cell_later hb e3
        replace e4 := cell_later hb e4
        replace hb0 := below_step hb0 hb
        clear hb
        go_wp2
        go_ret
        exact ⟨rfl, hb0⟩
      case true =>
        replace B2 := B2 rfl
        by_cases l1 : cax ≤ 0
        · have B3 := B2 l1
          by_cases l2 : cxb ≤ 0
          · have hx := B3 l2
            subst hx
            clear B2 B3
            go_enter Try.func10, Try.ntmps10
            go_wp2_with fail
            refine (HO _).mono ?_
            rintro e w7 ⟨rfl, hb⟩
            replace c0 := cell_later hb c0
            replace c1 := cell_later hb c1
            replace c2 := cell_later hb c2
            replace c3 := cell_later hb c3
            replace c4 := cell_later hb c4
            replace d0 := cell_later hb d0
            replace d1 := cell_later hb d1
            replace d2 := cell_later hb d2
            replace d3 := cell_later hb d3
            replace d4 := cell_later hb d4
            replace e0 := cell_later hb e0
            replace e1 := cell_later hb e1
            replace e2 := cell_later hb e2
            replace e3 := cell_later hb e3
            replace e4 := cell_later hb e4
            replace hb0 := below_step hb0 hb
            clear hb
            go_wp2_with fail
            refine (HX _).mono ?_
            rintro e w8 ⟨rfl, hb⟩
            replace c0 := cell_later hb c0
            replace c1 := cell_later hb c1
            replace c2 := cell_later hb c2
            replace c3 := cell_later hb c3
            replace c4 := cell_later hb c4
            replace d0 := cell_later hb d0
            replace d1 := cell_later hb d1
            replace d2 := cell_later hb d2
            replace d3 := cell_later hb d3
            replace d4 := cell_later hb d4
            replace e0 := cell_later hb e0
            replace e1 := cell_later hb e1
            replace e2 := cell_later hb e2
            replace e3 := cell_later hb e3
            replace e4 := cell_later hb e4
            replace hb0 := below_step hb0 hb
            clear hb
            go_wp2_with fail
            refine (HAX _).mono ?_
            rintro e w9 ⟨rfl, hb⟩
            replace c0 := cell_later hb c0
            replace c1 := cell_later hb c1
            replace c2 := cell_later hb c2
            replace c3 := cell_later hb c3
            replace c4 := cell_later hb c4
            replace d0 := cell_later hb d0
            replace d1 := cell_later hb d1
            replace d2 := cell_later hb d2
            replace d3 := cell_later hb d3
            replace d4 := cell_later hb d4
            replace e0 := cell_later hb e0
            replace e1 := cell_later hb e1
            replace e2 := cell_later hb e2
            replace e3 := cell_later hb e3
            replace e4 := cell_later hb e4
            replace hb0 := below_step hb0 hb
            clear hb
            go_wp2_with fail
            refine (HXB _).mono ?_
            rintro e w10 ⟨rfl, hb⟩
            replace c0 := cell_later hb c0
            replace c1 := cell_later hb c1
            replace c2 := cell_later hb c2
            replace c3 := cell_later hb c3
            replace c4 := cell_later hb c4
            replace d0 := cell_later hb d0
            replace d1 := cell_later hb d1
            replace d2 := cell_later hb d2
            replace d3 := cell_later hb d3
            replace d4 := cell_later hb d4
            replace e0 := cell_later hb e0
            replace e1 := cell_later hb e1
            replace e2 := cell_later hb e2
            replace e3 := cell_later hb e3
            replace e4 := cell_later hb e4
            replace hb0 := below_step hb0 hb
            clear hb
            go_wp2_with fail
            refine (HOX _).mono ?_
            rintro e w11 ⟨rfl, hb⟩
            replace c0 := cell_later hb c0
            replace c1 := cell_later hb c1
            replace c2 := cell_later hb c2
            replace c3 := cell_later hb c3
            replace c4 := cell_later hb c4
            replace d0 := cell_later hb d0
            replace d1 := cell_later hb d1
            replace d2 := cell_later hb d2
            replace d3 := cell_later hb d3
            replace d4 := cell_later hb d4
            replace e0 := cell_later hb e0
            replace e1 := cell_later hb e1
            replace e2 := cell_later hb e2
            replace e3 := cell_later hb e3
            replace e4 := cell_later hb e4
            replace hb0 := below_step hb0 hb
            clear hb
            go_wp2_with fail
            refine (alive7_t _).mono ?_
            rintro e w12 ⟨rfl, hb⟩
            replace c0 := cell_later hb c0
            replace c1 := cell_later hb c1
            replace c2 := cell_later hb c2
            replace c3 := cell_later hb c3
            replace c4 := cell_later hb c4
            replace d0 := cell_later hb d0
            replace d1 := cell_later hb d1
            replace d2 := cell_later hb d2
            replace d3 := cell_later hb d3
            replace d4 := cell_later hb d4
            replace e0 := cell_later hb e0
            replace e1 := cell_later hb e1
            replace e2 := cell_later hb e2
            replace e3 := cell_later hb e3
            replace e4 := cell_later hb e4
            replace hb0 := below_step hb0 hb
            clear hb
            go_wp2_with fail
            refine (HAA _).mono ?_
            rintro e w13 ⟨rfl, hb⟩
            replace c0 := cell_later hb c0
            replace c1 := cell_later hb c1
            replace c2 := cell_later hb c2
            replace c3 := cell_later hb c3
            replace c4 := cell_later hb c4
            replace d0 := cell_later hb d0
            replace d1 := cell_later hb d1
            replace d2 := cell_later hb d2
            replace d3 := cell_later hb d3
            replace d4 := cell_later hb d4
            replace e0 := cell_later hb e0
            replace e1 := cell_later hb e1
            replace e2 := cell_later hb e2
            replace e3 := cell_later hb e3
            replace e4 := cell_later hb e4
            replace hb0 := below_step hb0 hb
            clear hb
            go_wp2
            go_ret
            exact ⟨rfl, hb0⟩
          · clear B2 B3
            go_enter Try.func10, Try.ntmps10
            go_wp2_with fail
            refine (HO _).mono ?_
            rintro e w14 ⟨rfl, hb⟩
            replace c0 := cell_later hb c0
            replace c1 := cell_later hb c1
            replace c2 := cell_later hb c2
            replace c3 := cell_later hb c3
            replace c4 := cell_later hb c4
            replace d0 := cell_later hb d0
            replace d1 := cell_later hb d1
            replace d2 := cell_later hb d2
            replace d3 := cell_later hb d3
            replace d4 := cell_later hb d4
            replace e0 := cell_later hb e0
            replace e1 := cell_later hb e1
            replace e2 := cell_later hb e2
            replace e3 := cell_later hb e3
            replace e4 := cell_later hb e4
            replace hb0 := below_step hb0 hb
            clear hb
            go_wp2_with fail
            refine (HX _).mono ?_
            rintro e w15 ⟨rfl, hb⟩
            replace c0 := cell_later hb c0
            replace c1 := cell_later hb c1
            replace c2 := cell_later hb c2
            replace c3 := cell_later hb c3
            replace c4 := cell_later hb c4
            replace d0 := cell_later hb d0
            replace d1 := cell_later hb d1
            replace d2 := cell_later hb d2
            replace d3 := cell_later hb d3
            replace d4 := cell_later hb d4
            replace e0 := cell_later hb e0
            replace e1 := cell_later hb e1
            replace e2 := cell_later hb e2
            replace e3 := cell_later hb e3
            replace e4 := cell_later hb e4
            replace hb0 := below_step hb0 hb
            clear hb
            go_wp2_with fail
            refine (HAX _).mono ?_
            rintro e w16 ⟨rfl, hb⟩
            replace c0 := cell_later hb c0
            replace c1 := cell_later hb c1
            replace c2 := cell_later hb c2
            replace c3 := cell_later hb c3
            replace c4 := cell_later hb c4
            replace d0 := cell_later hb d0
            replace d1 := cell_later hb d1
            replace d2 := cell_later hb d2
            replace d3 := cell_later hb d3
            replace d4 := cell_later hb d4
            replace e0 := cell_later hb e0
            replace e1 := cell_later hb e1
            replace e2 := cell_later hb e2
            replace e3 := cell_later hb e3
            replace e4 := cell_later hb e4
            replace hb0 := below_step hb0 hb
            clear hb
            go_wp2_with fail
            refine (HXB _).mono ?_
            rintro e w17 ⟨rfl, hb⟩
            replace c0 := cell_later hb c0
            replace c1 := cell_later hb c1
            replace c2 := cell_later hb c2
            replace c3 := cell_later hb c3
            replace c4 := cell_later hb c4
            replace d0 := cell_later hb d0
            replace d1 := cell_later hb d1
            replace d2 := cell_later hb d2
            replace d3 := cell_later hb d3
            replace d4 := cell_later hb d4
            replace e0 := cell_later hb e0
            replace e1 := cell_later hb e1
            replace e2 := cell_later hb e2
            replace e3 := cell_later hb e3
            replace e4 := cell_later hb e4
            replace hb0 := below_step hb0 hb
            clear hb
            go_wp2_with fail
            refine (alive7_t _).mono ?_
            rintro e w18 ⟨rfl, hb⟩
            replace c0 := cell_later hb c0
            replace c1 := cell_later hb c1
            replace c2 := cell_later hb c2
            replace c3 := cell_later hb c3
            replace c4 := cell_later hb c4
            replace d0 := cell_later hb d0
            replace d1 := cell_later hb d1
            replace d2 := cell_later hb d2
            replace d3 := cell_later hb d3
            replace d4 := cell_later hb d4
            replace e0 := cell_later hb e0
            replace e1 := cell_later hb e1
            replace e2 := cell_later hb e2
            replace e3 := cell_later hb e3
            replace e4 := cell_later hb e4
            replace hb0 := below_step hb0 hb
            clear hb
            go_wp2_with fail
            refine (HAA _).mono ?_
            rintro e w19 ⟨rfl, hb⟩
            replace c0 := cell_later hb c0
            replace c1 := cell_later hb c1
            replace c2 := cell_later hb c2
            replace c3 := cell_later hb c3
            replace c4 := cell_later hb c4
            replace d0 := cell_later hb d0
            replace d1 := cell_later hb d1
            replace d2 := cell_later hb d2
            replace d3 := cell_later hb d3
            replace d4 := cell_later hb d4
            replace e0 := cell_later hb e0
            replace e1 := cell_later hb e1
            replace e2 := cell_later hb e2
            replace e3 := cell_later hb e3
            replace e4 := cell_later hb e4
            replace hb0 := below_step hb0 hb
            clear hb
            go_wp2
            go_ret
            exact ⟨rfl, hb0⟩
        · clear B2
          go_enter Try.func10, Try.ntmps10
          go_wp2_with fail
          refine (HO _).mono ?_
          rintro e w20 ⟨rfl, hb⟩
          replace c0 := cell_later hb c0
          replace c1 := cell_later hb c1
          replace c2 := cell_later hb c2
          replace c3 := cell_later hb c3
          replace c4 := cell_later hb c4
          replace d0 := cell_later hb d0
          replace d1 := cell_later hb d1
          replace d2 := cell_later hb d2
          replace d3 := cell_later hb d3
          replace d4 := cell_later hb d4
          replace e0 := cell_later hb e0
          replace e1 := cell_later hb e1
          replace e2 := cell_later hb e2
          replace e3 := cell_later hb e3
          replace e4 := cell_later hb e4
          replace hb0 := below_step hb0 hb
          clear hb
          go_wp2_with fail
          refine (HX _).mono ?_
          rintro e w21 ⟨rfl, hb⟩
          replace c0 := cell_later hb c0
          replace c1 := cell_later hb c1
          replace c2 := cell_later hb c2
          replace c3 := cell_later hb c3
          replace c4 := cell_later hb c4
          replace d0 := cell_later hb d0
          replace d1 := cell_later hb d1
          replace d2 := cell_later hb d2
          replace d3 := cell_later hb d3
          replace d4 := cell_later hb d4
          replace e0 := cell_later hb e0
          replace e1 := cell_later hb e1
          replace e2 := cell_later hb e2
          replace e3 := cell_later hb e3
          replace e4 := cell_later hb e4
          replace hb0 := below_step hb0 hb
          clear hb
          go_wp2_with fail
          refine (HAX _).mono ?_
          rintro e w22 ⟨rfl, hb⟩
          replace c0 := cell_later hb c0
          replace c1 := cell_later hb c1
          replace c2 := cell_later hb c2
          replace c3 := cell_later hb c3
          replace c4 := cell_later hb c4
          replace d0 := cell_later hb d0
          replace d1 := cell_later hb d1
          replace d2 := cell_later hb d2
          replace d3 := cell_later hb d3
          replace d4 := cell_later hb d4
          replace e0 := cell_later hb e0
          replace e1 := cell_later hb e1
          replace e2 := cell_later hb e2
          replace e3 := cell_later hb e3
          replace e4 := cell_later hb e4
          replace hb0 := below_step hb0 hb
          clear hb
          go_wp2_with fail
          refine (alive7_t _).mono ?_
          rintro e w23 ⟨rfl, hb⟩
          replace c0 := cell_later hb c0
          replace c1 := cell_later hb c1
          replace c2 := cell_later hb c2
          replace c3 := cell_later hb c3
          replace c4 := cell_later hb c4
          replace d0 := cell_later hb d0
          replace d1 := cell_later hb d1
          replace d2 := cell_later hb d2
          replace d3 := cell_later hb d3
          replace d4 := cell_later hb d4
          replace e0 := cell_later hb e0
          replace e1 := cell_later hb e1
          replace e2 := cell_later hb e2
          replace e3 := cell_later hb e3
          replace e4 := cell_later hb e4
          replace hb0 := below_step hb0 hb
          clear hb
          go_wp2_with fail
          refine (HAA _).mono ?_
          rintro e w24 ⟨rfl, hb⟩
          replace c0 := cell_later hb c0
          replace c1 := cell_later hb c1
          replace c2 := cell_later hb c2
          replace c3 := cell_later hb c3
          replace c4 := cell_later hb c4
          replace d0 := cell_later hb d0
          replace d1 := cell_later hb d1
          replace d2 := cell_later hb d2
          replace d3 := cell_later hb d3
          replace d4 := cell_later hb d4
          replace e0 := cell_later hb e0
          replace e1 := cell_later hb e1
          replace e2 := cell_later hb e2
          replace e3 := cell_later hb e3
          replace e4 := cell_later hb e4
          replace hb0 := below_step hb0 hb
          clear hb
          go_wp2
          go_ret
          exact ⟨rfl, hb0⟩
    · have heb : eab = false := by rw [HE]; simpa using hab
      subst heb
      have hc := B1 hab
      subst hc
      clear B1 HE hab
      cases rx
      case false =>
        clear B2
        go_enter Try.func10, Try.ntmps10
        go_wp2_with fail
        refine (HO _).mono ?_
        rintro e w25 ⟨rfl, hb⟩
        replace c0 := cell_later hb c0
        replace c1 := cell_later hb c1
        replace c2 := cell_later hb c2
        replace c3 := cell_later hb c3
        replace c4 := cell_later hb c4
        replace d0 := cell_later hb d0
        replace d1 := cell_later hb d1
        replace d2 := cell_later hb d2
        replace d3 := cell_later hb d3
        replace d4 := cell_later hb d4
        replace e0 := cell_later hb e0
        replace e1 := cell_later hb e1
        replace e2 := cell_later hb e2
        replace e3 := cell_later hb e3
        replace e4 := cell_later hb e4
        replace hb0 := below_step hb0 hb
        clear hb
        go_wp2_with fail
        refine (HC _).mono ?_
        rintro e w26 ⟨rfl, hb⟩
        replace c0 := cell_later hb c0
        replace c1 := cell_later hb c1
        replace c2 := cell_later hb c2
        replace c3 := cell_later hb c3
        replace c4 := cell_later hb c4
        replace d0 := cell_later hb d0
        replace d1 := cell_later hb d1
        replace d2 := cell_later hb d2
        replace d3 := cell_later hb d3
        replace d4 := cell_later hb d4
        replace e0 := cell_later hb e0
        replace e1 := cell_later hb e1
        replace e2 := cell_later hb e2
        replace e3 := cell_later hb e3
        replace e4 := cell_later hb e4
        replace hb0 := below_step hb0 hb
        clear hb
        go_wp2_with fail
        refine (HX _).mono ?_
        rintro e w27 ⟨rfl, hb⟩
        replace c0 := cell_later hb c0
        replace c1 := cell_later hb c1
        replace c2 := cell_later hb c2
        replace c3 := cell_later hb c3
        replace c4 := cell_later hb c4
        replace d0 := cell_later hb d0
        replace d1 := cell_later hb d1
        replace d2 := cell_later hb d2
        replace d3 := cell_later hb d3
        replace d4 := cell_later hb d4
        replace e0 := cell_later hb e0
        replace e1 := cell_later hb e1
        replace e2 := cell_later hb e2
        replace e3 := cell_later hb e3
        replace e4 := cell_later hb e4
        replace hb0 := below_step hb0 hb
        clear hb
        go_wp2_with fail
        refine (alive7_t _).mono ?_
        rintro e w28 ⟨rfl, hb⟩
        replace c0 := cell_later hb c0
        replace c1 := cell_later hb c1
        replace c2 := cell_later hb c2
        replace c3 := cell_later hb c3
        replace c4 := cell_later hb c4
        replace d0 := cell_later hb d0
        replace d1 := cell_later hb d1
        replace d2 := cell_later hb d2
        replace d3 := cell_later hb d3
        replace d4 := cell_later hb d4
        replace e0 := cell_later hb e0
        replace e1 := cell_later hb e1
        replace e2 := cell_later hb e2
        replace e3 := cell_later hb e3
        replace e4 := cell_later hb e4
        replace hb0 := below_step hb0 hb
        clear hb
        go_wp2_with fail
        refine (HAA _).mono ?_
        rintro e w29 ⟨rfl, hb⟩
        replace c0 := cell_later hb c0
        replace c1 := cell_later hb c1
        replace c2 := cell_later hb c2
        replace c3 := cell_later hb c3
        replace c4 := cell_later hb c4
        replace d0 := cell_later hb d0
        replace d1 := cell_later hb d1
        replace d2 := cell_later hb d2
        replace d3 := cell_later hb d3
        replace d4 := cell_later hb d4
        replace e0 := cell_later hb e0
        replace e1 := cell_later hb e1
        replace e2 := cell_later hb e2
        replace e3 := cell_later hb e3
        replace e4 := cell_later hb e4
        replace hb0 := below_step hb0 hb
        clear hb
        go_wp2
        go_ret
        exact ⟨rfl, hb0⟩
      case true =>
        replace B2 := B2 rfl
        by_cases l1 : cax ≤ 0
        · have B3 := B2 l1
          by_cases l2 : cxb ≤ 0
          · have hx := B3 l2
            subst hx
            clear B2 B3
            go_enter Try.func10, Try.ntmps10
            go_wp2_with fail
            refine (HO _).mono ?_
            rintro e w30 ⟨rfl, hb⟩
            replace c0 := cell_later hb c0
            replace c1 := cell_later hb c1
            replace c2 := cell_later hb c2
            replace c3 := cell_later hb c3
            replace c4 := cell_later hb c4
            replace d0 := cell_later hb d0
            replace d1 := cell_later hb d1
            replace d2 := cell_later hb d2
            replace d3 := cell_later hb d3
            replace d4 := cell_later hb d4
            replace e0 := cell_later hb e0
            replace e1 := cell_later hb e1
            replace e2 := cell_later hb e2
            replace e3 := cell_later hb e3
            replace e4 := cell_later hb e4
            replace hb0 := below_step hb0 hb
            clear hb
            go_wp2_with fail
            refine (HC _).mono ?_
            rintro e w31 ⟨rfl, hb⟩
            replace c0 := cell_later hb c0
            replace c1 := cell_later hb c1
            replace c2 := cell_later hb c2
            replace c3 := cell_later hb c3
            replace c4 := cell_later hb c4
            replace d0 := cell_later hb d0
            replace d1 := cell_later hb d1
            replace d2 := cell_later hb d2
            replace d3 := cell_later hb d3
            replace d4 := cell_later hb d4
            replace e0 := cell_later hb e0
            replace e1 := cell_later hb e1
            replace e2 := cell_later hb e2
            replace e3 := cell_later hb e3
            replace e4 := cell_later hb e4
            replace hb0 := below_step hb0 hb
            clear hb
            go_wp2_with fail
            refine (HX _).mono ?_
            rintro e w32 ⟨rfl, hb⟩
            replace c0 := cell_later hb c0
            replace c1 := cell_later hb c1
            replace c2 := cell_later hb c2
            replace c3 := cell_later hb c3
            replace c4 := cell_later hb c4
            replace d0 := cell_later hb d0
            replace d1 := cell_later hb d1
            replace d2 := cell_later hb d2
            replace d3 := cell_later hb d3
            replace d4 := cell_later hb d4
            replace e0 := cell_later hb e0
            replace e1 := cell_later hb e1
            replace e2 := cell_later hb e2
            replace e3 := cell_later hb e3
            replace e4 := cell_later hb e4
            replace hb0 := below_step hb0 hb
            clear hb
            go_wp2_with fail
            refine (HAX _).mono ?_
            rintro e w33 ⟨rfl, hb⟩
            replace c0 := cell_later hb c0
            replace c1 := cell_later hb c1
            replace c2 := cell_later hb c2
            replace c3 := cell_later hb c3
            replace c4 := cell_later hb c4
            replace d0 := cell_later hb d0
            replace d1 := cell_later hb d1
            replace d2 := cell_later hb d2
            replace d3 := cell_later hb d3
            replace d4 := cell_later hb d4
            replace e0 := cell_later hb e0
            replace e1 := cell_later hb e1
            replace e2 := cell_later hb e2
            replace e3 := cell_later hb e3
            replace e4 := cell_later hb e4
            replace hb0 := below_step hb0 hb
            clear hb
            go_wp2_with fail
            refine (HXB _).mono ?_
            rintro e w34 ⟨rfl, hb⟩
            replace c0 := cell_later hb c0
            replace c1 := cell_later hb c1
            replace c2 := cell_later hb c2
            replace c3 := cell_later hb c3
            replace c4 := cell_later hb c4
            replace d0 := cell_later hb d0
            replace d1 := cell_later hb d1
            replace d2 := cell_later hb d2
            replace d3 := cell_later hb d3
            replace d4 := cell_later hb d4
            replace e0 := cell_later hb e0
            replace e1 := cell_later hb e1
            replace e2 := cell_later hb e2
            replace e3 := cell_later hb e3
            replace e4 := cell_later hb e4
            replace hb0 := below_step hb0 hb
            clear hb
            go_wp2_with fail
            refine (HOX _).mono ?_
            rintro e w35 ⟨rfl, hb⟩
            replace c0 := cell_later hb c0
            replace c1 := cell_later hb c1
            replace c2 := cell_later hb c2
            replace c3 := cell_later hb c3
            replace c4 := cell_later hb c4
            replace d0 := cell_later hb d0
            replace d1 := cell_later hb d1
            replace d2 := cell_later hb d2
            replace d3 := cell_later hb d3
            replace d4 := cell_later hb d4
            replace e0 := cell_later hb e0
            replace e1 := cell_later hb e1
            replace e2 := cell_later hb e2
            replace e3 := cell_later hb e3
            replace e4 := cell_later hb e4
            replace hb0 := below_step hb0 hb
            clear hb
            go_wp2_with fail
            refine (alive7_t _).mono ?_
            rintro e w36 ⟨rfl, hb⟩
            replace c0 := cell_later hb c0
            replace c1 := cell_later hb c1
            replace c2 := cell_later hb c2
            replace c3 := cell_later hb c3
            replace c4 := cell_later hb c4
            replace d0 := cell_later hb d0
            replace d1 := cell_later hb d1
            replace d2 := cell_later hb d2
            replace d3 := cell_later hb d3
            replace d4 := cell_later hb d4
            replace e0 := cell_later hb e0
            replace e1 := cell_later hb e1
            replace e2 := cell_later hb e2
            replace e3 := cell_later hb e3
            replace e4 := cell_later hb e4
            replace hb0 := below_step hb0 hb
            clear hb
            go_wp2_with fail
            refine (HAA _).mono ?_
            rintro e w37 ⟨rfl, hb⟩
            replace c0 := cell_later hb c0
            replace c1 := cell_later hb c1
            replace c2 := cell_later hb c2
            replace c3 := cell_later hb c3
            replace c4 := cell_later hb c4
            replace d0 := cell_later hb d0
            replace d1 := cell_later hb d1
            replace d2 := cell_later hb d2
            replace d3 := cell_later hb d3
            replace d4 := cell_later hb d4
            replace e0 := cell_later hb e0
            replace e1 := cell_later hb e1
            replace e2 := cell_later hb e2
            replace e3 := cell_later hb e3
            replace e4 := cell_later hb e4
            replace hb0 := below_step hb0 hb
            clear hb
            go_wp2
            go_ret
            exact ⟨rfl, hb0⟩
          · clear B2 B3
            go_enter Try.func10, Try.ntmps10
            go_wp2_with fail
            refine (HO _).mono ?_
            rintro e w38 ⟨rfl, hb⟩
            replace c0 := cell_later hb c0
            replace c1 := cell_later hb c1
            replace c2 := cell_later hb c2
            replace c3 := cell_later hb c3
            replace c4 := cell_later hb c4
            replace d0 := cell_later hb d0
            replace d1 := cell_later hb d1
            replace d2 := cell_later hb d2
            replace d3 := cell_later hb d3
            replace d4 := cell_later hb d4
            replace e0 := cell_later hb e0
            replace e1 := cell_later hb e1
            replace e2 := cell_later hb e2
            replace e3 := cell_later hb e3
            replace e4 := cell_later hb e4
            replace hb0 := below_step hb0 hb
            clear hb
            go_wp2_with fail
            refine (HC _).mono ?_
            rintro e w39 ⟨rfl, hb⟩
            replace c0 := cell_later hb c0
            replace c1 := cell_later hb c1
            replace c2 := cell_later hb c2
            replace c3 := cell_later hb c3
            replace c4 := cell_later hb c4
            replace d0 := cell_later hb d0
            replace d1 := cell_later hb d1
            replace d2 := cell_later hb d2
            replace d3 := cell_later hb d3
            replace d4 := cell_later hb d4
            replace e0 := cell_later hb e0
            replace e1 := cell_later hb e1
            replace e2 := cell_later hb e2
            replace e3 := cell_later hb e3
            replace e4 := cell_later hb e4
            replace hb0 := below_step hb0 hb
            clear hb
            go_wp2_with fail
            refine (HX _).mono ?_
            rintro e w40 ⟨rfl, hb⟩
            replace c0 := cell_later hb c0
            replace c1 := cell_later hb c1
            replace c2 := cell_later hb c2
            replace c3 := cell_later hb c3
            replace c4 := cell_later hb c4
            replace d0 := cell_later hb d0
            replace d1 := cell_later hb d1
            replace d2 := cell_later hb d2
            replace d3 := cell_later hb d3
            replace d4 := cell_later hb d4
            replace e0 := cell_later hb e0
            replace e1 := cell_later hb e1
            replace e2 := cell_later hb e2
            replace e3 := cell_later hb e3
            replace e4 := cell_later hb e4
            replace hb0 := below_step hb0 hb
            clear hb
            go_wp2_with fail
            refine (HAX _).mono ?_
            rintro e w41 ⟨rfl, hb⟩
            replace c0 := cell_later hb c0
            replace c1 := cell_later hb c1
            replace c2 := cell_later hb c2
            replace c3 := cell_later hb c3
            replace c4 := cell_later hb c4
            replace d0 := cell_later hb d0
            replace d1 := cell_later hb d1
            replace d2 := cell_later hb d2
            replace d3 := cell_later hb d3
            replace d4 := cell_later hb d4
            replace e0 := cell_later hb e0
            replace e1 := cell_later hb e1
            replace e2 := cell_later hb e2
            replace e3 := cell_later hb e3
            replace e4 := cell_later hb e4
            replace hb0 := below_step hb0 hb
            clear hb
            go_wp2_with fail
            refine (HXB _).mono ?_
            rintro e w42 ⟨rfl, hb⟩
            replace c0 := cell_later hb c0
            replace c1 := cell_later hb c1
            replace c2 := cell_later hb c2
            replace c3 := cell_later hb c3
            replace c4 := cell_later hb c4
            replace d0 := cell_later hb d0
            replace d1 := cell_later hb d1
            replace d2 := cell_later hb d2
            replace d3 := cell_later hb d3
            replace d4 := cell_later hb d4
            replace e0 := cell_later hb e0
            replace e1 := cell_later hb e1
            replace e2 := cell_later hb e2
            replace e3 := cell_later hb e3
            replace e4 := cell_later hb e4
            replace hb0 := below_step hb0 hb
            clear hb
            go_wp2_with fail
            refine (alive7_t _).mono ?_
            rintro e w43 ⟨rfl, hb⟩
            replace c0 := cell_later hb c0
            replace c1 := cell_later hb c1
            replace c2 := cell_later hb c2
            replace c3 := cell_later hb c3
            replace c4 := cell_later hb c4
            replace d0 := cell_later hb d0
            replace d1 := cell_later hb d1
            replace d2 := cell_later hb d2
            replace d3 := cell_later hb d3
            replace d4 := cell_later hb d4
            replace e0 := cell_later hb e0
            replace e1 := cell_later hb e1
            replace e2 := cell_later hb e2
            replace e3 := cell_later hb e3
            replace e4 := cell_later hb e4
            replace hb0 := below_step hb0 hb
            clear hb
            go_wp2_with fail
            refine (HAA _).mono ?_
            rintro e w44 ⟨rfl, hb⟩
            replace c0 := cell_later hb c0
            replace c1 := cell_later hb c1
            replace c2 := cell_later hb c2
            replace c3 := cell_later hb c3
            replace c4 := cell_later hb c4
            replace d0 := cell_later hb d0
            replace d1 := cell_later hb d1
            replace d2 := cell_later hb d2
            replace d3 := cell_later hb d3
            replace d4 := cell_later hb d4
            replace e0 := cell_later hb e0
            replace e1 := cell_later hb e1
            replace e2 := cell_later hb e2
            replace e3 := cell_later hb e3
            replace e4 := cell_later hb e4
            replace hb0 := below_step hb0 hb
            clear hb
            go_wp2
            go_ret
            exact ⟨rfl, hb0⟩
        · clear B2
          go_enter Try.func10, Try.ntmps10
          go_wp2_with fail
          refine (HO _).mono ?_
          rintro e w45 ⟨rfl, hb⟩
          replace c0 := cell_later hb c0
          replace c1 := cell_later hb c1
          replace c2 := cell_later hb c2
          replace c3 := cell_later hb c3
          replace c4 := cell_later hb c4
          replace d0 := cell_later hb d0
          replace d1 := cell_later hb d1
          replace d2 := cell_later hb d2
          replace d3 := cell_later hb d3
          replace d4 := cell_later hb d4
          replace e0 := cell_later hb e0
          replace e1 := cell_later hb e1
          replace e2 := cell_later hb e2
          replace e3 := cell_later hb e3
          replace e4 := cell_later hb e4
          replace hb0 := below_step hb0 hb
          clear hb
          go_wp2_with fail
          refine (HC _).mono ?_
          rintro e w46 ⟨rfl, hb⟩
          replace c0 := cell_later hb c0
          replace c1 := cell_later hb c1
          replace c2 := cell_later hb c2
          replace c3 := cell_later hb c3
          replace c4 := cell_later hb c4
          replace d0 := cell_later hb d0
          replace d1 := cell_later hb d1
          replace d2 := cell_later hb d2
          replace d3 := cell_later hb d3
          replace d4 := cell_later hb d4
          replace e0 := cell_later hb e0
          replace e1 := cell_later hb e1
          replace e2 := cell_later hb e2
          replace e3 := cell_later hb e3
          replace e4 := cell_later hb e4
          replace hb0 := below_step hb0 hb
          clear hb
          go_wp2_with fail
          refine (HX _).mono ?_
          rintro e w47 ⟨rfl, hb⟩
          replace c0 := cell_later hb c0
          replace c1 := cell_later hb c1
          replace c2 := cell_later hb c2
          replace c3 := cell_later hb c3
          replace c4 := cell_later hb c4
          replace d0 := cell_later hb d0
          replace d1 := cell_later hb d1
          replace d2 := cell_later hb d2
          replace d3 := cell_later hb d3
          replace d4 := cell_later hb d4
          replace e0 := cell_later hb e0
          replace e1 := cell_later hb e1
          replace e2 := cell_later hb e2
          replace e3 := cell_later hb e3
          replace e4 := cell_later hb e4
          replace hb0 := below_step hb0 hb
          clear hb
          go_wp2_with fail
          refine (HAX _).mono ?_
          rintro e w48 ⟨rfl, hb⟩
          replace c0 := cell_later hb c0
          replace c1 := cell_later hb c1
          replace c2 := cell_later hb c2
          replace c3 := cell_later hb c3
          replace c4 := cell_later hb c4
          replace d0 := cell_later hb d0
          replace d1 := cell_later hb d1
          replace d2 := cell_later hb d2
          replace d3 := cell_later hb d3
          replace d4 := cell_later hb d4
          replace e0 := cell_later hb e0
          replace e1 := cell_later hb e1
          replace e2 := cell_later hb e2
          replace e3 := cell_later hb e3
          replace e4 := cell_later hb e4
          replace hb0 := below_step hb0 hb
          clear hb
          go_wp2_with fail
          refine (alive7_t _).mono ?_
          rintro e w49 ⟨rfl, hb⟩
          replace c0 := cell_later hb c0
          replace c1 := cell_later hb c1
          replace c2 := cell_later hb c2
          replace c3 := cell_later hb c3
          replace c4 := cell_later hb c4
          replace d0 := cell_later hb d0
          replace d1 := cell_later hb d1
          replace d2 := cell_later hb d2
          replace d3 := cell_later hb d3
          replace d4 := cell_later hb d4
          replace e0 := cell_later hb e0
          replace e1 := cell_later hb e1
          replace e2 := cell_later hb e2
          replace e3 := cell_later hb e3
          replace e4 := cell_later hb e4
          replace hb0 := below_step hb0 hb
          clear hb
          go_wp2_with fail
          refine (HAA _).mono ?_
          rintro e w50 ⟨rfl, hb⟩
          replace c0 := cell_later hb c0
          replace c1 := cell_later hb c1
          replace c2 := cell_later hb c2
          replace c3 := cell_later hb c3
          replace c4 := cell_later hb c4
          replace d0 := cell_later hb d0
          replace d1 := cell_later hb d1
          replace d2 := cell_later hb d2
          replace d3 := cell_later hb d3
          replace d4 := cell_later hb d4
          replace e0 := cell_later hb e0
          replace e1 := cell_later hb e1
          replace e2 := cell_later hb e2
          replace e3 := cell_later hb e3
          replace e4 := cell_later hb e4
          replace hb0 := below_step hb0 hb
          clear hb
          go_wp2
          go_ret
          exact ⟨rfl, hb0⟩
end Go.Proofs.Ytekoicbjpoeijaa
