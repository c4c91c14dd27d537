/- The walk of KeyCutBack: it returns true. No conditions beyond lengths. -/
import Derived.Test.YtekoicbjpoeijaaK10
import Derived.Test.YtekoicbjpoeijaaKP2
namespace Go.Proofs.Ytekoicbjpoeijaa
set_option linter.unusedVariables false
set_option linter.unusedSimpArgs false
open Go.RowKit
set_option maxRecDepth 100000 in
set_option maxHeartbeats 16000000 in
theorem keyCutBack_t (k a : Ke) (ok : k.ok) (ok2 : a.ok) (n m : Int) (n1 : n ≤ 9223372036854775807) (m1 : m ≤ 9223372036854775807) (w : World) : Calls Try.prog 8 #[kv k, kv a, .int .i64 n, .int .i64 m] w fun e w' => e = .returned (.bool true) ∧ Below w.heap.size w w' := by
  have HC := kcut_t k ok n n1
  have HR := kright_t k ok
  have HA := kright_t a ok2
  have HO := kover_t a k ok2 ok
  have q := eql_key
  have q2 := eqK_self
  by_cases hr : rightK k = true
  · have HOc := kover_t (cutK k n) k (cut_ok ok n n1) ok
    have HCC := kcut_t (cutK k n) (cut_ok ok n n1) m m1
    have HCL := kcut_t k ok (min n m) (by omega)
    have HCA := kcut_t k ok a.len ok2.n1
    rw [cut_over hr] at HOc
    rw [cut_cut hr] at HCC
    rw [over_cut hr] at HO
    rw [hr] at HR
    have HE := eqK_ke (cutK k a.len) a
    rw [← HE] at HO
    clear HE hr ok ok2
    generalize cutK k (min n m) = t at *
    generalize cutK k a.len = u at *
    generalize cutK k n = c at *
    generalize rightK a = ra at *
    unfold kv at *
    obtain ⟨RR0, RR1, hb0⟩ := two_rows w #[.int .i64 k.kind, .int .i64 k.len, .int .u64 k.h, .int .u64 k.l, .string ⟨k.path.toArray⟩] #[.int .i64 a.kind, .int .i64 a.len, .int .u64 a.h, .int .u64 a.l, .string ⟨a.path.toArray⟩] 24 24
    have c0 := (RR0.cell 0).trans (show _ = some (Value.int .i64 k.kind) from rfl)
    have c1 := (RR0.cell 1).trans (show _ = some (Value.int .i64 k.len) from rfl)
    have c2 := (RR0.cell 2).trans (show _ = some (Value.int .u64 k.h) from rfl)
    have c3 := (RR0.cell 3).trans (show _ = some (Value.int .u64 k.l) from rfl)
    have c4 := (RR0.cell 4).trans (show _ = some (Value.string ⟨k.path.toArray⟩) from rfl)
    have d0 := (RR1.cell 0).trans (show _ = some (Value.int .i64 a.kind) from rfl)
    have d1 := (RR1.cell 1).trans (show _ = some (Value.int .i64 a.len) from rfl)
    have d2 := (RR1.cell 2).trans (show _ = some (Value.int .u64 a.h) from rfl)
    have d3 := (RR1.cell 3).trans (show _ = some (Value.int .u64 a.l) from rfl)
    have d4 := (RR1.cell 4).trans (show _ = some (Value.string ⟨a.path.toArray⟩) from rfl)
    clear RR0 RR1
    by_cases hm : m < n
    · have e0 : min n m = m := by omega
      rw [e0] at HCL
      clear e0
      cases ra
      case false =>
        rw [Bool.false_and] at HO
        go_enter Try.func8, Try.ntmps8
        go_wp2_with fail
        refine (HC _).mono ?_
        rintro e w1 ⟨rfl, hb⟩
        replace c0 := cell_later hb c0
        replace c1 := cell_later hb c1
        replace c2 := cell_later hb c2
        replace c3 := cell_later hb c3
        replace c4 := cell_later hb c4
        replace d0 := cell_later hb d0
        replace d1 := cell_later hb d1
        replace d2 := cell_later hb d2
        replace d3 := cell_later hb d3
        replace d4 := cell_later hb d4
        replace hb0 := below_step hb0 hb
        clear hb
        have lc := World.block_lt_of_cell? _ _ c0
        dsimp only at lc
        have ld := World.block_lt_of_cell? _ _ d0
        dsimp only at ld
        go_wp2_with fail
        refine (HR _).mono ?_
        rintro e w2 ⟨rfl, hb⟩
        replace c0 := cell_later hb (cell_later ((Below.refl _ _).alloc (Nat.le_refl _) _) c0)
        replace c1 := cell_later hb (cell_later ((Below.refl _ _).alloc (Nat.le_refl _) _) c1)
        replace c2 := cell_later hb (cell_later ((Below.refl _ _).alloc (Nat.le_refl _) _) c2)
        replace c3 := cell_later hb (cell_later ((Below.refl _ _).alloc (Nat.le_refl _) _) c3)
        replace c4 := cell_later hb (cell_later ((Below.refl _ _).alloc (Nat.le_refl _) _) c4)
        replace d0 := cell_later hb (cell_later ((Below.refl _ _).alloc (Nat.le_refl _) _) d0)
        replace d1 := cell_later hb (cell_later ((Below.refl _ _).alloc (Nat.le_refl _) _) d1)
        replace d2 := cell_later hb (cell_later ((Below.refl _ _).alloc (Nat.le_refl _) _) d2)
        replace d3 := cell_later hb (cell_later ((Below.refl _ _).alloc (Nat.le_refl _) _) d3)
        replace d4 := cell_later hb (cell_later ((Below.refl _ _).alloc (Nat.le_refl _) _) d4)
        have f0 := ((Row.later (Row.new _ _ _) hb).cell 0).trans (show _ = some (Value.int .i64 c.kind) from rfl)
        have f1 := ((Row.later (Row.new _ _ _) hb).cell 1).trans (show _ = some (Value.int .i64 c.len) from rfl)
        have f2 := ((Row.later (Row.new _ _ _) hb).cell 2).trans (show _ = some (Value.int .u64 c.h) from rfl)
        have f3 := ((Row.later (Row.new _ _ _) hb).cell 3).trans (show _ = some (Value.int .u64 c.l) from rfl)
        have f4 := ((Row.later (Row.new _ _ _) hb).cell 4).trans (show _ = some (Value.string ⟨c.path.toArray⟩) from rfl)
        replace hb0 := below_step (hb0.alloc hb0.size _) hb
        clear hb
        generalize w1.heap.size = gf at *
        have lc := World.block_lt_of_cell? _ _ c0
        dsimp only at lc
        have ld := World.block_lt_of_cell? _ _ d0
        dsimp only at ld
        have lf := World.block_lt_of_cell? _ _ f0
        dsimp only at lf
        go_wp2_with fail
        refine wp_region_held_drew (S := (fun w' => w'.cell? ⟨w.heap.size, 0, none⟩ = some (.int .i64 k.kind) ∧ w'.cell? ⟨w.heap.size, 1, none⟩ = some (.int .i64 k.len) ∧ w'.cell? ⟨w.heap.size, 2, none⟩ = some (.int .u64 k.h) ∧ w'.cell? ⟨w.heap.size, 3, none⟩ = some (.int .u64 k.l) ∧ w'.cell? ⟨w.heap.size, 4, none⟩ = some (.string ⟨k.path.toArray⟩) ∧ w'.cell? ⟨w.heap.size + 1, 0, none⟩ = some (.int .i64 a.kind) ∧ w'.cell? ⟨w.heap.size + 1, 1, none⟩ = some (.int .i64 a.len) ∧ w'.cell? ⟨w.heap.size + 1, 2, none⟩ = some (.int .u64 a.h) ∧ w'.cell? ⟨w.heap.size + 1, 3, none⟩ = some (.int .u64 a.l) ∧ w'.cell? ⟨w.heap.size + 1, 4, none⟩ = some (.string ⟨a.path.toArray⟩) ∧ w'.cell? ⟨gf, 0, none⟩ = some (Value.int .i64 c.kind) ∧ w'.cell? ⟨gf, 1, none⟩ = some (Value.int .i64 c.len) ∧ w'.cell? ⟨gf, 2, none⟩ = some (Value.int .u64 c.h) ∧ w'.cell? ⟨gf, 3, none⟩ = some (Value.int .u64 c.l) ∧ w'.cell? ⟨gf, 4, none⟩ = some (Value.string ⟨c.path.toArray⟩) ∧ Below w.heap.size w w')) (by kernel_rfl) ?hSr1_ (fun hHeld => ?_)
        case hSr1_ => (first | exact ⟨c0, c1, c2, c3, c4, d0, d1, d2, d3, d4, f0, f1, f2, f3, f4, hb0.drew⟩ | exact ⟨c0, c1, c2, c3, c4, d0, d1, d2, d3, d4, f0, f1, f2, f3, f4, hb0⟩ | (obtain ⟨c0, c1, c2, c3, c4, d0, d1, d2, d3, d4, f0, f1, f2, f3, f4, hb0⟩ := hHeld; exact ⟨cell_later hb c0, cell_later hb c1, cell_later hb c2, cell_later hb c3, cell_later hb c4, cell_later hb d0, cell_later hb d1, cell_later hb d2, cell_later hb d3, cell_later hb d4, cell_later hb f0, cell_later hb f1, cell_later hb f2, cell_later hb f3, cell_later hb f4, below_step hb0 hb⟩))
        refine wpAnyH_ready (rs := [0]) (by kernel_rfl) (by simp) ?_
        refine AllReadyH.cons (o := { dst := some 34, op := Go.Op.call { callee := Go.Callee.value (Go.Operand.func 18), args := #[], argTypes := #[] }, type := 4, pos := _, after := #[], guard := none }) rfl (fun K hK => ?_) AllReadyH.nil
        (go_simp; (refine (alive7_t _).mono ?_); (rintro e wn ⟨rfl, hb⟩); go_wp2_with fail)
        refine hK.out _ _ ?hSr1_1_0 (fun hHeld2 => ?_)
        case hSr1_1_0 => (first | exact ⟨c0, c1, c2, c3, c4, d0, d1, d2, d3, d4, f0, f1, f2, f3, f4, hb0.drew⟩ | exact ⟨c0, c1, c2, c3, c4, d0, d1, d2, d3, d4, f0, f1, f2, f3, f4, hb0⟩ | (obtain ⟨c0, c1, c2, c3, c4, d0, d1, d2, d3, d4, f0, f1, f2, f3, f4, hb0⟩ := hHeld; exact ⟨cell_later hb c0, cell_later hb c1, cell_later hb c2, cell_later hb c3, cell_later hb c4, cell_later hb d0, cell_later hb d1, cell_later hb d2, cell_later hb d3, cell_later hb d4, cell_later hb f0, cell_later hb f1, cell_later hb f2, cell_later hb f3, cell_later hb f4, below_step hb0 hb⟩))
        clear hK K hHeld
        have hHeld := hHeld2
        clear hHeld2
        (try simp only [Act.put, List.setIfInBounds_toArray, List.set_cons_zero, List.set_cons_succ])
        refine wpAnyH_take (i := 1) (oi := { dst := some 35, op := Go.Op.move (Go.Operand.tmp 34), type := 4, pos := _, after := #[{ on := 0, ground := Go.Ground.data }, { on := 0, ground := Go.Ground.chain }], guard := none }) (v := ?vr1_2_1) rfl (by kernel_rfl) (by kernel_rfl) (by kernel_rfl) (fun _ _ _ h => h) (Or.inl ⟨by rfl, ?yr1_2_1⟩) hHeld ?_
        case yr1_2_1 => ((intro w hSw; (try dsimp only at hSw); go_simp) <;> with_reducible rfl)
        (try simp only [Act.put, List.setIfInBounds_toArray, List.set_cons_zero, List.set_cons_succ])
        refine wpAnyH_take (i := 2) (oi := { dst := some 36, op := Go.Op.load 24 (Go.Operand.tmp 9), type := 24, pos := _, after := #[{ on := 1, ground := Go.Ground.guard }], guard := some (1, true) }) (v := ?vr1_3_2) rfl (by kernel_rfl) (by kernel_rfl) (by kernel_rfl) (fun _ _ _ h => h) (Or.inl ⟨by rfl, ?yr1_3_2⟩) hHeld ?_
        case yr1_3_2 => ((intro w hSw; (try dsimp only at hSw); go_simp) <;> with_reducible rfl)
        (try simp only [Act.put, List.setIfInBounds_toArray, List.set_cons_zero, List.set_cons_succ])
        refine wpAnyH_take (i := 3) (oi := { dst := some 37, op := Go.Op.load 24 (Go.Operand.tmp 4), type := 24, pos := _, after := #[{ on := 1, ground := Go.Ground.guard }], guard := some (1, true) }) (v := ?vr1_4_3) rfl (by kernel_rfl) (by kernel_rfl) (by kernel_rfl) (fun _ _ _ h => h) (Or.inl ⟨by rfl, ?yr1_4_3⟩) hHeld ?_
        case yr1_4_3 => ((intro w hSw; (try dsimp only at hSw); go_simp) <;> with_reducible rfl)
        (try simp only [Act.put, List.setIfInBounds_toArray, List.set_cons_zero, List.set_cons_succ])
        refine wpAnyH_ready (rs := [4]) (by kernel_rfl) (by simp) ?_
        refine AllReadyH.cons (o := { dst := some 38, op := Go.Op.call { callee := Go.Callee.value (Go.Operand.func 32), args := #[Go.Operand.tmp 36, Go.Operand.tmp 37], argTypes := #[24, 24] }, type := 4, pos := _, after := #[{ on := 2, ground := Go.Ground.data }, { on := 3, ground := Go.Ground.data }, { on := 1, ground := Go.Ground.chain }, { on := 1, ground := Go.Ground.guard }], guard := some (1, true) }) rfl (fun K hK => ?_) AllReadyH.nil
        (go_simp; (refine (HOc _).mono ?_); (rintro e wn ⟨rfl, hb⟩); go_wp2_with fail)
        refine hK.out _ _ ?hSr1_5_4 (fun hHeld2 => ?_)
        case hSr1_5_4 => (first | exact ⟨c0, c1, c2, c3, c4, d0, d1, d2, d3, d4, f0, f1, f2, f3, f4, hb0.drew⟩ | exact ⟨c0, c1, c2, c3, c4, d0, d1, d2, d3, d4, f0, f1, f2, f3, f4, hb0⟩ | (obtain ⟨c0, c1, c2, c3, c4, d0, d1, d2, d3, d4, f0, f1, f2, f3, f4, hb0⟩ := hHeld; exact ⟨cell_later hb c0, cell_later hb c1, cell_later hb c2, cell_later hb c3, cell_later hb c4, cell_later hb d0, cell_later hb d1, cell_later hb d2, cell_later hb d3, cell_later hb d4, cell_later hb f0, cell_later hb f1, cell_later hb f2, cell_later hb f3, cell_later hb f4, below_step hb0 hb⟩))
        clear hK K hHeld
        have hHeld := hHeld2
        clear hHeld2
        (try simp only [Act.put, List.setIfInBounds_toArray, List.set_cons_zero, List.set_cons_succ])
        refine wpAnyH_take (i := 5) (oi := { dst := some 39, op := Go.Op.pick (Go.Operand.tmp 35) (Go.Operand.tmp 38) (Go.Operand.const (Go.Value.bool false)), type := 4, pos := _, after := #[{ on := 1, ground := Go.Ground.data }, { on := 4, ground := Go.Ground.data }], guard := none }) (v := ?vr1_6_5) rfl (by kernel_rfl) (by kernel_rfl) (by kernel_rfl) (fun _ _ _ h => h) (Or.inl ⟨by rfl, ?yr1_6_5⟩) hHeld ?_
        case yr1_6_5 => ((intro w hSw; (try dsimp only at hSw); go_simp) <;> with_reducible rfl)
        (try simp only [Act.put, List.setIfInBounds_toArray, List.set_cons_zero, List.set_cons_succ])
        refine wpAnyH_take (i := 6) (oi := { dst := some 40, op := Go.Op.move (Go.Operand.tmp 39), type := 4, pos := _, after := #[{ on := 5, ground := Go.Ground.data }, { on := 4, ground := Go.Ground.chain }], guard := none }) (v := ?vr1_7_6) rfl (by kernel_rfl) (by kernel_rfl) (by kernel_rfl) (fun _ _ _ h => h) (Or.inl ⟨by rfl, ?yr1_7_6⟩) hHeld ?_
        case yr1_7_6 => ((intro w hSw; (try dsimp only at hSw); go_simp) <;> with_reducible rfl)
        (try simp only [Act.put, List.setIfInBounds_toArray, List.set_cons_zero, List.set_cons_succ])
        refine wpAnyH_take (i := 7) (oi := { dst := some 41, op := Go.Op.load 24 (Go.Operand.tmp 9), type := 24, pos := _, after := #[{ on := 6, ground := Go.Ground.guard }], guard := some (6, true) }) (v := ?vr1_8_7) rfl (by kernel_rfl) (by kernel_rfl) (by kernel_rfl) (fun _ _ _ h => h) (Or.inl ⟨by rfl, ?yr1_8_7⟩) hHeld ?_
        case yr1_8_7 => ((intro w hSw; (try dsimp only at hSw); go_simp) <;> with_reducible rfl)
        (try simp only [Act.put, List.setIfInBounds_toArray, List.set_cons_zero, List.set_cons_succ])
        refine wpAnyH_take (i := 8) (oi := { dst := some 42, op := Go.Op.move (Go.Operand.tmp 3), type := 3, pos := _, after := #[{ on := 6, ground := Go.Ground.guard }], guard := some (6, true) }) (v := ?vr1_9_8) rfl (by kernel_rfl) (by kernel_rfl) (by kernel_rfl) (fun _ _ _ h => h) (Or.inl ⟨by rfl, ?yr1_9_8⟩) hHeld ?_
        case yr1_9_8 => ((intro w hSw; (try dsimp only at hSw); go_simp) <;> with_reducible rfl)
        (try simp only [Act.put, List.setIfInBounds_toArray, List.set_cons_zero, List.set_cons_succ])
        refine wpAnyH_take (i := 10) (oi := { dst := some 44, op := Go.Op.load 24 (Go.Operand.tmp 4), type := 24, pos := _, after := #[{ on := 6, ground := Go.Ground.guard }], guard := some (6, true) }) (v := ?vr1_10_10) rfl (by kernel_rfl) (by kernel_rfl) (by kernel_rfl) (fun _ _ _ h => h) (Or.inl ⟨by rfl, ?yr1_10_10⟩) hHeld ?_
        case yr1_10_10 => ((intro w hSw; (try dsimp only at hSw); go_simp) <;> with_reducible rfl)
        (try simp only [Act.put, List.setIfInBounds_toArray, List.set_cons_zero, List.set_cons_succ])
        refine wpAnyH_take (i := 11) (oi := { dst := some 45, op := Go.Op.move (Go.Operand.tmp 10), type := 3, pos := _, after := #[{ on := 6, ground := Go.Ground.guard }], guard := some (6, true) }) (v := ?vr1_11_11) rfl (by kernel_rfl) (by kernel_rfl) (by kernel_rfl) (fun _ _ _ h => h) (Or.inl ⟨by rfl, ?yr1_11_11⟩) hHeld ?_
        case yr1_11_11 => ((intro w hSw; (try dsimp only at hSw); go_simp) <;> with_reducible rfl)
        (try simp only [Act.put, List.setIfInBounds_toArray, List.set_cons_zero, List.set_cons_succ])
        refine wpAnyH_ready (rs := [9]) (by kernel_rfl) (by simp) ?_
        refine AllReadyH.cons (o := { dst := some 43, op := Go.Op.call { callee := Go.Callee.value (Go.Operand.func 30), args := #[Go.Operand.tmp 41, Go.Operand.tmp 42], argTypes := #[24, 3] }, type := 24, pos := _, after := #[{ on := 7, ground := Go.Ground.data }, { on := 8, ground := Go.Ground.data }, { on := 6, ground := Go.Ground.chain }, { on := 6, ground := Go.Ground.guard }], guard := some (6, true) }) rfl (fun K hK => ?_) AllReadyH.nil
        (go_simp; (refine (HCC _).mono ?_); (rintro e wn ⟨rfl, hb⟩); go_wp2_with fail)
        refine hK.out _ _ ?hSr1_12_9 (fun hHeld2 => ?_)
        case hSr1_12_9 => (first | exact ⟨c0, c1, c2, c3, c4, d0, d1, d2, d3, d4, f0, f1, f2, f3, f4, hb0.drew⟩ | exact ⟨c0, c1, c2, c3, c4, d0, d1, d2, d3, d4, f0, f1, f2, f3, f4, hb0⟩ | (obtain ⟨c0, c1, c2, c3, c4, d0, d1, d2, d3, d4, f0, f1, f2, f3, f4, hb0⟩ := hHeld; exact ⟨cell_later hb c0, cell_later hb c1, cell_later hb c2, cell_later hb c3, cell_later hb c4, cell_later hb d0, cell_later hb d1, cell_later hb d2, cell_later hb d3, cell_later hb d4, cell_later hb f0, cell_later hb f1, cell_later hb f2, cell_later hb f3, cell_later hb f4, below_step hb0 hb⟩))
        clear hK K hHeld
        have hHeld := hHeld2
        clear hHeld2
        (try simp only [Act.put, List.setIfInBounds_toArray, List.set_cons_zero, List.set_cons_succ])
        refine wpAnyH_ready (rs := [12]) (by kernel_rfl) (by simp) ?_
        refine AllReadyH.cons (o := { dst := some 46, op := Go.Op.call { callee := Go.Callee.value (Go.Operand.func 30), args := #[Go.Operand.tmp 44, Go.Operand.tmp 45], argTypes := #[24, 3] }, type := 24, pos := _, after := #[{ on := 10, ground := Go.Ground.data }, { on := 11, ground := Go.Ground.data }, { on := 9, ground := Go.Ground.chain }, { on := 6, ground := Go.Ground.guard }], guard := some (6, true) }) rfl (fun K hK => ?_) AllReadyH.nil
        (go_simp; (refine (HCL _).mono ?_); (rintro e wn ⟨rfl, hb⟩); go_wp2_with fail)
        refine hK.out _ _ ?hSr1_13_12 (fun hHeld2 => ?_)
        case hSr1_13_12 => (first | exact ⟨c0, c1, c2, c3, c4, d0, d1, d2, d3, d4, f0, f1, f2, f3, f4, hb0.drew⟩ | exact ⟨c0, c1, c2, c3, c4, d0, d1, d2, d3, d4, f0, f1, f2, f3, f4, hb0⟩ | (obtain ⟨c0, c1, c2, c3, c4, d0, d1, d2, d3, d4, f0, f1, f2, f3, f4, hb0⟩ := hHeld; exact ⟨cell_later hb c0, cell_later hb c1, cell_later hb c2, cell_later hb c3, cell_later hb c4, cell_later hb d0, cell_later hb d1, cell_later hb d2, cell_later hb d3, cell_later hb d4, cell_later hb f0, cell_later hb f1, cell_later hb f2, cell_later hb f3, cell_later hb f4, below_step hb0 hb⟩))
        clear hK K hHeld
        have hHeld := hHeld2
        clear hHeld2
        (try simp only [Act.put, List.setIfInBounds_toArray, List.set_cons_zero, List.set_cons_succ])
        refine wpAnyH_take (i := 13) (oi := { dst := some 47, op := Go.Op.binOp Go.BinOp.eql 24 (Go.Operand.tmp 43) (Go.Operand.tmp 46) 24, type := 4, pos := _, after := #[{ on := 9, ground := Go.Ground.data }, { on := 12, ground := Go.Ground.data }, { on := 6, ground := Go.Ground.guard }], guard := some (6, true) }) (v := ?vr1_14_13) rfl (by kernel_rfl) (by kernel_rfl) (by kernel_rfl) (fun _ _ _ h => h) (Or.inl ⟨by rfl, ?yr1_14_13⟩) hHeld ?_
        case yr1_14_13 => ((intro w hSw; (try dsimp only at hSw); go_simp) <;> with_reducible rfl)
        (try simp only [Act.put, List.setIfInBounds_toArray, List.set_cons_zero, List.set_cons_succ])
        refine wpAnyH_take (i := 14) (oi := { dst := some 48, op := Go.Op.pick (Go.Operand.tmp 40) (Go.Operand.tmp 47) (Go.Operand.const (Go.Value.bool false)), type := 4, pos := _, after := #[{ on := 6, ground := Go.Ground.data }, { on := 13, ground := Go.Ground.data }], guard := none }) (v := ?vr1_15_14) rfl (by kernel_rfl) (by kernel_rfl) (by kernel_rfl) (fun _ _ _ h => h) (Or.inl ⟨by rfl, ?yr1_15_14⟩) hHeld ?_
        case yr1_15_14 => ((intro w hSw; (try dsimp only at hSw); go_simp) <;> with_reducible rfl)
        (try simp only [Act.put, List.setIfInBounds_toArray, List.set_cons_zero, List.set_cons_succ])
        refine wpAnyH_take (i := 15) (oi := { dst := some 49, op := Go.Op.move (Go.Operand.tmp 48), type := 4, pos := _, after := #[{ on := 14, ground := Go.Ground.data }, { on := 12, ground := Go.Ground.chain }], guard := none }) (v := ?vr1_16_15) rfl (by kernel_rfl) (by kernel_rfl) (by kernel_rfl) (fun _ _ _ h => h) (Or.inl ⟨by rfl, ?yr1_16_15⟩) hHeld ?_
        case yr1_16_15 => ((intro w hSw; (try dsimp only at hSw); go_simp) <;> with_reducible rfl)
        (try simp only [Act.put, List.setIfInBounds_toArray, List.set_cons_zero, List.set_cons_succ])
        refine wpAnyH_take (i := 16) (oi := { dst := some 50, op := Go.Op.load 24 (Go.Operand.tmp 5), type := 24, pos := _, after := #[{ on := 15, ground := Go.Ground.guard }], guard := some (15, true) }) (v := ?vr1_17_16) rfl (by kernel_rfl) (by kernel_rfl) (by kernel_rfl) (fun _ _ _ h => h) (Or.inl ⟨by rfl, ?yr1_17_16⟩) hHeld ?_
        case yr1_17_16 => ((intro w hSw; (try dsimp only at hSw); go_simp) <;> with_reducible rfl)
        (try simp only [Act.put, List.setIfInBounds_toArray, List.set_cons_zero, List.set_cons_succ])
        refine wpAnyH_take (i := 17) (oi := { dst := some 51, op := Go.Op.load 24 (Go.Operand.tmp 4), type := 24, pos := _, after := #[{ on := 15, ground := Go.Ground.guard }], guard := some (15, true) }) (v := ?vr1_18_17) rfl (by kernel_rfl) (by kernel_rfl) (by kernel_rfl) (fun _ _ _ h => h) (Or.inl ⟨by rfl, ?yr1_18_17⟩) hHeld ?_
        case yr1_18_17 => ((intro w hSw; (try dsimp only at hSw); go_simp) <;> with_reducible rfl)
        (try simp only [Act.put, List.setIfInBounds_toArray, List.set_cons_zero, List.set_cons_succ])
        refine wpAnyH_take (i := 19) (oi := { dst := some 53, op := Go.Op.load 24 (Go.Operand.tmp 5), type := 24, pos := _, after := #[{ on := 15, ground := Go.Ground.guard }], guard := some (15, true) }) (v := ?vr1_19_19) rfl (by kernel_rfl) (by kernel_rfl) (by kernel_rfl) (fun _ _ _ h => h) (Or.inl ⟨by rfl, ?yr1_19_19⟩) hHeld ?_
        case yr1_19_19 => ((intro w hSw; (try dsimp only at hSw); go_simp) <;> with_reducible rfl)
        (try simp only [Act.put, List.setIfInBounds_toArray, List.set_cons_zero, List.set_cons_succ])
        refine wpAnyH_ready (rs := [18]) (by kernel_rfl) (by simp) ?_
        refine AllReadyH.cons (o := { dst := some 52, op := Go.Op.call { callee := Go.Callee.value (Go.Operand.func 32), args := #[Go.Operand.tmp 50, Go.Operand.tmp 51], argTypes := #[24, 24] }, type := 4, pos := _, after := #[{ on := 16, ground := Go.Ground.data }, { on := 17, ground := Go.Ground.data }, { on := 15, ground := Go.Ground.chain }, { on := 15, ground := Go.Ground.guard }], guard := some (15, true) }) rfl (fun K hK => ?_) AllReadyH.nil
        (go_simp; (refine (HO _).mono ?_); (rintro e wn ⟨rfl, hb⟩); go_wp2_with fail)
        refine hK.out _ _ ?hSr1_20_18 (fun hHeld2 => ?_)
        case hSr1_20_18 => (first | exact ⟨c0, c1, c2, c3, c4, d0, d1, d2, d3, d4, f0, f1, f2, f3, f4, hb0.drew⟩ | exact ⟨c0, c1, c2, c3, c4, d0, d1, d2, d3, d4, f0, f1, f2, f3, f4, hb0⟩ | (obtain ⟨c0, c1, c2, c3, c4, d0, d1, d2, d3, d4, f0, f1, f2, f3, f4, hb0⟩ := hHeld; exact ⟨cell_later hb c0, cell_later hb c1, cell_later hb c2, cell_later hb c3, cell_later hb c4, cell_later hb d0, cell_later hb d1, cell_later hb d2, cell_later hb d3, cell_later hb d4, cell_later hb f0, cell_later hb f1, cell_later hb f2, cell_later hb f3, cell_later hb f4, below_step hb0 hb⟩))
        clear hK K hHeld
        have hHeld := hHeld2
        clear hHeld2
        (try simp only [Act.put, List.setIfInBounds_toArray, List.set_cons_zero, List.set_cons_succ])
        refine wpAnyH_ready (rs := [20]) (by kernel_rfl) (by simp) ?_
        refine AllReadyH.cons (o := { dst := some 54, op := Go.Op.call { callee := Go.Callee.value (Go.Operand.func 19), args := #[Go.Operand.tmp 53], argTypes := #[24] }, type := 4, pos := _, after := #[{ on := 19, ground := Go.Ground.data }, { on := 18, ground := Go.Ground.chain }, { on := 15, ground := Go.Ground.guard }], guard := some (15, true) }) rfl (fun K hK => ?_) AllReadyH.nil
        (go_simp; (refine (HA _).mono ?_); (rintro e wn ⟨rfl, hb⟩); go_wp2_with fail)
        refine hK.out _ _ ?hSr1_21_20 (fun hHeld2 => ?_)
        case hSr1_21_20 => (first | exact ⟨c0, c1, c2, c3, c4, d0, d1, d2, d3, d4, f0, f1, f2, f3, f4, hb0.drew⟩ | exact ⟨c0, c1, c2, c3, c4, d0, d1, d2, d3, d4, f0, f1, f2, f3, f4, hb0⟩ | (obtain ⟨c0, c1, c2, c3, c4, d0, d1, d2, d3, d4, f0, f1, f2, f3, f4, hb0⟩ := hHeld; exact ⟨cell_later hb c0, cell_later hb c1, cell_later hb c2, cell_later hb c3, cell_later hb c4, cell_later hb d0, cell_later hb d1, cell_later hb d2, cell_later hb d3, cell_later hb d4, cell_later hb f0, cell_later hb f1, cell_later hb f2, cell_later hb f3, cell_later hb f4, below_step hb0 hb⟩))
        clear hK K hHeld
        have hHeld := hHeld2
        clear hHeld2
        (try simp only [Act.put, List.setIfInBounds_toArray, List.set_cons_zero, List.set_cons_succ])
        refine wpAnyH_take (i := 21) (oi := { dst := some 55, op := Go.Op.move (Go.Operand.tmp 54), type := 4, pos := _, after := #[{ on := 20, ground := Go.Ground.data }, { on := 20, ground := Go.Ground.chain }, { on := 15, ground := Go.Ground.guard }], guard := some (15, true) }) (v := ?vr1_22_21) rfl (by kernel_rfl) (by kernel_rfl) (by kernel_rfl) (fun _ _ _ h => h) (Or.inl ⟨by rfl, ?yr1_22_21⟩) hHeld ?_
        case yr1_22_21 => ((intro w hSw; (try dsimp only at hSw); go_simp) <;> with_reducible rfl)
        (try simp only [Act.put, List.setIfInBounds_toArray, List.set_cons_zero, List.set_cons_succ])
        refine wpAnyH_take (i := 22) (oi := { dst := some 56, op := Go.Op.load 24 (Go.Operand.tmp 4), type := 24, pos := _, after := #[{ on := 21, ground := Go.Ground.guard }], guard := some (21, true) }) (v := undef) rfl (by kernel_rfl) (by kernel_rfl) (by kernel_rfl) (fun _ _ _ h => h) (Or.inr ⟨by rfl, rfl⟩) hHeld ?_
        (try simp only [Act.put, List.setIfInBounds_toArray, List.set_cons_zero, List.set_cons_succ])
        refine wpAnyH_take (i := 23) (oi := { dst := some 57, op := Go.Op.fieldAddr 24 (Go.Operand.tmp 5) 1, type := 0, pos := _, after := #[{ on := 21, ground := Go.Ground.guard }], guard := some (21, true) }) (v := undef) rfl (by kernel_rfl) (by kernel_rfl) (by kernel_rfl) (fun _ _ _ h => h) (Or.inr ⟨by rfl, rfl⟩) hHeld ?_
        (try simp only [Act.put, List.setIfInBounds_toArray, List.set_cons_zero, List.set_cons_succ])
        refine wpAnyH_take (i := 24) (oi := { dst := some 58, op := Go.Op.load 3 (Go.Operand.tmp 57), type := 3, pos := _, after := #[{ on := 23, ground := Go.Ground.data }, { on := 21, ground := Go.Ground.guard }], guard := some (21, true) }) (v := undef) rfl (by kernel_rfl) (by kernel_rfl) (by kernel_rfl) (fun _ _ _ h => h) (Or.inr ⟨by rfl, rfl⟩) hHeld ?_
        (try simp only [Act.put, List.setIfInBounds_toArray, List.set_cons_zero, List.set_cons_succ])
        refine wpAnyH_take (i := 25) (oi := { dst := some 59, op := Go.Op.call { callee := Go.Callee.value (Go.Operand.func 30), args := #[Go.Operand.tmp 56, Go.Operand.tmp 58], argTypes := #[24, 3] }, type := 24, pos := _, after := #[{ on := 22, ground := Go.Ground.data }, { on := 24, ground := Go.Ground.data }, { on := 21, ground := Go.Ground.chain }, { on := 21, ground := Go.Ground.guard }], guard := some (21, true) }) (v := undef) rfl (by kernel_rfl) (by kernel_rfl) (by kernel_rfl) (fun _ _ _ h => h) (Or.inr ⟨by rfl, rfl⟩) hHeld ?_
        (try simp only [Act.put, List.setIfInBounds_toArray, List.set_cons_zero, List.set_cons_succ])
        refine wpAnyH_take (i := 26) (oi := { dst := some 60, op := Go.Op.load 24 (Go.Operand.tmp 5), type := 24, pos := _, after := #[{ on := 21, ground := Go.Ground.guard }], guard := some (21, true) }) (v := undef) rfl (by kernel_rfl) (by kernel_rfl) (by kernel_rfl) (fun _ _ _ h => h) (Or.inr ⟨by rfl, rfl⟩) hHeld ?_
        (try simp only [Act.put, List.setIfInBounds_toArray, List.set_cons_zero, List.set_cons_succ])
        refine wpAnyH_take (i := 27) (oi := { dst := some 61, op := Go.Op.binOp Go.BinOp.eql 24 (Go.Operand.tmp 59) (Go.Operand.tmp 60) 24, type := 4, pos := _, after := #[{ on := 25, ground := Go.Ground.data }, { on := 26, ground := Go.Ground.data }, { on := 21, ground := Go.Ground.guard }], guard := some (21, true) }) (v := undef) rfl (by kernel_rfl) (by kernel_rfl) (by kernel_rfl) (fun _ _ _ h => h) (Or.inr ⟨by rfl, rfl⟩) hHeld ?_
        (try simp only [Act.put, List.setIfInBounds_toArray, List.set_cons_zero, List.set_cons_succ])
        refine wpAnyH_take (i := 28) (oi := { dst := some 62, op := Go.Op.pick (Go.Operand.tmp 55) (Go.Operand.tmp 61) (Go.Operand.const (Go.Value.bool false)), type := 4, pos := _, after := #[{ on := 21, ground := Go.Ground.data }, { on := 27, ground := Go.Ground.data }, { on := 15, ground := Go.Ground.guard }], guard := some (15, true) }) (v := ?vr1_29_28) rfl (by kernel_rfl) (by kernel_rfl) (by kernel_rfl) (fun _ _ _ h => h) (Or.inl ⟨by rfl, ?yr1_29_28⟩) hHeld ?_
        case yr1_29_28 => ((intro w hSw; (try dsimp only at hSw); go_simp) <;> with_reducible rfl)
        (try simp only [Act.put, List.setIfInBounds_toArray, List.set_cons_zero, List.set_cons_succ])
        refine wpAnyH_take (i := 29) (oi := { dst := some 63, op := Go.Op.binOp Go.BinOp.eql 4 (Go.Operand.tmp 52) (Go.Operand.tmp 62) 4, type := 4, pos := _, after := #[{ on := 18, ground := Go.Ground.data }, { on := 28, ground := Go.Ground.data }, { on := 15, ground := Go.Ground.guard }], guard := some (15, true) }) (v := ?vr1_30_29) rfl (by kernel_rfl) (by kernel_rfl) (by kernel_rfl) (fun _ _ _ h => h) (Or.inl ⟨by rfl, ?yr1_30_29⟩) hHeld ?_
        case yr1_30_29 => ((intro w hSw; (try dsimp only at hSw); go_simp) <;> with_reducible rfl)
        (try simp only [Act.put, List.setIfInBounds_toArray, List.set_cons_zero, List.set_cons_succ])
        refine wpAnyH_take (i := 30) (oi := { dst := some 64, op := Go.Op.pick (Go.Operand.tmp 49) (Go.Operand.tmp 63) (Go.Operand.const (Go.Value.bool false)), type := 4, pos := _, after := #[{ on := 15, ground := Go.Ground.data }, { on := 29, ground := Go.Ground.data }], guard := none }) (v := ?vr1_31_30) rfl (by kernel_rfl) (by kernel_rfl) (by kernel_rfl) (fun _ _ _ h => h) (Or.inl ⟨by rfl, ?yr1_31_30⟩) hHeld ?_
        case yr1_31_30 => ((intro w hSw; (try dsimp only at hSw); go_simp) <;> with_reducible rfl)
        (try simp only [Act.put, List.setIfInBounds_toArray, List.set_cons_zero, List.set_cons_succ])
        refine wpAnyH_take (i := 31) (oi := { dst := some 8, op := Go.Op.assign (Go.Operand.tmp 64), type := 4, pos := _, after := #[{ on := 30, ground := Go.Ground.data }, { on := 25, ground := Go.Ground.chain }, { on := 0, ground := Go.Ground.phase }, { on := 1, ground := Go.Ground.phase }, { on := 2, ground := Go.Ground.phase }, { on := 3, ground := Go.Ground.phase }, { on := 4, ground := Go.Ground.phase }, { on := 5, ground := Go.Ground.phase }, { on := 6, ground := Go.Ground.phase }, { on := 7, ground := Go.Ground.phase }, { on := 8, ground := Go.Ground.phase }, { on := 9, ground := Go.Ground.phase }, { on := 10, ground := Go.Ground.phase }, { on := 11, ground := Go.Ground.phase }, { on := 12, ground := Go.Ground.phase }, { on := 13, ground := Go.Ground.phase }, { on := 14, ground := Go.Ground.phase }, { on := 15, ground := Go.Ground.phase }, { on := 16, ground := Go.Ground.phase }, { on := 17, ground := Go.Ground.phase }, { on := 18, ground := Go.Ground.phase }, { on := 19, ground := Go.Ground.phase }, { on := 20, ground := Go.Ground.phase }, { on := 21, ground := Go.Ground.phase }, { on := 22, ground := Go.Ground.phase }, { on := 23, ground := Go.Ground.phase }, { on := 24, ground := Go.Ground.phase }, { on := 25, ground := Go.Ground.phase }, { on := 26, ground := Go.Ground.phase }, { on := 27, ground := Go.Ground.phase }, { on := 28, ground := Go.Ground.phase }, { on := 29, ground := Go.Ground.phase }, { on := 30, ground := Go.Ground.phase }], guard := none }) (v := ?vr1_32_31) rfl (by kernel_rfl) (by kernel_rfl) (by kernel_rfl) (fun _ _ _ h => h) (Or.inl ⟨by rfl, ?yr1_32_31⟩) hHeld ?_
        case yr1_32_31 => ((intro w hSw; (try dsimp only at hSw); go_simp) <;> with_reducible rfl)
        (try simp only [Act.put, List.setIfInBounds_toArray, List.set_cons_zero, List.set_cons_succ])
        refine wpAnyH_done (by kernel_rfl) ?_ _
        clear c0 c1 c2 c3 c4 d0 d1 d2 d3 d4 f0 f1 f2 f3 f4 hb0
        obtain ⟨c0, c1, c2, c3, c4, d0, d1, d2, d3, d4, f0, f1, f2, f3, f4, hb0⟩ := hHeld
        go_wp2
        go_ret
        exact ⟨rfl, hb0⟩
      case true =>
        rw [Bool.true_and] at HO
        go_enter Try.func8, Try.ntmps8
        go_wp2_with fail
        refine (HC _).mono ?_
        rintro e w3 ⟨rfl, hb⟩
        replace c0 := cell_later hb c0
        replace c1 := cell_later hb c1
        replace c2 := cell_later hb c2
        replace c3 := cell_later hb c3
        replace c4 := cell_later hb c4
        replace d0 := cell_later hb d0
        replace d1 := cell_later hb d1
        replace d2 := cell_later hb d2
        replace d3 := cell_later hb d3
        replace d4 := cell_later hb d4
        replace hb0 := below_step hb0 hb
        clear hb
        have lc := World.block_lt_of_cell? _ _ c0
        dsimp only at lc
        have ld := World.block_lt_of_cell? _ _ d0
        dsimp only at ld
        go_wp2_with fail
        refine (HR _).mono ?_
        rintro e w4 ⟨rfl, hb⟩
        replace c0 := cell_later hb (cell_later ((Below.refl _ _).alloc (Nat.le_refl _) _) c0)
        replace c1 := cell_later hb (cell_later ((Below.refl _ _).alloc (Nat.le_refl _) _) c1)
        replace c2 := cell_later hb (cell_later ((Below.refl _ _).alloc (Nat.le_refl _) _) c2)
        replace c3 := cell_later hb (cell_later ((Below.refl _ _).alloc (Nat.le_refl _) _) c3)
        replace c4 := cell_later hb (cell_later ((Below.refl _ _).alloc (Nat.le_refl _) _) c4)
        replace d0 := cell_later hb (cell_later ((Below.refl _ _).alloc (Nat.le_refl _) _) d0)
        replace d1 := cell_later hb (cell_later ((Below.refl _ _).alloc (Nat.le_refl _) _) d1)
        replace d2 := cell_later hb (cell_later ((Below.refl _ _).alloc (Nat.le_refl _) _) d2)
        replace d3 := cell_later hb (cell_later ((Below.refl _ _).alloc (Nat.le_refl _) _) d3)
        replace d4 := cell_later hb (cell_later ((Below.refl _ _).alloc (Nat.le_refl _) _) d4)
        have f0 := ((Row.later (Row.new _ _ _) hb).cell 0).trans (show _ = some (Value.int .i64 c.kind) from rfl)
        have f1 := ((Row.later (Row.new _ _ _) hb).cell 1).trans (show _ = some (Value.int .i64 c.len) from rfl)
        have f2 := ((Row.later (Row.new _ _ _) hb).cell 2).trans (show _ = some (Value.int .u64 c.h) from rfl)
        have f3 := ((Row.later (Row.new _ _ _) hb).cell 3).trans (show _ = some (Value.int .u64 c.l) from rfl)
        have f4 := ((Row.later (Row.new _ _ _) hb).cell 4).trans (show _ = some (Value.string ⟨c.path.toArray⟩) from rfl)
        replace hb0 := below_step (hb0.alloc hb0.size _) hb
        clear hb
        generalize w3.heap.size = gf at *
        have lc := World.block_lt_of_cell? _ _ c0
        dsimp only at lc
        have ld := World.block_lt_of_cell? _ _ d0
        dsimp only at ld
        have lf := World.block_lt_of_cell? _ _ f0
        dsimp only at lf
        go_wp2_with fail
        refine wp_region_held_drew (S := (fun w' => w'.cell? ⟨w.heap.size, 0, none⟩ = some (.int .i64 k.kind) ∧ w'.cell? ⟨w.heap.size, 1, none⟩ = some (.int .i64 k.len) ∧ w'.cell? ⟨w.heap.size, 2, none⟩ = some (.int .u64 k.h) ∧ w'.cell? ⟨w.heap.size, 3, none⟩ = some (.int .u64 k.l) ∧ w'.cell? ⟨w.heap.size, 4, none⟩ = some (.string ⟨k.path.toArray⟩) ∧ w'.cell? ⟨w.heap.size + 1, 0, none⟩ = some (.int .i64 a.kind) ∧ w'.cell? ⟨w.heap.size + 1, 1, none⟩ = some (.int .i64 a.len) ∧ w'.cell? ⟨w.heap.size + 1, 2, none⟩ = some (.int .u64 a.h) ∧ w'.cell? ⟨w.heap.size + 1, 3, none⟩ = some (.int .u64 a.l) ∧ w'.cell? ⟨w.heap.size + 1, 4, none⟩ = some (.string ⟨a.path.toArray⟩) ∧ w'.cell? ⟨gf, 0, none⟩ = some (Value.int .i64 c.kind) ∧ w'.cell? ⟨gf, 1, none⟩ = some (Value.int .i64 c.len) ∧ w'.cell? ⟨gf, 2, none⟩ = some (Value.int .u64 c.h) ∧ w'.cell? ⟨gf, 3, none⟩ = some (Value.int .u64 c.l) ∧ w'.cell? ⟨gf, 4, none⟩ = some (Value.string ⟨c.path.toArray⟩) ∧ Below w.heap.size w w')) (by kernel_rfl) ?hSr2_ (fun hHeld => ?_)
        case hSr2_ => (first | exact ⟨c0, c1, c2, c3, c4, d0, d1, d2, d3, d4, f0, f1, f2, f3, f4, hb0.drew⟩ | exact ⟨c0, c1, c2, c3, c4, d0, d1, d2, d3, d4, f0, f1, f2, f3, f4, hb0⟩ | (obtain ⟨c0, c1, c2, c3, c4, d0, d1, d2, d3, d4, f0, f1, f2, f3, f4, hb0⟩ := hHeld; exact ⟨cell_later hb c0, cell_later hb c1, cell_later hb c2, cell_later hb c3, cell_later hb c4, cell_later hb d0, cell_later hb d1, cell_later hb d2, cell_later hb d3, cell_later hb d4, cell_later hb f0, cell_later hb f1, cell_later hb f2, cell_later hb f3, cell_later hb f4, below_step hb0 hb⟩))
        refine wpAnyH_ready (rs := [0]) (by kernel_rfl) (by simp) ?_
        refine AllReadyH.cons (o := { dst := some 34, op := Go.Op.call { callee := Go.Callee.value (Go.Operand.func 18), args := #[], argTypes := #[] }, type := 4, pos := _, after := #[], guard := none }) rfl (fun K hK => ?_) AllReadyH.nil
        (go_simp; (refine (alive7_t _).mono ?_); (rintro e wn ⟨rfl, hb⟩); go_wp2_with fail)
        refine hK.out _ _ ?hSr2_1_0 (fun hHeld2 => ?_)
        case hSr2_1_0 => (first | exact ⟨c0, c1, c2, c3, c4, d0, d1, d2, d3, d4, f0, f1, f2, f3, f4, hb0.drew⟩ | exact ⟨c0, c1, c2, c3, c4, d0, d1, d2, d3, d4, f0, f1, f2, f3, f4, hb0⟩ | (obtain ⟨c0, c1, c2, c3, c4, d0, d1, d2, d3, d4, f0, f1, f2, f3, f4, hb0⟩ := hHeld; exact ⟨cell_later hb c0, cell_later hb c1, cell_later hb c2, cell_later hb c3, cell_later hb c4, cell_later hb d0, cell_later hb d1, cell_later hb d2, cell_later hb d3, cell_later hb d4, cell_later hb f0, cell_later hb f1, cell_later hb f2, cell_later hb f3, cell_later hb f4, below_step hb0 hb⟩))
        clear hK K hHeld
        have hHeld := hHeld2
        clear hHeld2
        (try simp only [Act.put, List.setIfInBounds_toArray, List.set_cons_zero, List.set_cons_succ])
        refine wpAnyH_take (i := 1) (oi := { dst := some 35, op := Go.Op.move (Go.Operand.tmp 34), type := 4, pos := _, after := #[{ on := 0, ground := Go.Ground.data }, { on := 0, ground := Go.Ground.chain }], guard := none }) (v := ?vr2_2_1) rfl (by kernel_rfl) (by kernel_rfl) (by kernel_rfl) (fun _ _ _ h => h) (Or.inl ⟨by rfl, ?yr2_2_1⟩) hHeld ?_
        case yr2_2_1 => ((intro w hSw; (try dsimp only at hSw); go_simp) <;> with_reducible rfl)
        (try simp only [Act.put, List.setIfInBounds_toArray, List.set_cons_zero, List.set_cons_succ])
        refine wpAnyH_take (i := 2) (oi := { dst := some 36, op := Go.Op.load 24 (Go.Operand.tmp 9), type := 24, pos := _, after := #[{ on := 1, ground := Go.Ground.guard }], guard := some (1, true) }) (v := ?vr2_3_2) rfl (by kernel_rfl) (by kernel_rfl) (by kernel_rfl) (fun _ _ _ h => h) (Or.inl ⟨by rfl, ?yr2_3_2⟩) hHeld ?_
        case yr2_3_2 => ((intro w hSw; (try dsimp only at hSw); go_simp) <;> with_reducible rfl)
        (try simp only [Act.put, List.setIfInBounds_toArray, List.set_cons_zero, List.set_cons_succ])
        refine wpAnyH_take (i := 3) (oi := { dst := some 37, op := Go.Op.load 24 (Go.Operand.tmp 4), type := 24, pos := _, after := #[{ on := 1, ground := Go.Ground.guard }], guard := some (1, true) }) (v := ?vr2_4_3) rfl (by kernel_rfl) (by kernel_rfl) (by kernel_rfl) (fun _ _ _ h => h) (Or.inl ⟨by rfl, ?yr2_4_3⟩) hHeld ?_
        case yr2_4_3 => ((intro w hSw; (try dsimp only at hSw); go_simp) <;> with_reducible rfl)
        (try simp only [Act.put, List.setIfInBounds_toArray, List.set_cons_zero, List.set_cons_succ])
        refine wpAnyH_ready (rs := [4]) (by kernel_rfl) (by simp) ?_
        refine AllReadyH.cons (o := { dst := some 38, op := Go.Op.call { callee := Go.Callee.value (Go.Operand.func 32), args := #[Go.Operand.tmp 36, Go.Operand.tmp 37], argTypes := #[24, 24] }, type := 4, pos := _, after := #[{ on := 2, ground := Go.Ground.data }, { on := 3, ground := Go.Ground.data }, { on := 1, ground := Go.Ground.chain }, { on := 1, ground := Go.Ground.guard }], guard := some (1, true) }) rfl (fun K hK => ?_) AllReadyH.nil
        (go_simp; (refine (HOc _).mono ?_); (rintro e wn ⟨rfl, hb⟩); go_wp2_with fail)
        refine hK.out _ _ ?hSr2_5_4 (fun hHeld2 => ?_)
        case hSr2_5_4 => (first | exact ⟨c0, c1, c2, c3, c4, d0, d1, d2, d3, d4, f0, f1, f2, f3, f4, hb0.drew⟩ | exact ⟨c0, c1, c2, c3, c4, d0, d1, d2, d3, d4, f0, f1, f2, f3, f4, hb0⟩ | (obtain ⟨c0, c1, c2, c3, c4, d0, d1, d2, d3, d4, f0, f1, f2, f3, f4, hb0⟩ := hHeld; exact ⟨cell_later hb c0, cell_later hb c1, cell_later hb c2, cell_later hb c3, cell_later hb c4, cell_later hb d0, cell_later hb d1, cell_later hb d2, cell_later hb d3, cell_later hb d4, cell_later hb f0, cell_later hb f1, cell_later hb f2, cell_later hb f3, cell_later hb f4, below_step hb0 hb⟩))
        clear hK K hHeld
        have hHeld := hHeld2
        clear hHeld2
        (try simp only [Act.put, List.setIfInBounds_toArray, List.set_cons_zero, List.set_cons_succ])
        refine wpAnyH_take (i := 5) (oi := { dst := some 39, op := Go.Op.pick (Go.Operand.tmp 35) (Go.Operand.tmp 38) (Go.Operand.const (Go.Value.bool false)), type := 4, pos := _, after := #[{ on := 1, ground := Go.Ground.data }, { on := 4, ground := Go.Ground.data }], guard := none }) (v := ?vr2_6_5) rfl (by kernel_rfl) (by kernel_rfl) (by kernel_rfl) (fun _ _ _ h => h) (Or.inl ⟨by rfl, ?yr2_6_5⟩) hHeld ?_
        case yr2_6_5 => ((intro w hSw; (try dsimp only at hSw); go_simp) <;> with_reducible rfl)
        (try simp only [Act.put, List.setIfInBounds_toArray, List.set_cons_zero, List.set_cons_succ])
        refine wpAnyH_take (i := 6) (oi := { dst := some 40, op := Go.Op.move (Go.Operand.tmp 39), type := 4, pos := _, after := #[{ on := 5, ground := Go.Ground.data }, { on := 4, ground := Go.Ground.chain }], guard := none }) (v := ?vr2_7_6) rfl (by kernel_rfl) (by kernel_rfl) (by kernel_rfl) (fun _ _ _ h => h) (Or.inl ⟨by rfl, ?yr2_7_6⟩) hHeld ?_
        case yr2_7_6 => ((intro w hSw; (try dsimp only at hSw); go_simp) <;> with_reducible rfl)
        (try simp only [Act.put, List.setIfInBounds_toArray, List.set_cons_zero, List.set_cons_succ])
        refine wpAnyH_take (i := 7) (oi := { dst := some 41, op := Go.Op.load 24 (Go.Operand.tmp 9), type := 24, pos := _, after := #[{ on := 6, ground := Go.Ground.guard }], guard := some (6, true) }) (v := ?vr2_8_7) rfl (by kernel_rfl) (by kernel_rfl) (by kernel_rfl) (fun _ _ _ h => h) (Or.inl ⟨by rfl, ?yr2_8_7⟩) hHeld ?_
        case yr2_8_7 => ((intro w hSw; (try dsimp only at hSw); go_simp) <;> with_reducible rfl)
        (try simp only [Act.put, List.setIfInBounds_toArray, List.set_cons_zero, List.set_cons_succ])
        refine wpAnyH_take (i := 8) (oi := { dst := some 42, op := Go.Op.move (Go.Operand.tmp 3), type := 3, pos := _, after := #[{ on := 6, ground := Go.Ground.guard }], guard := some (6, true) }) (v := ?vr2_9_8) rfl (by kernel_rfl) (by kernel_rfl) (by kernel_rfl) (fun _ _ _ h => h) (Or.inl ⟨by rfl, ?yr2_9_8⟩) hHeld ?_
        case yr2_9_8 => ((intro w hSw; (try dsimp only at hSw); go_simp) <;> with_reducible rfl)
        (try simp only [Act.put, List.setIfInBounds_toArray, List.set_cons_zero, List.set_cons_succ])
        refine wpAnyH_take (i := 10) (oi := { dst := some 44, op := Go.Op.load 24 (Go.Operand.tmp 4), type := 24, pos := _, after := #[{ on := 6, ground := Go.Ground.guard }], guard := some (6, true) }) (v := ?vr2_10_10) rfl (by kernel_rfl) (by kernel_rfl) (by kernel_rfl) (fun _ _ _ h => h) (Or.inl ⟨by rfl, ?yr2_10_10⟩) hHeld ?_
        case yr2_10_10 => ((intro w hSw; (try dsimp only at hSw); go_simp) <;> with_reducible rfl)
        (try simp only [Act.put, List.setIfInBounds_toArray, List.set_cons_zero, List.set_cons_succ])
        refine wpAnyH_take (i := 11) (oi := { dst := some 45, op := Go.Op.move (Go.Operand.tmp 10), type := 3, pos := _, after := #[{ on := 6, ground := Go.Ground.guard }], guard := some (6, true) }) (v := ?vr2_11_11) rfl (by kernel_rfl) (by kernel_rfl) (by kernel_rfl) (fun _ _ _ h => h) (Or.inl ⟨by rfl, ?yr2_11_11⟩) hHeld ?_
        case yr2_11_11 => ((intro w hSw; (try dsimp only at hSw); go_simp) <;> with_reducible rfl)
        (try simp only [Act.put, List.setIfInBounds_toArray, List.set_cons_zero, List.set_cons_succ])
        refine wpAnyH_ready (rs := [9]) (by kernel_rfl) (by simp) ?_
        refine AllReadyH.cons (o := { dst := some 43, op := Go.Op.call { callee := Go.Callee.value (Go.Operand.func 30), args := #[Go.Operand.tmp 41, Go.Operand.tmp 42], argTypes := #[24, 3] }, type := 24, pos := _, after := #[{ on := 7, ground := Go.Ground.data }, { on := 8, ground := Go.Ground.data }, { on := 6, ground := Go.Ground.chain }, { on := 6, ground := Go.Ground.guard }], guard := some (6, true) }) rfl (fun K hK => ?_) AllReadyH.nil
        (go_simp; (refine (HCC _).mono ?_); (rintro e wn ⟨rfl, hb⟩); go_wp2_with fail)
        refine hK.out _ _ ?hSr2_12_9 (fun hHeld2 => ?_)
        case hSr2_12_9 => (first | exact ⟨c0, c1, c2, c3, c4, d0, d1, d2, d3, d4, f0, f1, f2, f3, f4, hb0.drew⟩ | exact ⟨c0, c1, c2, c3, c4, d0, d1, d2, d3, d4, f0, f1, f2, f3, f4, hb0⟩ | (obtain ⟨c0, c1, c2, c3, c4, d0, d1, d2, d3, d4, f0, f1, f2, f3, f4, hb0⟩ := hHeld; exact ⟨cell_later hb c0, cell_later hb c1, cell_later hb c2, cell_later hb c3, cell_later hb c4, cell_later hb d0, cell_later hb d1, cell_later hb d2, cell_later hb d3, cell_later hb d4, cell_later hb f0, cell_later hb f1, cell_later hb f2, cell_later hb f3, cell_later hb f4, below_step hb0 hb⟩))
        clear hK K hHeld
        have hHeld := hHeld2
        clear hHeld2
        (try simp only [Act.put, List.setIfInBounds_toArray, List.set_cons_zero, List.set_cons_succ])
        refine wpAnyH_ready (rs := [12]) (by kernel_rfl) (by simp) ?_
        refine AllReadyH.cons (o := { dst := some 46, op := Go.Op.call { callee := Go.Callee.value (Go.Operand.func 30), args := #[Go.Operand.tmp 44, Go.Operand.tmp 45], argTypes := #[24, 3] }, type := 24, pos := _, after := #[{ on := 10, ground := Go.Ground.data }, { on := 11, ground := Go.Ground.data }, { on := 9, ground := Go.Ground.chain }, { on := 6, ground := Go.Ground.guard }], guard := some (6, true) }) rfl (fun K hK => ?_) AllReadyH.nil
        (go_simp; (refine (HCL _).mono ?_); (rintro e wn ⟨rfl, hb⟩); go_wp2_with fail)
        refine hK.out _ _ ?hSr2_13_12 (fun hHeld2 => ?_)
        case hSr2_13_12 => (first | exact ⟨c0, c1, c2, c3, c4, d0, d1, d2, d3, d4, f0, f1, f2, f3, f4, hb0.drew⟩ | exact ⟨c0, c1, c2, c3, c4, d0, d1, d2, d3, d4, f0, f1, f2, f3, f4, hb0⟩ | (obtain ⟨c0, c1, c2, c3, c4, d0, d1, d2, d3, d4, f0, f1, f2, f3, f4, hb0⟩ := hHeld; exact ⟨cell_later hb c0, cell_later hb c1, cell_later hb c2, cell_later hb c3, cell_later hb c4, cell_later hb d0, cell_later hb d1, cell_later hb d2, cell_later hb d3, cell_later hb d4, cell_later hb f0, cell_later hb f1, cell_later hb f2, cell_later hb f3, cell_later hb f4, below_step hb0 hb⟩))
        clear hK K hHeld
        have hHeld := hHeld2
        clear hHeld2
        (try simp only [Act.put, List.setIfInBounds_toArray, List.set_cons_zero, List.set_cons_succ])
        refine wpAnyH_take (i := 13) (oi := { dst := some 47, op := Go.Op.binOp Go.BinOp.eql 24 (Go.Operand.tmp 43) (Go.Operand.tmp 46) 24, type := 4, pos := _, after := #[{ on := 9, ground := Go.Ground.data }, { on := 12, ground := Go.Ground.data }, { on := 6, ground := Go.Ground.guard }], guard := some (6, true) }) (v := ?vr2_14_13) rfl (by kernel_rfl) (by kernel_rfl) (by kernel_rfl) (fun _ _ _ h => h) (Or.inl ⟨by rfl, ?yr2_14_13⟩) hHeld ?_
        case yr2_14_13 => ((intro w hSw; (try dsimp only at hSw); go_simp) <;> with_reducible rfl)
        (try simp only [Act.put, List.setIfInBounds_toArray, List.set_cons_zero, List.set_cons_succ])
        refine wpAnyH_take (i := 14) (oi := { dst := some 48, op := Go.Op.pick (Go.Operand.tmp 40) (Go.Operand.tmp 47) (Go.Operand.const (Go.Value.bool false)), type := 4, pos := _, after := #[{ on := 6, ground := Go.Ground.data }, { on := 13, ground := Go.Ground.data }], guard := none }) (v := ?vr2_15_14) rfl (by kernel_rfl) (by kernel_rfl) (by kernel_rfl) (fun _ _ _ h => h) (Or.inl ⟨by rfl, ?yr2_15_14⟩) hHeld ?_
        case yr2_15_14 => ((intro w hSw; (try dsimp only at hSw); go_simp) <;> with_reducible rfl)
        (try simp only [Act.put, List.setIfInBounds_toArray, List.set_cons_zero, List.set_cons_succ])
        refine wpAnyH_take (i := 15) (oi := { dst := some 49, op := Go.Op.move (Go.Operand.tmp 48), type := 4, pos := _, after := #[{ on := 14, ground := Go.Ground.data }, { on := 12, ground := Go.Ground.chain }], guard := none }) (v := ?vr2_16_15) rfl (by kernel_rfl) (by kernel_rfl) (by kernel_rfl) (fun _ _ _ h => h) (Or.inl ⟨by rfl, ?yr2_16_15⟩) hHeld ?_
        case yr2_16_15 => ((intro w hSw; (try dsimp only at hSw); go_simp) <;> with_reducible rfl)
        (try simp only [Act.put, List.setIfInBounds_toArray, List.set_cons_zero, List.set_cons_succ])
        refine wpAnyH_take (i := 16) (oi := { dst := some 50, op := Go.Op.load 24 (Go.Operand.tmp 5), type := 24, pos := _, after := #[{ on := 15, ground := Go.Ground.guard }], guard := some (15, true) }) (v := ?vr2_17_16) rfl (by kernel_rfl) (by kernel_rfl) (by kernel_rfl) (fun _ _ _ h => h) (Or.inl ⟨by rfl, ?yr2_17_16⟩) hHeld ?_
        case yr2_17_16 => ((intro w hSw; (try dsimp only at hSw); go_simp) <;> with_reducible rfl)
        (try simp only [Act.put, List.setIfInBounds_toArray, List.set_cons_zero, List.set_cons_succ])
        refine wpAnyH_take (i := 17) (oi := { dst := some 51, op := Go.Op.load 24 (Go.Operand.tmp 4), type := 24, pos := _, after := #[{ on := 15, ground := Go.Ground.guard }], guard := some (15, true) }) (v := ?vr2_18_17) rfl (by kernel_rfl) (by kernel_rfl) (by kernel_rfl) (fun _ _ _ h => h) (Or.inl ⟨by rfl, ?yr2_18_17⟩) hHeld ?_
        case yr2_18_17 => ((intro w hSw; (try dsimp only at hSw); go_simp) <;> with_reducible rfl)
        (try simp only [Act.put, List.setIfInBounds_toArray, List.set_cons_zero, List.set_cons_succ])
        refine wpAnyH_take (i := 19) (oi := { dst := some 53, op := Go.Op.load 24 (Go.Operand.tmp 5), type := 24, pos := _, after := #[{ on := 15, ground := Go.Ground.guard }], guard := some (15, true) }) (v := ?vr2_19_19) rfl (by kernel_rfl) (by kernel_rfl) (by kernel_rfl) (fun _ _ _ h => h) (Or.inl ⟨by rfl, ?yr2_19_19⟩) hHeld ?_
        case yr2_19_19 => ((intro w hSw; (try dsimp only at hSw); go_simp) <;> with_reducible rfl)
        (try simp only [Act.put, List.setIfInBounds_toArray, List.set_cons_zero, List.set_cons_succ])
        refine wpAnyH_ready (rs := [18]) (by kernel_rfl) (by simp) ?_
        refine AllReadyH.cons (o := { dst := some 52, op := Go.Op.call { callee := Go.Callee.value (Go.Operand.func 32), args := #[Go.Operand.tmp 50, Go.Operand.tmp 51], argTypes := #[24, 24] }, type := 4, pos := _, after := #[{ on := 16, ground := Go.Ground.data }, { on := 17, ground := Go.Ground.data }, { on := 15, ground := Go.Ground.chain }, { on := 15, ground := Go.Ground.guard }], guard := some (15, true) }) rfl (fun K hK => ?_) AllReadyH.nil
        (go_simp; (refine (HO _).mono ?_); (rintro e wn ⟨rfl, hb⟩); go_wp2_with fail)
        refine hK.out _ _ ?hSr2_20_18 (fun hHeld2 => ?_)
        case hSr2_20_18 => (first | exact ⟨c0, c1, c2, c3, c4, d0, d1, d2, d3, d4, f0, f1, f2, f3, f4, hb0.drew⟩ | exact ⟨c0, c1, c2, c3, c4, d0, d1, d2, d3, d4, f0, f1, f2, f3, f4, hb0⟩ | (obtain ⟨c0, c1, c2, c3, c4, d0, d1, d2, d3, d4, f0, f1, f2, f3, f4, hb0⟩ := hHeld; exact ⟨cell_later hb c0, cell_later hb c1, cell_later hb c2, cell_later hb c3, cell_later hb c4, cell_later hb d0, cell_later hb d1, cell_later hb d2, cell_later hb d3, cell_later hb d4, cell_later hb f0, cell_later hb f1, cell_later hb f2, cell_later hb f3, cell_later hb f4, below_step hb0 hb⟩))
        clear hK K hHeld
        have hHeld := hHeld2
        clear hHeld2
        (try simp only [Act.put, List.setIfInBounds_toArray, List.set_cons_zero, List.set_cons_succ])
        refine wpAnyH_ready (rs := [20]) (by kernel_rfl) (by simp) ?_
        refine AllReadyH.cons (o := { dst := some 54, op := Go.Op.call { callee := Go.Callee.value (Go.Operand.func 19), args := #[Go.Operand.tmp 53], argTypes := #[24] }, type := 4, pos := _, after := #[{ on := 19, ground := Go.Ground.data }, { on := 18, ground := Go.Ground.chain }, { on := 15, ground := Go.Ground.guard }], guard := some (15, true) }) rfl (fun K hK => ?_) AllReadyH.nil
        (go_simp; (refine (HA _).mono ?_); (rintro e wn ⟨rfl, hb⟩); go_wp2_with fail)
        refine hK.out _ _ ?hSr2_21_20 (fun hHeld2 => ?_)
        case hSr2_21_20 => (first | exact ⟨c0, c1, c2, c3, c4, d0, d1, d2, d3, d4, f0, f1, f2, f3, f4, hb0.drew⟩ | exact ⟨c0, c1, c2, c3, c4, d0, d1, d2, d3, d4, f0, f1, f2, f3, f4, hb0⟩ | (obtain ⟨c0, c1, c2, c3, c4, d0, d1, d2, d3, d4, f0, f1, f2, f3, f4, hb0⟩ := hHeld; exact ⟨cell_later hb c0, cell_later hb c1, cell_later hb c2, cell_later hb c3, cell_later hb c4, cell_later hb d0, cell_later hb d1, cell_later hb d2, cell_later hb d3, cell_later hb d4, cell_later hb f0, cell_later hb f1, cell_later hb f2, cell_later hb f3, cell_later hb f4, below_step hb0 hb⟩))
        clear hK K hHeld
        have hHeld := hHeld2
        clear hHeld2
        (try simp only [Act.put, List.setIfInBounds_toArray, List.set_cons_zero, List.set_cons_succ])
        refine wpAnyH_take (i := 21) (oi := { dst := some 55, op := Go.Op.move (Go.Operand.tmp 54), type := 4, pos := _, after := #[{ on := 20, ground := Go.Ground.data }, { on := 20, ground := Go.Ground.chain }, { on := 15, ground := Go.Ground.guard }], guard := some (15, true) }) (v := ?vr2_22_21) rfl (by kernel_rfl) (by kernel_rfl) (by kernel_rfl) (fun _ _ _ h => h) (Or.inl ⟨by rfl, ?yr2_22_21⟩) hHeld ?_
        case yr2_22_21 => ((intro w hSw; (try dsimp only at hSw); go_simp) <;> with_reducible rfl)
        (try simp only [Act.put, List.setIfInBounds_toArray, List.set_cons_zero, List.set_cons_succ])
        refine wpAnyH_take (i := 22) (oi := { dst := some 56, op := Go.Op.load 24 (Go.Operand.tmp 4), type := 24, pos := _, after := #[{ on := 21, ground := Go.Ground.guard }], guard := some (21, true) }) (v := ?vr2_23_22) rfl (by kernel_rfl) (by kernel_rfl) (by kernel_rfl) (fun _ _ _ h => h) (Or.inl ⟨by rfl, ?yr2_23_22⟩) hHeld ?_
        case yr2_23_22 => ((intro w hSw; (try dsimp only at hSw); go_simp) <;> with_reducible rfl)
        (try simp only [Act.put, List.setIfInBounds_toArray, List.set_cons_zero, List.set_cons_succ])
        refine wpAnyH_take (i := 23) (oi := { dst := some 57, op := Go.Op.fieldAddr 24 (Go.Operand.tmp 5) 1, type := 0, pos := _, after := #[{ on := 21, ground := Go.Ground.guard }], guard := some (21, true) }) (v := ?vr2_24_23) rfl (by kernel_rfl) (by kernel_rfl) (by kernel_rfl) (fun _ _ _ h => h) (Or.inl ⟨by rfl, ?yr2_24_23⟩) hHeld ?_
        case yr2_24_23 => ((intro w hSw; (try dsimp only at hSw); go_simp) <;> with_reducible rfl)
        (try simp only [Act.put, List.setIfInBounds_toArray, List.set_cons_zero, List.set_cons_succ])
        refine wpAnyH_take (i := 24) (oi := { dst := some 58, op := Go.Op.load 3 (Go.Operand.tmp 57), type := 3, pos := _, after := #[{ on := 23, ground := Go.Ground.data }, { on := 21, ground := Go.Ground.guard }], guard := some (21, true) }) (v := ?vr2_25_24) rfl (by kernel_rfl) (by kernel_rfl) (by kernel_rfl) (fun _ _ _ h => h) (Or.inl ⟨by rfl, ?yr2_25_24⟩) hHeld ?_
        case yr2_25_24 => ((intro w hSw; (try dsimp only at hSw); go_simp) <;> with_reducible rfl)
        (try simp only [Act.put, List.setIfInBounds_toArray, List.set_cons_zero, List.set_cons_succ])
        refine wpAnyH_take (i := 26) (oi := { dst := some 60, op := Go.Op.load 24 (Go.Operand.tmp 5), type := 24, pos := _, after := #[{ on := 21, ground := Go.Ground.guard }], guard := some (21, true) }) (v := ?vr2_26_26) rfl (by kernel_rfl) (by kernel_rfl) (by kernel_rfl) (fun _ _ _ h => h) (Or.inl ⟨by rfl, ?yr2_26_26⟩) hHeld ?_
        case yr2_26_26 => ((intro w hSw; (try dsimp only at hSw); go_simp) <;> with_reducible rfl)
        (try simp only [Act.put, List.setIfInBounds_toArray, List.set_cons_zero, List.set_cons_succ])
        refine wpAnyH_ready (rs := [25]) (by kernel_rfl) (by simp) ?_
        refine AllReadyH.cons (o := { dst := some 59, op := Go.Op.call { callee := Go.Callee.value (Go.Operand.func 30), args := #[Go.Operand.tmp 56, Go.Operand.tmp 58], argTypes := #[24, 3] }, type := 24, pos := _, after := #[{ on := 22, ground := Go.Ground.data }, { on := 24, ground := Go.Ground.data }, { on := 21, ground := Go.Ground.chain }, { on := 21, ground := Go.Ground.guard }], guard := some (21, true) }) rfl (fun K hK => ?_) AllReadyH.nil
        (go_simp; (refine (HCA _).mono ?_); (rintro e wn ⟨rfl, hb⟩); go_wp2_with fail)
        refine hK.out _ _ ?hSr2_27_25 (fun hHeld2 => ?_)
        case hSr2_27_25 => (first | exact ⟨c0, c1, c2, c3, c4, d0, d1, d2, d3, d4, f0, f1, f2, f3, f4, hb0.drew⟩ | exact ⟨c0, c1, c2, c3, c4, d0, d1, d2, d3, d4, f0, f1, f2, f3, f4, hb0⟩ | (obtain ⟨c0, c1, c2, c3, c4, d0, d1, d2, d3, d4, f0, f1, f2, f3, f4, hb0⟩ := hHeld; exact ⟨cell_later hb c0, cell_later hb c1, cell_later hb c2, cell_later hb c3, cell_later hb c4, cell_later hb d0, cell_later hb d1, cell_later hb d2, cell_later hb d3, cell_later hb d4, cell_later hb f0, cell_later hb f1, cell_later hb f2, cell_later hb f3, cell_later hb f4, below_step hb0 hb⟩))
        clear hK K hHeld
        have hHeld := hHeld2
        clear hHeld2
        (try simp only [Act.put, List.setIfInBounds_toArray, List.set_cons_zero, List.set_cons_succ])
        refine wpAnyH_take (i := 27) (oi := { dst := some 61, op := Go.Op.binOp Go.BinOp.eql 24 (Go.Operand.tmp 59) (Go.Operand.tmp 60) 24, type := 4, pos := _, after := #[{ on := 25, ground := Go.Ground.data }, { on := 26, ground := Go.Ground.data }, { on := 21, ground := Go.Ground.guard }], guard := some (21, true) }) (v := ?vr2_28_27) rfl (by kernel_rfl) (by kernel_rfl) (by kernel_rfl) (fun _ _ _ h => h) (Or.inl ⟨by rfl, ?yr2_28_27⟩) hHeld ?_
        case yr2_28_27 => ((intro w hSw; (try dsimp only at hSw); go_simp) <;> with_reducible rfl)
        (try simp only [Act.put, List.setIfInBounds_toArray, List.set_cons_zero, List.set_cons_succ])
        refine wpAnyH_take (i := 28) (oi := { dst := some 62, op := Go.Op.pick (Go.Operand.tmp 55) (Go.Operand.tmp 61) (Go.Operand.const (Go.Value.bool false)), type := 4, pos := _, after := #[{ on := 21, ground := Go.Ground.data }, { on := 27, ground := Go.Ground.data }, { on := 15, ground := Go.Ground.guard }], guard := some (15, true) }) (v := ?vr2_29_28) rfl (by kernel_rfl) (by kernel_rfl) (by kernel_rfl) (fun _ _ _ h => h) (Or.inl ⟨by rfl, ?yr2_29_28⟩) hHeld ?_
        case yr2_29_28 => ((intro w hSw; (try dsimp only at hSw); go_simp) <;> with_reducible rfl)
        (try simp only [Act.put, List.setIfInBounds_toArray, List.set_cons_zero, List.set_cons_succ])
        refine wpAnyH_take (i := 29) (oi := { dst := some 63, op := Go.Op.binOp Go.BinOp.eql 4 (Go.Operand.tmp 52) (Go.Operand.tmp 62) 4, type := 4, pos := _, after := #[{ on := 18, ground := Go.Ground.data }, { on := 28, ground := Go.Ground.data }, { on := 15, ground := Go.Ground.guard }], guard := some (15, true) }) (v := ?vr2_30_29) rfl (by kernel_rfl) (by kernel_rfl) (by kernel_rfl) (fun _ _ _ h => h) (Or.inl ⟨by rfl, ?yr2_30_29⟩) hHeld ?_
        case yr2_30_29 => ((intro w hSw; (try dsimp only at hSw); go_simp) <;> with_reducible rfl)
        (try simp only [Act.put, List.setIfInBounds_toArray, List.set_cons_zero, List.set_cons_succ])
        refine wpAnyH_take (i := 30) (oi := { dst := some 64, op := Go.Op.pick (Go.Operand.tmp 49) (Go.Operand.tmp 63) (Go.Operand.const (Go.Value.bool false)), type := 4, pos := _, after := #[{ on := 15, ground := Go.Ground.data }, { on := 29, ground := Go.Ground.data }], guard := none }) (v := ?vr2_31_30) rfl (by kernel_rfl) (by kernel_rfl) (by kernel_rfl) (fun _ _ _ h => h) (Or.inl ⟨by rfl, ?yr2_31_30⟩) hHeld ?_
        case yr2_31_30 => ((intro w hSw; (try dsimp only at hSw); go_simp) <;> with_reducible rfl)
        (try simp only [Act.put, List.setIfInBounds_toArray, List.set_cons_zero, List.set_cons_succ])
        refine wpAnyH_take (i := 31) (oi := { dst := some 8, op := Go.Op.assign (Go.Operand.tmp 64), type := 4, pos := _, after := #[{ on := 30, ground := Go.Ground.data }, { on := 25, ground := Go.Ground.chain }, { on := 0, ground := Go.Ground.phase }, { on := 1, ground := Go.Ground.phase }, { on := 2, ground := Go.Ground.phase }, { on := 3, ground := Go.Ground.phase }, { on := 4, ground := Go.Ground.phase }, { on := 5, ground := Go.Ground.phase }, { on := 6, ground := Go.Ground.phase }, { on := 7, ground := Go.Ground.phase }, { on := 8, ground := Go.Ground.phase }, { on := 9, ground := Go.Ground.phase }, { on := 10, ground := Go.Ground.phase }, { on := 11, ground := Go.Ground.phase }, { on := 12, ground := Go.Ground.phase }, { on := 13, ground := Go.Ground.phase }, { on := 14, ground := Go.Ground.phase }, { on := 15, ground := Go.Ground.phase }, { on := 16, ground := Go.Ground.phase }, { on := 17, ground := Go.Ground.phase }, { on := 18, ground := Go.Ground.phase }, { on := 19, ground := Go.Ground.phase }, { on := 20, ground := Go.Ground.phase }, { on := 21, ground := Go.Ground.phase }, { on := 22, ground := Go.Ground.phase }, { on := 23, ground := Go.Ground.phase }, { on := 24, ground := Go.Ground.phase }, { on := 25, ground := Go.Ground.phase }, { on := 26, ground := Go.Ground.phase }, { on := 27, ground := Go.Ground.phase }, { on := 28, ground := Go.Ground.phase }, { on := 29, ground := Go.Ground.phase }, { on := 30, ground := Go.Ground.phase }], guard := none }) (v := ?vr2_32_31) rfl (by kernel_rfl) (by kernel_rfl) (by kernel_rfl) (fun _ _ _ h => h) (Or.inl ⟨by rfl, ?yr2_32_31⟩) hHeld ?_
        case yr2_32_31 => ((intro w hSw; (try dsimp only at hSw); go_simp) <;> with_reducible rfl)
        (try simp only [Act.put, List.setIfInBounds_toArray, List.set_cons_zero, List.set_cons_succ])
        refine wpAnyH_done (by kernel_rfl) ?_ _
        clear c0 c1 c2 c3 c4 d0 d1 d2 d3 d4 f0 f1 f2 f3 f4 hb0
        obtain ⟨c0, c1, c2, c3, c4, d0, d1, d2, d3, d4, f0, f1, f2, f3, f4, hb0⟩ := hHeld
        go_wp2
        go_ret
        exact ⟨rfl, hb0⟩
    · have e0 : min n m = n := by omega
      rw [e0] at HCL
      clear e0
      replace hm : n ≤ m := by omega
      cases ra
      case false =>
        rw [Bool.false_and] at HO
        go_enter Try.func8, Try.ntmps8
        go_wp2_with fail
        refine (HC _).mono ?_
        rintro e w5 ⟨rfl, hb⟩
        replace c0 := cell_later hb c0
        replace c1 := cell_later hb c1
        replace c2 := cell_later hb c2
        replace c3 := cell_later hb c3
        replace c4 := cell_later hb c4
        replace d0 := cell_later hb d0
        replace d1 := cell_later hb d1
        replace d2 := cell_later hb d2
        replace d3 := cell_later hb d3
        replace d4 := cell_later hb d4
        replace hb0 := below_step hb0 hb
        clear hb
        have lc := World.block_lt_of_cell? _ _ c0
        dsimp only at lc
        have ld := World.block_lt_of_cell? _ _ d0
        dsimp only at ld
        go_wp2_with fail
        refine (HR _).mono ?_
        rintro e w6 ⟨rfl, hb⟩
        replace c0 := cell_later hb (cell_later ((Below.refl _ _).alloc (Nat.le_refl _) _) c0)
        replace c1 := cell_later hb (cell_later ((Below.refl _ _).alloc (Nat.le_refl _) _) c1)
        replace c2 := cell_later hb (cell_later ((Below.refl _ _).alloc (Nat.le_refl _) _) c2)
        replace c3 := cell_later hb (cell_later ((Below.refl _ _).alloc (Nat.le_refl _) _) c3)
        replace c4 := cell_later hb (cell_later ((Below.refl _ _).alloc (Nat.le_refl _) _) c4)
        replace d0 := cell_later hb (cell_later ((Below.refl _ _).alloc (Nat.le_refl _) _) d0)
        replace d1 := cell_later hb (cell_later ((Below.refl _ _).alloc (Nat.le_refl _) _) d1)
        replace d2 := cell_later hb (cell_later ((Below.refl _ _).alloc (Nat.le_refl _) _) d2)
        replace d3 := cell_later hb (cell_later ((Below.refl _ _).alloc (Nat.le_refl _) _) d3)
        replace d4 := cell_later hb (cell_later ((Below.refl _ _).alloc (Nat.le_refl _) _) d4)
        have f0 := ((Row.later (Row.new _ _ _) hb).cell 0).trans (show _ = some (Value.int .i64 c.kind) from rfl)
        have f1 := ((Row.later (Row.new _ _ _) hb).cell 1).trans (show _ = some (Value.int .i64 c.len) from rfl)
        have f2 := ((Row.later (Row.new _ _ _) hb).cell 2).trans (show _ = some (Value.int .u64 c.h) from rfl)
        have f3 := ((Row.later (Row.new _ _ _) hb).cell 3).trans (show _ = some (Value.int .u64 c.l) from rfl)
        have f4 := ((Row.later (Row.new _ _ _) hb).cell 4).trans (show _ = some (Value.string ⟨c.path.toArray⟩) from rfl)
        replace hb0 := below_step (hb0.alloc hb0.size _) hb
        clear hb
        generalize w5.heap.size = gf at *
        have lc := World.block_lt_of_cell? _ _ c0
        dsimp only at lc
        have ld := World.block_lt_of_cell? _ _ d0
        dsimp only at ld
        have lf := World.block_lt_of_cell? _ _ f0
        dsimp only at lf
        go_wp2_with fail
        refine wp_region_held_drew (S := (fun w' => w'.cell? ⟨w.heap.size, 0, none⟩ = some (.int .i64 k.kind) ∧ w'.cell? ⟨w.heap.size, 1, none⟩ = some (.int .i64 k.len) ∧ w'.cell? ⟨w.heap.size, 2, none⟩ = some (.int .u64 k.h) ∧ w'.cell? ⟨w.heap.size, 3, none⟩ = some (.int .u64 k.l) ∧ w'.cell? ⟨w.heap.size, 4, none⟩ = some (.string ⟨k.path.toArray⟩) ∧ w'.cell? ⟨w.heap.size + 1, 0, none⟩ = some (.int .i64 a.kind) ∧ w'.cell? ⟨w.heap.size + 1, 1, none⟩ = some (.int .i64 a.len) ∧ w'.cell? ⟨w.heap.size + 1, 2, none⟩ = some (.int .u64 a.h) ∧ w'.cell? ⟨w.heap.size + 1, 3, none⟩ = some (.int .u64 a.l) ∧ w'.cell? ⟨w.heap.size + 1, 4, none⟩ = some (.string ⟨a.path.toArray⟩) ∧ w'.cell? ⟨gf, 0, none⟩ = some (Value.int .i64 c.kind) ∧ w'.cell? ⟨gf, 1, none⟩ = some (Value.int .i64 c.len) ∧ w'.cell? ⟨gf, 2, none⟩ = some (Value.int .u64 c.h) ∧ w'.cell? ⟨gf, 3, none⟩ = some (Value.int .u64 c.l) ∧ w'.cell? ⟨gf, 4, none⟩ = some (Value.string ⟨c.path.toArray⟩) ∧ Below w.heap.size w w')) (by kernel_rfl) ?hSr3_ (fun hHeld => ?_)
        case hSr3_ => (first | exact ⟨c0, c1, c2, c3, c4, d0, d1, d2, d3, d4, f0, f1, f2, f3, f4, hb0.drew⟩ | exact ⟨c0, c1, c2, c3, c4, d0, d1, d2, d3, d4, f0, f1, f2, f3, f4, hb0⟩ | (obtain ⟨c0, c1, c2, c3, c4, d0, d1, d2, d3, d4, f0, f1, f2, f3, f4, hb0⟩ := hHeld; exact ⟨cell_later hb c0, cell_later hb c1, cell_later hb c2, cell_later hb c3, cell_later hb c4, cell_later hb d0, cell_later hb d1, cell_later hb d2, cell_later hb d3, cell_later hb d4, cell_later hb f0, cell_later hb f1, cell_later hb f2, cell_later hb f3, cell_later hb f4, below_step hb0 hb⟩))
        refine wpAnyH_ready (rs := [0]) (by kernel_rfl) (by simp) ?_
        refine AllReadyH.cons (o := { dst := some 34, op := Go.Op.call { callee := Go.Callee.value (Go.Operand.func 18), args := #[], argTypes := #[] }, type := 4, pos := _, after := #[], guard := none }) rfl (fun K hK => ?_) AllReadyH.nil
        (go_simp; (refine (alive7_t _).mono ?_); (rintro e wn ⟨rfl, hb⟩); go_wp2_with fail)
        refine hK.out _ _ ?hSr3_1_0 (fun hHeld2 => ?_)
        case hSr3_1_0 => (first | exact ⟨c0, c1, c2, c3, c4, d0, d1, d2, d3, d4, f0, f1, f2, f3, f4, hb0.drew⟩ | exact ⟨c0, c1, c2, c3, c4, d0, d1, d2, d3, d4, f0, f1, f2, f3, f4, hb0⟩ | (obtain ⟨c0, c1, c2, c3, c4, d0, d1, d2, d3, d4, f0, f1, f2, f3, f4, hb0⟩ := hHeld; exact ⟨cell_later hb c0, cell_later hb c1, cell_later hb c2, cell_later hb c3, cell_later hb c4, cell_later hb d0, cell_later hb d1, cell_later hb d2, cell_later hb d3, cell_later hb d4, cell_later hb f0, cell_later hb f1, cell_later hb f2, cell_later hb f3, cell_later hb f4, below_step hb0 hb⟩))
        clear hK K hHeld
        have hHeld := hHeld2
        clear hHeld2
        (try simp only [Act.put, List.setIfInBounds_toArray, List.set_cons_zero, List.set_cons_succ])
        refine wpAnyH_take (i := 1) (oi := { dst := some 35, op := Go.Op.move (Go.Operand.tmp 34), type := 4, pos := _, after := #[{ on := 0, ground := Go.Ground.data }, { on := 0, ground := Go.Ground.chain }], guard := none }) (v := ?vr3_2_1) rfl (by kernel_rfl) (by kernel_rfl) (by kernel_rfl) (fun _ _ _ h => h) (Or.inl ⟨by rfl, ?yr3_2_1⟩) hHeld ?_
        case yr3_2_1 => ((intro w hSw; (try dsimp only at hSw); go_simp) <;> with_reducible rfl)
        (try simp only [Act.put, List.setIfInBounds_toArray, List.set_cons_zero, List.set_cons_succ])
        refine wpAnyH_take (i := 2) (oi := { dst := some 36, op := Go.Op.load 24 (Go.Operand.tmp 9), type := 24, pos := _, after := #[{ on := 1, ground := Go.Ground.guard }], guard := some (1, true) }) (v := ?vr3_3_2) rfl (by kernel_rfl) (by kernel_rfl) (by kernel_rfl) (fun _ _ _ h => h) (Or.inl ⟨by rfl, ?yr3_3_2⟩) hHeld ?_
        case yr3_3_2 => ((intro w hSw; (try dsimp only at hSw); go_simp) <;> with_reducible rfl)
        (try simp only [Act.put, List.setIfInBounds_toArray, List.set_cons_zero, List.set_cons_succ])
        refine wpAnyH_take (i := 3) (oi := { dst := some 37, op := Go.Op.load 24 (Go.Operand.tmp 4), type := 24, pos := _, after := #[{ on := 1, ground := Go.Ground.guard }], guard := some (1, true) }) (v := ?vr3_4_3) rfl (by kernel_rfl) (by kernel_rfl) (by kernel_rfl) (fun _ _ _ h => h) (Or.inl ⟨by rfl, ?yr3_4_3⟩) hHeld ?_
        case yr3_4_3 => ((intro w hSw; (try dsimp only at hSw); go_simp) <;> with_reducible rfl)
        (try simp only [Act.put, List.setIfInBounds_toArray, List.set_cons_zero, List.set_cons_succ])
        refine wpAnyH_ready (rs := [4]) (by kernel_rfl) (by simp) ?_
        refine AllReadyH.cons (o := { dst := some 38, op := Go.Op.call { callee := Go.Callee.value (Go.Operand.func 32), args := #[Go.Operand.tmp 36, Go.Operand.tmp 37], argTypes := #[24, 24] }, type := 4, pos := _, after := #[{ on := 2, ground := Go.Ground.data }, { on := 3, ground := Go.Ground.data }, { on := 1, ground := Go.Ground.chain }, { on := 1, ground := Go.Ground.guard }], guard := some (1, true) }) rfl (fun K hK => ?_) AllReadyH.nil
        (go_simp; (refine (HOc _).mono ?_); (rintro e wn ⟨rfl, hb⟩); go_wp2_with fail)
        refine hK.out _ _ ?hSr3_5_4 (fun hHeld2 => ?_)
        case hSr3_5_4 => (first | exact ⟨c0, c1, c2, c3, c4, d0, d1, d2, d3, d4, f0, f1, f2, f3, f4, hb0.drew⟩ | exact ⟨c0, c1, c2, c3, c4, d0, d1, d2, d3, d4, f0, f1, f2, f3, f4, hb0⟩ | (obtain ⟨c0, c1, c2, c3, c4, d0, d1, d2, d3, d4, f0, f1, f2, f3, f4, hb0⟩ := hHeld; exact ⟨cell_later hb c0, cell_later hb c1, cell_later hb c2, cell_later hb c3, cell_later hb c4, cell_later hb d0, cell_later hb d1, cell_later hb d2, cell_later hb d3, cell_later hb d4, cell_later hb f0, cell_later hb f1, cell_later hb f2, cell_later hb f3, cell_later hb f4, below_step hb0 hb⟩))
        clear hK K hHeld
        have hHeld := hHeld2
        clear hHeld2
        (try simp only [Act.put, List.setIfInBounds_toArray, List.set_cons_zero, List.set_cons_succ])
        refine wpAnyH_take (i := 5) (oi := { dst := some 39, op := Go.Op.pick (Go.Operand.tmp 35) (Go.Operand.tmp 38) (Go.Operand.const (Go.Value.bool false)), type := 4, pos := _, after := #[{ on := 1, ground := Go.Ground.data }, { on := 4, ground := Go.Ground.data }], guard := none }) (v := ?vr3_6_5) rfl (by kernel_rfl) (by kernel_rfl) (by kernel_rfl) (fun _ _ _ h => h) (Or.inl ⟨by rfl, ?yr3_6_5⟩) hHeld ?_
        case yr3_6_5 => ((intro w hSw; (try dsimp only at hSw); go_simp) <;> with_reducible rfl)
        (try simp only [Act.put, List.setIfInBounds_toArray, List.set_cons_zero, List.set_cons_succ])
        refine wpAnyH_take (i := 6) (oi := { dst := some 40, op := Go.Op.move (Go.Operand.tmp 39), type := 4, pos := _, after := #[{ on := 5, ground := Go.Ground.data }, { on := 4, ground := Go.Ground.chain }], guard := none }) (v := ?vr3_7_6) rfl (by kernel_rfl) (by kernel_rfl) (by kernel_rfl) (fun _ _ _ h => h) (Or.inl ⟨by rfl, ?yr3_7_6⟩) hHeld ?_
        case yr3_7_6 => ((intro w hSw; (try dsimp only at hSw); go_simp) <;> with_reducible rfl)
        (try simp only [Act.put, List.setIfInBounds_toArray, List.set_cons_zero, List.set_cons_succ])
        refine wpAnyH_take (i := 7) (oi := { dst := some 41, op := Go.Op.load 24 (Go.Operand.tmp 9), type := 24, pos := _, after := #[{ on := 6, ground := Go.Ground.guard }], guard := some (6, true) }) (v := ?vr3_8_7) rfl (by kernel_rfl) (by kernel_rfl) (by kernel_rfl) (fun _ _ _ h => h) (Or.inl ⟨by rfl, ?yr3_8_7⟩) hHeld ?_
        case yr3_8_7 => ((intro w hSw; (try dsimp only at hSw); go_simp) <;> with_reducible rfl)
        (try simp only [Act.put, List.setIfInBounds_toArray, List.set_cons_zero, List.set_cons_succ])
        refine wpAnyH_take (i := 8) (oi := { dst := some 42, op := Go.Op.move (Go.Operand.tmp 3), type := 3, pos := _, after := #[{ on := 6, ground := Go.Ground.guard }], guard := some (6, true) }) (v := ?vr3_9_8) rfl (by kernel_rfl) (by kernel_rfl) (by kernel_rfl) (fun _ _ _ h => h) (Or.inl ⟨by rfl, ?yr3_9_8⟩) hHeld ?_
        case yr3_9_8 => ((intro w hSw; (try dsimp only at hSw); go_simp) <;> with_reducible rfl)
        (try simp only [Act.put, List.setIfInBounds_toArray, List.set_cons_zero, List.set_cons_succ])
        refine wpAnyH_take (i := 10) (oi := { dst := some 44, op := Go.Op.load 24 (Go.Operand.tmp 4), type := 24, pos := _, after := #[{ on := 6, ground := Go.Ground.guard }], guard := some (6, true) }) (v := ?vr3_10_10) rfl (by kernel_rfl) (by kernel_rfl) (by kernel_rfl) (fun _ _ _ h => h) (Or.inl ⟨by rfl, ?yr3_10_10⟩) hHeld ?_
        case yr3_10_10 => ((intro w hSw; (try dsimp only at hSw); go_simp) <;> with_reducible rfl)
        (try simp only [Act.put, List.setIfInBounds_toArray, List.set_cons_zero, List.set_cons_succ])
        refine wpAnyH_take (i := 11) (oi := { dst := some 45, op := Go.Op.move (Go.Operand.tmp 10), type := 3, pos := _, after := #[{ on := 6, ground := Go.Ground.guard }], guard := some (6, true) }) (v := ?vr3_11_11) rfl (by kernel_rfl) (by kernel_rfl) (by kernel_rfl) (fun _ _ _ h => h) (Or.inl ⟨by rfl, ?yr3_11_11⟩) hHeld ?_
        case yr3_11_11 => ((intro w hSw; (try dsimp only at hSw); go_simp) <;> with_reducible rfl)
        (try simp only [Act.put, List.setIfInBounds_toArray, List.set_cons_zero, List.set_cons_succ])
        refine wpAnyH_ready (rs := [9]) (by kernel_rfl) (by simp) ?_
        refine AllReadyH.cons (o := { dst := some 43, op := Go.Op.call { callee := Go.Callee.value (Go.Operand.func 30), args := #[Go.Operand.tmp 41, Go.Operand.tmp 42], argTypes := #[24, 3] }, type := 24, pos := _, after := #[{ on := 7, ground := Go.Ground.data }, { on := 8, ground := Go.Ground.data }, { on := 6, ground := Go.Ground.chain }, { on := 6, ground := Go.Ground.guard }], guard := some (6, true) }) rfl (fun K hK => ?_) AllReadyH.nil
        (go_simp; (refine (HCC _).mono ?_); (rintro e wn ⟨rfl, hb⟩); go_wp2_with fail)
        refine hK.out _ _ ?hSr3_12_9 (fun hHeld2 => ?_)
        case hSr3_12_9 => (first | exact ⟨c0, c1, c2, c3, c4, d0, d1, d2, d3, d4, f0, f1, f2, f3, f4, hb0.drew⟩ | exact ⟨c0, c1, c2, c3, c4, d0, d1, d2, d3, d4, f0, f1, f2, f3, f4, hb0⟩ | (obtain ⟨c0, c1, c2, c3, c4, d0, d1, d2, d3, d4, f0, f1, f2, f3, f4, hb0⟩ := hHeld; exact ⟨cell_later hb c0, cell_later hb c1, cell_later hb c2, cell_later hb c3, cell_later hb c4, cell_later hb d0, cell_later hb d1, cell_later hb d2, cell_later hb d3, cell_later hb d4, cell_later hb f0, cell_later hb f1, cell_later hb f2, cell_later hb f3, cell_later hb f4, below_step hb0 hb⟩))
        clear hK K hHeld
        have hHeld := hHeld2
        clear hHeld2
        (try simp only [Act.put, List.setIfInBounds_toArray, List.set_cons_zero, List.set_cons_succ])
        refine wpAnyH_ready (rs := [12]) (by kernel_rfl) (by simp) ?_
        refine AllReadyH.cons (o := { dst := some 46, op := Go.Op.call { callee := Go.Callee.value (Go.Operand.func 30), args := #[Go.Operand.tmp 44, Go.Operand.tmp 45], argTypes := #[24, 3] }, type := 24, pos := _, after := #[{ on := 10, ground := Go.Ground.data }, { on := 11, ground := Go.Ground.data }, { on := 9, ground := Go.Ground.chain }, { on := 6, ground := Go.Ground.guard }], guard := some (6, true) }) rfl (fun K hK => ?_) AllReadyH.nil
        (go_simp; (refine (HCL _).mono ?_); (rintro e wn ⟨rfl, hb⟩); go_wp2_with fail)
        refine hK.out _ _ ?hSr3_13_12 (fun hHeld2 => ?_)
        case hSr3_13_12 => (first | exact ⟨c0, c1, c2, c3, c4, d0, d1, d2, d3, d4, f0, f1, f2, f3, f4, hb0.drew⟩ | exact ⟨c0, c1, c2, c3, c4, d0, d1, d2, d3, d4, f0, f1, f2, f3, f4, hb0⟩ | (obtain ⟨c0, c1, c2, c3, c4, d0, d1, d2, d3, d4, f0, f1, f2, f3, f4, hb0⟩ := hHeld; exact ⟨cell_later hb c0, cell_later hb c1, cell_later hb c2, cell_later hb c3, cell_later hb c4, cell_later hb d0, cell_later hb d1, cell_later hb d2, cell_later hb d3, cell_later hb d4, cell_later hb f0, cell_later hb f1, cell_later hb f2, cell_later hb f3, cell_later hb f4, below_step hb0 hb⟩))
        clear hK K hHeld
        have hHeld := hHeld2
        clear hHeld2
        (try simp only [Act.put, List.setIfInBounds_toArray, List.set_cons_zero, List.set_cons_succ])
        refine wpAnyH_take (i := 13) (oi := { dst := some 47, op := Go.Op.binOp Go.BinOp.eql 24 (Go.Operand.tmp 43) (Go.Operand.tmp 46) 24, type := 4, pos := _, after := #[{ on := 9, ground := Go.Ground.data }, { on := 12, ground := Go.Ground.data }, { on := 6, ground := Go.Ground.guard }], guard := some (6, true) }) (v := ?vr3_14_13) rfl (by kernel_rfl) (by kernel_rfl) (by kernel_rfl) (fun _ _ _ h => h) (Or.inl ⟨by rfl, ?yr3_14_13⟩) hHeld ?_
        case yr3_14_13 => ((intro w hSw; (try dsimp only at hSw); go_simp) <;> with_reducible rfl)
        (try simp only [Act.put, List.setIfInBounds_toArray, List.set_cons_zero, List.set_cons_succ])
        refine wpAnyH_take (i := 14) (oi := { dst := some 48, op := Go.Op.pick (Go.Operand.tmp 40) (Go.Operand.tmp 47) (Go.Operand.const (Go.Value.bool false)), type := 4, pos := _, after := #[{ on := 6, ground := Go.Ground.data }, { on := 13, ground := Go.Ground.data }], guard := none }) (v := ?vr3_15_14) rfl (by kernel_rfl) (by kernel_rfl) (by kernel_rfl) (fun _ _ _ h => h) (Or.inl ⟨by rfl, ?yr3_15_14⟩) hHeld ?_
        case yr3_15_14 => ((intro w hSw; (try dsimp only at hSw); go_simp) <;> with_reducible rfl)
        (try simp only [Act.put, List.setIfInBounds_toArray, List.set_cons_zero, List.set_cons_succ])
        refine wpAnyH_take (i := 15) (oi := { dst := some 49, op := Go.Op.move (Go.Operand.tmp 48), type := 4, pos := _, after := #[{ on := 14, ground := Go.Ground.data }, { on := 12, ground := Go.Ground.chain }], guard := none }) (v := ?vr3_16_15) rfl (by kernel_rfl) (by kernel_rfl) (by kernel_rfl) (fun _ _ _ h => h) (Or.inl ⟨by rfl, ?yr3_16_15⟩) hHeld ?_
        case yr3_16_15 => ((intro w hSw; (try dsimp only at hSw); go_simp) <;> with_reducible rfl)
        (try simp only [Act.put, List.setIfInBounds_toArray, List.set_cons_zero, List.set_cons_succ])
        refine wpAnyH_take (i := 16) (oi := { dst := some 50, op := Go.Op.load 24 (Go.Operand.tmp 5), type := 24, pos := _, after := #[{ on := 15, ground := Go.Ground.guard }], guard := some (15, true) }) (v := ?vr3_17_16) rfl (by kernel_rfl) (by kernel_rfl) (by kernel_rfl) (fun _ _ _ h => h) (Or.inl ⟨by rfl, ?yr3_17_16⟩) hHeld ?_
        case yr3_17_16 => ((intro w hSw; (try dsimp only at hSw); go_simp) <;> with_reducible rfl)
        (try simp only [Act.put, List.setIfInBounds_toArray, List.set_cons_zero, List.set_cons_succ])
        refine wpAnyH_take (i := 17) (oi := { dst := some 51, op := Go.Op.load 24 (Go.Operand.tmp 4), type := 24, pos := _, after := #[{ on := 15, ground := Go.Ground.guard }], guard := some (15, true) }) (v := ?vr3_18_17) rfl (by kernel_rfl) (by kernel_rfl) (by kernel_rfl) (fun _ _ _ h => h) (Or.inl ⟨by rfl, ?yr3_18_17⟩) hHeld ?_
        case yr3_18_17 => ((intro w hSw; (try dsimp only at hSw); go_simp) <;> with_reducible rfl)
        (try simp only [Act.put, List.setIfInBounds_toArray, List.set_cons_zero, List.set_cons_succ])
        refine wpAnyH_take (i := 19) (oi := { dst := some 53, op := Go.Op.load 24 (Go.Operand.tmp 5), type := 24, pos := _, after := #[{ on := 15, ground := Go.Ground.guard }], guard := some (15, true) }) (v := ?vr3_19_19) rfl (by kernel_rfl) (by kernel_rfl) (by kernel_rfl) (fun _ _ _ h => h) (Or.inl ⟨by rfl, ?yr3_19_19⟩) hHeld ?_
        case yr3_19_19 => ((intro w hSw; (try dsimp only at hSw); go_simp) <;> with_reducible rfl)
        (try simp only [Act.put, List.setIfInBounds_toArray, List.set_cons_zero, List.set_cons_succ])
        refine wpAnyH_ready (rs := [18]) (by kernel_rfl) (by simp) ?_
        refine AllReadyH.cons (o := { dst := some 52, op := Go.Op.call { callee := Go.Callee.value (Go.Operand.func 32), args := #[Go.Operand.tmp 50, Go.Operand.tmp 51], argTypes := #[24, 24] }, type := 4, pos := _, after := #[{ on := 16, ground := Go.Ground.data }, { on := 17, ground := Go.Ground.data }, { on := 15, ground := Go.Ground.chain }, { on := 15, ground := Go.Ground.guard }], guard := some (15, true) }) rfl (fun K hK => ?_) AllReadyH.nil
        (go_simp; (refine (HO _).mono ?_); (rintro e wn ⟨rfl, hb⟩); go_wp2_with fail)
        refine hK.out _ _ ?hSr3_20_18 (fun hHeld2 => ?_)
        case hSr3_20_18 => (first | exact ⟨c0, c1, c2, c3, c4, d0, d1, d2, d3, d4, f0, f1, f2, f3, f4, hb0.drew⟩ | exact ⟨c0, c1, c2, c3, c4, d0, d1, d2, d3, d4, f0, f1, f2, f3, f4, hb0⟩ | (obtain ⟨c0, c1, c2, c3, c4, d0, d1, d2, d3, d4, f0, f1, f2, f3, f4, hb0⟩ := hHeld; exact ⟨cell_later hb c0, cell_later hb c1, cell_later hb c2, cell_later hb c3, cell_later hb c4, cell_later hb d0, cell_later hb d1, cell_later hb d2, cell_later hb d3, cell_later hb d4, cell_later hb f0, cell_later hb f1, cell_later hb f2, cell_later hb f3, cell_later hb f4, below_step hb0 hb⟩))
        clear hK K hHeld
        have hHeld := hHeld2
        clear hHeld2
        (try simp only [Act.put, List.setIfInBounds_toArray, List.set_cons_zero, List.set_cons_succ])
        refine wpAnyH_ready (rs := [20]) (by kernel_rfl) (by simp) ?_
        refine AllReadyH.cons (o := { dst := some 54, op := Go.Op.call { callee := Go.Callee.value (Go.Operand.func 19), args := #[Go.Operand.tmp 53], argTypes := #[24] }, type := 4, pos := _, after := #[{ on := 19, ground := Go.Ground.data }, { on := 18, ground := Go.Ground.chain }, { on := 15, ground := Go.Ground.guard }], guard := some (15, true) }) rfl (fun K hK => ?_) AllReadyH.nil
        (go_simp; (refine (HA _).mono ?_); (rintro e wn ⟨rfl, hb⟩); go_wp2_with fail)
        refine hK.out _ _ ?hSr3_21_20 (fun hHeld2 => ?_)
        case hSr3_21_20 => (first | exact ⟨c0, c1, c2, c3, c4, d0, d1, d2, d3, d4, f0, f1, f2, f3, f4, hb0.drew⟩ | exact ⟨c0, c1, c2, c3, c4, d0, d1, d2, d3, d4, f0, f1, f2, f3, f4, hb0⟩ | (obtain ⟨c0, c1, c2, c3, c4, d0, d1, d2, d3, d4, f0, f1, f2, f3, f4, hb0⟩ := hHeld; exact ⟨cell_later hb c0, cell_later hb c1, cell_later hb c2, cell_later hb c3, cell_later hb c4, cell_later hb d0, cell_later hb d1, cell_later hb d2, cell_later hb d3, cell_later hb d4, cell_later hb f0, cell_later hb f1, cell_later hb f2, cell_later hb f3, cell_later hb f4, below_step hb0 hb⟩))
        clear hK K hHeld
        have hHeld := hHeld2
        clear hHeld2
        (try simp only [Act.put, List.setIfInBounds_toArray, List.set_cons_zero, List.set_cons_succ])
        refine wpAnyH_take (i := 21) (oi := { dst := some 55, op := Go.Op.move (Go.Operand.tmp 54), type := 4, pos := _, after := #[{ on := 20, ground := Go.Ground.data }, { on := 20, ground := Go.Ground.chain }, { on := 15, ground := Go.Ground.guard }], guard := some (15, true) }) (v := ?vr3_22_21) rfl (by kernel_rfl) (by kernel_rfl) (by kernel_rfl) (fun _ _ _ h => h) (Or.inl ⟨by rfl, ?yr3_22_21⟩) hHeld ?_
        case yr3_22_21 => ((intro w hSw; (try dsimp only at hSw); go_simp) <;> with_reducible rfl)
        (try simp only [Act.put, List.setIfInBounds_toArray, List.set_cons_zero, List.set_cons_succ])
        refine wpAnyH_take (i := 22) (oi := { dst := some 56, op := Go.Op.load 24 (Go.Operand.tmp 4), type := 24, pos := _, after := #[{ on := 21, ground := Go.Ground.guard }], guard := some (21, true) }) (v := undef) rfl (by kernel_rfl) (by kernel_rfl) (by kernel_rfl) (fun _ _ _ h => h) (Or.inr ⟨by rfl, rfl⟩) hHeld ?_
        (try simp only [Act.put, List.setIfInBounds_toArray, List.set_cons_zero, List.set_cons_succ])
        refine wpAnyH_take (i := 23) (oi := { dst := some 57, op := Go.Op.fieldAddr 24 (Go.Operand.tmp 5) 1, type := 0, pos := _, after := #[{ on := 21, ground := Go.Ground.guard }], guard := some (21, true) }) (v := undef) rfl (by kernel_rfl) (by kernel_rfl) (by kernel_rfl) (fun _ _ _ h => h) (Or.inr ⟨by rfl, rfl⟩) hHeld ?_
        (try simp only [Act.put, List.setIfInBounds_toArray, List.set_cons_zero, List.set_cons_succ])
        refine wpAnyH_take (i := 24) (oi := { dst := some 58, op := Go.Op.load 3 (Go.Operand.tmp 57), type := 3, pos := _, after := #[{ on := 23, ground := Go.Ground.data }, { on := 21, ground := Go.Ground.guard }], guard := some (21, true) }) (v := undef) rfl (by kernel_rfl) (by kernel_rfl) (by kernel_rfl) (fun _ _ _ h => h) (Or.inr ⟨by rfl, rfl⟩) hHeld ?_
        (try simp only [Act.put, List.setIfInBounds_toArray, List.set_cons_zero, List.set_cons_succ])
        refine wpAnyH_take (i := 25) (oi := { dst := some 59, op := Go.Op.call { callee := Go.Callee.value (Go.Operand.func 30), args := #[Go.Operand.tmp 56, Go.Operand.tmp 58], argTypes := #[24, 3] }, type := 24, pos := _, after := #[{ on := 22, ground := Go.Ground.data }, { on := 24, ground := Go.Ground.data }, { on := 21, ground := Go.Ground.chain }, { on := 21, ground := Go.Ground.guard }], guard := some (21, true) }) (v := undef) rfl (by kernel_rfl) (by kernel_rfl) (by kernel_rfl) (fun _ _ _ h => h) (Or.inr ⟨by rfl, rfl⟩) hHeld ?_
        (try simp only [Act.put, List.setIfInBounds_toArray, List.set_cons_zero, List.set_cons_succ])
        refine wpAnyH_take (i := 26) (oi := { dst := some 60, op := Go.Op.load 24 (Go.Operand.tmp 5), type := 24, pos := _, after := #[{ on := 21, ground := Go.Ground.guard }], guard := some (21, true) }) (v := undef) rfl (by kernel_rfl) (by kernel_rfl) (by kernel_rfl) (fun _ _ _ h => h) (Or.inr ⟨by rfl, rfl⟩) hHeld ?_
        (try simp only [Act.put, List.setIfInBounds_toArray, List.set_cons_zero, List.set_cons_succ])
        refine wpAnyH_take (i := 27) (oi := { dst := some 61, op := Go.Op.binOp Go.BinOp.eql 24 (Go.Operand.tmp 59) (Go.Operand.tmp 60) 24, type := 4, pos := _, after := #[{ on := 25, ground := Go.Ground.data }, { on := 26, ground := Go.Ground.data }, { on := 21, ground := Go.Ground.guard }], guard := some (21, true) }) (v := undef) rfl (by kernel_rfl) (by kernel_rfl) (by kernel_rfl) (fun _ _ _ h => h) (Or.inr ⟨by rfl, rfl⟩) hHeld ?_
        (try simp only [Act.put, List.setIfInBounds_toArray, List.set_cons_zero, List.set_cons_succ])
        refine wpAnyH_take (i := 28) (oi := { dst := some 62, op := Go.Op.pick (Go.Operand.tmp 55) (Go.Operand.tmp 61) (Go.Operand.const (Go.Value.bool false)), type := 4, pos := _, after := #[{ on := 21, ground := Go.Ground.data }, { on := 27, ground := Go.Ground.data }, { on := 15, ground := Go.Ground.guard }], guard := some (15, true) }) (v := ?vr3_29_28) rfl (by kernel_rfl) (by kernel_rfl) (by kernel_rfl) (fun _ _ _ h => h) (Or.inl ⟨by rfl, ?yr3_29_28⟩) hHeld ?_
        case yr3_29_28 => ((intro w hSw; (try dsimp only at hSw); go_simp) <;> with_reducible rfl)
        (try simp only [Act.put, List.setIfInBounds_toArray, List.set_cons_zero, List.set_cons_succ])
        refine wpAnyH_take (i := 29) (oi := { dst := some 63, op := Go.Op.binOp Go.BinOp.eql 4 (Go.Operand.tmp 52) (Go.Operand.tmp 62) 4, type := 4, pos := _, after := #[{ on := 18, ground := Go.Ground.data }, { on := 28, ground := Go.Ground.data }, { on := 15, ground := Go.Ground.guard }], guard := some (15, true) }) (v := ?vr3_30_29) rfl (by kernel_rfl) (by kernel_rfl) (by kernel_rfl) (fun _ _ _ h => h) (Or.inl ⟨by rfl, ?yr3_30_29⟩) hHeld ?_
        case yr3_30_29 => ((intro w hSw; (try dsimp only at hSw); go_simp) <;> with_reducible rfl)
        (try simp only [Act.put, List.setIfInBounds_toArray, List.set_cons_zero, List.set_cons_succ])
        refine wpAnyH_take (i := 30) (oi := { dst := some 64, op := Go.Op.pick (Go.Operand.tmp 49) (Go.Operand.tmp 63) (Go.Operand.const (Go.Value.bool false)), type := 4, pos := _, after := #[{ on := 15, ground := Go.Ground.data }, { on := 29, ground := Go.Ground.data }], guard := none }) (v := ?vr3_31_30) rfl (by kernel_rfl) (by kernel_rfl) (by kernel_rfl) (fun _ _ _ h => h) (Or.inl ⟨by rfl, ?yr3_31_30⟩) hHeld ?_
        case yr3_31_30 => ((intro w hSw; (try dsimp only at hSw); go_simp) <;> with_reducible rfl)
        (try simp only [Act.put, List.setIfInBounds_toArray, List.set_cons_zero, List.set_cons_succ])
        refine wpAnyH_take (i := 31) (oi := { dst := some 8, op := Go.Op.assign (Go.Operand.tmp 64), type := 4, pos := _, after := #[{ on := 30, ground := Go.Ground.data }, { on := 25, ground := Go.Ground.chain }, { on := 0, ground := Go.Ground.phase }, { on := 1, ground := Go.Ground.phase }, { on := 2, ground := Go.Ground.phase }, { on := 3, ground := Go.Ground.phase }, { on := 4, ground := Go.Ground.phase }, { on := 5, ground := Go.Ground.phase }, { on := 6, ground := Go.Ground.phase }, { on := 7, ground := Go.Ground.phase }, { on := 8, ground := Go.Ground.phase }, { on := 9, ground := Go.Ground.phase }, { on := 10, ground := Go.Ground.phase }, { on := 11, ground := Go.Ground.phase }, { on := 12, ground := Go.Ground.phase }, { on := 13, ground := Go.Ground.phase }, { on := 14, ground := Go.Ground.phase }, { on := 15, ground := Go.Ground.phase }, { on := 16, ground := Go.Ground.phase }, { on := 17, ground := Go.Ground.phase }, { on := 18, ground := Go.Ground.phase }, { on := 19, ground := Go.Ground.phase }, { on := 20, ground := Go.Ground.phase }, { on := 21, ground := Go.Ground.phase }, { on := 22, ground := Go.Ground.phase }, { on := 23, ground := Go.Ground.phase }, { on := 24, ground := Go.Ground.phase }, { on := 25, ground := Go.Ground.phase }, { on := 26, ground := Go.Ground.phase }, { on := 27, ground := Go.Ground.phase }, { on := 28, ground := Go.Ground.phase }, { on := 29, ground := Go.Ground.phase }, { on := 30, ground := Go.Ground.phase }], guard := none }) (v := ?vr3_32_31) rfl (by kernel_rfl) (by kernel_rfl) (by kernel_rfl) (fun _ _ _ h => h) (Or.inl ⟨by rfl, ?yr3_32_31⟩) hHeld ?_
        case yr3_32_31 => ((intro w hSw; (try dsimp only at hSw); go_simp) <;> with_reducible rfl)
        (try simp only [Act.put, List.setIfInBounds_toArray, List.set_cons_zero, List.set_cons_succ])
        refine wpAnyH_done (by kernel_rfl) ?_ _
        clear c0 c1 c2 c3 c4 d0 d1 d2 d3 d4 f0 f1 f2 f3 f4 hb0
        obtain ⟨c0, c1, c2, c3, c4, d0, d1, d2, d3, d4, f0, f1, f2, f3, f4, hb0⟩ := hHeld
        go_wp2
        go_ret
        exact ⟨rfl, hb0⟩
      case true =>
        rw [Bool.true_and] at HO
        go_enter Try.func8, Try.ntmps8
        go_wp2_with fail
        refine (HC _).mono ?_
        rintro e w7 ⟨rfl, hb⟩
        replace c0 := cell_later hb c0
        replace c1 := cell_later hb c1
        replace c2 := cell_later hb c2
        replace c3 := cell_later hb c3
        replace c4 := cell_later hb c4
        replace d0 := cell_later hb d0
        replace d1 := cell_later hb d1
        replace d2 := cell_later hb d2
        replace d3 := cell_later hb d3
        replace d4 := cell_later hb d4
        replace hb0 := below_step hb0 hb
        clear hb
        have lc := World.block_lt_of_cell? _ _ c0
        dsimp only at lc
        have ld := World.block_lt_of_cell? _ _ d0
        dsimp only at ld
        go_wp2_with fail
        refine (HR _).mono ?_
        rintro e w8 ⟨rfl, hb⟩
        replace c0 := cell_later hb (cell_later ((Below.refl _ _).alloc (Nat.le_refl _) _) c0)
        replace c1 := cell_later hb (cell_later ((Below.refl _ _).alloc (Nat.le_refl _) _) c1)
        replace c2 := cell_later hb (cell_later ((Below.refl _ _).alloc (Nat.le_refl _) _) c2)
        replace c3 := cell_later hb (cell_later ((Below.refl _ _).alloc (Nat.le_refl _) _) c3)
        replace c4 := cell_later hb (cell_later ((Below.refl _ _).alloc (Nat.le_refl _) _) c4)
        replace d0 := cell_later hb (cell_later ((Below.refl _ _).alloc (Nat.le_refl _) _) d0)
        replace d1 := cell_later hb (cell_later ((Below.refl _ _).alloc (Nat.le_refl _) _) d1)
        replace d2 := cell_later hb (cell_later ((Below.refl _ _).alloc (Nat.le_refl _) _) d2)
        replace d3 := cell_later hb (cell_later ((Below.refl _ _).alloc (Nat.le_refl _) _) d3)
        replace d4 := cell_later hb (cell_later ((Below.refl _ _).alloc (Nat.le_refl _) _) d4)
        have f0 := ((Row.later (Row.new _ _ _) hb).cell 0).trans (show _ = some (Value.int .i64 c.kind) from rfl)
        have f1 := ((Row.later (Row.new _ _ _) hb).cell 1).trans (show _ = some (Value.int .i64 c.len) from rfl)
        have f2 := ((Row.later (Row.new _ _ _) hb).cell 2).trans (show _ = some (Value.int .u64 c.h) from rfl)
        have f3 := ((Row.later (Row.new _ _ _) hb).cell 3).trans (show _ = some (Value.int .u64 c.l) from rfl)
        have f4 := ((Row.later (Row.new _ _ _) hb).cell 4).trans (show _ = some (Value.string ⟨c.path.toArray⟩) from rfl)
        replace hb0 := below_step (hb0.alloc hb0.size _) hb
        clear hb
        generalize w7.heap.size = gf at *
        have lc := World.block_lt_of_cell? _ _ c0
        dsimp only at lc
        have ld := World.block_lt_of_cell? _ _ d0
        dsimp only at ld
        have lf := World.block_lt_of_cell? _ _ f0
        dsimp only at lf
        go_wp2_with fail
        refine wp_region_held_drew (S := (fun w' => w'.cell? ⟨w.heap.size, 0, none⟩ = some (.int .i64 k.kind) ∧ w'.cell? ⟨w.heap.size, 1, none⟩ = some (.int .i64 k.len) ∧ w'.cell? ⟨w.heap.size, 2, none⟩ = some (.int .u64 k.h) ∧ w'.cell? ⟨w.heap.size, 3, none⟩ = some (.int .u64 k.l) ∧ w'.cell? ⟨w.heap.size, 4, none⟩ = some (.string ⟨k.path.toArray⟩) ∧ w'.cell? ⟨w.heap.size + 1, 0, none⟩ = some (.int .i64 a.kind) ∧ w'.cell? ⟨w.heap.size + 1, 1, none⟩ = some (.int .i64 a.len) ∧ w'.cell? ⟨w.heap.size + 1, 2, none⟩ = some (.int .u64 a.h) ∧ w'.cell? ⟨w.heap.size + 1, 3, none⟩ = some (.int .u64 a.l) ∧ w'.cell? ⟨w.heap.size + 1, 4, none⟩ = some (.string ⟨a.path.toArray⟩) ∧ w'.cell? ⟨gf, 0, none⟩ = some (Value.int .i64 c.kind) ∧ w'.cell? ⟨gf, 1, none⟩ = some (Value.int .i64 c.len) ∧ w'.cell? ⟨gf, 2, none⟩ = some (Value.int .u64 c.h) ∧ w'.cell? ⟨gf, 3, none⟩ = some (Value.int .u64 c.l) ∧ w'.cell? ⟨gf, 4, none⟩ = some (Value.string ⟨c.path.toArray⟩) ∧ Below w.heap.size w w')) (by kernel_rfl) ?hSr4_ (fun hHeld => ?_)
        case hSr4_ => (first | exact ⟨c0, c1, c2, c3, c4, d0, d1, d2, d3, d4, f0, f1, f2, f3, f4, hb0.drew⟩ | exact ⟨c0, c1, c2, c3, c4, d0, d1, d2, d3, d4, f0, f1, f2, f3, f4, hb0⟩ | (obtain ⟨c0, c1, c2, c3, c4, d0, d1, d2, d3, d4, f0, f1, f2, f3, f4, hb0⟩ := hHeld; exact ⟨cell_later hb c0, cell_later hb c1, cell_later hb c2, cell_later hb c3, cell_later hb c4, cell_later hb d0, cell_later hb d1, cell_later hb d2, cell_later hb d3, cell_later hb d4, cell_later hb f0, cell_later hb f1, cell_later hb f2, cell_later hb f3, cell_later hb f4, below_step hb0 hb⟩))
        refine wpAnyH_ready (rs := [0]) (by kernel_rfl) (by simp) ?_
        refine AllReadyH.cons (o := { dst := some 34, op := Go.Op.call { callee := Go.Callee.value (Go.Operand.func 18), args := #[], argTypes := #[] }, type := 4, pos := _, after := #[], guard := none }) rfl (fun K hK => ?_) AllReadyH.nil
        (go_simp; (refine (alive7_t _).mono ?_); (rintro e wn ⟨rfl, hb⟩); go_wp2_with fail)
        refine hK.out _ _ ?hSr4_1_0 (fun hHeld2 => ?_)
        case hSr4_1_0 => (first | exact ⟨c0, c1, c2, c3, c4, d0, d1, d2, d3, d4, f0, f1, f2, f3, f4, hb0.drew⟩ | exact ⟨c0, c1, c2, c3, c4, d0, d1, d2, d3, d4, f0, f1, f2, f3, f4, hb0⟩ | (obtain ⟨c0, c1, c2, c3, c4, d0, d1, d2, d3, d4, f0, f1, f2, f3, f4, hb0⟩ := hHeld; exact ⟨cell_later hb c0, cell_later hb c1, cell_later hb c2, cell_later hb c3, cell_later hb c4, cell_later hb d0, cell_later hb d1, cell_later hb d2, cell_later hb d3, cell_later hb d4, cell_later hb f0, cell_later hb f1, cell_later hb f2, cell_later hb f3, cell_later hb f4, below_step hb0 hb⟩))
        clear hK K hHeld
        have hHeld := hHeld2
        clear hHeld2
        (try simp only [Act.put, List.setIfInBounds_toArray, List.set_cons_zero, List.set_cons_succ])
        refine wpAnyH_take (i := 1) (oi := { dst := some 35, op := Go.Op.move (Go.Operand.tmp 34), type := 4, pos := _, after := #[{ on := 0, ground := Go.Ground.data }, { on := 0, ground := Go.Ground.chain }], guard := none }) (v := ?vr4_2_1) rfl (by kernel_rfl) (by kernel_rfl) (by kernel_rfl) (fun _ _ _ h => h) (Or.inl ⟨by rfl, ?yr4_2_1⟩) hHeld ?_
        case yr4_2_1 => ((intro w hSw; (try dsimp only at hSw); go_simp) <;> with_reducible rfl)
        (try simp only [Act.put, List.setIfInBounds_toArray, List.set_cons_zero, List.set_cons_succ])
        refine wpAnyH_take (i := 2) (oi := { dst := some 36, op := Go.Op.load 24 (Go.Operand.tmp 9), type := 24, pos := _, after := #[{ on := 1, ground := Go.Ground.guard }], guard := some (1, true) }) (v := ?vr4_3_2) rfl (by kernel_rfl) (by kernel_rfl) (by kernel_rfl) (fun _ _ _ h => h) (Or.inl ⟨by rfl, ?yr4_3_2⟩) hHeld ?_
        case yr4_3_2 => ((intro w hSw; (try dsimp only at hSw); go_simp) <;> with_reducible rfl)
        (try simp only [Act.put, List.setIfInBounds_toArray, List.set_cons_zero, List.set_cons_succ])
        refine wpAnyH_take (i := 3) (oi := { dst := some 37, op := Go.Op.load 24 (Go.Operand.tmp 4), type := 24, pos := _, after := #[{ on := 1, ground := Go.Ground.guard }], guard := some (1, true) }) (v := ?vr4_4_3) rfl (by kernel_rfl) (by kernel_rfl) (by kernel_rfl) (fun _ _ _ h => h) (Or.inl ⟨by rfl, ?yr4_4_3⟩) hHeld ?_
        case yr4_4_3 => ((intro w hSw; (try dsimp only at hSw); go_simp) <;> with_reducible rfl)
        (try simp only [Act.put, List.setIfInBounds_toArray, List.set_cons_zero, List.set_cons_succ])
        refine wpAnyH_ready (rs := [4]) (by kernel_rfl) (by simp) ?_
        refine AllReadyH.cons (o := { dst := some 38, op := Go.Op.call { callee := Go.Callee.value (Go.Operand.func 32), args := #[Go.Operand.tmp 36, Go.Operand.tmp 37], argTypes := #[24, 24] }, type := 4, pos := _, after := #[{ on := 2, ground := Go.Ground.data }, { on := 3, ground := Go.Ground.data }, { on := 1, ground := Go.Ground.chain }, { on := 1, ground := Go.Ground.guard }], guard := some (1, true) }) rfl (fun K hK => ?_) AllReadyH.nil
        (go_simp; (refine (HOc _).mono ?_); (rintro e wn ⟨rfl, hb⟩); go_wp2_with fail)
        refine hK.out _ _ ?hSr4_5_4 (fun hHeld2 => ?_)
        case hSr4_5_4 => (first | exact ⟨c0, c1, c2, c3, c4, d0, d1, d2, d3, d4, f0, f1, f2, f3, f4, hb0.drew⟩ | exact ⟨c0, c1, c2, c3, c4, d0, d1, d2, d3, d4, f0, f1, f2, f3, f4, hb0⟩ | (obtain ⟨c0, c1, c2, c3, c4, d0, d1, d2, d3, d4, f0, f1, f2, f3, f4, hb0⟩ := hHeld; exact ⟨cell_later hb c0, cell_later hb c1, cell_later hb c2, cell_later hb c3, cell_later hb c4, cell_later hb d0, cell_later hb d1, cell_later hb d2, cell_later hb d3, cell_later hb d4, cell_later hb f0, cell_later hb f1, cell_later hb f2, cell_later hb f3, cell_later hb f4, below_step hb0 hb⟩))
        clear hK K hHeld
        have hHeld := hHeld2
        clear hHeld2
        (try simp only [Act.put, List.setIfInBounds_toArray, List.set_cons_zero, List.set_cons_succ])
        refine wpAnyH_take (i := 5) (oi := { dst := some 39, op := Go.Op.pick (Go.Operand.tmp 35) (Go.Operand.tmp 38) (Go.Operand.const (Go.Value.bool false)), type := 4, pos := _, after := #[{ on := 1, ground := Go.Ground.data }, { on := 4, ground := Go.Ground.data }], guard := none }) (v := ?vr4_6_5) rfl (by kernel_rfl) (by kernel_rfl) (by kernel_rfl) (fun _ _ _ h => h) (Or.inl ⟨by rfl, ?yr4_6_5⟩) hHeld ?_
        case yr4_6_5 => ((intro w hSw; (try dsimp only at hSw); go_simp) <;> with_reducible rfl)
        (try simp only [Act.put, List.setIfInBounds_toArray, List.set_cons_zero, List.set_cons_succ])
        refine wpAnyH_take (i := 6) (oi := { dst := some 40, op := Go.Op.move (Go.Operand.tmp 39), type := 4, pos := _, after := #[{ on := 5, ground := Go.Ground.data }, { on := 4, ground := Go.Ground.chain }], guard := none }) (v := ?vr4_7_6) rfl (by kernel_rfl) (by kernel_rfl) (by kernel_rfl) (fun _ _ _ h => h) (Or.inl ⟨by rfl, ?yr4_7_6⟩) hHeld ?_
        case yr4_7_6 => ((intro w hSw; (try dsimp only at hSw); go_simp) <;> with_reducible rfl)
        (try simp only [Act.put, List.setIfInBounds_toArray, List.set_cons_zero, List.set_cons_succ])
        refine wpAnyH_take (i := 7) (oi := { dst := some 41, op := Go.Op.load 24 (Go.Operand.tmp 9), type := 24, pos := _, after := #[{ on := 6, ground := Go.Ground.guard }], guard := some (6, true) }) (v := ?vr4_8_7) rfl (by kernel_rfl) (by kernel_rfl) (by kernel_rfl) (fun _ _ _ h => h) (Or.inl ⟨by rfl, ?yr4_8_7⟩) hHeld ?_
        case yr4_8_7 => ((intro w hSw; (try dsimp only at hSw); go_simp) <;> with_reducible rfl)
        (try simp only [Act.put, List.setIfInBounds_toArray, List.set_cons_zero, List.set_cons_succ])
        refine wpAnyH_take (i := 8) (oi := { dst := some 42, op := Go.Op.move (Go.Operand.tmp 3), type := 3, pos := _, after := #[{ on := 6, ground := Go.Ground.guard }], guard := some (6, true) }) (v := ?vr4_9_8) rfl (by kernel_rfl) (by kernel_rfl) (by kernel_rfl) (fun _ _ _ h => h) (Or.inl ⟨by rfl, ?yr4_9_8⟩) hHeld ?_
        case yr4_9_8 => ((intro w hSw; (try dsimp only at hSw); go_simp) <;> with_reducible rfl)
        (try simp only [Act.put, List.setIfInBounds_toArray, List.set_cons_zero, List.set_cons_succ])
        refine wpAnyH_take (i := 10) (oi := { dst := some 44, op := Go.Op.load 24 (Go.Operand.tmp 4), type := 24, pos := _, after := #[{ on := 6, ground := Go.Ground.guard }], guard := some (6, true) }) (v := ?vr4_10_10) rfl (by kernel_rfl) (by kernel_rfl) (by kernel_rfl) (fun _ _ _ h => h) (Or.inl ⟨by rfl, ?yr4_10_10⟩) hHeld ?_
        case yr4_10_10 => ((intro w hSw; (try dsimp only at hSw); go_simp) <;> with_reducible rfl)
        (try simp only [Act.put, List.setIfInBounds_toArray, List.set_cons_zero, List.set_cons_succ])
        refine wpAnyH_take (i := 11) (oi := { dst := some 45, op := Go.Op.move (Go.Operand.tmp 10), type := 3, pos := _, after := #[{ on := 6, ground := Go.Ground.guard }], guard := some (6, true) }) (v := ?vr4_11_11) rfl (by kernel_rfl) (by kernel_rfl) (by kernel_rfl) (fun _ _ _ h => h) (Or.inl ⟨by rfl, ?yr4_11_11⟩) hHeld ?_
        case yr4_11_11 => ((intro w hSw; (try dsimp only at hSw); go_simp) <;> with_reducible rfl)
        (try simp only [Act.put, List.setIfInBounds_toArray, List.set_cons_zero, List.set_cons_succ])
        refine wpAnyH_ready (rs := [9]) (by kernel_rfl) (by simp) ?_
        refine AllReadyH.cons (o := { dst := some 43, op := Go.Op.call { callee := Go.Callee.value (Go.Operand.func 30), args := #[Go.Operand.tmp 41, Go.Operand.tmp 42], argTypes := #[24, 3] }, type := 24, pos := _, after := #[{ on := 7, ground := Go.Ground.data }, { on := 8, ground := Go.Ground.data }, { on := 6, ground := Go.Ground.chain }, { on := 6, ground := Go.Ground.guard }], guard := some (6, true) }) rfl (fun K hK => ?_) AllReadyH.nil
        (go_simp; (refine (HCC _).mono ?_); (rintro e wn ⟨rfl, hb⟩); go_wp2_with fail)
        refine hK.out _ _ ?hSr4_12_9 (fun hHeld2 => ?_)
        case hSr4_12_9 => (first | exact ⟨c0, c1, c2, c3, c4, d0, d1, d2, d3, d4, f0, f1, f2, f3, f4, hb0.drew⟩ | exact ⟨c0, c1, c2, c3, c4, d0, d1, d2, d3, d4, f0, f1, f2, f3, f4, hb0⟩ | (obtain ⟨c0, c1, c2, c3, c4, d0, d1, d2, d3, d4, f0, f1, f2, f3, f4, hb0⟩ := hHeld; exact ⟨cell_later hb c0, cell_later hb c1, cell_later hb c2, cell_later hb c3, cell_later hb c4, cell_later hb d0, cell_later hb d1, cell_later hb d2, cell_later hb d3, cell_later hb d4, cell_later hb f0, cell_later hb f1, cell_later hb f2, cell_later hb f3, cell_later hb f4, below_step hb0 hb⟩))
        clear hK K hHeld
        have hHeld := hHeld2
        clear hHeld2
        (try simp only [Act.put, List.setIfInBounds_toArray, List.set_cons_zero, List.set_cons_succ])
        refine wpAnyH_ready (rs := [12]) (by kernel_rfl) (by simp) ?_
        refine AllReadyH.cons (o := { dst := some 46, op := Go.Op.call { callee := Go.Callee.value (Go.Operand.func 30), args := #[Go.Operand.tmp 44, Go.Operand.tmp 45], argTypes := #[24, 3] }, type := 24, pos := _, after := #[{ on := 10, ground := Go.Ground.data }, { on := 11, ground := Go.Ground.data }, { on := 9, ground := Go.Ground.chain }, { on := 6, ground := Go.Ground.guard }], guard := some (6, true) }) rfl (fun K hK => ?_) AllReadyH.nil
        (go_simp; (refine (HCL _).mono ?_); (rintro e wn ⟨rfl, hb⟩); go_wp2_with fail)
        refine hK.out _ _ ?hSr4_13_12 (fun hHeld2 => ?_)
        case hSr4_13_12 => (first | exact ⟨c0, c1, c2, c3, c4, d0, d1, d2, d3, d4, f0, f1, f2, f3, f4, hb0.drew⟩ | exact ⟨c0, c1, c2, c3, c4, d0, d1, d2, d3, d4, f0, f1, f2, f3, f4, hb0⟩ | (obtain ⟨c0, c1, c2, c3, c4, d0, d1, d2, d3, d4, f0, f1, f2, f3, f4, hb0⟩ := hHeld; exact ⟨cell_later hb c0, cell_later hb c1, cell_later hb c2, cell_later hb c3, cell_later hb c4, cell_later hb d0, cell_later hb d1, cell_later hb d2, cell_later hb d3, cell_later hb d4, cell_later hb f0, cell_later hb f1, cell_later hb f2, cell_later hb f3, cell_later hb f4, below_step hb0 hb⟩))
        clear hK K hHeld
        have hHeld := hHeld2
        clear hHeld2
        (try simp only [Act.put, List.setIfInBounds_toArray, List.set_cons_zero, List.set_cons_succ])
        refine wpAnyH_take (i := 13) (oi := { dst := some 47, op := Go.Op.binOp Go.BinOp.eql 24 (Go.Operand.tmp 43) (Go.Operand.tmp 46) 24, type := 4, pos := _, after := #[{ on := 9, ground := Go.Ground.data }, { on := 12, ground := Go.Ground.data }, { on := 6, ground := Go.Ground.guard }], guard := some (6, true) }) (v := ?vr4_14_13) rfl (by kernel_rfl) (by kernel_rfl) (by kernel_rfl) (fun _ _ _ h => h) (Or.inl ⟨by rfl, ?yr4_14_13⟩) hHeld ?_
        case yr4_14_13 => ((intro w hSw; (try dsimp only at hSw); go_simp) <;> with_reducible rfl)
        (try simp only [Act.put, List.setIfInBounds_toArray, List.set_cons_zero, List.set_cons_succ])
        refine wpAnyH_take (i := 14) (oi := { dst := some 48, op := Go.Op.pick (Go.Operand.tmp 40) (Go.Operand.tmp 47) (Go.Operand.const (Go.Value.bool false)), type := 4, pos := _, after := #[{ on := 6, ground := Go.Ground.data }, { on := 13, ground := Go.Ground.data }], guard := none }) (v := ?vr4_15_14) rfl (by kernel_rfl) (by kernel_rfl) (by kernel_rfl) (fun _ _ _ h => h) (Or.inl ⟨by rfl, ?yr4_15_14⟩) hHeld ?_
        case yr4_15_14 => ((intro w hSw; (try dsimp only at hSw); go_simp) <;> with_reducible rfl)
        (try simp only [Act.put, List.setIfInBounds_toArray, List.set_cons_zero, List.set_cons_succ])
        refine wpAnyH_take (i := 15) (oi := { dst := some 49, op := Go.Op.move (Go.Operand.tmp 48), type := 4, pos := _, after := #[{ on := 14, ground := Go.Ground.data }, { on := 12, ground := Go.Ground.chain }], guard := none }) (v := ?vr4_16_15) rfl (by kernel_rfl) (by kernel_rfl) (by kernel_rfl) (fun _ _ _ h => h) (Or.inl ⟨by rfl, ?yr4_16_15⟩) hHeld ?_
        case yr4_16_15 => ((intro w hSw; (try dsimp only at hSw); go_simp) <;> with_reducible rfl)
        (try simp only [Act.put, List.setIfInBounds_toArray, List.set_cons_zero, List.set_cons_succ])
        refine wpAnyH_take (i := 16) (oi := { dst := some 50, op := Go.Op.load 24 (Go.Operand.tmp 5), type := 24, pos := _, after := #[{ on := 15, ground := Go.Ground.guard }], guard := some (15, true) }) (v := ?vr4_17_16) rfl (by kernel_rfl) (by kernel_rfl) (by kernel_rfl) (fun _ _ _ h => h) (Or.inl ⟨by rfl, ?yr4_17_16⟩) hHeld ?_
        case yr4_17_16 => ((intro w hSw; (try dsimp only at hSw); go_simp) <;> with_reducible rfl)
        (try simp only [Act.put, List.setIfInBounds_toArray, List.set_cons_zero, List.set_cons_succ])
        refine wpAnyH_take (i := 17) (oi := { dst := some 51, op := Go.Op.load 24 (Go.Operand.tmp 4), type := 24, pos := _, after := #[{ on := 15, ground := Go.Ground.guard }], guard := some (15, true) }) (v := ?vr4_18_17) rfl (by kernel_rfl) (by kernel_rfl) (by kernel_rfl) (fun _ _ _ h => h) (Or.inl ⟨by rfl, ?yr4_18_17⟩) hHeld ?_
        case yr4_18_17 => ((intro w hSw; (try dsimp only at hSw); go_simp) <;> with_reducible rfl)
        (try simp only [Act.put, List.setIfInBounds_toArray, List.set_cons_zero, List.set_cons_succ])
        refine wpAnyH_take (i := 19) (oi := { dst := some 53, op := Go.Op.load 24 (Go.Operand.tmp 5), type := 24, pos := _, after := #[{ on := 15, ground := Go.Ground.guard }], guard := some (15, true) }) (v := ?vr4_19_19) rfl (by kernel_rfl) (by kernel_rfl) (by kernel_rfl) (fun _ _ _ h => h) (Or.inl ⟨by rfl, ?yr4_19_19⟩) hHeld ?_
        case yr4_19_19 => ((intro w hSw; (try dsimp only at hSw); go_simp) <;> with_reducible rfl)
        (try simp only [Act.put, List.setIfInBounds_toArray, List.set_cons_zero, List.set_cons_succ])
        refine wpAnyH_ready (rs := [18]) (by kernel_rfl) (by simp) ?_
        refine AllReadyH.cons (o := { dst := some 52, op := Go.Op.call { callee := Go.Callee.value (Go.Operand.func 32), args := #[Go.Operand.tmp 50, Go.Operand.tmp 51], argTypes := #[24, 24] }, type := 4, pos := _, after := #[{ on := 16, ground := Go.Ground.data }, { on := 17, ground := Go.Ground.data }, { on := 15, ground := Go.Ground.chain }, { on := 15, ground := Go.Ground.guard }], guard := some (15, true) }) rfl (fun K hK => ?_) AllReadyH.nil
        (go_simp; (refine (HO _).mono ?_); (rintro e wn ⟨rfl, hb⟩); go_wp2_with fail)
        refine hK.out _ _ ?hSr4_20_18 (fun hHeld2 => ?_)
        case hSr4_20_18 => (first | exact ⟨c0, c1, c2, c3, c4, d0, d1, d2, d3, d4, f0, f1, f2, f3, f4, hb0.drew⟩ | exact ⟨c0, c1, c2, c3, c4, d0, d1, d2, d3, d4, f0, f1, f2, f3, f4, hb0⟩ | (obtain ⟨c0, c1, c2, c3, c4, d0, d1, d2, d3, d4, f0, f1, f2, f3, f4, hb0⟩ := hHeld; exact ⟨cell_later hb c0, cell_later hb c1, cell_later hb c2, cell_later hb c3, cell_later hb c4, cell_later hb d0, cell_later hb d1, cell_later hb d2, cell_later hb d3, cell_later hb d4, cell_later hb f0, cell_later hb f1, cell_later hb f2, cell_later hb f3, cell_later hb f4, below_step hb0 hb⟩))
        clear hK K hHeld
        have hHeld := hHeld2
        clear hHeld2
        (try simp only [Act.put, List.setIfInBounds_toArray, List.set_cons_zero, List.set_cons_succ])
        refine wpAnyH_ready (rs := [20]) (by kernel_rfl) (by simp) ?_
        refine AllReadyH.cons (o := { dst := some 54, op := Go.Op.call { callee := Go.Callee.value (Go.Operand.func 19), args := #[Go.Operand.tmp 53], argTypes := #[24] }, type := 4, pos := _, after := #[{ on := 19, ground := Go.Ground.data }, { on := 18, ground := Go.Ground.chain }, { on := 15, ground := Go.Ground.guard }], guard := some (15, true) }) rfl (fun K hK => ?_) AllReadyH.nil
        (go_simp; (refine (HA _).mono ?_); (rintro e wn ⟨rfl, hb⟩); go_wp2_with fail)
        refine hK.out _ _ ?hSr4_21_20 (fun hHeld2 => ?_)
        case hSr4_21_20 => (first | exact ⟨c0, c1, c2, c3, c4, d0, d1, d2, d3, d4, f0, f1, f2, f3, f4, hb0.drew⟩ | exact ⟨c0, c1, c2, c3, c4, d0, d1, d2, d3, d4, f0, f1, f2, f3, f4, hb0⟩ | (obtain ⟨c0, c1, c2, c3, c4, d0, d1, d2, d3, d4, f0, f1, f2, f3, f4, hb0⟩ := hHeld; exact ⟨cell_later hb c0, cell_later hb c1, cell_later hb c2, cell_later hb c3, cell_later hb c4, cell_later hb d0, cell_later hb d1, cell_later hb d2, cell_later hb d3, cell_later hb d4, cell_later hb f0, cell_later hb f1, cell_later hb f2, cell_later hb f3, cell_later hb f4, below_step hb0 hb⟩))
        clear hK K hHeld
        have hHeld := hHeld2
        clear hHeld2
        (try simp only [Act.put, List.setIfInBounds_toArray, List.set_cons_zero, List.set_cons_succ])
        refine wpAnyH_take (i := 21) (oi := { dst := some 55, op := Go.Op.move (Go.Operand.tmp 54), type := 4, pos := _, after := #[{ on := 20, ground := Go.Ground.data }, { on := 20, ground := Go.Ground.chain }, { on := 15, ground := Go.Ground.guard }], guard := some (15, true) }) (v := ?vr4_22_21) rfl (by kernel_rfl) (by kernel_rfl) (by kernel_rfl) (fun _ _ _ h => h) (Or.inl ⟨by rfl, ?yr4_22_21⟩) hHeld ?_
        case yr4_22_21 => ((intro w hSw; (try dsimp only at hSw); go_simp) <;> with_reducible rfl)
        (try simp only [Act.put, List.setIfInBounds_toArray, List.set_cons_zero, List.set_cons_succ])
        refine wpAnyH_take (i := 22) (oi := { dst := some 56, op := Go.Op.load 24 (Go.Operand.tmp 4), type := 24, pos := _, after := #[{ on := 21, ground := Go.Ground.guard }], guard := some (21, true) }) (v := ?vr4_23_22) rfl (by kernel_rfl) (by kernel_rfl) (by kernel_rfl) (fun _ _ _ h => h) (Or.inl ⟨by rfl, ?yr4_23_22⟩) hHeld ?_
        case yr4_23_22 => ((intro w hSw; (try dsimp only at hSw); go_simp) <;> with_reducible rfl)
        (try simp only [Act.put, List.setIfInBounds_toArray, List.set_cons_zero, List.set_cons_succ])
        refine wpAnyH_take (i := 23) (oi := { dst := some 57, op := Go.Op.fieldAddr 24 (Go.Operand.tmp 5) 1, type := 0, pos := _, after := #[{ on := 21, ground := Go.Ground.guard }], guard := some (21, true) }) (v := ?vr4_24_23) rfl (by kernel_rfl) (by kernel_rfl) (by kernel_rfl) (fun _ _ _ h => h) (Or.inl ⟨by rfl, ?yr4_24_23⟩) hHeld ?_
        case yr4_24_23 => ((intro w hSw; (try dsimp only at hSw); go_simp) <;> with_reducible rfl)
        (try simp only [Act.put, List.setIfInBounds_toArray, List.set_cons_zero, List.set_cons_succ])
        refine wpAnyH_take (i := 24) (oi := { dst := some 58, op := Go.Op.load 3 (Go.Operand.tmp 57), type := 3, pos := _, after := #[{ on := 23, ground := Go.Ground.data }, { on := 21, ground := Go.Ground.guard }], guard := some (21, true) }) (v := ?vr4_25_24) rfl (by kernel_rfl) (by kernel_rfl) (by kernel_rfl) (fun _ _ _ h => h) (Or.inl ⟨by rfl, ?yr4_25_24⟩) hHeld ?_
        case yr4_25_24 => ((intro w hSw; (try dsimp only at hSw); go_simp) <;> with_reducible rfl)
        (try simp only [Act.put, List.setIfInBounds_toArray, List.set_cons_zero, List.set_cons_succ])
        refine wpAnyH_take (i := 26) (oi := { dst := some 60, op := Go.Op.load 24 (Go.Operand.tmp 5), type := 24, pos := _, after := #[{ on := 21, ground := Go.Ground.guard }], guard := some (21, true) }) (v := ?vr4_26_26) rfl (by kernel_rfl) (by kernel_rfl) (by kernel_rfl) (fun _ _ _ h => h) (Or.inl ⟨by rfl, ?yr4_26_26⟩) hHeld ?_
        case yr4_26_26 => ((intro w hSw; (try dsimp only at hSw); go_simp) <;> with_reducible rfl)
        (try simp only [Act.put, List.setIfInBounds_toArray, List.set_cons_zero, List.set_cons_succ])
        refine wpAnyH_ready (rs := [25]) (by kernel_rfl) (by simp) ?_
        refine AllReadyH.cons (o := { dst := some 59, op := Go.Op.call { callee := Go.Callee.value (Go.Operand.func 30), args := #[Go.Operand.tmp 56, Go.Operand.tmp 58], argTypes := #[24, 3] }, type := 24, pos := _, after := #[{ on := 22, ground := Go.Ground.data }, { on := 24, ground := Go.Ground.data }, { on := 21, ground := Go.Ground.chain }, { on := 21, ground := Go.Ground.guard }], guard := some (21, true) }) rfl (fun K hK => ?_) AllReadyH.nil
        (go_simp; (refine (HCA _).mono ?_); (rintro e wn ⟨rfl, hb⟩); go_wp2_with fail)
        refine hK.out _ _ ?hSr4_27_25 (fun hHeld2 => ?_)
        case hSr4_27_25 => (first | exact ⟨c0, c1, c2, c3, c4, d0, d1, d2, d3, d4, f0, f1, f2, f3, f4, hb0.drew⟩ | exact ⟨c0, c1, c2, c3, c4, d0, d1, d2, d3, d4, f0, f1, f2, f3, f4, hb0⟩ | (obtain ⟨c0, c1, c2, c3, c4, d0, d1, d2, d3, d4, f0, f1, f2, f3, f4, hb0⟩ := hHeld; exact ⟨cell_later hb c0, cell_later hb c1, cell_later hb c2, cell_later hb c3, cell_later hb c4, cell_later hb d0, cell_later hb d1, cell_later hb d2, cell_later hb d3, cell_later hb d4, cell_later hb f0, cell_later hb f1, cell_later hb f2, cell_later hb f3, cell_later hb f4, below_step hb0 hb⟩))
        clear hK K hHeld
        have hHeld := hHeld2
        clear hHeld2
        (try simp only [Act.put, List.setIfInBounds_toArray, List.set_cons_zero, List.set_cons_succ])
        refine wpAnyH_take (i := 27) (oi := { dst := some 61, op := Go.Op.binOp Go.BinOp.eql 24 (Go.Operand.tmp 59) (Go.Operand.tmp 60) 24, type := 4, pos := _, after := #[{ on := 25, ground := Go.Ground.data }, { on := 26, ground := Go.Ground.data }, { on := 21, ground := Go.Ground.guard }], guard := some (21, true) }) (v := ?vr4_28_27) rfl (by kernel_rfl) (by kernel_rfl) (by kernel_rfl) (fun _ _ _ h => h) (Or.inl ⟨by rfl, ?yr4_28_27⟩) hHeld ?_
        case yr4_28_27 => ((intro w hSw; (try dsimp only at hSw); go_simp) <;> with_reducible rfl)
        (try simp only [Act.put, List.setIfInBounds_toArray, List.set_cons_zero, List.set_cons_succ])
        refine wpAnyH_take (i := 28) (oi := { dst := some 62, op := Go.Op.pick (Go.Operand.tmp 55) (Go.Operand.tmp 61) (Go.Operand.const (Go.Value.bool false)), type := 4, pos := _, after := #[{ on := 21, ground := Go.Ground.data }, { on := 27, ground := Go.Ground.data }, { on := 15, ground := Go.Ground.guard }], guard := some (15, true) }) (v := ?vr4_29_28) rfl (by kernel_rfl) (by kernel_rfl) (by kernel_rfl) (fun _ _ _ h => h) (Or.inl ⟨by rfl, ?yr4_29_28⟩) hHeld ?_
        case yr4_29_28 => ((intro w hSw; (try dsimp only at hSw); go_simp) <;> with_reducible rfl)
        (try simp only [Act.put, List.setIfInBounds_toArray, List.set_cons_zero, List.set_cons_succ])
        refine wpAnyH_take (i := 29) (oi := { dst := some 63, op := Go.Op.binOp Go.BinOp.eql 4 (Go.Operand.tmp 52) (Go.Operand.tmp 62) 4, type := 4, pos := _, after := #[{ on := 18, ground := Go.Ground.data }, { on := 28, ground := Go.Ground.data }, { on := 15, ground := Go.Ground.guard }], guard := some (15, true) }) (v := ?vr4_30_29) rfl (by kernel_rfl) (by kernel_rfl) (by kernel_rfl) (fun _ _ _ h => h) (Or.inl ⟨by rfl, ?yr4_30_29⟩) hHeld ?_
        case yr4_30_29 => ((intro w hSw; (try dsimp only at hSw); go_simp) <;> with_reducible rfl)
        (try simp only [Act.put, List.setIfInBounds_toArray, List.set_cons_zero, List.set_cons_succ])
        refine wpAnyH_take (i := 30) (oi := { dst := some 64, op := Go.Op.pick (Go.Operand.tmp 49) (Go.Operand.tmp 63) (Go.Operand.const (Go.Value.bool false)), type := 4, pos := _, after := #[{ on := 15, ground := Go.Ground.data }, { on := 29, ground := Go.Ground.data }], guard := none }) (v := ?vr4_31_30) rfl (by kernel_rfl) (by kernel_rfl) (by kernel_rfl) (fun _ _ _ h => h) (Or.inl ⟨by rfl, ?yr4_31_30⟩) hHeld ?_
        case yr4_31_30 => ((intro w hSw; (try dsimp only at hSw); go_simp) <;> with_reducible rfl)
        (try simp only [Act.put, List.setIfInBounds_toArray, List.set_cons_zero, List.set_cons_succ])
        refine wpAnyH_take (i := 31) (oi := { dst := some 8, op := Go.Op.assign (Go.Operand.tmp 64), type := 4, pos := _, after := #[{ on := 30, ground := Go.Ground.data }, { on := 25, ground := Go.Ground.chain }, { on := 0, ground := Go.Ground.phase }, { on := 1, ground := Go.Ground.phase }, { on := 2, ground := Go.Ground.phase }, { on := 3, ground := Go.Ground.phase }, { on := 4, ground := Go.Ground.phase }, { on := 5, ground := Go.Ground.phase }, { on := 6, ground := Go.Ground.phase }, { on := 7, ground := Go.Ground.phase }, { on := 8, ground := Go.Ground.phase }, { on := 9, ground := Go.Ground.phase }, { on := 10, ground := Go.Ground.phase }, { on := 11, ground := Go.Ground.phase }, { on := 12, ground := Go.Ground.phase }, { on := 13, ground := Go.Ground.phase }, { on := 14, ground := Go.Ground.phase }, { on := 15, ground := Go.Ground.phase }, { on := 16, ground := Go.Ground.phase }, { on := 17, ground := Go.Ground.phase }, { on := 18, ground := Go.Ground.phase }, { on := 19, ground := Go.Ground.phase }, { on := 20, ground := Go.Ground.phase }, { on := 21, ground := Go.Ground.phase }, { on := 22, ground := Go.Ground.phase }, { on := 23, ground := Go.Ground.phase }, { on := 24, ground := Go.Ground.phase }, { on := 25, ground := Go.Ground.phase }, { on := 26, ground := Go.Ground.phase }, { on := 27, ground := Go.Ground.phase }, { on := 28, ground := Go.Ground.phase }, { on := 29, ground := Go.Ground.phase }, { on := 30, ground := Go.Ground.phase }], guard := none }) (v := ?vr4_32_31) rfl (by kernel_rfl) (by kernel_rfl) (by kernel_rfl) (fun _ _ _ h => h) (Or.inl ⟨by rfl, ?yr4_32_31⟩) hHeld ?_
        case yr4_32_31 => ((intro w hSw; (try dsimp only at hSw); go_simp) <;> with_reducible rfl)
        (try simp only [Act.put, List.setIfInBounds_toArray, List.set_cons_zero, List.set_cons_succ])
        refine wpAnyH_done (by kernel_rfl) ?_ _
        clear c0 c1 c2 c3 c4 d0 d1 d2 d3 d4 f0 f1 f2 f3 f4 hb0
        obtain ⟨c0, c1, c2, c3, c4, d0, d1, d2, d3, d4, f0, f1, f2, f3, f4, hb0⟩ := hHeld
        go_wp2
        go_ret
        exact ⟨rfl, hb0⟩
  · replace hr : rightK k = false := by simpa using hr
    rw [cut_bad hr] at HC
    rw [over_bad hr] at HO
    rw [hr] at HR
    clear hr ok ok2
    unfold kv kz at *
    dsimp only at HC
    obtain ⟨RR0, RR1, hb0⟩ := two_rows w #[.int .i64 k.kind, .int .i64 k.len, .int .u64 k.h, .int .u64 k.l, .string ⟨k.path.toArray⟩] #[.int .i64 a.kind, .int .i64 a.len, .int .u64 a.h, .int .u64 a.l, .string ⟨a.path.toArray⟩] 24 24
    have c0 := (RR0.cell 0).trans (show _ = some (Value.int .i64 k.kind) from rfl)
    have c1 := (RR0.cell 1).trans (show _ = some (Value.int .i64 k.len) from rfl)
    have c2 := (RR0.cell 2).trans (show _ = some (Value.int .u64 k.h) from rfl)
    have c3 := (RR0.cell 3).trans (show _ = some (Value.int .u64 k.l) from rfl)
    have c4 := (RR0.cell 4).trans (show _ = some (Value.string ⟨k.path.toArray⟩) from rfl)
    have d0 := (RR1.cell 0).trans (show _ = some (Value.int .i64 a.kind) from rfl)
    have d1 := (RR1.cell 1).trans (show _ = some (Value.int .i64 a.len) from rfl)
    have d2 := (RR1.cell 2).trans (show _ = some (Value.int .u64 a.h) from rfl)
    have d3 := (RR1.cell 3).trans (show _ = some (Value.int .u64 a.l) from rfl)
    have d4 := (RR1.cell 4).trans (show _ = some (Value.string ⟨a.path.toArray⟩) from rfl)
    clear RR0 RR1
    go_enter Try.func8, Try.ntmps8
    go_wp2_with fail
    refine (HC _).mono ?_
    rintro e w9 ⟨rfl, hb⟩
    replace c0 := cell_later hb c0
    replace c1 := cell_later hb c1
    replace c2 := cell_later hb c2
    replace c3 := cell_later hb c3
    replace c4 := cell_later hb c4
    replace d0 := cell_later hb d0
    replace d1 := cell_later hb d1
    replace d2 := cell_later hb d2
    replace d3 := cell_later hb d3
    replace d4 := cell_later hb d4
    replace hb0 := below_step hb0 hb
    clear hb
    have lc := World.block_lt_of_cell? _ _ c0
    dsimp only at lc
    have ld := World.block_lt_of_cell? _ _ d0
    dsimp only at ld
    go_wp2_with fail
    refine (HR _).mono ?_
    rintro e w10 ⟨rfl, hb⟩
    replace c0 := cell_later hb (cell_later ((Below.refl _ _).alloc (Nat.le_refl _) _) c0)
    replace c1 := cell_later hb (cell_later ((Below.refl _ _).alloc (Nat.le_refl _) _) c1)
    replace c2 := cell_later hb (cell_later ((Below.refl _ _).alloc (Nat.le_refl _) _) c2)
    replace c3 := cell_later hb (cell_later ((Below.refl _ _).alloc (Nat.le_refl _) _) c3)
    replace c4 := cell_later hb (cell_later ((Below.refl _ _).alloc (Nat.le_refl _) _) c4)
    replace d0 := cell_later hb (cell_later ((Below.refl _ _).alloc (Nat.le_refl _) _) d0)
    replace d1 := cell_later hb (cell_later ((Below.refl _ _).alloc (Nat.le_refl _) _) d1)
    replace d2 := cell_later hb (cell_later ((Below.refl _ _).alloc (Nat.le_refl _) _) d2)
    replace d3 := cell_later hb (cell_later ((Below.refl _ _).alloc (Nat.le_refl _) _) d3)
    replace d4 := cell_later hb (cell_later ((Below.refl _ _).alloc (Nat.le_refl _) _) d4)
    have f0 := ((Row.later (Row.new _ _ _) hb).cell 0).trans (show _ = some (Value.int .i64 0) from rfl)
    have f1 := ((Row.later (Row.new _ _ _) hb).cell 1).trans (show _ = some (Value.int .i64 0) from rfl)
    have f2 := ((Row.later (Row.new _ _ _) hb).cell 2).trans (show _ = some (Value.int .u64 0) from rfl)
    have f3 := ((Row.later (Row.new _ _ _) hb).cell 3).trans (show _ = some (Value.int .u64 0) from rfl)
    have f4 := ((Row.later (Row.new _ _ _) hb).cell 4).trans (show _ = some (Value.string ⟨#[]⟩) from rfl)
    replace hb0 := below_step (hb0.alloc hb0.size _) hb
    clear hb
    generalize w9.heap.size = gf at *
    have lc := World.block_lt_of_cell? _ _ c0
    dsimp only at lc
    have ld := World.block_lt_of_cell? _ _ d0
    dsimp only at ld
    have lf := World.block_lt_of_cell? _ _ f0
    dsimp only at lf
    go_wp2_with fail
    refine (alive7_t _).mono ?_
    rintro e w11 ⟨rfl, hb⟩
    replace c0 := cell_later hb c0
    replace c1 := cell_later hb c1
    replace c2 := cell_later hb c2
    replace c3 := cell_later hb c3
    replace c4 := cell_later hb c4
    replace d0 := cell_later hb d0
    replace d1 := cell_later hb d1
    replace d2 := cell_later hb d2
    replace d3 := cell_later hb d3
    replace d4 := cell_later hb d4
    replace f0 := cell_later hb f0
    replace f1 := cell_later hb f1
    replace f2 := cell_later hb f2
    replace f3 := cell_later hb f3
    replace f4 := cell_later hb f4
    replace hb0 := below_step hb0 hb
    clear hb
    have lc := World.block_lt_of_cell? _ _ c0
    dsimp only at lc
    have ld := World.block_lt_of_cell? _ _ d0
    dsimp only at ld
    have lf := World.block_lt_of_cell? _ _ f0
    dsimp only at lf
    go_wp2_with fail
    refine (HO _).mono ?_
    rintro e w12 ⟨rfl, hb⟩
    replace c0 := cell_later hb c0
    replace c1 := cell_later hb c1
    replace c2 := cell_later hb c2
    replace c3 := cell_later hb c3
    replace c4 := cell_later hb c4
    replace d0 := cell_later hb d0
    replace d1 := cell_later hb d1
    replace d2 := cell_later hb d2
    replace d3 := cell_later hb d3
    replace d4 := cell_later hb d4
    replace f0 := cell_later hb f0
    replace f1 := cell_later hb f1
    replace f2 := cell_later hb f2
    replace f3 := cell_later hb f3
    replace f4 := cell_later hb f4
    replace hb0 := below_step hb0 hb
    clear hb
    have lc := World.block_lt_of_cell? _ _ c0
    dsimp only at lc
    have ld := World.block_lt_of_cell? _ _ d0
    dsimp only at ld
    have lf := World.block_lt_of_cell? _ _ f0
    dsimp only at lf
    go_wp2
    go_ret
    exact ⟨rfl, hb0⟩
end Go.Proofs.Ytekoicbjpoeijaa
