/- Cut of the reference of layer 7. No conditions beyond ranges and lengths. -/
import Derived.Test.YtekoicbjpoeijaaKR8
namespace Go.Proofs.Ytekoicbjpoeijaa
set_option linter.unusedVariables false
set_option linter.unusedSimpArgs false
open Go.RowKit
theorem cut_clamp {k : Ke} (h : rightK k = true) (n : Int) : cutK k n = topK k (if n < 0 then 0 else if ((letK k).length : Int) < n then ((letK k).length : Int) else n) := by
  have h1 := letK_len h
  have h2 := len_range h
  unfold cutK
  rw [if_pos h]
  by_cases a : n < 0
  · rw [if_pos a, if_neg (by omega), show max n 0 = 0 by omega]
  · rw [if_neg a]
    by_cases b : ((letK k).length : Int) < n
    · rw [if_pos b, if_pos (by omega), h1, top_full h]
    · rw [if_neg b]
      by_cases c : k.len ≤ n
      · rw [if_pos c, show n = k.len by omega, top_full h]
      · rw [if_neg c, show max n 0 = n by omega]
set_option maxRecDepth 100000 in
set_option maxHeartbeats 8000000 in
theorem rcut_t (k : Ke) (ok : k.ok) (n : Int) (w : World) : Calls Try.prog 31 #[kv k, .int .i64 n] w fun e w' => e = .returned (kv (cutK k n)) ∧ Below w.heap.size w w' := by
  have HL : ∀ w1, Calls Try.prog 53 #[kv k] w1 fun e w' => ∃ v, e = .returned (.tuple #[v, .bool (rightK k)]) ∧ SS w' v (letR k) ∧ Below w1.heap.size w1 w' := fun w1 => letters_t k ok w1
  obtain ⟨R0, R1, hb0⟩ := two_rows w #[.int .i64 k.kind, .int .i64 k.len, .int .u64 k.h, .int .u64 k.l, .string ⟨k.path.toArray⟩] #[.int .i64 0, .int .i64 0, .int .u64 0, .int .u64 0, .string ⟨#[]⟩] 24 24
  cases hr : rightK k with
  | false =>
    rw [cut_bad hr]
    rw [hr] at HL
    clear hr ok
    unfold kv kz at *
    dsimp only
    go_enter Try.func31, Try.ntmps31
    go_wp2_with fail
    refine (HL _).mono ?_
    rintro e w1 ⟨v, rfl, _, hb⟩
    replace R1 := R1.later hb
    replace hb0 := below_step hb0 hb
    clear HL hb R0
    have c0 := ((R1).cell 0).trans (show _ = some (Value.int .i64 0) from rfl)
    have cf0 := (R1).frozen 0
    have c1 := ((R1).cell 1).trans (show _ = some (Value.int .i64 0) from rfl)
    have cf1 := (R1).frozen 1
    have c2 := ((R1).cell 2).trans (show _ = some (Value.int .u64 0) from rfl)
    have cf2 := (R1).frozen 2
    have c3 := ((R1).cell 3).trans (show _ = some (Value.int .u64 0) from rfl)
    have cf3 := (R1).frozen 3
    have c4 := ((R1).cell 4).trans (show _ = some (Value.string ⟨#[]⟩) from rfl)
    have cf4 := (R1).frozen 4
    clear R1
    go_wp2
    refine bodyPost_ret (v := .agg #[.int .i64 0, .int .i64 0, .int .u64 0, .int .u64 0, .string ⟨#[]⟩]) (by simp [results, Try.results31, go_sem, c0, c1, c2, c3, c4]) rfl ⟨rfl, bset5 hb0 (by omega) _ _ _ _ _⟩
  | true =>
    rw [hr] at HL
    have hlr : letR k = letK k := by unfold letR; rw [if_pos hr]
    rw [hlr] at HL
    clear hlr
    rw [cut_clamp hr]
    have HOF := Lib.hid (fun (m : Nat) (hm : m ≤ (letK k).length) (v : Value) (w1 : World) (hS : SS w1 v ((letK k).take m)) => rof_take k ok hr m hm v w1 hS)
    clear hr ok
    generalize letK k = ls at *
    -- the clamped number
    obtain ⟨m, hm, hcase⟩ : ∃ m : Nat, m ≤ ls.length ∧ ((n < 0 ∧ m = 0) ∨ ((ls.length : Int) < n ∧ m = ls.length) ∨ (n = (m : Int))) := by
      by_cases a : n < 0
      · exact ⟨0, Nat.zero_le _, .inl ⟨a, rfl⟩⟩
      · by_cases b : (ls.length : Int) < n
        · exact ⟨_, Nat.le_refl _, .inr (.inl ⟨b, rfl⟩)⟩
        · exact ⟨n.toNat, by omega, .inr (.inr (by omega))⟩
    have ec : (if n < 0 then (0 : Int) else if (ls.length : Int) < n then (ls.length : Int) else n) = (m : Int) := by
      repeat' split
      all_goals omega
    rw [ec]
    clear ec
    have HO2 := Lib.hid (HOF.out m hm)
    clear HOF
    generalize topK k (m : Int) = t at *
    obtain ⟨t0, t1, t2, t3, t4⟩ := t
    unfold kv at *
    dsimp only at *
    rcases hcase with ⟨ha, rfl⟩ | ⟨ha, rfl⟩ | rfl
    ·   go_enter Try.func31, Try.ntmps31
        go_wp2_with fail
        refine (HL _).mono ?_
        rintro e w1 ⟨v, rfl, hS, hb⟩
        replace R0 := (R0.later hb).drew
        replace R1 := (R1.later hb).drew
        replace hb0 := (below_step hb0 hb).drew
        clear HL hb
        obtain ⟨p, c, rfl, _, _⟩ := id hS
        obtain ⟨hT, hmc⟩ := ss_take hS _ hm
        have HO3 := Lib.hid (fun (W : World) (hb : Below w1.heap.size w1 W) => HO2.out _ W (hT.later hb))
        clear hT hS HO2
        generalize hN : ls.length = N at *
        clear hN
        have q1 : (N : Int) ≤ (c : Int) := by omega
        have q2 : ¬ (N : Int) < 0 := by omega
        have c0 := ((R0).cell 0).trans (show _ = some (Value.int .i64 k.kind) from rfl)
        have cf0 := (R0).frozen 0
        have c1 := ((R0).cell 1).trans (show _ = some (Value.int .i64 k.len) from rfl)
        have cf1 := (R0).frozen 1
        have c2 := ((R0).cell 2).trans (show _ = some (Value.int .u64 k.h) from rfl)
        have cf2 := (R0).frozen 2
        have c3 := ((R0).cell 3).trans (show _ = some (Value.int .u64 k.l) from rfl)
        have cf3 := (R0).frozen 3
        have c4 := ((R0).cell 4).trans (show _ = some (Value.string ⟨k.path.toArray⟩) from rfl)
        have cf4 := (R0).frozen 4
        go_wp2_with fail
        refine wp_region_held_drew (S := (fun w' => w'.cell? ⟨w.heap.size, 0, none⟩ = some (.int .i64 k.kind))) (by kernel_rfl) ?hSr1_ (fun hHeld => ?_)
        case hSr1_ => (first | exact c0 | exact cell_later hb hHeld)
        refine wpAnyH_take (i := 0) (oi := { dst := some 23, op := Go.Op.fieldAddr 24 (Go.Operand.tmp 2) 0, type := 0, pos := _, after := #[], guard := none }) (v := ?vr1_1_0) rfl (by kernel_rfl) (by kernel_rfl) (by kernel_rfl) (fun _ _ _ h => h) (Or.inl ⟨by rfl, ?yr1_1_0⟩) hHeld ?_
        case yr1_1_0 => ((intro w hSw; (try dsimp only at hSw); go_simp) <;> with_reducible rfl)
        (try simp only [Act.put, List.setIfInBounds_toArray, List.set_cons_zero, List.set_cons_succ])
        refine wpAnyH_take (i := 1) (oi := { dst := some 24, op := Go.Op.load 3 (Go.Operand.tmp 23), type := 3, pos := _, after := #[{ on := 0, ground := Go.Ground.data }], guard := none }) (v := ?vr1_2_1) rfl (by kernel_rfl) (by kernel_rfl) (by kernel_rfl) (fun _ _ _ h => h) (Or.inl ⟨by rfl, ?yr1_2_1⟩) hHeld ?_
        case yr1_2_1 => ((intro w hSw; (try dsimp only at hSw); go_simp) <;> with_reducible rfl)
        (try simp only [Act.put, List.setIfInBounds_toArray, List.set_cons_zero, List.set_cons_succ])
        refine wpAnyH_take (i := 2) (oi := { dst := some 25, op := Go.Op.move (Go.Operand.tmp 5), type := 64, pos := _, after := #[], guard := none }) (v := ?vr1_3_2) rfl (by kernel_rfl) (by kernel_rfl) (by kernel_rfl) (fun _ _ _ h => h) (Or.inl ⟨by rfl, ?yr1_3_2⟩) hHeld ?_
        case yr1_3_2 => ((intro w hSw; (try dsimp only at hSw); go_simp) <;> with_reducible rfl)
        (try simp only [Act.put, List.setIfInBounds_toArray, List.set_cons_zero, List.set_cons_succ])
        refine wpAnyH_take (i := 3) (oi := { dst := some 26, op := Go.Op.move (Go.Operand.tmp 1), type := 3, pos := _, after := #[], guard := none }) (v := ?vr1_4_3) rfl (by kernel_rfl) (by kernel_rfl) (by kernel_rfl) (fun _ _ _ h => h) (Or.inl ⟨by rfl, ?yr1_4_3⟩) hHeld ?_
        case yr1_4_3 => ((intro w hSw; (try dsimp only at hSw); go_simp) <;> with_reducible rfl)
        (try simp only [Act.put, List.setIfInBounds_toArray, List.set_cons_zero, List.set_cons_succ])
        refine wpAnyH_take (i := 4) (oi := { dst := some 27, op := Go.Op.slice 64 (Go.Operand.tmp 25) none (some (Go.Operand.tmp 26)) none, type := 64, pos := _, after := #[{ on := 2, ground := Go.Ground.data }, { on := 3, ground := Go.Ground.data }], guard := none }) (v := ?vr1_5_4) rfl (by kernel_rfl) (by kernel_rfl) (by kernel_rfl) (fun _ _ _ h => h) (Or.inl ⟨by rfl, ?yr1_5_4⟩) hHeld ?_
        case yr1_5_4 => ((intro w hSw; (try dsimp only at hSw); go_simp) <;> with_reducible rfl)
        (try simp only [Act.put, List.setIfInBounds_toArray, List.set_cons_zero, List.set_cons_succ])
        refine wpAnyH_ready (rs := [5]) (by kernel_rfl) (by simp) ?_
        refine AllReadyH.cons (o := { dst := some 28, op := Go.Op.call { callee := Go.Callee.value (Go.Operand.func 56), args := #[Go.Operand.tmp 24, Go.Operand.tmp 27], argTypes := #[3, 64] }, type := 24, pos := _, after := #[{ on := 1, ground := Go.Ground.data }, { on := 4, ground := Go.Ground.data }], guard := none }) rfl (fun K hK => ?_) AllReadyH.nil
        go_simp
        ((refine (HO3.out _ (by first | exact (Below.refl _ _).drew | exact Below.refl _ _)).mono ?_); (rintro e wn ⟨rfl, hb⟩); (replace R1 := R1.later hb); (replace hb0 := below_step hb0 hb))
        go_wp2_with fail
        refine hK.out _ _ ?hSr1_6_5 (fun hHeld2 => ?_)
        case hSr1_6_5 => (first | exact c0 | exact cell_later hb hHeld)
        clear hK K hHeld
        have hHeld := hHeld2
        clear hHeld2
        (try simp only [Act.put, List.setIfInBounds_toArray, List.set_cons_zero, List.set_cons_succ])
        refine wpAnyH_ready (rs := [6]) (by kernel_rfl) (by simp) ?_
        refine AllReadyH.cons (o := { dst := none, op := Go.Op.store 24 (Go.Operand.tmp 4) (Go.Operand.tmp 28), type := 0, pos := _, after := #[{ on := 5, ground := Go.Ground.data }, { on := 5, ground := Go.Ground.chain }, { on := 0, ground := Go.Ground.phase }, { on := 1, ground := Go.Ground.phase }, { on := 2, ground := Go.Ground.phase }, { on := 3, ground := Go.Ground.phase }, { on := 4, ground := Go.Ground.phase }, { on := 5, ground := Go.Ground.phase }], guard := none }) rfl (fun K hK => ?_) AllReadyH.nil
        ((have z0 := R1.cell 0); (have z1 := R1.cell 1); (have z2 := R1.cell 2); (have z3 := R1.cell 3); (have z4 := R1.cell 4); (simp at z0 z1 z2 z3 z4); (have zf0 := R1.frozen 0); (have zf1 := R1.frozen 1); (have zf2 := R1.frozen 2); (have zf3 := R1.frozen 3); (have zf4 := R1.frozen 4); go_simp)
        refine hK.out _ _ ?hSr1_7_6 (fun hHeld2 => ?_)
        case hSr1_7_6 => (simp [go_sem, hHeld])
        clear hK K hHeld
        have hHeld := hHeld2
        clear hHeld2
        (try simp only [Act.put, List.setIfInBounds_toArray, List.set_cons_zero, List.set_cons_succ])
        refine wpAnyH_done (by kernel_rfl) ?_ _
        (go_wp2_with fail; exact bodyPost_ret (v := .agg #[.int .i64 t0, .int .i64 t1, .int .u64 t2, .int .u64 t3, .string ⟨t4.toArray⟩]) (by simp [results, Try.results31, go_sem, z0, z1, z2, z3, z4]) rfl ⟨rfl, bset5 hb0 (by omega) _ _ _ _ _⟩)
    ·   go_enter Try.func31, Try.ntmps31
        go_wp2_with fail
        refine (HL _).mono ?_
        rintro e w1 ⟨v, rfl, hS, hb⟩
        replace R0 := (R0.later hb).drew
        replace R1 := (R1.later hb).drew
        replace hb0 := (below_step hb0 hb).drew
        clear HL hb
        obtain ⟨p, c, rfl, _, _⟩ := id hS
        obtain ⟨hT, hmc⟩ := ss_take hS _ hm
        have HO3 := Lib.hid (fun (W : World) (hb : Below w1.heap.size w1 W) => HO2.out _ W (hT.later hb))
        clear hT hS HO2
        generalize hN : ls.length = N at *
        clear hN
        have q1 : (N : Int) ≤ (c : Int) := by omega
        have q2 : ¬ (N : Int) < 0 := by omega
        have c0 := ((R0).cell 0).trans (show _ = some (Value.int .i64 k.kind) from rfl)
        have cf0 := (R0).frozen 0
        have c1 := ((R0).cell 1).trans (show _ = some (Value.int .i64 k.len) from rfl)
        have cf1 := (R0).frozen 1
        have c2 := ((R0).cell 2).trans (show _ = some (Value.int .u64 k.h) from rfl)
        have cf2 := (R0).frozen 2
        have c3 := ((R0).cell 3).trans (show _ = some (Value.int .u64 k.l) from rfl)
        have cf3 := (R0).frozen 3
        have c4 := ((R0).cell 4).trans (show _ = some (Value.string ⟨k.path.toArray⟩) from rfl)
        have cf4 := (R0).frozen 4
        go_wp2_with fail
        refine wp_region_held_drew (S := (fun w' => w'.cell? ⟨w.heap.size, 0, none⟩ = some (.int .i64 k.kind))) (by kernel_rfl) ?hSr2_ (fun hHeld => ?_)
        case hSr2_ => (first | exact c0 | exact cell_later hb hHeld)
        refine wpAnyH_take (i := 0) (oi := { dst := some 23, op := Go.Op.fieldAddr 24 (Go.Operand.tmp 2) 0, type := 0, pos := _, after := #[], guard := none }) (v := ?vr2_1_0) rfl (by kernel_rfl) (by kernel_rfl) (by kernel_rfl) (fun _ _ _ h => h) (Or.inl ⟨by rfl, ?yr2_1_0⟩) hHeld ?_
        case yr2_1_0 => ((intro w hSw; (try dsimp only at hSw); go_simp) <;> with_reducible rfl)
        (try simp only [Act.put, List.setIfInBounds_toArray, List.set_cons_zero, List.set_cons_succ])
        refine wpAnyH_take (i := 1) (oi := { dst := some 24, op := Go.Op.load 3 (Go.Operand.tmp 23), type := 3, pos := _, after := #[{ on := 0, ground := Go.Ground.data }], guard := none }) (v := ?vr2_2_1) rfl (by kernel_rfl) (by kernel_rfl) (by kernel_rfl) (fun _ _ _ h => h) (Or.inl ⟨by rfl, ?yr2_2_1⟩) hHeld ?_
        case yr2_2_1 => ((intro w hSw; (try dsimp only at hSw); go_simp) <;> with_reducible rfl)
        (try simp only [Act.put, List.setIfInBounds_toArray, List.set_cons_zero, List.set_cons_succ])
        refine wpAnyH_take (i := 2) (oi := { dst := some 25, op := Go.Op.move (Go.Operand.tmp 5), type := 64, pos := _, after := #[], guard := none }) (v := ?vr2_3_2) rfl (by kernel_rfl) (by kernel_rfl) (by kernel_rfl) (fun _ _ _ h => h) (Or.inl ⟨by rfl, ?yr2_3_2⟩) hHeld ?_
        case yr2_3_2 => ((intro w hSw; (try dsimp only at hSw); go_simp) <;> with_reducible rfl)
        (try simp only [Act.put, List.setIfInBounds_toArray, List.set_cons_zero, List.set_cons_succ])
        refine wpAnyH_take (i := 3) (oi := { dst := some 26, op := Go.Op.move (Go.Operand.tmp 1), type := 3, pos := _, after := #[], guard := none }) (v := ?vr2_4_3) rfl (by kernel_rfl) (by kernel_rfl) (by kernel_rfl) (fun _ _ _ h => h) (Or.inl ⟨by rfl, ?yr2_4_3⟩) hHeld ?_
        case yr2_4_3 => ((intro w hSw; (try dsimp only at hSw); go_simp) <;> with_reducible rfl)
        (try simp only [Act.put, List.setIfInBounds_toArray, List.set_cons_zero, List.set_cons_succ])
        refine wpAnyH_take (i := 4) (oi := { dst := some 27, op := Go.Op.slice 64 (Go.Operand.tmp 25) none (some (Go.Operand.tmp 26)) none, type := 64, pos := _, after := #[{ on := 2, ground := Go.Ground.data }, { on := 3, ground := Go.Ground.data }], guard := none }) (v := ?vr2_5_4) rfl (by kernel_rfl) (by kernel_rfl) (by kernel_rfl) (fun _ _ _ h => h) (Or.inl ⟨by rfl, ?yr2_5_4⟩) hHeld ?_
        case yr2_5_4 => ((intro w hSw; (try dsimp only at hSw); go_simp) <;> with_reducible rfl)
        (try simp only [Act.put, List.setIfInBounds_toArray, List.set_cons_zero, List.set_cons_succ])
        refine wpAnyH_ready (rs := [5]) (by kernel_rfl) (by simp) ?_
        refine AllReadyH.cons (o := { dst := some 28, op := Go.Op.call { callee := Go.Callee.value (Go.Operand.func 56), args := #[Go.Operand.tmp 24, Go.Operand.tmp 27], argTypes := #[3, 64] }, type := 24, pos := _, after := #[{ on := 1, ground := Go.Ground.data }, { on := 4, ground := Go.Ground.data }], guard := none }) rfl (fun K hK => ?_) AllReadyH.nil
        go_simp
        ((refine (HO3.out _ (by first | exact (Below.refl _ _).drew | exact Below.refl _ _)).mono ?_); (rintro e wn ⟨rfl, hb⟩); (replace R1 := R1.later hb); (replace hb0 := below_step hb0 hb))
        go_wp2_with fail
        refine hK.out _ _ ?hSr2_6_5 (fun hHeld2 => ?_)
        case hSr2_6_5 => (first | exact c0 | exact cell_later hb hHeld)
        clear hK K hHeld
        have hHeld := hHeld2
        clear hHeld2
        (try simp only [Act.put, List.setIfInBounds_toArray, List.set_cons_zero, List.set_cons_succ])
        refine wpAnyH_ready (rs := [6]) (by kernel_rfl) (by simp) ?_
        refine AllReadyH.cons (o := { dst := none, op := Go.Op.store 24 (Go.Operand.tmp 4) (Go.Operand.tmp 28), type := 0, pos := _, after := #[{ on := 5, ground := Go.Ground.data }, { on := 5, ground := Go.Ground.chain }, { on := 0, ground := Go.Ground.phase }, { on := 1, ground := Go.Ground.phase }, { on := 2, ground := Go.Ground.phase }, { on := 3, ground := Go.Ground.phase }, { on := 4, ground := Go.Ground.phase }, { on := 5, ground := Go.Ground.phase }], guard := none }) rfl (fun K hK => ?_) AllReadyH.nil
        ((have z0 := R1.cell 0); (have z1 := R1.cell 1); (have z2 := R1.cell 2); (have z3 := R1.cell 3); (have z4 := R1.cell 4); (simp at z0 z1 z2 z3 z4); (have zf0 := R1.frozen 0); (have zf1 := R1.frozen 1); (have zf2 := R1.frozen 2); (have zf3 := R1.frozen 3); (have zf4 := R1.frozen 4); go_simp)
        refine hK.out _ _ ?hSr2_7_6 (fun hHeld2 => ?_)
        case hSr2_7_6 => (simp [go_sem, hHeld])
        clear hK K hHeld
        have hHeld := hHeld2
        clear hHeld2
        (try simp only [Act.put, List.setIfInBounds_toArray, List.set_cons_zero, List.set_cons_succ])
        refine wpAnyH_done (by kernel_rfl) ?_ _
        (go_wp2_with fail; exact bodyPost_ret (v := .agg #[.int .i64 t0, .int .i64 t1, .int .u64 t2, .int .u64 t3, .string ⟨t4.toArray⟩]) (by simp [results, Try.results31, go_sem, z0, z1, z2, z3, z4]) rfl ⟨rfl, bset5 hb0 (by omega) _ _ _ _ _⟩)
    ·   go_enter Try.func31, Try.ntmps31
        go_wp2_with fail
        refine (HL _).mono ?_
        rintro e w1 ⟨v, rfl, hS, hb⟩
        replace R0 := (R0.later hb).drew
        replace R1 := (R1.later hb).drew
        replace hb0 := (below_step hb0 hb).drew
        clear HL hb
        obtain ⟨p, c, rfl, _, _⟩ := id hS
        obtain ⟨hT, hmc⟩ := ss_take hS _ hm
        have HO3 := Lib.hid (fun (W : World) (hb : Below w1.heap.size w1 W) => HO2.out _ W (hT.later hb))
        clear hT hS HO2
        generalize hN : ls.length = N at *
        clear hN
        have q1 : (N : Int) ≤ (c : Int) := by omega
        have q2 : ¬ (N : Int) < 0 := by omega
        have c0 := ((R0).cell 0).trans (show _ = some (Value.int .i64 k.kind) from rfl)
        have cf0 := (R0).frozen 0
        have c1 := ((R0).cell 1).trans (show _ = some (Value.int .i64 k.len) from rfl)
        have cf1 := (R0).frozen 1
        have c2 := ((R0).cell 2).trans (show _ = some (Value.int .u64 k.h) from rfl)
        have cf2 := (R0).frozen 2
        have c3 := ((R0).cell 3).trans (show _ = some (Value.int .u64 k.l) from rfl)
        have cf3 := (R0).frozen 3
        have c4 := ((R0).cell 4).trans (show _ = some (Value.string ⟨k.path.toArray⟩) from rfl)
        have cf4 := (R0).frozen 4
        go_wp2_with fail
        refine wp_region_held_drew (S := (fun w' => w'.cell? ⟨w.heap.size, 0, none⟩ = some (.int .i64 k.kind))) (by kernel_rfl) ?hSr3_ (fun hHeld => ?_)
        case hSr3_ => (first | exact c0 | exact cell_later hb hHeld)
        refine wpAnyH_take (i := 0) (oi := { dst := some 23, op := Go.Op.fieldAddr 24 (Go.Operand.tmp 2) 0, type := 0, pos := _, after := #[], guard := none }) (v := ?vr3_1_0) rfl (by kernel_rfl) (by kernel_rfl) (by kernel_rfl) (fun _ _ _ h => h) (Or.inl ⟨by rfl, ?yr3_1_0⟩) hHeld ?_
        case yr3_1_0 => ((intro w hSw; (try dsimp only at hSw); go_simp) <;> with_reducible rfl)
        (try simp only [Act.put, List.setIfInBounds_toArray, List.set_cons_zero, List.set_cons_succ])
        refine wpAnyH_take (i := 1) (oi := { dst := some 24, op := Go.Op.load 3 (Go.Operand.tmp 23), type := 3, pos := _, after := #[{ on := 0, ground := Go.Ground.data }], guard := none }) (v := ?vr3_2_1) rfl (by kernel_rfl) (by kernel_rfl) (by kernel_rfl) (fun _ _ _ h => h) (Or.inl ⟨by rfl, ?yr3_2_1⟩) hHeld ?_
        case yr3_2_1 => ((intro w hSw; (try dsimp only at hSw); go_simp) <;> with_reducible rfl)
        (try simp only [Act.put, List.setIfInBounds_toArray, List.set_cons_zero, List.set_cons_succ])
        refine wpAnyH_take (i := 2) (oi := { dst := some 25, op := Go.Op.move (Go.Operand.tmp 5), type := 64, pos := _, after := #[], guard := none }) (v := ?vr3_3_2) rfl (by kernel_rfl) (by kernel_rfl) (by kernel_rfl) (fun _ _ _ h => h) (Or.inl ⟨by rfl, ?yr3_3_2⟩) hHeld ?_
        case yr3_3_2 => ((intro w hSw; (try dsimp only at hSw); go_simp) <;> with_reducible rfl)
        (try simp only [Act.put, List.setIfInBounds_toArray, List.set_cons_zero, List.set_cons_succ])
        refine wpAnyH_take (i := 3) (oi := { dst := some 26, op := Go.Op.move (Go.Operand.tmp 1), type := 3, pos := _, after := #[], guard := none }) (v := ?vr3_4_3) rfl (by kernel_rfl) (by kernel_rfl) (by kernel_rfl) (fun _ _ _ h => h) (Or.inl ⟨by rfl, ?yr3_4_3⟩) hHeld ?_
        case yr3_4_3 => ((intro w hSw; (try dsimp only at hSw); go_simp) <;> with_reducible rfl)
        (try simp only [Act.put, List.setIfInBounds_toArray, List.set_cons_zero, List.set_cons_succ])
        refine wpAnyH_take (i := 4) (oi := { dst := some 27, op := Go.Op.slice 64 (Go.Operand.tmp 25) none (some (Go.Operand.tmp 26)) none, type := 64, pos := _, after := #[{ on := 2, ground := Go.Ground.data }, { on := 3, ground := Go.Ground.data }], guard := none }) (v := ?vr3_5_4) rfl (by kernel_rfl) (by kernel_rfl) (by kernel_rfl) (fun _ _ _ h => h) (Or.inl ⟨by rfl, ?yr3_5_4⟩) hHeld ?_
        case yr3_5_4 => ((intro w hSw; (try dsimp only at hSw); go_simp) <;> with_reducible rfl)
        (try simp only [Act.put, List.setIfInBounds_toArray, List.set_cons_zero, List.set_cons_succ])
        refine wpAnyH_ready (rs := [5]) (by kernel_rfl) (by simp) ?_
        refine AllReadyH.cons (o := { dst := some 28, op := Go.Op.call { callee := Go.Callee.value (Go.Operand.func 56), args := #[Go.Operand.tmp 24, Go.Operand.tmp 27], argTypes := #[3, 64] }, type := 24, pos := _, after := #[{ on := 1, ground := Go.Ground.data }, { on := 4, ground := Go.Ground.data }], guard := none }) rfl (fun K hK => ?_) AllReadyH.nil
        go_simp
        ((refine (HO3.out _ (by first | exact (Below.refl _ _).drew | exact Below.refl _ _)).mono ?_); (rintro e wn ⟨rfl, hb⟩); (replace R1 := R1.later hb); (replace hb0 := below_step hb0 hb))
        go_wp2_with fail
        refine hK.out _ _ ?hSr3_6_5 (fun hHeld2 => ?_)
        case hSr3_6_5 => (first | exact c0 | exact cell_later hb hHeld)
        clear hK K hHeld
        have hHeld := hHeld2
        clear hHeld2
        (try simp only [Act.put, List.setIfInBounds_toArray, List.set_cons_zero, List.set_cons_succ])
        refine wpAnyH_ready (rs := [6]) (by kernel_rfl) (by simp) ?_
        refine AllReadyH.cons (o := { dst := none, op := Go.Op.store 24 (Go.Operand.tmp 4) (Go.Operand.tmp 28), type := 0, pos := _, after := #[{ on := 5, ground := Go.Ground.data }, { on := 5, ground := Go.Ground.chain }, { on := 0, ground := Go.Ground.phase }, { on := 1, ground := Go.Ground.phase }, { on := 2, ground := Go.Ground.phase }, { on := 3, ground := Go.Ground.phase }, { on := 4, ground := Go.Ground.phase }, { on := 5, ground := Go.Ground.phase }], guard := none }) rfl (fun K hK => ?_) AllReadyH.nil
        ((have z0 := R1.cell 0); (have z1 := R1.cell 1); (have z2 := R1.cell 2); (have z3 := R1.cell 3); (have z4 := R1.cell 4); (simp at z0 z1 z2 z3 z4); (have zf0 := R1.frozen 0); (have zf1 := R1.frozen 1); (have zf2 := R1.frozen 2); (have zf3 := R1.frozen 3); (have zf4 := R1.frozen 4); go_simp)
        refine hK.out _ _ ?hSr3_7_6 (fun hHeld2 => ?_)
        case hSr3_7_6 => (simp [go_sem, hHeld])
        clear hK K hHeld
        have hHeld := hHeld2
        clear hHeld2
        (try simp only [Act.put, List.setIfInBounds_toArray, List.set_cons_zero, List.set_cons_succ])
        refine wpAnyH_done (by kernel_rfl) ?_ _
        (go_wp2_with fail; exact bodyPost_ret (v := .agg #[.int .i64 t0, .int .i64 t1, .int .u64 t2, .int .u64 t3, .string ⟨t4.toArray⟩]) (by simp [results, Try.results31, go_sem, z0, z1, z2, z3, z4]) rfl ⟨rfl, bset5 hb0 (by omega) _ _ _ _ _⟩)
end Go.Proofs.Ytekoicbjpoeijaa
