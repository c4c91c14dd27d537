/- Letters of the reference of layer 7, of addresses: the loop. No conditions beyond ranges. -/
import Derived.Test.YtekoicbjpoeijaaKR4
namespace Go.Proofs.Ytekoicbjpoeijaa
set_option linter.unusedVariables false
set_option linter.unusedSimpArgs false
open Go.RowKit
theorem lets_zero (A : Int) (n : Nat) : lets A n 0 = [] := by unfold lets; rw [show min 0 n = 0 by omega]; rfl
set_option maxRecDepth 100000 in
set_option maxHeartbeats 8000000 in
theorem letters_adr_go (kd : Int) (n : Nat) (h l : Int) (hk : kd = 1 ∨ kd = 2) (hn : (n : Int) ≤ wid kd) (hh : Word h) (hl : Word l) (w : World) : Calls Try.prog 53 #[kv ⟨kd, n, h, l, []⟩] w (LetPost ⟨kd, n, h, l, []⟩ w) := by
  have HB := Lib.hid (fun (t : Nat) (ht : n ≤ t) (ht2 : t < 128) (hbit : bitI (wv h l) t = true) (w' : World) (hb : Below w.heap.size w w') => letPost_bad (adr_bit_bad (k := ⟨kd, n, h, l, []⟩) (n := n) (by dsimp only; omega) rfl ht ht2 hbit) hb)
  have HG := Lib.hid (fun (v : Value) (w' : World) (hz : ∀ t : Nat, n ≤ t → t < 128 → bitI (wv h l) t = false) (hs : SS w' v (lets (wv h l) n 128)) (hb : Below w.heap.size w w') => by
    obtain ⟨r1, r2⟩ := adr_bits (k := ⟨kd, n, h, l, []⟩) (n := n) hk rfl hn rfl hh hl hz
    exact letPost_ok r1 (by rw [r2]; exact hs) hb)
  have HW := fun w1 => rwidth_t kd w1
  have HT := fun (j : Nat) (hj : j < 128) (w1 : World) => rbit_t h l hh hl j hj w1
  have n8 : n ≤ 128 := by have := (wid_range kd).2; omega
  generalize LetPost ⟨kd, n, h, l, []⟩ w = PP at *
  generalize hA : wv h l = A at *
  clear hA
  have hk3 : (kd == 3) = false := by simp; omega
  have hk3' : ¬ kd = 3 := by omega
  have t0 : (wid kd == 0) = false := by rcases hk with e | e <;> subst e <;> rfl
  generalize wid kd = wd at *
  have t1 : decide ((n : Int) < 0) = false := decide_eq_false (by omega)
  have t2 : decide (wd < (n : Int)) = false := decide_eq_false (by omega)
  clear hh hl hk
  unfold kv
  dsimp only
  obtain ⟨RR0, hb0⟩ := one_row w #[.int .i64 kd, .int .i64 n, .int .u64 h, .int .u64 l, .string ⟨#[]⟩] 24
  have c0 := (RR0.cell 0).trans (show _ = some (Value.int .i64 kd) from rfl)
  have c1 := (RR0.cell 1).trans (show _ = some (Value.int .i64 n) from rfl)
  have c2 := (RR0.cell 2).trans (show _ = some (Value.int .u64 h) from rfl)
  have c3 := (RR0.cell 3).trans (show _ = some (Value.int .u64 l) from rfl)
  have c4 := (RR0.cell 4).trans (show _ = some (Value.string ⟨#[]⟩) from rfl)
  clear RR0
  go_enter Try.func53, Try.ntmps53
  go_wp2_with fail
  refine wp_region_held_drew (S := (fun w' => w'.cell? ⟨w.heap.size, 0, none⟩ = some (.int .i64 kd) ∧ w'.cell? ⟨w.heap.size, 1, none⟩ = some (.int .i64 n) ∧ w'.cell? ⟨w.heap.size, 2, none⟩ = some (.int .u64 h) ∧ w'.cell? ⟨w.heap.size, 3, none⟩ = some (.int .u64 l) ∧ w'.cell? ⟨w.heap.size, 4, none⟩ = some (.string ⟨#[]⟩) ∧ Below w.heap.size w w')) (by kernel_rfl) ?hSr1_ (fun hHeld => ?_)
  case hSr1_ => (first | exact ⟨c0, c1, c2, c3, c4, hb0.drew⟩ | exact ⟨c0, c1, c2, c3, c4, hb0⟩ | (obtain ⟨c0, c1, c2, c3, c4, hb0⟩ := hHeld; exact ⟨cell_later hb c0, cell_later hb c1, cell_later hb c2, cell_later hb c3, cell_later hb c4, below_step hb0 hb⟩))
  refine wpAnyH_take (i := 0) (oi := { dst := some 38, op := Go.Op.fieldAddr 24 (Go.Operand.tmp 1) 0, type := 0, pos := _, after := #[], guard := none }) (v := ?vr1_1_0) rfl (by kernel_rfl) (by kernel_rfl) (by kernel_rfl) (fun _ _ _ h => h) (Or.inl ⟨by rfl, ?yr1_1_0⟩) hHeld ?_
  case yr1_1_0 => ((intro w hSw; (try dsimp only at hSw); go_simp) <;> with_reducible rfl)
  (try simp only [Act.put, List.setIfInBounds_toArray, List.set_cons_zero, List.set_cons_succ])
  refine wpAnyH_take (i := 1) (oi := { dst := some 39, op := Go.Op.load 3 (Go.Operand.tmp 38), type := 3, pos := _, after := #[{ on := 0, ground := Go.Ground.data }], guard := none }) (v := ?vr1_2_1) rfl (by kernel_rfl) (by kernel_rfl) (by kernel_rfl) (fun _ _ _ h => h) (Or.inl ⟨by rfl, ?yr1_2_1⟩) hHeld ?_
  case yr1_2_1 => ((intro w hSw; (try dsimp only at hSw); go_simp) <;> with_reducible rfl)
  (try simp only [Act.put, List.setIfInBounds_toArray, List.set_cons_zero, List.set_cons_succ])
  refine wpAnyH_ready (rs := [2]) (by kernel_rfl) (by simp) ?_
  refine AllReadyH.cons (o := { dst := some 40, op := Go.Op.call { callee := Go.Callee.value (Go.Operand.func 21), args := #[Go.Operand.tmp 39], argTypes := #[3] }, type := 3, pos := _, after := #[{ on := 1, ground := Go.Ground.data }], guard := none }) rfl (fun K hK => ?_) AllReadyH.nil
  (go_simp; (refine (HW _).mono ?_); (rintro e wn ⟨rfl, hb⟩); go_wp2_with fail)
  refine hK.out _ _ ?hSr1_3_2 (fun hHeld2 => ?_)
  case hSr1_3_2 => (first | exact ⟨c0, c1, c2, c3, c4, hb0.drew⟩ | exact ⟨c0, c1, c2, c3, c4, hb0⟩ | (obtain ⟨c0, c1, c2, c3, c4, hb0⟩ := hHeld; exact ⟨cell_later hb c0, cell_later hb c1, cell_later hb c2, cell_later hb c3, cell_later hb c4, below_step hb0 hb⟩))
  clear hK K hHeld
  have hHeld := hHeld2
  clear hHeld2
  (try simp only [Act.put, List.setIfInBounds_toArray, List.set_cons_zero, List.set_cons_succ])
  refine wpAnyH_take (i := 3) (oi := { dst := some 41, op := Go.Op.binOp Go.BinOp.eql 3 (Go.Operand.tmp 40) (Go.Operand.const (Go.Value.int Go.IntKind.i64 0)) 3, type := 4, pos := _, after := #[{ on := 2, ground := Go.Ground.data }], guard := none }) (v := ?vr1_4_3) rfl (by kernel_rfl) (by kernel_rfl) (by kernel_rfl) (fun _ _ _ h => h) (Or.inl ⟨by rfl, ?yr1_4_3⟩) hHeld ?_
  case yr1_4_3 => ((intro w hSw; (try dsimp only at hSw); go_simp) <;> with_reducible rfl)
  (try simp only [Act.put, List.setIfInBounds_toArray, List.set_cons_zero, List.set_cons_succ])
  refine wpAnyH_take (i := 4) (oi := { dst := some 42, op := Go.Op.move (Go.Operand.tmp 41), type := 4, pos := _, after := #[{ on := 3, ground := Go.Ground.data }, { on := 2, ground := Go.Ground.chain }], guard := none }) (v := ?vr1_5_4) rfl (by kernel_rfl) (by kernel_rfl) (by kernel_rfl) (fun _ _ _ h => h) (Or.inl ⟨by rfl, ?yr1_5_4⟩) hHeld ?_
  case yr1_5_4 => ((intro w hSw; (try dsimp only at hSw); go_simp) <;> with_reducible rfl)
  (try simp only [Act.put, List.setIfInBounds_toArray, List.set_cons_zero, List.set_cons_succ])
  refine wpAnyH_take (i := 5) (oi := { dst := some 43, op := Go.Op.fieldAddr 24 (Go.Operand.tmp 1) 1, type := 0, pos := _, after := #[{ on := 4, ground := Go.Ground.guard }], guard := some (4, false) }) (v := ?vr1_6_5) rfl (by kernel_rfl) (by kernel_rfl) (by kernel_rfl) (fun _ _ _ h => h) (Or.inl ⟨by rfl, ?yr1_6_5⟩) hHeld ?_
  case yr1_6_5 => ((intro w hSw; (try dsimp only at hSw); go_simp) <;> with_reducible rfl)
  (try simp only [Act.put, List.setIfInBounds_toArray, List.set_cons_zero, List.set_cons_succ])
  refine wpAnyH_take (i := 6) (oi := { dst := some 44, op := Go.Op.load 3 (Go.Operand.tmp 43), type := 3, pos := _, after := #[{ on := 5, ground := Go.Ground.data }, { on := 4, ground := Go.Ground.guard }], guard := some (4, false) }) (v := ?vr1_7_6) rfl (by kernel_rfl) (by kernel_rfl) (by kernel_rfl) (fun _ _ _ h => h) (Or.inl ⟨by rfl, ?yr1_7_6⟩) hHeld ?_
  case yr1_7_6 => ((intro w hSw; (try dsimp only at hSw); go_simp) <;> with_reducible rfl)
  (try simp only [Act.put, List.setIfInBounds_toArray, List.set_cons_zero, List.set_cons_succ])
  refine wpAnyH_take (i := 7) (oi := { dst := some 45, op := Go.Op.binOp Go.BinOp.lss 3 (Go.Operand.tmp 44) (Go.Operand.const (Go.Value.int Go.IntKind.i64 0)) 3, type := 4, pos := _, after := #[{ on := 6, ground := Go.Ground.data }, { on := 4, ground := Go.Ground.guard }], guard := some (4, false) }) (v := ?vr1_8_7) rfl (by kernel_rfl) (by kernel_rfl) (by kernel_rfl) (fun _ _ _ h => h) (Or.inl ⟨by rfl, ?yr1_8_7⟩) hHeld ?_
  case yr1_8_7 => ((intro w hSw; (try dsimp only at hSw); go_simp) <;> with_reducible rfl)
  (try simp only [Act.put, List.setIfInBounds_toArray, List.set_cons_zero, List.set_cons_succ])
  refine wpAnyH_take (i := 8) (oi := { dst := some 46, op := Go.Op.pick (Go.Operand.tmp 42) (Go.Operand.const (Go.Value.bool true)) (Go.Operand.tmp 45), type := 4, pos := _, after := #[{ on := 4, ground := Go.Ground.data }, { on := 7, ground := Go.Ground.data }], guard := none }) (v := ?vr1_9_8) rfl (by kernel_rfl) (by kernel_rfl) (by kernel_rfl) (fun _ _ _ h => h) (Or.inl ⟨by rfl, ?yr1_9_8⟩) hHeld ?_
  case yr1_9_8 => ((intro w hSw; (try dsimp only at hSw); go_simp) <;> with_reducible rfl)
  (try simp only [Act.put, List.setIfInBounds_toArray, List.set_cons_zero, List.set_cons_succ])
  refine wpAnyH_take (i := 9) (oi := { dst := some 47, op := Go.Op.move (Go.Operand.tmp 46), type := 4, pos := _, after := #[{ on := 8, ground := Go.Ground.data }, { on := 4, ground := Go.Ground.chain }], guard := none }) (v := ?vr1_10_9) rfl (by kernel_rfl) (by kernel_rfl) (by kernel_rfl) (fun _ _ _ h => h) (Or.inl ⟨by rfl, ?yr1_10_9⟩) hHeld ?_
  case yr1_10_9 => ((intro w hSw; (try dsimp only at hSw); go_simp) <;> with_reducible rfl)
  (try simp only [Act.put, List.setIfInBounds_toArray, List.set_cons_zero, List.set_cons_succ])
  refine wpAnyH_take (i := 10) (oi := { dst := some 48, op := Go.Op.fieldAddr 24 (Go.Operand.tmp 1) 1, type := 0, pos := _, after := #[{ on := 9, ground := Go.Ground.guard }], guard := some (9, false) }) (v := ?vr1_11_10) rfl (by kernel_rfl) (by kernel_rfl) (by kernel_rfl) (fun _ _ _ h => h) (Or.inl ⟨by rfl, ?yr1_11_10⟩) hHeld ?_
  case yr1_11_10 => ((intro w hSw; (try dsimp only at hSw); go_simp) <;> with_reducible rfl)
  (try simp only [Act.put, List.setIfInBounds_toArray, List.set_cons_zero, List.set_cons_succ])
  refine wpAnyH_take (i := 11) (oi := { dst := some 49, op := Go.Op.load 3 (Go.Operand.tmp 48), type := 3, pos := _, after := #[{ on := 10, ground := Go.Ground.data }, { on := 9, ground := Go.Ground.guard }], guard := some (9, false) }) (v := ?vr1_12_11) rfl (by kernel_rfl) (by kernel_rfl) (by kernel_rfl) (fun _ _ _ h => h) (Or.inl ⟨by rfl, ?yr1_12_11⟩) hHeld ?_
  case yr1_12_11 => ((intro w hSw; (try dsimp only at hSw); go_simp) <;> with_reducible rfl)
  (try simp only [Act.put, List.setIfInBounds_toArray, List.set_cons_zero, List.set_cons_succ])
  refine wpAnyH_take (i := 12) (oi := { dst := some 50, op := Go.Op.fieldAddr 24 (Go.Operand.tmp 1) 0, type := 0, pos := _, after := #[{ on := 9, ground := Go.Ground.guard }], guard := some (9, false) }) (v := ?vr1_13_12) rfl (by kernel_rfl) (by kernel_rfl) (by kernel_rfl) (fun _ _ _ h => h) (Or.inl ⟨by rfl, ?yr1_13_12⟩) hHeld ?_
  case yr1_13_12 => ((intro w hSw; (try dsimp only at hSw); go_simp) <;> with_reducible rfl)
  (try simp only [Act.put, List.setIfInBounds_toArray, List.set_cons_zero, List.set_cons_succ])
  refine wpAnyH_take (i := 13) (oi := { dst := some 51, op := Go.Op.load 3 (Go.Operand.tmp 50), type := 3, pos := _, after := #[{ on := 12, ground := Go.Ground.data }, { on := 9, ground := Go.Ground.guard }], guard := some (9, false) }) (v := ?vr1_14_13) rfl (by kernel_rfl) (by kernel_rfl) (by kernel_rfl) (fun _ _ _ h => h) (Or.inl ⟨by rfl, ?yr1_14_13⟩) hHeld ?_
  case yr1_14_13 => ((intro w hSw; (try dsimp only at hSw); go_simp) <;> with_reducible rfl)
  (try simp only [Act.put, List.setIfInBounds_toArray, List.set_cons_zero, List.set_cons_succ])
  refine wpAnyH_ready (rs := [14]) (by kernel_rfl) (by simp) ?_
  refine AllReadyH.cons (o := { dst := some 52, op := Go.Op.call { callee := Go.Callee.value (Go.Operand.func 21), args := #[Go.Operand.tmp 51], argTypes := #[3] }, type := 3, pos := _, after := #[{ on := 13, ground := Go.Ground.data }, { on := 9, ground := Go.Ground.chain }, { on := 9, ground := Go.Ground.guard }], guard := some (9, false) }) rfl (fun K hK => ?_) AllReadyH.nil
  (go_simp; (refine (HW _).mono ?_); (rintro e wn ⟨rfl, hb⟩); go_wp2_with fail)
  refine hK.out _ _ ?hSr1_15_14 (fun hHeld2 => ?_)
  case hSr1_15_14 => (first | exact ⟨c0, c1, c2, c3, c4, hb0.drew⟩ | exact ⟨c0, c1, c2, c3, c4, hb0⟩ | (obtain ⟨c0, c1, c2, c3, c4, hb0⟩ := hHeld; exact ⟨cell_later hb c0, cell_later hb c1, cell_later hb c2, cell_later hb c3, cell_later hb c4, below_step hb0 hb⟩))
  clear hK K hHeld
  have hHeld := hHeld2
  clear hHeld2
  (try simp only [Act.put, List.setIfInBounds_toArray, List.set_cons_zero, List.set_cons_succ])
  refine wpAnyH_take (i := 15) (oi := { dst := some 53, op := Go.Op.binOp Go.BinOp.gtr 3 (Go.Operand.tmp 49) (Go.Operand.tmp 52) 3, type := 4, pos := _, after := #[{ on := 11, ground := Go.Ground.data }, { on := 14, ground := Go.Ground.data }, { on := 9, ground := Go.Ground.guard }], guard := some (9, false) }) (v := ?vr1_16_15) rfl (by kernel_rfl) (by kernel_rfl) (by kernel_rfl) (fun _ _ _ h => h) (Or.inl ⟨by rfl, ?yr1_16_15⟩) hHeld ?_
  case yr1_16_15 => ((intro w hSw; (try dsimp only at hSw); go_simp) <;> with_reducible rfl)
  (try simp only [Act.put, List.setIfInBounds_toArray, List.set_cons_zero, List.set_cons_succ])
  refine wpAnyH_take (i := 16) (oi := { dst := some 54, op := Go.Op.pick (Go.Operand.tmp 47) (Go.Operand.const (Go.Value.bool true)) (Go.Operand.tmp 53), type := 4, pos := _, after := #[{ on := 9, ground := Go.Ground.data }, { on := 15, ground := Go.Ground.data }], guard := none }) (v := ?vr1_17_16) rfl (by kernel_rfl) (by kernel_rfl) (by kernel_rfl) (fun _ _ _ h => h) (Or.inl ⟨by rfl, ?yr1_17_16⟩) hHeld ?_
  case yr1_17_16 => ((intro w hSw; (try dsimp only at hSw); go_simp) <;> with_reducible rfl)
  (try simp only [Act.put, List.setIfInBounds_toArray, List.set_cons_zero, List.set_cons_succ])
  refine wpAnyH_take (i := 17) (oi := { dst := some 55, op := Go.Op.move (Go.Operand.tmp 54), type := 4, pos := _, after := #[{ on := 16, ground := Go.Ground.data }, { on := 14, ground := Go.Ground.chain }], guard := none }) (v := ?vr1_18_17) rfl (by kernel_rfl) (by kernel_rfl) (by kernel_rfl) (fun _ _ _ h => h) (Or.inl ⟨by rfl, ?yr1_18_17⟩) hHeld ?_
  case yr1_18_17 => ((intro w hSw; (try dsimp only at hSw); go_simp) <;> with_reducible rfl)
  (try simp only [Act.put, List.setIfInBounds_toArray, List.set_cons_zero, List.set_cons_succ])
  refine wpAnyH_take (i := 18) (oi := { dst := some 56, op := Go.Op.fieldAddr 24 (Go.Operand.tmp 1) 4, type := 0, pos := _, after := #[{ on := 17, ground := Go.Ground.guard }], guard := some (17, false) }) (v := ?vr1_19_18) rfl (by kernel_rfl) (by kernel_rfl) (by kernel_rfl) (fun _ _ _ h => h) (Or.inl ⟨by rfl, ?yr1_19_18⟩) hHeld ?_
  case yr1_19_18 => ((intro w hSw; (try dsimp only at hSw); go_simp) <;> with_reducible rfl)
  (try simp only [Act.put, List.setIfInBounds_toArray, List.set_cons_zero, List.set_cons_succ])
  refine wpAnyH_take (i := 19) (oi := { dst := some 57, op := Go.Op.load 9 (Go.Operand.tmp 56), type := 9, pos := _, after := #[{ on := 18, ground := Go.Ground.data }, { on := 17, ground := Go.Ground.guard }], guard := some (17, false) }) (v := ?vr1_20_19) rfl (by kernel_rfl) (by kernel_rfl) (by kernel_rfl) (fun _ _ _ h => h) (Or.inl ⟨by rfl, ?yr1_20_19⟩) hHeld ?_
  case yr1_20_19 => ((intro w hSw; (try dsimp only at hSw); go_simp) <;> with_reducible rfl)
  (try simp only [Act.put, List.setIfInBounds_toArray, List.set_cons_zero, List.set_cons_succ])
  refine wpAnyH_take (i := 20) (oi := { dst := some 58, op := Go.Op.binOp Go.BinOp.neq 9 (Go.Operand.tmp 57) (Go.Operand.const (Go.Value.string { data := #[] })) 9, type := 4, pos := _, after := #[{ on := 19, ground := Go.Ground.data }, { on := 17, ground := Go.Ground.guard }], guard := some (17, false) }) (v := ?vr1_21_20) rfl (by kernel_rfl) (by kernel_rfl) (by kernel_rfl) (fun _ _ _ h => h) (Or.inl ⟨by rfl, ?yr1_21_20⟩) hHeld ?_
  case yr1_21_20 => ((intro w hSw; (try dsimp only at hSw); go_simp) <;> with_reducible rfl)
  (try simp only [Act.put, List.setIfInBounds_toArray, List.set_cons_zero, List.set_cons_succ])
  refine wpAnyH_take (i := 21) (oi := { dst := some 59, op := Go.Op.pick (Go.Operand.tmp 55) (Go.Operand.const (Go.Value.bool true)) (Go.Operand.tmp 58), type := 4, pos := _, after := #[{ on := 17, ground := Go.Ground.data }, { on := 20, ground := Go.Ground.data }], guard := none }) (v := ?vr1_22_21) rfl (by kernel_rfl) (by kernel_rfl) (by kernel_rfl) (fun _ _ _ h => h) (Or.inl ⟨by rfl, ?yr1_22_21⟩) hHeld ?_
  case yr1_22_21 => ((intro w hSw; (try dsimp only at hSw); go_simp) <;> with_reducible rfl)
  (try simp only [Act.put, List.setIfInBounds_toArray, List.set_cons_zero, List.set_cons_succ])
  refine wpAnyH_done (by kernel_rfl) ?_ _
  clear c0 c1 c2 c3 c4 hb0
  obtain ⟨c0, c1, c2, c3, c4, hb0⟩ := hHeld
  clear HW t0 t1 t2 hn hk3 hk3'
  have lc := World.block_lt_of_cell? _ _ c0
  dsimp only at lc
  have hb0s := hb0.size
  go_wp2_with fail
  have HB0 := Lib.hid hb0
  clear hb0 c0 c4
  go_loopw [6, 7] (fun o i wr => ∃ (j m : Nat) (po : Option Addr) (co : Nat), o = .slice po m co ∧ i = .int .i64 (j : Nat) ∧ j ≤ 128 ∧ Hid (m = (lets A n j).length) ∧ Hid (∀ t : Nat, n ≤ t → t < j → bitI A t = false) ∧ Hid (OwnS wn.heap.size wr (.slice po m co) (lets A n j)) ∧ Hid (Below wn.heap.size wn wr)) (fun _ i _ => 128 - (intOf i).toNat)
  case atStart => exact ⟨0, 0, none, 0, rfl, rfl, by omega, Lib.hid (by rw [lets_zero]; rfl), Lib.hid (fun t _ h => by omega), Lib.hid (by rw [lets_zero]; exact OwnS.nil _ _), Lib.hid (Below.refl _ _)⟩
  case round =>
    obtain ⟨j, m, po, co, rfl, rfl, hj, hm, hz, hO, hB⟩ := hrel
    by_cases hlt : j < 128
    · have HTj := HT j hlt wr
      have d1 := cell_later hB.out c1
      have d2 := cell_later hB.out c2
      have d3 := cell_later hB.out c3
      have hsz := hB.out.size
      have HBj := Lib.hid (HB.out j)
      have HM := Lib.hid (@lets_more A n j)
      have HS := Lib.hid (@lets_stay A n j)
      have HZ := Lib.hid (show bitI A j = false ∨ j < n → ∀ t : Nat, n ≤ t → t < j + 1 → bitI A t = false from fun h t h1 h2 => by
        by_cases e : t = j
        · subst e
          rcases h with h | h
          · exact h
          · omega
        · exact hz.out t h1 (by omega))
      clear HB HG hz HT
      have hll8 : (lets A n j).length ≤ 128 := by rw [lets_len]; omega
      generalize bitI A j = b at *
      generalize lets A n j = ll at *
      go_wp2_with fail
      refine HTj.mono ?_
      rintro e w2 ⟨rfl, hb⟩
      replace d1 := cell_later hb d1
      replace hO := Lib.hid (hO.out.later hb)
      replace hB := Lib.hid (hB.out.trans (hb.mono hsz))
      replace hsz : wn.heap.size ≤ w2.heap.size := hB.out.size
      clear hb HTj d2 d3
      cases b with
      | true =>
        have e1 : bit01 true = 1 := rfl
        rw [e1]
        by_cases hjn : j < n
        · have hll := HM.out hjn
          obtain ⟨v', w3, hrun, hown, hb3⟩ := appS_one [49] hO.out hB.out (by omega) hsz
          rw [show bitS true = [49] from rfl] at hll
          rw [← hll] at hown
          obtain ⟨pv, cv, rfl, _, _⟩ := hown.read
          have d1n := cell_later hb3 c1
          have HOW := Lib.hid hown
          have HB3 := Lib.hid hb3
          have HRUN := Lib.hid hrun
          have HZ' := Lib.hid (HZ.out (.inr hjn))
          clear hrun hown hb3 HZ HM HS HBj hO hB hm
          generalize hm' : (lets A n (j + 1)).length = m' at *
          have HM' := Lib.hid hm'.symm
          clear hm' hll
          have tok : True := trivial
          go_wp2_with (have _t := tok; at_builtin; refine wpList_appS rfl (.tmp 85) (.tmp 86) 64 rfl rfl rfl HRUN.out ?_; clear tok HRUN)
          exact ⟨⟨j + 1, m', pv, cv, rfl, by go_num, by omega, HM', HZ', HOW, HB3⟩, by simp [intOf]; omega⟩
        · have hjn' : n ≤ j := by omega
          have HX := Lib.hid (HBj.out hjn' hlt rfl _ (below_step HB0.out hB.out))
          clear HZ HM HS HBj hO hB hm
          go_wp2
          exact HX.out
      | false =>
        have e1 : bit01 false = 0 := rfl
        rw [e1]
        have HZ' := Lib.hid (HZ.out (.inl rfl))
        by_cases hjn : j < n
        · have hll := HM.out hjn
          obtain ⟨v', w3, hrun, hown, hb3⟩ := appS_one [48] hO.out hB.out (by omega) hsz
          rw [show bitS false = [48] from rfl] at hll
          rw [← hll] at hown
          obtain ⟨pv, cv, rfl, _, _⟩ := hown.read
          have HOW := Lib.hid hown
          have HB3 := Lib.hid hb3
          have HRUN := Lib.hid hrun
          clear hrun hown hb3 HZ HM HS HBj hO hB hm
          generalize hm' : (lets A n (j + 1)).length = m' at *
          have HM' := Lib.hid hm'.symm
          clear hm' hll
          have tok : True := trivial
          go_wp2_with (have _t := tok; at_builtin; refine wpList_appS rfl (.tmp 96) (.tmp 97) 64 rfl rfl rfl HRUN.out ?_; clear tok HRUN)
          exact ⟨⟨j + 1, m', pv, cv, rfl, by go_num, by omega, HM', HZ', HOW, HB3⟩, by simp [intOf]; omega⟩
        · have hjn' : n ≤ j := by omega
          have hst := HS.out hjn'
          rw [← hst] at hO hm
          clear HZ HM HS HBj hst
          go_wp2
          exact ⟨⟨j + 1, m, po, co, rfl, by go_num, by omega, hm, HZ', hO, hB⟩, by simp [intOf]; omega⟩
    · have hj8 : j = 128 := by omega
      subst hj8
      have HX := Lib.hid (HG.out _ _ (fun t h1 h2 => hz.out t h1 h2) hO.out.read (below_step HB0.out hB.out))
      clear HB HG hz HT hO hB hm
      go_wp2
      exact HX.out
end Go.Proofs.Ytekoicbjpoeijaa
