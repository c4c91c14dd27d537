/- The walk of KeyOrders: it returns true. No conditions beyond lengths. -/
import Derived.Test.YtekoicbjpoeijaaK10
import Derived.Test.YtekoicbjpoeijaaKR12
namespace Go.Proofs.Ytekoicbjpoeijaa
set_option linter.unusedVariables false
set_option linter.unusedSimpArgs false
open Go.RowKit
set_option maxRecDepth 100000 in
set_option maxHeartbeats 16000000 in
theorem keyOrders_t (a b : Ke) (ha : a.ok) (hb' : b.ok) (w : World) : Calls Try.prog 6 #[kv a, kv b] w fun e w' => e = .returned (.bool true) ∧ Below w.heap.size w w' := by
  have HC := kcmp_t a b ha hb'
  have HR := rcmp_t a b ha hb'
  clear ha hb'
  generalize cmpK a b = r at *
  unfold kv at *
  obtain ⟨RR0, RR1, hb0⟩ := two_rows w #[.int .i64 a.kind, .int .i64 a.len, .int .u64 a.h, .int .u64 a.l, .string ⟨a.path.toArray⟩] #[.int .i64 b.kind, .int .i64 b.len, .int .u64 b.h, .int .u64 b.l, .string ⟨b.path.toArray⟩] 24 24
  have c0 := (RR0.cell 0).trans (show _ = some (Value.int .i64 a.kind) from rfl)
  have c1 := (RR0.cell 1).trans (show _ = some (Value.int .i64 a.len) from rfl)
  have c2 := (RR0.cell 2).trans (show _ = some (Value.int .u64 a.h) from rfl)
  have c3 := (RR0.cell 3).trans (show _ = some (Value.int .u64 a.l) from rfl)
  have c4 := (RR0.cell 4).trans (show _ = some (Value.string ⟨a.path.toArray⟩) from rfl)
  have d0 := (RR1.cell 0).trans (show _ = some (Value.int .i64 b.kind) from rfl)
  have d1 := (RR1.cell 1).trans (show _ = some (Value.int .i64 b.len) from rfl)
  have d2 := (RR1.cell 2).trans (show _ = some (Value.int .u64 b.h) from rfl)
  have d3 := (RR1.cell 3).trans (show _ = some (Value.int .u64 b.l) from rfl)
  have d4 := (RR1.cell 4).trans (show _ = some (Value.string ⟨b.path.toArray⟩) from rfl)
  clear RR0 RR1
  go_enter Try.func6, Try.ntmps6
  go_wp2_with fail
  refine wp_region_held_drew (S := (fun w' => w'.cell? ⟨w.heap.size, 0, none⟩ = some (.int .i64 a.kind) ∧ w'.cell? ⟨w.heap.size, 1, none⟩ = some (.int .i64 a.len) ∧ w'.cell? ⟨w.heap.size, 2, none⟩ = some (.int .u64 a.h) ∧ w'.cell? ⟨w.heap.size, 3, none⟩ = some (.int .u64 a.l) ∧ w'.cell? ⟨w.heap.size, 4, none⟩ = some (.string ⟨a.path.toArray⟩) ∧ w'.cell? ⟨w.heap.size + 1, 0, none⟩ = some (.int .i64 b.kind) ∧ w'.cell? ⟨w.heap.size + 1, 1, none⟩ = some (.int .i64 b.len) ∧ w'.cell? ⟨w.heap.size + 1, 2, none⟩ = some (.int .u64 b.h) ∧ w'.cell? ⟨w.heap.size + 1, 3, none⟩ = some (.int .u64 b.l) ∧ w'.cell? ⟨w.heap.size + 1, 4, none⟩ = some (.string ⟨b.path.toArray⟩) ∧ Below w.heap.size w w')) (by kernel_rfl) ?hSr1_ (fun hHeld => ?_)
  case hSr1_ => (first | exact ⟨c0, c1, c2, c3, c4, d0, d1, d2, d3, d4, hb0.drew⟩ | exact ⟨c0, c1, c2, c3, c4, d0, d1, d2, d3, d4, hb0⟩ | (obtain ⟨c0, c1, c2, c3, c4, d0, d1, d2, d3, d4, hb0⟩ := hHeld; exact ⟨cell_later hb c0, cell_later hb c1, cell_later hb c2, cell_later hb c3, cell_later hb c4, cell_later hb d0, cell_later hb d1, cell_later hb d2, cell_later hb d3, cell_later hb d4, below_step hb0 hb⟩))
  refine wpAnyH_ready (rs := [0]) (by kernel_rfl) (by simp) ?_
  refine AllReadyH.cons (o := { dst := some 5, op := Go.Op.call { callee := Go.Callee.value (Go.Operand.func 18), args := #[], argTypes := #[] }, type := 4, pos := _, after := #[], guard := none }) rfl (fun K hK => ?_) AllReadyH.nil
  (go_simp; (refine (alive7_t _).mono ?_); (rintro e wn ⟨rfl, hb⟩); go_wp2_with fail)
  refine hK.out _ _ ?hSr1_1_0 (fun hHeld2 => ?_)
  case hSr1_1_0 => (first | exact ⟨c0, c1, c2, c3, c4, d0, d1, d2, d3, d4, hb0.drew⟩ | exact ⟨c0, c1, c2, c3, c4, d0, d1, d2, d3, d4, hb0⟩ | (obtain ⟨c0, c1, c2, c3, c4, d0, d1, d2, d3, d4, hb0⟩ := hHeld; exact ⟨cell_later hb c0, cell_later hb c1, cell_later hb c2, cell_later hb c3, cell_later hb c4, cell_later hb d0, cell_later hb d1, cell_later hb d2, cell_later hb d3, cell_later hb d4, below_step hb0 hb⟩))
  clear hK K hHeld
  have hHeld := hHeld2
  clear hHeld2
  (try simp only [Act.put, List.setIfInBounds_toArray, List.set_cons_zero, List.set_cons_succ])
  refine wpAnyH_take (i := 1) (oi := { dst := some 6, op := Go.Op.move (Go.Operand.tmp 5), type := 4, pos := _, after := #[{ on := 0, ground := Go.Ground.data }, { on := 0, ground := Go.Ground.chain }], guard := none }) (v := ?vr1_2_1) rfl (by kernel_rfl) (by kernel_rfl) (by kernel_rfl) (fun _ _ _ h => h) (Or.inl ⟨by rfl, ?yr1_2_1⟩) hHeld ?_
  case yr1_2_1 => ((intro w hSw; (try dsimp only at hSw); go_simp) <;> with_reducible rfl)
  (try simp only [Act.put, List.setIfInBounds_toArray, List.set_cons_zero, List.set_cons_succ])
  refine wpAnyH_take (i := 2) (oi := { dst := some 7, op := Go.Op.load 24 (Go.Operand.tmp 2), type := 24, pos := _, after := #[{ on := 1, ground := Go.Ground.guard }], guard := some (1, true) }) (v := ?vr1_3_2) rfl (by kernel_rfl) (by kernel_rfl) (by kernel_rfl) (fun _ _ _ h => h) (Or.inl ⟨by rfl, ?yr1_3_2⟩) hHeld ?_
  case yr1_3_2 => ((intro w hSw; (try dsimp only at hSw); go_simp) <;> with_reducible rfl)
  (try simp only [Act.put, List.setIfInBounds_toArray, List.set_cons_zero, List.set_cons_succ])
  refine wpAnyH_take (i := 3) (oi := { dst := some 8, op := Go.Op.load 24 (Go.Operand.tmp 3), type := 24, pos := _, after := #[{ on := 1, ground := Go.Ground.guard }], guard := some (1, true) }) (v := ?vr1_4_3) rfl (by kernel_rfl) (by kernel_rfl) (by kernel_rfl) (fun _ _ _ h => h) (Or.inl ⟨by rfl, ?yr1_4_3⟩) hHeld ?_
  case yr1_4_3 => ((intro w hSw; (try dsimp only at hSw); go_simp) <;> with_reducible rfl)
  (try simp only [Act.put, List.setIfInBounds_toArray, List.set_cons_zero, List.set_cons_succ])
  refine wpAnyH_take (i := 5) (oi := { dst := some 10, op := Go.Op.load 24 (Go.Operand.tmp 2), type := 24, pos := _, after := #[{ on := 1, ground := Go.Ground.guard }], guard := some (1, true) }) (v := ?vr1_5_5) rfl (by kernel_rfl) (by kernel_rfl) (by kernel_rfl) (fun _ _ _ h => h) (Or.inl ⟨by rfl, ?yr1_5_5⟩) hHeld ?_
  case yr1_5_5 => ((intro w hSw; (try dsimp only at hSw); go_simp) <;> with_reducible rfl)
  (try simp only [Act.put, List.setIfInBounds_toArray, List.set_cons_zero, List.set_cons_succ])
  refine wpAnyH_take (i := 6) (oi := { dst := some 11, op := Go.Op.load 24 (Go.Operand.tmp 3), type := 24, pos := _, after := #[{ on := 1, ground := Go.Ground.guard }], guard := some (1, true) }) (v := ?vr1_6_6) rfl (by kernel_rfl) (by kernel_rfl) (by kernel_rfl) (fun _ _ _ h => h) (Or.inl ⟨by rfl, ?yr1_6_6⟩) hHeld ?_
  case yr1_6_6 => ((intro w hSw; (try dsimp only at hSw); go_simp) <;> with_reducible rfl)
  (try simp only [Act.put, List.setIfInBounds_toArray, List.set_cons_zero, List.set_cons_succ])
  refine wpAnyH_ready (rs := [4]) (by kernel_rfl) (by simp) ?_
  refine AllReadyH.cons (o := { dst := some 9, op := Go.Op.call { callee := Go.Callee.value (Go.Operand.func 36), args := #[Go.Operand.tmp 7, Go.Operand.tmp 8], argTypes := #[24, 24] }, type := 3, pos := _, after := #[{ on := 2, ground := Go.Ground.data }, { on := 3, ground := Go.Ground.data }, { on := 1, ground := Go.Ground.chain }, { on := 1, ground := Go.Ground.guard }], guard := some (1, true) }) rfl (fun K hK => ?_) AllReadyH.nil
  (go_simp; (refine (HC _).mono ?_); (rintro e wn ⟨rfl, hb⟩); go_wp2_with fail)
  refine hK.out _ _ ?hSr1_7_4 (fun hHeld2 => ?_)
  case hSr1_7_4 => (first | exact ⟨c0, c1, c2, c3, c4, d0, d1, d2, d3, d4, hb0.drew⟩ | exact ⟨c0, c1, c2, c3, c4, d0, d1, d2, d3, d4, hb0⟩ | (obtain ⟨c0, c1, c2, c3, c4, d0, d1, d2, d3, d4, hb0⟩ := hHeld; exact ⟨cell_later hb c0, cell_later hb c1, cell_later hb c2, cell_later hb c3, cell_later hb c4, cell_later hb d0, cell_later hb d1, cell_later hb d2, cell_later hb d3, cell_later hb d4, below_step hb0 hb⟩))
  clear hK K hHeld
  have hHeld := hHeld2
  clear hHeld2
  (try simp only [Act.put, List.setIfInBounds_toArray, List.set_cons_zero, List.set_cons_succ])
  refine wpAnyH_ready (rs := [7]) (by kernel_rfl) (by simp) ?_
  refine AllReadyH.cons (o := { dst := some 12, op := Go.Op.call { callee := Go.Callee.value (Go.Operand.func 37), args := #[Go.Operand.tmp 10, Go.Operand.tmp 11], argTypes := #[24, 24] }, type := 3, pos := _, after := #[{ on := 5, ground := Go.Ground.data }, { on := 6, ground := Go.Ground.data }, { on := 4, ground := Go.Ground.chain }, { on := 1, ground := Go.Ground.guard }], guard := some (1, true) }) rfl (fun K hK => ?_) AllReadyH.nil
  (go_simp; (refine (HR _).mono ?_); (rintro e wn ⟨rfl, hb⟩); go_wp2_with fail)
  refine hK.out _ _ ?hSr1_8_7 (fun hHeld2 => ?_)
  case hSr1_8_7 => (first | exact ⟨c0, c1, c2, c3, c4, d0, d1, d2, d3, d4, hb0.drew⟩ | exact ⟨c0, c1, c2, c3, c4, d0, d1, d2, d3, d4, hb0⟩ | (obtain ⟨c0, c1, c2, c3, c4, d0, d1, d2, d3, d4, hb0⟩ := hHeld; exact ⟨cell_later hb c0, cell_later hb c1, cell_later hb c2, cell_later hb c3, cell_later hb c4, cell_later hb d0, cell_later hb d1, cell_later hb d2, cell_later hb d3, cell_later hb d4, below_step hb0 hb⟩))
  clear hK K hHeld
  have hHeld := hHeld2
  clear hHeld2
  (try simp only [Act.put, List.setIfInBounds_toArray, List.set_cons_zero, List.set_cons_succ])
  refine wpAnyH_take (i := 8) (oi := { dst := some 13, op := Go.Op.binOp Go.BinOp.eql 3 (Go.Operand.tmp 9) (Go.Operand.tmp 12) 3, type := 4, pos := _, after := #[{ on := 4, ground := Go.Ground.data }, { on := 7, ground := Go.Ground.data }, { on := 1, ground := Go.Ground.guard }], guard := some (1, true) }) (v := ?vr1_9_8) rfl (by kernel_rfl) (by kernel_rfl) (by kernel_rfl) (fun _ _ _ h => h) (Or.inl ⟨by rfl, ?yr1_9_8⟩) hHeld ?_
  case yr1_9_8 => ((intro w hSw; (try dsimp only at hSw); go_simp) <;> with_reducible rfl)
  (try simp only [Act.put, List.setIfInBounds_toArray, List.set_cons_zero, List.set_cons_succ])
  refine wpAnyH_take (i := 9) (oi := { dst := some 14, op := Go.Op.pick (Go.Operand.tmp 6) (Go.Operand.tmp 13) (Go.Operand.const (Go.Value.bool false)), type := 4, pos := _, after := #[{ on := 1, ground := Go.Ground.data }, { on := 8, ground := Go.Ground.data }], guard := none }) (v := ?vr1_10_9) rfl (by kernel_rfl) (by kernel_rfl) (by kernel_rfl) (fun _ _ _ h => h) (Or.inl ⟨by rfl, ?yr1_10_9⟩) hHeld ?_
  case yr1_10_9 => ((intro w hSw; (try dsimp only at hSw); go_simp) <;> with_reducible rfl)
  (try simp only [Act.put, List.setIfInBounds_toArray, List.set_cons_zero, List.set_cons_succ])
  refine wpAnyH_take (i := 10) (oi := { dst := some 4, op := Go.Op.assign (Go.Operand.tmp 14), type := 4, pos := _, after := #[{ on := 9, ground := Go.Ground.data }, { on := 7, ground := Go.Ground.chain }, { on := 0, ground := Go.Ground.phase }, { on := 1, ground := Go.Ground.phase }, { on := 2, ground := Go.Ground.phase }, { on := 3, ground := Go.Ground.phase }, { on := 4, ground := Go.Ground.phase }, { on := 5, ground := Go.Ground.phase }, { on := 6, ground := Go.Ground.phase }, { on := 7, ground := Go.Ground.phase }, { on := 8, ground := Go.Ground.phase }, { on := 9, ground := Go.Ground.phase }], guard := none }) (v := ?vr1_11_10) rfl (by kernel_rfl) (by kernel_rfl) (by kernel_rfl) (fun _ _ _ h => h) (Or.inl ⟨by rfl, ?yr1_11_10⟩) hHeld ?_
  case yr1_11_10 => ((intro w hSw; (try dsimp only at hSw); go_simp) <;> with_reducible rfl)
  (try simp only [Act.put, List.setIfInBounds_toArray, List.set_cons_zero, List.set_cons_succ])
  refine wpAnyH_done (by kernel_rfl) ?_ _
  clear c0 c1 c2 c3 c4 d0 d1 d2 d3 d4 hb0
  obtain ⟨c0, c1, c2, c3, c4, d0, d1, d2, d3, d4, hb0⟩ := hHeld
  go_wp2
  go_ret
  exact ⟨rfl, hb0⟩
end Go.Proofs.Ytekoicbjpoeijaa
