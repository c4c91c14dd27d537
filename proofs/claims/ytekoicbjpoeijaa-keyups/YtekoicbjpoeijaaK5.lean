/- The functions Meet and Over of package key. No conditions beyond lengths. -/
import Derived.Test.YtekoicbjpoeijaaK4
namespace Go.Proofs.Ytekoicbjpoeijaa
set_option linter.unusedVariables false
set_option linter.unusedSimpArgs false
open Go.RowKit
theorem sameK_le (a b : Ke) : sameK a b ≤ 128 := by
  unfold sameK
  have h1 := sameN_le (labsL a.path) (labsL b.path)
  have h2 := labsL_len a.path
  have h3 := (sameI_spec a.num b.num).1
  split <;> omega
set_option maxHeartbeats 4000000 in
theorem kmeet_t (a b : Ke) (ha : a.ok) (hb' : b.ok) (w : World) : Calls Try.prog 28 #[kv a, kv b] w fun e w' => e = .returned (.tuple #[kv (meetK a b), .bool (meetB a b)]) ∧ Below w.heap.size w w' := by
  have HA := kright_t a ha
  have HB := kright_t b hb'
  have HS := ksame_t a b ha hb'
  have HT := ktop_t a (sameK a b) ha.h ha.l (by have := sameK_le a b; omega) ha.path
  have HD : meetK a b = if meetB a b = true then topK a (sameK a b) else kz := rfl
  have HM : meetB a b = (decide (a.kind = b.kind) && (rightK a && rightK b)) := rfl
  rw [HD, HM]
  clear HD HM
  generalize topK a (sameK a b) = t at *
  generalize sameK a b = s at *
  generalize rightK a = ra at *
  generalize rightK b = rb at *
  obtain ⟨ak, an, ah, al, ap⟩ := a
  obtain ⟨bk, bn, bh, bl, bp⟩ := b
  obtain ⟨t0, t1, t2, t3, t4⟩ := t
  clear ha hb'
  dsimp only
  unfold kv at HA HB HS HT
  dsimp only at *
  obtain ⟨R0, R1, R2, hb0⟩ := three_rows w #[.int .i64 ak, .int .i64 an, .int .u64 ah, .int .u64 al, .string ⟨ap.toArray⟩] #[.int .i64 bk, .int .i64 bn, .int .u64 bh, .int .u64 bl, .string ⟨bp.toArray⟩] #[.int .i64 0, .int .i64 0, .int .u64 0, .int .u64 0, .string ⟨#[]⟩] 24 24 24
  by_cases hk : ak = bk
  · subst hk
    have b0 : (ak == ak) = true := by simp
    rw [decide_eq_true rfl, Bool.true_and]
    cases ra with
    | false =>
      rw [Bool.false_and, if_neg (by simp)]
      unfold kv kz
      dsimp only
      go_enter Try.func28, Try.ntmps28
      go_wp2_with fail
      refine (HA _).mono ?_
      rintro e w1 ⟨rfl, hb⟩
      replace R2 := R2.later hb
      replace hb0 := below_step hb0 hb
      clear HA HB HS HT hb R0 R1
      have c0 := ((R2).cell 0).trans (show _ = some (Value.int .i64 0) from rfl)
      have cf0 := (R2).frozen 0
      have c1 := ((R2).cell 1).trans (show _ = some (Value.int .i64 0) from rfl)
      have cf1 := (R2).frozen 1
      have c2 := ((R2).cell 2).trans (show _ = some (Value.int .u64 0) from rfl)
      have cf2 := (R2).frozen 2
      have c3 := ((R2).cell 3).trans (show _ = some (Value.int .u64 0) from rfl)
      have cf3 := (R2).frozen 3
      have c4 := ((R2).cell 4).trans (show _ = some (Value.string ⟨#[]⟩) from rfl)
      have cf4 := (R2).frozen 4
      clear R2
      go_wp2
      refine bodyPost_ret (v := .tuple #[.agg #[.int .i64 0, .int .i64 0, .int .u64 0, .int .u64 0, .string ⟨#[]⟩], .bool false]) (by simp [results, Try.results28, go_sem, c0, c1, c2, c3, c4]) rfl ⟨rfl, bset5 hb0 (by omega) _ _ _ _ _⟩
    | true =>
      rw [Bool.true_and]
      cases rb with
      | false =>
        rw [if_neg (by simp)]
        unfold kv kz
        dsimp only
        go_enter Try.func28, Try.ntmps28
        go_wp2_with fail
        refine (HA _).mono ?_
        rintro e w1 ⟨rfl, hb⟩
        replace R2 := R2.later hb
        replace R1 := R1.later hb
        replace hb0 := below_step hb0 hb
        clear HA HS HT hb R0
        have d0 := ((R1).cell 0).trans (show _ = some (Value.int .i64 ak) from rfl)
        have df0 := (R1).frozen 0
        have d1 := ((R1).cell 1).trans (show _ = some (Value.int .i64 bn) from rfl)
        have df1 := (R1).frozen 1
        have d2 := ((R1).cell 2).trans (show _ = some (Value.int .u64 bh) from rfl)
        have df2 := (R1).frozen 2
        have d3 := ((R1).cell 3).trans (show _ = some (Value.int .u64 bl) from rfl)
        have df3 := (R1).frozen 3
        have d4 := ((R1).cell 4).trans (show _ = some (Value.string ⟨bp.toArray⟩) from rfl)
        have df4 := (R1).frozen 4
        clear R1
        go_wp2_with fail
        refine (HB _).mono ?_
        rintro e w2 ⟨rfl, hb⟩
        replace R2 := R2.later hb
        replace hb0 := below_step hb0 hb
        clear HB hb d0 d1 d2 d3 d4 df0 df1 df2 df3 df4
        have c0 := ((R2).cell 0).trans (show _ = some (Value.int .i64 0) from rfl)
        have cf0 := (R2).frozen 0
        have c1 := ((R2).cell 1).trans (show _ = some (Value.int .i64 0) from rfl)
        have cf1 := (R2).frozen 1
        have c2 := ((R2).cell 2).trans (show _ = some (Value.int .u64 0) from rfl)
        have cf2 := (R2).frozen 2
        have c3 := ((R2).cell 3).trans (show _ = some (Value.int .u64 0) from rfl)
        have cf3 := (R2).frozen 3
        have c4 := ((R2).cell 4).trans (show _ = some (Value.string ⟨#[]⟩) from rfl)
        have cf4 := (R2).frozen 4
        clear R2
        go_wp2
        refine bodyPost_ret (v := .tuple #[.agg #[.int .i64 0, .int .i64 0, .int .u64 0, .int .u64 0, .string ⟨#[]⟩], .bool false]) (by simp [results, Try.results28, go_sem, c0, c1, c2, c3, c4]) rfl ⟨rfl, bset5 hb0 (by omega) _ _ _ _ _⟩
      | true =>
        rw [if_pos rfl]
        unfold kv
        dsimp only
        go_enter Try.func28, Try.ntmps28
        go_wp2_with fail
        refine (HA _).mono ?_
        rintro e w1 ⟨rfl, hb⟩
        replace R2 := R2.later hb
        replace R1 := R1.later hb
        replace R0 := R0.later hb
        replace hb0 := below_step hb0 hb
        clear HA hb
        have d0 := ((R1).cell 0).trans (show _ = some (Value.int .i64 ak) from rfl)
        have df0 := (R1).frozen 0
        have d1 := ((R1).cell 1).trans (show _ = some (Value.int .i64 bn) from rfl)
        have df1 := (R1).frozen 1
        have d2 := ((R1).cell 2).trans (show _ = some (Value.int .u64 bh) from rfl)
        have df2 := (R1).frozen 2
        have d3 := ((R1).cell 3).trans (show _ = some (Value.int .u64 bl) from rfl)
        have df3 := (R1).frozen 3
        have d4 := ((R1).cell 4).trans (show _ = some (Value.string ⟨bp.toArray⟩) from rfl)
        have df4 := (R1).frozen 4
        go_wp2_with fail
        refine (HB _).mono ?_
        rintro e w2 ⟨rfl, hb⟩
        replace R2 := R2.later hb
        replace R1 := R1.later hb
        replace R0 := R0.later hb
        replace hb0 := below_step hb0 hb
        clear HB hb d0 d1 d2 d3 d4 df0 df1 df2 df3 df4
        replace R2 := R2.drew
        replace hb0 := hb0.drew
        have c0 := ((R0).cell 0).trans (show _ = some (Value.int .i64 ak) from rfl)
        have cf0 := (R0).frozen 0
        have c1 := ((R0).cell 1).trans (show _ = some (Value.int .i64 an) from rfl)
        have cf1 := (R0).frozen 1
        have c2 := ((R0).cell 2).trans (show _ = some (Value.int .u64 ah) from rfl)
        have cf2 := (R0).frozen 2
        have c3 := ((R0).cell 3).trans (show _ = some (Value.int .u64 al) from rfl)
        have cf3 := (R0).frozen 3
        have c4 := ((R0).cell 4).trans (show _ = some (Value.string ⟨ap.toArray⟩) from rfl)
        have cf4 := (R0).frozen 4
        have d0 := ((R1).cell 0).trans (show _ = some (Value.int .i64 ak) from rfl)
        have df0 := (R1).frozen 0
        have d1 := ((R1).cell 1).trans (show _ = some (Value.int .i64 bn) from rfl)
        have df1 := (R1).frozen 1
        have d2 := ((R1).cell 2).trans (show _ = some (Value.int .u64 bh) from rfl)
        have df2 := (R1).frozen 2
        have d3 := ((R1).cell 3).trans (show _ = some (Value.int .u64 bl) from rfl)
        have df3 := (R1).frozen 3
        have d4 := ((R1).cell 4).trans (show _ = some (Value.string ⟨bp.toArray⟩) from rfl)
        have df4 := (R1).frozen 4
        clear R0 R1
        go_wp2_with fail
        refine wp_region_held_drew (S := (fun w' => w'.cell? ⟨w.heap.size, 0, none⟩ = some (.int .i64 ak) ∧ w'.cell? ⟨w.heap.size, 1, none⟩ = some (.int .i64 an) ∧ w'.cell? ⟨w.heap.size, 2, none⟩ = some (.int .u64 ah) ∧ w'.cell? ⟨w.heap.size, 3, none⟩ = some (.int .u64 al) ∧ w'.cell? ⟨w.heap.size, 4, none⟩ = some (.string ⟨ap.toArray⟩) ∧ w'.cell? ⟨w.heap.size + 1, 0, none⟩ = some (.int .i64 ak) ∧ w'.cell? ⟨w.heap.size + 1, 1, none⟩ = some (.int .i64 bn) ∧ w'.cell? ⟨w.heap.size + 1, 2, none⟩ = some (.int .u64 bh) ∧ w'.cell? ⟨w.heap.size + 1, 3, none⟩ = some (.int .u64 bl) ∧ w'.cell? ⟨w.heap.size + 1, 4, none⟩ = some (.string ⟨bp.toArray⟩))) (by kernel_rfl) ?hSr1_ (fun hHeld => ?_)
        case hSr1_ => (first | exact ⟨c0, c1, c2, c3, c4, d0, d1, d2, d3, d4⟩ | (obtain ⟨s0, s1, s2, s3, s4, t0, t1, t2, t3, t4⟩ := hHeld; exact ⟨cell_later hb s0, cell_later hb s1, cell_later hb s2, cell_later hb s3, cell_later hb s4, cell_later hb t0, cell_later hb t1, cell_later hb t2, cell_later hb t3, cell_later hb t4⟩))
        refine wpAnyH_take (i := 0) (oi := { dst := some 22, op := Go.Op.load 24 (Go.Operand.tmp 2), type := 24, pos := _, after := #[], guard := none }) (v := ?vr1_1_0) rfl (by kernel_rfl) (by kernel_rfl) (by kernel_rfl) (fun _ _ _ h => h) (Or.inl ⟨by rfl, ?yr1_1_0⟩) hHeld ?_
        case yr1_1_0 => ((intro w hSw; (try dsimp only at hSw); go_simp) <;> with_reducible rfl)
        (try simp only [Act.put, List.setIfInBounds_toArray, List.set_cons_zero, List.set_cons_succ])
        refine wpAnyH_take (i := 1) (oi := { dst := some 23, op := Go.Op.load 24 (Go.Operand.tmp 2), type := 24, pos := _, after := #[], guard := none }) (v := ?vr1_2_1) rfl (by kernel_rfl) (by kernel_rfl) (by kernel_rfl) (fun _ _ _ h => h) (Or.inl ⟨by rfl, ?yr1_2_1⟩) hHeld ?_
        case yr1_2_1 => ((intro w hSw; (try dsimp only at hSw); go_simp) <;> with_reducible rfl)
        (try simp only [Act.put, List.setIfInBounds_toArray, List.set_cons_zero, List.set_cons_succ])
        refine wpAnyH_take (i := 2) (oi := { dst := some 24, op := Go.Op.load 24 (Go.Operand.tmp 3), type := 24, pos := _, after := #[], guard := none }) (v := ?vr1_3_2) rfl (by kernel_rfl) (by kernel_rfl) (by kernel_rfl) (fun _ _ _ h => h) (Or.inl ⟨by rfl, ?yr1_3_2⟩) hHeld ?_
        case yr1_3_2 => ((intro w hSw; (try dsimp only at hSw); go_simp) <;> with_reducible rfl)
        (try simp only [Act.put, List.setIfInBounds_toArray, List.set_cons_zero, List.set_cons_succ])
        refine wpAnyH_ready (rs := [3]) (by kernel_rfl) (by simp) ?_
        refine AllReadyH.cons (o := { dst := some 25, op := Go.Op.call { callee := Go.Callee.value (Go.Operand.func 59), args := #[Go.Operand.tmp 23, Go.Operand.tmp 24], argTypes := #[24, 24] }, type := 3, pos := _, after := #[{ on := 1, ground := Go.Ground.data }, { on := 2, ground := Go.Ground.data }], guard := none }) rfl (fun K hK => ?_) AllReadyH.nil
        go_simp
        ((refine (HS _).mono ?_); (rintro e wn ⟨rfl, hb⟩); (replace R2 := R2.later hb); (replace hb0 := below_step hb0 hb))
        go_wp2_with fail
        refine hK.out _ _ ?hSr1_4_3 (fun hHeld2 => ?_)
        case hSr1_4_3 => (first | exact ⟨c0, c1, c2, c3, c4, d0, d1, d2, d3, d4⟩ | (obtain ⟨s0, s1, s2, s3, s4, t0, t1, t2, t3, t4⟩ := hHeld; exact ⟨cell_later hb s0, cell_later hb s1, cell_later hb s2, cell_later hb s3, cell_later hb s4, cell_later hb t0, cell_later hb t1, cell_later hb t2, cell_later hb t3, cell_later hb t4⟩))
        clear hK K hHeld
        have hHeld := hHeld2
        clear hHeld2
        (try simp only [Act.put, List.setIfInBounds_toArray, List.set_cons_zero, List.set_cons_succ])
        refine wpAnyH_ready (rs := [4]) (by kernel_rfl) (by simp) ?_
        refine AllReadyH.cons (o := { dst := some 26, op := Go.Op.call { callee := Go.Callee.value (Go.Operand.func 55), args := #[Go.Operand.tmp 22, Go.Operand.tmp 25], argTypes := #[24, 3] }, type := 24, pos := _, after := #[{ on := 0, ground := Go.Ground.data }, { on := 3, ground := Go.Ground.data }, { on := 3, ground := Go.Ground.chain }], guard := none }) rfl (fun K hK => ?_) AllReadyH.nil
        go_simp
        ((refine (HT _).mono ?_); (rintro e wn ⟨rfl, hb⟩); (replace R2 := R2.later hb); (replace hb0 := below_step hb0 hb))
        go_wp2_with fail
        refine hK.out _ _ ?hSr1_5_4 (fun hHeld2 => ?_)
        case hSr1_5_4 => (first | exact ⟨c0, c1, c2, c3, c4, d0, d1, d2, d3, d4⟩ | (obtain ⟨s0, s1, s2, s3, s4, t0, t1, t2, t3, t4⟩ := hHeld; exact ⟨cell_later hb s0, cell_later hb s1, cell_later hb s2, cell_later hb s3, cell_later hb s4, cell_later hb t0, cell_later hb t1, cell_later hb t2, cell_later hb t3, cell_later hb t4⟩))
        clear hK K hHeld
        have hHeld := hHeld2
        clear hHeld2
        (try simp only [Act.put, List.setIfInBounds_toArray, List.set_cons_zero, List.set_cons_succ])
        refine wpAnyH_ready (rs := [5]) (by kernel_rfl) (by simp) ?_
        refine AllReadyH.cons (o := { dst := none, op := Go.Op.store 24 (Go.Operand.tmp 4) (Go.Operand.tmp 26), type := 0, pos := _, after := #[{ on := 4, ground := Go.Ground.data }, { on := 4, ground := Go.Ground.chain }, { on := 0, ground := Go.Ground.phase }, { on := 1, ground := Go.Ground.phase }, { on := 2, ground := Go.Ground.phase }, { on := 3, ground := Go.Ground.phase }, { on := 4, ground := Go.Ground.phase }], guard := none }) rfl (fun K hK => ?_) AllReadyH.nil
        ((have z0 := R2.cell 0); (have z1 := R2.cell 1); (have z2 := R2.cell 2); (have z3 := R2.cell 3); (have z4 := R2.cell 4); (simp at z0 z1 z2 z3 z4); (have zf0 := R2.frozen 0); (have zf1 := R2.frozen 1); (have zf2 := R2.frozen 2); (have zf3 := R2.frozen 3); (have zf4 := R2.frozen 4); go_simp)
        refine hK.out _ _ ?hSr1_6_5 (fun hHeld2 => ?_)
        case hSr1_6_5 => (obtain ⟨s0, s1, s2, s3, s4, t0, t1, t2, t3, t4⟩ := hHeld; exact ⟨by simp [go_sem, s0], by simp [go_sem, s1], by simp [go_sem, s2], by simp [go_sem, s3], by simp [go_sem, s4], by simp [go_sem, t0], by simp [go_sem, t1], by simp [go_sem, t2], by simp [go_sem, t3], by simp [go_sem, t4]⟩)
        clear hK K hHeld
        have hHeld := hHeld2
        clear hHeld2
        (try simp only [Act.put, List.setIfInBounds_toArray, List.set_cons_zero, List.set_cons_succ])
        refine wpAnyH_take (i := 6) (oi := { dst := some 5, op := Go.Op.assign (Go.Operand.const (Go.Value.bool true)), type := 4, pos := _, after := #[{ on := 5, ground := Go.Ground.chain }, { on := 0, ground := Go.Ground.phase }, { on := 1, ground := Go.Ground.phase }, { on := 2, ground := Go.Ground.phase }, { on := 3, ground := Go.Ground.phase }, { on := 4, ground := Go.Ground.phase }, { on := 5, ground := Go.Ground.phase }], guard := none }) (v := ?vr1_7_6) rfl (by kernel_rfl) (by kernel_rfl) (by kernel_rfl) (fun _ _ _ h => h) (Or.inl ⟨by rfl, ?yr1_7_6⟩) hHeld ?_
        case yr1_7_6 => ((intro w hSw; (try dsimp only at hSw); go_simp) <;> with_reducible rfl)
        (try simp only [Act.put, List.setIfInBounds_toArray, List.set_cons_zero, List.set_cons_succ])
        refine wpAnyH_done (by kernel_rfl) ?_ _
        (go_wp2_with fail; exact bodyPost_ret (v := .tuple #[.agg #[.int .i64 t0, .int .i64 t1, .int .u64 t2, .int .u64 t3, .string ⟨t4.toArray⟩], .bool true]) (by simp [results, Try.results28, go_sem, z0, z1, z2, z3, z4]) rfl ⟨rfl, bset5 hb0 (by omega) _ _ _ _ _⟩)
  · have b0 : (ak == bk) = false := by simpa using hk
    rw [decide_eq_false hk, Bool.false_and, if_neg (by simp)]
    clear HA HB HS HT R0 R1 R2 hb0
    unfold kv kz
    dsimp only
    go_enter Try.func28, Try.ntmps28
    go_wp2
    refine bodyPost_ret (v := .tuple #[.agg #[.int .i64 0, .int .i64 0, .int .u64 0, .int .u64 0, .string ⟨#[]⟩], .bool false]) (by simp [results, Try.results28, go_sem]) rfl ⟨rfl, (by repeat (first | exact Below.refl _ _ | assumption | (with_reducible refine Below.setCell ?_ ?h _; case h => first | omega | (simp; done) | (simp; omega)) | (with_reducible refine Below.alloc ?_ ?h _; case h => first | omega | (simp; done) | (simp; omega)) | (with_reducible refine Below.drew ?_) | (with_reducible refine Below.trans ?_ (hb4.mono ?h); case h => first | omega | (simp; done) | (simp; omega)) | (with_reducible refine Below.trans ?_ (hb3.mono ?h); case h => first | omega | (simp; done) | (simp; omega)) | (with_reducible refine Below.trans ?_ (hb2.mono ?h); case h => first | omega | (simp; done) | (simp; omega)) | (with_reducible refine Below.trans ?_ (hb.mono ?h); case h => first | omega | (simp; done) | (simp; omega)) | (with_reducible refine Below.trans ?_ (hb0.mono ?h); case h => first | omega | (simp; done) | (simp; omega))))⟩
end Go.Proofs.Ytekoicbjpoeijaa
