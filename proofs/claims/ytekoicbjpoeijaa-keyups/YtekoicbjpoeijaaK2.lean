/- The function top of package key. No conditions beyond lengths. -/
import Derived.Test.YtekoicbjpoeijaaK1
namespace Go.Proofs.Ytekoicbjpoeijaa
set_option linter.unusedVariables false
set_option linter.unusedSimpArgs false
open Go.RowKit
set_option maxHeartbeats 2000000 in
theorem ktop_t (k : Ke) (n : Int) (hh : Word k.h) (hl : Word k.l) (hn : n ≤ 9223372036854775807) (hp : k.path.length ≤ 140737488355328) (w : World) : Calls Try.prog 55 #[kv k, .int .i64 n] w fun e w' => e = .returned (kv (topK k n)) ∧ Below w.heap.size w w' := by
  obtain ⟨kd, len, h, l, p⟩ := k
  dsimp only at hh hl hp
  have R0 : Row ((w.alloc (.cells #[.int .i64 kd, .int .i64 len, .int .u64 h, .int .u64 l, .string ⟨p.toArray⟩] 24)).alloc (.cells #[.int .i64 0, .int .i64 0, .int .u64 0, .int .u64 0, .string ⟨#[]⟩] 24)) w.heap.size #[.int .i64 kd, .int .i64 len, .int .u64 h, .int .u64 l, .string ⟨p.toArray⟩] 24 := (Row.new _ _ _).alloc _
  have R1 : Row ((w.alloc (.cells #[.int .i64 kd, .int .i64 len, .int .u64 h, .int .u64 l, .string ⟨p.toArray⟩] 24)).alloc (.cells #[.int .i64 0, .int .i64 0, .int .u64 0, .int .u64 0, .string ⟨#[]⟩] 24)) (w.heap.size + 1) #[.int .i64 0, .int .i64 0, .int .u64 0, .int .u64 0, .string ⟨#[]⟩] 24 := by
    have := Row.new (w.alloc (.cells #[.int .i64 kd, .int .i64 len, .int .u64 h, .int .u64 l, .string ⟨p.toArray⟩] 24)) #[.int .i64 0, .int .i64 0, .int .u64 0, .int .u64 0, .string ⟨#[]⟩] 24
    rwa [World.size_alloc] at this
  have hb0 : Below w.heap.size w ((w.alloc (.cells #[.int .i64 kd, .int .i64 len, .int .u64 h, .int .u64 l, .string ⟨p.toArray⟩] 24)).alloc (.cells #[.int .i64 0, .int .i64 0, .int .u64 0, .int .u64 0, .string ⟨#[]⟩] 24)) := (by repeat (first | exact Below.refl _ _ | assumption | (with_reducible refine Below.setCell ?_ ?h _; case h => first | omega | (simp; done) | (simp; omega)) | (with_reducible refine Below.alloc ?_ ?h _; case h => first | omega | (simp; done) | (simp; omega)) | (with_reducible refine Below.drew ?_) | (with_reducible refine Below.trans ?_ (hb4.mono ?h); case h => first | omega | (simp; done) | (simp; omega)) | (with_reducible refine Below.trans ?_ (hb3.mono ?h); case h => first | omega | (simp; done) | (simp; omega)) | (with_reducible refine Below.trans ?_ (hb2.mono ?h); case h => first | omega | (simp; done) | (simp; omega)) | (with_reducible refine Below.trans ?_ (hb.mono ?h); case h => first | omega | (simp; done) | (simp; omega)) | (with_reducible refine Below.trans ?_ (hb0.mono ?h); case h => first | omega | (simp; done) | (simp; omega))))
  by_cases h3 : kd = 3
  · subst h3
    have HT := fun w1 => top_t p hp n w1
    have e : kv (topK ⟨3, len, h, l, p⟩ n) = .agg #[.int .i64 3, .int .i64 n, .int .u64 0, .int .u64 0, .string ⟨(topL p n).toArray⟩] := by unfold topK; rw [if_pos rfl]; rfl
    rw [e]
    unfold kv
    dsimp only
    generalize topL p n = q at *
    go_enter Try.func55, Try.ntmps55
    go_wp2_with fail
    refine (HT _).mono ?_
    rintro e w1 ⟨rfl, hb⟩
    replace R1 := R1.later hb
    have hb1 := below_step hb0 hb
    clear HT hb R0 hb0
    have c0 := ((R1).cell 0).trans (show _ = some (Value.int .i64 0) from rfl)
    have cf0 := (R1).frozen 0
    have c1 := ((R1).cell 1).trans (show _ = some (Value.int .i64 0) from rfl)
    have cf1 := (R1).frozen 1
    have c2 := ((R1).cell 2).trans (show _ = some (Value.int .u64 0) from rfl)
    have cf2 := (R1).frozen 2
    have c3 := ((R1).cell 3).trans (show _ = some (Value.int .u64 0) from rfl)
    have cf3 := (R1).frozen 3
    have c4 := ((R1).cell 4).trans (show _ = some (Value.string ⟨#[]⟩) from rfl)
    have cf4 := (R1).frozen 4
    clear R1
    go_wp2
    refine bodyPost_ret (v := .agg #[.int .i64 3, .int .i64 n, .int .u64 0, .int .u64 0, .string ⟨q.toArray⟩]) (by simp [results, Try.results55, go_sem, c0, c1, c2, c3, c4]) rfl ⟨rfl, bset5 hb1 (by omega) _ _ _ _ _⟩
  · have hk3 : (kd == 3) = false := by simpa using h3
    have HB := bits_t kd len h l ⟨p.toArray⟩
    have HT := top_any h l n hh hl hn
    have e : kv (topK ⟨kd, len, h, l, p⟩ n) = .agg #[.int .i64 kd, .int .i64 n, .int .u64 (hi (andI (wv h l) (maskI n))), .int .u64 (lo (andI (wv h l) (maskI n))), .string ⟨#[]⟩] := by unfold topK; rw [if_neg h3]; rfl
    rw [e]
    clear e
    unfold kv
    dsimp only
    generalize hi (andI (wv h l) (maskI n)) = H at *
    generalize lo (andI (wv h l) (maskI n)) = L at *
    have HO := ofBits_t kd n H L
    go_enter Try.func55, Try.ntmps55
    go_wp2_with fail
    have c0 := ((R0).cell 0).trans (show _ = some (Value.int .i64 kd) from rfl)
    have cf0 := (R0).frozen 0
    have c1 := ((R0).cell 1).trans (show _ = some (Value.int .i64 len) from rfl)
    have cf1 := (R0).frozen 1
    have c2 := ((R0).cell 2).trans (show _ = some (Value.int .u64 h) from rfl)
    have cf2 := (R0).frozen 2
    have c3 := ((R0).cell 3).trans (show _ = some (Value.int .u64 l) from rfl)
    have cf3 := (R0).frozen 3
    have c4 := ((R0).cell 4).trans (show _ = some (Value.string ⟨p.toArray⟩) from rfl)
    have cf4 := (R0).frozen 4
    generalize (w.alloc (.cells #[.int .i64 kd, .int .i64 len, .int .u64 h, .int .u64 l, .string ⟨p.toArray⟩] 24)).alloc (.cells #[.int .i64 0, .int .i64 0, .int .u64 0, .int .u64 0, .string ⟨#[]⟩] 24) = w0 at *
    replace R1 := R1.drew
    replace hb0 := hb0.drew
    refine wp_region_held_drew (S := (fun w' => w'.cell? ⟨w.heap.size, 0, none⟩ = some (.int .i64 kd) ∧ w'.cell? ⟨w.heap.size, 1, none⟩ = some (.int .i64 len) ∧ w'.cell? ⟨w.heap.size, 2, none⟩ = some (.int .u64 h) ∧ w'.cell? ⟨w.heap.size, 3, none⟩ = some (.int .u64 l) ∧ w'.cell? ⟨w.heap.size, 4, none⟩ = some (.string ⟨p.toArray⟩))) (by kernel_rfl) ?hSr1_ (fun hHeld => ?_)
    case hSr1_ => (first | exact ⟨c0, c1, c2, c3, c4⟩ | (obtain ⟨s0, s1, s2, s3, s4⟩ := hHeld; exact ⟨cell_later hb s0, cell_later hb s1, cell_later hb s2, cell_later hb s3, cell_later hb s4⟩))
    refine wpAnyH_take (i := 0) (oi := { dst := some 14, op := Go.Op.fieldAddr 24 (Go.Operand.tmp 2) 0, type := 0, pos := _, after := #[], guard := none }) (v := ?vr1_1_0) rfl (by kernel_rfl) (by kernel_rfl) (by kernel_rfl) (fun _ _ _ h => h) (Or.inl ⟨by rfl, ?yr1_1_0⟩) hHeld ?_
    case yr1_1_0 => ((intro w hSw; (try dsimp only at hSw); go_simp) <;> with_reducible rfl)
    (try simp only [Act.put, List.setIfInBounds_toArray, List.set_cons_zero, List.set_cons_succ])
    refine wpAnyH_take (i := 1) (oi := { dst := some 15, op := Go.Op.load 3 (Go.Operand.tmp 14), type := 3, pos := _, after := #[{ on := 0, ground := Go.Ground.data }], guard := none }) (v := ?vr1_2_1) rfl (by kernel_rfl) (by kernel_rfl) (by kernel_rfl) (fun _ _ _ h => h) (Or.inl ⟨by rfl, ?yr1_2_1⟩) hHeld ?_
    case yr1_2_1 => ((intro w hSw; (try dsimp only at hSw); go_simp) <;> with_reducible rfl)
    (try simp only [Act.put, List.setIfInBounds_toArray, List.set_cons_zero, List.set_cons_succ])
    refine wpAnyH_take (i := 2) (oi := { dst := some 16, op := Go.Op.move (Go.Operand.tmp 1), type := 3, pos := _, after := #[], guard := none }) (v := ?vr1_3_2) rfl (by kernel_rfl) (by kernel_rfl) (by kernel_rfl) (fun _ _ _ h => h) (Or.inl ⟨by rfl, ?yr1_3_2⟩) hHeld ?_
    case yr1_3_2 => ((intro w hSw; (try dsimp only at hSw); go_simp) <;> with_reducible rfl)
    (try simp only [Act.put, List.setIfInBounds_toArray, List.set_cons_zero, List.set_cons_succ])
    refine wpAnyH_take (i := 3) (oi := { dst := some 17, op := Go.Op.load 24 (Go.Operand.tmp 2), type := 24, pos := _, after := #[], guard := none }) (v := ?vr1_4_3) rfl (by kernel_rfl) (by kernel_rfl) (by kernel_rfl) (fun _ _ _ h => h) (Or.inl ⟨by rfl, ?yr1_4_3⟩) hHeld ?_
    case yr1_4_3 => ((intro w hSw; (try dsimp only at hSw); go_simp) <;> with_reducible rfl)
    (try simp only [Act.put, List.setIfInBounds_toArray, List.set_cons_zero, List.set_cons_succ])
    refine wpAnyH_take (i := 5) (oi := { dst := some 19, op := Go.Op.move (Go.Operand.tmp 1), type := 3, pos := _, after := #[], guard := none }) (v := ?vr1_5_5) rfl (by kernel_rfl) (by kernel_rfl) (by kernel_rfl) (fun _ _ _ h => h) (Or.inl ⟨by rfl, ?yr1_5_5⟩) hHeld ?_
    case yr1_5_5 => ((intro w hSw; (try dsimp only at hSw); go_simp) <;> with_reducible rfl)
    (try simp only [Act.put, List.setIfInBounds_toArray, List.set_cons_zero, List.set_cons_succ])
    refine wpAnyH_ready (rs := [4]) (by kernel_rfl) (by simp) ?_
    refine AllReadyH.cons (o := { dst := some 18, op := Go.Op.call { callee := Go.Callee.value (Go.Operand.func 65), args := #[Go.Operand.tmp 17], argTypes := #[24] }, type := 27, pos := _, after := #[{ on := 3, ground := Go.Ground.data }], guard := none }) rfl (fun K hK => ?_) AllReadyH.nil
    go_simp
    ((refine (HB _).mono ?_); (rintro e wn ⟨rfl, hb⟩); (replace R1 := R1.later hb); (replace hb0 := below_step hb0 hb))
    go_wp2_with fail
    refine hK.out _ _ ?hSr1_6_4 (fun hHeld2 => ?_)
    case hSr1_6_4 => (first | exact ⟨c0, c1, c2, c3, c4⟩ | (obtain ⟨s0, s1, s2, s3, s4⟩ := hHeld; exact ⟨cell_later hb s0, cell_later hb s1, cell_later hb s2, cell_later hb s3, cell_later hb s4⟩))
    clear hK K hHeld
    have hHeld := hHeld2
    clear hHeld2
    (try simp only [Act.put, List.setIfInBounds_toArray, List.set_cons_zero, List.set_cons_succ])
    refine wpAnyH_ready (rs := [6]) (by kernel_rfl) (by simp) ?_
    refine AllReadyH.cons (o := { dst := some 20, op := Go.Op.call { callee := Go.Callee.value (Go.Operand.func 75), args := #[Go.Operand.tmp 18, Go.Operand.tmp 19], argTypes := #[27, 3] }, type := 27, pos := _, after := #[{ on := 4, ground := Go.Ground.data }, { on := 5, ground := Go.Ground.data }, { on := 4, ground := Go.Ground.chain }], guard := none }) rfl (fun K hK => ?_) AllReadyH.nil
    go_simp
    ((refine (HT _).mono ?_); (rintro e wn ⟨rfl, hb⟩); (replace R1 := R1.later hb); (replace hb0 := below_step hb0 hb))
    go_wp2_with fail
    refine hK.out _ _ ?hSr1_7_6 (fun hHeld2 => ?_)
    case hSr1_7_6 => (first | exact ⟨c0, c1, c2, c3, c4⟩ | (obtain ⟨s0, s1, s2, s3, s4⟩ := hHeld; exact ⟨cell_later hb s0, cell_later hb s1, cell_later hb s2, cell_later hb s3, cell_later hb s4⟩))
    clear hK K hHeld
    have hHeld := hHeld2
    clear hHeld2
    (try simp only [Act.put, List.setIfInBounds_toArray, List.set_cons_zero, List.set_cons_succ])
    refine wpAnyH_ready (rs := [7]) (by kernel_rfl) (by simp) ?_
    refine AllReadyH.cons (o := { dst := some 21, op := Go.Op.call { callee := Go.Callee.value (Go.Operand.func 57), args := #[Go.Operand.tmp 15, Go.Operand.tmp 16, Go.Operand.tmp 20], argTypes := #[3, 3, 27] }, type := 24, pos := _, after := #[{ on := 1, ground := Go.Ground.data }, { on := 2, ground := Go.Ground.data }, { on := 6, ground := Go.Ground.data }, { on := 6, ground := Go.Ground.chain }], guard := none }) rfl (fun K hK => ?_) AllReadyH.nil
    go_simp
    ((refine (HO _).mono ?_); (rintro e wn ⟨rfl, hb⟩); (replace R1 := R1.later hb); (replace hb0 := below_step hb0 hb))
    go_wp2_with fail
    refine hK.out _ _ ?hSr1_8_7 (fun hHeld2 => ?_)
    case hSr1_8_7 => (first | exact ⟨c0, c1, c2, c3, c4⟩ | (obtain ⟨s0, s1, s2, s3, s4⟩ := hHeld; exact ⟨cell_later hb s0, cell_later hb s1, cell_later hb s2, cell_later hb s3, cell_later hb s4⟩))
    clear hK K hHeld
    have hHeld := hHeld2
    clear hHeld2
    (try simp only [Act.put, List.setIfInBounds_toArray, List.set_cons_zero, List.set_cons_succ])
    refine wpAnyH_ready (rs := [8]) (by kernel_rfl) (by simp) ?_
    refine AllReadyH.cons (o := { dst := none, op := Go.Op.store 24 (Go.Operand.tmp 4) (Go.Operand.tmp 21), type := 0, pos := _, after := #[{ on := 7, ground := Go.Ground.data }, { on := 7, ground := Go.Ground.chain }, { on := 0, ground := Go.Ground.phase }, { on := 1, ground := Go.Ground.phase }, { on := 2, ground := Go.Ground.phase }, { on := 3, ground := Go.Ground.phase }, { on := 4, ground := Go.Ground.phase }, { on := 5, ground := Go.Ground.phase }, { on := 6, ground := Go.Ground.phase }, { on := 7, ground := Go.Ground.phase }], guard := none }) rfl (fun K hK => ?_) AllReadyH.nil
    ((have z0 := R1.cell 0); (have z1 := R1.cell 1); (have z2 := R1.cell 2); (have z3 := R1.cell 3); (have z4 := R1.cell 4); (simp at z0 z1 z2 z3 z4); (have zf0 := R1.frozen 0); (have zf1 := R1.frozen 1); (have zf2 := R1.frozen 2); (have zf3 := R1.frozen 3); (have zf4 := R1.frozen 4); go_simp)
    refine hK.out _ _ ?hSr1_9_8 (fun hHeld2 => ?_)
    case hSr1_9_8 => (obtain ⟨s0, s1, s2, s3, s4⟩ := hHeld; exact ⟨by simp [go_sem, s0], by simp [go_sem, s1], by simp [go_sem, s2], by simp [go_sem, s3], by simp [go_sem, s4]⟩)
    clear hK K hHeld
    have hHeld := hHeld2
    clear hHeld2
    (try simp only [Act.put, List.setIfInBounds_toArray, List.set_cons_zero, List.set_cons_succ])
    refine wpAnyH_done (by kernel_rfl) ?_ _
    (go_wp2_with fail; exact bodyPost_ret (v := .agg #[.int .i64 kd, .int .i64 n, .int .u64 H, .int .u64 L, .string ⟨#[]⟩]) (by simp [results, Try.results55, go_sem, z0, z1, z2, z3, z4]) rfl ⟨rfl, bset5 hb0 (by omega) _ _ _ _ _⟩)
end Go.Proofs.Ytekoicbjpoeijaa
