/- The functions same, Cut and Meet of package key. No conditions beyond lengths. -/
import Derived.Test.YtekoicbjpoeijaaK3
namespace Go.Proofs.Ytekoicbjpoeijaa
set_option linter.unusedVariables false
set_option linter.unusedSimpArgs false
open Go.RowKit
theorem two_rows (w : World) (a b : Array Value) (t u : TypeId) : Row ((w.alloc (.cells a t)).alloc (.cells b u)) w.heap.size a t ∧ Row ((w.alloc (.cells a t)).alloc (.cells b u)) (w.heap.size + 1) b u ∧ Below w.heap.size w ((w.alloc (.cells a t)).alloc (.cells b u)) := by
  refine ⟨(Row.new _ _ _).alloc _, ?_, (by repeat (first | exact Below.refl _ _ | assumption | (with_reducible refine Below.setCell ?_ ?h _; case h => first | omega | (simp; done) | (simp; omega)) | (with_reducible refine Below.alloc ?_ ?h _; case h => first | omega | (simp; done) | (simp; omega)) | (with_reducible refine Below.drew ?_) | (with_reducible refine Below.trans ?_ (hb4.mono ?h); case h => first | omega | (simp; done) | (simp; omega)) | (with_reducible refine Below.trans ?_ (hb3.mono ?h); case h => first | omega | (simp; done) | (simp; omega)) | (with_reducible refine Below.trans ?_ (hb2.mono ?h); case h => first | omega | (simp; done) | (simp; omega)) | (with_reducible refine Below.trans ?_ (hb.mono ?h); case h => first | omega | (simp; done) | (simp; omega)) | (with_reducible refine Below.trans ?_ (hb0.mono ?h); case h => first | omega | (simp; done) | (simp; omega))))⟩
  have := Row.new (w.alloc (.cells a t)) b u
  rwa [World.size_alloc] at this
theorem three_rows (w : World) (a b c : Array Value) (t u v : TypeId) : Row (((w.alloc (.cells a t)).alloc (.cells b u)).alloc (.cells c v)) w.heap.size a t ∧ Row (((w.alloc (.cells a t)).alloc (.cells b u)).alloc (.cells c v)) (w.heap.size + 1) b u ∧ Row (((w.alloc (.cells a t)).alloc (.cells b u)).alloc (.cells c v)) (w.heap.size + 1 + 1) c v ∧ Below w.heap.size w (((w.alloc (.cells a t)).alloc (.cells b u)).alloc (.cells c v)) := by
  obtain ⟨h1, h2, h3⟩ := two_rows w a b t u
  refine ⟨h1.alloc _, h2.alloc _, ?_, h3.alloc h3.size _⟩
  have := Row.new ((w.alloc (.cells a t)).alloc (.cells b u)) c v
  rwa [World.size_alloc, World.size_alloc] at this
theorem min3_if (a b c : Int) : (if c < (if b < a then b else a) then c else (if b < a then b else a)) = min (min a b) c := by
  repeat' split
  all_goals omega
set_option maxHeartbeats 4000000 in
theorem ksame_t (a b : Ke) (ha : a.ok) (hb : b.ok) (w : World) : Calls Try.prog 59 #[kv a, kv b] w fun e w' => e = .returned (.int .i64 (sameK a b)) ∧ Below w.heap.size w w' := by
  have HS := same_t a.path b.path ha.path hb.path
  have HT := same_any a.h a.l b.h b.l ha.h ha.l hb.h hb.l
  have HD : sameK a b = if a.kind = 3 then ((sameN (labsL a.path) (labsL b.path) : Nat) : Int) else min (min a.len b.len) (sameI a.num b.num : Nat) := rfl
  unfold Ke.num at HD
  generalize sameK a b = r at *
  obtain ⟨ak, an, ah, al, ap⟩ := a
  obtain ⟨bk, bn, bh, bl, bp⟩ := b
  dsimp only at *
  clear ha hb
  generalize sameN (labsL ap) (labsL bp) = m at *
  generalize sameI (wv ah al) (wv bh bl) = x at *
  obtain ⟨R0, R1, hb0⟩ := two_rows w #[.int .i64 ak, .int .i64 an, .int .u64 ah, .int .u64 al, .string ⟨ap.toArray⟩] #[.int .i64 bk, .int .i64 bn, .int .u64 bh, .int .u64 bl, .string ⟨bp.toArray⟩] 24 24
  replace R0 := R0.drew
  replace R1 := R1.drew
  replace hb0 := hb0.drew
  have c0 := ((R0).cell 0).trans (show _ = some (Value.int .i64 ak) from rfl)
  have cf0 := (R0).frozen 0
  have c1 := ((R0).cell 1).trans (show _ = some (Value.int .i64 an) from rfl)
  have cf1 := (R0).frozen 1
  have c2 := ((R0).cell 2).trans (show _ = some (Value.int .u64 ah) from rfl)
  have cf2 := (R0).frozen 2
  have c3 := ((R0).cell 3).trans (show _ = some (Value.int .u64 al) from rfl)
  have cf3 := (R0).frozen 3
  have c4 := ((R0).cell 4).trans (show _ = some (Value.string ⟨ap.toArray⟩) from rfl)
  have cf4 := (R0).frozen 4
  have d0 := ((R1).cell 0).trans (show _ = some (Value.int .i64 bk) from rfl)
  have df0 := (R1).frozen 0
  have d1 := ((R1).cell 1).trans (show _ = some (Value.int .i64 bn) from rfl)
  have df1 := (R1).frozen 1
  have d2 := ((R1).cell 2).trans (show _ = some (Value.int .u64 bh) from rfl)
  have df2 := (R1).frozen 2
  have d3 := ((R1).cell 3).trans (show _ = some (Value.int .u64 bl) from rfl)
  have df3 := (R1).frozen 3
  have d4 := ((R1).cell 4).trans (show _ = some (Value.string ⟨bp.toArray⟩) from rfl)
  have df4 := (R1).frozen 4
  unfold kv
  dsimp only
  by_cases h3 : ak = 3
  · subst h3
    rw [if_pos rfl] at HD
    subst HD
    clear HT
    go_enter Try.func59, Try.ntmps59
    go_wp2_with fail
    refine (HS _).mono ?_
    rintro e w1 ⟨rfl, hb⟩
    go_wp2
    go_ret
    exact ⟨rfl, below_step (by repeat (first | exact Below.refl _ _ | assumption | (with_reducible refine Below.setCell ?_ ?h _; case h => first | omega | (simp; done) | (simp; omega)) | (with_reducible refine Below.alloc ?_ ?h _; case h => first | omega | (simp; done) | (simp; omega)) | (with_reducible refine Below.drew ?_) | (with_reducible refine Below.trans ?_ (hb4.mono ?h); case h => first | omega | (simp; done) | (simp; omega)) | (with_reducible refine Below.trans ?_ (hb3.mono ?h); case h => first | omega | (simp; done) | (simp; omega)) | (with_reducible refine Below.trans ?_ (hb2.mono ?h); case h => first | omega | (simp; done) | (simp; omega)) | (with_reducible refine Below.trans ?_ (hb.mono ?h); case h => first | omega | (simp; done) | (simp; omega)) | (with_reducible refine Below.trans ?_ (hb0.mono ?h); case h => first | omega | (simp; done) | (simp; omega)))) hb⟩
  · rw [if_neg h3] at HD
    have b3 : (ak == 3) = false := by simpa using h3
    have HBa := bits_t ak an ah al ⟨ap.toArray⟩
    have HBb := bits_t bk bn bh bl ⟨bp.toArray⟩
    replace HD := Lib.hid HD
    clear HS
    go_enter Try.func59, Try.ntmps59
    go_wp2_with fail
    refine wp_region_held_drew (S := (fun w' => w'.cell? ⟨w.heap.size, 0, none⟩ = some (.int .i64 ak) ∧ w'.cell? ⟨w.heap.size, 1, none⟩ = some (.int .i64 an) ∧ w'.cell? ⟨w.heap.size, 2, none⟩ = some (.int .u64 ah) ∧ w'.cell? ⟨w.heap.size, 3, none⟩ = some (.int .u64 al) ∧ w'.cell? ⟨w.heap.size, 4, none⟩ = some (.string ⟨ap.toArray⟩) ∧ w'.cell? ⟨w.heap.size + 1, 0, none⟩ = some (.int .i64 bk) ∧ w'.cell? ⟨w.heap.size + 1, 1, none⟩ = some (.int .i64 bn) ∧ w'.cell? ⟨w.heap.size + 1, 2, none⟩ = some (.int .u64 bh) ∧ w'.cell? ⟨w.heap.size + 1, 3, none⟩ = some (.int .u64 bl) ∧ w'.cell? ⟨w.heap.size + 1, 4, none⟩ = some (.string ⟨bp.toArray⟩) ∧ Below w.heap.size w w')) (by kernel_rfl) ?hSr1_ (fun hHeld => ?_)
    case hSr1_ => (first | exact ⟨c0, c1, c2, c3, c4, d0, d1, d2, d3, d4, hb0⟩ | (obtain ⟨s0, s1, s2, s3, s4, t0, t1, t2, t3, t4, s5⟩ := hHeld; exact ⟨cell_later hb s0, cell_later hb s1, cell_later hb s2, cell_later hb s3, cell_later hb s4, cell_later hb t0, cell_later hb t1, cell_later hb t2, cell_later hb t3, cell_later hb t4, below_step s5 hb⟩))
    refine wpAnyH_take (i := 0) (oi := { dst := some 13, op := Go.Op.fieldAddr 24 (Go.Operand.tmp 2) 1, type := 0, pos := _, after := #[], guard := none }) (v := ?vr1_1_0) rfl (by kernel_rfl) (by kernel_rfl) (by kernel_rfl) (fun _ _ _ h => h) (Or.inl ⟨by rfl, ?yr1_1_0⟩) hHeld ?_
    case yr1_1_0 => ((intro w hSw; (try dsimp only at hSw); go_simp) <;> with_reducible rfl)
    (try simp only [Act.put, List.setIfInBounds_toArray, List.set_cons_zero, List.set_cons_succ])
    refine wpAnyH_take (i := 1) (oi := { dst := some 14, op := Go.Op.load 3 (Go.Operand.tmp 13), type := 3, pos := _, after := #[{ on := 0, ground := Go.Ground.data }], guard := none }) (v := ?vr1_2_1) rfl (by kernel_rfl) (by kernel_rfl) (by kernel_rfl) (fun _ _ _ h => h) (Or.inl ⟨by rfl, ?yr1_2_1⟩) hHeld ?_
    case yr1_2_1 => ((intro w hSw; (try dsimp only at hSw); go_simp) <;> with_reducible rfl)
    (try simp only [Act.put, List.setIfInBounds_toArray, List.set_cons_zero, List.set_cons_succ])
    refine wpAnyH_take (i := 2) (oi := { dst := some 15, op := Go.Op.fieldAddr 24 (Go.Operand.tmp 3) 1, type := 0, pos := _, after := #[], guard := none }) (v := ?vr1_3_2) rfl (by kernel_rfl) (by kernel_rfl) (by kernel_rfl) (fun _ _ _ h => h) (Or.inl ⟨by rfl, ?yr1_3_2⟩) hHeld ?_
    case yr1_3_2 => ((intro w hSw; (try dsimp only at hSw); go_simp) <;> with_reducible rfl)
    (try simp only [Act.put, List.setIfInBounds_toArray, List.set_cons_zero, List.set_cons_succ])
    refine wpAnyH_take (i := 3) (oi := { dst := some 16, op := Go.Op.load 3 (Go.Operand.tmp 15), type := 3, pos := _, after := #[{ on := 2, ground := Go.Ground.data }], guard := none }) (v := ?vr1_4_3) rfl (by kernel_rfl) (by kernel_rfl) (by kernel_rfl) (fun _ _ _ h => h) (Or.inl ⟨by rfl, ?yr1_4_3⟩) hHeld ?_
    case yr1_4_3 => ((intro w hSw; (try dsimp only at hSw); go_simp) <;> with_reducible rfl)
    (try simp only [Act.put, List.setIfInBounds_toArray, List.set_cons_zero, List.set_cons_succ])
    refine wpAnyH_take (i := 4) (oi := { dst := some 17, op := Go.Op.load 24 (Go.Operand.tmp 2), type := 24, pos := _, after := #[], guard := none }) (v := ?vr1_5_4) rfl (by kernel_rfl) (by kernel_rfl) (by kernel_rfl) (fun _ _ _ h => h) (Or.inl ⟨by rfl, ?yr1_5_4⟩) hHeld ?_
    case yr1_5_4 => ((intro w hSw; (try dsimp only at hSw); go_simp) <;> with_reducible rfl)
    (try simp only [Act.put, List.setIfInBounds_toArray, List.set_cons_zero, List.set_cons_succ])
    refine wpAnyH_take (i := 6) (oi := { dst := some 19, op := Go.Op.load 24 (Go.Operand.tmp 3), type := 24, pos := _, after := #[], guard := none }) (v := ?vr1_6_6) rfl (by kernel_rfl) (by kernel_rfl) (by kernel_rfl) (fun _ _ _ h => h) (Or.inl ⟨by rfl, ?yr1_6_6⟩) hHeld ?_
    case yr1_6_6 => ((intro w hSw; (try dsimp only at hSw); go_simp) <;> with_reducible rfl)
    (try simp only [Act.put, List.setIfInBounds_toArray, List.set_cons_zero, List.set_cons_succ])
    refine wpAnyH_ready (rs := [5]) (by kernel_rfl) (by simp) ?_
    refine AllReadyH.cons (o := { dst := some 18, op := Go.Op.call { callee := Go.Callee.value (Go.Operand.func 65), args := #[Go.Operand.tmp 17], argTypes := #[24] }, type := 27, pos := _, after := #[{ on := 4, ground := Go.Ground.data }], guard := none }) rfl (fun K hK => ?_) AllReadyH.nil
    (go_simp; (refine (HBa _).mono ?_); (rintro e wn ⟨rfl, hb⟩); go_wp2_with fail)
    refine hK.out _ _ ?hSr1_7_5 (fun hHeld2 => ?_)
    case hSr1_7_5 => (first | exact ⟨c0, c1, c2, c3, c4, d0, d1, d2, d3, d4, hb0⟩ | (obtain ⟨s0, s1, s2, s3, s4, t0, t1, t2, t3, t4, s5⟩ := hHeld; exact ⟨cell_later hb s0, cell_later hb s1, cell_later hb s2, cell_later hb s3, cell_later hb s4, cell_later hb t0, cell_later hb t1, cell_later hb t2, cell_later hb t3, cell_later hb t4, below_step s5 hb⟩))
    clear hK K hHeld
    have hHeld := hHeld2
    clear hHeld2
    (try simp only [Act.put, List.setIfInBounds_toArray, List.set_cons_zero, List.set_cons_succ])
    refine wpAnyH_ready (rs := [7]) (by kernel_rfl) (by simp) ?_
    refine AllReadyH.cons (o := { dst := some 20, op := Go.Op.call { callee := Go.Callee.value (Go.Operand.func 65), args := #[Go.Operand.tmp 19], argTypes := #[24] }, type := 27, pos := _, after := #[{ on := 6, ground := Go.Ground.data }, { on := 5, ground := Go.Ground.chain }], guard := none }) rfl (fun K hK => ?_) AllReadyH.nil
    (go_simp; (refine (HBb _).mono ?_); (rintro e wn ⟨rfl, hb⟩); go_wp2_with fail)
    refine hK.out _ _ ?hSr1_8_7 (fun hHeld2 => ?_)
    case hSr1_8_7 => (first | exact ⟨c0, c1, c2, c3, c4, d0, d1, d2, d3, d4, hb0⟩ | (obtain ⟨s0, s1, s2, s3, s4, t0, t1, t2, t3, t4, s5⟩ := hHeld; exact ⟨cell_later hb s0, cell_later hb s1, cell_later hb s2, cell_later hb s3, cell_later hb s4, cell_later hb t0, cell_later hb t1, cell_later hb t2, cell_later hb t3, cell_later hb t4, below_step s5 hb⟩))
    clear hK K hHeld
    have hHeld := hHeld2
    clear hHeld2
    (try simp only [Act.put, List.setIfInBounds_toArray, List.set_cons_zero, List.set_cons_succ])
    refine wpAnyH_ready (rs := [8]) (by kernel_rfl) (by simp) ?_
    refine AllReadyH.cons (o := { dst := some 21, op := Go.Op.call { callee := Go.Callee.value (Go.Operand.func 78), args := #[Go.Operand.tmp 18, Go.Operand.tmp 20], argTypes := #[27, 27] }, type := 3, pos := _, after := #[{ on := 5, ground := Go.Ground.data }, { on := 7, ground := Go.Ground.data }, { on := 7, ground := Go.Ground.chain }], guard := none }) rfl (fun K hK => ?_) AllReadyH.nil
    go_simp
    ((refine (HT _).mono ?_); (rintro e wn ⟨rfl, hb⟩))
    go_wp2_with fail
    refine hK.out _ _ ?hSr1_9_8 (fun hHeld2 => ?_)
    case hSr1_9_8 => (first | exact ⟨c0, c1, c2, c3, c4, d0, d1, d2, d3, d4, hb0⟩ | (obtain ⟨s0, s1, s2, s3, s4, t0, t1, t2, t3, t4, s5⟩ := hHeld; exact ⟨cell_later hb s0, cell_later hb s1, cell_later hb s2, cell_later hb s3, cell_later hb s4, cell_later hb t0, cell_later hb t1, cell_later hb t2, cell_later hb t3, cell_later hb t4, below_step s5 hb⟩))
    clear hK K hHeld
    have hHeld := hHeld2
    clear hHeld2
    (try simp only [Act.put, List.setIfInBounds_toArray, List.set_cons_zero, List.set_cons_succ])
    refine wpAnyH_take (i := 9) (oi := { dst := some 22, op := Go.Op.call { callee := Go.Callee.builtin Go.Builtin.min, args := #[Go.Operand.tmp 14, Go.Operand.tmp 16, Go.Operand.tmp 21], argTypes := #[3, 3, 3] }, type := 3, pos := _, after := #[{ on := 1, ground := Go.Ground.data }, { on := 3, ground := Go.Ground.data }, { on := 8, ground := Go.Ground.data }], guard := none }) (v := ?vr1_10_9) rfl (by kernel_rfl) (by kernel_rfl) (by kernel_rfl) (fun _ _ _ h => h) (Or.inl ⟨by rfl, ?yr1_10_9⟩) hHeld ?_
    case yr1_10_9 => (intro w hSw; (try dsimp only at hSw); go_simp; rw [min3_if an bn x])
    (try simp only [Act.put, List.setIfInBounds_toArray, List.set_cons_zero, List.set_cons_succ])
    refine wpAnyH_take (i := 10) (oi := { dst := some 4, op := Go.Op.assign (Go.Operand.tmp 22), type := 3, pos := _, after := #[{ on := 9, ground := Go.Ground.data }, { on := 8, ground := Go.Ground.chain }, { on := 0, ground := Go.Ground.phase }, { on := 1, ground := Go.Ground.phase }, { on := 2, ground := Go.Ground.phase }, { on := 3, ground := Go.Ground.phase }, { on := 4, ground := Go.Ground.phase }, { on := 5, ground := Go.Ground.phase }, { on := 6, ground := Go.Ground.phase }, { on := 7, ground := Go.Ground.phase }, { on := 8, ground := Go.Ground.phase }, { on := 9, ground := Go.Ground.phase }], guard := none }) (v := ?vr1_11_10) rfl (by kernel_rfl) (by kernel_rfl) (by kernel_rfl) (fun _ _ _ h => h) (Or.inl ⟨by rfl, ?yr1_11_10⟩) hHeld ?_
    case yr1_11_10 => ((intro w hSw; (try dsimp only at hSw); go_simp) <;> with_reducible rfl)
    (try simp only [Act.put, List.setIfInBounds_toArray, List.set_cons_zero, List.set_cons_succ])
    refine wpAnyH_done (by kernel_rfl) ?_ _
    (go_wp2; go_ret; exact ⟨ret_int (by have := HD.out; omega), hHeld.2.2.2.2.2.2.2.2.2.2⟩)
set_option maxHeartbeats 4000000 in
theorem kcut_t (k : Ke) (ok : k.ok) (n : Int) (hn : n ≤ 9223372036854775807) (w : World) : Calls Try.prog 30 #[kv k, .int .i64 n] w fun e w' => e = .returned (kv (cutK k n)) ∧ Below w.heap.size w w' := by
  have HR := kright_t k ok
  have HT := ktop_t k (max n 0) ok.h ok.l (by omega) ok.path
  have HD : cutK k n = if rightK k = true then (if k.len ≤ n then k else topK k (max n 0)) else kz := rfl
  rw [HD]
  clear HD
  generalize topK k (max n 0) = t at *
  generalize rightK k = r at *
  obtain ⟨kd, len, h, l, p⟩ := k
  obtain ⟨t0, t1, t2, t3, t4⟩ := t
  clear ok
  dsimp only
  unfold kv at HR HT
  dsimp only at *
  obtain ⟨R0, R1, hb0⟩ := two_rows w #[.int .i64 kd, .int .i64 len, .int .u64 h, .int .u64 l, .string ⟨p.toArray⟩] #[.int .i64 0, .int .i64 0, .int .u64 0, .int .u64 0, .string ⟨#[]⟩] 24 24
  cases r with
  | false =>
    rw [if_neg (by simp)]
    unfold kv kz
    dsimp only
    go_enter Try.func30, Try.ntmps30
    go_wp2_with fail
    refine (HR _).mono ?_
    rintro e w1 ⟨rfl, hb⟩
    replace R1 := R1.later hb
    replace hb0 := below_step hb0 hb
    clear HR HT hb R0
    have c0 := ((R1).cell 0).trans (show _ = some (Value.int .i64 0) from rfl)
    have cf0 := (R1).frozen 0
    have c1 := ((R1).cell 1).trans (show _ = some (Value.int .i64 0) from rfl)
    have cf1 := (R1).frozen 1
    have c2 := ((R1).cell 2).trans (show _ = some (Value.int .u64 0) from rfl)
    have cf2 := (R1).frozen 2
    have c3 := ((R1).cell 3).trans (show _ = some (Value.int .u64 0) from rfl)
    have cf3 := (R1).frozen 3
    have c4 := ((R1).cell 4).trans (show _ = some (Value.string ⟨#[]⟩) from rfl)
    have cf4 := (R1).frozen 4
    clear R1
    go_wp2
    refine bodyPost_ret (v := .agg #[.int .i64 0, .int .i64 0, .int .u64 0, .int .u64 0, .string ⟨#[]⟩]) (by simp [results, Try.results30, go_sem, c0, c1, c2, c3, c4]) rfl ⟨rfl, bset5 hb0 (by omega) _ _ _ _ _⟩
  | true =>
    rw [if_pos rfl]
    by_cases hc : len ≤ n
    · rw [if_pos hc]
      unfold kv
      dsimp only
      go_enter Try.func30, Try.ntmps30
      go_wp2_with fail
      refine (HR _).mono ?_
      rintro e w1 ⟨rfl, hb⟩
      replace R1 := R1.later hb
      replace R0 := R0.later hb
      replace hb0 := below_step hb0 hb
      clear HR HT hb
      have c0 := ((R1).cell 0).trans (show _ = some (Value.int .i64 0) from rfl)
      have cf0 := (R1).frozen 0
      have c1 := ((R1).cell 1).trans (show _ = some (Value.int .i64 0) from rfl)
      have cf1 := (R1).frozen 1
      have c2 := ((R1).cell 2).trans (show _ = some (Value.int .u64 0) from rfl)
      have cf2 := (R1).frozen 2
      have c3 := ((R1).cell 3).trans (show _ = some (Value.int .u64 0) from rfl)
      have cf3 := (R1).frozen 3
      have c4 := ((R1).cell 4).trans (show _ = some (Value.string ⟨#[]⟩) from rfl)
      have cf4 := (R1).frozen 4
      have d0 := ((R0).cell 0).trans (show _ = some (Value.int .i64 kd) from rfl)
      have df0 := (R0).frozen 0
      have d1 := ((R0).cell 1).trans (show _ = some (Value.int .i64 len) from rfl)
      have df1 := (R0).frozen 1
      have d2 := ((R0).cell 2).trans (show _ = some (Value.int .u64 h) from rfl)
      have df2 := (R0).frozen 2
      have d3 := ((R0).cell 3).trans (show _ = some (Value.int .u64 l) from rfl)
      have df3 := (R0).frozen 3
      have d4 := ((R0).cell 4).trans (show _ = some (Value.string ⟨p.toArray⟩) from rfl)
      have df4 := (R0).frozen 4
      clear R1 R0
      go_wp2
      refine bodyPost_ret (v := .agg #[.int .i64 kd, .int .i64 len, .int .u64 h, .int .u64 l, .string ⟨p.toArray⟩]) (by simp [results, Try.results30, go_sem, c0, c1, c2, c3, c4]) rfl ⟨rfl, bset5 hb0 (by omega) _ _ _ _ _⟩
    · rw [if_neg hc]
      unfold kv
      dsimp only
      go_enter Try.func30, Try.ntmps30
      go_wp2_with fail
      refine (HR _).mono ?_
      rintro e w1 ⟨rfl, hb⟩
      replace R1 := R1.later hb
      replace R0 := R0.later hb
      replace hb0 := below_step hb0 hb
      clear HR hb
      have d0 := ((R0).cell 0).trans (show _ = some (Value.int .i64 kd) from rfl)
      have df0 := (R0).frozen 0
      have d1 := ((R0).cell 1).trans (show _ = some (Value.int .i64 len) from rfl)
      have df1 := (R0).frozen 1
      have d2 := ((R0).cell 2).trans (show _ = some (Value.int .u64 h) from rfl)
      have df2 := (R0).frozen 2
      have d3 := ((R0).cell 3).trans (show _ = some (Value.int .u64 l) from rfl)
      have df3 := (R0).frozen 3
      have d4 := ((R0).cell 4).trans (show _ = some (Value.string ⟨p.toArray⟩) from rfl)
      have df4 := (R0).frozen 4
      clear R0
      go_wp2_with fail
      refine (HT _).mono ?_
      rintro e w2 ⟨rfl, hb⟩
      replace R1 := R1.later hb
      replace hb0 := below_step hb0 hb
      clear HT hb d0 d1 d2 d3 d4 df0 df1 df2 df3 df4
      have c0 := ((R1).cell 0).trans (show _ = some (Value.int .i64 0) from rfl)
      have cf0 := (R1).frozen 0
      have c1 := ((R1).cell 1).trans (show _ = some (Value.int .i64 0) from rfl)
      have cf1 := (R1).frozen 1
      have c2 := ((R1).cell 2).trans (show _ = some (Value.int .u64 0) from rfl)
      have cf2 := (R1).frozen 2
      have c3 := ((R1).cell 3).trans (show _ = some (Value.int .u64 0) from rfl)
      have cf3 := (R1).frozen 3
      have c4 := ((R1).cell 4).trans (show _ = some (Value.string ⟨#[]⟩) from rfl)
      have cf4 := (R1).frozen 4
      clear R1
      go_wp2
      refine bodyPost_ret (v := .agg #[.int .i64 t0, .int .i64 t1, .int .u64 t2, .int .u64 t3, .string ⟨t4.toArray⟩]) (by simp [results, Try.results30, go_sem, c0, c1, c2, c3, c4]) rfl ⟨rfl, bset5 hb0 (by omega) _ _ _ _ _⟩
end Go.Proofs.Ytekoicbjpoeijaa
