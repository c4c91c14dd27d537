/- Meet of the reference of layer 7. No conditions beyond ranges and lengths. -/
import Derived.Test.YtekoicbjpoeijaaKR10
namespace Go.Proofs.Ytekoicbjpoeijaa
set_option linter.unusedVariables false
set_option linter.unusedSimpArgs false
open Go.RowKit
theorem meet_top {a b : Ke} (ha : rightK a = true) (hb : rightK b = true) (hk : a.kind = b.kind) : meetB a b = true ∧ meetK a b = topK a (sameN (letK a) (letK b) : Nat) := by
  have h : meetB a b = true := by unfold meetB; rw [ha, hb, decide_eq_true hk]; rfl
  refine ⟨h, ?_⟩
  unfold meetK
  rw [if_pos h, sameK_eq ha hb hk]
set_option maxRecDepth 100000 in
set_option maxHeartbeats 8000000 in
/-- the reference's Meet behind its two Letters, where both keys may be and have one kind -/
theorem rmeet_bad (a b : Ke) (ha : a.ok) (hb' : b.ok) (hm : meetB a b = false) (w : World) : Calls Try.prog 29 #[kv a, kv b] w fun e w' => e = .returned (.tuple #[kv (meetK a b), .bool (meetB a b)]) ∧ Below w.heap.size w w' := by
  have HLa : ∀ w1, Calls Try.prog 53 #[kv a] w1 fun e w' => ∃ v, e = .returned (.tuple #[v, .bool (rightK a)]) ∧ SS w' v (letR a) ∧ Below w1.heap.size w1 w' := fun w1 => letters_t a ha w1
  have HLb : ∀ w1, Calls Try.prog 53 #[kv b] w1 fun e w' => ∃ v, e = .returned (.tuple #[v, .bool (rightK b)]) ∧ SS w' v (letR b) ∧ Below w1.heap.size w1 w' := fun w1 => letters_t b hb' w1
  rw [meet_bad hm, hm]
  have hc : rightK a = false ∨ (rightK a = true ∧ rightK b = false) ∨ (rightK a = true ∧ rightK b = true ∧ ¬ a.kind = b.kind) := by
    unfold meetB at hm
    cases h1 : rightK a <;> cases h2 : rightK b <;> simp_all
  clear hm ha hb'
  generalize rightK a = ra at *
  generalize rightK b = rb at *
  generalize letR a = la at *
  generalize letR b = lb at *
  obtain ⟨R0, R1, R2, hb0⟩ := three_rows w #[.int .i64 a.kind, .int .i64 a.len, .int .u64 a.h, .int .u64 a.l, .string ⟨a.path.toArray⟩] #[.int .i64 b.kind, .int .i64 b.len, .int .u64 b.h, .int .u64 b.l, .string ⟨b.path.toArray⟩] #[.int .i64 0, .int .i64 0, .int .u64 0, .int .u64 0, .string ⟨#[]⟩] 24 24 24
  unfold kv kz at *
  dsimp only
  rcases hc with rfl | ⟨rfl, rfl⟩ | ⟨rfl, rfl, hk⟩
  all_goals
    try have hk' : (a.kind == b.kind) = false := by simpa using hk
    go_enter Try.func29, Try.ntmps29
    go_wp2_with fail
    refine (HLa _).mono ?_
    rintro e w1 ⟨u, rfl, _, hb⟩
    replace R0 := R0.later hb
    replace R1 := R1.later hb
    replace R2 := R2.later hb
    replace hb0 := below_step hb0 hb
    clear hb HLa
    have d0 := ((R1).cell 0).trans (show _ = some (Value.int .i64 b.kind) from rfl)
    have df0 := (R1).frozen 0
    have d1 := ((R1).cell 1).trans (show _ = some (Value.int .i64 b.len) from rfl)
    have df1 := (R1).frozen 1
    have d2 := ((R1).cell 2).trans (show _ = some (Value.int .u64 b.h) from rfl)
    have df2 := (R1).frozen 2
    have d3 := ((R1).cell 3).trans (show _ = some (Value.int .u64 b.l) from rfl)
    have df3 := (R1).frozen 3
    have d4 := ((R1).cell 4).trans (show _ = some (Value.string ⟨b.path.toArray⟩) from rfl)
    have df4 := (R1).frozen 4
    go_wp2_with fail
    refine (HLb _).mono ?_
    rintro e w2 ⟨v, rfl, _, hb⟩
    have a0 := ((R0.later hb).cell 0).trans (show _ = some (Value.int .i64 a.kind) from rfl)
    have b0 := ((R1.later hb).cell 0).trans (show _ = some (Value.int .i64 b.kind) from rfl)
    replace R2 := R2.later hb
    replace hb0 := below_step hb0 hb
    clear hb HLb d0 d1 d2 d3 d4 df0 df1 df2 df3 df4 R0 R1
    have c0 := ((R2).cell 0).trans (show _ = some (Value.int .i64 0) from rfl)
    have cf0 := (R2).frozen 0
    have c1 := ((R2).cell 1).trans (show _ = some (Value.int .i64 0) from rfl)
    have cf1 := (R2).frozen 1
    have c2 := ((R2).cell 2).trans (show _ = some (Value.int .u64 0) from rfl)
    have cf2 := (R2).frozen 2
    have c3 := ((R2).cell 3).trans (show _ = some (Value.int .u64 0) from rfl)
    have cf3 := (R2).frozen 3
    have c4 := ((R2).cell 4).trans (show _ = some (Value.string ⟨#[]⟩) from rfl)
    have cf4 := (R2).frozen 4
    clear R2
    go_wp2
    refine bodyPost_ret (v := .tuple #[.agg #[.int .i64 0, .int .i64 0, .int .u64 0, .int .u64 0, .string ⟨#[]⟩], .bool false]) (by simp [results, Try.results29, go_sem, c0, c1, c2, c3, c4]) rfl ⟨rfl, bset5 hb0 (by omega) _ _ _ _ _⟩
set_option maxRecDepth 100000 in
set_option maxHeartbeats 8000000 in
theorem rmeet_go (a b : Ke) (ha : a.ok) (hb' : b.ok) (hra : rightK a = true) (hrb : rightK b = true) (hk : a.kind = b.kind) (w : World) : Calls Try.prog 29 #[kv a, kv b] w fun e w' => e = .returned (.tuple #[kv (meetK a b), .bool (meetB a b)]) ∧ Below w.heap.size w w' := by
  have HLa : ∀ w1, Calls Try.prog 53 #[kv a] w1 fun e w' => ∃ v, e = .returned (.tuple #[v, .bool (rightK a)]) ∧ SS w' v (letR a) ∧ Below w1.heap.size w1 w' := fun w1 => letters_t a ha w1
  have HLb : ∀ w1, Calls Try.prog 53 #[kv b] w1 fun e w' => ∃ v, e = .returned (.tuple #[v, .bool (rightK b)]) ∧ SS w' v (letR b) ∧ Below w1.heap.size w1 w' := fun w1 => letters_t b hb' w1
  rw [hra, show letR a = letK a by unfold letR; rw [if_pos hra]] at HLa
  rw [hrb, show letR b = letK b by unfold letR; rw [if_pos hrb]] at HLb
  obtain ⟨m1, m2⟩ := meet_top hra hrb hk
  rw [m1, m2]
  have h8 := letK_small hra
  have HOF := Lib.hid (fun (m : Nat) (hm : m ≤ (letK a).length) (v : Value) (w1 : World) (hS : SS w1 v ((letK a).take m)) => rof_take a ha hra m hm v w1 hS)
  have hst := Lib.hid (sameN_stop (letK a) (letK b))
  have hle := sameN_le (letK a) (letK b)
  have hk' : (a.kind == b.kind) = true := by simpa using hk
  clear m1 m2 ha hb' hra hrb hk
  generalize letK a = la at *
  generalize letK b = lb at *
  generalize sameN la lb = N at *
  have HO2 := Lib.hid (HOF.out N hle)
  clear HOF
  generalize topK a (N : Int) = t at *
  obtain ⟨t0, t1, t2, t3, t4⟩ := t
  obtain ⟨R0, R1, R2, hb0⟩ := three_rows w #[.int .i64 a.kind, .int .i64 a.len, .int .u64 a.h, .int .u64 a.l, .string ⟨a.path.toArray⟩] #[.int .i64 b.kind, .int .i64 b.len, .int .u64 b.h, .int .u64 b.l, .string ⟨b.path.toArray⟩] #[.int .i64 0, .int .i64 0, .int .u64 0, .int .u64 0, .string ⟨#[]⟩] 24 24 24
  unfold kv at *
  dsimp only at *
  go_enter Try.func29, Try.ntmps29
  go_wp2_with fail
  refine (HLa _).mono ?_
  rintro e w1 ⟨u, rfl, hS, hb⟩
  replace R0 := R0.later hb
  replace R1 := R1.later hb
  replace R2 := R2.later hb
  replace hb0 := below_step hb0 hb
  clear hb HLa
  have d0 := ((R1).cell 0).trans (show _ = some (Value.int .i64 b.kind) from rfl)
  have df0 := (R1).frozen 0
  have d1 := ((R1).cell 1).trans (show _ = some (Value.int .i64 b.len) from rfl)
  have df1 := (R1).frozen 1
  have d2 := ((R1).cell 2).trans (show _ = some (Value.int .u64 b.h) from rfl)
  have df2 := (R1).frozen 2
  have d3 := ((R1).cell 3).trans (show _ = some (Value.int .u64 b.l) from rfl)
  have df3 := (R1).frozen 3
  have d4 := ((R1).cell 4).trans (show _ = some (Value.string ⟨b.path.toArray⟩) from rfl)
  have df4 := (R1).frozen 4
  go_wp2_with fail
  refine (HLb _).mono ?_
  rintro e w2 ⟨v, rfl, hT, hb⟩
  replace hS := hS.later hb
  have a0 := ((R0.later hb).cell 0).trans (show _ = some (Value.int .i64 a.kind) from rfl)
  have b0 := ((R1.later hb).cell 0).trans (show _ = some (Value.int .i64 b.kind) from rfl)
  replace R2 := R2.later hb
  replace hb0 := below_step hb0 hb
  clear hb HLb d0 d1 d2 d3 d4 df0 df1 df2 df3 df4 R0 R1
  have HSS := Lib.hid hS
  obtain ⟨pa, ca, rfl, hca, hpa⟩ := hS
  obtain ⟨pb, cb, rfl, hcb, hpb⟩ := hT
  have Hpa := Lib.hid hpa
  have Hpb := Lib.hid hpb
  have HR2 := Lib.hid R2
  have HB0 := Lib.hid hb0
  clear hpa hpb R2 hb0
  go_wp2_with fail
  go_loopw [10] (fun i wr => ∃ (j : Nat), j ≤ la.length ∧ i = .int .i64 j ∧ Hid (∀ i, i < j → la[i]? = lb[i]? ∧ i < la.length ∧ i < lb.length) ∧ Hid (∃ n, wr = w2.drewN n)) (fun i _ => la.length - (intOf i).toNat)
  case atStart => exact ⟨0, by omega, rfl, Lib.hid (fun i hi => by omega), Lib.hid ⟨0, rfl⟩⟩
  case round =>
    obtain ⟨j, hj, rfl, hi, hw⟩ := hrel
    by_cases h1 : j < la.length ∧ j < lb.length ∧ la[j]? = lb[j]?
    · obtain ⟨l1, l2, hxy⟩ := h1
      obtain ⟨ga, oa, rfl, hga, hA⟩ := Hpa.out (by omega)
      obtain ⟨gb, ob, rfl, hgb, hB⟩ := Hpb.out (by omega)
      obtain ⟨x, hx⟩ : ∃ x, la[j]? = some x := ⟨_, List.getElem?_eq_getElem l1⟩
      rw [hx] at hxy
      have cA : wr.cell? ⟨ga, oa + j, none⟩ = some (.string ⟨x.toArray⟩) := by obtain ⟨n, rfl⟩ := hw.out; exact hA j x hx
      have cB : wr.cell? ⟨gb, ob + j, none⟩ = some (.string ⟨x.toArray⟩) := by obtain ⟨n, rfl⟩ := hw.out; exact hB j x hxy.symm
      have q2 : (j : Int) < (la.length : Int) := by omega
      have q3 : (j : Int) < (lb.length : Int) := by omega
      have hnx := Lib.hid (show ∀ i, i < j + 1 → la[i]? = lb[i]? ∧ i < la.length ∧ i < lb.length from fun i h => by
        by_cases e : i = j
        · subst e; exact ⟨by rw [hx, hxy], l1, l2⟩
        · exact hi.out i (by omega))
      have hw' := Lib.hid (show ∀ q, ∃ n, wr.drewN q = w2.drewN n by intro q; obtain ⟨n, rfl⟩ := hw.out; exact ⟨n + q, by simp [World.drewN, Nat.add_assoc]⟩)
      clear hA hB Hpa Hpb hx hxy hi hw
      go_wp2_with fail
      go_quiet (fail)
      go_wp2
      exact ⟨⟨j + 1, by omega, by go_num, hnx, Lib.hid (hw'.out _)⟩, by simp [intOf]; omega⟩
    · have hNj : N = j := hst.out j hi.out (by
        by_cases l1 : j < la.length ∧ j < lb.length
        · exact .inr (fun e => h1 ⟨l1.1, l1.2, e⟩)
        · exact .inl l1)
      subst hNj
      have hBW := Lib.hid (show ∀ q, Below w2.heap.size w2 (wr.drewN q) by intro q; obtain ⟨n, rfl⟩ := hw.out; exact below_drewN (below_drewN (Below.refl _ _) n) q)
      obtain ⟨hT, hmc⟩ := ss_take HSS.out _ hle
      have HO3 := Lib.hid (fun (W : World) (hb : Below w2.heap.size w2 W) => HO2.out _ W (hT.later hb))
      clear hT HO2 HSS hst
      by_cases l1 : N < la.length
      · have q2 : (N : Int) < (la.length : Int) := by omega
        obtain ⟨ga, oa, rfl, hga, hA⟩ := Hpa.out (by omega)
        by_cases l2 : N < lb.length
        · have q3 : (N : Int) < (lb.length : Int) := by omega
          obtain ⟨gb, ob, rfl, hgb, hB⟩ := Hpb.out (by omega)
          obtain ⟨x, hx⟩ : ∃ x, la[N]? = some x := ⟨_, List.getElem?_eq_getElem l1⟩
          obtain ⟨y, hy⟩ : ∃ y, lb[N]? = some y := ⟨_, List.getElem?_eq_getElem l2⟩
          have cA : wr.cell? ⟨ga, oa + N, none⟩ = some (.string ⟨x.toArray⟩) := by obtain ⟨n, rfl⟩ := hw.out; exact hA N x hx
          have cB : wr.cell? ⟨gb, ob + N, none⟩ = some (.string ⟨y.toArray⟩) := by obtain ⟨n, rfl⟩ := hw.out; exact hB N y hy
          have hbe : (x == y) = false := by
            have : x ≠ y := fun e => h1 ⟨l1, l2, by rw [hx, hy, e]⟩
            simpa using this
          clear hx hy h1
          clear hi hw Hpa Hpb hA hB
          go_wp2_with fail
          go_quiet (fail)
          go_wp2_with fail
          refine wp_region_held_drew (S := (fun w' => w'.cell? ⟨w.heap.size, 0, none⟩ = some (.int .i64 a.kind))) (by kernel_rfl) ?hSr1_ (fun hHeld => ?_)
          case hSr1_ => (first | exact cell_later ((hBW.out _).drew) a0 | exact cell_later hb hHeld)
          refine wpAnyH_take (i := 0) (oi := { dst := some 58, op := Go.Op.fieldAddr 24 (Go.Operand.tmp 2) 0, type := 0, pos := _, after := #[], guard := none }) (v := ?vr1_1_0) rfl (by kernel_rfl) (by kernel_rfl) (by kernel_rfl) (fun _ _ _ h => h) (Or.inl ⟨by rfl, ?yr1_1_0⟩) hHeld ?_
          case yr1_1_0 => ((intro w hSw; (try dsimp only at hSw); go_simp) <;> with_reducible rfl)
          (try simp only [Act.put, List.setIfInBounds_toArray, List.set_cons_zero, List.set_cons_succ])
          refine wpAnyH_take (i := 1) (oi := { dst := some 59, op := Go.Op.load 3 (Go.Operand.tmp 58), type := 3, pos := _, after := #[{ on := 0, ground := Go.Ground.data }], guard := none }) (v := ?vr1_2_1) rfl (by kernel_rfl) (by kernel_rfl) (by kernel_rfl) (fun _ _ _ h => h) (Or.inl ⟨by rfl, ?yr1_2_1⟩) hHeld ?_
          case yr1_2_1 => ((intro w hSw; (try dsimp only at hSw); go_simp) <;> with_reducible rfl)
          (try simp only [Act.put, List.setIfInBounds_toArray, List.set_cons_zero, List.set_cons_succ])
          refine wpAnyH_take (i := 2) (oi := { dst := some 60, op := Go.Op.move (Go.Operand.tmp 6), type := 64, pos := _, after := #[], guard := none }) (v := ?vr1_3_2) rfl (by kernel_rfl) (by kernel_rfl) (by kernel_rfl) (fun _ _ _ h => h) (Or.inl ⟨by rfl, ?yr1_3_2⟩) hHeld ?_
          case yr1_3_2 => ((intro w hSw; (try dsimp only at hSw); go_simp) <;> with_reducible rfl)
          (try simp only [Act.put, List.setIfInBounds_toArray, List.set_cons_zero, List.set_cons_succ])
          refine wpAnyH_take (i := 3) (oi := { dst := some 61, op := Go.Op.move (Go.Operand.tmp 10), type := 3, pos := _, after := #[], guard := none }) (v := ?vr1_4_3) rfl (by kernel_rfl) (by kernel_rfl) (by kernel_rfl) (fun _ _ _ h => h) (Or.inl ⟨by rfl, ?yr1_4_3⟩) hHeld ?_
          case yr1_4_3 => ((intro w hSw; (try dsimp only at hSw); go_simp) <;> with_reducible rfl)
          (try simp only [Act.put, List.setIfInBounds_toArray, List.set_cons_zero, List.set_cons_succ])
          refine wpAnyH_take (i := 4) (oi := { dst := some 62, op := Go.Op.slice 64 (Go.Operand.tmp 60) none (some (Go.Operand.tmp 61)) none, type := 64, pos := _, after := #[{ on := 2, ground := Go.Ground.data }, { on := 3, ground := Go.Ground.data }], guard := none }) (v := ?vr1_5_4) rfl (by kernel_rfl) (by kernel_rfl) (by kernel_rfl) (fun _ _ _ h => h) (Or.inl ⟨by rfl, ?yr1_5_4⟩) hHeld ?_
          case yr1_5_4 => ((intro w hSw; (try dsimp only at hSw); go_simp) <;> with_reducible rfl)
          (try simp only [Act.put, List.setIfInBounds_toArray, List.set_cons_zero, List.set_cons_succ])
          refine wpAnyH_ready (rs := [5]) (by kernel_rfl) (by simp) ?_
          refine AllReadyH.cons (o := { dst := some 63, op := Go.Op.call { callee := Go.Callee.value (Go.Operand.func 56), args := #[Go.Operand.tmp 59, Go.Operand.tmp 62], argTypes := #[3, 64] }, type := 24, pos := _, after := #[{ on := 1, ground := Go.Ground.data }, { on := 4, ground := Go.Ground.data }], guard := none }) rfl (fun K hK => ?_) AllReadyH.nil
          go_simp
          ((refine (HO3.out _ ((hBW.out _).drew)).mono ?_); (rintro e wn ⟨rfl, hb⟩); (have R2 := (HR2.out.later ((hBW.out _).drew)).later hb); (have hb0 := below_step (below_step HB0.out ((hBW.out _).drew)) hb))
          go_wp2_with fail
          refine hK.out _ _ ?hSr1_6_5 (fun hHeld2 => ?_)
          case hSr1_6_5 => (first | exact cell_later ((hBW.out _).drew) a0 | exact cell_later hb hHeld)
          clear hK K hHeld
          have hHeld := hHeld2
          clear hHeld2
          (try simp only [Act.put, List.setIfInBounds_toArray, List.set_cons_zero, List.set_cons_succ])
          refine wpAnyH_ready (rs := [6]) (by kernel_rfl) (by simp) ?_
          refine AllReadyH.cons (o := { dst := none, op := Go.Op.store 24 (Go.Operand.tmp 4) (Go.Operand.tmp 63), type := 0, pos := _, after := #[{ on := 5, ground := Go.Ground.data }, { on := 5, ground := Go.Ground.chain }, { on := 0, ground := Go.Ground.phase }, { on := 1, ground := Go.Ground.phase }, { on := 2, ground := Go.Ground.phase }, { on := 3, ground := Go.Ground.phase }, { on := 4, ground := Go.Ground.phase }, { on := 5, ground := Go.Ground.phase }], guard := none }) rfl (fun K hK => ?_) AllReadyH.nil
          ((have z0 := R2.cell 0); (have z1 := R2.cell 1); (have z2 := R2.cell 2); (have z3 := R2.cell 3); (have z4 := R2.cell 4); (simp at z0 z1 z2 z3 z4); (have zf0 := R2.frozen 0); (have zf1 := R2.frozen 1); (have zf2 := R2.frozen 2); (have zf3 := R2.frozen 3); (have zf4 := R2.frozen 4); go_simp)
          refine hK.out _ _ ?hSr1_7_6 (fun hHeld2 => ?_)
          case hSr1_7_6 => (simp [go_sem, hHeld])
          clear hK K hHeld
          have hHeld := hHeld2
          clear hHeld2
          (try simp only [Act.put, List.setIfInBounds_toArray, List.set_cons_zero, List.set_cons_succ])
          refine wpAnyH_take (i := 7) (oi := { dst := some 5, op := Go.Op.assign (Go.Operand.const (Go.Value.bool true)), type := 4, pos := _, after := #[{ on := 6, ground := Go.Ground.chain }, { on := 0, ground := Go.Ground.phase }, { on := 1, ground := Go.Ground.phase }, { on := 2, ground := Go.Ground.phase }, { on := 3, ground := Go.Ground.phase }, { on := 4, ground := Go.Ground.phase }, { on := 5, ground := Go.Ground.phase }, { on := 6, ground := Go.Ground.phase }], guard := none }) (v := ?vr1_8_7) rfl (by kernel_rfl) (by kernel_rfl) (by kernel_rfl) (fun _ _ _ h => h) (Or.inl ⟨by rfl, ?yr1_8_7⟩) hHeld ?_
          case yr1_8_7 => ((intro w hSw; (try dsimp only at hSw); go_simp) <;> with_reducible rfl)
          (try simp only [Act.put, List.setIfInBounds_toArray, List.set_cons_zero, List.set_cons_succ])
          refine wpAnyH_done (by kernel_rfl) ?_ _
          (go_wp2_with fail; exact bodyPost_ret (v := .tuple #[.agg #[.int .i64 t0, .int .i64 t1, .int .u64 t2, .int .u64 t3, .string ⟨t4.toArray⟩], .bool true]) (by simp [results, Try.results29, go_sem, z0, z1, z2, z3, z4]) rfl ⟨rfl, bset5 hb0 (by omega) _ _ _ _ _⟩)
        · have q3 : decide ((N : Int) < (lb.length : Int)) = false := by rw [decide_eq_false_iff_not]; omega
          have hB : True := trivial
          clear h1
          clear hi hw Hpa Hpb hA hB
          go_wp2_with fail
          go_quiet (fail)
          go_wp2_with fail
          refine wp_region_held_drew (S := (fun w' => w'.cell? ⟨w.heap.size, 0, none⟩ = some (.int .i64 a.kind))) (by kernel_rfl) ?hSr2_ (fun hHeld => ?_)
          case hSr2_ => (first | exact cell_later ((hBW.out _).drew) a0 | exact cell_later hb hHeld)
          refine wpAnyH_take (i := 0) (oi := { dst := some 58, op := Go.Op.fieldAddr 24 (Go.Operand.tmp 2) 0, type := 0, pos := _, after := #[], guard := none }) (v := ?vr2_1_0) rfl (by kernel_rfl) (by kernel_rfl) (by kernel_rfl) (fun _ _ _ h => h) (Or.inl ⟨by rfl, ?yr2_1_0⟩) hHeld ?_
          case yr2_1_0 => ((intro w hSw; (try dsimp only at hSw); go_simp) <;> with_reducible rfl)
          (try simp only [Act.put, List.setIfInBounds_toArray, List.set_cons_zero, List.set_cons_succ])
          refine wpAnyH_take (i := 1) (oi := { dst := some 59, op := Go.Op.load 3 (Go.Operand.tmp 58), type := 3, pos := _, after := #[{ on := 0, ground := Go.Ground.data }], guard := none }) (v := ?vr2_2_1) rfl (by kernel_rfl) (by kernel_rfl) (by kernel_rfl) (fun _ _ _ h => h) (Or.inl ⟨by rfl, ?yr2_2_1⟩) hHeld ?_
          case yr2_2_1 => ((intro w hSw; (try dsimp only at hSw); go_simp) <;> with_reducible rfl)
          (try simp only [Act.put, List.setIfInBounds_toArray, List.set_cons_zero, List.set_cons_succ])
          refine wpAnyH_take (i := 2) (oi := { dst := some 60, op := Go.Op.move (Go.Operand.tmp 6), type := 64, pos := _, after := #[], guard := none }) (v := ?vr2_3_2) rfl (by kernel_rfl) (by kernel_rfl) (by kernel_rfl) (fun _ _ _ h => h) (Or.inl ⟨by rfl, ?yr2_3_2⟩) hHeld ?_
          case yr2_3_2 => ((intro w hSw; (try dsimp only at hSw); go_simp) <;> with_reducible rfl)
          (try simp only [Act.put, List.setIfInBounds_toArray, List.set_cons_zero, List.set_cons_succ])
          refine wpAnyH_take (i := 3) (oi := { dst := some 61, op := Go.Op.move (Go.Operand.tmp 10), type := 3, pos := _, after := #[], guard := none }) (v := ?vr2_4_3) rfl (by kernel_rfl) (by kernel_rfl) (by kernel_rfl) (fun _ _ _ h => h) (Or.inl ⟨by rfl, ?yr2_4_3⟩) hHeld ?_
          case yr2_4_3 => ((intro w hSw; (try dsimp only at hSw); go_simp) <;> with_reducible rfl)
          (try simp only [Act.put, List.setIfInBounds_toArray, List.set_cons_zero, List.set_cons_succ])
          refine wpAnyH_take (i := 4) (oi := { dst := some 62, op := Go.Op.slice 64 (Go.Operand.tmp 60) none (some (Go.Operand.tmp 61)) none, type := 64, pos := _, after := #[{ on := 2, ground := Go.Ground.data }, { on := 3, ground := Go.Ground.data }], guard := none }) (v := ?vr2_5_4) rfl (by kernel_rfl) (by kernel_rfl) (by kernel_rfl) (fun _ _ _ h => h) (Or.inl ⟨by rfl, ?yr2_5_4⟩) hHeld ?_
          case yr2_5_4 => ((intro w hSw; (try dsimp only at hSw); go_simp) <;> with_reducible rfl)
          (try simp only [Act.put, List.setIfInBounds_toArray, List.set_cons_zero, List.set_cons_succ])
          refine wpAnyH_ready (rs := [5]) (by kernel_rfl) (by simp) ?_
          refine AllReadyH.cons (o := { dst := some 63, op := Go.Op.call { callee := Go.Callee.value (Go.Operand.func 56), args := #[Go.Operand.tmp 59, Go.Operand.tmp 62], argTypes := #[3, 64] }, type := 24, pos := _, after := #[{ on := 1, ground := Go.Ground.data }, { on := 4, ground := Go.Ground.data }], guard := none }) rfl (fun K hK => ?_) AllReadyH.nil
          go_simp
          ((refine (HO3.out _ ((hBW.out _).drew)).mono ?_); (rintro e wn ⟨rfl, hb⟩); (have R2 := (HR2.out.later ((hBW.out _).drew)).later hb); (have hb0 := below_step (below_step HB0.out ((hBW.out _).drew)) hb))
          go_wp2_with fail
          refine hK.out _ _ ?hSr2_6_5 (fun hHeld2 => ?_)
          case hSr2_6_5 => (first | exact cell_later ((hBW.out _).drew) a0 | exact cell_later hb hHeld)
          clear hK K hHeld
          have hHeld := hHeld2
          clear hHeld2
          (try simp only [Act.put, List.setIfInBounds_toArray, List.set_cons_zero, List.set_cons_succ])
          refine wpAnyH_ready (rs := [6]) (by kernel_rfl) (by simp) ?_
          refine AllReadyH.cons (o := { dst := none, op := Go.Op.store 24 (Go.Operand.tmp 4) (Go.Operand.tmp 63), type := 0, pos := _, after := #[{ on := 5, ground := Go.Ground.data }, { on := 5, ground := Go.Ground.chain }, { on := 0, ground := Go.Ground.phase }, { on := 1, ground := Go.Ground.phase }, { on := 2, ground := Go.Ground.phase }, { on := 3, ground := Go.Ground.phase }, { on := 4, ground := Go.Ground.phase }, { on := 5, ground := Go.Ground.phase }], guard := none }) rfl (fun K hK => ?_) AllReadyH.nil
          ((have z0 := R2.cell 0); (have z1 := R2.cell 1); (have z2 := R2.cell 2); (have z3 := R2.cell 3); (have z4 := R2.cell 4); (simp at z0 z1 z2 z3 z4); (have zf0 := R2.frozen 0); (have zf1 := R2.frozen 1); (have zf2 := R2.frozen 2); (have zf3 := R2.frozen 3); (have zf4 := R2.frozen 4); go_simp)
          refine hK.out _ _ ?hSr2_7_6 (fun hHeld2 => ?_)
          case hSr2_7_6 => (simp [go_sem, hHeld])
          clear hK K hHeld
          have hHeld := hHeld2
          clear hHeld2
          (try simp only [Act.put, List.setIfInBounds_toArray, List.set_cons_zero, List.set_cons_succ])
          refine wpAnyH_take (i := 7) (oi := { dst := some 5, op := Go.Op.assign (Go.Operand.const (Go.Value.bool true)), type := 4, pos := _, after := #[{ on := 6, ground := Go.Ground.chain }, { on := 0, ground := Go.Ground.phase }, { on := 1, ground := Go.Ground.phase }, { on := 2, ground := Go.Ground.phase }, { on := 3, ground := Go.Ground.phase }, { on := 4, ground := Go.Ground.phase }, { on := 5, ground := Go.Ground.phase }, { on := 6, ground := Go.Ground.phase }], guard := none }) (v := ?vr2_8_7) rfl (by kernel_rfl) (by kernel_rfl) (by kernel_rfl) (fun _ _ _ h => h) (Or.inl ⟨by rfl, ?yr2_8_7⟩) hHeld ?_
          case yr2_8_7 => ((intro w hSw; (try dsimp only at hSw); go_simp) <;> with_reducible rfl)
          (try simp only [Act.put, List.setIfInBounds_toArray, List.set_cons_zero, List.set_cons_succ])
          refine wpAnyH_done (by kernel_rfl) ?_ _
          (go_wp2_with fail; exact bodyPost_ret (v := .tuple #[.agg #[.int .i64 t0, .int .i64 t1, .int .u64 t2, .int .u64 t3, .string ⟨t4.toArray⟩], .bool true]) (by simp [results, Try.results29, go_sem, z0, z1, z2, z3, z4]) rfl ⟨rfl, bset5 hb0 (by omega) _ _ _ _ _⟩)
      · have q2 : decide ((N : Int) < (la.length : Int)) = false := by rw [decide_eq_false_iff_not]; omega
        have hA : True := trivial
        have hB : True := trivial
        clear h1
        clear hi hw Hpa Hpb hA hB
        go_wp2_with fail
        go_quiet (fail)
        go_wp2_with fail
        refine wp_region_held_drew (S := (fun w' => w'.cell? ⟨w.heap.size, 0, none⟩ = some (.int .i64 a.kind))) (by kernel_rfl) ?hSr3_ (fun hHeld => ?_)
        case hSr3_ => (first | exact cell_later ((hBW.out _).drew) a0 | exact cell_later hb hHeld)
        refine wpAnyH_take (i := 0) (oi := { dst := some 58, op := Go.Op.fieldAddr 24 (Go.Operand.tmp 2) 0, type := 0, pos := _, after := #[], guard := none }) (v := ?vr3_1_0) rfl (by kernel_rfl) (by kernel_rfl) (by kernel_rfl) (fun _ _ _ h => h) (Or.inl ⟨by rfl, ?yr3_1_0⟩) hHeld ?_
        case yr3_1_0 => ((intro w hSw; (try dsimp only at hSw); go_simp) <;> with_reducible rfl)
        (try simp only [Act.put, List.setIfInBounds_toArray, List.set_cons_zero, List.set_cons_succ])
        refine wpAnyH_take (i := 1) (oi := { dst := some 59, op := Go.Op.load 3 (Go.Operand.tmp 58), type := 3, pos := _, after := #[{ on := 0, ground := Go.Ground.data }], guard := none }) (v := ?vr3_2_1) rfl (by kernel_rfl) (by kernel_rfl) (by kernel_rfl) (fun _ _ _ h => h) (Or.inl ⟨by rfl, ?yr3_2_1⟩) hHeld ?_
        case yr3_2_1 => ((intro w hSw; (try dsimp only at hSw); go_simp) <;> with_reducible rfl)
        (try simp only [Act.put, List.setIfInBounds_toArray, List.set_cons_zero, List.set_cons_succ])
        refine wpAnyH_take (i := 2) (oi := { dst := some 60, op := Go.Op.move (Go.Operand.tmp 6), type := 64, pos := _, after := #[], guard := none }) (v := ?vr3_3_2) rfl (by kernel_rfl) (by kernel_rfl) (by kernel_rfl) (fun _ _ _ h => h) (Or.inl ⟨by rfl, ?yr3_3_2⟩) hHeld ?_
        case yr3_3_2 => ((intro w hSw; (try dsimp only at hSw); go_simp) <;> with_reducible rfl)
        (try simp only [Act.put, List.setIfInBounds_toArray, List.set_cons_zero, List.set_cons_succ])
        refine wpAnyH_take (i := 3) (oi := { dst := some 61, op := Go.Op.move (Go.Operand.tmp 10), type := 3, pos := _, after := #[], guard := none }) (v := ?vr3_4_3) rfl (by kernel_rfl) (by kernel_rfl) (by kernel_rfl) (fun _ _ _ h => h) (Or.inl ⟨by rfl, ?yr3_4_3⟩) hHeld ?_
        case yr3_4_3 => ((intro w hSw; (try dsimp only at hSw); go_simp) <;> with_reducible rfl)
        (try simp only [Act.put, List.setIfInBounds_toArray, List.set_cons_zero, List.set_cons_succ])
        refine wpAnyH_take (i := 4) (oi := { dst := some 62, op := Go.Op.slice 64 (Go.Operand.tmp 60) none (some (Go.Operand.tmp 61)) none, type := 64, pos := _, after := #[{ on := 2, ground := Go.Ground.data }, { on := 3, ground := Go.Ground.data }], guard := none }) (v := ?vr3_5_4) rfl (by kernel_rfl) (by kernel_rfl) (by kernel_rfl) (fun _ _ _ h => h) (Or.inl ⟨by rfl, ?yr3_5_4⟩) hHeld ?_
        case yr3_5_4 => ((intro w hSw; (try dsimp only at hSw); go_simp) <;> with_reducible rfl)
        (try simp only [Act.put, List.setIfInBounds_toArray, List.set_cons_zero, List.set_cons_succ])
        refine wpAnyH_ready (rs := [5]) (by kernel_rfl) (by simp) ?_
        refine AllReadyH.cons (o := { dst := some 63, op := Go.Op.call { callee := Go.Callee.value (Go.Operand.func 56), args := #[Go.Operand.tmp 59, Go.Operand.tmp 62], argTypes := #[3, 64] }, type := 24, pos := _, after := #[{ on := 1, ground := Go.Ground.data }, { on := 4, ground := Go.Ground.data }], guard := none }) rfl (fun K hK => ?_) AllReadyH.nil
        go_simp
        ((refine (HO3.out _ ((hBW.out _).drew)).mono ?_); (rintro e wn ⟨rfl, hb⟩); (have R2 := (HR2.out.later ((hBW.out _).drew)).later hb); (have hb0 := below_step (below_step HB0.out ((hBW.out _).drew)) hb))
        go_wp2_with fail
        refine hK.out _ _ ?hSr3_6_5 (fun hHeld2 => ?_)
        case hSr3_6_5 => (first | exact cell_later ((hBW.out _).drew) a0 | exact cell_later hb hHeld)
        clear hK K hHeld
        have hHeld := hHeld2
        clear hHeld2
        (try simp only [Act.put, List.setIfInBounds_toArray, List.set_cons_zero, List.set_cons_succ])
        refine wpAnyH_ready (rs := [6]) (by kernel_rfl) (by simp) ?_
        refine AllReadyH.cons (o := { dst := none, op := Go.Op.store 24 (Go.Operand.tmp 4) (Go.Operand.tmp 63), type := 0, pos := _, after := #[{ on := 5, ground := Go.Ground.data }, { on := 5, ground := Go.Ground.chain }, { on := 0, ground := Go.Ground.phase }, { on := 1, ground := Go.Ground.phase }, { on := 2, ground := Go.Ground.phase }, { on := 3, ground := Go.Ground.phase }, { on := 4, ground := Go.Ground.phase }, { on := 5, ground := Go.Ground.phase }], guard := none }) rfl (fun K hK => ?_) AllReadyH.nil
        ((have z0 := R2.cell 0); (have z1 := R2.cell 1); (have z2 := R2.cell 2); (have z3 := R2.cell 3); (have z4 := R2.cell 4); (simp at z0 z1 z2 z3 z4); (have zf0 := R2.frozen 0); (have zf1 := R2.frozen 1); (have zf2 := R2.frozen 2); (have zf3 := R2.frozen 3); (have zf4 := R2.frozen 4); go_simp)
        refine hK.out _ _ ?hSr3_7_6 (fun hHeld2 => ?_)
        case hSr3_7_6 => (simp [go_sem, hHeld])
        clear hK K hHeld
        have hHeld := hHeld2
        clear hHeld2
        (try simp only [Act.put, List.setIfInBounds_toArray, List.set_cons_zero, List.set_cons_succ])
        refine wpAnyH_take (i := 7) (oi := { dst := some 5, op := Go.Op.assign (Go.Operand.const (Go.Value.bool true)), type := 4, pos := _, after := #[{ on := 6, ground := Go.Ground.chain }, { on := 0, ground := Go.Ground.phase }, { on := 1, ground := Go.Ground.phase }, { on := 2, ground := Go.Ground.phase }, { on := 3, ground := Go.Ground.phase }, { on := 4, ground := Go.Ground.phase }, { on := 5, ground := Go.Ground.phase }, { on := 6, ground := Go.Ground.phase }], guard := none }) (v := ?vr3_8_7) rfl (by kernel_rfl) (by kernel_rfl) (by kernel_rfl) (fun _ _ _ h => h) (Or.inl ⟨by rfl, ?yr3_8_7⟩) hHeld ?_
        case yr3_8_7 => ((intro w hSw; (try dsimp only at hSw); go_simp) <;> with_reducible rfl)
        (try simp only [Act.put, List.setIfInBounds_toArray, List.set_cons_zero, List.set_cons_succ])
        refine wpAnyH_done (by kernel_rfl) ?_ _
        (go_wp2_with fail; exact bodyPost_ret (v := .tuple #[.agg #[.int .i64 t0, .int .i64 t1, .int .u64 t2, .int .u64 t3, .string ⟨t4.toArray⟩], .bool true]) (by simp [results, Try.results29, go_sem, z0, z1, z2, z3, z4]) rfl ⟨rfl, bset5 hb0 (by omega) _ _ _ _ _⟩)
end Go.Proofs.Ytekoicbjpoeijaa
