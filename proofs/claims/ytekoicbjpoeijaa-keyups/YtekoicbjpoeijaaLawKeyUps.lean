/- The walk of KeyUps: it returns true. No conditions beyond lengths. -/
import Derived.Test.YtekoicbjpoeijaaU4
import Derived.Test.YtekoicbjpoeijaaKP
import Derived.Test.YtekoicbjpoeijaaK10
namespace Go.Proofs.Ytekoicbjpoeijaa
set_option linter.unusedVariables false
set_option linter.unusedSimpArgs false
open Go.RowKit
theorem upT_take {k : Ke} {m n : Nat} (h : m ≤ n) : (upT k n).take m = upT k m := by
  unfold upT
  rw [← List.map_take, List.take_range, Nat.min_eq_left h]
theorem ks_take {w : World} {p : Option Addr} {n c : Nat} {ls : List Ke} (h : KS w (.slice p n c) ls) (m : Nat) (hm : m ≤ ls.length) : KS w (.slice p m c) (ls.take m) := by
  obtain ⟨p', c', e, hc, hp⟩ := h
  cases e
  refine ⟨p, c, by rw [List.length_take, Nat.min_eq_left hm], by rw [List.length_take]; omega, fun h0 => ?_⟩
  rw [List.length_take] at h0
  obtain ⟨g, o, e1, e2, e3⟩ := hp (by omega)
  refine ⟨g, o, e1, e2, fun j x hx => e3 j x ?_⟩
  rw [List.getElem?_take] at hx
  split at hx
  · exact hx
  · cases hx
/-- what is read of a row of keys -/
theorem ks_read {w : World} {p : Option Addr} {n c : Nat} {ls : List Ke} (h : KS w (.slice p n c) ls) : n = ls.length ∧ n ≤ c ∧ (0 < n → ∃ g o, p = some ⟨g, o, none⟩ ∧ ∀ (j : Nat) k, ls[j]? = some k → w.cell? ⟨g, o + j * 5, none⟩ = some (.int .i64 k.kind) ∧ w.cell? ⟨g, o + j * 5 + 1, none⟩ = some (.int .i64 k.len) ∧ w.cell? ⟨g, o + j * 5 + 2, none⟩ = some (.int .u64 k.h) ∧ w.cell? ⟨g, o + j * 5 + 3, none⟩ = some (.int .u64 k.l) ∧ w.cell? ⟨g, o + j * 5 + 4, none⟩ = some (.string ⟨k.path.toArray⟩)) := by
  obtain ⟨p', c', e, hc, hp⟩ := h
  cases e
  refine ⟨rfl, hc, fun h0 => ?_⟩
  obtain ⟨g, o, e1, _, e3⟩ := hp h0
  refine ⟨g, o, e1, fun j k hk => ⟨e3 j k hk 0 _ rfl, e3 j k hk 1 _ rfl, e3 j k hk 2 _ rfl, e3 j k hk 3 _ rfl, e3 j k hk 4 _ rfl⟩⟩
set_option maxRecDepth 100000 in
set_option maxHeartbeats 16000000 in
theorem keyUps_t (k : Ke) (ok : k.ok) (most : Int) (w : World) : Calls Try.prog 5 #[kv k, .int .i64 most] w fun e w' => e = .returned (.bool true) ∧ Below w.heap.size w w' := by
  have HF := first_t k ok most
  have HU := rup_t k ok
  unfold upL at HU
  have hN := @upN_le k
  have HTL := Lib.hid (fun j => upT_len k j)
  have HTT := Lib.hid (fun m n (h : m ≤ n) => upT_take (k := k) h)
  have q := neq_key
  have HES := Lib.hid @eqK_self
  generalize upN k = N at *
  generalize upT k = T at *
  unfold kv at *
  obtain ⟨RR0, hb0⟩ := one_row w #[.int .i64 k.kind, .int .i64 k.len, .int .u64 k.h, .int .u64 k.l, .string ⟨k.path.toArray⟩] 24
  have c0 := (RR0.cell 0).trans (show _ = some (Value.int .i64 k.kind) from rfl)
  have c1 := (RR0.cell 1).trans (show _ = some (Value.int .i64 k.len) from rfl)
  have c2 := (RR0.cell 2).trans (show _ = some (Value.int .u64 k.h) from rfl)
  have c3 := (RR0.cell 3).trans (show _ = some (Value.int .u64 k.l) from rfl)
  have c4 := (RR0.cell 4).trans (show _ = some (Value.string ⟨k.path.toArray⟩) from rfl)
  clear RR0
  by_cases hneg : most < 0
  · by_cases hN0 : 0 < N
    · skip
      have hM : min (most).toNat N = 0 := by omega
      rw [hM] at HF
      go_enter Try.func5, Try.ntmps5
      go_wp2_with fail
      refine (HF _).mono ?_
      rintro e w1 ⟨v, rfl, S1, hb⟩
      have hB1 := below_step hb0 hb
      replace c0 := cell_later hb c0
      replace c1 := cell_later hb c1
      replace c2 := cell_later hb c2
      replace c3 := cell_later hb c3
      replace c4 := cell_later hb c4
      have HS1 := Lib.hid S1
      clear hb hb0 HF S1
      go_wp2_with fail
      refine (HU _).mono ?_
      rintro e w2 ⟨v2, rfl, S2, hb⟩
      have hbw := Lib.hid (below_step hB1 hb)
      have Sa := HS1.out.later hb
      clear HS1 hB1 hb c0 c1 c2 c3 c4 HU
      have Sa' := Sa
      obtain ⟨pa, ca, rfl, _, _⟩ := Sa'
      have S2' := S2
      obtain ⟨pb, cb, rfl, _, _⟩ := S2'
      rw [HTL.out] at *
      have Sb := ks_take S2 (0) (by rw [HTL.out]; omega)
      rw [HTT.out _ _ (by omega)] at Sb
      have hcb := (ks_read S2).2.1
      have Ra := Lib.hid (ks_read Sa).2.2
      have Rb := Lib.hid (ks_read Sb).2.2
      have HLs := HTL.out (0)
      clear Sa Sb S2 HTT HTL
      generalize T (0) = ls at *
      go_wp2_with fail
      go_loopw [8] (fun i wr => ∃ (j : Nat), j ≤ 0 ∧ i = .int .i64 j ∧ Hid (∃ n, wr = w2.drewN n)) (fun i _ => 0 - (intOf i).toNat)
      case atStart => exact ⟨0, by omega, rfl, Lib.hid ⟨0, rfl⟩⟩
      case round =>
        obtain ⟨j, hj, rfl, hw⟩ := hrel
        by_cases h1 : j < 0
        · exact absurd h1 (by omega)
        · have hjl : j = 0 := by omega
          have hw2 := Lib.hid (show Below w.heap.size w wr by obtain ⟨n, rfl⟩ := hw.out; exact below_drewN hbw.out n)
          subst hjl
          clear hw Ra Rb
          go_wp2_with fail
          refine (alive7_t _).mono ?_
          rintro e w3 ⟨rfl, hb⟩
          go_wp2
          go_ret
          exact ⟨rfl, below_step hw2.out hb⟩
    · obtain rfl : N = 0 := by omega
      have hM : min (most).toNat 0 = 0 := by omega
      rw [hM] at HF
      go_enter Try.func5, Try.ntmps5
      go_wp2_with fail
      refine (HF _).mono ?_
      rintro e w1 ⟨v, rfl, S1, hb⟩
      have hB1 := below_step hb0 hb
      replace c0 := cell_later hb c0
      replace c1 := cell_later hb c1
      replace c2 := cell_later hb c2
      replace c3 := cell_later hb c3
      replace c4 := cell_later hb c4
      have HS1 := Lib.hid S1
      clear hb hb0 HF S1
      go_wp2_with fail
      refine (HU _).mono ?_
      rintro e w2 ⟨v2, rfl, S2, hb⟩
      have hbw := Lib.hid (below_step hB1 hb)
      have Sa := HS1.out.later hb
      clear HS1 hB1 hb c0 c1 c2 c3 c4 HU
      have Sa' := Sa
      obtain ⟨pa, ca, rfl, _, _⟩ := Sa'
      have S2' := S2
      obtain ⟨pb, cb, rfl, _, _⟩ := S2'
      rw [HTL.out] at *
      have Sb := ks_take S2 (0) (by rw [HTL.out]; omega)
      rw [HTT.out _ _ (by omega)] at Sb
      have hcb := (ks_read S2).2.1
      have Ra := Lib.hid (ks_read Sa).2.2
      have Rb := Lib.hid (ks_read Sb).2.2
      have HLs := HTL.out (0)
      clear Sa Sb S2 HTT HTL
      generalize T (0) = ls at *
      go_wp2_with fail
      go_loopw [8] (fun i wr => ∃ (j : Nat), j ≤ 0 ∧ i = .int .i64 j ∧ Hid (∃ n, wr = w2.drewN n)) (fun i _ => 0 - (intOf i).toNat)
      case atStart => exact ⟨0, by omega, rfl, Lib.hid ⟨0, rfl⟩⟩
      case round =>
        obtain ⟨j, hj, rfl, hw⟩ := hrel
        by_cases h1 : j < 0
        · exact absurd h1 (by omega)
        · have hjl : j = 0 := by omega
          have hw2 := Lib.hid (show Below w.heap.size w wr by obtain ⟨n, rfl⟩ := hw.out; exact below_drewN hbw.out n)
          subst hjl
          clear hw Ra Rb
          go_wp2_with fail
          refine (alive7_t _).mono ?_
          rintro e w3 ⟨rfl, hb⟩
          go_wp2
          go_ret
          exact ⟨rfl, below_step hw2.out hb⟩
  · obtain ⟨m, rfl⟩ : ∃ m : Nat, most = (m : Int) := ⟨most.toNat, by omega⟩
    by_cases hlt : m < N
    · have hlt' : (m : Int) < (N : Int) := by omega
      have hM : min ((m : Int)).toNat N = m := by omega
      rw [hM] at HF
      go_enter Try.func5, Try.ntmps5
      go_wp2_with fail
      refine (HF _).mono ?_
      rintro e w1 ⟨v, rfl, S1, hb⟩
      have hB1 := below_step hb0 hb
      replace c0 := cell_later hb c0
      replace c1 := cell_later hb c1
      replace c2 := cell_later hb c2
      replace c3 := cell_later hb c3
      replace c4 := cell_later hb c4
      have HS1 := Lib.hid S1
      clear hb hb0 HF S1
      go_wp2_with fail
      refine (HU _).mono ?_
      rintro e w2 ⟨v2, rfl, S2, hb⟩
      have hbw := Lib.hid (below_step hB1 hb)
      have Sa := HS1.out.later hb
      clear HS1 hB1 hb c0 c1 c2 c3 c4 HU
      have Sa' := Sa
      obtain ⟨pa, ca, rfl, _, _⟩ := Sa'
      have S2' := S2
      obtain ⟨pb, cb, rfl, _, _⟩ := S2'
      rw [HTL.out] at *
      have Sb := ks_take S2 (m) (by rw [HTL.out]; omega)
      rw [HTT.out _ _ (by omega)] at Sb
      have hcb := (ks_read S2).2.1
      have Ra := Lib.hid (ks_read Sa).2.2
      have Rb := Lib.hid (ks_read Sb).2.2
      have HLs := HTL.out (m)
      clear Sa Sb S2 HTT HTL
      have q1 : (m : Int) ≤ (cb : Int) := by omega
      generalize T (m) = ls at *
      go_wp2_with fail
      go_loopw [8] (fun i wr => ∃ (j : Nat), j ≤ m ∧ i = .int .i64 j ∧ Hid (∃ n, wr = w2.drewN n)) (fun i _ => m - (intOf i).toNat)
      case atStart => exact ⟨0, by omega, rfl, Lib.hid ⟨0, rfl⟩⟩
      case round =>
        obtain ⟨j, hj, rfl, hw⟩ := hrel
        by_cases h1 : j < m
        · obtain ⟨ga, oa, rfl, hA⟩ := Ra.out (by omega)
          obtain ⟨gb, ob, rfl, hB⟩ := Rb.out (by omega)
          obtain ⟨x, hx⟩ : ∃ x, ls[j]? = some x := ⟨_, List.getElem?_eq_getElem (by omega)⟩
          obtain ⟨A0, A1, A2, A3, A4⟩ : wr.cell? ⟨ga, oa + j * 5, none⟩ = some (.int .i64 x.kind) ∧ wr.cell? ⟨ga, oa + j * 5 + 1, none⟩ = some (.int .i64 x.len) ∧ wr.cell? ⟨ga, oa + j * 5 + 2, none⟩ = some (.int .u64 x.h) ∧ wr.cell? ⟨ga, oa + j * 5 + 3, none⟩ = some (.int .u64 x.l) ∧ wr.cell? ⟨ga, oa + j * 5 + 4, none⟩ = some (.string ⟨x.path.toArray⟩) := by obtain ⟨n, rfl⟩ := hw.out; exact hA j x hx
          obtain ⟨B0, B1, B2, B3, B4⟩ : wr.cell? ⟨gb, ob + j * 5, none⟩ = some (.int .i64 x.kind) ∧ wr.cell? ⟨gb, ob + j * 5 + 1, none⟩ = some (.int .i64 x.len) ∧ wr.cell? ⟨gb, ob + j * 5 + 2, none⟩ = some (.int .u64 x.h) ∧ wr.cell? ⟨gb, ob + j * 5 + 3, none⟩ = some (.int .u64 x.l) ∧ wr.cell? ⟨gb, ob + j * 5 + 4, none⟩ = some (.string ⟨x.path.toArray⟩) := by obtain ⟨n, rfl⟩ := hw.out; exact hB j x hx
          have qq2 : (j : Int) < ((m : Nat) : Int) := by omega
          have hq : eqK x.kind x.len x.h x.l ⟨x.path.toArray⟩ x.kind x.len x.h x.l ⟨x.path.toArray⟩ = true := HES.out _ _ _ _ _
          have hw' := Lib.hid (show ∀ q, ∃ n, wr.drewN q = w2.drewN n by intro q; obtain ⟨n, rfl⟩ := hw.out; exact ⟨n + q, by simp [World.drewN, Nat.add_assoc]⟩)
          clear hA hB Ra Rb hx hw hM HLs
          go_wp2_with fail
          go_quiet (fail)
          go_wp2
          exact ⟨⟨j + 1, by omega, by go_num, Lib.hid (hw'.out _)⟩, by simp [intOf]; omega⟩
        · have hjl : j = m := by omega
          have hw2 := Lib.hid (show Below w.heap.size w wr by obtain ⟨n, rfl⟩ := hw.out; exact below_drewN hbw.out n)
          subst hjl
          clear hw Ra Rb
          go_wp2_with fail
          refine (alive7_t _).mono ?_
          rintro e w3 ⟨rfl, hb⟩
          go_wp2
          go_ret
          exact ⟨rfl, below_step hw2.out hb⟩
    · have hlt' : decide ((m : Int) < (N : Int)) = false := by rw [decide_eq_false_iff_not]; omega
      have hM : min ((m : Int)).toNat N = N := by omega
      rw [hM] at HF
      go_enter Try.func5, Try.ntmps5
      go_wp2_with fail
      refine (HF _).mono ?_
      rintro e w1 ⟨v, rfl, S1, hb⟩
      have hB1 := below_step hb0 hb
      replace c0 := cell_later hb c0
      replace c1 := cell_later hb c1
      replace c2 := cell_later hb c2
      replace c3 := cell_later hb c3
      replace c4 := cell_later hb c4
      have HS1 := Lib.hid S1
      clear hb hb0 HF S1
      go_wp2_with fail
      refine (HU _).mono ?_
      rintro e w2 ⟨v2, rfl, S2, hb⟩
      have hbw := Lib.hid (below_step hB1 hb)
      have Sa := HS1.out.later hb
      clear HS1 hB1 hb c0 c1 c2 c3 c4 HU
      have Sa' := Sa
      obtain ⟨pa, ca, rfl, _, _⟩ := Sa'
      have S2' := S2
      obtain ⟨pb, cb, rfl, _, _⟩ := S2'
      rw [HTL.out] at *
      have Sb := ks_take S2 (N) (by rw [HTL.out]; omega)
      rw [HTT.out _ _ (by omega)] at Sb
      have hcb := (ks_read S2).2.1
      have Ra := Lib.hid (ks_read Sa).2.2
      have Rb := Lib.hid (ks_read Sb).2.2
      have HLs := HTL.out (N)
      clear Sa Sb S2 HTT HTL
      generalize T (N) = ls at *
      go_wp2_with fail
      go_loopw [8] (fun i wr => ∃ (j : Nat), j ≤ N ∧ i = .int .i64 j ∧ Hid (∃ n, wr = w2.drewN n)) (fun i _ => N - (intOf i).toNat)
      case atStart => exact ⟨0, by omega, rfl, Lib.hid ⟨0, rfl⟩⟩
      case round =>
        obtain ⟨j, hj, rfl, hw⟩ := hrel
        by_cases h1 : j < N
        · obtain ⟨ga, oa, rfl, hA⟩ := Ra.out (by omega)
          obtain ⟨gb, ob, rfl, hB⟩ := Rb.out (by omega)
          obtain ⟨x, hx⟩ : ∃ x, ls[j]? = some x := ⟨_, List.getElem?_eq_getElem (by omega)⟩
          obtain ⟨A0, A1, A2, A3, A4⟩ : wr.cell? ⟨ga, oa + j * 5, none⟩ = some (.int .i64 x.kind) ∧ wr.cell? ⟨ga, oa + j * 5 + 1, none⟩ = some (.int .i64 x.len) ∧ wr.cell? ⟨ga, oa + j * 5 + 2, none⟩ = some (.int .u64 x.h) ∧ wr.cell? ⟨ga, oa + j * 5 + 3, none⟩ = some (.int .u64 x.l) ∧ wr.cell? ⟨ga, oa + j * 5 + 4, none⟩ = some (.string ⟨x.path.toArray⟩) := by obtain ⟨n, rfl⟩ := hw.out; exact hA j x hx
          obtain ⟨B0, B1, B2, B3, B4⟩ : wr.cell? ⟨gb, ob + j * 5, none⟩ = some (.int .i64 x.kind) ∧ wr.cell? ⟨gb, ob + j * 5 + 1, none⟩ = some (.int .i64 x.len) ∧ wr.cell? ⟨gb, ob + j * 5 + 2, none⟩ = some (.int .u64 x.h) ∧ wr.cell? ⟨gb, ob + j * 5 + 3, none⟩ = some (.int .u64 x.l) ∧ wr.cell? ⟨gb, ob + j * 5 + 4, none⟩ = some (.string ⟨x.path.toArray⟩) := by obtain ⟨n, rfl⟩ := hw.out; exact hB j x hx
          have qq2 : (j : Int) < ((N : Nat) : Int) := by omega
          have hq : eqK x.kind x.len x.h x.l ⟨x.path.toArray⟩ x.kind x.len x.h x.l ⟨x.path.toArray⟩ = true := HES.out _ _ _ _ _
          have hw' := Lib.hid (show ∀ q, ∃ n, wr.drewN q = w2.drewN n by intro q; obtain ⟨n, rfl⟩ := hw.out; exact ⟨n + q, by simp [World.drewN, Nat.add_assoc]⟩)
          clear hA hB Ra Rb hx hw hM HLs
          go_wp2_with fail
          go_quiet (fail)
          go_wp2
          exact ⟨⟨j + 1, by omega, by go_num, Lib.hid (hw'.out _)⟩, by simp [intOf]; omega⟩
        · have hjl : j = N := by omega
          have hw2 := Lib.hid (show Below w.heap.size w wr by obtain ⟨n, rfl⟩ := hw.out; exact below_drewN hbw.out n)
          subst hjl
          clear hw Ra Rb
          go_wp2_with fail
          refine (alive7_t _).mono ?_
          rintro e w3 ⟨rfl, hb⟩
          go_wp2
          go_ret
          exact ⟨rfl, below_step hw2.out hb⟩
end Go.Proofs.Ytekoicbjpoeijaa
