/- Begins and Over of the reference of layer 7. No conditions beyond ranges and lengths. -/
import Derived.Test.YtekoicbjpoeijaaKR9
namespace Go.Proofs.Ytekoicbjpoeijaa
set_option linter.unusedVariables false
set_option linter.unusedSimpArgs false
open Go.RowKit
def begB (a b : List (List UInt8)) : Bool := decide (a <+: b)
theorem beg_long {a b : List (List UInt8)} (h : b.length < a.length) : begB a b = false := by
  unfold begB
  rw [decide_eq_false_iff_not]
  intro e
  have := e.length_le
  omega
theorem beg_diff {a b : List (List UInt8)} {j : Nat} {x y : List UInt8} (hx : a[j]? = some x) (hy : b[j]? = some y) (hne : x ≠ y) : begB a b = false := by
  unfold begB
  rw [decide_eq_false_iff_not]
  rintro ⟨t, rfl⟩
  have hj : j < a.length := (List.getElem?_eq_some_iff.1 hx).1
  rw [List.getElem?_append_left hj, hx] at hy
  exact hne (Option.some.inj hy)
theorem beg_all {a b : List (List UInt8)} (hl : a.length ≤ b.length) (h : ∀ i, i < a.length → a[i]? = b[i]?) : begB a b = true := by
  unfold begB
  rw [decide_eq_true_eq, List.prefix_iff_eq_take]
  apply List.ext_getElem?
  intro i
  by_cases hi : i < a.length
  · rw [h i hi, List.getElem?_take, if_pos hi]
  · rw [List.getElem?_eq_none (by omega), List.getElem?_eq_none (by rw [List.length_take]; omega)]
set_option maxRecDepth 100000 in
set_option maxHeartbeats 4000000 in
theorem begins_t (u v : Value) (la lb : List (List UInt8)) (h8 : la.length ≤ 1000) (w : World) (hA : SS w u la) (hB : SS w v lb) : Calls Try.prog 60 #[u, v] w fun e w' => e = .returned (.bool (begB la lb)) ∧ Below w.heap.size w w' := by
  obtain ⟨pa, ca, rfl, hca, hpa⟩ := hA
  obtain ⟨pb, cb, rfl, hcb, hpb⟩ := hB
  have Hpa := Lib.hid hpa
  have Hpb := Lib.hid hpb
  clear hpa hpb
  by_cases hlen : lb.length < la.length
  · have e := Lib.hid (beg_long hlen)
    go_enter Try.func60, Try.ntmps60
    go_wp2
    go_ret
    exact ⟨by rw [e.out]; rfl, Below.refl _ _⟩
  have hlen' : ¬ (lb.length : Int) < (la.length : Int) := by omega
  have HD := Lib.hid (fun (j : Nat) (x y : List UInt8) (h1 : la[j]? = some x) (h2 : lb[j]? = some y) (h3 : x ≠ y) => beg_diff h1 h2 h3)
  have HA := Lib.hid (beg_all (a := la) (b := lb) (by omega))
  go_enter Try.func60, Try.ntmps60
  go_wp2_with fail
  go_loopw [5] (fun i wr => ∃ (j : Nat), j ≤ la.length ∧ i = .int .i64 j ∧ Hid (∀ i, i < j → la[i]? = lb[i]?) ∧ Hid (∃ n, wr = w.drewN n)) (fun i _ => la.length - (intOf i).toNat)
  case atStart => exact ⟨0, by omega, rfl, Lib.hid (fun i hi => by omega), Lib.hid ⟨0, rfl⟩⟩
  case round =>
    obtain ⟨j, hj, rfl, hi, hw⟩ := hrel
    by_cases h1 : j < la.length
    · obtain ⟨ga, oa, rfl, hga, hA⟩ := Hpa.out (by omega)
      obtain ⟨gb, ob, rfl, hgb, hB⟩ := Hpb.out (by omega)
      obtain ⟨x, hx⟩ : ∃ x, la[j]? = some x := ⟨_, List.getElem?_eq_getElem h1⟩
      obtain ⟨y, hy⟩ : ∃ y, lb[j]? = some y := ⟨_, List.getElem?_eq_getElem (by omega)⟩
      have cA : wr.cell? ⟨ga, oa + j, none⟩ = some (.string ⟨x.toArray⟩) := by obtain ⟨n, rfl⟩ := hw.out; exact hA j x hx
      have cB : wr.cell? ⟨gb, ob + j, none⟩ = some (.string ⟨y.toArray⟩) := by obtain ⟨n, rfl⟩ := hw.out; exact hB j y hy
      have q2 : (j : Int) < (la.length : Int) := by omega
      have q3 : (j : Int) < (lb.length : Int) := by omega
      clear hA hB Hpa Hpb
      by_cases hxy : x = y
      · subst hxy
        have hnx := Lib.hid (show ∀ i, i < j + 1 → la[i]? = lb[i]? from fun i h => by
          by_cases e : i = j
          · subst e; rw [hx, hy]
          · exact hi.out i (by omega))
        have hw' := Lib.hid (show ∃ n, wr.drew = w.drewN n by obtain ⟨n, rfl⟩ := hw.out; exact ⟨n + 1, rfl⟩)
        clear hx hy hi hw
        go_wp2_with fail
        go_region
        go_wp2
        exact ⟨⟨j + 1, by omega, by go_num, hnx, hw'⟩, by simp [intOf]; omega⟩
      · have HS := Lib.hid (HD.out j x y hx hy hxy)
        have hw' := Lib.hid (show Below w.heap.size w wr.drew by obtain ⟨n, rfl⟩ := hw.out; exact (below_drewN (Below.refl _ _) n).drew)
        clear hx hy hi hw
        have hbe : (x == y) = false := by simpa using hxy
        go_wp2_with fail
        go_region
        go_wp2
        go_ret
        exact ⟨by rw [HS.out]; rfl, hw'.out⟩
    · have HS := Lib.hid (HA.out (fun i hi2 => hi.out i (by omega)))
      have hw' := Lib.hid (show Below w.heap.size w wr by obtain ⟨n, rfl⟩ := hw.out; exact below_drewN (Below.refl _ _) n)
      clear hi hw Hpa Hpb
      go_wp2
      go_ret
      exact ⟨by rw [HS.out]; rfl, hw'.out⟩
theorem over_begins (a b : Ke) : overK a b = (rightK a && (rightK b && (decide (a.kind = b.kind) && begB (letK a) (letK b)))) := by
  rw [Bool.eq_iff_iff, over_iff]
  simp only [Bool.and_eq_true, decide_eq_true_eq, begB]
set_option maxRecDepth 100000 in
set_option maxHeartbeats 8000000 in
theorem rover_t (a b : Ke) (ha : a.ok) (hb' : b.ok) (w : World) : Calls Try.prog 33 #[kv a, kv b] w fun e w' => e = .returned (.bool (overK a b)) ∧ Below w.heap.size w w' := by
  have HLa : ∀ w1, Calls Try.prog 53 #[kv a] w1 fun e w' => ∃ v, e = .returned (.tuple #[v, .bool (rightK a)]) ∧ SS w' v (letR a) ∧ Below w1.heap.size w1 w' := fun w1 => letters_t a ha w1
  have HLb : ∀ w1, Calls Try.prog 53 #[kv b] w1 fun e w' => ∃ v, e = .returned (.tuple #[v, .bool (rightK b)]) ∧ SS w' v (letR b) ∧ Below w1.heap.size w1 w' := fun w1 => letters_t b hb' w1
  have ho := over_begins a b
  have hs := @letK_small a
  have ea : rightK a = true → letR a = letK a := fun h => by unfold letR; rw [if_pos h]
  have eb : rightK b = true → letR b = letK b := fun h => by unfold letR; rw [if_pos h]
  rw [ho]
  clear ho ha hb'
  generalize rightK a = ra at *
  generalize rightK b = rb at *
  generalize letR a = la at *
  generalize letR b = lb at *
  obtain ⟨z, hz⟩ : ∃ z, z = (ra && (rb && (decide (a.kind = b.kind) && begB (letK a) (letK b)))) := ⟨_, rfl⟩
  rw [← hz]
  replace hz := Lib.hid hz
  unfold kv at *
  obtain ⟨RR0, RR1, hb0⟩ := two_rows w #[.int .i64 a.kind, .int .i64 a.len, .int .u64 a.h, .int .u64 a.l, .string ⟨a.path.toArray⟩] #[.int .i64 b.kind, .int .i64 b.len, .int .u64 b.h, .int .u64 b.l, .string ⟨b.path.toArray⟩] 24 24
  have c0 := (RR0.cell 0).trans (show _ = some (Value.int .i64 a.kind) from rfl)
  have c1 := (RR0.cell 1).trans (show _ = some (Value.int .i64 a.len) from rfl)
  have c2 := (RR0.cell 2).trans (show _ = some (Value.int .u64 a.h) from rfl)
  have c3 := (RR0.cell 3).trans (show _ = some (Value.int .u64 a.l) from rfl)
  have c4 := (RR0.cell 4).trans (show _ = some (Value.string ⟨a.path.toArray⟩) from rfl)
  have d0 := (RR1.cell 0).trans (show _ = some (Value.int .i64 b.kind) from rfl)
  have d1 := (RR1.cell 1).trans (show _ = some (Value.int .i64 b.len) from rfl)
  have d2 := (RR1.cell 2).trans (show _ = some (Value.int .u64 b.h) from rfl)
  have d3 := (RR1.cell 3).trans (show _ = some (Value.int .u64 b.l) from rfl)
  have d4 := (RR1.cell 4).trans (show _ = some (Value.string ⟨b.path.toArray⟩) from rfl)
  clear RR0 RR1
  go_enter Try.func33, Try.ntmps33
  go_wp2_with fail
  refine (HLa _).mono ?_
  rintro e w1 ⟨u, rfl, hS, hb⟩
  have c0' := cell_later hb c0
  have d0' := cell_later hb d0
  have d1' := cell_later hb d1
  have d2' := cell_later hb d2
  have d3' := cell_later hb d3
  have d4' := cell_later hb d4
  replace hb0 := below_step hb0 hb
  clear hb c0 c1 c2 c3 c4 d0 d1 d2 d3 d4 HLa
  go_wp2_with fail
  refine (HLb _).mono ?_
  rintro e w2 ⟨v, rfl, hT, hb⟩
  replace hS := hS.later hb
  replace c0' := cell_later hb c0'
  replace d0' := cell_later hb d0'
  replace hb0 := below_step hb0 hb
  clear hb d1' d2' d3' d4' HLb
  cases ra with
  | false =>
    clear ea eb hs hS hT
    have e := Lib.hid (show z = false by rw [hz.out]; rfl)
    clear hz
    go_wp2
    go_ret
    exact ⟨by rw [e.out]; rfl, hb0⟩
  | true =>
    cases rb with
    | false =>
      clear ea eb hs hS hT
      have e := Lib.hid (show z = false by rw [hz.out]; rfl)
      clear hz
      go_wp2
      go_ret
      exact ⟨by rw [e.out]; rfl, hb0⟩
    | true =>
      rw [ea rfl] at hS
      rw [eb rfl] at hT
      replace hs := hs rfl
      clear ea eb
      generalize letK a = xa at *
      generalize letK b = xb at *
      have HBG := Lib.hid (begins_t u v xa xb (by omega) w2 hS hT)
      clear hS hT hs
      by_cases hk : a.kind = b.kind
      · have hk' : (a.kind == b.kind) = true := by simpa using hk
        have e := Lib.hid (show z = begB xa xb by rw [hz.out, decide_eq_true hk]; rfl)
        clear hk hz
        generalize begB xa xb = y at *
        go_wp2_with fail
        refine HBG.out.mono ?_
        rintro e w3 ⟨rfl, hb⟩
        replace hb0 := below_step hb0 hb
        clear hb HBG
        go_wp2
        go_ret
        exact ⟨by rw [e.out]; rfl, hb0⟩
      · have hk' : (a.kind == b.kind) = false := by simpa using hk
        have e := Lib.hid (show z = false by rw [hz.out, decide_eq_false hk]; rfl)
        clear hk HBG hz
        go_wp2
        go_ret
        exact ⟨by rw [e.out]; rfl, hb0⟩
end Go.Proofs.Ytekoicbjpoeijaa
