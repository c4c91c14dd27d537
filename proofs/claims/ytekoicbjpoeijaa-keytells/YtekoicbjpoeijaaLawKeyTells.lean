/- The walk of KeyTells: it returns true. No conditions beyond ranges and lengths. -/
import Derived.Test.YtekoicbjpoeijaaK10
import Derived.Test.YtekoicbjpoeijaaKR12
namespace Go.Proofs.Ytekoicbjpoeijaa
set_option linter.unusedVariables false
set_option linter.unusedSimpArgs false
open Go.RowKit
theorem row_set1 {w : World} {g : Nat} {a b c d e v : Value} {t : TypeId} (h : Row w g #[a, b, c, d, e] t) : Row (w.setCell ⟨g, 1, none⟩ v) g #[a, v, c, d, e] t := by simpa using h.set 1 v
/-- the law's own count behind j bytes -/
def cntN (p : List UInt8) (j : Nat) : Nat := if j = 0 then 0 else 1 + (p.take j).count 46
theorem cntN_le (p : List UInt8) (j : Nat) : cntN p j ≤ j + 1 := by
  unfold cntN
  split
  · omega
  · have := List.count_le_length (a := (46 : UInt8)) (l := p.take j)
    rw [List.length_take] at this
    omega
theorem cntN_succ {p : List UInt8} {j : Nat} (h : j < p.length) (hj : 0 < j) : cntN p (j + 1) = cntN p j + (if p[j] = 46 then 1 else 0) := by
  unfold cntN
  rw [if_neg (by omega), if_neg (by omega), List.take_add_one, List.getElem?_eq_getElem h, List.count_append]
  by_cases e : p[j] = 46
  · rw [if_pos e]; simp [e]; omega
  · rw [if_neg e]; simp [e]
theorem cntN_one {p : List UInt8} (h : 0 < p.length) : cntN p 1 = 1 + (if p[0] = 46 then 1 else 0) := by
  unfold cntN
  rw [if_neg (by omega), List.take_add_one, List.getElem?_eq_getElem h]
  by_cases e : p[0] = 46
  · rw [if_pos e]; simp [e]
  · rw [if_neg e]; simp [e]
theorem labs_cnt {p : List UInt8} (h : rightB p = true) : (labsL p).length = cntN p p.length := by
  unfold cntN
  by_cases e : p = []
  · subst e; rfl
  · rw [labs_ne h e, splitD_count, if_neg (by have := List.length_pos_iff.2 e; omega), List.take_length]; omega
theorem right_want (p : List UInt8) : rightK ⟨3, (cntN p p.length : Nat), 0, 0, p⟩ = rightB p := by
  rw [right3 _ rfl]
  dsimp only
  cases h : rightB p with
  | false => rfl
  | true => rw [labs_cnt h]; simp
set_option maxRecDepth 100000 in
set_option maxHeartbeats 16000000 in
theorem keyTells_t (k : Ke) (ok : k.ok) (a : Int) (a0 : 0 ≤ a) (a1 : a < 4294967296) (wh wl : Int) (p : List UInt8) (hp : p.length ≤ 140737488355328) (kind : Int) (w : World) :
    Calls Try.prog 3 #[kv k, .int .u32 a, .agg #[.int .u64 wh, .int .u64 wl], .string ⟨p.toArray⟩, .int .i64 kind] w fun e w' => e = .returned (.bool true) ∧ Below w.heap.size w w' := by
  have HP := fun w1 => kpath_t p hp w1
  have HW := fun w1 => rright_t ⟨3, (cntN p p.length : Nat), 0, 0, p⟩ ⟨by unfold Word; dsimp only; decide, by unfold Word; dsimp only; decide, by dsimp only; decide, by dsimp only; decide, by dsimp only; omega, by dsimp only; have := cntN_le p p.length; omega, hp⟩ w1
  rw [right_want] at HW
  have hg : ∀ h : rightB p = true, pathR p = ⟨3, (cntN p p.length : Nat), 0, 0, p⟩ := fun h => by
    unfold pathR pathK
    rw [if_pos h, labs_cnt h]
  have hz : ∀ h : rightB p = false, pathR p = kz := fun h => by unfold pathR; rw [h]; rfl
  have he : pathE p = if rightB p = true then 0 else 3 := rfl
  have y1 := kright_t k ok
  have y2 := rright_t k ok
  have y3 := width_t kind
  have y4 := rwidth_t kind
  have y5 := kroot_t kind
  have y6 := rroot_t kind
  have y7 := kfour_t a a0 a1
  have y8 := rfour_t a a0 a1
  have y9 := ksix_t wh wl
  have y10 := rsix_t wh wl
  have q := eql_key
  have q1 := neq_key
  have q2 := eqK_self
  clear ok a0 a1
  generalize rightK k = rk at *
  generalize wid kind = wd at *
  generalize rootK kind = rt at *
  generalize fourK a = fr at *
  generalize sixK wh wl = sx at *
  have hsz := bs_size p
  have HS := Lib.hid (fun (j : Nat) (h : j < p.length) (hj : 0 < j) => cntN_succ h hj)
  have H1 := Lib.hid (fun (h : 0 < p.length) => cntN_one (p := p) h)
  have HL := Lib.hid (fun j => cntN_le p j)
  have H0 : cntN p 0 = 0 := rfl
  generalize hN : cntN p = N at *
  clear hN
  unfold kv at *
  obtain ⟨RR0, RR1, hb0⟩ := two_rows w #[.int .i64 k.kind, .int .i64 k.len, .int .u64 k.h, .int .u64 k.l, .string ⟨k.path.toArray⟩] #[.int .u64 wh, .int .u64 wl] 24 27
  replace RR0 := Lib.hid RR0
  replace RR1 := Lib.hid RR1
  cases hr : rightB p with
  | true =>
    rw [hg hr, he, if_pos hr] at HP
    rw [hr] at HW
    clear hg hz he hr
    dsimp only at *
    go_enter Try.func3, Try.ntmps3
    go_wp2_with fail
    refine (HP _).mono ?_
    rintro e w1 ⟨rfl, hb⟩
    replace RR0 := Lib.hid (RR0.out.later hb)
    replace RR1 := Lib.hid (RR1.out.later hb)
    replace hb0 := below_step hb0 hb
    clear hb HP
    have G0 := Lib.hid ((Row.new w1 #[.int .i64 3, .int .i64 (N p.length : Nat), .int .u64 0, .int .u64 0, .string ⟨p.toArray⟩] 24).alloc (.cells #[.int .i64 3, .int .i64 0, .int .u64 0, .int .u64 0, .string ⟨p.toArray⟩] 24))
    have G1 := Row.new (w1.alloc (.cells #[.int .i64 3, .int .i64 (N p.length : Nat), .int .u64 0, .int .u64 0, .string ⟨p.toArray⟩] 24)) #[.int .i64 3, .int .i64 0, .int .u64 0, .int .u64 0, .string ⟨p.toArray⟩] 24
    rw [World.size_alloc] at G1
    replace G1 := Lib.hid G1
    have HB1 : Hid (Below w1.heap.size w1 ((w1.alloc (.cells #[.int .i64 3, .int .i64 (N p.length : Nat), .int .u64 0, .int .u64 0, .string ⟨p.toArray⟩] 24)).alloc (.cells #[.int .i64 3, .int .i64 0, .int .u64 0, .int .u64 0, .string ⟨p.toArray⟩] 24))) := Lib.hid (by repeat (first | exact Below.refl _ _ | assumption | (with_reducible refine Below.setCell ?_ ?h _; case h => first | omega | (simp; done) | (simp; omega)) | (with_reducible refine Below.alloc ?_ ?h _; case h => first | omega | (simp; done) | (simp; omega)) | (with_reducible refine Below.drew ?_) | (with_reducible refine Below.trans ?_ (hb4.mono ?h); case h => first | omega | (simp; done) | (simp; omega)) | (with_reducible refine Below.trans ?_ (hb3.mono ?h); case h => first | omega | (simp; done) | (simp; omega)) | (with_reducible refine Below.trans ?_ (hb2.mono ?h); case h => first | omega | (simp; done) | (simp; omega)) | (with_reducible refine Below.trans ?_ (hb.mono ?h); case h => first | omega | (simp; done) | (simp; omega)) | (with_reducible refine Below.trans ?_ (hb0.mono ?h); case h => first | omega | (simp; done) | (simp; omega))))
    have HB0 := Lib.hid hb0
    clear hb0
    go_wp2_with fail
    go_loopw [14] (fun i wr => ∃ j : Nat, j ≤ p.length ∧ i = .int .i64 (j : Nat) ∧ Hid (Row wr w1.heap.size #[.int .i64 3, .int .i64 (N p.length : Nat), .int .u64 0, .int .u64 0, .string ⟨p.toArray⟩] 24) ∧ Hid (Row wr (w1.heap.size + 1) #[.int .i64 3, .int .i64 (N j : Nat), .int .u64 0, .int .u64 0, .string ⟨p.toArray⟩] 24) ∧ Hid (Below w1.heap.size w1 wr)) (fun i _ => p.length - (intOf i).toNat)
    case atStart => exact ⟨0, Nat.zero_le _, rfl, G0, by rw [H0]; exact G1, HB1⟩
    case round =>
      clear G0 G1 HB1
      obtain ⟨j, hj, rfl, G0, G1, HB1⟩ := hrel
      by_cases hlt : j < p.length
      · obtain ⟨c, hlj⟩ : ∃ c, p[j] = c := ⟨_, rfl⟩
        have hsp : j < (⟨p.toArray⟩ : ByteArray).size := by rw [hsz]; exact hlt
        have hch : (⟨p.toArray⟩ : ByteArray)[j]'hsp = c := hlj
        have hlt' : (j : Int) < (p.length : Int) := by omega
        have nb := HL.out j
        have d1 := (G1.out.cell 1).trans (show _ = some (Value.int .i64 (N j : Nat)) from rfl)
        have df1 := G1.out.frozen 1
        have hs1 : w1.heap.size ≤ w1.heap.size + 1 := by omega
        have G0N := Lib.hid (fun v => G0.out.set_far ⟨w1.heap.size + 1, 1, none⟩ v (by simp))
        have G1N := Lib.hid (fun v => row_set1 (v := v) G1.out)
        have HBN := Lib.hid (fun v => HB1.out.setCell (p := ⟨w1.heap.size + 1, 1, none⟩) hs1 v)
        have G0M := Lib.hid (fun v u => (G0N.out v).set_far ⟨w1.heap.size + 1, 1, none⟩ u (by simp))
        have G1M := Lib.hid (fun v u => row_set1 (v := u) (G1N.out v))
        have HBM := Lib.hid (fun v u => (HBN.out v).setCell (p := ⟨w1.heap.size + 1, 1, none⟩) hs1 u)
        by_cases h0 : j = 0
        · subst h0
          have e1 := H1.out hlt
          rw [hlj] at e1
          clear HS H1 HL hlj y1 y2 y3 y4 y5 y6 y7 y8 y9 y10 HW RR0 RR1 HB0
          by_cases hc : c = 46
          · have hc' : (c.toNat : Int) = 46 := by rw [hc]; rfl
            have hc2 : ((c.toNat : Int) == 46) = true := by simpa using hc'
            rw [if_pos hc] at e1
            replace e1 := Lib.hid e1
            clear hc nb G0N G1N HBN G0 G1 HB1
            go_wp2
            exact ⟨⟨1, by omega, by go_num, Lib.hid (G0M.out _ _), by rw [e1.out]; exact Lib.hid (G1M.out _ _), Lib.hid (HBM.out _ _)⟩, by simp [intOf]; omega⟩
          · have hc' : ¬ (c.toNat : Int) = 46 := fun e => hc (by apply UInt8.toNat_inj.1; show c.toNat = 46; omega)
            have hc2 : ((c.toNat : Int) == 46) = false := by simpa using hc'
            rw [if_neg hc] at e1
            replace e1 := Lib.hid e1
            clear hc nb G0M G1M HBM G0 G1 HB1
            go_wp2
            exact ⟨⟨1, by omega, by go_num, Lib.hid (G0N.out _), by rw [e1.out]; exact Lib.hid (G1N.out _), Lib.hid (HBN.out _)⟩, by simp [intOf]; omega⟩
        · have e1 := HS.out j hlt (by omega)
          rw [hlj] at e1
          have h0' : ((j : Int) == 0) = false := by simp; omega
          have h0'' : ¬ (j : Int) = 0 := by omega
          clear HS H1 HL hlj y1 y2 y3 y4 y5 y6 y7 y8 y9 y10 HW RR0 RR1 HB0
          by_cases hc : c = 46
          · have hc' : (c.toNat : Int) = 46 := by rw [hc]; rfl
            have hc2 : ((c.toNat : Int) == 46) = true := by simpa using hc'
            rw [if_pos hc] at e1
            replace e1 := Lib.hid e1
            generalize N j = nj at *
            clear hc G0M G1M HBM G0 G1 HB1
            go_wp2
            exact ⟨⟨j + 1, by omega, by go_num, Lib.hid (G0N.out _), by rw [e1.out]; exact Lib.hid (G1N.out _), Lib.hid (HBN.out _)⟩, by simp [intOf]; omega⟩
          · have hc' : ¬ (c.toNat : Int) = 46 := fun e => hc (by apply UInt8.toNat_inj.1; show c.toNat = 46; omega)
            have hc2 : ((c.toNat : Int) == 46) = false := by simpa using hc'
            replace e1 : N (j + 1) = N j := by rw [e1, if_neg hc]; rfl
            rw [← e1] at G1
            clear hc nb G0M G1M HBM G0N G1N HBN e1
            go_wp2
            exact ⟨⟨j + 1, by omega, by go_num, G0, G1, HB1⟩, by simp [intOf]; omega⟩
      · have hjl : j = p.length := by omega
        subst hjl
        have hb0 := below_step HB0.out HB1.out
        have R0 := RR0.out.later HB1.out
        have R1 := RR1.out.later HB1.out
        have c0 := ((R0).cell 0).trans (show _ = some (Value.int .i64 k.kind) from rfl)
        have cf0 := (R0).frozen 0
        have c1 := ((R0).cell 1).trans (show _ = some (Value.int .i64 k.len) from rfl)
        have cf1 := (R0).frozen 1
        have c2 := ((R0).cell 2).trans (show _ = some (Value.int .u64 k.h) from rfl)
        have cf2 := (R0).frozen 2
        have c3 := ((R0).cell 3).trans (show _ = some (Value.int .u64 k.l) from rfl)
        have cf3 := (R0).frozen 3
        have c4 := ((R0).cell 4).trans (show _ = some (Value.string ⟨k.path.toArray⟩) from rfl)
        have cf4 := (R0).frozen 4
        have v0 := (R1.cell 0).trans (show _ = some (Value.int .u64 wh) from rfl)
        have v1 := (R1.cell 1).trans (show _ = some (Value.int .u64 wl) from rfl)
        have g0 := ((G0.out).cell 0).trans (show _ = some (Value.int .i64 3) from rfl)
        have gf0 := (G0.out).frozen 0
        have g1 := ((G0.out).cell 1).trans (show _ = some (Value.int .i64 (N p.length : Nat)) from rfl)
        have gf1 := (G0.out).frozen 1
        have g2 := ((G0.out).cell 2).trans (show _ = some (Value.int .u64 0) from rfl)
        have gf2 := (G0.out).frozen 2
        have g3 := ((G0.out).cell 3).trans (show _ = some (Value.int .u64 0) from rfl)
        have gf3 := (G0.out).frozen 3
        have g4 := ((G0.out).cell 4).trans (show _ = some (Value.string ⟨p.toArray⟩) from rfl)
        have gf4 := (G0.out).frozen 4
        have m0 := ((G1.out).cell 0).trans (show _ = some (Value.int .i64 3) from rfl)
        have mf0 := (G1.out).frozen 0
        have m1 := ((G1.out).cell 1).trans (show _ = some (Value.int .i64 (N p.length : Nat)) from rfl)
        have mf1 := (G1.out).frozen 1
        have m2 := ((G1.out).cell 2).trans (show _ = some (Value.int .u64 0) from rfl)
        have mf2 := (G1.out).frozen 2
        have m3 := ((G1.out).cell 3).trans (show _ = some (Value.int .u64 0) from rfl)
        have mf3 := (G1.out).frozen 3
        have m4 := ((G1.out).cell 4).trans (show _ = some (Value.string ⟨p.toArray⟩) from rfl)
        have mf4 := (G1.out).frozen 4
        clear R0 R1 RR0 RR1 G0 G1 HB0 HB1 HS H1 HL cf0 gf0 mf0 cf1 gf1 mf1 cf2 gf2 mf2 cf3 gf3 mf3 cf4 gf4 mf4
        go_wp2_with fail
        refine (HW _).mono ?_
        rintro e w3 ⟨rfl, hb⟩
        replace c0 := cell_later hb c0
        replace c1 := cell_later hb c1
        replace c2 := cell_later hb c2
        replace c3 := cell_later hb c3
        replace c4 := cell_later hb c4
        replace g0 := cell_later hb g0
        replace g1 := cell_later hb g1
        replace g2 := cell_later hb g2
        replace g3 := cell_later hb g3
        replace g4 := cell_later hb g4
        replace m0 := cell_later hb m0
        replace m1 := cell_later hb m1
        replace m2 := cell_later hb m2
        replace m3 := cell_later hb m3
        replace m4 := cell_later hb m4
        replace v0 := cell_later hb v0
        replace v1 := cell_later hb v1
        replace hb0 := below_step hb0 hb
        clear hb HW
        go_wp2_with fail
        refine wp_region_held_drew (S := (fun w' => w'.cell? ⟨w.heap.size, 0, none⟩ = some (.int .i64 k.kind) ∧ w'.cell? ⟨w.heap.size, 1, none⟩ = some (.int .i64 k.len) ∧ w'.cell? ⟨w.heap.size, 2, none⟩ = some (.int .u64 k.h) ∧ w'.cell? ⟨w.heap.size, 3, none⟩ = some (.int .u64 k.l) ∧ w'.cell? ⟨w.heap.size, 4, none⟩ = some (.string ⟨k.path.toArray⟩) ∧ w'.cell? ⟨w.heap.size + 1, 0, none⟩ = some (.int .u64 wh) ∧ w'.cell? ⟨w.heap.size + 1, 1, none⟩ = some (.int .u64 wl) ∧ Below w.heap.size w w')) (by kernel_rfl) ?hSr1_ (fun hHeld => ?_)
        case hSr1_ => (first | exact ⟨c0, c1, c2, c3, c4, v0, v1, hb0.drew⟩ | exact ⟨c0, c1, c2, c3, c4, v0, v1, hb0⟩ | (obtain ⟨c0, c1, c2, c3, c4, v0, v1, hb0⟩ := hHeld; exact ⟨cell_later hb c0, cell_later hb c1, cell_later hb c2, cell_later hb c3, cell_later hb c4, cell_later hb v0, cell_later hb v1, below_step hb0 hb⟩))
        refine wpAnyH_ready (rs := [0]) (by kernel_rfl) (by simp) ?_
        refine AllReadyH.cons (o := { dst := some 66, op := Go.Op.call { callee := Go.Callee.value (Go.Operand.func 18), args := #[], argTypes := #[] }, type := 4, pos := _, after := #[], guard := none }) rfl (fun K hK => ?_) AllReadyH.nil
        (go_simp; (refine (alive7_t _).mono ?_); (rintro e wn ⟨rfl, hb⟩); go_wp2_with fail)
        refine hK.out _ _ ?hSr1_1_0 (fun hHeld2 => ?_)
        case hSr1_1_0 => (first | exact ⟨c0, c1, c2, c3, c4, v0, v1, hb0.drew⟩ | exact ⟨c0, c1, c2, c3, c4, v0, v1, hb0⟩ | (obtain ⟨c0, c1, c2, c3, c4, v0, v1, hb0⟩ := hHeld; exact ⟨cell_later hb c0, cell_later hb c1, cell_later hb c2, cell_later hb c3, cell_later hb c4, cell_later hb v0, cell_later hb v1, below_step hb0 hb⟩))
        clear hK K hHeld
        have hHeld := hHeld2
        clear hHeld2
        (try simp only [Act.put, List.setIfInBounds_toArray, List.set_cons_zero, List.set_cons_succ])
        refine wpAnyH_take (i := 1) (oi := { dst := some 67, op := Go.Op.move (Go.Operand.tmp 66), type := 4, pos := _, after := #[{ on := 0, ground := Go.Ground.data }, { on := 0, ground := Go.Ground.chain }], guard := none }) (v := ?vr1_2_1) rfl (by kernel_rfl) (by kernel_rfl) (by kernel_rfl) (fun _ _ _ h => h) (Or.inl ⟨by rfl, ?yr1_2_1⟩) hHeld ?_
        case yr1_2_1 => ((intro w hSw; (try dsimp only at hSw); go_simp) <;> with_reducible rfl)
        (try simp only [Act.put, List.setIfInBounds_toArray, List.set_cons_zero, List.set_cons_succ])
        refine wpAnyH_take (i := 2) (oi := { dst := some 68, op := Go.Op.load 24 (Go.Operand.tmp 5), type := 24, pos := _, after := #[{ on := 1, ground := Go.Ground.guard }], guard := some (1, true) }) (v := ?vr1_3_2) rfl (by kernel_rfl) (by kernel_rfl) (by kernel_rfl) (fun _ _ _ h => h) (Or.inl ⟨by rfl, ?yr1_3_2⟩) hHeld ?_
        case yr1_3_2 => ((intro w hSw; (try dsimp only at hSw); go_simp) <;> with_reducible rfl)
        (try simp only [Act.put, List.setIfInBounds_toArray, List.set_cons_zero, List.set_cons_succ])
        refine wpAnyH_take (i := 4) (oi := { dst := some 70, op := Go.Op.load 24 (Go.Operand.tmp 5), type := 24, pos := _, after := #[{ on := 1, ground := Go.Ground.guard }], guard := some (1, true) }) (v := ?vr1_4_4) rfl (by kernel_rfl) (by kernel_rfl) (by kernel_rfl) (fun _ _ _ h => h) (Or.inl ⟨by rfl, ?yr1_4_4⟩) hHeld ?_
        case yr1_4_4 => ((intro w hSw; (try dsimp only at hSw); go_simp) <;> with_reducible rfl)
        (try simp only [Act.put, List.setIfInBounds_toArray, List.set_cons_zero, List.set_cons_succ])
        refine wpAnyH_ready (rs := [3]) (by kernel_rfl) (by simp) ?_
        refine AllReadyH.cons (o := { dst := some 69, op := Go.Op.call { callee := Go.Callee.value (Go.Operand.func 19), args := #[Go.Operand.tmp 68], argTypes := #[24] }, type := 4, pos := _, after := #[{ on := 2, ground := Go.Ground.data }, { on := 1, ground := Go.Ground.chain }, { on := 1, ground := Go.Ground.guard }], guard := some (1, true) }) rfl (fun K hK => ?_) AllReadyH.nil
        (go_simp; (refine (y1 _).mono ?_); (rintro e wn ⟨rfl, hb⟩); go_wp2_with fail)
        refine hK.out _ _ ?hSr1_5_3 (fun hHeld2 => ?_)
        case hSr1_5_3 => (first | exact ⟨c0, c1, c2, c3, c4, v0, v1, hb0.drew⟩ | exact ⟨c0, c1, c2, c3, c4, v0, v1, hb0⟩ | (obtain ⟨c0, c1, c2, c3, c4, v0, v1, hb0⟩ := hHeld; exact ⟨cell_later hb c0, cell_later hb c1, cell_later hb c2, cell_later hb c3, cell_later hb c4, cell_later hb v0, cell_later hb v1, below_step hb0 hb⟩))
        clear hK K hHeld
        have hHeld := hHeld2
        clear hHeld2
        (try simp only [Act.put, List.setIfInBounds_toArray, List.set_cons_zero, List.set_cons_succ])
        refine wpAnyH_ready (rs := [5]) (by kernel_rfl) (by simp) ?_
        refine AllReadyH.cons (o := { dst := some 71, op := Go.Op.call { callee := Go.Callee.value (Go.Operand.func 17), args := #[Go.Operand.tmp 70], argTypes := #[24] }, type := 4, pos := _, after := #[{ on := 4, ground := Go.Ground.data }, { on := 3, ground := Go.Ground.chain }, { on := 1, ground := Go.Ground.guard }], guard := some (1, true) }) rfl (fun K hK => ?_) AllReadyH.nil
        (go_simp; (refine (y2 _).mono ?_); (rintro e wn ⟨rfl, hb⟩); go_wp2_with fail)
        refine hK.out _ _ ?hSr1_6_5 (fun hHeld2 => ?_)
        case hSr1_6_5 => (first | exact ⟨c0, c1, c2, c3, c4, v0, v1, hb0.drew⟩ | exact ⟨c0, c1, c2, c3, c4, v0, v1, hb0⟩ | (obtain ⟨c0, c1, c2, c3, c4, v0, v1, hb0⟩ := hHeld; exact ⟨cell_later hb c0, cell_later hb c1, cell_later hb c2, cell_later hb c3, cell_later hb c4, cell_later hb v0, cell_later hb v1, below_step hb0 hb⟩))
        clear hK K hHeld
        have hHeld := hHeld2
        clear hHeld2
        (try simp only [Act.put, List.setIfInBounds_toArray, List.set_cons_zero, List.set_cons_succ])
        refine wpAnyH_take (i := 6) (oi := { dst := some 72, op := Go.Op.binOp Go.BinOp.eql 4 (Go.Operand.tmp 69) (Go.Operand.tmp 71) 4, type := 4, pos := _, after := #[{ on := 3, ground := Go.Ground.data }, { on := 5, ground := Go.Ground.data }, { on := 1, ground := Go.Ground.guard }], guard := some (1, true) }) (v := ?vr1_7_6) rfl (by kernel_rfl) (by kernel_rfl) (by kernel_rfl) (fun _ _ _ h => h) (Or.inl ⟨by rfl, ?yr1_7_6⟩) hHeld ?_
        case yr1_7_6 => ((intro w hSw; (try dsimp only at hSw); go_simp) <;> with_reducible rfl)
        (try simp only [Act.put, List.setIfInBounds_toArray, List.set_cons_zero, List.set_cons_succ])
        refine wpAnyH_take (i := 7) (oi := { dst := some 73, op := Go.Op.pick (Go.Operand.tmp 67) (Go.Operand.tmp 72) (Go.Operand.const (Go.Value.bool false)), type := 4, pos := _, after := #[{ on := 1, ground := Go.Ground.data }, { on := 6, ground := Go.Ground.data }], guard := none }) (v := ?vr1_8_7) rfl (by kernel_rfl) (by kernel_rfl) (by kernel_rfl) (fun _ _ _ h => h) (Or.inl ⟨by rfl, ?yr1_8_7⟩) hHeld ?_
        case yr1_8_7 => ((intro w hSw; (try dsimp only at hSw); go_simp) <;> with_reducible rfl)
        (try simp only [Act.put, List.setIfInBounds_toArray, List.set_cons_zero, List.set_cons_succ])
        refine wpAnyH_take (i := 8) (oi := { dst := some 74, op := Go.Op.move (Go.Operand.tmp 73), type := 4, pos := _, after := #[{ on := 7, ground := Go.Ground.data }, { on := 5, ground := Go.Ground.chain }], guard := none }) (v := ?vr1_9_8) rfl (by kernel_rfl) (by kernel_rfl) (by kernel_rfl) (fun _ _ _ h => h) (Or.inl ⟨by rfl, ?yr1_9_8⟩) hHeld ?_
        case yr1_9_8 => ((intro w hSw; (try dsimp only at hSw); go_simp) <;> with_reducible rfl)
        (try simp only [Act.put, List.setIfInBounds_toArray, List.set_cons_zero, List.set_cons_succ])
        refine wpAnyH_take (i := 9) (oi := { dst := some 75, op := Go.Op.move (Go.Operand.tmp 4), type := 3, pos := _, after := #[{ on := 8, ground := Go.Ground.guard }], guard := some (8, true) }) (v := ?vr1_10_9) rfl (by kernel_rfl) (by kernel_rfl) (by kernel_rfl) (fun _ _ _ h => h) (Or.inl ⟨by rfl, ?yr1_10_9⟩) hHeld ?_
        case yr1_10_9 => ((intro w hSw; (try dsimp only at hSw); go_simp) <;> with_reducible rfl)
        (try simp only [Act.put, List.setIfInBounds_toArray, List.set_cons_zero, List.set_cons_succ])
        refine wpAnyH_take (i := 11) (oi := { dst := some 77, op := Go.Op.move (Go.Operand.tmp 4), type := 3, pos := _, after := #[{ on := 8, ground := Go.Ground.guard }], guard := some (8, true) }) (v := ?vr1_11_11) rfl (by kernel_rfl) (by kernel_rfl) (by kernel_rfl) (fun _ _ _ h => h) (Or.inl ⟨by rfl, ?yr1_11_11⟩) hHeld ?_
        case yr1_11_11 => ((intro w hSw; (try dsimp only at hSw); go_simp) <;> with_reducible rfl)
        (try simp only [Act.put, List.setIfInBounds_toArray, List.set_cons_zero, List.set_cons_succ])
        refine wpAnyH_ready (rs := [10]) (by kernel_rfl) (by simp) ?_
        refine AllReadyH.cons (o := { dst := some 76, op := Go.Op.call { callee := Go.Callee.value (Go.Operand.func 20), args := #[Go.Operand.tmp 75], argTypes := #[3] }, type := 3, pos := _, after := #[{ on := 9, ground := Go.Ground.data }, { on := 8, ground := Go.Ground.chain }, { on := 8, ground := Go.Ground.guard }], guard := some (8, true) }) rfl (fun K hK => ?_) AllReadyH.nil
        (go_simp; (refine (y3 _).mono ?_); (rintro e wn ⟨rfl, hb⟩); go_wp2_with fail)
        refine hK.out _ _ ?hSr1_12_10 (fun hHeld2 => ?_)
        case hSr1_12_10 => (first | exact ⟨c0, c1, c2, c3, c4, v0, v1, hb0.drew⟩ | exact ⟨c0, c1, c2, c3, c4, v0, v1, hb0⟩ | (obtain ⟨c0, c1, c2, c3, c4, v0, v1, hb0⟩ := hHeld; exact ⟨cell_later hb c0, cell_later hb c1, cell_later hb c2, cell_later hb c3, cell_later hb c4, cell_later hb v0, cell_later hb v1, below_step hb0 hb⟩))
        clear hK K hHeld
        have hHeld := hHeld2
        clear hHeld2
        (try simp only [Act.put, List.setIfInBounds_toArray, List.set_cons_zero, List.set_cons_succ])
        refine wpAnyH_ready (rs := [12]) (by kernel_rfl) (by simp) ?_
        refine AllReadyH.cons (o := { dst := some 78, op := Go.Op.call { callee := Go.Callee.value (Go.Operand.func 21), args := #[Go.Operand.tmp 77], argTypes := #[3] }, type := 3, pos := _, after := #[{ on := 11, ground := Go.Ground.data }, { on := 10, ground := Go.Ground.chain }, { on := 8, ground := Go.Ground.guard }], guard := some (8, true) }) rfl (fun K hK => ?_) AllReadyH.nil
        (go_simp; (refine (y4 _).mono ?_); (rintro e wn ⟨rfl, hb⟩); go_wp2_with fail)
        refine hK.out _ _ ?hSr1_13_12 (fun hHeld2 => ?_)
        case hSr1_13_12 => (first | exact ⟨c0, c1, c2, c3, c4, v0, v1, hb0.drew⟩ | exact ⟨c0, c1, c2, c3, c4, v0, v1, hb0⟩ | (obtain ⟨c0, c1, c2, c3, c4, v0, v1, hb0⟩ := hHeld; exact ⟨cell_later hb c0, cell_later hb c1, cell_later hb c2, cell_later hb c3, cell_later hb c4, cell_later hb v0, cell_later hb v1, below_step hb0 hb⟩))
        clear hK K hHeld
        have hHeld := hHeld2
        clear hHeld2
        (try simp only [Act.put, List.setIfInBounds_toArray, List.set_cons_zero, List.set_cons_succ])
        refine wpAnyH_take (i := 13) (oi := { dst := some 79, op := Go.Op.binOp Go.BinOp.eql 3 (Go.Operand.tmp 76) (Go.Operand.tmp 78) 3, type := 4, pos := _, after := #[{ on := 10, ground := Go.Ground.data }, { on := 12, ground := Go.Ground.data }, { on := 8, ground := Go.Ground.guard }], guard := some (8, true) }) (v := ?vr1_14_13) rfl (by kernel_rfl) (by kernel_rfl) (by kernel_rfl) (fun _ _ _ h => h) (Or.inl ⟨by rfl, ?yr1_14_13⟩) hHeld ?_
        case yr1_14_13 => ((intro w hSw; (try dsimp only at hSw); go_simp) <;> with_reducible rfl)
        (try simp only [Act.put, List.setIfInBounds_toArray, List.set_cons_zero, List.set_cons_succ])
        refine wpAnyH_take (i := 14) (oi := { dst := some 80, op := Go.Op.pick (Go.Operand.tmp 74) (Go.Operand.tmp 79) (Go.Operand.const (Go.Value.bool false)), type := 4, pos := _, after := #[{ on := 8, ground := Go.Ground.data }, { on := 13, ground := Go.Ground.data }], guard := none }) (v := ?vr1_15_14) rfl (by kernel_rfl) (by kernel_rfl) (by kernel_rfl) (fun _ _ _ h => h) (Or.inl ⟨by rfl, ?yr1_15_14⟩) hHeld ?_
        case yr1_15_14 => ((intro w hSw; (try dsimp only at hSw); go_simp) <;> with_reducible rfl)
        (try simp only [Act.put, List.setIfInBounds_toArray, List.set_cons_zero, List.set_cons_succ])
        refine wpAnyH_take (i := 15) (oi := { dst := some 81, op := Go.Op.move (Go.Operand.tmp 80), type := 4, pos := _, after := #[{ on := 14, ground := Go.Ground.data }, { on := 12, ground := Go.Ground.chain }], guard := none }) (v := ?vr1_16_15) rfl (by kernel_rfl) (by kernel_rfl) (by kernel_rfl) (fun _ _ _ h => h) (Or.inl ⟨by rfl, ?yr1_16_15⟩) hHeld ?_
        case yr1_16_15 => ((intro w hSw; (try dsimp only at hSw); go_simp) <;> with_reducible rfl)
        (try simp only [Act.put, List.setIfInBounds_toArray, List.set_cons_zero, List.set_cons_succ])
        refine wpAnyH_take (i := 16) (oi := { dst := some 82, op := Go.Op.move (Go.Operand.tmp 4), type := 3, pos := _, after := #[{ on := 15, ground := Go.Ground.guard }], guard := some (15, true) }) (v := ?vr1_17_16) rfl (by kernel_rfl) (by kernel_rfl) (by kernel_rfl) (fun _ _ _ h => h) (Or.inl ⟨by rfl, ?yr1_17_16⟩) hHeld ?_
        case yr1_17_16 => ((intro w hSw; (try dsimp only at hSw); go_simp) <;> with_reducible rfl)
        (try simp only [Act.put, List.setIfInBounds_toArray, List.set_cons_zero, List.set_cons_succ])
        refine wpAnyH_take (i := 18) (oi := { dst := some 84, op := Go.Op.move (Go.Operand.tmp 4), type := 3, pos := _, after := #[{ on := 15, ground := Go.Ground.guard }], guard := some (15, true) }) (v := ?vr1_18_18) rfl (by kernel_rfl) (by kernel_rfl) (by kernel_rfl) (fun _ _ _ h => h) (Or.inl ⟨by rfl, ?yr1_18_18⟩) hHeld ?_
        case yr1_18_18 => ((intro w hSw; (try dsimp only at hSw); go_simp) <;> with_reducible rfl)
        (try simp only [Act.put, List.setIfInBounds_toArray, List.set_cons_zero, List.set_cons_succ])
        refine wpAnyH_ready (rs := [17]) (by kernel_rfl) (by simp) ?_
        refine AllReadyH.cons (o := { dst := some 83, op := Go.Op.call { callee := Go.Callee.value (Go.Operand.func 22), args := #[Go.Operand.tmp 82], argTypes := #[3] }, type := 24, pos := _, after := #[{ on := 16, ground := Go.Ground.data }, { on := 15, ground := Go.Ground.chain }, { on := 15, ground := Go.Ground.guard }], guard := some (15, true) }) rfl (fun K hK => ?_) AllReadyH.nil
        (go_simp; (refine (y5 _).mono ?_); (rintro e wn ⟨rfl, hb⟩); go_wp2_with fail)
        refine hK.out _ _ ?hSr1_19_17 (fun hHeld2 => ?_)
        case hSr1_19_17 => (first | exact ⟨c0, c1, c2, c3, c4, v0, v1, hb0.drew⟩ | exact ⟨c0, c1, c2, c3, c4, v0, v1, hb0⟩ | (obtain ⟨c0, c1, c2, c3, c4, v0, v1, hb0⟩ := hHeld; exact ⟨cell_later hb c0, cell_later hb c1, cell_later hb c2, cell_later hb c3, cell_later hb c4, cell_later hb v0, cell_later hb v1, below_step hb0 hb⟩))
        clear hK K hHeld
        have hHeld := hHeld2
        clear hHeld2
        (try simp only [Act.put, List.setIfInBounds_toArray, List.set_cons_zero, List.set_cons_succ])
        refine wpAnyH_ready (rs := [19]) (by kernel_rfl) (by simp) ?_
        refine AllReadyH.cons (o := { dst := some 85, op := Go.Op.call { callee := Go.Callee.value (Go.Operand.func 23), args := #[Go.Operand.tmp 84], argTypes := #[3] }, type := 24, pos := _, after := #[{ on := 18, ground := Go.Ground.data }, { on := 17, ground := Go.Ground.chain }, { on := 15, ground := Go.Ground.guard }], guard := some (15, true) }) rfl (fun K hK => ?_) AllReadyH.nil
        (go_simp; (refine (y6 _).mono ?_); (rintro e wn ⟨rfl, hb⟩); go_wp2_with fail)
        refine hK.out _ _ ?hSr1_20_19 (fun hHeld2 => ?_)
        case hSr1_20_19 => (first | exact ⟨c0, c1, c2, c3, c4, v0, v1, hb0.drew⟩ | exact ⟨c0, c1, c2, c3, c4, v0, v1, hb0⟩ | (obtain ⟨c0, c1, c2, c3, c4, v0, v1, hb0⟩ := hHeld; exact ⟨cell_later hb c0, cell_later hb c1, cell_later hb c2, cell_later hb c3, cell_later hb c4, cell_later hb v0, cell_later hb v1, below_step hb0 hb⟩))
        clear hK K hHeld
        have hHeld := hHeld2
        clear hHeld2
        (try simp only [Act.put, List.setIfInBounds_toArray, List.set_cons_zero, List.set_cons_succ])
        refine wpAnyH_take (i := 20) (oi := { dst := some 86, op := Go.Op.binOp Go.BinOp.eql 24 (Go.Operand.tmp 83) (Go.Operand.tmp 85) 24, type := 4, pos := _, after := #[{ on := 17, ground := Go.Ground.data }, { on := 19, ground := Go.Ground.data }, { on := 15, ground := Go.Ground.guard }], guard := some (15, true) }) (v := ?vr1_21_20) rfl (by kernel_rfl) (by kernel_rfl) (by kernel_rfl) (fun _ _ _ h => h) (Or.inl ⟨by rfl, ?yr1_21_20⟩) hHeld ?_
        case yr1_21_20 => ((intro w hSw; (try dsimp only at hSw); go_simp) <;> with_reducible rfl)
        (try simp only [Act.put, List.setIfInBounds_toArray, List.set_cons_zero, List.set_cons_succ])
        refine wpAnyH_take (i := 21) (oi := { dst := some 87, op := Go.Op.pick (Go.Operand.tmp 81) (Go.Operand.tmp 86) (Go.Operand.const (Go.Value.bool false)), type := 4, pos := _, after := #[{ on := 15, ground := Go.Ground.data }, { on := 20, ground := Go.Ground.data }], guard := none }) (v := ?vr1_22_21) rfl (by kernel_rfl) (by kernel_rfl) (by kernel_rfl) (fun _ _ _ h => h) (Or.inl ⟨by rfl, ?yr1_22_21⟩) hHeld ?_
        case yr1_22_21 => ((intro w hSw; (try dsimp only at hSw); go_simp) <;> with_reducible rfl)
        (try simp only [Act.put, List.setIfInBounds_toArray, List.set_cons_zero, List.set_cons_succ])
        refine wpAnyH_take (i := 22) (oi := { dst := some 88, op := Go.Op.move (Go.Operand.tmp 87), type := 4, pos := _, after := #[{ on := 21, ground := Go.Ground.data }, { on := 19, ground := Go.Ground.chain }], guard := none }) (v := ?vr1_23_22) rfl (by kernel_rfl) (by kernel_rfl) (by kernel_rfl) (fun _ _ _ h => h) (Or.inl ⟨by rfl, ?yr1_23_22⟩) hHeld ?_
        case yr1_23_22 => ((intro w hSw; (try dsimp only at hSw); go_simp) <;> with_reducible rfl)
        (try simp only [Act.put, List.setIfInBounds_toArray, List.set_cons_zero, List.set_cons_succ])
        refine wpAnyH_take (i := 23) (oi := { dst := some 89, op := Go.Op.move (Go.Operand.tmp 1), type := 25, pos := _, after := #[{ on := 22, ground := Go.Ground.guard }], guard := some (22, true) }) (v := ?vr1_24_23) rfl (by kernel_rfl) (by kernel_rfl) (by kernel_rfl) (fun _ _ _ h => h) (Or.inl ⟨by rfl, ?yr1_24_23⟩) hHeld ?_
        case yr1_24_23 => ((intro w hSw; (try dsimp only at hSw); go_simp) <;> with_reducible rfl)
        (try simp only [Act.put, List.setIfInBounds_toArray, List.set_cons_zero, List.set_cons_succ])
        refine wpAnyH_take (i := 25) (oi := { dst := some 91, op := Go.Op.move (Go.Operand.tmp 1), type := 25, pos := _, after := #[{ on := 22, ground := Go.Ground.guard }], guard := some (22, true) }) (v := ?vr1_25_25) rfl (by kernel_rfl) (by kernel_rfl) (by kernel_rfl) (fun _ _ _ h => h) (Or.inl ⟨by rfl, ?yr1_25_25⟩) hHeld ?_
        case yr1_25_25 => ((intro w hSw; (try dsimp only at hSw); go_simp) <;> with_reducible rfl)
        (try simp only [Act.put, List.setIfInBounds_toArray, List.set_cons_zero, List.set_cons_succ])
        refine wpAnyH_ready (rs := [24]) (by kernel_rfl) (by simp) ?_
        refine AllReadyH.cons (o := { dst := some 90, op := Go.Op.call { callee := Go.Callee.value (Go.Operand.func 24), args := #[Go.Operand.tmp 89], argTypes := #[25] }, type := 24, pos := _, after := #[{ on := 23, ground := Go.Ground.data }, { on := 22, ground := Go.Ground.chain }, { on := 22, ground := Go.Ground.guard }], guard := some (22, true) }) rfl (fun K hK => ?_) AllReadyH.nil
        (go_simp; (refine (y7 _).mono ?_); (rintro e wn ⟨rfl, hb⟩); go_wp2_with fail)
        refine hK.out _ _ ?hSr1_26_24 (fun hHeld2 => ?_)
        case hSr1_26_24 => (first | exact ⟨c0, c1, c2, c3, c4, v0, v1, hb0.drew⟩ | exact ⟨c0, c1, c2, c3, c4, v0, v1, hb0⟩ | (obtain ⟨c0, c1, c2, c3, c4, v0, v1, hb0⟩ := hHeld; exact ⟨cell_later hb c0, cell_later hb c1, cell_later hb c2, cell_later hb c3, cell_later hb c4, cell_later hb v0, cell_later hb v1, below_step hb0 hb⟩))
        clear hK K hHeld
        have hHeld := hHeld2
        clear hHeld2
        (try simp only [Act.put, List.setIfInBounds_toArray, List.set_cons_zero, List.set_cons_succ])
        refine wpAnyH_ready (rs := [26]) (by kernel_rfl) (by simp) ?_
        refine AllReadyH.cons (o := { dst := some 92, op := Go.Op.call { callee := Go.Callee.value (Go.Operand.func 25), args := #[Go.Operand.tmp 91], argTypes := #[25] }, type := 24, pos := _, after := #[{ on := 25, ground := Go.Ground.data }, { on := 24, ground := Go.Ground.chain }, { on := 22, ground := Go.Ground.guard }], guard := some (22, true) }) rfl (fun K hK => ?_) AllReadyH.nil
        (go_simp; (refine (y8 _).mono ?_); (rintro e wn ⟨rfl, hb⟩); go_wp2_with fail)
        refine hK.out _ _ ?hSr1_27_26 (fun hHeld2 => ?_)
        case hSr1_27_26 => (first | exact ⟨c0, c1, c2, c3, c4, v0, v1, hb0.drew⟩ | exact ⟨c0, c1, c2, c3, c4, v0, v1, hb0⟩ | (obtain ⟨c0, c1, c2, c3, c4, v0, v1, hb0⟩ := hHeld; exact ⟨cell_later hb c0, cell_later hb c1, cell_later hb c2, cell_later hb c3, cell_later hb c4, cell_later hb v0, cell_later hb v1, below_step hb0 hb⟩))
        clear hK K hHeld
        have hHeld := hHeld2
        clear hHeld2
        (try simp only [Act.put, List.setIfInBounds_toArray, List.set_cons_zero, List.set_cons_succ])
        refine wpAnyH_take (i := 27) (oi := { dst := some 93, op := Go.Op.binOp Go.BinOp.eql 24 (Go.Operand.tmp 90) (Go.Operand.tmp 92) 24, type := 4, pos := _, after := #[{ on := 24, ground := Go.Ground.data }, { on := 26, ground := Go.Ground.data }, { on := 22, ground := Go.Ground.guard }], guard := some (22, true) }) (v := ?vr1_28_27) rfl (by kernel_rfl) (by kernel_rfl) (by kernel_rfl) (fun _ _ _ h => h) (Or.inl ⟨by rfl, ?yr1_28_27⟩) hHeld ?_
        case yr1_28_27 => ((intro w hSw; (try dsimp only at hSw); go_simp) <;> with_reducible rfl)
        (try simp only [Act.put, List.setIfInBounds_toArray, List.set_cons_zero, List.set_cons_succ])
        refine wpAnyH_take (i := 28) (oi := { dst := some 94, op := Go.Op.pick (Go.Operand.tmp 88) (Go.Operand.tmp 93) (Go.Operand.const (Go.Value.bool false)), type := 4, pos := _, after := #[{ on := 22, ground := Go.Ground.data }, { on := 27, ground := Go.Ground.data }], guard := none }) (v := ?vr1_29_28) rfl (by kernel_rfl) (by kernel_rfl) (by kernel_rfl) (fun _ _ _ h => h) (Or.inl ⟨by rfl, ?yr1_29_28⟩) hHeld ?_
        case yr1_29_28 => ((intro w hSw; (try dsimp only at hSw); go_simp) <;> with_reducible rfl)
        (try simp only [Act.put, List.setIfInBounds_toArray, List.set_cons_zero, List.set_cons_succ])
        refine wpAnyH_take (i := 29) (oi := { dst := some 95, op := Go.Op.move (Go.Operand.tmp 94), type := 4, pos := _, after := #[{ on := 28, ground := Go.Ground.data }, { on := 26, ground := Go.Ground.chain }], guard := none }) (v := ?vr1_30_29) rfl (by kernel_rfl) (by kernel_rfl) (by kernel_rfl) (fun _ _ _ h => h) (Or.inl ⟨by rfl, ?yr1_30_29⟩) hHeld ?_
        case yr1_30_29 => ((intro w hSw; (try dsimp only at hSw); go_simp) <;> with_reducible rfl)
        (try simp only [Act.put, List.setIfInBounds_toArray, List.set_cons_zero, List.set_cons_succ])
        refine wpAnyH_take (i := 30) (oi := { dst := some 96, op := Go.Op.load 27 (Go.Operand.tmp 7), type := 27, pos := _, after := #[{ on := 29, ground := Go.Ground.guard }], guard := some (29, true) }) (v := ?vr1_31_30) rfl (by kernel_rfl) (by kernel_rfl) (by kernel_rfl) (fun _ _ _ h => h) (Or.inl ⟨by rfl, ?yr1_31_30⟩) hHeld ?_
        case yr1_31_30 => ((intro w hSw; (try dsimp only at hSw); go_simp) <;> with_reducible rfl)
        (try simp only [Act.put, List.setIfInBounds_toArray, List.set_cons_zero, List.set_cons_succ])
        refine wpAnyH_take (i := 32) (oi := { dst := some 98, op := Go.Op.fieldAddr 27 (Go.Operand.tmp 7) 0, type := 0, pos := _, after := #[{ on := 29, ground := Go.Ground.guard }], guard := some (29, true) }) (v := ?vr1_32_32) rfl (by kernel_rfl) (by kernel_rfl) (by kernel_rfl) (fun _ _ _ h => h) (Or.inl ⟨by rfl, ?yr1_32_32⟩) hHeld ?_
        case yr1_32_32 => ((intro w hSw; (try dsimp only at hSw); go_simp) <;> with_reducible rfl)
        (try simp only [Act.put, List.setIfInBounds_toArray, List.set_cons_zero, List.set_cons_succ])
        refine wpAnyH_take (i := 33) (oi := { dst := some 99, op := Go.Op.load 22 (Go.Operand.tmp 98), type := 22, pos := _, after := #[{ on := 32, ground := Go.Ground.data }, { on := 29, ground := Go.Ground.guard }], guard := some (29, true) }) (v := ?vr1_33_33) rfl (by kernel_rfl) (by kernel_rfl) (by kernel_rfl) (fun _ _ _ h => h) (Or.inl ⟨by rfl, ?yr1_33_33⟩) hHeld ?_
        case yr1_33_33 => ((intro w hSw; (try dsimp only at hSw); go_simp) <;> with_reducible rfl)
        (try simp only [Act.put, List.setIfInBounds_toArray, List.set_cons_zero, List.set_cons_succ])
        refine wpAnyH_take (i := 34) (oi := { dst := some 100, op := Go.Op.fieldAddr 27 (Go.Operand.tmp 7) 1, type := 0, pos := _, after := #[{ on := 29, ground := Go.Ground.guard }], guard := some (29, true) }) (v := ?vr1_34_34) rfl (by kernel_rfl) (by kernel_rfl) (by kernel_rfl) (fun _ _ _ h => h) (Or.inl ⟨by rfl, ?yr1_34_34⟩) hHeld ?_
        case yr1_34_34 => ((intro w hSw; (try dsimp only at hSw); go_simp) <;> with_reducible rfl)
        (try simp only [Act.put, List.setIfInBounds_toArray, List.set_cons_zero, List.set_cons_succ])
        refine wpAnyH_take (i := 35) (oi := { dst := some 101, op := Go.Op.load 22 (Go.Operand.tmp 100), type := 22, pos := _, after := #[{ on := 34, ground := Go.Ground.data }, { on := 29, ground := Go.Ground.guard }], guard := some (29, true) }) (v := ?vr1_35_35) rfl (by kernel_rfl) (by kernel_rfl) (by kernel_rfl) (fun _ _ _ h => h) (Or.inl ⟨by rfl, ?yr1_35_35⟩) hHeld ?_
        case yr1_35_35 => ((intro w hSw; (try dsimp only at hSw); go_simp) <;> with_reducible rfl)
        (try simp only [Act.put, List.setIfInBounds_toArray, List.set_cons_zero, List.set_cons_succ])
        refine wpAnyH_ready (rs := [31]) (by kernel_rfl) (by simp) ?_
        refine AllReadyH.cons (o := { dst := some 97, op := Go.Op.call { callee := Go.Callee.value (Go.Operand.func 26), args := #[Go.Operand.tmp 96], argTypes := #[27] }, type := 24, pos := _, after := #[{ on := 30, ground := Go.Ground.data }, { on := 29, ground := Go.Ground.chain }, { on := 29, ground := Go.Ground.guard }], guard := some (29, true) }) rfl (fun K hK => ?_) AllReadyH.nil
        (go_simp; (refine (y9 _).mono ?_); (rintro e wn ⟨rfl, hb⟩); go_wp2_with fail)
        refine hK.out _ _ ?hSr1_36_31 (fun hHeld2 => ?_)
        case hSr1_36_31 => (first | exact ⟨c0, c1, c2, c3, c4, v0, v1, hb0.drew⟩ | exact ⟨c0, c1, c2, c3, c4, v0, v1, hb0⟩ | (obtain ⟨c0, c1, c2, c3, c4, v0, v1, hb0⟩ := hHeld; exact ⟨cell_later hb c0, cell_later hb c1, cell_later hb c2, cell_later hb c3, cell_later hb c4, cell_later hb v0, cell_later hb v1, below_step hb0 hb⟩))
        clear hK K hHeld
        have hHeld := hHeld2
        clear hHeld2
        (try simp only [Act.put, List.setIfInBounds_toArray, List.set_cons_zero, List.set_cons_succ])
        refine wpAnyH_ready (rs := [36]) (by kernel_rfl) (by simp) ?_
        refine AllReadyH.cons (o := { dst := some 102, op := Go.Op.call { callee := Go.Callee.value (Go.Operand.func 27), args := #[Go.Operand.tmp 99, Go.Operand.tmp 101], argTypes := #[22, 22] }, type := 24, pos := _, after := #[{ on := 33, ground := Go.Ground.data }, { on := 35, ground := Go.Ground.data }, { on := 31, ground := Go.Ground.chain }, { on := 29, ground := Go.Ground.guard }], guard := some (29, true) }) rfl (fun K hK => ?_) AllReadyH.nil
        (go_simp; (refine (y10 _).mono ?_); (rintro e wn ⟨rfl, hb⟩); go_wp2_with fail)
        refine hK.out _ _ ?hSr1_37_36 (fun hHeld2 => ?_)
        case hSr1_37_36 => (first | exact ⟨c0, c1, c2, c3, c4, v0, v1, hb0.drew⟩ | exact ⟨c0, c1, c2, c3, c4, v0, v1, hb0⟩ | (obtain ⟨c0, c1, c2, c3, c4, v0, v1, hb0⟩ := hHeld; exact ⟨cell_later hb c0, cell_later hb c1, cell_later hb c2, cell_later hb c3, cell_later hb c4, cell_later hb v0, cell_later hb v1, below_step hb0 hb⟩))
        clear hK K hHeld
        have hHeld := hHeld2
        clear hHeld2
        (try simp only [Act.put, List.setIfInBounds_toArray, List.set_cons_zero, List.set_cons_succ])
        refine wpAnyH_take (i := 37) (oi := { dst := some 103, op := Go.Op.binOp Go.BinOp.eql 24 (Go.Operand.tmp 97) (Go.Operand.tmp 102) 24, type := 4, pos := _, after := #[{ on := 31, ground := Go.Ground.data }, { on := 36, ground := Go.Ground.data }, { on := 29, ground := Go.Ground.guard }], guard := some (29, true) }) (v := ?vr1_38_37) rfl (by kernel_rfl) (by kernel_rfl) (by kernel_rfl) (fun _ _ _ h => h) (Or.inl ⟨by rfl, ?yr1_38_37⟩) hHeld ?_
        case yr1_38_37 => ((intro w hSw; (try dsimp only at hSw); go_simp) <;> with_reducible rfl)
        (try simp only [Act.put, List.setIfInBounds_toArray, List.set_cons_zero, List.set_cons_succ])
        refine wpAnyH_take (i := 38) (oi := { dst := some 104, op := Go.Op.pick (Go.Operand.tmp 95) (Go.Operand.tmp 103) (Go.Operand.const (Go.Value.bool false)), type := 4, pos := _, after := #[{ on := 29, ground := Go.Ground.data }, { on := 37, ground := Go.Ground.data }], guard := none }) (v := ?vr1_39_38) rfl (by kernel_rfl) (by kernel_rfl) (by kernel_rfl) (fun _ _ _ h => h) (Or.inl ⟨by rfl, ?yr1_39_38⟩) hHeld ?_
        case yr1_39_38 => ((intro w hSw; (try dsimp only at hSw); go_simp) <;> with_reducible rfl)
        (try simp only [Act.put, List.setIfInBounds_toArray, List.set_cons_zero, List.set_cons_succ])
        refine wpAnyH_take (i := 39) (oi := { dst := some 10, op := Go.Op.assign (Go.Operand.tmp 104), type := 4, pos := _, after := #[{ on := 38, ground := Go.Ground.data }, { on := 36, ground := Go.Ground.chain }, { on := 0, ground := Go.Ground.phase }, { on := 1, ground := Go.Ground.phase }, { on := 2, ground := Go.Ground.phase }, { on := 3, ground := Go.Ground.phase }, { on := 4, ground := Go.Ground.phase }, { on := 5, ground := Go.Ground.phase }, { on := 6, ground := Go.Ground.phase }, { on := 7, ground := Go.Ground.phase }, { on := 8, ground := Go.Ground.phase }, { on := 9, ground := Go.Ground.phase }, { on := 10, ground := Go.Ground.phase }, { on := 11, ground := Go.Ground.phase }, { on := 12, ground := Go.Ground.phase }, { on := 13, ground := Go.Ground.phase }, { on := 14, ground := Go.Ground.phase }, { on := 15, ground := Go.Ground.phase }, { on := 16, ground := Go.Ground.phase }, { on := 17, ground := Go.Ground.phase }, { on := 18, ground := Go.Ground.phase }, { on := 19, ground := Go.Ground.phase }, { on := 20, ground := Go.Ground.phase }, { on := 21, ground := Go.Ground.phase }, { on := 22, ground := Go.Ground.phase }, { on := 23, ground := Go.Ground.phase }, { on := 24, ground := Go.Ground.phase }, { on := 25, ground := Go.Ground.phase }, { on := 26, ground := Go.Ground.phase }, { on := 27, ground := Go.Ground.phase }, { on := 28, ground := Go.Ground.phase }, { on := 29, ground := Go.Ground.phase }, { on := 30, ground := Go.Ground.phase }, { on := 31, ground := Go.Ground.phase }, { on := 32, ground := Go.Ground.phase }, { on := 33, ground := Go.Ground.phase }, { on := 34, ground := Go.Ground.phase }, { on := 35, ground := Go.Ground.phase }, { on := 36, ground := Go.Ground.phase }, { on := 37, ground := Go.Ground.phase }, { on := 38, ground := Go.Ground.phase }], guard := none }) (v := ?vr1_40_39) rfl (by kernel_rfl) (by kernel_rfl) (by kernel_rfl) (fun _ _ _ h => h) (Or.inl ⟨by rfl, ?yr1_40_39⟩) hHeld ?_
        case yr1_40_39 => ((intro w hSw; (try dsimp only at hSw); go_simp) <;> with_reducible rfl)
        (try simp only [Act.put, List.setIfInBounds_toArray, List.set_cons_zero, List.set_cons_succ])
        refine wpAnyH_done (by kernel_rfl) ?_ _
        clear c0 c1 c2 c3 c4 v0 v1 hb0
        obtain ⟨c0, c1, c2, c3, c4, v0, v1, hb0⟩ := hHeld
        go_wp2
        go_ret
        exact ⟨rfl, hb0⟩
  | false =>
    rw [hz hr, he, hr, if_neg (by simp)] at HP
    rw [hr] at HW
    clear hg hz he hr
    unfold kz at HP
    dsimp only at *
    go_enter Try.func3, Try.ntmps3
    go_wp2_with fail
    refine (HP _).mono ?_
    rintro e w1 ⟨rfl, hb⟩
    replace RR0 := Lib.hid (RR0.out.later hb)
    replace RR1 := Lib.hid (RR1.out.later hb)
    replace hb0 := below_step hb0 hb
    clear hb HP
    have G0 := Lib.hid ((Row.new w1 #[.int .i64 0, .int .i64 0, .int .u64 0, .int .u64 0, .string ⟨#[]⟩] 24).alloc (.cells #[.int .i64 3, .int .i64 0, .int .u64 0, .int .u64 0, .string ⟨p.toArray⟩] 24))
    have G1 := Row.new (w1.alloc (.cells #[.int .i64 0, .int .i64 0, .int .u64 0, .int .u64 0, .string ⟨#[]⟩] 24)) #[.int .i64 3, .int .i64 0, .int .u64 0, .int .u64 0, .string ⟨p.toArray⟩] 24
    rw [World.size_alloc] at G1
    replace G1 := Lib.hid G1
    have HB1 : Hid (Below w1.heap.size w1 ((w1.alloc (.cells #[.int .i64 0, .int .i64 0, .int .u64 0, .int .u64 0, .string ⟨#[]⟩] 24)).alloc (.cells #[.int .i64 3, .int .i64 0, .int .u64 0, .int .u64 0, .string ⟨p.toArray⟩] 24))) := Lib.hid (by repeat (first | exact Below.refl _ _ | assumption | (with_reducible refine Below.setCell ?_ ?h _; case h => first | omega | (simp; done) | (simp; omega)) | (with_reducible refine Below.alloc ?_ ?h _; case h => first | omega | (simp; done) | (simp; omega)) | (with_reducible refine Below.drew ?_) | (with_reducible refine Below.trans ?_ (hb4.mono ?h); case h => first | omega | (simp; done) | (simp; omega)) | (with_reducible refine Below.trans ?_ (hb3.mono ?h); case h => first | omega | (simp; done) | (simp; omega)) | (with_reducible refine Below.trans ?_ (hb2.mono ?h); case h => first | omega | (simp; done) | (simp; omega)) | (with_reducible refine Below.trans ?_ (hb.mono ?h); case h => first | omega | (simp; done) | (simp; omega)) | (with_reducible refine Below.trans ?_ (hb0.mono ?h); case h => first | omega | (simp; done) | (simp; omega))))
    have HB0 := Lib.hid hb0
    clear hb0
    go_wp2_with fail
    go_loopw [14] (fun i wr => ∃ j : Nat, j ≤ p.length ∧ i = .int .i64 (j : Nat) ∧ Hid (Row wr w1.heap.size #[.int .i64 0, .int .i64 0, .int .u64 0, .int .u64 0, .string ⟨#[]⟩] 24) ∧ Hid (Row wr (w1.heap.size + 1) #[.int .i64 3, .int .i64 (N j : Nat), .int .u64 0, .int .u64 0, .string ⟨p.toArray⟩] 24) ∧ Hid (Below w1.heap.size w1 wr)) (fun i _ => p.length - (intOf i).toNat)
    case atStart => exact ⟨0, Nat.zero_le _, rfl, G0, by rw [H0]; exact G1, HB1⟩
    case round =>
      clear G0 G1 HB1
      obtain ⟨j, hj, rfl, G0, G1, HB1⟩ := hrel
      by_cases hlt : j < p.length
      · obtain ⟨c, hlj⟩ : ∃ c, p[j] = c := ⟨_, rfl⟩
        have hsp : j < (⟨p.toArray⟩ : ByteArray).size := by rw [hsz]; exact hlt
        have hch : (⟨p.toArray⟩ : ByteArray)[j]'hsp = c := hlj
        have hlt' : (j : Int) < (p.length : Int) := by omega
        have nb := HL.out j
        have d1 := (G1.out.cell 1).trans (show _ = some (Value.int .i64 (N j : Nat)) from rfl)
        have df1 := G1.out.frozen 1
        have hs1 : w1.heap.size ≤ w1.heap.size + 1 := by omega
        have G0N := Lib.hid (fun v => G0.out.set_far ⟨w1.heap.size + 1, 1, none⟩ v (by simp))
        have G1N := Lib.hid (fun v => row_set1 (v := v) G1.out)
        have HBN := Lib.hid (fun v => HB1.out.setCell (p := ⟨w1.heap.size + 1, 1, none⟩) hs1 v)
        have G0M := Lib.hid (fun v u => (G0N.out v).set_far ⟨w1.heap.size + 1, 1, none⟩ u (by simp))
        have G1M := Lib.hid (fun v u => row_set1 (v := u) (G1N.out v))
        have HBM := Lib.hid (fun v u => (HBN.out v).setCell (p := ⟨w1.heap.size + 1, 1, none⟩) hs1 u)
        by_cases h0 : j = 0
        · subst h0
          have e1 := H1.out hlt
          rw [hlj] at e1
          clear HS H1 HL hlj y1 y2 y3 y4 y5 y6 y7 y8 y9 y10 HW RR0 RR1 HB0
          by_cases hc : c = 46
          · have hc' : (c.toNat : Int) = 46 := by rw [hc]; rfl
            have hc2 : ((c.toNat : Int) == 46) = true := by simpa using hc'
            rw [if_pos hc] at e1
            replace e1 := Lib.hid e1
            clear hc nb G0N G1N HBN G0 G1 HB1
            go_wp2
            exact ⟨⟨1, by omega, by go_num, Lib.hid (G0M.out _ _), by rw [e1.out]; exact Lib.hid (G1M.out _ _), Lib.hid (HBM.out _ _)⟩, by simp [intOf]; omega⟩
          · have hc' : ¬ (c.toNat : Int) = 46 := fun e => hc (by apply UInt8.toNat_inj.1; show c.toNat = 46; omega)
            have hc2 : ((c.toNat : Int) == 46) = false := by simpa using hc'
            rw [if_neg hc] at e1
            replace e1 := Lib.hid e1
            clear hc nb G0M G1M HBM G0 G1 HB1
            go_wp2
            exact ⟨⟨1, by omega, by go_num, Lib.hid (G0N.out _), by rw [e1.out]; exact Lib.hid (G1N.out _), Lib.hid (HBN.out _)⟩, by simp [intOf]; omega⟩
        · have e1 := HS.out j hlt (by omega)
          rw [hlj] at e1
          have h0' : ((j : Int) == 0) = false := by simp; omega
          have h0'' : ¬ (j : Int) = 0 := by omega
          clear HS H1 HL hlj y1 y2 y3 y4 y5 y6 y7 y8 y9 y10 HW RR0 RR1 HB0
          by_cases hc : c = 46
          · have hc' : (c.toNat : Int) = 46 := by rw [hc]; rfl
            have hc2 : ((c.toNat : Int) == 46) = true := by simpa using hc'
            rw [if_pos hc] at e1
            replace e1 := Lib.hid e1
            generalize N j = nj at *
            clear hc G0M G1M HBM G0 G1 HB1
            go_wp2
            exact ⟨⟨j + 1, by omega, by go_num, Lib.hid (G0N.out _), by rw [e1.out]; exact Lib.hid (G1N.out _), Lib.hid (HBN.out _)⟩, by simp [intOf]; omega⟩
          · have hc' : ¬ (c.toNat : Int) = 46 := fun e => hc (by apply UInt8.toNat_inj.1; show c.toNat = 46; omega)
            have hc2 : ((c.toNat : Int) == 46) = false := by simpa using hc'
            replace e1 : N (j + 1) = N j := by rw [e1, if_neg hc]; rfl
            rw [← e1] at G1
            clear hc nb G0M G1M HBM G0N G1N HBN e1
            go_wp2
            exact ⟨⟨j + 1, by omega, by go_num, G0, G1, HB1⟩, by simp [intOf]; omega⟩
      · have hjl : j = p.length := by omega
        subst hjl
        have hb0 := below_step HB0.out HB1.out
        have R0 := RR0.out.later HB1.out
        have R1 := RR1.out.later HB1.out
        have c0 := ((R0).cell 0).trans (show _ = some (Value.int .i64 k.kind) from rfl)
        have cf0 := (R0).frozen 0
        have c1 := ((R0).cell 1).trans (show _ = some (Value.int .i64 k.len) from rfl)
        have cf1 := (R0).frozen 1
        have c2 := ((R0).cell 2).trans (show _ = some (Value.int .u64 k.h) from rfl)
        have cf2 := (R0).frozen 2
        have c3 := ((R0).cell 3).trans (show _ = some (Value.int .u64 k.l) from rfl)
        have cf3 := (R0).frozen 3
        have c4 := ((R0).cell 4).trans (show _ = some (Value.string ⟨k.path.toArray⟩) from rfl)
        have cf4 := (R0).frozen 4
        have v0 := (R1.cell 0).trans (show _ = some (Value.int .u64 wh) from rfl)
        have v1 := (R1.cell 1).trans (show _ = some (Value.int .u64 wl) from rfl)
        have g0 := ((G0.out).cell 0).trans (show _ = some (Value.int .i64 0) from rfl)
        have gf0 := (G0.out).frozen 0
        have g1 := ((G0.out).cell 1).trans (show _ = some (Value.int .i64 0) from rfl)
        have gf1 := (G0.out).frozen 1
        have g2 := ((G0.out).cell 2).trans (show _ = some (Value.int .u64 0) from rfl)
        have gf2 := (G0.out).frozen 2
        have g3 := ((G0.out).cell 3).trans (show _ = some (Value.int .u64 0) from rfl)
        have gf3 := (G0.out).frozen 3
        have g4 := ((G0.out).cell 4).trans (show _ = some (Value.string ⟨#[]⟩) from rfl)
        have gf4 := (G0.out).frozen 4
        have m0 := ((G1.out).cell 0).trans (show _ = some (Value.int .i64 3) from rfl)
        have mf0 := (G1.out).frozen 0
        have m1 := ((G1.out).cell 1).trans (show _ = some (Value.int .i64 (N p.length : Nat)) from rfl)
        have mf1 := (G1.out).frozen 1
        have m2 := ((G1.out).cell 2).trans (show _ = some (Value.int .u64 0) from rfl)
        have mf2 := (G1.out).frozen 2
        have m3 := ((G1.out).cell 3).trans (show _ = some (Value.int .u64 0) from rfl)
        have mf3 := (G1.out).frozen 3
        have m4 := ((G1.out).cell 4).trans (show _ = some (Value.string ⟨p.toArray⟩) from rfl)
        have mf4 := (G1.out).frozen 4
        clear R0 R1 RR0 RR1 G0 G1 HB0 HB1 HS H1 HL cf0 gf0 mf0 cf1 gf1 mf1 cf2 gf2 mf2 cf3 gf3 mf3 cf4 gf4 mf4
        go_wp2_with fail
        refine (HW _).mono ?_
        rintro e w3 ⟨rfl, hb⟩
        replace c0 := cell_later hb c0
        replace c1 := cell_later hb c1
        replace c2 := cell_later hb c2
        replace c3 := cell_later hb c3
        replace c4 := cell_later hb c4
        replace g0 := cell_later hb g0
        replace g1 := cell_later hb g1
        replace g2 := cell_later hb g2
        replace g3 := cell_later hb g3
        replace g4 := cell_later hb g4
        replace m0 := cell_later hb m0
        replace m1 := cell_later hb m1
        replace m2 := cell_later hb m2
        replace m3 := cell_later hb m3
        replace m4 := cell_later hb m4
        replace v0 := cell_later hb v0
        replace v1 := cell_later hb v1
        replace hb0 := below_step hb0 hb
        clear hb HW
        go_wp2_with fail
        refine wp_region_held_drew (S := (fun w' => w'.cell? ⟨w.heap.size, 0, none⟩ = some (.int .i64 k.kind) ∧ w'.cell? ⟨w.heap.size, 1, none⟩ = some (.int .i64 k.len) ∧ w'.cell? ⟨w.heap.size, 2, none⟩ = some (.int .u64 k.h) ∧ w'.cell? ⟨w.heap.size, 3, none⟩ = some (.int .u64 k.l) ∧ w'.cell? ⟨w.heap.size, 4, none⟩ = some (.string ⟨k.path.toArray⟩) ∧ w'.cell? ⟨w.heap.size + 1, 0, none⟩ = some (.int .u64 wh) ∧ w'.cell? ⟨w.heap.size + 1, 1, none⟩ = some (.int .u64 wl) ∧ Below w.heap.size w w')) (by kernel_rfl) ?hSr2_ (fun hHeld => ?_)
        case hSr2_ => (first | exact ⟨c0, c1, c2, c3, c4, v0, v1, hb0.drew⟩ | exact ⟨c0, c1, c2, c3, c4, v0, v1, hb0⟩ | (obtain ⟨c0, c1, c2, c3, c4, v0, v1, hb0⟩ := hHeld; exact ⟨cell_later hb c0, cell_later hb c1, cell_later hb c2, cell_later hb c3, cell_later hb c4, cell_later hb v0, cell_later hb v1, below_step hb0 hb⟩))
        refine wpAnyH_ready (rs := [0]) (by kernel_rfl) (by simp) ?_
        refine AllReadyH.cons (o := { dst := some 66, op := Go.Op.call { callee := Go.Callee.value (Go.Operand.func 18), args := #[], argTypes := #[] }, type := 4, pos := _, after := #[], guard := none }) rfl (fun K hK => ?_) AllReadyH.nil
        (go_simp; (refine (alive7_t _).mono ?_); (rintro e wn ⟨rfl, hb⟩); go_wp2_with fail)
        refine hK.out _ _ ?hSr2_1_0 (fun hHeld2 => ?_)
        case hSr2_1_0 => (first | exact ⟨c0, c1, c2, c3, c4, v0, v1, hb0.drew⟩ | exact ⟨c0, c1, c2, c3, c4, v0, v1, hb0⟩ | (obtain ⟨c0, c1, c2, c3, c4, v0, v1, hb0⟩ := hHeld; exact ⟨cell_later hb c0, cell_later hb c1, cell_later hb c2, cell_later hb c3, cell_later hb c4, cell_later hb v0, cell_later hb v1, below_step hb0 hb⟩))
        clear hK K hHeld
        have hHeld := hHeld2
        clear hHeld2
        (try simp only [Act.put, List.setIfInBounds_toArray, List.set_cons_zero, List.set_cons_succ])
        refine wpAnyH_take (i := 1) (oi := { dst := some 67, op := Go.Op.move (Go.Operand.tmp 66), type := 4, pos := _, after := #[{ on := 0, ground := Go.Ground.data }, { on := 0, ground := Go.Ground.chain }], guard := none }) (v := ?vr2_2_1) rfl (by kernel_rfl) (by kernel_rfl) (by kernel_rfl) (fun _ _ _ h => h) (Or.inl ⟨by rfl, ?yr2_2_1⟩) hHeld ?_
        case yr2_2_1 => ((intro w hSw; (try dsimp only at hSw); go_simp) <;> with_reducible rfl)
        (try simp only [Act.put, List.setIfInBounds_toArray, List.set_cons_zero, List.set_cons_succ])
        refine wpAnyH_take (i := 2) (oi := { dst := some 68, op := Go.Op.load 24 (Go.Operand.tmp 5), type := 24, pos := _, after := #[{ on := 1, ground := Go.Ground.guard }], guard := some (1, true) }) (v := ?vr2_3_2) rfl (by kernel_rfl) (by kernel_rfl) (by kernel_rfl) (fun _ _ _ h => h) (Or.inl ⟨by rfl, ?yr2_3_2⟩) hHeld ?_
        case yr2_3_2 => ((intro w hSw; (try dsimp only at hSw); go_simp) <;> with_reducible rfl)
        (try simp only [Act.put, List.setIfInBounds_toArray, List.set_cons_zero, List.set_cons_succ])
        refine wpAnyH_take (i := 4) (oi := { dst := some 70, op := Go.Op.load 24 (Go.Operand.tmp 5), type := 24, pos := _, after := #[{ on := 1, ground := Go.Ground.guard }], guard := some (1, true) }) (v := ?vr2_4_4) rfl (by kernel_rfl) (by kernel_rfl) (by kernel_rfl) (fun _ _ _ h => h) (Or.inl ⟨by rfl, ?yr2_4_4⟩) hHeld ?_
        case yr2_4_4 => ((intro w hSw; (try dsimp only at hSw); go_simp) <;> with_reducible rfl)
        (try simp only [Act.put, List.setIfInBounds_toArray, List.set_cons_zero, List.set_cons_succ])
        refine wpAnyH_ready (rs := [3]) (by kernel_rfl) (by simp) ?_
        refine AllReadyH.cons (o := { dst := some 69, op := Go.Op.call { callee := Go.Callee.value (Go.Operand.func 19), args := #[Go.Operand.tmp 68], argTypes := #[24] }, type := 4, pos := _, after := #[{ on := 2, ground := Go.Ground.data }, { on := 1, ground := Go.Ground.chain }, { on := 1, ground := Go.Ground.guard }], guard := some (1, true) }) rfl (fun K hK => ?_) AllReadyH.nil
        (go_simp; (refine (y1 _).mono ?_); (rintro e wn ⟨rfl, hb⟩); go_wp2_with fail)
        refine hK.out _ _ ?hSr2_5_3 (fun hHeld2 => ?_)
        case hSr2_5_3 => (first | exact ⟨c0, c1, c2, c3, c4, v0, v1, hb0.drew⟩ | exact ⟨c0, c1, c2, c3, c4, v0, v1, hb0⟩ | (obtain ⟨c0, c1, c2, c3, c4, v0, v1, hb0⟩ := hHeld; exact ⟨cell_later hb c0, cell_later hb c1, cell_later hb c2, cell_later hb c3, cell_later hb c4, cell_later hb v0, cell_later hb v1, below_step hb0 hb⟩))
        clear hK K hHeld
        have hHeld := hHeld2
        clear hHeld2
        (try simp only [Act.put, List.setIfInBounds_toArray, List.set_cons_zero, List.set_cons_succ])
        refine wpAnyH_ready (rs := [5]) (by kernel_rfl) (by simp) ?_
        refine AllReadyH.cons (o := { dst := some 71, op := Go.Op.call { callee := Go.Callee.value (Go.Operand.func 17), args := #[Go.Operand.tmp 70], argTypes := #[24] }, type := 4, pos := _, after := #[{ on := 4, ground := Go.Ground.data }, { on := 3, ground := Go.Ground.chain }, { on := 1, ground := Go.Ground.guard }], guard := some (1, true) }) rfl (fun K hK => ?_) AllReadyH.nil
        (go_simp; (refine (y2 _).mono ?_); (rintro e wn ⟨rfl, hb⟩); go_wp2_with fail)
        refine hK.out _ _ ?hSr2_6_5 (fun hHeld2 => ?_)
        case hSr2_6_5 => (first | exact ⟨c0, c1, c2, c3, c4, v0, v1, hb0.drew⟩ | exact ⟨c0, c1, c2, c3, c4, v0, v1, hb0⟩ | (obtain ⟨c0, c1, c2, c3, c4, v0, v1, hb0⟩ := hHeld; exact ⟨cell_later hb c0, cell_later hb c1, cell_later hb c2, cell_later hb c3, cell_later hb c4, cell_later hb v0, cell_later hb v1, below_step hb0 hb⟩))
        clear hK K hHeld
        have hHeld := hHeld2
        clear hHeld2
        (try simp only [Act.put, List.setIfInBounds_toArray, List.set_cons_zero, List.set_cons_succ])
        refine wpAnyH_take (i := 6) (oi := { dst := some 72, op := Go.Op.binOp Go.BinOp.eql 4 (Go.Operand.tmp 69) (Go.Operand.tmp 71) 4, type := 4, pos := _, after := #[{ on := 3, ground := Go.Ground.data }, { on := 5, ground := Go.Ground.data }, { on := 1, ground := Go.Ground.guard }], guard := some (1, true) }) (v := ?vr2_7_6) rfl (by kernel_rfl) (by kernel_rfl) (by kernel_rfl) (fun _ _ _ h => h) (Or.inl ⟨by rfl, ?yr2_7_6⟩) hHeld ?_
        case yr2_7_6 => ((intro w hSw; (try dsimp only at hSw); go_simp) <;> with_reducible rfl)
        (try simp only [Act.put, List.setIfInBounds_toArray, List.set_cons_zero, List.set_cons_succ])
        refine wpAnyH_take (i := 7) (oi := { dst := some 73, op := Go.Op.pick (Go.Operand.tmp 67) (Go.Operand.tmp 72) (Go.Operand.const (Go.Value.bool false)), type := 4, pos := _, after := #[{ on := 1, ground := Go.Ground.data }, { on := 6, ground := Go.Ground.data }], guard := none }) (v := ?vr2_8_7) rfl (by kernel_rfl) (by kernel_rfl) (by kernel_rfl) (fun _ _ _ h => h) (Or.inl ⟨by rfl, ?yr2_8_7⟩) hHeld ?_
        case yr2_8_7 => ((intro w hSw; (try dsimp only at hSw); go_simp) <;> with_reducible rfl)
        (try simp only [Act.put, List.setIfInBounds_toArray, List.set_cons_zero, List.set_cons_succ])
        refine wpAnyH_take (i := 8) (oi := { dst := some 74, op := Go.Op.move (Go.Operand.tmp 73), type := 4, pos := _, after := #[{ on := 7, ground := Go.Ground.data }, { on := 5, ground := Go.Ground.chain }], guard := none }) (v := ?vr2_9_8) rfl (by kernel_rfl) (by kernel_rfl) (by kernel_rfl) (fun _ _ _ h => h) (Or.inl ⟨by rfl, ?yr2_9_8⟩) hHeld ?_
        case yr2_9_8 => ((intro w hSw; (try dsimp only at hSw); go_simp) <;> with_reducible rfl)
        (try simp only [Act.put, List.setIfInBounds_toArray, List.set_cons_zero, List.set_cons_succ])
        refine wpAnyH_take (i := 9) (oi := { dst := some 75, op := Go.Op.move (Go.Operand.tmp 4), type := 3, pos := _, after := #[{ on := 8, ground := Go.Ground.guard }], guard := some (8, true) }) (v := ?vr2_10_9) rfl (by kernel_rfl) (by kernel_rfl) (by kernel_rfl) (fun _ _ _ h => h) (Or.inl ⟨by rfl, ?yr2_10_9⟩) hHeld ?_
        case yr2_10_9 => ((intro w hSw; (try dsimp only at hSw); go_simp) <;> with_reducible rfl)
        (try simp only [Act.put, List.setIfInBounds_toArray, List.set_cons_zero, List.set_cons_succ])
        refine wpAnyH_take (i := 11) (oi := { dst := some 77, op := Go.Op.move (Go.Operand.tmp 4), type := 3, pos := _, after := #[{ on := 8, ground := Go.Ground.guard }], guard := some (8, true) }) (v := ?vr2_11_11) rfl (by kernel_rfl) (by kernel_rfl) (by kernel_rfl) (fun _ _ _ h => h) (Or.inl ⟨by rfl, ?yr2_11_11⟩) hHeld ?_
        case yr2_11_11 => ((intro w hSw; (try dsimp only at hSw); go_simp) <;> with_reducible rfl)
        (try simp only [Act.put, List.setIfInBounds_toArray, List.set_cons_zero, List.set_cons_succ])
        refine wpAnyH_ready (rs := [10]) (by kernel_rfl) (by simp) ?_
        refine AllReadyH.cons (o := { dst := some 76, op := Go.Op.call { callee := Go.Callee.value (Go.Operand.func 20), args := #[Go.Operand.tmp 75], argTypes := #[3] }, type := 3, pos := _, after := #[{ on := 9, ground := Go.Ground.data }, { on := 8, ground := Go.Ground.chain }, { on := 8, ground := Go.Ground.guard }], guard := some (8, true) }) rfl (fun K hK => ?_) AllReadyH.nil
        (go_simp; (refine (y3 _).mono ?_); (rintro e wn ⟨rfl, hb⟩); go_wp2_with fail)
        refine hK.out _ _ ?hSr2_12_10 (fun hHeld2 => ?_)
        case hSr2_12_10 => (first | exact ⟨c0, c1, c2, c3, c4, v0, v1, hb0.drew⟩ | exact ⟨c0, c1, c2, c3, c4, v0, v1, hb0⟩ | (obtain ⟨c0, c1, c2, c3, c4, v0, v1, hb0⟩ := hHeld; exact ⟨cell_later hb c0, cell_later hb c1, cell_later hb c2, cell_later hb c3, cell_later hb c4, cell_later hb v0, cell_later hb v1, below_step hb0 hb⟩))
        clear hK K hHeld
        have hHeld := hHeld2
        clear hHeld2
        (try simp only [Act.put, List.setIfInBounds_toArray, List.set_cons_zero, List.set_cons_succ])
        refine wpAnyH_ready (rs := [12]) (by kernel_rfl) (by simp) ?_
        refine AllReadyH.cons (o := { dst := some 78, op := Go.Op.call { callee := Go.Callee.value (Go.Operand.func 21), args := #[Go.Operand.tmp 77], argTypes := #[3] }, type := 3, pos := _, after := #[{ on := 11, ground := Go.Ground.data }, { on := 10, ground := Go.Ground.chain }, { on := 8, ground := Go.Ground.guard }], guard := some (8, true) }) rfl (fun K hK => ?_) AllReadyH.nil
        (go_simp; (refine (y4 _).mono ?_); (rintro e wn ⟨rfl, hb⟩); go_wp2_with fail)
        refine hK.out _ _ ?hSr2_13_12 (fun hHeld2 => ?_)
        case hSr2_13_12 => (first | exact ⟨c0, c1, c2, c3, c4, v0, v1, hb0.drew⟩ | exact ⟨c0, c1, c2, c3, c4, v0, v1, hb0⟩ | (obtain ⟨c0, c1, c2, c3, c4, v0, v1, hb0⟩ := hHeld; exact ⟨cell_later hb c0, cell_later hb c1, cell_later hb c2, cell_later hb c3, cell_later hb c4, cell_later hb v0, cell_later hb v1, below_step hb0 hb⟩))
        clear hK K hHeld
        have hHeld := hHeld2
        clear hHeld2
        (try simp only [Act.put, List.setIfInBounds_toArray, List.set_cons_zero, List.set_cons_succ])
        refine wpAnyH_take (i := 13) (oi := { dst := some 79, op := Go.Op.binOp Go.BinOp.eql 3 (Go.Operand.tmp 76) (Go.Operand.tmp 78) 3, type := 4, pos := _, after := #[{ on := 10, ground := Go.Ground.data }, { on := 12, ground := Go.Ground.data }, { on := 8, ground := Go.Ground.guard }], guard := some (8, true) }) (v := ?vr2_14_13) rfl (by kernel_rfl) (by kernel_rfl) (by kernel_rfl) (fun _ _ _ h => h) (Or.inl ⟨by rfl, ?yr2_14_13⟩) hHeld ?_
        case yr2_14_13 => ((intro w hSw; (try dsimp only at hSw); go_simp) <;> with_reducible rfl)
        (try simp only [Act.put, List.setIfInBounds_toArray, List.set_cons_zero, List.set_cons_succ])
        refine wpAnyH_take (i := 14) (oi := { dst := some 80, op := Go.Op.pick (Go.Operand.tmp 74) (Go.Operand.tmp 79) (Go.Operand.const (Go.Value.bool false)), type := 4, pos := _, after := #[{ on := 8, ground := Go.Ground.data }, { on := 13, ground := Go.Ground.data }], guard := none }) (v := ?vr2_15_14) rfl (by kernel_rfl) (by kernel_rfl) (by kernel_rfl) (fun _ _ _ h => h) (Or.inl ⟨by rfl, ?yr2_15_14⟩) hHeld ?_
        case yr2_15_14 => ((intro w hSw; (try dsimp only at hSw); go_simp) <;> with_reducible rfl)
        (try simp only [Act.put, List.setIfInBounds_toArray, List.set_cons_zero, List.set_cons_succ])
        refine wpAnyH_take (i := 15) (oi := { dst := some 81, op := Go.Op.move (Go.Operand.tmp 80), type := 4, pos := _, after := #[{ on := 14, ground := Go.Ground.data }, { on := 12, ground := Go.Ground.chain }], guard := none }) (v := ?vr2_16_15) rfl (by kernel_rfl) (by kernel_rfl) (by kernel_rfl) (fun _ _ _ h => h) (Or.inl ⟨by rfl, ?yr2_16_15⟩) hHeld ?_
        case yr2_16_15 => ((intro w hSw; (try dsimp only at hSw); go_simp) <;> with_reducible rfl)
        (try simp only [Act.put, List.setIfInBounds_toArray, List.set_cons_zero, List.set_cons_succ])
        refine wpAnyH_take (i := 16) (oi := { dst := some 82, op := Go.Op.move (Go.Operand.tmp 4), type := 3, pos := _, after := #[{ on := 15, ground := Go.Ground.guard }], guard := some (15, true) }) (v := ?vr2_17_16) rfl (by kernel_rfl) (by kernel_rfl) (by kernel_rfl) (fun _ _ _ h => h) (Or.inl ⟨by rfl, ?yr2_17_16⟩) hHeld ?_
        case yr2_17_16 => ((intro w hSw; (try dsimp only at hSw); go_simp) <;> with_reducible rfl)
        (try simp only [Act.put, List.setIfInBounds_toArray, List.set_cons_zero, List.set_cons_succ])
        refine wpAnyH_take (i := 18) (oi := { dst := some 84, op := Go.Op.move (Go.Operand.tmp 4), type := 3, pos := _, after := #[{ on := 15, ground := Go.Ground.guard }], guard := some (15, true) }) (v := ?vr2_18_18) rfl (by kernel_rfl) (by kernel_rfl) (by kernel_rfl) (fun _ _ _ h => h) (Or.inl ⟨by rfl, ?yr2_18_18⟩) hHeld ?_
        case yr2_18_18 => ((intro w hSw; (try dsimp only at hSw); go_simp) <;> with_reducible rfl)
        (try simp only [Act.put, List.setIfInBounds_toArray, List.set_cons_zero, List.set_cons_succ])
        refine wpAnyH_ready (rs := [17]) (by kernel_rfl) (by simp) ?_
        refine AllReadyH.cons (o := { dst := some 83, op := Go.Op.call { callee := Go.Callee.value (Go.Operand.func 22), args := #[Go.Operand.tmp 82], argTypes := #[3] }, type := 24, pos := _, after := #[{ on := 16, ground := Go.Ground.data }, { on := 15, ground := Go.Ground.chain }, { on := 15, ground := Go.Ground.guard }], guard := some (15, true) }) rfl (fun K hK => ?_) AllReadyH.nil
        (go_simp; (refine (y5 _).mono ?_); (rintro e wn ⟨rfl, hb⟩); go_wp2_with fail)
        refine hK.out _ _ ?hSr2_19_17 (fun hHeld2 => ?_)
        case hSr2_19_17 => (first | exact ⟨c0, c1, c2, c3, c4, v0, v1, hb0.drew⟩ | exact ⟨c0, c1, c2, c3, c4, v0, v1, hb0⟩ | (obtain ⟨c0, c1, c2, c3, c4, v0, v1, hb0⟩ := hHeld; exact ⟨cell_later hb c0, cell_later hb c1, cell_later hb c2, cell_later hb c3, cell_later hb c4, cell_later hb v0, cell_later hb v1, below_step hb0 hb⟩))
        clear hK K hHeld
        have hHeld := hHeld2
        clear hHeld2
        (try simp only [Act.put, List.setIfInBounds_toArray, List.set_cons_zero, List.set_cons_succ])
        refine wpAnyH_ready (rs := [19]) (by kernel_rfl) (by simp) ?_
        refine AllReadyH.cons (o := { dst := some 85, op := Go.Op.call { callee := Go.Callee.value (Go.Operand.func 23), args := #[Go.Operand.tmp 84], argTypes := #[3] }, type := 24, pos := _, after := #[{ on := 18, ground := Go.Ground.data }, { on := 17, ground := Go.Ground.chain }, { on := 15, ground := Go.Ground.guard }], guard := some (15, true) }) rfl (fun K hK => ?_) AllReadyH.nil
        (go_simp; (refine (y6 _).mono ?_); (rintro e wn ⟨rfl, hb⟩); go_wp2_with fail)
        refine hK.out _ _ ?hSr2_20_19 (fun hHeld2 => ?_)
        case hSr2_20_19 => (first | exact ⟨c0, c1, c2, c3, c4, v0, v1, hb0.drew⟩ | exact ⟨c0, c1, c2, c3, c4, v0, v1, hb0⟩ | (obtain ⟨c0, c1, c2, c3, c4, v0, v1, hb0⟩ := hHeld; exact ⟨cell_later hb c0, cell_later hb c1, cell_later hb c2, cell_later hb c3, cell_later hb c4, cell_later hb v0, cell_later hb v1, below_step hb0 hb⟩))
        clear hK K hHeld
        have hHeld := hHeld2
        clear hHeld2
        (try simp only [Act.put, List.setIfInBounds_toArray, List.set_cons_zero, List.set_cons_succ])
        refine wpAnyH_take (i := 20) (oi := { dst := some 86, op := Go.Op.binOp Go.BinOp.eql 24 (Go.Operand.tmp 83) (Go.Operand.tmp 85) 24, type := 4, pos := _, after := #[{ on := 17, ground := Go.Ground.data }, { on := 19, ground := Go.Ground.data }, { on := 15, ground := Go.Ground.guard }], guard := some (15, true) }) (v := ?vr2_21_20) rfl (by kernel_rfl) (by kernel_rfl) (by kernel_rfl) (fun _ _ _ h => h) (Or.inl ⟨by rfl, ?yr2_21_20⟩) hHeld ?_
        case yr2_21_20 => ((intro w hSw; (try dsimp only at hSw); go_simp) <;> with_reducible rfl)
        (try simp only [Act.put, List.setIfInBounds_toArray, List.set_cons_zero, List.set_cons_succ])
        refine wpAnyH_take (i := 21) (oi := { dst := some 87, op := Go.Op.pick (Go.Operand.tmp 81) (Go.Operand.tmp 86) (Go.Operand.const (Go.Value.bool false)), type := 4, pos := _, after := #[{ on := 15, ground := Go.Ground.data }, { on := 20, ground := Go.Ground.data }], guard := none }) (v := ?vr2_22_21) rfl (by kernel_rfl) (by kernel_rfl) (by kernel_rfl) (fun _ _ _ h => h) (Or.inl ⟨by rfl, ?yr2_22_21⟩) hHeld ?_
        case yr2_22_21 => ((intro w hSw; (try dsimp only at hSw); go_simp) <;> with_reducible rfl)
        (try simp only [Act.put, List.setIfInBounds_toArray, List.set_cons_zero, List.set_cons_succ])
        refine wpAnyH_take (i := 22) (oi := { dst := some 88, op := Go.Op.move (Go.Operand.tmp 87), type := 4, pos := _, after := #[{ on := 21, ground := Go.Ground.data }, { on := 19, ground := Go.Ground.chain }], guard := none }) (v := ?vr2_23_22) rfl (by kernel_rfl) (by kernel_rfl) (by kernel_rfl) (fun _ _ _ h => h) (Or.inl ⟨by rfl, ?yr2_23_22⟩) hHeld ?_
        case yr2_23_22 => ((intro w hSw; (try dsimp only at hSw); go_simp) <;> with_reducible rfl)
        (try simp only [Act.put, List.setIfInBounds_toArray, List.set_cons_zero, List.set_cons_succ])
        refine wpAnyH_take (i := 23) (oi := { dst := some 89, op := Go.Op.move (Go.Operand.tmp 1), type := 25, pos := _, after := #[{ on := 22, ground := Go.Ground.guard }], guard := some (22, true) }) (v := ?vr2_24_23) rfl (by kernel_rfl) (by kernel_rfl) (by kernel_rfl) (fun _ _ _ h => h) (Or.inl ⟨by rfl, ?yr2_24_23⟩) hHeld ?_
        case yr2_24_23 => ((intro w hSw; (try dsimp only at hSw); go_simp) <;> with_reducible rfl)
        (try simp only [Act.put, List.setIfInBounds_toArray, List.set_cons_zero, List.set_cons_succ])
        refine wpAnyH_take (i := 25) (oi := { dst := some 91, op := Go.Op.move (Go.Operand.tmp 1), type := 25, pos := _, after := #[{ on := 22, ground := Go.Ground.guard }], guard := some (22, true) }) (v := ?vr2_25_25) rfl (by kernel_rfl) (by kernel_rfl) (by kernel_rfl) (fun _ _ _ h => h) (Or.inl ⟨by rfl, ?yr2_25_25⟩) hHeld ?_
        case yr2_25_25 => ((intro w hSw; (try dsimp only at hSw); go_simp) <;> with_reducible rfl)
        (try simp only [Act.put, List.setIfInBounds_toArray, List.set_cons_zero, List.set_cons_succ])
        refine wpAnyH_ready (rs := [24]) (by kernel_rfl) (by simp) ?_
        refine AllReadyH.cons (o := { dst := some 90, op := Go.Op.call { callee := Go.Callee.value (Go.Operand.func 24), args := #[Go.Operand.tmp 89], argTypes := #[25] }, type := 24, pos := _, after := #[{ on := 23, ground := Go.Ground.data }, { on := 22, ground := Go.Ground.chain }, { on := 22, ground := Go.Ground.guard }], guard := some (22, true) }) rfl (fun K hK => ?_) AllReadyH.nil
        (go_simp; (refine (y7 _).mono ?_); (rintro e wn ⟨rfl, hb⟩); go_wp2_with fail)
        refine hK.out _ _ ?hSr2_26_24 (fun hHeld2 => ?_)
        case hSr2_26_24 => (first | exact ⟨c0, c1, c2, c3, c4, v0, v1, hb0.drew⟩ | exact ⟨c0, c1, c2, c3, c4, v0, v1, hb0⟩ | (obtain ⟨c0, c1, c2, c3, c4, v0, v1, hb0⟩ := hHeld; exact ⟨cell_later hb c0, cell_later hb c1, cell_later hb c2, cell_later hb c3, cell_later hb c4, cell_later hb v0, cell_later hb v1, below_step hb0 hb⟩))
        clear hK K hHeld
        have hHeld := hHeld2
        clear hHeld2
        (try simp only [Act.put, List.setIfInBounds_toArray, List.set_cons_zero, List.set_cons_succ])
        refine wpAnyH_ready (rs := [26]) (by kernel_rfl) (by simp) ?_
        refine AllReadyH.cons (o := { dst := some 92, op := Go.Op.call { callee := Go.Callee.value (Go.Operand.func 25), args := #[Go.Operand.tmp 91], argTypes := #[25] }, type := 24, pos := _, after := #[{ on := 25, ground := Go.Ground.data }, { on := 24, ground := Go.Ground.chain }, { on := 22, ground := Go.Ground.guard }], guard := some (22, true) }) rfl (fun K hK => ?_) AllReadyH.nil
        (go_simp; (refine (y8 _).mono ?_); (rintro e wn ⟨rfl, hb⟩); go_wp2_with fail)
        refine hK.out _ _ ?hSr2_27_26 (fun hHeld2 => ?_)
        case hSr2_27_26 => (first | exact ⟨c0, c1, c2, c3, c4, v0, v1, hb0.drew⟩ | exact ⟨c0, c1, c2, c3, c4, v0, v1, hb0⟩ | (obtain ⟨c0, c1, c2, c3, c4, v0, v1, hb0⟩ := hHeld; exact ⟨cell_later hb c0, cell_later hb c1, cell_later hb c2, cell_later hb c3, cell_later hb c4, cell_later hb v0, cell_later hb v1, below_step hb0 hb⟩))
        clear hK K hHeld
        have hHeld := hHeld2
        clear hHeld2
        (try simp only [Act.put, List.setIfInBounds_toArray, List.set_cons_zero, List.set_cons_succ])
        refine wpAnyH_take (i := 27) (oi := { dst := some 93, op := Go.Op.binOp Go.BinOp.eql 24 (Go.Operand.tmp 90) (Go.Operand.tmp 92) 24, type := 4, pos := _, after := #[{ on := 24, ground := Go.Ground.data }, { on := 26, ground := Go.Ground.data }, { on := 22, ground := Go.Ground.guard }], guard := some (22, true) }) (v := ?vr2_28_27) rfl (by kernel_rfl) (by kernel_rfl) (by kernel_rfl) (fun _ _ _ h => h) (Or.inl ⟨by rfl, ?yr2_28_27⟩) hHeld ?_
        case yr2_28_27 => ((intro w hSw; (try dsimp only at hSw); go_simp) <;> with_reducible rfl)
        (try simp only [Act.put, List.setIfInBounds_toArray, List.set_cons_zero, List.set_cons_succ])
        refine wpAnyH_take (i := 28) (oi := { dst := some 94, op := Go.Op.pick (Go.Operand.tmp 88) (Go.Operand.tmp 93) (Go.Operand.const (Go.Value.bool false)), type := 4, pos := _, after := #[{ on := 22, ground := Go.Ground.data }, { on := 27, ground := Go.Ground.data }], guard := none }) (v := ?vr2_29_28) rfl (by kernel_rfl) (by kernel_rfl) (by kernel_rfl) (fun _ _ _ h => h) (Or.inl ⟨by rfl, ?yr2_29_28⟩) hHeld ?_
        case yr2_29_28 => ((intro w hSw; (try dsimp only at hSw); go_simp) <;> with_reducible rfl)
        (try simp only [Act.put, List.setIfInBounds_toArray, List.set_cons_zero, List.set_cons_succ])
        refine wpAnyH_take (i := 29) (oi := { dst := some 95, op := Go.Op.move (Go.Operand.tmp 94), type := 4, pos := _, after := #[{ on := 28, ground := Go.Ground.data }, { on := 26, ground := Go.Ground.chain }], guard := none }) (v := ?vr2_30_29) rfl (by kernel_rfl) (by kernel_rfl) (by kernel_rfl) (fun _ _ _ h => h) (Or.inl ⟨by rfl, ?yr2_30_29⟩) hHeld ?_
        case yr2_30_29 => ((intro w hSw; (try dsimp only at hSw); go_simp) <;> with_reducible rfl)
        (try simp only [Act.put, List.setIfInBounds_toArray, List.set_cons_zero, List.set_cons_succ])
        refine wpAnyH_take (i := 30) (oi := { dst := some 96, op := Go.Op.load 27 (Go.Operand.tmp 7), type := 27, pos := _, after := #[{ on := 29, ground := Go.Ground.guard }], guard := some (29, true) }) (v := ?vr2_31_30) rfl (by kernel_rfl) (by kernel_rfl) (by kernel_rfl) (fun _ _ _ h => h) (Or.inl ⟨by rfl, ?yr2_31_30⟩) hHeld ?_
        case yr2_31_30 => ((intro w hSw; (try dsimp only at hSw); go_simp) <;> with_reducible rfl)
        (try simp only [Act.put, List.setIfInBounds_toArray, List.set_cons_zero, List.set_cons_succ])
        refine wpAnyH_take (i := 32) (oi := { dst := some 98, op := Go.Op.fieldAddr 27 (Go.Operand.tmp 7) 0, type := 0, pos := _, after := #[{ on := 29, ground := Go.Ground.guard }], guard := some (29, true) }) (v := ?vr2_32_32) rfl (by kernel_rfl) (by kernel_rfl) (by kernel_rfl) (fun _ _ _ h => h) (Or.inl ⟨by rfl, ?yr2_32_32⟩) hHeld ?_
        case yr2_32_32 => ((intro w hSw; (try dsimp only at hSw); go_simp) <;> with_reducible rfl)
        (try simp only [Act.put, List.setIfInBounds_toArray, List.set_cons_zero, List.set_cons_succ])
        refine wpAnyH_take (i := 33) (oi := { dst := some 99, op := Go.Op.load 22 (Go.Operand.tmp 98), type := 22, pos := _, after := #[{ on := 32, ground := Go.Ground.data }, { on := 29, ground := Go.Ground.guard }], guard := some (29, true) }) (v := ?vr2_33_33) rfl (by kernel_rfl) (by kernel_rfl) (by kernel_rfl) (fun _ _ _ h => h) (Or.inl ⟨by rfl, ?yr2_33_33⟩) hHeld ?_
        case yr2_33_33 => ((intro w hSw; (try dsimp only at hSw); go_simp) <;> with_reducible rfl)
        (try simp only [Act.put, List.setIfInBounds_toArray, List.set_cons_zero, List.set_cons_succ])
        refine wpAnyH_take (i := 34) (oi := { dst := some 100, op := Go.Op.fieldAddr 27 (Go.Operand.tmp 7) 1, type := 0, pos := _, after := #[{ on := 29, ground := Go.Ground.guard }], guard := some (29, true) }) (v := ?vr2_34_34) rfl (by kernel_rfl) (by kernel_rfl) (by kernel_rfl) (fun _ _ _ h => h) (Or.inl ⟨by rfl, ?yr2_34_34⟩) hHeld ?_
        case yr2_34_34 => ((intro w hSw; (try dsimp only at hSw); go_simp) <;> with_reducible rfl)
        (try simp only [Act.put, List.setIfInBounds_toArray, List.set_cons_zero, List.set_cons_succ])
        refine wpAnyH_take (i := 35) (oi := { dst := some 101, op := Go.Op.load 22 (Go.Operand.tmp 100), type := 22, pos := _, after := #[{ on := 34, ground := Go.Ground.data }, { on := 29, ground := Go.Ground.guard }], guard := some (29, true) }) (v := ?vr2_35_35) rfl (by kernel_rfl) (by kernel_rfl) (by kernel_rfl) (fun _ _ _ h => h) (Or.inl ⟨by rfl, ?yr2_35_35⟩) hHeld ?_
        case yr2_35_35 => ((intro w hSw; (try dsimp only at hSw); go_simp) <;> with_reducible rfl)
        (try simp only [Act.put, List.setIfInBounds_toArray, List.set_cons_zero, List.set_cons_succ])
        refine wpAnyH_ready (rs := [31]) (by kernel_rfl) (by simp) ?_
        refine AllReadyH.cons (o := { dst := some 97, op := Go.Op.call { callee := Go.Callee.value (Go.Operand.func 26), args := #[Go.Operand.tmp 96], argTypes := #[27] }, type := 24, pos := _, after := #[{ on := 30, ground := Go.Ground.data }, { on := 29, ground := Go.Ground.chain }, { on := 29, ground := Go.Ground.guard }], guard := some (29, true) }) rfl (fun K hK => ?_) AllReadyH.nil
        (go_simp; (refine (y9 _).mono ?_); (rintro e wn ⟨rfl, hb⟩); go_wp2_with fail)
        refine hK.out _ _ ?hSr2_36_31 (fun hHeld2 => ?_)
        case hSr2_36_31 => (first | exact ⟨c0, c1, c2, c3, c4, v0, v1, hb0.drew⟩ | exact ⟨c0, c1, c2, c3, c4, v0, v1, hb0⟩ | (obtain ⟨c0, c1, c2, c3, c4, v0, v1, hb0⟩ := hHeld; exact ⟨cell_later hb c0, cell_later hb c1, cell_later hb c2, cell_later hb c3, cell_later hb c4, cell_later hb v0, cell_later hb v1, below_step hb0 hb⟩))
        clear hK K hHeld
        have hHeld := hHeld2
        clear hHeld2
        (try simp only [Act.put, List.setIfInBounds_toArray, List.set_cons_zero, List.set_cons_succ])
        refine wpAnyH_ready (rs := [36]) (by kernel_rfl) (by simp) ?_
        refine AllReadyH.cons (o := { dst := some 102, op := Go.Op.call { callee := Go.Callee.value (Go.Operand.func 27), args := #[Go.Operand.tmp 99, Go.Operand.tmp 101], argTypes := #[22, 22] }, type := 24, pos := _, after := #[{ on := 33, ground := Go.Ground.data }, { on := 35, ground := Go.Ground.data }, { on := 31, ground := Go.Ground.chain }, { on := 29, ground := Go.Ground.guard }], guard := some (29, true) }) rfl (fun K hK => ?_) AllReadyH.nil
        (go_simp; (refine (y10 _).mono ?_); (rintro e wn ⟨rfl, hb⟩); go_wp2_with fail)
        refine hK.out _ _ ?hSr2_37_36 (fun hHeld2 => ?_)
        case hSr2_37_36 => (first | exact ⟨c0, c1, c2, c3, c4, v0, v1, hb0.drew⟩ | exact ⟨c0, c1, c2, c3, c4, v0, v1, hb0⟩ | (obtain ⟨c0, c1, c2, c3, c4, v0, v1, hb0⟩ := hHeld; exact ⟨cell_later hb c0, cell_later hb c1, cell_later hb c2, cell_later hb c3, cell_later hb c4, cell_later hb v0, cell_later hb v1, below_step hb0 hb⟩))
        clear hK K hHeld
        have hHeld := hHeld2
        clear hHeld2
        (try simp only [Act.put, List.setIfInBounds_toArray, List.set_cons_zero, List.set_cons_succ])
        refine wpAnyH_take (i := 37) (oi := { dst := some 103, op := Go.Op.binOp Go.BinOp.eql 24 (Go.Operand.tmp 97) (Go.Operand.tmp 102) 24, type := 4, pos := _, after := #[{ on := 31, ground := Go.Ground.data }, { on := 36, ground := Go.Ground.data }, { on := 29, ground := Go.Ground.guard }], guard := some (29, true) }) (v := ?vr2_38_37) rfl (by kernel_rfl) (by kernel_rfl) (by kernel_rfl) (fun _ _ _ h => h) (Or.inl ⟨by rfl, ?yr2_38_37⟩) hHeld ?_
        case yr2_38_37 => ((intro w hSw; (try dsimp only at hSw); go_simp) <;> with_reducible rfl)
        (try simp only [Act.put, List.setIfInBounds_toArray, List.set_cons_zero, List.set_cons_succ])
        refine wpAnyH_take (i := 38) (oi := { dst := some 104, op := Go.Op.pick (Go.Operand.tmp 95) (Go.Operand.tmp 103) (Go.Operand.const (Go.Value.bool false)), type := 4, pos := _, after := #[{ on := 29, ground := Go.Ground.data }, { on := 37, ground := Go.Ground.data }], guard := none }) (v := ?vr2_39_38) rfl (by kernel_rfl) (by kernel_rfl) (by kernel_rfl) (fun _ _ _ h => h) (Or.inl ⟨by rfl, ?yr2_39_38⟩) hHeld ?_
        case yr2_39_38 => ((intro w hSw; (try dsimp only at hSw); go_simp) <;> with_reducible rfl)
        (try simp only [Act.put, List.setIfInBounds_toArray, List.set_cons_zero, List.set_cons_succ])
        refine wpAnyH_take (i := 39) (oi := { dst := some 10, op := Go.Op.assign (Go.Operand.tmp 104), type := 4, pos := _, after := #[{ on := 38, ground := Go.Ground.data }, { on := 36, ground := Go.Ground.chain }, { on := 0, ground := Go.Ground.phase }, { on := 1, ground := Go.Ground.phase }, { on := 2, ground := Go.Ground.phase }, { on := 3, ground := Go.Ground.phase }, { on := 4, ground := Go.Ground.phase }, { on := 5, ground := Go.Ground.phase }, { on := 6, ground := Go.Ground.phase }, { on := 7, ground := Go.Ground.phase }, { on := 8, ground := Go.Ground.phase }, { on := 9, ground := Go.Ground.phase }, { on := 10, ground := Go.Ground.phase }, { on := 11, ground := Go.Ground.phase }, { on := 12, ground := Go.Ground.phase }, { on := 13, ground := Go.Ground.phase }, { on := 14, ground := Go.Ground.phase }, { on := 15, ground := Go.Ground.phase }, { on := 16, ground := Go.Ground.phase }, { on := 17, ground := Go.Ground.phase }, { on := 18, ground := Go.Ground.phase }, { on := 19, ground := Go.Ground.phase }, { on := 20, ground := Go.Ground.phase }, { on := 21, ground := Go.Ground.phase }, { on := 22, ground := Go.Ground.phase }, { on := 23, ground := Go.Ground.phase }, { on := 24, ground := Go.Ground.phase }, { on := 25, ground := Go.Ground.phase }, { on := 26, ground := Go.Ground.phase }, { on := 27, ground := Go.Ground.phase }, { on := 28, ground := Go.Ground.phase }, { on := 29, ground := Go.Ground.phase }, { on := 30, ground := Go.Ground.phase }, { on := 31, ground := Go.Ground.phase }, { on := 32, ground := Go.Ground.phase }, { on := 33, ground := Go.Ground.phase }, { on := 34, ground := Go.Ground.phase }, { on := 35, ground := Go.Ground.phase }, { on := 36, ground := Go.Ground.phase }, { on := 37, ground := Go.Ground.phase }, { on := 38, ground := Go.Ground.phase }], guard := none }) (v := ?vr2_40_39) rfl (by kernel_rfl) (by kernel_rfl) (by kernel_rfl) (fun _ _ _ h => h) (Or.inl ⟨by rfl, ?yr2_40_39⟩) hHeld ?_
        case yr2_40_39 => ((intro w hSw; (try dsimp only at hSw); go_simp) <;> with_reducible rfl)
        (try simp only [Act.put, List.setIfInBounds_toArray, List.set_cons_zero, List.set_cons_succ])
        refine wpAnyH_done (by kernel_rfl) ?_ _
        clear c0 c1 c2 c3 c4 v0 v1 hb0
        obtain ⟨c0, c1, c2, c3, c4, v0, v1, hb0⟩ := hHeld
        go_wp2
        go_ret
        exact ⟨rfl, hb0⟩
end Go.Proofs.Ytekoicbjpoeijaa
