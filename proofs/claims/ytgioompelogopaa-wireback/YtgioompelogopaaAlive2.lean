/- alive of layer 2 answers true. No conditions. -/
import Derived.Test.YtgioompelogopaaRead
namespace Go.Proofs.Ytgioompelogopaa
set_option linter.unusedVariables false
set_option linter.unusedSimpArgs false
open Go.RowKit
theorem BS.takeC {w : World} {pp : Option Addr} {c : Nat} {l : List Int} (h : BS w (.slice pp l.length c) l) (n : Nat) (hn : n ≤ l.length) : BS w (.slice pp n c) (l.take n) := by
  obtain ⟨pp', c', he, h1, h2, h3, h4, h6⟩ := h
  cases he
  have hl : (l.take n).length = n := by rw [List.length_take]; omega
  refine ⟨pp, c, by rw [hl], by omega, by omega, fun h0 => ?_, fun x hx => h4 x (List.mem_of_mem_take hx), h6⟩
  obtain ⟨g, o, hp, h5⟩ := h3 (by omega)
  refine ⟨g, o, hp, fun j x hx => h5 j x ?_⟩
  rw [List.getElem?_take] at hx
  split at hx
  · exact hx
  · cases hx
def L23 : List Int := [1, 2, 0, 2, 97, 98, 0, 0, 0, 0, 0, 0, 0, 0, 0, 0, 0, 0, 0, 0, 0, 7, 9]
def L21 : List Int := [0, 2, 97, 98, 0, 0, 0, 0, 0, 0, 0, 0, 0, 0, 0, 0, 0, 0, 0, 7, 9]
def L17 : List Int := [0, 0, 0, 0, 0, 0, 0, 0, 0, 0, 0, 0, 0, 0, 0, 7, 9]
theorem L23_is : [] ++ numB 258 2 ++ textB ⟨#[97, 98]⟩ ++ numB 0 8 ++ numB 7 8 ++ [9] = L23 := by decide +kernel
theorem new_wr (w : World) : Wr w.heap.size (w.alloc (.cells #[.pointer none, .int .i64 0] 55)) w.heap.size [] (fun k => k = w.heap.size) :=
  ⟨Nat.le_refl _, rfl, .inl ⟨Row.new w _ _, rfl⟩⟩
theorem one_bs (w : World) (x : Int) (hx : Byte x) (t : TypeId) : BS (w.alloc (.cells #[.int .u8 x] t)) (.slice (some ⟨w.heap.size, 0, none⟩) 1 1) [x] := by
  refine ⟨_, 1, rfl, Nat.le_refl _, by decide, fun _ => ⟨_, 0, rfl, fun j y hy => ?_⟩, fun y hy => by simp at hy; rw [hy]; exact hx, fun h => by cases h⟩
  rcases j with _ | j
  · simp at hy; subst hy; exact (Row.new w _ t).cell 0
  · simp at hy
theorem wr_step {base : Nat} {w w1 w2 : World} {F F' : Nat → Prop} (hb : Below base w w1) (hs : base ≤ w1.heap.size) (hF : ∀ k, F k → base ≤ k) (hk : Keeps F w1 w2) (hF' : ∀ k, F' k → F k ∨ w1.heap.size ≤ k) : Below base w w2 ∧ (∀ k, F' k → base ≤ k) ∧ base ≤ w2.heap.size :=
  ⟨hb.trans (hk.below base hs hF), fun k h => (hF' k h).elim (hF k) (fun h => Nat.le_trans hs h), Nat.le_trans hs hk.size⟩
theorem st_step {base : Nat} {w w1 w2 : World} {x : Value} (hb : Below base w w1) (hs : base ≤ w1.heap.size) (hF : ∀ k, atP x k → base ≤ k) (hk : Keeps (atP x) w1 w2) : Below base w w2 ∧ base ≤ w2.heap.size :=
  ⟨hb.trans (hk.below base hs hF), Nat.le_trans hs hk.size⟩
set_option maxRecDepth 100000 in
set_option maxHeartbeats 3200000 in
theorem alive2_t (w : World) : Calls Try.prog 38 #[] w fun e w' => e = .returned (.bool true) ∧ Below w.heap.size w w' := by
  have hW0 := new_wr w
  have hB0 : Below w.heap.size w (w.alloc (.cells #[.pointer none, .int .i64 0] 55)) := (by repeat (first | exact Below.refl _ _ | assumption | (with_reducible refine Below.setCell ?_ ?h _; case h => first | omega | (simp; done) | (simp; omega)) | (with_reducible refine Below.alloc ?_ ?h _; case h => first | omega | (simp; done) | (simp; omega)) | (with_reducible refine Below.drew ?_) | (with_reducible refine Below.trans ?_ (hb4.mono ?h); case h => first | omega | (simp; done) | (simp; omega)) | (with_reducible refine Below.trans ?_ (hb3.mono ?h); case h => first | omega | (simp; done) | (simp; omega)) | (with_reducible refine Below.trans ?_ (hb2.mono ?h); case h => first | omega | (simp; done) | (simp; omega)) | (with_reducible refine Below.trans ?_ (hb.mono ?h); case h => first | omega | (simp; done) | (simp; omega)) | (with_reducible refine Below.trans ?_ (hb0.mono ?h); case h => first | omega | (simp; done) | (simp; omega))))
  generalize hB : w.heap.size = B at *
  go_enter Try.func38, Try.ntmps38
  go_wp2_with fail
  have hs0 : B ≤ (w.alloc (.cells #[.pointer none, .int .i64 0] 55)).heap.size := by rw [← hB]; exact hB0.size
  generalize w.alloc (.cells #[.pointer none, .int .i64 0] 55) = w0 at *
  refine (num_t B B [] 258 2 ⟨by decide, by decide⟩ w0 _ hW0 (by decide) hs0).mono ?_
  rintro e w1 ⟨rfl, F1, hW1, hF1, hK1⟩
  obtain ⟨hB1, hG1, hs1⟩ := wr_step hB0 hs0 (fun k h => by omega) hK1 hF1
  go_wp2_with fail
  refine (text_t B B _ ⟨#[97, 98]⟩ w1 F1 hW1 (by decide) hs1).mono ?_
  rintro e w2 ⟨rfl, F2, hW2, hF2, hK2⟩
  obtain ⟨hB2, hG2, hs2⟩ := wr_step hB1 hs1 hG1 hK2 hF2
  go_wp2_with fail
  refine (of_any 7 w2).mono ?_
  rintro e w3 ⟨rfl, hb3⟩
  have hB3 := hB2.trans (hb3.mono hs2)
  have hs3 := Nat.le_trans hs2 hb3.size
  go_wp2_with fail
  refine (wide_t B B _ 0 7 ⟨by decide, by decide⟩ ⟨by decide, by decide⟩ w3 F2 (hW2.later hb3) (by decide +kernel) hs3).mono ?_
  rintro e w4 ⟨rfl, F4, hW4, hF4, hK4⟩
  obtain ⟨hB4, hG4, hs4⟩ := wr_step hB3 hs3 hG2 hK4 hF4
  go_wp2_with fail
  have hb5 : Below w4.heap.size w4 (w4.alloc (.cells #[.int .u8 9] 5)) := (by repeat (first | exact Below.refl _ _ | assumption | (with_reducible refine Below.setCell ?_ ?h _; case h => first | omega | (simp; done) | (simp; omega)) | (with_reducible refine Below.alloc ?_ ?h _; case h => first | omega | (simp; done) | (simp; omega)) | (with_reducible refine Below.drew ?_) | (with_reducible refine Below.trans ?_ (hb4.mono ?h); case h => first | omega | (simp; done) | (simp; omega)) | (with_reducible refine Below.trans ?_ (hb3.mono ?h); case h => first | omega | (simp; done) | (simp; omega)) | (with_reducible refine Below.trans ?_ (hb2.mono ?h); case h => first | omega | (simp; done) | (simp; omega)) | (with_reducible refine Below.trans ?_ (hb.mono ?h); case h => first | omega | (simp; done) | (simp; omega)) | (with_reducible refine Below.trans ?_ (hb0.mono ?h); case h => first | omega | (simp; done) | (simp; omega))))
  have hone := one_bs w4 9 ⟨by decide, by decide⟩ 5
  have hlt4 := hW4.lt
  have hW5 := hW4.later hb5
  have hB5 := hB4.trans (hb5.mono hs4)
  have hs5 := Nat.le_trans hs4 hb5.size
  refine (raw_t B B _ _ [9] _ F4 hW5 hone (by decide +kernel) hs5 (by intro e; have := Option.some.inj e; dsimp only at this; omega)).mono ?_
  rintro e w6 ⟨rfl, F6, hW6, hF6, hK6⟩
  obtain ⟨hB6, hG6, hs6⟩ := wr_step hB5 hs5 hG4 hK6 hF6
  simp only [show (limK 2) = 2 by decide, ← List.append_assoc] at hW6
  rw [L23_is] at hW6
  clear hW0 hW1 hW2 hW4 hW5 hone hB0 hB1 hB2 hB3 hB4 hB5 hb3 hb5 hK1 hK2 hK4 hK6 hF1 hF2 hF4 hF6 hG1 hG2 hG4
  go_wp2_with fail
  refine (bytes_t B B L23 F6 w6 hW6 (by decide)).mono ?_
  rintro e w7 ⟨v, rfl, hO, hb7⟩
  have hB7 := hB6.trans (hb7.mono hs6)
  have hs7 := Nat.le_trans hs6 hb7.size
  have hbs7 := hO.bs
  clear hW6 hO hb7 hB6
  obtain ⟨pp, c, rfl, hc1, hc2, _, _, _⟩ := id hbs7
  have h23 : (23 : Int) ≤ (c : Int) := by have h : L23.length = 23 := by decide
                                          omega
  replace hbs7 : BS w7 (.slice pp 23 c) L23 := hbs7
  have hbs7' := Lib.hid hbs7
  clear hbs7
  rw [show L23.length = 23 by decide]
  go_wp2_with fail
  refine (from_t _ L23 w7 hbs7'.out (by decide)).mono ?_
  rintro e w8 ⟨p, rfl, hp, hR, hb8⟩
  have hbs8 := Lib.hid (hbs7'.out.later hb8)
  have hB8 := hB7.trans (hb8.mono hs7)
  have hs8 := Nat.le_trans hs7 hb8.size
  have hpB : B ≤ p := Nat.le_trans hs7 hp
  clear hbs7' hb8
  have hat : ∀ k, atP (.pointer (some ⟨p, 0, none⟩)) k → B ≤ k := fun k h => by cases h; exact hpB
  go_wp2_with fail
  have hc := rnum_a (.pointer (some ⟨p, 0, none⟩)) L23 0 2 w8 hR.st
  rw [show valB (takenS L23 0 (limK 2)) = 258 by decide +kernel, show leftS L23 0 (limK 2) = L21 by decide +kernel, show errS L23 0 (limK 2) = 0 by decide +kernel] at hc
  refine hc.mono ?_
  clear hc
  rintro e w9 ⟨rfl, hT9, hK9⟩
  obtain ⟨hB9, hs9⟩ := st_step hB8 hs8 hat hK9
  have hbs9 := Lib.hid (hbs8.out.nb hK9 hR.nb)
  clear hbs8 hR hK9
  go_wp2_with fail
  have hc := rtext_a (.pointer (some ⟨p, 0, none⟩)) L21 0 5 w9 hT9
  rw [show byS (textT L21 0 5) = ⟨#[97, 98]⟩ by decide +kernel, show textL L21 0 5 = L17 by decide +kernel, show textX L21 0 5 = 0 by decide +kernel] at hc
  refine hc.mono ?_
  clear hc
  rintro e w10 ⟨rfl, hT10, hK10⟩
  obtain ⟨hB10, hs10⟩ := st_step hB9 hs9 hat hK10
  have hbs10 := Lib.hid (hbs9.out.nb hK10 hT9.rd.nb)
  clear hbs9 hT9 hK10
  go_wp2_with fail
  have hc := rwide_a (.pointer (some ⟨p, 0, none⟩)) L17 0 w10 hT10
  rw [show hi (valB (takenS L17 0 16)) = 0 by decide +kernel, show lo (valB (takenS L17 0 16)) = 7 by decide +kernel, show leftS L17 0 16 = [9] by decide +kernel, show errS L17 0 16 = 0 by decide +kernel] at hc
  refine hc.mono ?_
  clear hc
  rintro e w11 ⟨rfl, hT11, hK11⟩
  obtain ⟨hB11, hs11⟩ := st_step hB10 hs10 hat hK11
  have hbs11 := Lib.hid (hbs10.out.nb hK11 hT10.rd.nb)
  clear hbs10 hT10 hK11
  go_wp2_with fail
  have hc := rraw_a (.pointer (some ⟨p, 0, none⟩)) [9] 0 1 w11 hT11 (by decide)
  rw [show takenS [9] (mustS 0 (decide ((0 : Int) ≤ 1))) 1 = [9] by decide +kernel, show leftS [9] (mustS 0 (decide ((0 : Int) ≤ 1))) 1 = [] by decide +kernel, show errS [9] (mustS 0 (decide ((0 : Int) ≤ 1))) 1 = 0 by decide +kernel] at hc
  refine hc.mono ?_
  clear hc
  rintro e w12 ⟨⟨vc, rfl, hOc⟩, hT12, hK12⟩
  obtain ⟨hB12, hs12⟩ := st_step hB11 hs11 hat hK12
  have hbs12 := Lib.hid (hbs11.out.nb hK12 hT11.rd.nb)
  have hbc := hOc.bs
  obtain ⟨pc, cc, rfl⟩ := hOc.form
  replace hbc : BS w12 (.slice pc 1 cc) [9] := hbc
  rw [show ([9] : List Int).length = 1 from rfl]
  have HBC := Lib.hid hbc
  clear hbs11 hT11 hK12 hOc hbc
  have HT12 := Lib.hid hT12
  clear hT12
  go_wp2_with fail
  have hb13 : Below w12.heap.size w12 (w12.alloc (.cells #[.int .u64 0, .int .u64 7] 24)) := (by repeat (first | exact Below.refl _ _ | assumption | (with_reducible refine Below.setCell ?_ ?h _; case h => first | omega | (simp; done) | (simp; omega)) | (with_reducible refine Below.alloc ?_ ?h _; case h => first | omega | (simp; done) | (simp; omega)) | (with_reducible refine Below.drew ?_) | (with_reducible refine Below.trans ?_ (hb4.mono ?h); case h => first | omega | (simp; done) | (simp; omega)) | (with_reducible refine Below.trans ?_ (hb3.mono ?h); case h => first | omega | (simp; done) | (simp; omega)) | (with_reducible refine Below.trans ?_ (hb2.mono ?h); case h => first | omega | (simp; done) | (simp; omega)) | (with_reducible refine Below.trans ?_ (hb.mono ?h); case h => first | omega | (simp; done) | (simp; omega)) | (with_reducible refine Below.trans ?_ (hb0.mono ?h); case h => first | omega | (simp; done) | (simp; omega))))
  have RG := Row.new w12 #[.int .u64 0, .int .u64 7] 24
  have hT13 := (HT12.out.later hb13).rd
  have hbc13 := HBC.out.later hb13
  have hbs13 := hbs12.out.later hb13
  have hB13 := hB12.trans (hb13.mono hs12)
  have hs13 := Nat.le_trans hs12 hb13.size
  have hgl : w12.heap.size < (w12.alloc (.cells #[.int .u64 0, .int .u64 7] 24)).heap.size := RG.lt
  clear HT12 HBC hbs12 hb13
  generalize w12.alloc (.cells #[.int .u64 0, .int .u64 7] 24) = w13 at *
  generalize w12.heap.size = g at *
  refine (from_t _ (L23.take 3) w13 (BS.takeC (l := L23) hbs13 3 (by decide)) (by decide)).mono ?_
  rintro e w14 ⟨p2, rfl, hp2, hR2, hb14⟩
  replace RG := RG.later hb14
  have hltp : p < w13.heap.size := by obtain ⟨_, Rp, _⟩ := hT13; exact Rp.lt
  replace hT13 := hT13.later hb14
  replace hbc13 := hbc13.later hb14
  replace hbs13 := hbs13.later hb14
  have hB14 := hB13.trans (hb14.mono hs13)
  have hs14 := Nat.le_trans hs13 hb14.size
  have hat2 : ∀ k, atP (.pointer (some ⟨p2, 0, none⟩)) k → B ≤ k := fun k h => by cases h; omega
  have hgp : ¬ atP (.pointer (some ⟨p2, 0, none⟩)) g := fun h => by cases h; omega
  have hpp : ¬ atP (.pointer (some ⟨p2, 0, none⟩)) p := fun h => by cases h; omega
  have H1 := Lib.hid RG
  have H2 := Lib.hid hT13
  have H3 := Lib.hid hbc13
  have H4 := Lib.hid hbs13
  clear RG hT13 hbc13 hbs13 hB13 hb14
  go_wp2_with fail
  have hc := rnum_a (.pointer (some ⟨p2, 0, none⟩)) (L23.take 3) 0 4 w14 hR2.st
  rw [show errS (L23.take 3) 0 (limK 4) = 8 by decide +kernel] at hc
  refine hc.mono ?_
  clear hc
  rintro e w15 ⟨rfl, hT15, hK15⟩
  obtain ⟨hB15, hs15⟩ := st_step hB14 hs14 hat2 hK15
  have RG := hK15.row H1.out hgp
  have hT16 := (H2.out.other hK15 hR2.nb hpp).st
  have hbc := H3.out.nb hK15 hR2.nb
  have hbs := BS.takeC (l := L23) (H4.out.nb hK15 hR2.nb) 6 (by decide)
  rw [show L23.take 6 = [1, 2, 0, 2, 97, 98] by decide] at hbs
  have h6c : (6 : Int) ≤ (c : Int) := by omega
  have e9 : byS [9] = ⟨#[9]⟩ := by decide +kernel
  have e6 : byS [1, 2, 0, 2, 97, 98] = ⟨#[1, 2, 0, 2, 97, 98]⟩ := by decide +kernel
  clear H1 H2 H3 H4 hK15 hR2
  have c0 := (RG.cell 0).trans (show _ = some (Value.int .u64 0) from rfl)
  have c1 := (RG.cell 1).trans (show _ = some (Value.int .u64 7) from rfl)
  clear RG
  have HS := Lib.hid (And.intro hbs (And.intro hbc (And.intro hT16 (And.intro hT15 (And.intro c0 (And.intro c1 hB15))))))
  clear hbs hbc hT16 hT15 c0 c1 hB15
  generalize leftS (L23.take 3) 0 (limK 4) = l3 at *
  go_wp2_with fail
  refine wp_region_held_drew (S := (fun w' => BS w' (.slice pp 6 c) [1, 2, 0, 2, 97, 98] ∧ BS w' (.slice pc 1 cc) [9] ∧ St false w' (.pointer (some ⟨p, 0, none⟩)) [] 0 ∧ St false w' (.pointer (some ⟨p2, 0, none⟩)) l3 8 ∧ w'.cell? ⟨g, 0, none⟩ = some (.int .u64 0) ∧ w'.cell? ⟨g, 1, none⟩ = some (.int .u64 7) ∧ Below B w w')) (by kernel_rfl) ?hSr1_ (fun hHeld => ?_)
  case hSr1_ => (first | exact hHeld | exact ⟨hHeld.1.later hb, hHeld.2.1.later hb, hHeld.2.2.1.later hb, hHeld.2.2.2.1.later hb, cell_later hb hHeld.2.2.2.2.1, cell_later hb hHeld.2.2.2.2.2.1, hHeld.2.2.2.2.2.2.trans (hb.mono (Nat.le_trans (Nat.le_of_eq hB.symm) hHeld.2.2.2.2.2.2.size))⟩ | (have hHeld := HS.out; have hb : Below w15.heap.size w15 w15.drew := (Below.refl _ _).drew; exact ⟨hHeld.1.later hb, hHeld.2.1.later hb, hHeld.2.2.1.later hb, hHeld.2.2.2.1.later hb, cell_later hb hHeld.2.2.2.2.1, cell_later hb hHeld.2.2.2.2.2.1, hHeld.2.2.2.2.2.2.trans (hb.mono (Nat.le_trans (Nat.le_of_eq hB.symm) hHeld.2.2.2.2.2.2.size))⟩))
  refine wpAnyH_take (i := 0) (oi := { dst := some 34, op := Go.Op.move (Go.Operand.tmp 2), type := 56, pos := _, after := #[], guard := none }) (v := ?vr1_1_0) rfl (by kernel_rfl) (by kernel_rfl) (by kernel_rfl) (fun _ _ _ h => h) (Or.inl ⟨by rfl, ?yr1_1_0⟩) hHeld ?_
  case yr1_1_0 => ((intro w hSw; (try dsimp only at hSw); go_simp) <;> with_reducible rfl)
  (try simp only [Act.put, List.setIfInBounds_toArray, List.set_cons_zero, List.set_cons_succ])
  refine wpAnyH_take (i := 1) (oi := { dst := some 35, op := Go.Op.slice 56 (Go.Operand.tmp 34) none (some (Go.Operand.const (Go.Value.int Go.IntKind.i64 6))) none, type := 56, pos := _, after := #[{ on := 0, ground := Go.Ground.data }], guard := none }) (v := ?vr1_2_1) rfl (by kernel_rfl) (by kernel_rfl) (by kernel_rfl) (fun _ _ _ h => h) (Or.inl ⟨by rfl, ?yr1_2_1⟩) hHeld ?_
  case yr1_2_1 => ((intro w hSw; (try dsimp only at hSw); go_simp) <;> with_reducible rfl)
  (try simp only [Act.put, List.setIfInBounds_toArray, List.set_cons_zero, List.set_cons_succ])
  refine wpAnyH_take (i := 2) (oi := { dst := some 36, op := Go.Op.convert 56 9 (Go.Operand.tmp 35), type := 9, pos := _, after := #[{ on := 1, ground := Go.Ground.data }], guard := none }) (v := ?vr1_3_2) rfl (by kernel_rfl) (by kernel_rfl) (by kernel_rfl) (fun _ _ _ h => h) (Or.inl ⟨by rfl, ?yr1_3_2⟩) hHeld ?_
  case yr1_3_2 => ((intro w hSw; (try dsimp only at hSw); (have hrun := back_run w _ _ hSw.1); (rw [e6] at hrun); clear hSw; go_simp) <;> with_reducible rfl)
  (try simp only [Act.put, List.setIfInBounds_toArray, List.set_cons_zero, List.set_cons_succ])
  refine wpAnyH_take (i := 3) (oi := { dst := some 37, op := Go.Op.binOp Go.BinOp.eql 9 (Go.Operand.tmp 36) (Go.Operand.const (Go.Value.string { data := #[1, 2, 0, 2, 97, 98] })) 9, type := 4, pos := _, after := #[{ on := 2, ground := Go.Ground.data }], guard := none }) (v := ?vr1_4_3) rfl (by kernel_rfl) (by kernel_rfl) (by kernel_rfl) (fun _ _ _ h => h) (Or.inl ⟨by rfl, ?yr1_4_3⟩) hHeld ?_
  case yr1_4_3 => ((intro w hSw; (try dsimp only at hSw); go_simp) <;> with_reducible rfl)
  (try simp only [Act.put, List.setIfInBounds_toArray, List.set_cons_zero, List.set_cons_succ])
  refine wpAnyH_take (i := 4) (oi := { dst := some 38, op := Go.Op.move (Go.Operand.tmp 37), type := 4, pos := _, after := #[{ on := 3, ground := Go.Ground.data }], guard := none }) (v := ?vr1_5_4) rfl (by kernel_rfl) (by kernel_rfl) (by kernel_rfl) (fun _ _ _ h => h) (Or.inl ⟨by rfl, ?yr1_5_4⟩) hHeld ?_
  case yr1_5_4 => ((intro w hSw; (try dsimp only at hSw); go_simp) <;> with_reducible rfl)
  (try simp only [Act.put, List.setIfInBounds_toArray, List.set_cons_zero, List.set_cons_succ])
  refine wpAnyH_take (i := 5) (oi := { dst := some 39, op := Go.Op.move (Go.Operand.tmp 4), type := 22, pos := _, after := #[{ on := 4, ground := Go.Ground.guard }], guard := some (4, true) }) (v := ?vr1_6_5) rfl (by kernel_rfl) (by kernel_rfl) (by kernel_rfl) (fun _ _ _ h => h) (Or.inl ⟨by rfl, ?yr1_6_5⟩) hHeld ?_
  case yr1_6_5 => ((intro w hSw; (try dsimp only at hSw); go_simp) <;> with_reducible rfl)
  (try simp only [Act.put, List.setIfInBounds_toArray, List.set_cons_zero, List.set_cons_succ])
  refine wpAnyH_take (i := 6) (oi := { dst := some 40, op := Go.Op.binOp Go.BinOp.eql 22 (Go.Operand.tmp 39) (Go.Operand.const (Go.Value.int Go.IntKind.u64 258)) 22, type := 4, pos := _, after := #[{ on := 5, ground := Go.Ground.data }, { on := 4, ground := Go.Ground.guard }], guard := some (4, true) }) (v := ?vr1_7_6) rfl (by kernel_rfl) (by kernel_rfl) (by kernel_rfl) (fun _ _ _ h => h) (Or.inl ⟨by rfl, ?yr1_7_6⟩) hHeld ?_
  case yr1_7_6 => ((intro w hSw; (try dsimp only at hSw); go_simp) <;> with_reducible rfl)
  (try simp only [Act.put, List.setIfInBounds_toArray, List.set_cons_zero, List.set_cons_succ])
  refine wpAnyH_take (i := 7) (oi := { dst := some 41, op := Go.Op.pick (Go.Operand.tmp 38) (Go.Operand.tmp 40) (Go.Operand.const (Go.Value.bool false)), type := 4, pos := _, after := #[{ on := 4, ground := Go.Ground.data }, { on := 6, ground := Go.Ground.data }], guard := none }) (v := ?vr1_8_7) rfl (by kernel_rfl) (by kernel_rfl) (by kernel_rfl) (fun _ _ _ h => h) (Or.inl ⟨by rfl, ?yr1_8_7⟩) hHeld ?_
  case yr1_8_7 => ((intro w hSw; (try dsimp only at hSw); go_simp) <;> with_reducible rfl)
  (try simp only [Act.put, List.setIfInBounds_toArray, List.set_cons_zero, List.set_cons_succ])
  refine wpAnyH_take (i := 8) (oi := { dst := some 42, op := Go.Op.move (Go.Operand.tmp 41), type := 4, pos := _, after := #[{ on := 7, ground := Go.Ground.data }, { on := 4, ground := Go.Ground.chain }], guard := none }) (v := ?vr1_9_8) rfl (by kernel_rfl) (by kernel_rfl) (by kernel_rfl) (fun _ _ _ h => h) (Or.inl ⟨by rfl, ?yr1_9_8⟩) hHeld ?_
  case yr1_9_8 => ((intro w hSw; (try dsimp only at hSw); go_simp) <;> with_reducible rfl)
  (try simp only [Act.put, List.setIfInBounds_toArray, List.set_cons_zero, List.set_cons_succ])
  refine wpAnyH_take (i := 9) (oi := { dst := some 43, op := Go.Op.move (Go.Operand.tmp 5), type := 9, pos := _, after := #[{ on := 8, ground := Go.Ground.guard }], guard := some (8, true) }) (v := ?vr1_10_9) rfl (by kernel_rfl) (by kernel_rfl) (by kernel_rfl) (fun _ _ _ h => h) (Or.inl ⟨by rfl, ?yr1_10_9⟩) hHeld ?_
  case yr1_10_9 => ((intro w hSw; (try dsimp only at hSw); go_simp) <;> with_reducible rfl)
  (try simp only [Act.put, List.setIfInBounds_toArray, List.set_cons_zero, List.set_cons_succ])
  refine wpAnyH_take (i := 10) (oi := { dst := some 44, op := Go.Op.binOp Go.BinOp.eql 9 (Go.Operand.tmp 43) (Go.Operand.const (Go.Value.string { data := #[97, 98] })) 9, type := 4, pos := _, after := #[{ on := 9, ground := Go.Ground.data }, { on := 8, ground := Go.Ground.guard }], guard := some (8, true) }) (v := ?vr1_11_10) rfl (by kernel_rfl) (by kernel_rfl) (by kernel_rfl) (fun _ _ _ h => h) (Or.inl ⟨by rfl, ?yr1_11_10⟩) hHeld ?_
  case yr1_11_10 => ((intro w hSw; (try dsimp only at hSw); go_simp) <;> with_reducible rfl)
  (try simp only [Act.put, List.setIfInBounds_toArray, List.set_cons_zero, List.set_cons_succ])
  refine wpAnyH_take (i := 11) (oi := { dst := some 45, op := Go.Op.pick (Go.Operand.tmp 42) (Go.Operand.tmp 44) (Go.Operand.const (Go.Value.bool false)), type := 4, pos := _, after := #[{ on := 8, ground := Go.Ground.data }, { on := 10, ground := Go.Ground.data }], guard := none }) (v := ?vr1_12_11) rfl (by kernel_rfl) (by kernel_rfl) (by kernel_rfl) (fun _ _ _ h => h) (Or.inl ⟨by rfl, ?yr1_12_11⟩) hHeld ?_
  case yr1_12_11 => ((intro w hSw; (try dsimp only at hSw); go_simp) <;> with_reducible rfl)
  (try simp only [Act.put, List.setIfInBounds_toArray, List.set_cons_zero, List.set_cons_succ])
  refine wpAnyH_take (i := 12) (oi := { dst := some 46, op := Go.Op.move (Go.Operand.tmp 45), type := 4, pos := _, after := #[{ on := 11, ground := Go.Ground.data }, { on := 8, ground := Go.Ground.chain }], guard := none }) (v := ?vr1_13_12) rfl (by kernel_rfl) (by kernel_rfl) (by kernel_rfl) (fun _ _ _ h => h) (Or.inl ⟨by rfl, ?yr1_13_12⟩) hHeld ?_
  case yr1_13_12 => ((intro w hSw; (try dsimp only at hSw); go_simp) <;> with_reducible rfl)
  (try simp only [Act.put, List.setIfInBounds_toArray, List.set_cons_zero, List.set_cons_succ])
  refine wpAnyH_take (i := 13) (oi := { dst := some 47, op := Go.Op.load 24 (Go.Operand.tmp 6), type := 24, pos := _, after := #[{ on := 12, ground := Go.Ground.guard }], guard := some (12, true) }) (v := ?vr1_14_13) rfl (by kernel_rfl) (by kernel_rfl) (by kernel_rfl) (fun _ _ _ h => h) (Or.inl ⟨by rfl, ?yr1_14_13⟩) hHeld ?_
  case yr1_14_13 => ((intro w hSw; (try dsimp only at hSw); go_simp) <;> with_reducible rfl)
  (try simp only [Act.put, List.setIfInBounds_toArray, List.set_cons_zero, List.set_cons_succ])
  refine wpAnyH_ready (rs := [14]) (by kernel_rfl) (by simp) ?_
  refine AllReadyH.cons (o := { dst := some 48, op := Go.Op.call { callee := Go.Callee.value (Go.Operand.func 20), args := #[Go.Operand.const (Go.Value.int Go.IntKind.u64 7)], argTypes := #[22] }, type := 24, pos := _, after := #[{ on := 12, ground := Go.Ground.chain }, { on := 12, ground := Go.Ground.guard }], guard := some (12, true) }) rfl (fun K hK => ?_) AllReadyH.nil
  go_simp
  ((refine (of_any 7 _).mono ?_); (rintro r wn ⟨rfl, hb⟩))
  go_wp2_with fail
  refine hK.out _ _ ?hSr1_15_14 (fun hHeld2 => ?_)
  case hSr1_15_14 => (first | exact hHeld | exact ⟨hHeld.1.later hb, hHeld.2.1.later hb, hHeld.2.2.1.later hb, hHeld.2.2.2.1.later hb, cell_later hb hHeld.2.2.2.2.1, cell_later hb hHeld.2.2.2.2.2.1, hHeld.2.2.2.2.2.2.trans (hb.mono (Nat.le_trans (Nat.le_of_eq hB.symm) hHeld.2.2.2.2.2.2.size))⟩ | (have hHeld := HS.out; have hb : Below w15.heap.size w15 w15.drew := (Below.refl _ _).drew; exact ⟨hHeld.1.later hb, hHeld.2.1.later hb, hHeld.2.2.1.later hb, hHeld.2.2.2.1.later hb, cell_later hb hHeld.2.2.2.2.1, cell_later hb hHeld.2.2.2.2.2.1, hHeld.2.2.2.2.2.2.trans (hb.mono (Nat.le_trans (Nat.le_of_eq hB.symm) hHeld.2.2.2.2.2.2.size))⟩))
  clear hK K hHeld
  have hHeld := hHeld2
  clear hHeld2
  (try simp only [Act.put, List.setIfInBounds_toArray, List.set_cons_zero, List.set_cons_succ])
  refine wpAnyH_take (i := 15) (oi := { dst := some 49, op := Go.Op.binOp Go.BinOp.eql 24 (Go.Operand.tmp 47) (Go.Operand.tmp 48) 24, type := 4, pos := _, after := #[{ on := 13, ground := Go.Ground.data }, { on := 14, ground := Go.Ground.data }, { on := 12, ground := Go.Ground.guard }], guard := some (12, true) }) (v := ?vr1_16_15) rfl (by kernel_rfl) (by kernel_rfl) (by kernel_rfl) (fun _ _ _ h => h) (Or.inl ⟨by rfl, ?yr1_16_15⟩) hHeld ?_
  case yr1_16_15 => ((intro w hSw; (try dsimp only at hSw); go_simp) <;> with_reducible rfl)
  (try simp only [Act.put, List.setIfInBounds_toArray, List.set_cons_zero, List.set_cons_succ])
  refine wpAnyH_take (i := 16) (oi := { dst := some 50, op := Go.Op.pick (Go.Operand.tmp 46) (Go.Operand.tmp 49) (Go.Operand.const (Go.Value.bool false)), type := 4, pos := _, after := #[{ on := 12, ground := Go.Ground.data }, { on := 15, ground := Go.Ground.data }], guard := none }) (v := ?vr1_17_16) rfl (by kernel_rfl) (by kernel_rfl) (by kernel_rfl) (fun _ _ _ h => h) (Or.inl ⟨by rfl, ?yr1_17_16⟩) hHeld ?_
  case yr1_17_16 => ((intro w hSw; (try dsimp only at hSw); go_simp) <;> with_reducible rfl)
  (try simp only [Act.put, List.setIfInBounds_toArray, List.set_cons_zero, List.set_cons_succ])
  refine wpAnyH_take (i := 17) (oi := { dst := some 51, op := Go.Op.move (Go.Operand.tmp 50), type := 4, pos := _, after := #[{ on := 16, ground := Go.Ground.data }, { on := 14, ground := Go.Ground.chain }], guard := none }) (v := ?vr1_18_17) rfl (by kernel_rfl) (by kernel_rfl) (by kernel_rfl) (fun _ _ _ h => h) (Or.inl ⟨by rfl, ?yr1_18_17⟩) hHeld ?_
  case yr1_18_17 => ((intro w hSw; (try dsimp only at hSw); go_simp) <;> with_reducible rfl)
  (try simp only [Act.put, List.setIfInBounds_toArray, List.set_cons_zero, List.set_cons_succ])
  refine wpAnyH_take (i := 18) (oi := { dst := some 52, op := Go.Op.move (Go.Operand.tmp 7), type := 56, pos := _, after := #[{ on := 17, ground := Go.Ground.guard }], guard := some (17, true) }) (v := ?vr1_19_18) rfl (by kernel_rfl) (by kernel_rfl) (by kernel_rfl) (fun _ _ _ h => h) (Or.inl ⟨by rfl, ?yr1_19_18⟩) hHeld ?_
  case yr1_19_18 => ((intro w hSw; (try dsimp only at hSw); go_simp) <;> with_reducible rfl)
  (try simp only [Act.put, List.setIfInBounds_toArray, List.set_cons_zero, List.set_cons_succ])
  refine wpAnyH_take (i := 19) (oi := { dst := some 53, op := Go.Op.convert 56 9 (Go.Operand.tmp 52), type := 9, pos := _, after := #[{ on := 18, ground := Go.Ground.data }, { on := 17, ground := Go.Ground.guard }], guard := some (17, true) }) (v := ?vr1_20_19) rfl (by kernel_rfl) (by kernel_rfl) (by kernel_rfl) (fun _ _ _ h => h) (Or.inl ⟨by rfl, ?yr1_20_19⟩) hHeld ?_
  case yr1_20_19 => ((intro w hSw; (try dsimp only at hSw); (have hrun := back_run w _ _ hSw.2.1); (rw [e9] at hrun); clear hSw; go_simp) <;> with_reducible rfl)
  (try simp only [Act.put, List.setIfInBounds_toArray, List.set_cons_zero, List.set_cons_succ])
  refine wpAnyH_take (i := 20) (oi := { dst := some 54, op := Go.Op.binOp Go.BinOp.eql 9 (Go.Operand.tmp 53) (Go.Operand.const (Go.Value.string { data := #[9] })) 9, type := 4, pos := _, after := #[{ on := 19, ground := Go.Ground.data }, { on := 17, ground := Go.Ground.guard }], guard := some (17, true) }) (v := ?vr1_21_20) rfl (by kernel_rfl) (by kernel_rfl) (by kernel_rfl) (fun _ _ _ h => h) (Or.inl ⟨by rfl, ?yr1_21_20⟩) hHeld ?_
  case yr1_21_20 => ((intro w hSw; (try dsimp only at hSw); go_simp) <;> with_reducible rfl)
  (try simp only [Act.put, List.setIfInBounds_toArray, List.set_cons_zero, List.set_cons_succ])
  refine wpAnyH_take (i := 21) (oi := { dst := some 55, op := Go.Op.pick (Go.Operand.tmp 51) (Go.Operand.tmp 54) (Go.Operand.const (Go.Value.bool false)), type := 4, pos := _, after := #[{ on := 17, ground := Go.Ground.data }, { on := 20, ground := Go.Ground.data }], guard := none }) (v := ?vr1_22_21) rfl (by kernel_rfl) (by kernel_rfl) (by kernel_rfl) (fun _ _ _ h => h) (Or.inl ⟨by rfl, ?yr1_22_21⟩) hHeld ?_
  case yr1_22_21 => ((intro w hSw; (try dsimp only at hSw); go_simp) <;> with_reducible rfl)
  (try simp only [Act.put, List.setIfInBounds_toArray, List.set_cons_zero, List.set_cons_succ])
  refine wpAnyH_take (i := 22) (oi := { dst := some 56, op := Go.Op.move (Go.Operand.tmp 55), type := 4, pos := _, after := #[{ on := 21, ground := Go.Ground.data }, { on := 17, ground := Go.Ground.chain }], guard := none }) (v := ?vr1_23_22) rfl (by kernel_rfl) (by kernel_rfl) (by kernel_rfl) (fun _ _ _ h => h) (Or.inl ⟨by rfl, ?yr1_23_22⟩) hHeld ?_
  case yr1_23_22 => ((intro w hSw; (try dsimp only at hSw); go_simp) <;> with_reducible rfl)
  (try simp only [Act.put, List.setIfInBounds_toArray, List.set_cons_zero, List.set_cons_succ])
  refine wpAnyH_take (i := 23) (oi := { dst := some 57, op := Go.Op.move (Go.Operand.tmp 3), type := 64, pos := _, after := #[{ on := 22, ground := Go.Ground.guard }], guard := some (22, true) }) (v := ?vr1_24_23) rfl (by kernel_rfl) (by kernel_rfl) (by kernel_rfl) (fun _ _ _ h => h) (Or.inl ⟨by rfl, ?yr1_24_23⟩) hHeld ?_
  case yr1_24_23 => ((intro w hSw; (try dsimp only at hSw); go_simp) <;> with_reducible rfl)
  (try simp only [Act.put, List.setIfInBounds_toArray, List.set_cons_zero, List.set_cons_succ])
  refine wpAnyH_ready (rs := [24]) (by kernel_rfl) (by simp) ?_
  refine AllReadyH.cons (o := { dst := some 58, op := Go.Op.call { callee := Go.Callee.value (Go.Operand.func 45), args := #[Go.Operand.tmp 57], argTypes := #[64] }, type := 67, pos := _, after := #[{ on := 23, ground := Go.Ground.data }, { on := 22, ground := Go.Ground.chain }, { on := 22, ground := Go.Ground.guard }], guard := some (22, true) }) rfl (fun K hK => ?_) AllReadyH.nil
  go_simp
  (first | ((refine (end_a _ [] 0 _ hHeld.2.2.1).mono ?_); (rintro r wn ⟨rfl, rfl⟩)) | ((refine (end_a _ l3 8 _ hHeld.2.2.2.1).mono ?_); (rintro r wn ⟨rfl, rfl⟩)))
  go_wp2_with fail
  refine hK.out _ _ ?hSr1_25_24 (fun hHeld2 => ?_)
  case hSr1_25_24 => (first | exact hHeld | exact ⟨hHeld.1.later hb, hHeld.2.1.later hb, hHeld.2.2.1.later hb, hHeld.2.2.2.1.later hb, cell_later hb hHeld.2.2.2.2.1, cell_later hb hHeld.2.2.2.2.2.1, hHeld.2.2.2.2.2.2.trans (hb.mono (Nat.le_trans (Nat.le_of_eq hB.symm) hHeld.2.2.2.2.2.2.size))⟩ | (have hHeld := HS.out; have hb : Below w15.heap.size w15 w15.drew := (Below.refl _ _).drew; exact ⟨hHeld.1.later hb, hHeld.2.1.later hb, hHeld.2.2.1.later hb, hHeld.2.2.2.1.later hb, cell_later hb hHeld.2.2.2.2.1, cell_later hb hHeld.2.2.2.2.2.1, hHeld.2.2.2.2.2.2.trans (hb.mono (Nat.le_trans (Nat.le_of_eq hB.symm) hHeld.2.2.2.2.2.2.size))⟩))
  clear hK K hHeld
  have hHeld := hHeld2
  clear hHeld2
  (try simp only [Act.put, List.setIfInBounds_toArray, List.set_cons_zero, List.set_cons_succ])
  refine wpAnyH_take (i := 25) (oi := { dst := some 59, op := Go.Op.binOp Go.BinOp.eql 67 (Go.Operand.tmp 58) (Go.Operand.const (Go.Value.int Go.IntKind.i64 0)) 67, type := 4, pos := _, after := #[{ on := 24, ground := Go.Ground.data }, { on := 22, ground := Go.Ground.guard }], guard := some (22, true) }) (v := ?vr1_26_25) rfl (by kernel_rfl) (by kernel_rfl) (by kernel_rfl) (fun _ _ _ h => h) (Or.inl ⟨by rfl, ?yr1_26_25⟩) hHeld ?_
  case yr1_26_25 => ((intro w hSw; (try dsimp only at hSw); go_simp) <;> with_reducible rfl)
  (try simp only [Act.put, List.setIfInBounds_toArray, List.set_cons_zero, List.set_cons_succ])
  refine wpAnyH_take (i := 26) (oi := { dst := some 60, op := Go.Op.pick (Go.Operand.tmp 56) (Go.Operand.tmp 59) (Go.Operand.const (Go.Value.bool false)), type := 4, pos := _, after := #[{ on := 22, ground := Go.Ground.data }, { on := 25, ground := Go.Ground.data }], guard := none }) (v := ?vr1_27_26) rfl (by kernel_rfl) (by kernel_rfl) (by kernel_rfl) (fun _ _ _ h => h) (Or.inl ⟨by rfl, ?yr1_27_26⟩) hHeld ?_
  case yr1_27_26 => ((intro w hSw; (try dsimp only at hSw); go_simp) <;> with_reducible rfl)
  (try simp only [Act.put, List.setIfInBounds_toArray, List.set_cons_zero, List.set_cons_succ])
  refine wpAnyH_take (i := 27) (oi := { dst := some 61, op := Go.Op.move (Go.Operand.tmp 60), type := 4, pos := _, after := #[{ on := 26, ground := Go.Ground.data }, { on := 24, ground := Go.Ground.chain }], guard := none }) (v := ?vr1_28_27) rfl (by kernel_rfl) (by kernel_rfl) (by kernel_rfl) (fun _ _ _ h => h) (Or.inl ⟨by rfl, ?yr1_28_27⟩) hHeld ?_
  case yr1_28_27 => ((intro w hSw; (try dsimp only at hSw); go_simp) <;> with_reducible rfl)
  (try simp only [Act.put, List.setIfInBounds_toArray, List.set_cons_zero, List.set_cons_succ])
  refine wpAnyH_take (i := 28) (oi := { dst := some 62, op := Go.Op.move (Go.Operand.tmp 8), type := 64, pos := _, after := #[{ on := 27, ground := Go.Ground.guard }], guard := some (27, true) }) (v := ?vr1_29_28) rfl (by kernel_rfl) (by kernel_rfl) (by kernel_rfl) (fun _ _ _ h => h) (Or.inl ⟨by rfl, ?yr1_29_28⟩) hHeld ?_
  case yr1_29_28 => ((intro w hSw; (try dsimp only at hSw); go_simp) <;> with_reducible rfl)
  (try simp only [Act.put, List.setIfInBounds_toArray, List.set_cons_zero, List.set_cons_succ])
  refine wpAnyH_ready (rs := [29]) (by kernel_rfl) (by simp) ?_
  refine AllReadyH.cons (o := { dst := some 63, op := Go.Op.call { callee := Go.Callee.value (Go.Operand.func 45), args := #[Go.Operand.tmp 62], argTypes := #[64] }, type := 67, pos := _, after := #[{ on := 28, ground := Go.Ground.data }, { on := 27, ground := Go.Ground.chain }, { on := 27, ground := Go.Ground.guard }], guard := some (27, true) }) rfl (fun K hK => ?_) AllReadyH.nil
  go_simp
  (first | ((refine (end_a _ [] 0 _ hHeld.2.2.1).mono ?_); (rintro r wn ⟨rfl, rfl⟩)) | ((refine (end_a _ l3 8 _ hHeld.2.2.2.1).mono ?_); (rintro r wn ⟨rfl, rfl⟩)))
  go_wp2_with fail
  refine hK.out _ _ ?hSr1_30_29 (fun hHeld2 => ?_)
  case hSr1_30_29 => (first | exact hHeld | exact ⟨hHeld.1.later hb, hHeld.2.1.later hb, hHeld.2.2.1.later hb, hHeld.2.2.2.1.later hb, cell_later hb hHeld.2.2.2.2.1, cell_later hb hHeld.2.2.2.2.2.1, hHeld.2.2.2.2.2.2.trans (hb.mono (Nat.le_trans (Nat.le_of_eq hB.symm) hHeld.2.2.2.2.2.2.size))⟩ | (have hHeld := HS.out; have hb : Below w15.heap.size w15 w15.drew := (Below.refl _ _).drew; exact ⟨hHeld.1.later hb, hHeld.2.1.later hb, hHeld.2.2.1.later hb, hHeld.2.2.2.1.later hb, cell_later hb hHeld.2.2.2.2.1, cell_later hb hHeld.2.2.2.2.2.1, hHeld.2.2.2.2.2.2.trans (hb.mono (Nat.le_trans (Nat.le_of_eq hB.symm) hHeld.2.2.2.2.2.2.size))⟩))
  clear hK K hHeld
  have hHeld := hHeld2
  clear hHeld2
  (try simp only [Act.put, List.setIfInBounds_toArray, List.set_cons_zero, List.set_cons_succ])
  refine wpAnyH_take (i := 30) (oi := { dst := some 64, op := Go.Op.binOp Go.BinOp.eql 67 (Go.Operand.tmp 63) (Go.Operand.const (Go.Value.int Go.IntKind.i64 8)) 67, type := 4, pos := _, after := #[{ on := 29, ground := Go.Ground.data }, { on := 27, ground := Go.Ground.guard }], guard := some (27, true) }) (v := ?vr1_31_30) rfl (by kernel_rfl) (by kernel_rfl) (by kernel_rfl) (fun _ _ _ h => h) (Or.inl ⟨by rfl, ?yr1_31_30⟩) hHeld ?_
  case yr1_31_30 => ((intro w hSw; (try dsimp only at hSw); go_simp) <;> with_reducible rfl)
  (try simp only [Act.put, List.setIfInBounds_toArray, List.set_cons_zero, List.set_cons_succ])
  refine wpAnyH_take (i := 31) (oi := { dst := some 65, op := Go.Op.pick (Go.Operand.tmp 61) (Go.Operand.tmp 64) (Go.Operand.const (Go.Value.bool false)), type := 4, pos := _, after := #[{ on := 27, ground := Go.Ground.data }, { on := 30, ground := Go.Ground.data }], guard := none }) (v := ?vr1_32_31) rfl (by kernel_rfl) (by kernel_rfl) (by kernel_rfl) (fun _ _ _ h => h) (Or.inl ⟨by rfl, ?yr1_32_31⟩) hHeld ?_
  case yr1_32_31 => ((intro w hSw; (try dsimp only at hSw); go_simp) <;> with_reducible rfl)
  (try simp only [Act.put, List.setIfInBounds_toArray, List.set_cons_zero, List.set_cons_succ])
  refine wpAnyH_take (i := 32) (oi := { dst := some 0, op := Go.Op.assign (Go.Operand.tmp 65), type := 4, pos := _, after := #[{ on := 31, ground := Go.Ground.data }, { on := 29, ground := Go.Ground.chain }, { on := 0, ground := Go.Ground.phase }, { on := 1, ground := Go.Ground.phase }, { on := 2, ground := Go.Ground.phase }, { on := 3, ground := Go.Ground.phase }, { on := 4, ground := Go.Ground.phase }, { on := 5, ground := Go.Ground.phase }, { on := 6, ground := Go.Ground.phase }, { on := 7, ground := Go.Ground.phase }, { on := 8, ground := Go.Ground.phase }, { on := 9, ground := Go.Ground.phase }, { on := 10, ground := Go.Ground.phase }, { on := 11, ground := Go.Ground.phase }, { on := 12, ground := Go.Ground.phase }, { on := 13, ground := Go.Ground.phase }, { on := 14, ground := Go.Ground.phase }, { on := 15, ground := Go.Ground.phase }, { on := 16, ground := Go.Ground.phase }, { on := 17, ground := Go.Ground.phase }, { on := 18, ground := Go.Ground.phase }, { on := 19, ground := Go.Ground.phase }, { on := 20, ground := Go.Ground.phase }, { on := 21, ground := Go.Ground.phase }, { on := 22, ground := Go.Ground.phase }, { on := 23, ground := Go.Ground.phase }, { on := 24, ground := Go.Ground.phase }, { on := 25, ground := Go.Ground.phase }, { on := 26, ground := Go.Ground.phase }, { on := 27, ground := Go.Ground.phase }, { on := 28, ground := Go.Ground.phase }, { on := 29, ground := Go.Ground.phase }, { on := 30, ground := Go.Ground.phase }, { on := 31, ground := Go.Ground.phase }], guard := none }) (v := ?vr1_33_32) rfl (by kernel_rfl) (by kernel_rfl) (by kernel_rfl) (fun _ _ _ h => h) (Or.inl ⟨by rfl, ?yr1_33_32⟩) hHeld ?_
  case yr1_33_32 => ((intro w hSw; (try dsimp only at hSw); go_simp) <;> with_reducible rfl)
  (try simp only [Act.put, List.setIfInBounds_toArray, List.set_cons_zero, List.set_cons_succ])
  refine wpAnyH_done (by kernel_rfl) ?_ _
  go_wp2
  go_ret
  exact ⟨rfl, hHeld.2.2.2.2.2.2⟩
end Go.Proofs.Ytgioompelogopaa
