/- V8: what the theorem needs of these texts. No conditions beyond those that are written. -/
import Derived.Test.YthohpcbfohlmhaaJRefSubN
namespace Go.Proofs.Ythohpcbfohlmhaa
set_option linter.unusedVariables false
set_option linter.unusedSimpArgs false
open Go.RowKit
theorem refAddW (S x : Int) (hx : Word x) (w : World) : Calls Try.prog 23 #[.agg #[.int .u64 (hi S), .int .u64 (lo S)], .agg #[.int .u64 0, .int .u64 x]] w fun e w' => e = .returned (.tuple #[.agg #[.int .u64 (hi (S + x)), .int .u64 (lo (S + x))], .bool (addB (S % MM) (x % MM))]) ∧ Below w.heap.size w w' := by
  have h := refAdd_t S x w
  rw [hi_word hx, lo_word hx] at h
  exact h
theorem eqlr (x0 x1 y0 y1 : Int) (w : World) : (binOp .eql 34 (.agg #[.int .u64 x0, .int .u64 x1]) (.agg #[.int .u64 y0, .int .u64 y1])).run Try.prog w = .ok (.bool (decide (x0 = y0 ∧ x1 = y1))) w := by
  by_cases h0 : x0 = y0 <;> by_cases h1 : x1 = y1 <;> simp [go_sem, h0, h1]
set_option maxRecDepth 100000 in
set_option maxHeartbeats 6400000 in
theorem ratioSums_any (v : Value) (ls : List Int) (n P M : Int) (hn : Word n) (p0 : 0 ≤ P) (p1 : P < MM) (m0 : 0 ≤ M) (m1 : M < MM) (w : World) (hu : US w v ls) :
    Calls Try.prog 5 #[v, .int .u64 n, .agg #[.int .u64 (hi P), .int .u64 (lo P)], .agg #[.int .u64 (hi M), .int .u64 (lo M)]] w fun e w' => e = .returned (.bool true) ∧ Below w.heap.size w w' := by
  have hcS := fun w' (hb : Below w.heap.size w w') => sum_t v ls w' (hu.later hb)
  have c2 := fun w => clip_t n P M hn p0 p1 m0 m1 w
  have c3 := fun w => rclip_t n P M hn p0 p1 m0 m1 w
  have HCS := Lib.hid hcS
  clear hcS
  obtain ⟨p, c, rfl, hc, h1, h2, h3⟩ := hu
  generalize hN : ls.length = N at *
  have hC : ∀ j x, ls[j]? = some x → ∃ g o, p = some ⟨g, o, none⟩ ∧ g < w.heap.size ∧ w.cell? ⟨g, o + j, none⟩ = some (.int .u64 x) := fun j x hj => by
    obtain ⟨g, o, e, hg, hx⟩ := h1 (by have := (List.getElem?_eq_some_iff.1 hj).1; omega)
    exact ⟨g, o, e, hg, hx j x hj⟩
  have HC := Lib.hid hC; clear hC h1
  have HW := Lib.hid h2; clear h2
  generalize clipI n P M = X at *
  clear p0 p1 m0 m1 hn
  go_enter Try.func5, Try.ntmps5
  have A0 : Row (((w.alloc (.cells #[.int .u64 (hi P), .int .u64 (lo P)] 31)).alloc (.cells #[.int .u64 (hi M), .int .u64 (lo M)] 31)).alloc (.cells #[.int .u64 0, .int .u64 0] 34)) w.heap.size #[.int .u64 (hi P), .int .u64 (lo P)] 31 := by simpa using ((Row.new w #[.int .u64 (hi P), .int .u64 (lo P)] 31).alloc (.cells #[.int .u64 (hi M), .int .u64 (lo M)] 31)).alloc (.cells #[.int .u64 0, .int .u64 0] 34)
  have A1 : Row (((w.alloc (.cells #[.int .u64 (hi P), .int .u64 (lo P)] 31)).alloc (.cells #[.int .u64 (hi M), .int .u64 (lo M)] 31)).alloc (.cells #[.int .u64 0, .int .u64 0] 34)) (w.heap.size + 1) #[.int .u64 (hi M), .int .u64 (lo M)] 31 := by simpa using (Row.new (w.alloc (.cells #[.int .u64 (hi P), .int .u64 (lo P)] 31)) #[.int .u64 (hi M), .int .u64 (lo M)] 31).alloc (.cells #[.int .u64 0, .int .u64 0] 34)
  have A2 : Row (((w.alloc (.cells #[.int .u64 (hi P), .int .u64 (lo P)] 31)).alloc (.cells #[.int .u64 (hi M), .int .u64 (lo M)] 31)).alloc (.cells #[.int .u64 0, .int .u64 0] 34)) (w.heap.size + 2) #[.int .u64 0, .int .u64 0] 34 := by simpa using Row.new ((w.alloc (.cells #[.int .u64 (hi P), .int .u64 (lo P)] 31)).alloc (.cells #[.int .u64 (hi M), .int .u64 (lo M)] 31)) #[.int .u64 0, .int .u64 0] 34
  have hB : Below w.heap.size w (((w.alloc (.cells #[.int .u64 (hi P), .int .u64 (lo P)] 31)).alloc (.cells #[.int .u64 (hi M), .int .u64 (lo M)] 31)).alloc (.cells #[.int .u64 0, .int .u64 0] 34)) := (by repeat (first | exact Below.refl _ _ | assumption | (with_reducible refine Below.setCell ?_ ?h _; case h => first | omega | (simp; done) | (simp; omega)) | (with_reducible refine Below.alloc ?_ ?h _; case h => first | omega | (simp; done) | (simp; omega)) | (with_reducible refine Below.drew ?_) | (with_reducible refine Below.trans ?_ (hb4.mono ?h); case h => first | omega | (simp; done) | (simp; omega)) | (with_reducible refine Below.trans ?_ (hb3.mono ?h); case h => first | omega | (simp; done) | (simp; omega)) | (with_reducible refine Below.trans ?_ (hb2.mono ?h); case h => first | omega | (simp; done) | (simp; omega)) | (with_reducible refine Below.trans ?_ (hb.mono ?h); case h => first | omega | (simp; done) | (simp; omega)) | (with_reducible refine Below.trans ?_ (hb0.mono ?h); case h => first | omega | (simp; done) | (simp; omega))))
  have HA := Lib.hid (And.intro A0 (And.intro A1 (And.intro A2 hB)))
  clear A0 A1 A2 hB
  go_wp2_with fail
  obtain ⟨A0, A1, A2, hB⟩ := HA.out
  clear HA
  generalize ((w.alloc (.cells #[.int .u64 (hi P), .int .u64 (lo P)] 31)).alloc (.cells #[.int .u64 (hi M), .int .u64 (lo M)] 31)).alloc (.cells #[.int .u64 0, .int .u64 0] 34) = w2 at *
  go_loopw [10] (fun i wr => ∃ k : Nat, k ≤ N ∧ i = .int .i64 k ∧ Row wr w.heap.size #[.int .u64 (hi P), .int .u64 (lo P)] 31 ∧ Row wr (w.heap.size + 1) #[.int .u64 (hi M), .int .u64 (lo M)] 31 ∧ Row wr (w.heap.size + 2) #[.int .u64 (hi (sumI (ls.take k))), .int .u64 (lo (sumI (ls.take k)))] 34 ∧ Below w.heap.size w wr) (fun i _ => N - (intOf i).toNat)
  case atStart => exact ⟨0, by omega, rfl, A0, A1, by simpa [sumI, hi, lo] using A2, hB⟩
  case round =>
    clear A0 A1 A2 hB
    obtain ⟨k, hk, rfl, A0, A1, A2, hB⟩ := hrel
    by_cases hlt : k < N
    · have hkb : decide ((k : Int) < N) = true := by simp; omega
      obtain ⟨x, hx⟩ : ∃ x, ls[k]? = some x := ⟨ls[k]'(by omega), List.getElem?_eq_getElem (by omega)⟩
      obtain ⟨gs, o, rfl, hgs, hcell⟩ := HC.out k x hx
      have hw := HW.out x (List.mem_of_getElem? hx)
      replace hcell := cell_later hB hcell
      have hbk : (k : Int) < N := by omega
      have hbk0 : (0 : Int) ≤ k := by omega
      have hsum := sumI_take hx
      have ho := fun S => refAddW S x hw
      generalize hSk : sumI (ls.take k) = S at A2 hsum
      have HS := Lib.hid hsum.symm
      clear hsum
      have c0 := (A2.cell 0).trans (show _ = some (Value.int .u64 (hi S)) from rfl)
      have c1 := (A2.cell 1).trans (show _ = some (Value.int .u64 (lo S)) from rfl)
      go_wp2_with fail
      have l3 := A2.lt
      go_region_with (first
        | (go_at_call 23; refine (ho S _).mono ?_; rintro e w4 ⟨rfl, hb4⟩; have P0 := A0.drew.later hb4; have P1 := A1.drew.later hb4; have P2 := A2.drew.later hb4; have e0 := (P2.cell 0).trans (show _ = some (Value.int .u64 (hi S)) from rfl); have e1 := (P2.cell 1).trans (show _ = some (Value.int .u64 (lo S)) from rfl); have e2 := P2.frozen 0; have e3 := P2.frozen 1; have hb6 := below_step hB.drew hb4; clear c0 c1 hcell))
      all_goals go_wp2
      all_goals exact ⟨⟨k + 1, by omega, by go_num, (P0.set_far _ _ (by simp <;> omega)).set_far _ _ (by simp <;> omega), (P1.set_far _ _ (by simp <;> omega)).set_far _ _ (by simp <;> omega), by have Q := (P2.set 0 (.int .u64 (hi (S + x)))).set 1 (.int .u64 (lo (S + x))); rw [← HS.out]; simpa using Q, (hb6.setCell (by simp <;> omega) _).setCell (by simp <;> omega) _⟩, by simp [intOf]; omega⟩
    · obtain rfl : k = N := by omega
      have ha : ls.take k = ls := List.take_of_length_le (by omega)
      rw [ha] at A2
      clear ha
      generalize sumI ls = S at *
      have a0 := (A0.cell 0).trans (show _ = some (Value.int .u64 (hi P)) from rfl)
      have a1 := (A0.cell 1).trans (show _ = some (Value.int .u64 (lo P)) from rfl)
      have b0 := (A1.cell 0).trans (show _ = some (Value.int .u64 (hi M)) from rfl)
      have b1 := (A1.cell 1).trans (show _ = some (Value.int .u64 (lo M)) from rfl)
      have c0 := (A2.cell 0).trans (show _ = some (Value.int .u64 (hi S)) from rfl)
      have c1 := (A2.cell 1).trans (show _ = some (Value.int .u64 (lo S)) from rfl)
      clear A0 A1 A2
      have eqS := eqlr (hi S) (lo S) (hi S) (lo S)
      go_wp2_with fail
      refine wp_region_held_drew (S := (fun w' => w'.cell? ⟨w.heap.size, 0, none⟩ = some (.int .u64 (hi P)) ∧ w'.cell? ⟨w.heap.size, 1, none⟩ = some (.int .u64 (lo P)) ∧ w'.cell? ⟨w.heap.size + 1, 0, none⟩ = some (.int .u64 (hi M)) ∧ w'.cell? ⟨w.heap.size + 1, 1, none⟩ = some (.int .u64 (lo M)) ∧ w'.cell? ⟨w.heap.size + 2, 0, none⟩ = some (.int .u64 (hi S)) ∧ w'.cell? ⟨w.heap.size + 2, 1, none⟩ = some (.int .u64 (lo S)) ∧ Below w.heap.size w w')) (by kernel_rfl) ?hSr1_ (fun hHeld => ?_)
      case hSr1_ => (first | exact ⟨a0, a1, b0, b1, c0, c1, hB.drew⟩ | exact ⟨cell_later hq hHeld.1, cell_later hq hHeld.2.1, cell_later hq hHeld.2.2.1, cell_later hq hHeld.2.2.2.1, cell_later hq hHeld.2.2.2.2.1, cell_later hq hHeld.2.2.2.2.2.1, below_step hHeld.2.2.2.2.2.2 hq⟩)
      refine wpAnyH_ready (rs := [0]) (by kernel_rfl) (by simp) ?_
      refine AllReadyH.cons (o := { dst := some 27, op := Go.Op.call { callee := Go.Callee.value (Go.Operand.func 10), args := #[], argTypes := #[] }, type := 4, pos := _, after := #[], guard := none }) rfl (fun K hK => ?_) AllReadyH.nil
      go_simp
      (refine (alive12_t _).mono ?_; rintro e wn ⟨rfl, hq⟩)
      go_wp2_with fail
      refine hK.out _ _ ?hSr1_1_0 (fun hHeld2 => ?_)
      case hSr1_1_0 => (first | exact ⟨a0, a1, b0, b1, c0, c1, hB.drew⟩ | exact ⟨cell_later hq hHeld.1, cell_later hq hHeld.2.1, cell_later hq hHeld.2.2.1, cell_later hq hHeld.2.2.2.1, cell_later hq hHeld.2.2.2.2.1, cell_later hq hHeld.2.2.2.2.2.1, below_step hHeld.2.2.2.2.2.2 hq⟩)
      clear hK K hHeld
      have hHeld := hHeld2
      clear hHeld2
      (try simp only [Act.put, List.setIfInBounds_toArray, List.set_cons_zero, List.set_cons_succ])
      refine wpAnyH_take (i := 1) (oi := { dst := some 28, op := Go.Op.move (Go.Operand.tmp 27), type := 4, pos := _, after := #[{ on := 0, ground := Go.Ground.data }, { on := 0, ground := Go.Ground.chain }], guard := none }) (v := ?vr1_2_1) rfl (by kernel_rfl) (by kernel_rfl) (by kernel_rfl) (fun _ _ _ h => h) (Or.inl ⟨by rfl, ?yr1_2_1⟩) hHeld ?_
      case yr1_2_1 => ((intro w hSw; (try dsimp only at hSw); go_simp) <;> with_reducible rfl)
      (try simp only [Act.put, List.setIfInBounds_toArray, List.set_cons_zero, List.set_cons_succ])
      refine wpAnyH_take (i := 2) (oi := { dst := some 29, op := Go.Op.move (Go.Operand.tmp 0), type := 40, pos := _, after := #[{ on := 1, ground := Go.Ground.guard }], guard := some (1, true) }) (v := ?vr1_3_2) rfl (by kernel_rfl) (by kernel_rfl) (by kernel_rfl) (fun _ _ _ h => h) (Or.inl ⟨by rfl, ?yr1_3_2⟩) hHeld ?_
      case yr1_3_2 => ((intro w hSw; (try dsimp only at hSw); go_simp) <;> with_reducible rfl)
      (try simp only [Act.put, List.setIfInBounds_toArray, List.set_cons_zero, List.set_cons_succ])
      refine wpAnyH_take (i := 5) (oi := { dst := some 32, op := Go.Op.load 34 (Go.Operand.tmp 9), type := 34, pos := _, after := #[{ on := 1, ground := Go.Ground.guard }], guard := some (1, true) }) (v := ?vr1_4_5) rfl (by kernel_rfl) (by kernel_rfl) (by kernel_rfl) (fun _ _ _ h => h) (Or.inl ⟨by rfl, ?yr1_4_5⟩) hHeld ?_
      case yr1_4_5 => ((intro w hSw; (try dsimp only at hSw); go_simp) <;> with_reducible rfl)
      (try simp only [Act.put, List.setIfInBounds_toArray, List.set_cons_zero, List.set_cons_succ])
      refine wpAnyH_ready (rs := [3]) (by kernel_rfl) (by simp) ?_
      refine AllReadyH.cons (o := { dst := some 30, op := Go.Op.call { callee := Go.Callee.value (Go.Operand.func 25), args := #[Go.Operand.tmp 29], argTypes := #[40] }, type := 31, pos := _, after := #[{ on := 2, ground := Go.Ground.data }, { on := 1, ground := Go.Ground.chain }, { on := 1, ground := Go.Ground.guard }], guard := some (1, true) }) rfl (fun K hK => ?_) AllReadyH.nil
      go_simp
      (refine (HCS.out _ hHeld.2.2.2.2.2.2).mono ?_; rintro e wn ⟨rfl, hq⟩)
      go_wp2_with fail
      refine hK.out _ _ ?hSr1_5_3 (fun hHeld2 => ?_)
      case hSr1_5_3 => (first | exact ⟨a0, a1, b0, b1, c0, c1, hB.drew⟩ | exact ⟨cell_later hq hHeld.1, cell_later hq hHeld.2.1, cell_later hq hHeld.2.2.1, cell_later hq hHeld.2.2.2.1, cell_later hq hHeld.2.2.2.2.1, cell_later hq hHeld.2.2.2.2.2.1, below_step hHeld.2.2.2.2.2.2 hq⟩)
      clear hK K hHeld
      have hHeld := hHeld2
      clear hHeld2
      (try simp only [Act.put, List.setIfInBounds_toArray, List.set_cons_zero, List.set_cons_succ])
      refine wpAnyH_ready (rs := [4]) (by kernel_rfl) (by simp) ?_
      refine AllReadyH.cons (o := { dst := some 31, op := Go.Op.call { callee := Go.Callee.value (Go.Operand.func 24), args := #[Go.Operand.tmp 30], argTypes := #[31] }, type := 34, pos := _, after := #[{ on := 3, ground := Go.Ground.data }, { on := 3, ground := Go.Ground.chain }, { on := 1, ground := Go.Ground.guard }], guard := some (1, true) }) rfl (fun K hK => ?_) AllReadyH.nil
      go_simp
      (refine (as_h _ _).mono ?_; rintro e wn ⟨rfl, hq⟩)
      go_wp2_with fail
      refine hK.out _ _ ?hSr1_6_4 (fun hHeld2 => ?_)
      case hSr1_6_4 => (first | exact ⟨a0, a1, b0, b1, c0, c1, hB.drew⟩ | exact ⟨cell_later hq hHeld.1, cell_later hq hHeld.2.1, cell_later hq hHeld.2.2.1, cell_later hq hHeld.2.2.2.1, cell_later hq hHeld.2.2.2.2.1, cell_later hq hHeld.2.2.2.2.2.1, below_step hHeld.2.2.2.2.2.2 hq⟩)
      clear hK K hHeld
      have hHeld := hHeld2
      clear hHeld2
      (try simp only [Act.put, List.setIfInBounds_toArray, List.set_cons_zero, List.set_cons_succ])
      refine wpAnyH_take (i := 6) (oi := { dst := some 33, op := Go.Op.binOp Go.BinOp.eql 34 (Go.Operand.tmp 31) (Go.Operand.tmp 32) 34, type := 4, pos := _, after := #[{ on := 4, ground := Go.Ground.data }, { on := 5, ground := Go.Ground.data }, { on := 1, ground := Go.Ground.guard }], guard := some (1, true) }) (v := ?vr1_7_6) rfl (by kernel_rfl) (by kernel_rfl) (by kernel_rfl) (fun _ _ _ h => h) (Or.inl ⟨by rfl, ?yr1_7_6⟩) hHeld ?_
      case yr1_7_6 => ((intro w hSw; (try dsimp only at hSw); go_simp) <;> with_reducible rfl)
      (try simp only [Act.put, List.setIfInBounds_toArray, List.set_cons_zero, List.set_cons_succ])
      refine wpAnyH_take (i := 7) (oi := { dst := some 34, op := Go.Op.pick (Go.Operand.tmp 28) (Go.Operand.tmp 33) (Go.Operand.const (Go.Value.bool false)), type := 4, pos := _, after := #[{ on := 1, ground := Go.Ground.data }, { on := 6, ground := Go.Ground.data }], guard := none }) (v := ?vr1_8_7) rfl (by kernel_rfl) (by kernel_rfl) (by kernel_rfl) (fun _ _ _ h => h) (Or.inl ⟨by rfl, ?yr1_8_7⟩) hHeld ?_
      case yr1_8_7 => ((intro w hSw; (try dsimp only at hSw); go_simp) <;> with_reducible rfl)
      (try simp only [Act.put, List.setIfInBounds_toArray, List.set_cons_zero, List.set_cons_succ])
      refine wpAnyH_take (i := 8) (oi := { dst := some 35, op := Go.Op.move (Go.Operand.tmp 34), type := 4, pos := _, after := #[{ on := 7, ground := Go.Ground.data }, { on := 4, ground := Go.Ground.chain }], guard := none }) (v := ?vr1_9_8) rfl (by kernel_rfl) (by kernel_rfl) (by kernel_rfl) (fun _ _ _ h => h) (Or.inl ⟨by rfl, ?yr1_9_8⟩) hHeld ?_
      case yr1_9_8 => ((intro w hSw; (try dsimp only at hSw); go_simp) <;> with_reducible rfl)
      (try simp only [Act.put, List.setIfInBounds_toArray, List.set_cons_zero, List.set_cons_succ])
      refine wpAnyH_take (i := 9) (oi := { dst := some 36, op := Go.Op.move (Go.Operand.tmp 1), type := 22, pos := _, after := #[{ on := 8, ground := Go.Ground.guard }], guard := some (8, true) }) (v := ?vr1_10_9) rfl (by kernel_rfl) (by kernel_rfl) (by kernel_rfl) (fun _ _ _ h => h) (Or.inl ⟨by rfl, ?yr1_10_9⟩) hHeld ?_
      case yr1_10_9 => ((intro w hSw; (try dsimp only at hSw); go_simp) <;> with_reducible rfl)
      (try simp only [Act.put, List.setIfInBounds_toArray, List.set_cons_zero, List.set_cons_succ])
      refine wpAnyH_take (i := 10) (oi := { dst := some 37, op := Go.Op.load 31 (Go.Operand.tmp 6), type := 31, pos := _, after := #[{ on := 8, ground := Go.Ground.guard }], guard := some (8, true) }) (v := ?vr1_11_10) rfl (by kernel_rfl) (by kernel_rfl) (by kernel_rfl) (fun _ _ _ h => h) (Or.inl ⟨by rfl, ?yr1_11_10⟩) hHeld ?_
      case yr1_11_10 => ((intro w hSw; (try dsimp only at hSw); go_simp) <;> with_reducible rfl)
      (try simp only [Act.put, List.setIfInBounds_toArray, List.set_cons_zero, List.set_cons_succ])
      refine wpAnyH_take (i := 11) (oi := { dst := some 38, op := Go.Op.load 31 (Go.Operand.tmp 7), type := 31, pos := _, after := #[{ on := 8, ground := Go.Ground.guard }], guard := some (8, true) }) (v := ?vr1_12_11) rfl (by kernel_rfl) (by kernel_rfl) (by kernel_rfl) (fun _ _ _ h => h) (Or.inl ⟨by rfl, ?yr1_12_11⟩) hHeld ?_
      case yr1_12_11 => ((intro w hSw; (try dsimp only at hSw); go_simp) <;> with_reducible rfl)
      (try simp only [Act.put, List.setIfInBounds_toArray, List.set_cons_zero, List.set_cons_succ])
      refine wpAnyH_take (i := 13) (oi := { dst := some 40, op := Go.Op.move (Go.Operand.tmp 1), type := 22, pos := _, after := #[{ on := 8, ground := Go.Ground.guard }], guard := some (8, true) }) (v := ?vr1_13_13) rfl (by kernel_rfl) (by kernel_rfl) (by kernel_rfl) (fun _ _ _ h => h) (Or.inl ⟨by rfl, ?yr1_13_13⟩) hHeld ?_
      case yr1_13_13 => ((intro w hSw; (try dsimp only at hSw); go_simp) <;> with_reducible rfl)
      (try simp only [Act.put, List.setIfInBounds_toArray, List.set_cons_zero, List.set_cons_succ])
      refine wpAnyH_take (i := 14) (oi := { dst := some 41, op := Go.Op.load 31 (Go.Operand.tmp 6), type := 31, pos := _, after := #[{ on := 8, ground := Go.Ground.guard }], guard := some (8, true) }) (v := ?vr1_14_14) rfl (by kernel_rfl) (by kernel_rfl) (by kernel_rfl) (fun _ _ _ h => h) (Or.inl ⟨by rfl, ?yr1_14_14⟩) hHeld ?_
      case yr1_14_14 => ((intro w hSw; (try dsimp only at hSw); go_simp) <;> with_reducible rfl)
      (try simp only [Act.put, List.setIfInBounds_toArray, List.set_cons_zero, List.set_cons_succ])
      refine wpAnyH_take (i := 16) (oi := { dst := some 43, op := Go.Op.load 31 (Go.Operand.tmp 7), type := 31, pos := _, after := #[{ on := 8, ground := Go.Ground.guard }], guard := some (8, true) }) (v := ?vr1_15_16) rfl (by kernel_rfl) (by kernel_rfl) (by kernel_rfl) (fun _ _ _ h => h) (Or.inl ⟨by rfl, ?yr1_15_16⟩) hHeld ?_
      case yr1_15_16 => ((intro w hSw; (try dsimp only at hSw); go_simp) <;> with_reducible rfl)
      (try simp only [Act.put, List.setIfInBounds_toArray, List.set_cons_zero, List.set_cons_succ])
      refine wpAnyH_ready (rs := [12]) (by kernel_rfl) (by simp) ?_
      refine AllReadyH.cons (o := { dst := some 39, op := Go.Op.call { callee := Go.Callee.value (Go.Operand.func 26), args := #[Go.Operand.tmp 36, Go.Operand.tmp 37, Go.Operand.tmp 38], argTypes := #[22, 31, 31] }, type := 22, pos := _, after := #[{ on := 9, ground := Go.Ground.data }, { on := 10, ground := Go.Ground.data }, { on := 11, ground := Go.Ground.data }, { on := 8, ground := Go.Ground.chain }, { on := 8, ground := Go.Ground.guard }], guard := some (8, true) }) rfl (fun K hK => ?_) AllReadyH.nil
      go_simp
      (refine (c2 _).mono ?_; rintro e wn ⟨rfl, hq⟩)
      go_wp2_with fail
      refine hK.out _ _ ?hSr1_16_12 (fun hHeld2 => ?_)
      case hSr1_16_12 => (first | exact ⟨a0, a1, b0, b1, c0, c1, hB.drew⟩ | exact ⟨cell_later hq hHeld.1, cell_later hq hHeld.2.1, cell_later hq hHeld.2.2.1, cell_later hq hHeld.2.2.2.1, cell_later hq hHeld.2.2.2.2.1, cell_later hq hHeld.2.2.2.2.2.1, below_step hHeld.2.2.2.2.2.2 hq⟩)
      clear hK K hHeld
      have hHeld := hHeld2
      clear hHeld2
      (try simp only [Act.put, List.setIfInBounds_toArray, List.set_cons_zero, List.set_cons_succ])
      refine wpAnyH_ready (rs := [15]) (by kernel_rfl) (by simp) ?_
      refine AllReadyH.cons (o := { dst := some 42, op := Go.Op.call { callee := Go.Callee.value (Go.Operand.func 24), args := #[Go.Operand.tmp 41], argTypes := #[31] }, type := 34, pos := _, after := #[{ on := 14, ground := Go.Ground.data }, { on := 12, ground := Go.Ground.chain }, { on := 8, ground := Go.Ground.guard }], guard := some (8, true) }) rfl (fun K hK => ?_) AllReadyH.nil
      go_simp
      (refine (as_h _ _).mono ?_; rintro e wn ⟨rfl, hq⟩)
      go_wp2_with fail
      refine hK.out _ _ ?hSr1_17_15 (fun hHeld2 => ?_)
      case hSr1_17_15 => (first | exact ⟨a0, a1, b0, b1, c0, c1, hB.drew⟩ | exact ⟨cell_later hq hHeld.1, cell_later hq hHeld.2.1, cell_later hq hHeld.2.2.1, cell_later hq hHeld.2.2.2.1, cell_later hq hHeld.2.2.2.2.1, cell_later hq hHeld.2.2.2.2.2.1, below_step hHeld.2.2.2.2.2.2 hq⟩)
      clear hK K hHeld
      have hHeld := hHeld2
      clear hHeld2
      (try simp only [Act.put, List.setIfInBounds_toArray, List.set_cons_zero, List.set_cons_succ])
      refine wpAnyH_ready (rs := [17]) (by kernel_rfl) (by simp) ?_
      refine AllReadyH.cons (o := { dst := some 44, op := Go.Op.call { callee := Go.Callee.value (Go.Operand.func 24), args := #[Go.Operand.tmp 43], argTypes := #[31] }, type := 34, pos := _, after := #[{ on := 16, ground := Go.Ground.data }, { on := 15, ground := Go.Ground.chain }, { on := 8, ground := Go.Ground.guard }], guard := some (8, true) }) rfl (fun K hK => ?_) AllReadyH.nil
      go_simp
      (refine (as_h _ _).mono ?_; rintro e wn ⟨rfl, hq⟩)
      go_wp2_with fail
      refine hK.out _ _ ?hSr1_18_17 (fun hHeld2 => ?_)
      case hSr1_18_17 => (first | exact ⟨a0, a1, b0, b1, c0, c1, hB.drew⟩ | exact ⟨cell_later hq hHeld.1, cell_later hq hHeld.2.1, cell_later hq hHeld.2.2.1, cell_later hq hHeld.2.2.2.1, cell_later hq hHeld.2.2.2.2.1, cell_later hq hHeld.2.2.2.2.2.1, below_step hHeld.2.2.2.2.2.2 hq⟩)
      clear hK K hHeld
      have hHeld := hHeld2
      clear hHeld2
      (try simp only [Act.put, List.setIfInBounds_toArray, List.set_cons_zero, List.set_cons_succ])
      refine wpAnyH_ready (rs := [18]) (by kernel_rfl) (by simp) ?_
      refine AllReadyH.cons (o := { dst := some 45, op := Go.Op.call { callee := Go.Callee.value (Go.Operand.func 27), args := #[Go.Operand.tmp 40, Go.Operand.tmp 42, Go.Operand.tmp 44], argTypes := #[22, 34, 34] }, type := 22, pos := _, after := #[{ on := 13, ground := Go.Ground.data }, { on := 15, ground := Go.Ground.data }, { on := 17, ground := Go.Ground.data }, { on := 17, ground := Go.Ground.chain }, { on := 8, ground := Go.Ground.guard }], guard := some (8, true) }) rfl (fun K hK => ?_) AllReadyH.nil
      go_simp
      (refine (c3 _).mono ?_; rintro e wn ⟨rfl, hq⟩)
      go_wp2_with fail
      refine hK.out _ _ ?hSr1_19_18 (fun hHeld2 => ?_)
      case hSr1_19_18 => (first | exact ⟨a0, a1, b0, b1, c0, c1, hB.drew⟩ | exact ⟨cell_later hq hHeld.1, cell_later hq hHeld.2.1, cell_later hq hHeld.2.2.1, cell_later hq hHeld.2.2.2.1, cell_later hq hHeld.2.2.2.2.1, cell_later hq hHeld.2.2.2.2.2.1, below_step hHeld.2.2.2.2.2.2 hq⟩)
      clear hK K hHeld
      have hHeld := hHeld2
      clear hHeld2
      (try simp only [Act.put, List.setIfInBounds_toArray, List.set_cons_zero, List.set_cons_succ])
      refine wpAnyH_take (i := 19) (oi := { dst := some 46, op := Go.Op.binOp Go.BinOp.eql 22 (Go.Operand.tmp 39) (Go.Operand.tmp 45) 22, type := 4, pos := _, after := #[{ on := 12, ground := Go.Ground.data }, { on := 18, ground := Go.Ground.data }, { on := 8, ground := Go.Ground.guard }], guard := some (8, true) }) (v := ?vr1_20_19) rfl (by kernel_rfl) (by kernel_rfl) (by kernel_rfl) (fun _ _ _ h => h) (Or.inl ⟨by rfl, ?yr1_20_19⟩) hHeld ?_
      case yr1_20_19 => ((intro w hSw; (try dsimp only at hSw); go_simp) <;> with_reducible rfl)
      (try simp only [Act.put, List.setIfInBounds_toArray, List.set_cons_zero, List.set_cons_succ])
      refine wpAnyH_take (i := 20) (oi := { dst := some 47, op := Go.Op.pick (Go.Operand.tmp 35) (Go.Operand.tmp 46) (Go.Operand.const (Go.Value.bool false)), type := 4, pos := _, after := #[{ on := 8, ground := Go.Ground.data }, { on := 19, ground := Go.Ground.data }], guard := none }) (v := ?vr1_21_20) rfl (by kernel_rfl) (by kernel_rfl) (by kernel_rfl) (fun _ _ _ h => h) (Or.inl ⟨by rfl, ?yr1_21_20⟩) hHeld ?_
      case yr1_21_20 => ((intro w hSw; (try dsimp only at hSw); go_simp) <;> with_reducible rfl)
      (try simp only [Act.put, List.setIfInBounds_toArray, List.set_cons_zero, List.set_cons_succ])
      refine wpAnyH_take (i := 21) (oi := { dst := some 8, op := Go.Op.assign (Go.Operand.tmp 47), type := 4, pos := _, after := #[{ on := 20, ground := Go.Ground.data }, { on := 18, ground := Go.Ground.chain }, { on := 0, ground := Go.Ground.phase }, { on := 1, ground := Go.Ground.phase }, { on := 2, ground := Go.Ground.phase }, { on := 3, ground := Go.Ground.phase }, { on := 4, ground := Go.Ground.phase }, { on := 5, ground := Go.Ground.phase }, { on := 6, ground := Go.Ground.phase }, { on := 7, ground := Go.Ground.phase }, { on := 8, ground := Go.Ground.phase }, { on := 9, ground := Go.Ground.phase }, { on := 10, ground := Go.Ground.phase }, { on := 11, ground := Go.Ground.phase }, { on := 12, ground := Go.Ground.phase }, { on := 13, ground := Go.Ground.phase }, { on := 14, ground := Go.Ground.phase }, { on := 15, ground := Go.Ground.phase }, { on := 16, ground := Go.Ground.phase }, { on := 17, ground := Go.Ground.phase }, { on := 18, ground := Go.Ground.phase }, { on := 19, ground := Go.Ground.phase }, { on := 20, ground := Go.Ground.phase }], guard := none }) (v := ?vr1_22_21) rfl (by kernel_rfl) (by kernel_rfl) (by kernel_rfl) (fun _ _ _ h => h) (Or.inl ⟨by rfl, ?yr1_22_21⟩) hHeld ?_
      case yr1_22_21 => ((intro w hSw; (try dsimp only at hSw); go_simp) <;> with_reducible rfl)
      (try simp only [Act.put, List.setIfInBounds_toArray, List.set_cons_zero, List.set_cons_succ])
      refine wpAnyH_done (by kernel_rfl) ?_ _
      have hb := hHeld.2.2.2.2.2.2
      clear hHeld a0 a1 b0 b1 c0 c1 hB
      go_wp2_with fail
      exact bodyPost_ret (v := .bool true) (by simp [results, Try.results5, go_sem]) rfl ⟨rfl, hb⟩
end Go.Proofs.Ythohpcbfohlmhaa
