/- The reference's Most and Parse: the greatest number's text, and the number of a text. No conditions beyond digits and length. -/
import Derived.Test.YtbhaoafngneclaaDoorNR4
namespace Go.Proofs.YtbhaoafngneclaaDoor
set_option linter.unusedVariables false
set_option linter.unusedSimpArgs false
open Go.RowKit
set_option maxHeartbeats 800000 in
theorem refMost_t (w : World) : Calls Tryd.prog 15 #[] w fun e w' => e = .returned (.string ⟨(decN 340282366920938463463374607431768211455).toArray⟩) ∧ Below w.heap.size w w' := by
  have hP := fun w => refPrint_t 340282366920938463463374607431768211455 (by decide +kernel) w
  rw [show hi ((340282366920938463463374607431768211455 : Nat) : Int) = 18446744073709551615 by decide +kernel, show lo ((340282366920938463463374607431768211455 : Nat) : Int) = 18446744073709551615 by decide +kernel] at hP
  have hb : Below w.heap.size w w := Below.refl _ _
  generalize decN 340282366920938463463374607431768211455 = m at *
  go_enter Tryd.func15, Tryd.ntmps15
  go_wp2_with fail
  refine (hP _).mono ?_
  rintro e w1 ⟨rfl, hb2⟩
  replace hb := below_step hb hb2
  clear hb2 
  go_wp2
  go_ret
  exact ⟨rfl, hb⟩
set_option maxRecDepth 100000 in
set_option maxHeartbeats 3200000 in
theorem refParse_t (l : List UInt8) (hl : l.length ≤ 1000) (hd : digs l) (w : World) : Calls Tryd.prog 16 #[.string ⟨l.toArray⟩] w fun e w' => e = .returned (.agg #[.int .u64 (hi (valT l)), .int .u64 (lo (valT l))]) ∧ Below w.heap.size w w' := by
  have hsz := bs_size l
  have HD := Lib.hid hd
  clear hd
  have R2 : Row ((w.alloc (.cells #[.int .u64 0, .int .u64 0] 28)).alloc (.cells #[.int .u64 0, .int .u64 0] 28)) w.heap.size #[.int .u64 0, .int .u64 0] 28 := (Row.new w _ _).alloc _
  have R3 : Row ((w.alloc (.cells #[.int .u64 0, .int .u64 0] 28)).alloc (.cells #[.int .u64 0, .int .u64 0] 28)) (w.heap.size + 1) #[.int .u64 0, .int .u64 0] 28 := by
    have := Row.new (w.alloc (.cells #[.int .u64 0, .int .u64 0] 28)) #[.int .u64 0, .int .u64 0] 28
    rwa [World.size_alloc] at this
  have hb : Below w.heap.size w ((w.alloc (.cells #[.int .u64 0, .int .u64 0] 28)).alloc (.cells #[.int .u64 0, .int .u64 0] 28)) := (by repeat (first | exact Below.refl _ _ | assumption | (with_reducible refine Below.setCell ?_ ?h _; case h => first | omega | (simp; done) | (simp; omega)) | (with_reducible refine Below.alloc ?_ ?h _; case h => first | omega | (simp; done) | (simp; omega)) | (with_reducible refine Below.drew ?_) | (with_reducible refine Below.trans ?_ (hb4.mono ?h); case h => first | omega | (simp; done) | (simp; omega)) | (with_reducible refine Below.trans ?_ (hb3.mono ?h); case h => first | omega | (simp; done) | (simp; omega)) | (with_reducible refine Below.trans ?_ (hb2.mono ?h); case h => first | omega | (simp; done) | (simp; omega)) | (with_reducible refine Below.trans ?_ (hb.mono ?h); case h => first | omega | (simp; done) | (simp; omega)) | (with_reducible refine Below.trans ?_ (hb0.mono ?h); case h => first | omega | (simp; done) | (simp; omega))))
  have HR := Lib.hid (And.intro R2 (And.intro R3 hb))
  clear R2 R3 hb
  go_enter Tryd.func16, Tryd.ntmps16
  go_wp2_with fail
  generalize (w.alloc (.cells #[.int .u64 0, .int .u64 0] 28)).alloc (.cells #[.int .u64 0, .int .u64 0] 28) = w0 at *
  go_loopw [4] (fun i wr => ∃ (j : Nat), j ≤ l.length ∧ i = .int .i64 j ∧ Row wr w.heap.size #[.int .u64 0, .int .u64 0] 28 ∧ Row wr (w.heap.size + 1) #[.int .u64 (hi (valT (l.take j))), .int .u64 (lo (valT (l.take j)))] 28 ∧ Below w.heap.size w wr) (fun i _ => l.length - (intOf i).toNat)
  case atStart =>
    obtain ⟨R2, R3, hb⟩ := HR.out
    exact ⟨0, by omega, rfl, R2, by rw [List.take_zero]; exact R3, hb⟩
  case round =>
    clear HR
    obtain ⟨j, hj, rfl, R2, R3, hb⟩ := hrel
    by_cases hlt : j < l.length
    · have hst := valT_step l j hlt
      obtain ⟨hc1, hc2⟩ := HD.out l[j] (List.getElem_mem hlt)
      obtain ⟨c, hlj⟩ : ∃ c, l[j] = c := ⟨_, rfl⟩
      rw [hlj] at hst hc1 hc2
      have hsp : j < (⟨l.toArray⟩ : ByteArray).size := by rw [hsz]; exact hlt
      have hch : (⟨l.toArray⟩ : ByteArray)[j]'hsp = c := hlj
      clear hlj
      have hlt' : (j : Int) < (l.length : Int) := by omega
      obtain ⟨v2, hv2⟩ : ∃ v2, valT (l.take (j + 1)) = v2 := ⟨_, rfl⟩
      rw [hv2] at hst
      obtain ⟨v, hv⟩ : ∃ v, valT (l.take j) = v := ⟨_, rfl⟩
      rw [hv] at R3 hst
      have HV := Lib.hid hv2
      clear hv hv2
      obtain ⟨d, hdd⟩ : ∃ d : Int, d = (c.toNat : Int) - 48 := ⟨_, rfl⟩
      have hA1 := fun w => refAdd_t (v : Int) (v : Int) w
      obtain ⟨T, hT⟩ : ∃ T : Int, T = (v : Int) + v := ⟨_, rfl⟩
      rw [← hT] at hA1
      have hA2 := fun w => refAdd_t T T w
      obtain ⟨F, hF⟩ : ∃ F : Int, F = T + T := ⟨_, rfl⟩
      rw [← hF] at hA2
      have hA3 := fun w => refAdd_t F (v : Int) w
      obtain ⟨G, hG⟩ : ∃ G : Int, G = F + (v : Int) := ⟨_, rfl⟩
      rw [← hG] at hA3
      have hA4 := fun w => refAdd_t G G w
      obtain ⟨E, hE⟩ : ∃ E : Int, E = G + G := ⟨_, rfl⟩
      rw [← hE] at hA4
      have hA5 := fun w => refAdd_t E d w
      have hsum : E + d = (v2 : Int) := by omega
      rw [hsum, show hi d = 0 by unfold hi; omega, show lo d = d by unfold lo; omega] at hA5
      have hw1 : IntKind.u64.wrap (c.toNat : Int) = (c.toNat : Int) := by rw [IntKind.wrap_u64]; omega
      have hw2 : IntKind.u64.wrap ((c.toNat : Int) - 48) = d := by rw [IntKind.wrap_u64]; omega
      have HA := Lib.hid (And.intro hA2 (And.intro hA3 (And.intro hA4 (And.intro hA5 (And.intro hw1 (And.intro hw2 hch))))))
      clear hA2 hA3 hA4 hA5 hT hF hG hE hsum hst hdd hw1 hw2 hc1 hc2
      generalize addB (v % MM) (v % MM) = o1 at *
      have a0 := (R3.cell 0).trans (show _ = some (Value.int .u64 (hi (v : Nat))) from rfl)
      have a1 := (R3.cell 1).trans (show _ = some (Value.int .u64 (lo (v : Nat))) from rfl)
      have HR := Lib.hid (And.intro R2 (And.intro R3 hb))
      clear R2 R3 hb
      go_wp2_with fail
      obtain ⟨R2, R3, hb⟩ := HR.out
      clear a0 a1 HR
      obtain ⟨hA2, hA3, hA4, hA5, hw1, hw2, hch⟩ := HA.out
      clear HA
      refine (hA1 _).mono ?_
      rintro e w1 ⟨rfl, hb9⟩
      replace R2 := R2.later hb9
      replace R3 := R3.later hb9
      replace hb := below_step hb hb9
      clear hb9 hA1
      have a0 := (R3.cell 0).trans (show _ = some (Value.int .u64 (hi (v : Nat))) from rfl)
      have a1 := (R3.cell 1).trans (show _ = some (Value.int .u64 (lo (v : Nat))) from rfl)
      have hne : ¬ w.heap.size + 1 = w1.heap.size := Nat.ne_of_lt R3.lt
      have hlq : w.heap.size + 1 < w1.heap.size := R3.lt
      have HR := Lib.hid (And.intro (R2.alloc (.cells #[.int .u64 (hi T), .int .u64 (lo T)] 28)) (And.intro (R3.alloc (.cells #[.int .u64 (hi T), .int .u64 (lo T)] 28)) (And.intro (Row.new w1 #[.int .u64 (hi T), .int .u64 (lo T)] 28) (And.intro hne (below_step hb ((Below.refl w1.heap.size w1).alloc (Nat.le_refl _) (.cells #[.int .u64 (hi T), .int .u64 (lo T)] 28)))))))
      have HX := Lib.hid (And.intro hw1 (And.intro hw2 hch))
      clear R2 R3 hb hw1 hw2 hch
      go_wp2_with fail
      obtain ⟨hw1, hw2, hch⟩ := HX.out
      clear HX
      obtain ⟨R2, R3, R5, hnp, hb⟩ := HR.out
      clear HR a0 a1 hne hlq
      generalize w1.alloc (.cells #[.int .u64 (hi T), .int .u64 (lo T)] 28) = W1 at *
      generalize w1.heap.size = p5 at *
      refine (hA2 _).mono ?_
      rintro e w2 ⟨rfl, hb9⟩
      replace R2 := R2.later hb9
      replace R3 := R3.later hb9
      replace hb := below_step hb hb9
      clear hb9 hA2
      have a0 := (R3.cell 0).trans (show _ = some (Value.int .u64 (hi (v : Nat))) from rfl)
      have a1 := (R3.cell 1).trans (show _ = some (Value.int .u64 (lo (v : Nat))) from rfl)
      have hne : ¬ w.heap.size + 1 = w2.heap.size := Nat.ne_of_lt R3.lt
      have hlq : w.heap.size + 1 < w2.heap.size := R3.lt
      have HR := Lib.hid (And.intro (R2.alloc (.cells #[.int .u64 (hi F), .int .u64 (lo F)] 28)) (And.intro (R3.alloc (.cells #[.int .u64 (hi F), .int .u64 (lo F)] 28)) (And.intro (Row.new w2 #[.int .u64 (hi F), .int .u64 (lo F)] 28) (And.intro hne (below_step hb ((Below.refl w2.heap.size w2).alloc (Nat.le_refl _) (.cells #[.int .u64 (hi F), .int .u64 (lo F)] 28)))))))
      have HX := Lib.hid (And.intro hw1 (And.intro hw2 hch))
      clear R2 R3 hb hw1 hw2 hch
      go_wp2_with fail
      obtain ⟨hw1, hw2, hch⟩ := HX.out
      clear HX
      obtain ⟨R2, R3, R7, hnp, hb⟩ := HR.out
      clear HR a0 a1 hne hlq
      generalize w2.alloc (.cells #[.int .u64 (hi F), .int .u64 (lo F)] 28) = W2 at *
      generalize w2.heap.size = p7 at *
      refine (hA3 _).mono ?_
      rintro e w3 ⟨rfl, hb9⟩
      replace R2 := R2.later hb9
      replace R3 := R3.later hb9
      replace hb := below_step hb hb9
      clear hb9 hA3
      have a0 := (R3.cell 0).trans (show _ = some (Value.int .u64 (hi (v : Nat))) from rfl)
      have a1 := (R3.cell 1).trans (show _ = some (Value.int .u64 (lo (v : Nat))) from rfl)
      have hne : ¬ w.heap.size + 1 = w3.heap.size := Nat.ne_of_lt R3.lt
      have hlq : w.heap.size + 1 < w3.heap.size := R3.lt
      have HR := Lib.hid (And.intro (R2.alloc (.cells #[.int .u64 (hi G), .int .u64 (lo G)] 28)) (And.intro (R3.alloc (.cells #[.int .u64 (hi G), .int .u64 (lo G)] 28)) (And.intro (Row.new w3 #[.int .u64 (hi G), .int .u64 (lo G)] 28) (And.intro hne (below_step hb ((Below.refl w3.heap.size w3).alloc (Nat.le_refl _) (.cells #[.int .u64 (hi G), .int .u64 (lo G)] 28)))))))
      have HX := Lib.hid (And.intro hw1 (And.intro hw2 hch))
      clear R2 R3 hb hw1 hw2 hch
      go_wp2_with fail
      obtain ⟨hw1, hw2, hch⟩ := HX.out
      clear HX
      obtain ⟨R2, R3, R9, hnp, hb⟩ := HR.out
      clear HR a0 a1 hne hlq
      generalize w3.alloc (.cells #[.int .u64 (hi G), .int .u64 (lo G)] 28) = W3 at *
      generalize w3.heap.size = p9 at *
      refine (hA4 _).mono ?_
      rintro e w4 ⟨rfl, hb9⟩
      replace R2 := R2.later hb9
      replace R3 := R3.later hb9
      replace hb := below_step hb hb9
      clear hb9 hA4
      have a0 := (R3.cell 0).trans (show _ = some (Value.int .u64 (hi (v : Nat))) from rfl)
      have a1 := (R3.cell 1).trans (show _ = some (Value.int .u64 (lo (v : Nat))) from rfl)
      have hne : ¬ w.heap.size + 1 = w4.heap.size := Nat.ne_of_lt R3.lt
      have hlq : w.heap.size + 1 < w4.heap.size := R3.lt
      have HR := Lib.hid (And.intro (R2.alloc (.cells #[.int .u64 (hi E), .int .u64 (lo E)] 28)) (And.intro (R3.alloc (.cells #[.int .u64 (hi E), .int .u64 (lo E)] 28)) (And.intro (Row.new w4 #[.int .u64 (hi E), .int .u64 (lo E)] 28) (And.intro hne (below_step hb ((Below.refl w4.heap.size w4).alloc (Nat.le_refl _) (.cells #[.int .u64 (hi E), .int .u64 (lo E)] 28)))))))
      have HX := Lib.hid (And.intro hw1 (And.intro hw2 hch))
      clear R2 R3 hb hw1 hw2 hch
      go_wp2_with fail
      obtain ⟨hw1, hw2, hch⟩ := HX.out
      clear HX
      obtain ⟨R2, R3, R11, hnp, hb⟩ := HR.out
      clear HR a0 a1 hne hlq
      generalize w4.alloc (.cells #[.int .u64 (hi E), .int .u64 (lo E)] 28) = W4 at *
      generalize w4.heap.size = p11 at *
      have e0 := (R11.cell 0).trans (show _ = some (Value.int .u64 (hi E)) from rfl)
      have e1 := (R11.cell 1).trans (show _ = some (Value.int .u64 (lo E)) from rfl)
      have hbd := hb.drew
      have R2d := R2.drew
      replace R3 := R3.drew
      have ne11 : p11 ≠ w.heap.size + 1 := Ne.symm hnp
      refine wp_region_held_drew (S := (fun w' => w'.cell? ⟨p11, 0, none⟩ = some (.int .u64 (hi E)) ∧ w'.cell? ⟨p11, 1, none⟩ = some (.int .u64 (lo E)) ∧ Row w' w.heap.size #[.int .u64 0, .int .u64 0] 28 ∧ Below w.heap.size w w')) (by kernel_rfl) ?hSr1_ (fun hHeld => ?_)
      case hSr1_ => (first | exact ⟨e0, e1, R2d, hbd⟩ | exact ⟨cell_later hb9 hHeld.1, cell_later hb9 hHeld.2.1, hHeld.2.2.1.later hb9, below_step hHeld.2.2.2 hb9⟩)
      refine wpAnyH_take (i := 0) (oi := { dst := some 45, op := Go.Op.load 28 (Go.Operand.tmp 11), type := 28, pos := _, after := #[], guard := none }) (v := ?vr1_1_0) rfl (by kernel_rfl) (by kernel_rfl) (by kernel_rfl) (fun _ _ _ h => h) (Or.inl ⟨by rfl, ?yr1_1_0⟩) hHeld ?_
      case yr1_1_0 => ((intro w hSw; (try dsimp only at hSw); go_simp) <;> with_reducible rfl)
      (try simp only [Act.put, List.setIfInBounds_toArray, List.set_cons_zero, List.set_cons_succ])
      refine wpAnyH_take (i := 1) (oi := { dst := some 46, op := Go.Op.move (Go.Operand.tmp 0), type := 9, pos := _, after := #[], guard := none }) (v := ?vr1_2_1) rfl (by kernel_rfl) (by kernel_rfl) (by kernel_rfl) (fun _ _ _ h => h) (Or.inl ⟨by rfl, ?yr1_2_1⟩) hHeld ?_
      case yr1_2_1 => ((intro w hSw; (try dsimp only at hSw); go_simp) <;> with_reducible rfl)
      (try simp only [Act.put, List.setIfInBounds_toArray, List.set_cons_zero, List.set_cons_succ])
      refine wpAnyH_take (i := 2) (oi := { dst := some 47, op := Go.Op.move (Go.Operand.tmp 4), type := 3, pos := _, after := #[], guard := none }) (v := ?vr1_3_2) rfl (by kernel_rfl) (by kernel_rfl) (by kernel_rfl) (fun _ _ _ h => h) (Or.inl ⟨by rfl, ?yr1_3_2⟩) hHeld ?_
      case yr1_3_2 => ((intro w hSw; (try dsimp only at hSw); go_simp) <;> with_reducible rfl)
      (try simp only [Act.put, List.setIfInBounds_toArray, List.set_cons_zero, List.set_cons_succ])
      refine wpAnyH_take (i := 3) (oi := { dst := some 48, op := Go.Op.index 9 (Go.Operand.tmp 46) (Go.Operand.tmp 47), type := 5, pos := _, after := #[{ on := 1, ground := Go.Ground.data }, { on := 2, ground := Go.Ground.data }], guard := none }) (v := ?vr1_4_3) rfl (by kernel_rfl) (by kernel_rfl) (by kernel_rfl) (fun _ _ _ h => h) (Or.inl ⟨by rfl, ?yr1_4_3⟩) hHeld ?_
      case yr1_4_3 => ((intro w hSw; (try dsimp only at hSw); go_simp) <;> with_reducible rfl)
      (try simp only [Act.put, List.setIfInBounds_toArray, List.set_cons_zero, List.set_cons_succ])
      refine wpAnyH_take (i := 4) (oi := { dst := some 49, op := Go.Op.convert 5 22 (Go.Operand.tmp 48), type := 22, pos := _, after := #[{ on := 3, ground := Go.Ground.data }], guard := none }) (v := ?vr1_5_4) rfl (by kernel_rfl) (by kernel_rfl) (by kernel_rfl) (fun _ _ _ h => h) (Or.inl ⟨by rfl, ?yr1_5_4⟩) hHeld ?_
      case yr1_5_4 => ((intro w hSw; (try dsimp only at hSw); go_simp) <;> with_reducible rfl)
      (try simp only [Act.put, List.setIfInBounds_toArray, List.set_cons_zero, List.set_cons_succ])
      refine wpAnyH_take (i := 5) (oi := { dst := some 50, op := Go.Op.binOp Go.BinOp.sub 22 (Go.Operand.tmp 49) (Go.Operand.const (Go.Value.int Go.IntKind.u64 48)) 22, type := 22, pos := _, after := #[{ on := 4, ground := Go.Ground.data }], guard := none }) (v := ?vr1_6_5) rfl (by kernel_rfl) (by kernel_rfl) (by kernel_rfl) (fun _ _ _ h => h) (Or.inl ⟨by rfl, ?yr1_6_5⟩) hHeld ?_
      case yr1_6_5 => ((intro w hSw; (try dsimp only at hSw); go_simp) <;> with_reducible rfl)
      (try simp only [Act.put, List.setIfInBounds_toArray, List.set_cons_zero, List.set_cons_succ])
      refine wpAnyH_take (i := 6) (oi := { dst := some 51, op := Go.Op.build 28 #[(1, Go.Operand.tmp 50)], type := 28, pos := _, after := #[{ on := 5, ground := Go.Ground.data }], guard := none }) (v := ?vr1_7_6) rfl (by kernel_rfl) (by kernel_rfl) (by kernel_rfl) (fun _ _ _ h => h) (Or.inl ⟨by rfl, ?yr1_7_6⟩) hHeld ?_
      case yr1_7_6 => ((intro w hSw; (try dsimp only at hSw); go_simp) <;> with_reducible rfl)
      (try simp only [Act.put, List.setIfInBounds_toArray, List.set_cons_zero, List.set_cons_succ])
      refine wpAnyH_ready (rs := [7]) (by kernel_rfl) (by simp) ?_
      refine AllReadyH.cons (o := { dst := some 52, op := Go.Op.call { callee := Go.Callee.value (Go.Operand.func 25), args := #[Go.Operand.tmp 45, Go.Operand.tmp 51], argTypes := #[28, 28] }, type := 55, pos := _, after := #[{ on := 0, ground := Go.Ground.data }, { on := 6, ground := Go.Ground.data }], guard := none }) rfl (fun K hK => ?_) AllReadyH.nil
      go_simp
      ((refine (hA5 _).mono ?_); (rintro e wn ⟨rfl, hb9⟩); (replace R3 := R3.later hb9))
      go_wp2_with fail
      refine hK.out _ _ ?hSr1_8_7 (fun hHeld2 => ?_)
      case hSr1_8_7 => (first | exact ⟨e0, e1, R2d, hbd⟩ | exact ⟨cell_later hb9 hHeld.1, cell_later hb9 hHeld.2.1, hHeld.2.2.1.later hb9, below_step hHeld.2.2.2 hb9⟩)
      clear hK K hHeld
      have hHeld := hHeld2
      clear hHeld2
      (try simp only [Act.put, List.setIfInBounds_toArray, List.set_cons_zero, List.set_cons_succ])
      refine wpAnyH_take (i := 8) (oi := { dst := some 44, op := Go.Op.move (Go.Operand.tmp 52), type := 55, pos := _, after := #[{ on := 7, ground := Go.Ground.data }], guard := none }) (v := ?vr1_9_8) rfl (by kernel_rfl) (by kernel_rfl) (by kernel_rfl) (fun _ _ _ h => h) (Or.inl ⟨by rfl, ?yr1_9_8⟩) hHeld ?_
      case yr1_9_8 => ((intro w hSw; (try dsimp only at hSw); go_simp) <;> with_reducible rfl)
      (try simp only [Act.put, List.setIfInBounds_toArray, List.set_cons_zero, List.set_cons_succ])
      refine wpAnyH_take (i := 9) (oi := { dst := some 53, op := Go.Op.extract (Go.Operand.tmp 44) 0, type := 28, pos := _, after := #[{ on := 8, ground := Go.Ground.data }], guard := none }) (v := ?vr1_10_9) rfl (by kernel_rfl) (by kernel_rfl) (by kernel_rfl) (fun _ _ _ h => h) (Or.inl ⟨by rfl, ?yr1_10_9⟩) hHeld ?_
      case yr1_10_9 => ((intro w hSw; (try dsimp only at hSw); go_simp) <;> with_reducible rfl)
      (try simp only [Act.put, List.setIfInBounds_toArray, List.set_cons_zero, List.set_cons_succ])
      refine wpAnyH_take (i := 10) (oi := { dst := some 54, op := Go.Op.extract (Go.Operand.tmp 44) 1, type := 4, pos := _, after := #[{ on := 8, ground := Go.Ground.data }, { on := 11, ground := Go.Ground.gcOnly Go.Departure.lateStores }], guard := none }) (v := ?vr1_11_10) rfl (by kernel_rfl) (by kernel_rfl) (by kernel_rfl) (fun _ _ _ h => h) (Or.inl ⟨by rfl, ?yr1_11_10⟩) hHeld ?_
      case yr1_11_10 => ((intro w hSw; (try dsimp only at hSw); go_simp) <;> with_reducible rfl)
      (try simp only [Act.put, List.setIfInBounds_toArray, List.set_cons_zero, List.set_cons_succ])
      refine wpAnyH_ready (rs := [11]) (by kernel_rfl) (by simp) ?_
      refine AllReadyH.cons (o := { dst := none, op := Go.Op.store 28 (Go.Operand.tmp 3) (Go.Operand.tmp 53), type := 0, pos := _, after := #[{ on := 9, ground := Go.Ground.data }, { on := 7, ground := Go.Ground.chain }, { on := 0, ground := Go.Ground.phase }, { on := 1, ground := Go.Ground.phase }, { on := 2, ground := Go.Ground.phase }, { on := 3, ground := Go.Ground.phase }, { on := 4, ground := Go.Ground.phase }, { on := 5, ground := Go.Ground.phase }, { on := 6, ground := Go.Ground.phase }, { on := 7, ground := Go.Ground.phase }, { on := 8, ground := Go.Ground.phase }, { on := 9, ground := Go.Ground.phase }, { on := 10, ground := Go.Ground.textOnly Go.Departure.lateStores }], guard := none }) rfl (fun K hK => ?_) AllReadyH.nil
      ((have c0 := R3.cell 0); (have c1 := R3.cell 1); (simp at c0 c1); (have f0 := R3.frozen 0); (have f1 := R3.frozen 1); go_simp; clear c0 c1 f0 f1; (have Rm := (R3.set 0 (.int .u64 (hi (v2 : Nat)))).set 1 (.int .u64 (lo (v2 : Nat)))); (simp at Rm))
      refine hK.out _ _ ?hSr1_12_11 (fun hHeld2 => ?_)
      case hSr1_12_11 => (exact ⟨(World.cell?_setCell_far _ _ _ _ ne11.symm).trans ((World.cell?_setCell_far _ _ _ _ ne11.symm).trans hHeld.1), (World.cell?_setCell_far _ _ _ _ ne11.symm).trans ((World.cell?_setCell_far _ _ _ _ ne11.symm).trans hHeld.2.1), (hHeld.2.2.1.set_far _ _ (by dsimp only; omega)).set_far _ _ (by dsimp only; omega), (hHeld.2.2.2.setCell (by dsimp only; omega) _).setCell (by dsimp only; omega) _⟩)
      clear hK K hHeld
      have hHeld := hHeld2
      clear hHeld2
      (try simp only [Act.put, List.setIfInBounds_toArray, List.set_cons_zero, List.set_cons_succ])
      refine wpAnyH_done (by kernel_rfl) ?_ _
      have HH := Lib.hid hHeld
      have HM := Lib.hid Rm
      clear hHeld Rm R3 R2d hbd e0 e1 hb R2 R5 R7 R9 R11 hA5
      go_wp2
      exact ⟨⟨j + 1, by omega, by go_num, HH.out.2.2.1, by rw [HV.out]; exact HM.out, HH.out.2.2.2⟩, by simp [intOf]; omega⟩
    · have hlt' : ¬ (j : Int) < (l.length : Int) := by omega
      rw [List.take_of_length_le (by omega)] at R3
      obtain ⟨v, hv⟩ : ∃ v, valT l = v := ⟨_, rfl⟩
      rw [hv] at R3
      have HV := Lib.hid hv
      clear hv
      have s0 := (R2.cell 0).trans (show _ = some (Value.int .u64 0) from rfl)
      have s1 := (R2.cell 1).trans (show _ = some (Value.int .u64 0) from rfl)
      have f0 := R2.frozen 0
      have f1 := R2.frozen 1
      have a0 := (R3.cell 0).trans (show _ = some (Value.int .u64 (hi (v : Nat))) from rfl)
      have a1 := (R3.cell 1).trans (show _ = some (Value.int .u64 (lo (v : Nat))) from rfl)
      have Rf := (R2.set 0 (.int .u64 (hi (v : Nat)))).set 1 (.int .u64 (lo (v : Nat)))
      have e0 := (Rf.cell 0).trans (show _ = some (Value.int .u64 (hi (v : Nat))) from rfl)
      have e1 := (Rf.cell 1).trans (show _ = some (Value.int .u64 (lo (v : Nat))) from rfl)
      have HE := Lib.hid (And.intro e0 (And.intro e1 hb))
      clear R2 R3 Rf e0 e1 hb
      go_wp2
      obtain ⟨e0, e1, hb⟩ := HE.out
      exact bodyPost_ret (v := .agg #[.int .u64 (hi (v : Nat)), .int .u64 (lo (v : Nat))]) (by simp only [results, Tryd.results16]; simp [go_sem, e0, e1]) rfl ⟨by rw [HV.out], (hb.setCell (by dsimp only; omega) _).setCell (by dsimp only; omega) _⟩
end Go.Proofs.YtbhaoafngneclaaDoor
