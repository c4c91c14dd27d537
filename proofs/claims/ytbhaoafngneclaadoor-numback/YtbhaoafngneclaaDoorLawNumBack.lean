/- NumBack answers true for every two numbers and every text. No conditions. -/
import Derived.Test.YtbhaoafngneclaaDoorAliveN
namespace Go.Proofs.YtbhaoafngneclaaDoor
set_option linter.unusedVariables false
set_option linter.unusedSimpArgs false
open Go.RowKit
set_option maxRecDepth 100000 in
set_option maxHeartbeats 3200000 in
theorem nb_walk (ah al bh bl gh gl er c : Int) (t u p l : List UInt8) (h200 : ¬ 200 < l.length) (w : World)
    (hW : ∀ w, Calls Tryd.prog 7 #[.agg #[.int .u64 ah, .int .u64 al]] w fun e w' => e = .returned (.string ⟨t.toArray⟩) ∧ Below w.heap.size w w')
    (hU : ∀ w, Calls Tryd.prog 7 #[.agg #[.int .u64 bh, .int .u64 bl]] w fun e w' => e = .returned (.string ⟨u.toArray⟩) ∧ Below w.heap.size w w')
    (hP : ∀ w, Calls Tryd.prog 12 #[.string ⟨t.toArray⟩] w fun e w' => e = .returned (.tuple #[.agg #[.int .u64 ah, .int .u64 al], .int .i64 0]) ∧ Below w.heap.size w w')
    (hPr : ∀ w, Calls Tryd.prog 10 #[.int .u64 al] w fun e w' => e = .returned (.string ⟨p.toArray⟩) ∧ Below w.heap.size w w')
    (hPa : ∀ w, Calls Tryd.prog 11 #[.string ⟨p.toArray⟩, .int .u64 al] w fun e w' => e = .returned (.tuple #[.int .u64 al, .int .i64 0]) ∧ Below w.heap.size w w')
    (hS : ∀ w, Calls Tryd.prog 12 #[.string ⟨l.toArray⟩] w fun e w' => e = .returned (.tuple #[.agg #[.int .u64 gh, .int .u64 gl], .int .i64 er]) ∧ Below w.heap.size w w')
    (hG : er = 0 → ∀ w, Calls Tryd.prog 7 #[.agg #[.int .u64 gh, .int .u64 gl]] w fun e w' => e = .returned (.string ⟨l.toArray⟩) ∧ Below w.heap.size w w')
    (hC : ∀ w, Calls Tryd.prog 17 #[.agg #[.int .u64 ah, .int .u64 al], .agg #[.int .u64 bh, .int .u64 bl]] w fun e w' => e = .returned (.int .i64 c) ∧ Below w.heap.size w w')
    (hL : (decide (t.length < u.length) || (decide (t.length = u.length) && Op.bytesLess t u)) = decide (c < 0)) :
    Calls Tryd.prog 5 #[.agg #[.int .u64 ah, .int .u64 al], .agg #[.int .u64 bh, .int .u64 bl], .string ⟨l.toArray⟩] w fun e w' => e = .returned (.bool true) ∧ Below w.heap.size w w' := by
  have hsz := bs_size l
  have hbT : Below w.heap.size w ((w.alloc (.cells #[.int .u64 ah, .int .u64 al] 24)).alloc (.cells #[.int .u64 bh, .int .u64 bl] 24)) := (by repeat (first | exact Below.refl _ _ | assumption | (with_reducible refine Below.setCell ?_ ?h _; case h => first | omega | (simp; done) | (simp; omega)) | (with_reducible refine Below.alloc ?_ ?h _; case h => first | omega | (simp; done) | (simp; omega)) | (with_reducible refine Below.drew ?_) | (with_reducible refine Below.trans ?_ (hb4.mono ?h); case h => first | omega | (simp; done) | (simp; omega)) | (with_reducible refine Below.trans ?_ (hb3.mono ?h); case h => first | omega | (simp; done) | (simp; omega)) | (with_reducible refine Below.trans ?_ (hb2.mono ?h); case h => first | omega | (simp; done) | (simp; omega)) | (with_reducible refine Below.trans ?_ (hb.mono ?h); case h => first | omega | (simp; done) | (simp; omega)) | (with_reducible refine Below.trans ?_ (hb0.mono ?h); case h => first | omega | (simp; done) | (simp; omega))))
  have a0 : ((w.alloc (.cells #[.int .u64 ah, .int .u64 al] 24)).alloc (.cells #[.int .u64 bh, .int .u64 bl] 24)).cell? ⟨w.heap.size, 0, none⟩ = some (.int .u64 ah) := by simp [go_sem]
  have a1 : ((w.alloc (.cells #[.int .u64 ah, .int .u64 al] 24)).alloc (.cells #[.int .u64 bh, .int .u64 bl] 24)).cell? ⟨w.heap.size, 1, none⟩ = some (.int .u64 al) := by simp [go_sem]
  have b0 : ((w.alloc (.cells #[.int .u64 ah, .int .u64 al] 24)).alloc (.cells #[.int .u64 bh, .int .u64 bl] 24)).cell? ⟨w.heap.size + 1, 0, none⟩ = some (.int .u64 bh) := by simp [go_sem]
  have b1 : ((w.alloc (.cells #[.int .u64 ah, .int .u64 al] 24)).alloc (.cells #[.int .u64 bh, .int .u64 bl] 24)).cell? ⟨w.heap.size + 1, 1, none⟩ = some (.int .u64 bl) := by simp [go_sem]
  have HW := Lib.hid (And.intro hbT (And.intro a0 (And.intro a1 (And.intro b0 b1))))
  have HQ := Lib.hid (And.intro hP (And.intro hPr (And.intro hPa (And.intro hS (And.intro hG (And.intro hC hL))))))
  clear hbT a0 a1 b0 b1 hP hPr hPa hS hG hC hL
  go_enter Tryd.func5, Tryd.ntmps5
  go_wp2_with fail
  obtain ⟨hbT, a0, a1, b0, b1⟩ := HW.out
  clear HW
  generalize ((w.alloc (.cells #[.int .u64 ah, .int .u64 al] 24)).alloc (.cells #[.int .u64 bh, .int .u64 bl] 24)) = w0 at *
  go_cut [7, 8] (fun s7 s8 wx => s7 = .string ⟨t.toArray⟩ ∧ s8 = .string ⟨u.toArray⟩ ∧ wx.cell? ⟨w.heap.size, 0, none⟩ = some (.int .u64 ah) ∧ wx.cell? ⟨w.heap.size, 1, none⟩ = some (.int .u64 al) ∧ wx.cell? ⟨w.heap.size + 1, 0, none⟩ = some (.int .u64 bh) ∧ wx.cell? ⟨w.heap.size + 1, 1, none⟩ = some (.int .u64 bl) ∧ Below w.heap.size w wx)
  case first =>
    refine region_any (S := (fun w' => w'.cell? ⟨w.heap.size, 0, none⟩ = some (.int .u64 ah) ∧ w'.cell? ⟨w.heap.size, 1, none⟩ = some (.int .u64 al) ∧ w'.cell? ⟨w.heap.size + 1, 0, none⟩ = some (.int .u64 bh) ∧ w'.cell? ⟨w.heap.size + 1, 1, none⟩ = some (.int .u64 bl) ∧ Below w.heap.size w w')) (by kernel_rfl) ?hSr1_ (fun wq hHeld => ?_)
    case hSr1_ => (first | exact ⟨a0, a1, b0, b1, hbT.drew⟩ | exact ⟨cell_later hb hHeld.1, cell_later hb hHeld.2.1, cell_later hb hHeld.2.2.1, cell_later hb hHeld.2.2.2.1, below_step hHeld.2.2.2.2 hb⟩)
    refine wpAnyH_take (i := 0) (oi := { dst := some 20, op := Go.Op.load 24 (Go.Operand.tmp 3), type := 24, pos := _, after := #[], guard := none }) (v := ?vr1_1_0) rfl (by kernel_rfl) (by kernel_rfl) (by kernel_rfl) (fun _ _ _ h => h) (Or.inl ⟨by rfl, ?yr1_1_0⟩) hHeld ?_
    case yr1_1_0 => ((intro w hSw; (try dsimp only at hSw); go_simp) <;> with_reducible rfl)
    (try simp only [Act.put, List.setIfInBounds_toArray, List.set_cons_zero, List.set_cons_succ])
    refine wpAnyH_take (i := 2) (oi := { dst := some 22, op := Go.Op.load 24 (Go.Operand.tmp 4), type := 24, pos := _, after := #[], guard := none }) (v := ?vr1_2_2) rfl (by kernel_rfl) (by kernel_rfl) (by kernel_rfl) (fun _ _ _ h => h) (Or.inl ⟨by rfl, ?yr1_2_2⟩) hHeld ?_
    case yr1_2_2 => ((intro w hSw; (try dsimp only at hSw); go_simp) <;> with_reducible rfl)
    (try simp only [Act.put, List.setIfInBounds_toArray, List.set_cons_zero, List.set_cons_succ])
    refine wpAnyH_ready (rs := [1]) (by kernel_rfl) (by simp) ?_
    refine AllReadyH.cons (o := { dst := some 21, op := Go.Op.call { callee := Go.Callee.value (Go.Operand.func 7), args := #[Go.Operand.tmp 20], argTypes := #[24] }, type := 9, pos := _, after := #[{ on := 0, ground := Go.Ground.data }], guard := none }) rfl (fun K hK => ?_) AllReadyH.nil
    go_simp
    ((first | (with_reducible refine (hW _).mono ?_) | (with_reducible refine (hU _).mono ?_)); (rintro e wn ⟨rfl, hb⟩))
    go_wp2_with fail
    refine hK.out _ _ ?hSr1_3_1 (fun hHeld2 => ?_)
    case hSr1_3_1 => (first | exact ⟨a0, a1, b0, b1, hbT.drew⟩ | exact ⟨cell_later hb hHeld.1, cell_later hb hHeld.2.1, cell_later hb hHeld.2.2.1, cell_later hb hHeld.2.2.2.1, below_step hHeld.2.2.2.2 hb⟩)
    clear hK K hHeld
    have hHeld := hHeld2
    clear hHeld2
    rename World => wq
    (try simp only [Act.put, List.setIfInBounds_toArray, List.set_cons_zero, List.set_cons_succ])
    refine wpAnyH_ready (rs := [3]) (by kernel_rfl) (by simp) ?_
    refine AllReadyH.cons (o := { dst := some 23, op := Go.Op.call { callee := Go.Callee.value (Go.Operand.func 7), args := #[Go.Operand.tmp 22], argTypes := #[24] }, type := 9, pos := _, after := #[{ on := 2, ground := Go.Ground.data }, { on := 1, ground := Go.Ground.chain }], guard := none }) rfl (fun K hK => ?_) AllReadyH.nil
    go_simp
    ((first | (with_reducible refine (hW _).mono ?_) | (with_reducible refine (hU _).mono ?_)); (rintro e wn ⟨rfl, hb⟩))
    go_wp2_with fail
    refine hK.out _ _ ?hSr1_4_3 (fun hHeld2 => ?_)
    case hSr1_4_3 => (first | exact ⟨a0, a1, b0, b1, hbT.drew⟩ | exact ⟨cell_later hb hHeld.1, cell_later hb hHeld.2.1, cell_later hb hHeld.2.2.1, cell_later hb hHeld.2.2.2.1, below_step hHeld.2.2.2.2 hb⟩)
    clear hK K hHeld
    have hHeld := hHeld2
    clear hHeld2
    rename World => wq
    (try simp only [Act.put, List.setIfInBounds_toArray, List.set_cons_zero, List.set_cons_succ])
    refine wpAnyH_take (i := 4) (oi := { dst := some 7, op := Go.Op.assign (Go.Operand.tmp 21), type := 9, pos := _, after := #[{ on := 1, ground := Go.Ground.data }, { on := 3, ground := Go.Ground.chain }, { on := 0, ground := Go.Ground.phase }, { on := 1, ground := Go.Ground.phase }, { on := 2, ground := Go.Ground.textOnly Go.Departure.lateStores }, { on := 3, ground := Go.Ground.textOnly Go.Departure.lateStoresUnsure }], guard := none }) (v := ?vr1_5_4) rfl (by kernel_rfl) (by kernel_rfl) (by kernel_rfl) (fun _ _ _ h => h) (Or.inl ⟨by rfl, ?yr1_5_4⟩) hHeld ?_
    case yr1_5_4 => ((intro w hSw; (try dsimp only at hSw); go_simp) <;> with_reducible rfl)
    (try simp only [Act.put, List.setIfInBounds_toArray, List.set_cons_zero, List.set_cons_succ])
    refine wpAnyH_take (i := 5) (oi := { dst := some 8, op := Go.Op.assign (Go.Operand.tmp 23), type := 9, pos := _, after := #[{ on := 3, ground := Go.Ground.data }, { on := 4, ground := Go.Ground.chain }, { on := 0, ground := Go.Ground.phase }, { on := 1, ground := Go.Ground.phase }, { on := 2, ground := Go.Ground.phase }, { on := 3, ground := Go.Ground.phase }, { on := 4, ground := Go.Ground.phase }], guard := none }) (v := ?vr1_6_5) rfl (by kernel_rfl) (by kernel_rfl) (by kernel_rfl) (fun _ _ _ h => h) (Or.inl ⟨by rfl, ?yr1_6_5⟩) hHeld ?_
    case yr1_6_5 => ((intro w hSw; (try dsimp only at hSw); go_simp) <;> with_reducible rfl)
    (try simp only [Act.put, List.setIfInBounds_toArray, List.set_cons_zero, List.set_cons_succ])
    refine wpAnyH_done (by kernel_rfl) ?_ _
    (go_wp2_with fail; go_meet; exact ⟨rfl, rfl, hHeld⟩)
  case rest =>
    clear a0 a1 b0 b1 hbT hW hU
    obtain ⟨rfl, rfl, a0, a1, b0, b1, hbT⟩ := hcut
    obtain ⟨hP, hPr, hPa, hS, hG, hC, hL⟩ := HQ.out
    clear HQ
    have HQ := Lib.hid (And.intro hPr (And.intro hPa (And.intro hS (And.intro hG (And.intro hC hL)))))
    clear hPr hPa hS hG hC hL
    have HW := Lib.hid (And.intro hbT (And.intro a0 (And.intro a1 (And.intro b0 b1))))
    clear hbT a0 a1 b0 b1
    go_wp2_with fail
    refine (hP _).mono ?_
    rintro e w1 ⟨rfl, hb⟩
    obtain ⟨hbT, a0, a1, b0, b1⟩ := HW.out
    clear HW hP
    replace a0 := cell_later hb a0
    replace a1 := cell_later hb a1
    replace b0 := cell_later hb b0
    replace b1 := cell_later hb b1
    replace hbT := below_step hbT hb
    clear hb
    have Rc := Row.new w1 #[.int .u64 ah, .int .u64 al] 24
    have hb : Below w1.heap.size w1 (w1.alloc (.cells #[.int .u64 ah, .int .u64 al] 24)) := (Below.refl _ _).alloc (Nat.le_refl _) _
    replace a0 := cell_later hb a0
    replace a1 := cell_later hb a1
    replace b0 := cell_later hb b0
    replace b1 := cell_later hb b1
    replace hbT := below_step hbT hb
    clear hb
    have c0 := (Rc.cell 0).trans (show _ = some (Value.int .u64 ah) from rfl)
    have c1 := (Rc.cell 1).trans (show _ = some (Value.int .u64 al) from rfl)
    clear Rc
    have HW := Lib.hid (And.intro a0 (And.intro a1 (And.intro b0 (And.intro b1 (And.intro c0 (And.intro c1 hbT))))))
    clear hbT a0 a1 b0 b1 c0 c1
    go_wp2_with fail
    obtain ⟨a0, a1, b0, b1, c0, c1, hbT⟩ := HW.out
    clear HW
    generalize w1.alloc (.cells #[.int .u64 ah, .int .u64 al] 24) = w2 at *
    generalize w1.heap.size = gc at *
    obtain ⟨hPr, hPa, hS, hG, hC, hL⟩ := HQ.out
    clear HQ
    have HQ := Lib.hid (And.intro hS (And.intro hG (And.intro hC hL)))
    clear hS hG hC hL
    refine wp_region_held_drew (S := (fun w' => w'.cell? ⟨w.heap.size, 0, none⟩ = some (.int .u64 ah) ∧ w'.cell? ⟨w.heap.size, 1, none⟩ = some (.int .u64 al) ∧ w'.cell? ⟨w.heap.size + 1, 0, none⟩ = some (.int .u64 bh) ∧ w'.cell? ⟨w.heap.size + 1, 1, none⟩ = some (.int .u64 bl) ∧ w'.cell? ⟨gc, 0, none⟩ = some (.int .u64 ah) ∧ w'.cell? ⟨gc, 1, none⟩ = some (.int .u64 al) ∧ Below w.heap.size w w')) (by kernel_rfl) ?hSr2_ (fun hHeld => ?_)
    case hSr2_ => (first | exact ⟨a0, a1, b0, b1, c0, c1, hbT.drew⟩ | exact ⟨cell_later hb hHeld.1, cell_later hb hHeld.2.1, cell_later hb hHeld.2.2.1, cell_later hb hHeld.2.2.2.1, cell_later hb hHeld.2.2.2.2.1, cell_later hb hHeld.2.2.2.2.2.1, below_step hHeld.2.2.2.2.2.2 hb⟩)
    refine wpAnyH_take (i := 0) (oi := { dst := some 30, op := Go.Op.fieldAddr 24 (Go.Operand.tmp 3) 1, type := 0, pos := _, after := #[], guard := none }) (v := ?vr2_1_0) rfl (by kernel_rfl) (by kernel_rfl) (by kernel_rfl) (fun _ _ _ h => h) (Or.inl ⟨by rfl, ?yr2_1_0⟩) hHeld ?_
    case yr2_1_0 => ((intro w hSw; (try dsimp only at hSw); go_simp) <;> with_reducible rfl)
    (try simp only [Act.put, List.setIfInBounds_toArray, List.set_cons_zero, List.set_cons_succ])
    refine wpAnyH_take (i := 1) (oi := { dst := some 31, op := Go.Op.load 22 (Go.Operand.tmp 30), type := 22, pos := _, after := #[{ on := 0, ground := Go.Ground.data }], guard := none }) (v := ?vr2_2_1) rfl (by kernel_rfl) (by kernel_rfl) (by kernel_rfl) (fun _ _ _ h => h) (Or.inl ⟨by rfl, ?yr2_2_1⟩) hHeld ?_
    case yr2_2_1 => ((intro w hSw; (try dsimp only at hSw); go_simp) <;> with_reducible rfl)
    (try simp only [Act.put, List.setIfInBounds_toArray, List.set_cons_zero, List.set_cons_succ])
    refine wpAnyH_take (i := 3) (oi := { dst := some 33, op := Go.Op.fieldAddr 24 (Go.Operand.tmp 3) 1, type := 0, pos := _, after := #[], guard := none }) (v := ?vr2_3_3) rfl (by kernel_rfl) (by kernel_rfl) (by kernel_rfl) (fun _ _ _ h => h) (Or.inl ⟨by rfl, ?yr2_3_3⟩) hHeld ?_
    case yr2_3_3 => ((intro w hSw; (try dsimp only at hSw); go_simp) <;> with_reducible rfl)
    (try simp only [Act.put, List.setIfInBounds_toArray, List.set_cons_zero, List.set_cons_succ])
    refine wpAnyH_take (i := 4) (oi := { dst := some 34, op := Go.Op.load 22 (Go.Operand.tmp 33), type := 22, pos := _, after := #[{ on := 3, ground := Go.Ground.data }], guard := none }) (v := ?vr2_4_4) rfl (by kernel_rfl) (by kernel_rfl) (by kernel_rfl) (fun _ _ _ h => h) (Or.inl ⟨by rfl, ?yr2_4_4⟩) hHeld ?_
    case yr2_4_4 => ((intro w hSw; (try dsimp only at hSw); go_simp) <;> with_reducible rfl)
    (try simp only [Act.put, List.setIfInBounds_toArray, List.set_cons_zero, List.set_cons_succ])
    refine wpAnyH_ready (rs := [2]) (by kernel_rfl) (by simp) ?_
    refine AllReadyH.cons (o := { dst := some 32, op := Go.Op.call { callee := Go.Callee.value (Go.Operand.func 10), args := #[Go.Operand.tmp 31], argTypes := #[22] }, type := 9, pos := _, after := #[{ on := 1, ground := Go.Ground.data }], guard := none }) rfl (fun K hK => ?_) AllReadyH.nil
    go_simp
    ((refine (hPr _).mono ?_); (rintro e wn ⟨rfl, hb⟩))
    go_wp2_with fail
    refine hK.out _ _ ?hSr2_5_2 (fun hHeld2 => ?_)
    case hSr2_5_2 => (first | exact ⟨a0, a1, b0, b1, c0, c1, hbT.drew⟩ | exact ⟨cell_later hb hHeld.1, cell_later hb hHeld.2.1, cell_later hb hHeld.2.2.1, cell_later hb hHeld.2.2.2.1, cell_later hb hHeld.2.2.2.2.1, cell_later hb hHeld.2.2.2.2.2.1, below_step hHeld.2.2.2.2.2.2 hb⟩)
    clear hK K hHeld
    have hHeld := hHeld2
    clear hHeld2
    (try simp only [Act.put, List.setIfInBounds_toArray, List.set_cons_zero, List.set_cons_succ])
    refine wpAnyH_ready (rs := [5]) (by kernel_rfl) (by simp) ?_
    refine AllReadyH.cons (o := { dst := some 35, op := Go.Op.call { callee := Go.Callee.value (Go.Operand.func 11), args := #[Go.Operand.tmp 32, Go.Operand.tmp 34], argTypes := #[9, 22] }, type := 33, pos := _, after := #[{ on := 2, ground := Go.Ground.data }, { on := 4, ground := Go.Ground.data }, { on := 2, ground := Go.Ground.chain }], guard := none }) rfl (fun K hK => ?_) AllReadyH.nil
    go_simp
    ((refine (hPa _).mono ?_); (rintro e wm ⟨rfl, hb⟩))
    go_wp2_with fail
    refine hK.out _ _ ?hSr2_6_5 (fun hHeld2 => ?_)
    case hSr2_6_5 => (first | exact ⟨a0, a1, b0, b1, c0, c1, hbT.drew⟩ | exact ⟨cell_later hb hHeld.1, cell_later hb hHeld.2.1, cell_later hb hHeld.2.2.1, cell_later hb hHeld.2.2.2.1, cell_later hb hHeld.2.2.2.2.1, cell_later hb hHeld.2.2.2.2.2.1, below_step hHeld.2.2.2.2.2.2 hb⟩)
    clear hK K hHeld
    have hHeld := hHeld2
    clear hHeld2
    (try simp only [Act.put, List.setIfInBounds_toArray, List.set_cons_zero, List.set_cons_succ])
    refine wpAnyH_take (i := 6) (oi := { dst := some 29, op := Go.Op.move (Go.Operand.tmp 35), type := 33, pos := _, after := #[{ on := 5, ground := Go.Ground.data }], guard := none }) (v := ?vr2_7_6) rfl (by kernel_rfl) (by kernel_rfl) (by kernel_rfl) (fun _ _ _ h => h) (Or.inl ⟨by rfl, ?yr2_7_6⟩) hHeld ?_
    case yr2_7_6 => ((intro w hSw; (try dsimp only at hSw); go_simp) <;> with_reducible rfl)
    (try simp only [Act.put, List.setIfInBounds_toArray, List.set_cons_zero, List.set_cons_succ])
    refine wpAnyH_take (i := 7) (oi := { dst := some 36, op := Go.Op.extract (Go.Operand.tmp 29) 0, type := 22, pos := _, after := #[{ on := 6, ground := Go.Ground.data }], guard := none }) (v := ?vr2_8_7) rfl (by kernel_rfl) (by kernel_rfl) (by kernel_rfl) (fun _ _ _ h => h) (Or.inl ⟨by rfl, ?yr2_8_7⟩) hHeld ?_
    case yr2_8_7 => ((intro w hSw; (try dsimp only at hSw); go_simp) <;> with_reducible rfl)
    (try simp only [Act.put, List.setIfInBounds_toArray, List.set_cons_zero, List.set_cons_succ])
    refine wpAnyH_take (i := 8) (oi := { dst := some 37, op := Go.Op.extract (Go.Operand.tmp 29) 1, type := 32, pos := _, after := #[{ on := 6, ground := Go.Ground.data }, { on := 9, ground := Go.Ground.gcOnly Go.Departure.lateStores }], guard := none }) (v := ?vr2_9_8) rfl (by kernel_rfl) (by kernel_rfl) (by kernel_rfl) (fun _ _ _ h => h) (Or.inl ⟨by rfl, ?yr2_9_8⟩) hHeld ?_
    case yr2_9_8 => ((intro w hSw; (try dsimp only at hSw); go_simp) <;> with_reducible rfl)
    (try simp only [Act.put, List.setIfInBounds_toArray, List.set_cons_zero, List.set_cons_succ])
    refine wpAnyH_take (i := 9) (oi := { dst := some 11, op := Go.Op.assign (Go.Operand.tmp 36), type := 22, pos := _, after := #[{ on := 7, ground := Go.Ground.data }, { on := 5, ground := Go.Ground.chain }, { on := 0, ground := Go.Ground.phase }, { on := 1, ground := Go.Ground.phase }, { on := 2, ground := Go.Ground.phase }, { on := 3, ground := Go.Ground.phase }, { on := 4, ground := Go.Ground.phase }, { on := 5, ground := Go.Ground.phase }, { on := 6, ground := Go.Ground.phase }, { on := 7, ground := Go.Ground.phase }, { on := 8, ground := Go.Ground.textOnly Go.Departure.lateStores }], guard := none }) (v := ?vr2_10_9) rfl (by kernel_rfl) (by kernel_rfl) (by kernel_rfl) (fun _ _ _ h => h) (Or.inl ⟨by rfl, ?yr2_10_9⟩) hHeld ?_
    case yr2_10_9 => ((intro w hSw; (try dsimp only at hSw); go_simp) <;> with_reducible rfl)
    (try simp only [Act.put, List.setIfInBounds_toArray, List.set_cons_zero, List.set_cons_succ])
    refine wpAnyH_take (i := 10) (oi := { dst := some 12, op := Go.Op.assign (Go.Operand.tmp 37), type := 32, pos := _, after := #[{ on := 8, ground := Go.Ground.data }, { on := 9, ground := Go.Ground.chain }, { on := 0, ground := Go.Ground.phase }, { on := 1, ground := Go.Ground.phase }, { on := 2, ground := Go.Ground.phase }, { on := 3, ground := Go.Ground.phase }, { on := 4, ground := Go.Ground.phase }, { on := 5, ground := Go.Ground.phase }, { on := 6, ground := Go.Ground.phase }, { on := 7, ground := Go.Ground.phase }, { on := 8, ground := Go.Ground.phase }, { on := 9, ground := Go.Ground.phase }], guard := none }) (v := ?vr2_11_10) rfl (by kernel_rfl) (by kernel_rfl) (by kernel_rfl) (fun _ _ _ h => h) (Or.inl ⟨by rfl, ?yr2_11_10⟩) hHeld ?_
    case yr2_11_10 => ((intro w hSw; (try dsimp only at hSw); go_simp) <;> with_reducible rfl)
    (try simp only [Act.put, List.setIfInBounds_toArray, List.set_cons_zero, List.set_cons_succ])
    refine wpAnyH_done (by kernel_rfl) ?_ _
    clear hPr hPa a0 a1 b0 b1 c0 c1 hbT
    rename World => w3
    obtain ⟨hS, hG, hC, hL⟩ := HQ.out
    clear HQ
    have HQ := Lib.hid (And.intro hG (And.intro hC hL))
    clear hG hC hL
    have HW := Lib.hid hHeld
    clear hHeld
    go_wp2_with fail
    refine (hS _).mono ?_
    rintro e w4 ⟨rfl, hb⟩
    obtain ⟨a0, a1, b0, b1, c0, c1, hbT⟩ := HW.out
    clear HW hS
    replace a0 := cell_later hb a0
    replace a1 := cell_later hb a1
    replace b0 := cell_later hb b0
    replace b1 := cell_later hb b1
    replace c0 := cell_later hb c0
    replace c1 := cell_later hb c1
    replace hbT := below_step hbT hb
    clear hb
    have Rg := Row.new w4 #[.int .u64 gh, .int .u64 gl] 24
    have hb : Below w4.heap.size w4 (w4.alloc (.cells #[.int .u64 gh, .int .u64 gl] 24)) := (Below.refl _ _).alloc (Nat.le_refl _) _
    have la := World.block_lt_of_cell? _ _ a0
    have lc := World.block_lt_of_cell? _ _ c0
    dsimp only at la lc
    obtain ⟨hG, hC, hL⟩ := HQ.out
    clear HQ
    have HW := Lib.hid (And.intro b0 (And.intro b1 (And.intro hbT (And.intro hb (And.intro Rg (And.intro hC hL))))))
    clear b0 b1 hbT hb Rg hC hL
    have hLL : (t.length < u.length ∧ c < 0) ∨ (¬ t.length < u.length ∧ (t.length : Int) = (u.length : Int) ∧ Op.bytesLess t u = true ∧ c < 0) ∨ (¬ t.length < u.length ∧ (t.length : Int) = (u.length : Int) ∧ Op.bytesLess t u = false ∧ ¬ c < 0) ∨ (¬ t.length < u.length ∧ ¬ (t.length : Int) = (u.length : Int) ∧ ¬ c < 0) := by
      have hL := HW.out.2.2.2.2.2.2
      by_cases l1 : t.length < u.length
      · rw [decide_eq_true l1, Bool.true_or] at hL
        exact .inl ⟨l1, of_decide_eq_true hL.symm⟩
      · rw [decide_eq_false l1, Bool.false_or] at hL
        by_cases l2 : t.length = u.length
        · rw [decide_eq_true l2, Bool.true_and] at hL
          by_cases k : c < 0
          · exact .inr (.inl ⟨l1, by omega, by rw [hL]; simp [k], k⟩)
          · exact .inr (.inr (.inl ⟨l1, by omega, by rw [hL]; simp [k], k⟩))
        · rw [decide_eq_false l2, Bool.false_and] at hL
          exact .inr (.inr (.inr ⟨l1, by omega, of_decide_eq_false hL.symm⟩))
    by_cases he : er = 0
    · subst he
      have hg := hG rfl
      clear hG
      rcases hLL with ⟨l1, k1⟩ | ⟨l1, l2, l3, k1⟩ | ⟨l1, l2, l3, k1⟩ | ⟨l1, l2, k1⟩
      · skip
        go_wp2_with fail
        refine (hg _).mono ?_
        rintro e w5 ⟨rfl, hb5⟩
        have HB5 := Lib.hid hb5
        clear hb5 hg
        go_wp2_with fail
        refine (alive6 _).mono ?_
        rintro e w6 ⟨rfl, hb6⟩
        obtain ⟨b0, b1, hbT, hb, Rg, hC, hL⟩ := HW.out
        clear HW
        replace a0 := cell_later hb6 (cell_later (below_step hb HB5.out) a0)
        replace a1 := cell_later hb6 (cell_later (below_step hb HB5.out) a1)
        replace b0 := cell_later hb6 (cell_later (below_step hb HB5.out) b0)
        replace b1 := cell_later hb6 (cell_later (below_step hb HB5.out) b1)
        replace hbT := below_step (below_step hbT (below_step hb HB5.out)) hb6
        clear hb hb6 Rg hL
        have HB := Lib.hid hbT
        clear hbT HB5
        go_wp2_with fail
        refine (hC _).mono ?_
        rintro e w7 ⟨rfl, hb7⟩
        replace HB := Lib.hid (below_step HB.out hb7)
        clear hb7 hC a0 a1 b0 b1
        go_wp2
        go_ret
        first | exact ⟨rfl, HB.out⟩ | exact ⟨congrArg (fun b => Ending.returned (Value.bool b)) (show (!decide (c < 0)) = true by simp; omega), HB.out⟩
      · skip
        go_wp2_with fail
        refine (hg _).mono ?_
        rintro e w5 ⟨rfl, hb5⟩
        have HB5 := Lib.hid hb5
        clear hb5 hg
        go_wp2_with fail
        refine (alive6 _).mono ?_
        rintro e w6 ⟨rfl, hb6⟩
        obtain ⟨b0, b1, hbT, hb, Rg, hC, hL⟩ := HW.out
        clear HW
        replace a0 := cell_later hb6 (cell_later (below_step hb HB5.out) a0)
        replace a1 := cell_later hb6 (cell_later (below_step hb HB5.out) a1)
        replace b0 := cell_later hb6 (cell_later (below_step hb HB5.out) b0)
        replace b1 := cell_later hb6 (cell_later (below_step hb HB5.out) b1)
        replace hbT := below_step (below_step hbT (below_step hb HB5.out)) hb6
        clear hb hb6 Rg hL
        have HB := Lib.hid hbT
        clear hbT HB5
        go_wp2_with fail
        refine (hC _).mono ?_
        rintro e w7 ⟨rfl, hb7⟩
        replace HB := Lib.hid (below_step HB.out hb7)
        clear hb7 hC a0 a1 b0 b1
        go_wp2
        go_ret
        first | exact ⟨rfl, HB.out⟩ | exact ⟨congrArg (fun b => Ending.returned (Value.bool b)) (show (!decide (c < 0)) = true by simp; omega), HB.out⟩
      · skip
        go_wp2_with fail
        refine (hg _).mono ?_
        rintro e w5 ⟨rfl, hb5⟩
        have HB5 := Lib.hid hb5
        clear hb5 hg
        go_wp2_with fail
        refine (alive6 _).mono ?_
        rintro e w6 ⟨rfl, hb6⟩
        obtain ⟨b0, b1, hbT, hb, Rg, hC, hL⟩ := HW.out
        clear HW
        replace a0 := cell_later hb6 (cell_later (below_step hb HB5.out) a0)
        replace a1 := cell_later hb6 (cell_later (below_step hb HB5.out) a1)
        replace b0 := cell_later hb6 (cell_later (below_step hb HB5.out) b0)
        replace b1 := cell_later hb6 (cell_later (below_step hb HB5.out) b1)
        replace hbT := below_step (below_step hbT (below_step hb HB5.out)) hb6
        clear hb hb6 Rg hL
        have HB := Lib.hid hbT
        clear hbT HB5
        go_wp2_with fail
        refine (hC _).mono ?_
        rintro e w7 ⟨rfl, hb7⟩
        replace HB := Lib.hid (below_step HB.out hb7)
        clear hb7 hC a0 a1 b0 b1
        go_wp2
        go_ret
        first | exact ⟨rfl, HB.out⟩ | exact ⟨congrArg (fun b => Ending.returned (Value.bool b)) (show (!decide (c < 0)) = true by simp; omega), HB.out⟩
      · skip
        go_wp2_with fail
        refine (hg _).mono ?_
        rintro e w5 ⟨rfl, hb5⟩
        have HB5 := Lib.hid hb5
        clear hb5 hg
        go_wp2_with fail
        refine (alive6 _).mono ?_
        rintro e w6 ⟨rfl, hb6⟩
        obtain ⟨b0, b1, hbT, hb, Rg, hC, hL⟩ := HW.out
        clear HW
        replace a0 := cell_later hb6 (cell_later (below_step hb HB5.out) a0)
        replace a1 := cell_later hb6 (cell_later (below_step hb HB5.out) a1)
        replace b0 := cell_later hb6 (cell_later (below_step hb HB5.out) b0)
        replace b1 := cell_later hb6 (cell_later (below_step hb HB5.out) b1)
        replace hbT := below_step (below_step hbT (below_step hb HB5.out)) hb6
        clear hb hb6 Rg hL
        have HB := Lib.hid hbT
        clear hbT HB5
        go_wp2_with fail
        refine (hC _).mono ?_
        rintro e w7 ⟨rfl, hb7⟩
        replace HB := Lib.hid (below_step HB.out hb7)
        clear hb7 hC a0 a1 b0 b1
        go_wp2
        go_ret
        first | exact ⟨rfl, HB.out⟩ | exact ⟨congrArg (fun b => Ending.returned (Value.bool b)) (show (!decide (c < 0)) = true by simp; omega), HB.out⟩
    · have he' : (er == 0) = false := by simp [he]
      clear hG
      rcases hLL with ⟨l1, k1⟩ | ⟨l1, l2, l3, k1⟩ | ⟨l1, l2, l3, k1⟩ | ⟨l1, l2, k1⟩
      · skip
        go_wp2_with fail
        refine (alive6 _).mono ?_
        rintro e w6 ⟨rfl, hb6⟩
        obtain ⟨b0, b1, hbT, hb, Rg, hC, hL⟩ := HW.out
        clear HW
        replace a0 := cell_later hb6 (cell_later hb a0)
        replace a1 := cell_later hb6 (cell_later hb a1)
        replace b0 := cell_later hb6 (cell_later hb b0)
        replace b1 := cell_later hb6 (cell_later hb b1)
        replace hbT := below_step (below_step hbT hb) hb6
        clear hb hb6 Rg hL
        have HB := Lib.hid hbT
        clear hbT 
        go_wp2_with fail
        refine (hC _).mono ?_
        rintro e w7 ⟨rfl, hb7⟩
        replace HB := Lib.hid (below_step HB.out hb7)
        clear hb7 hC a0 a1 b0 b1
        go_wp2
        go_ret
        first | exact ⟨rfl, HB.out⟩ | exact ⟨congrArg (fun b => Ending.returned (Value.bool b)) (show (!decide (c < 0)) = true by simp; omega), HB.out⟩
      · skip
        go_wp2_with fail
        refine (alive6 _).mono ?_
        rintro e w6 ⟨rfl, hb6⟩
        obtain ⟨b0, b1, hbT, hb, Rg, hC, hL⟩ := HW.out
        clear HW
        replace a0 := cell_later hb6 (cell_later hb a0)
        replace a1 := cell_later hb6 (cell_later hb a1)
        replace b0 := cell_later hb6 (cell_later hb b0)
        replace b1 := cell_later hb6 (cell_later hb b1)
        replace hbT := below_step (below_step hbT hb) hb6
        clear hb hb6 Rg hL
        have HB := Lib.hid hbT
        clear hbT 
        go_wp2_with fail
        refine (hC _).mono ?_
        rintro e w7 ⟨rfl, hb7⟩
        replace HB := Lib.hid (below_step HB.out hb7)
        clear hb7 hC a0 a1 b0 b1
        go_wp2
        go_ret
        first | exact ⟨rfl, HB.out⟩ | exact ⟨congrArg (fun b => Ending.returned (Value.bool b)) (show (!decide (c < 0)) = true by simp; omega), HB.out⟩
      · skip
        go_wp2_with fail
        refine (alive6 _).mono ?_
        rintro e w6 ⟨rfl, hb6⟩
        obtain ⟨b0, b1, hbT, hb, Rg, hC, hL⟩ := HW.out
        clear HW
        replace a0 := cell_later hb6 (cell_later hb a0)
        replace a1 := cell_later hb6 (cell_later hb a1)
        replace b0 := cell_later hb6 (cell_later hb b0)
        replace b1 := cell_later hb6 (cell_later hb b1)
        replace hbT := below_step (below_step hbT hb) hb6
        clear hb hb6 Rg hL
        have HB := Lib.hid hbT
        clear hbT 
        go_wp2_with fail
        refine (hC _).mono ?_
        rintro e w7 ⟨rfl, hb7⟩
        replace HB := Lib.hid (below_step HB.out hb7)
        clear hb7 hC a0 a1 b0 b1
        go_wp2
        go_ret
        first | exact ⟨rfl, HB.out⟩ | exact ⟨congrArg (fun b => Ending.returned (Value.bool b)) (show (!decide (c < 0)) = true by simp; omega), HB.out⟩
      · skip
        go_wp2_with fail
        refine (alive6 _).mono ?_
        rintro e w6 ⟨rfl, hb6⟩
        obtain ⟨b0, b1, hbT, hb, Rg, hC, hL⟩ := HW.out
        clear HW
        replace a0 := cell_later hb6 (cell_later hb a0)
        replace a1 := cell_later hb6 (cell_later hb a1)
        replace b0 := cell_later hb6 (cell_later hb b0)
        replace b1 := cell_later hb6 (cell_later hb b1)
        replace hbT := below_step (below_step hbT hb) hb6
        clear hb hb6 Rg hL
        have HB := Lib.hid hbT
        clear hbT 
        go_wp2_with fail
        refine (hC _).mono ?_
        rintro e w7 ⟨rfl, hb7⟩
        replace HB := Lib.hid (below_step HB.out hb7)
        clear hb7 hC a0 a1 b0 b1
        go_wp2
        go_ret
        first | exact ⟨rfl, HB.out⟩ | exact ⟨congrArg (fun b => Ending.returned (Value.bool b)) (show (!decide (c < 0)) = true by simp; omega), HB.out⟩
theorem numBack_any (ah al bh bl : Int) (h1 : Word ah) (h2 : Word al) (h3 : Word bh) (h4 : Word bl) (l : List UInt8) (w : World) :
    Calls Tryd.prog 5 #[.agg #[.int .u64 ah, .int .u64 al], .agg #[.int .u64 bh, .int .u64 bl], .string ⟨l.toArray⟩] w fun e w' => e = .returned (.bool true) ∧ Below w.heap.size w w' := by
  by_cases h200 : 200 < l.length
  · have hsz := bs_size l
    have hbT : Below w.heap.size w ((w.alloc (.cells #[.int .u64 ah, .int .u64 al] 24)).alloc (.cells #[.int .u64 bh, .int .u64 bl] 24)) := (by repeat (first | exact Below.refl _ _ | assumption | (with_reducible refine Below.setCell ?_ ?h _; case h => first | omega | (simp; done) | (simp; omega)) | (with_reducible refine Below.alloc ?_ ?h _; case h => first | omega | (simp; done) | (simp; omega)) | (with_reducible refine Below.drew ?_) | (with_reducible refine Below.trans ?_ (hb4.mono ?h); case h => first | omega | (simp; done) | (simp; omega)) | (with_reducible refine Below.trans ?_ (hb3.mono ?h); case h => first | omega | (simp; done) | (simp; omega)) | (with_reducible refine Below.trans ?_ (hb2.mono ?h); case h => first | omega | (simp; done) | (simp; omega)) | (with_reducible refine Below.trans ?_ (hb.mono ?h); case h => first | omega | (simp; done) | (simp; omega)) | (with_reducible refine Below.trans ?_ (hb0.mono ?h); case h => first | omega | (simp; done) | (simp; omega))))
    have HW := Lib.hid hbT
    clear hbT h1 h2 h3 h4
    go_enter Tryd.func5, Tryd.ntmps5
    go_wp2_with fail
    refine (alive6 _).mono ?_
    rintro r w1 ⟨rfl, hb⟩
    go_wp2
    go_ret
    exact ⟨rfl, below_step HW.out hb⟩
  · have hM : (MM : Int) = 340282366920938463463374607431768211456 := rfl
    obtain ⟨A, hA⟩ : ∃ A : Nat, (A : Int) = wv ah al := ⟨(wv ah al).toNat, by have := wv_nonneg h1 h2; omega⟩
    obtain ⟨B, hB⟩ : ∃ B : Nat, (B : Int) = wv bh bl := ⟨(wv bh bl).toNat, by have := wv_nonneg h3 h4; omega⟩
    have hA1 : (A : Int) < MM := by rw [hA]; exact wv_lt h1 h2
    have hB1 : (B : Int) < MM := by rw [hB]; exact wv_lt h3 h4
    have eA : hi (A : Int) = ah ∧ lo (A : Int) = al := by rw [hA]; exact ⟨hi_wv h1 h2, lo_wv h2⟩
    have eB : hi (B : Int) = bh ∧ lo (B : Int) = bl := by rw [hB]; exact ⟨hi_wv h3 h4, lo_wv h4⟩
    obtain ⟨L, hL⟩ : ∃ L : Nat, (L : Int) = al := ⟨al.toNat, by have := h2.1; omega⟩
    have hL1 : (L : Int) < 18446744073709551616 := by rw [hL]; exact h2.2
    have hW := fun w => nwide_t A hA1 w
    have hU := fun w => nwide_t B hB1 w
    rw [eA.1, eA.2] at hW
    rw [eB.1, eB.2] at hU
    have lA : (decN A).length ≤ 39 := dec_len_39 A (lt39 hA1)
    have lL : (decN L).length ≤ 39 := dec_len_39 L (lt39 (by omega))
    have hP := fun w => pwide_t (decN A) (by omega) w
    rw [pw_dec A hA1] at hP
    dsimp only at hP
    rw [eA.1, eA.2] at hP
    have hPr := fun w => nprint_t L (by omega) w
    have hPa := fun w => parse_t (decN L) (by omega) (L : Int) (by omega) hL1 w
    rw [pn_dec L hL1] at hPa
    dsimp only at hPa
    rw [hL] at hPr hPa
    have hS := fun w => pwide_t l (by omega) w
    have hG : (pw l).2 = 0 → ∀ w, Calls Tryd.prog 7 #[.agg #[.int .u64 (hi (pw l).1), .int .u64 (lo (pw l).1)]] w fun e w' => e = .returned (.string ⟨l.toArray⟩) ∧ Below w.heap.size w w' := fun he w => by
      obtain ⟨n, hn, e1, e2⟩ := pw_back he
      have := nwide_t n hn w
      rwa [e2, ← e1] at this
    have hC := fun w => cmp_any ah al bh bl h1 h2 h3 h4 w
    rw [← hA, ← hB] at hC
    refine nb_walk ah al bh bl _ _ _ _ (decN A) (decN B) (decN L) l h200 w hW hU hP hPr hPa hS hG hC ?_
    rw [dec_less, cmpI_neg, decide_eq_decide]
    omega
end Go.Proofs.YtbhaoafngneclaaDoor
