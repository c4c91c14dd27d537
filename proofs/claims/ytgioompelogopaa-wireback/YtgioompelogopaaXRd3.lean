/- Wide of the reference's reader. No conditions beyond lengths. -/
import Derived.Test.YtgioompelogopaaXRd2
namespace Go.Proofs.Ytgioompelogopaa
set_option linter.unusedVariables false
set_option linter.unusedSimpArgs false
open Go.RowKit
theorem fold_app (l : List Int) (a : Int) : l.foldl (fun a b => 256 * a + b) a = a * 256 ^ l.length + valB l := by
  induction l generalizing a with
  | nil => simp [valB]
  | cons b l ih =>
    have h0 : valB (b :: l) = b * 256 ^ l.length + valB l := by
      show l.foldl _ (256 * 0 + b) = _
      rw [ih]; simp
    rw [List.foldl_cons, ih, h0, List.length_cons, Int.pow_succ, Int.add_mul]
    rw [show 256 * a * 256 ^ l.length = a * (256 ^ l.length * 256) by rw [Int.mul_comm 256 a, Int.mul_assoc, Int.mul_comm 256]]
    omega
theorem valB_app (l m : List Int) : valB (l ++ m) = valB l * 256 ^ m.length + valB m := by
  show (l ++ m).foldl _ 0 = _
  rw [List.foldl_append, fold_app]; rfl
theorem takenS_16 (l : List Int) (e : Int) : (takenS l e 16).length = 0 ∨ (takenS l e 16).length = 16 := by
  unfold takenS; split
  · rename_i h; right; rw [List.length_take]; have := h.2; omega
  · left; rfl
/-- the two halves of sixteen bytes -/
theorem halves (t : List Int) (h : t.length = 0 ∨ t.length = 16) (hb : ∀ x ∈ t, Byte x) : hi (valB t) = valB (t.take 8) ∧ lo (valB t) = valB (t.drop 8) := by
  rcases h with h | h
  · obtain rfl : t = [] := List.eq_nil_of_length_eq_zero h
    exact ⟨by decide, by decide⟩
  · have h1 := valB_app (t.take 8) (t.drop 8)
    rw [List.take_append_drop] at h1
    have h2 := valB_range (t.take 8) (take_byte hb 8)
    have h3 := valB_range (t.drop 8) (fun x hx => hb x (List.mem_of_mem_drop hx))
    rw [List.length_take, h] at h2
    rw [List.length_drop, h] at h1 h3
    rw [h1]
    simp at h2 h3
    unfold hi lo
    simp
    omega
theorem take8_lt (a : List Int) (b : Int) (h : a.length < 8) : (a ++ [b]).take 8 = a.take 8 ++ [b] ∧ (a ++ [b]).drop 8 = a.drop 8 := by
  constructor
  · rw [List.take_of_length_le (by simp; omega), List.take_of_length_le (by omega)]
  · rw [List.drop_eq_nil_of_le (by simp; omega), List.drop_eq_nil_of_le (by omega)]
theorem take8_ge (a : List Int) (b : Int) (h : 8 ≤ a.length) : (a ++ [b]).take 8 = a.take 8 ∧ (a ++ [b]).drop 8 = a.drop 8 ++ [b] := by
  exact ⟨List.take_append_of_le_length h, List.drop_append_of_le_length h⟩
theorem wrap_u64 {x : Int} (h0 : 0 ≤ x) (h1 : x < 18446744073709551616) : IntKind.u64.wrap x = x := by
  simp [IntKind.wrap, IntKind.bits, IntKind.signed]; omega
set_option maxRecDepth 100000 in
set_option maxHeartbeats 1600000 in
theorem xwide_t (q : Nat) (l : List Int) (e : Int) (w : World) (h : Rx w q l e) :
    Calls Try.prog 65 #[.pointer (some ⟨q, 0, none⟩)] w fun r w' => r = .returned (.agg #[.int .u64 (hi (valB (takenS l e 16))), .int .u64 (lo (valB (takenS l e 16)))]) ∧ Rx w' q (leftS l e 16) (errS l e 16) ∧ Keeps (fun k => k = q) w w' := by
  have hlt := h.lt
  have htl := takenS_16 l e
  have htb := takenS_byte h.bytes e 16
  obtain ⟨hv1, hv2⟩ := halves _ htl htb
  rw [hv1, hv2]
  clear hv1 hv2
  generalize hg1 : takenS l e 16 = t at *
  go_enter Try.func65, Try.ntmps65
  go_wp2_with fail
  have hb0 : Below w.heap.size w (w.alloc (.cells #[.int .u64 0, .int .u64 0] 27)) := (by repeat (first | exact Below.refl _ _ | assumption | (with_reducible refine Below.setCell ?_ ?h _; case h => first | omega | (simp; done) | (simp; omega)) | (with_reducible refine Below.alloc ?_ ?h _; case h => first | omega | (simp; done) | (simp; omega)) | (with_reducible refine Below.drew ?_) | (with_reducible refine Below.trans ?_ (hb4.mono ?h); case h => first | omega | (simp; done) | (simp; omega)) | (with_reducible refine Below.trans ?_ (hb3.mono ?h); case h => first | omega | (simp; done) | (simp; omega)) | (with_reducible refine Below.trans ?_ (hb2.mono ?h); case h => first | omega | (simp; done) | (simp; omega)) | (with_reducible refine Below.trans ?_ (hb.mono ?h); case h => first | omega | (simp; done) | (simp; omega)) | (with_reducible refine Below.trans ?_ (hb0.mono ?h); case h => first | omega | (simp; done) | (simp; omega))))
  have R0 := Row.new w #[.int .u64 0, .int .u64 0] 27
  have hc := xraw_t q l e 16 _ (h.later hb0)
  rw [show mustS e (decide ((0 : Int) ≤ 16)) = e from mustS_nat e 16, hg1] at hc
  refine hc.mono ?_
  clear hc
  rintro r w1 ⟨⟨v, rfl, hb⟩, hst, hk⟩
  replace R0 := hk.row R0 (by omega)
  have hkw : Keeps (fun k => k = q) w w1 := (Keeps.of_below hb0).trans hk (fun _ h => .inl h)
  clear hk hb0
  have HG := Lib.hid hg1; clear hg1 h
  obtain ⟨pp, c, rfl, h1, h2, h3, h4, h6⟩ := hb
  generalize hB : w.heap.size = B0 at *
  go_wp2_with fail
  have hb1 : Below w1.heap.size w1 (w1.alloc (.cells #[.int .u64 0, .int .u64 0] 27)) := (by repeat (first | exact Below.refl _ _ | assumption | (with_reducible refine Below.setCell ?_ ?h _; case h => first | omega | (simp; done) | (simp; omega)) | (with_reducible refine Below.alloc ?_ ?h _; case h => first | omega | (simp; done) | (simp; omega)) | (with_reducible refine Below.drew ?_) | (with_reducible refine Below.trans ?_ (hb4.mono ?h); case h => first | omega | (simp; done) | (simp; omega)) | (with_reducible refine Below.trans ?_ (hb3.mono ?h); case h => first | omega | (simp; done) | (simp; omega)) | (with_reducible refine Below.trans ?_ (hb2.mono ?h); case h => first | omega | (simp; done) | (simp; omega)) | (with_reducible refine Below.trans ?_ (hb.mono ?h); case h => first | omega | (simp; done) | (simp; omega)) | (with_reducible refine Below.trans ?_ (hb0.mono ?h); case h => first | omega | (simp; done) | (simp; omega))))
  have R1 := Row.new w1 #[.int .u64 0, .int .u64 0] 27
  have hn01 := R0.lt
  replace R0 := R0.later hb1
  replace hst := hst.later hb1
  replace h3 := fun hl => (show ∃ g o, pp = some ⟨g, o, none⟩ ∧ ∀ j x, t[j]? = some x → (w1.alloc (.cells #[.int .u64 0, .int .u64 0] 27)).cell? ⟨g, o + j, none⟩ = some (.int .u8 x) by obtain ⟨g, o, hp, h5⟩ := h3 hl; exact ⟨g, o, hp, fun j x hx => cell_later hb1 (h5 j x hx)⟩)
  replace hkw := hkw.trans (Keeps.of_below (F := fun k => k = q) hb1) (fun _ h => .inl h)
  have hst' := Lib.hid hst; clear hst
  have H3 := Lib.hid h3; clear h3 h6 h4 hb1
  generalize hB1 : w1.heap.size = B1 at *
  generalize w1.alloc (.cells #[.int .u64 0, .int .u64 0] 27) = wz at *
  go_loopw [5] (fun i wr => ∃ (j : Nat), j ≤ t.length ∧ i = .int .i64 j ∧ Row wr B1 #[.int .u64 (valB ((t.take j).take 8)), .int .u64 (valB ((t.take j).drop 8))] 27 ∧ Keeps (fun k => k = B1) wz wr) (fun i _ => t.length - (intOf i).toNat)
  case atStart => exact ⟨0, by omega, rfl, R1, Keeps.refl _ _⟩
  case round =>
    obtain ⟨j, hj, rfl, R, hkr⟩ := hrel
    by_cases hlt2 : j < t.length
    · obtain ⟨g, o, rfl, h5⟩ := H3.out (by omega)
      have hx : t[j]? = some t[j] := List.getElem?_eq_getElem hlt2
      have c0' := h5 j _ hx
      have htwo : Two (fun k => k = B1) wz := fun k hk => ⟨0, 0, 27, by rw [hk]; exact R1⟩
      have hgB : g ≠ B1 := htwo.byte c0'
      have c0 := hkr.cell c0' hgB
      have hby := htb t[j] (List.getElem_mem hlt2)
      have hts := take_succ_get t j _ hx
      have hal : (t.take j).length = j := by rw [List.length_take]; omega
      have hab := take_byte htb j
      generalize t[j] = b at *
      generalize ha : t.take j = a at *
      obtain ⟨b0, b1⟩ := id hby
      have hwb := wrap_u64 (x := b) (by omega) (by omega)
      have hr1 := valB_range (a.take 8) (take_byte hab 8)
      have hr2 := valB_range (a.drop 8) (fun x hx => hab x (List.mem_of_mem_drop hx))
      rw [List.length_take] at hr1
      rw [List.length_drop] at hr2
      have hlb : decide ((j : Int) < (t.length : Int)) = true := by simp; omega
      clear h5 hx c0' htb hab H3
      have r0 := (R.cell 0).trans (show _ = some (Value.int .u64 (valB (a.take 8))) from rfl)
      have r1 := (R.cell 1).trans (show _ = some (Value.int .u64 (valB (a.drop 8))) from rfl)
      have f0 := R.frozen 0
      have f1 := R.frozen 1
      by_cases hj8 : j < 8
      · have hlb8 : decide ((j : Int) < 8) = true := by simp; omega
        have hp := pow_le8 (min 8 a.length) (by omega)
        have ht8 := take8_lt a b (by omega)
        have HT := Lib.hid (show valB ((t.take (j + 1)).take 8) = 256 * valB (a.take 8) + b by rw [hts, ht8.1, valB_snoc])
        have HU := Lib.hid (show valB ((t.take (j + 1)).drop 8) = valB (a.drop 8) by rw [hts, ht8.2])
        clear ht8 hts
        generalize valB (a.take 8) = n at *
        generalize valB (a.drop 8) = m at *
        have n0 : 0 ≤ n := hr1.1
        have m0 : 0 ≤ m := hr2.1
        have hw1 := wrap_u64 (x := 256 * n) (by omega) (by omega)
        have hw2 := wrap_u64 (x := 256 * n + b) (by omega) (by omega)
        clear hr1 hr2 hp
        go_wp2
        refine wp_region_held_drew (S := (fun w' => w'.cell? ⟨g, o + j, none⟩ = some (.int .u8 b))) (by kernel_rfl) ?hSr1_ (fun hHeld => ?_)
        case hSr1_ => (exact c0)
        refine wpAnyH_take (i := 0) (oi := { dst := some 17, op := Go.Op.fieldAddr 27 (Go.Operand.tmp 4) 0, type := 0, pos := _, after := #[], guard := none }) (v := ?vr1_1_0) rfl (by kernel_rfl) (by kernel_rfl) (by kernel_rfl) (fun _ _ _ h => h) (Or.inl ⟨by rfl, ?yr1_1_0⟩) hHeld ?_
        case yr1_1_0 => ((intro w hSw; (try dsimp only at hSw); go_simp) <;> with_reducible rfl)
        (try simp only [Act.put, List.setIfInBounds_toArray, List.set_cons_zero, List.set_cons_succ])
        refine wpAnyH_take (i := 3) (oi := { dst := some 20, op := Go.Op.move (Go.Operand.tmp 3), type := 56, pos := _, after := #[], guard := none }) (v := ?vr1_2_3) rfl (by kernel_rfl) (by kernel_rfl) (by kernel_rfl) (fun _ _ _ h => h) (Or.inl ⟨by rfl, ?yr1_2_3⟩) hHeld ?_
        case yr1_2_3 => ((intro w hSw; (try dsimp only at hSw); go_simp) <;> with_reducible rfl)
        (try simp only [Act.put, List.setIfInBounds_toArray, List.set_cons_zero, List.set_cons_succ])
        refine wpAnyH_take (i := 4) (oi := { dst := some 21, op := Go.Op.move (Go.Operand.tmp 5), type := 3, pos := _, after := #[], guard := none }) (v := ?vr1_3_4) rfl (by kernel_rfl) (by kernel_rfl) (by kernel_rfl) (fun _ _ _ h => h) (Or.inl ⟨by rfl, ?yr1_3_4⟩) hHeld ?_
        case yr1_3_4 => ((intro w hSw; (try dsimp only at hSw); go_simp) <;> with_reducible rfl)
        (try simp only [Act.put, List.setIfInBounds_toArray, List.set_cons_zero, List.set_cons_succ])
        refine wpAnyH_take (i := 5) (oi := { dst := some 22, op := Go.Op.indexAddr 56 (Go.Operand.tmp 20) (Go.Operand.tmp 21), type := 0, pos := _, after := #[{ on := 3, ground := Go.Ground.data }, { on := 4, ground := Go.Ground.data }], guard := none }) (v := ?vr1_4_5) rfl (by kernel_rfl) (by kernel_rfl) (by kernel_rfl) (fun _ _ _ h => h) (Or.inl ⟨by rfl, ?yr1_4_5⟩) hHeld ?_
        case yr1_4_5 => ((intro w hSw; (try dsimp only at hSw); go_simp) <;> with_reducible rfl)
        (try simp only [Act.put, List.setIfInBounds_toArray, List.set_cons_zero, List.set_cons_succ])
        refine wpAnyH_take (i := 6) (oi := { dst := some 23, op := Go.Op.load 5 (Go.Operand.tmp 22), type := 5, pos := _, after := #[{ on := 5, ground := Go.Ground.data }], guard := none }) (v := ?vr1_5_6) rfl (by kernel_rfl) (by kernel_rfl) (by kernel_rfl) (fun _ _ _ h => h) (Or.inl ⟨by rfl, ?yr1_5_6⟩) hHeld ?_
        case yr1_5_6 => ((intro w hSw; (try dsimp only at hSw); go_simp) <;> with_reducible rfl)
        (try simp only [Act.put, List.setIfInBounds_toArray, List.set_cons_zero, List.set_cons_succ])
        refine wpAnyH_take (i := 7) (oi := { dst := some 24, op := Go.Op.convert 5 22 (Go.Operand.tmp 23), type := 22, pos := _, after := #[{ on := 6, ground := Go.Ground.data }], guard := none }) (v := ?vr1_6_7) rfl (by kernel_rfl) (by kernel_rfl) (by kernel_rfl) (fun _ _ _ h => h) (Or.inl ⟨by rfl, ?yr1_6_7⟩) hHeld ?_
        case yr1_6_7 => ((intro w hSw; (try dsimp only at hSw); go_simp) <;> with_reducible rfl)
        (try simp only [Act.put, List.setIfInBounds_toArray, List.set_cons_zero, List.set_cons_succ])
        refine wpAnyH_ready (rs := [1]) (by kernel_rfl) (by simp) ?_
        refine AllReadyH.cons (o := { dst := some 18, op := Go.Op.load 22 (Go.Operand.tmp 17), type := 22, pos := _, after := #[{ on := 0, ground := Go.Ground.data }], guard := none }) rfl (fun K hK => ?_) AllReadyH.nil
        go_simp
        refine hK.out _ _ ?hSr1_7_1 (fun hHeld2 => ?_)
        case hSr1_7_1 => (exact c0)
        clear hK K hHeld
        have hHeld := hHeld2
        clear hHeld2
        (try simp only [Act.put, List.setIfInBounds_toArray, List.set_cons_zero, List.set_cons_succ])
        refine wpAnyH_take (i := 2) (oi := { dst := some 19, op := Go.Op.binOp Go.BinOp.mul 22 (Go.Operand.const (Go.Value.int Go.IntKind.u64 256)) (Go.Operand.tmp 18) 22, type := 22, pos := _, after := #[{ on := 1, ground := Go.Ground.data }], guard := none }) (v := ?vr1_8_2) rfl (by kernel_rfl) (by kernel_rfl) (by kernel_rfl) (fun _ _ _ h => h) (Or.inl ⟨by rfl, ?yr1_8_2⟩) hHeld ?_
        case yr1_8_2 => ((intro w hSw; (try dsimp only at hSw); go_simp) <;> with_reducible rfl)
        (try simp only [Act.put, List.setIfInBounds_toArray, List.set_cons_zero, List.set_cons_succ])
        refine wpAnyH_take (i := 8) (oi := { dst := some 25, op := Go.Op.binOp Go.BinOp.add 22 (Go.Operand.tmp 19) (Go.Operand.tmp 24) 22, type := 22, pos := _, after := #[{ on := 2, ground := Go.Ground.data }, { on := 7, ground := Go.Ground.data }], guard := none }) (v := ?vr1_9_8) rfl (by kernel_rfl) (by kernel_rfl) (by kernel_rfl) (fun _ _ _ h => h) (Or.inl ⟨by rfl, ?yr1_9_8⟩) hHeld ?_
        case yr1_9_8 => ((intro w hSw; (try dsimp only at hSw); go_simp) <;> with_reducible rfl)
        (try simp only [Act.put, List.setIfInBounds_toArray, List.set_cons_zero, List.set_cons_succ])
        refine wpAnyH_take (i := 9) (oi := { dst := some 26, op := Go.Op.fieldAddr 27 (Go.Operand.tmp 4) 0, type := 0, pos := _, after := #[{ on := 0, ground := Go.Ground.phase }, { on := 1, ground := Go.Ground.phase }, { on := 2, ground := Go.Ground.phase }, { on := 3, ground := Go.Ground.phase }, { on := 4, ground := Go.Ground.phase }, { on := 5, ground := Go.Ground.phase }, { on := 6, ground := Go.Ground.phase }, { on := 7, ground := Go.Ground.phase }, { on := 8, ground := Go.Ground.phase }], guard := none }) (v := ?vr1_10_9) rfl (by kernel_rfl) (by kernel_rfl) (by kernel_rfl) (fun _ _ _ h => h) (Or.inl ⟨by rfl, ?yr1_10_9⟩) hHeld ?_
        case yr1_10_9 => ((intro w hSw; (try dsimp only at hSw); go_simp) <;> with_reducible rfl)
        (try simp only [Act.put, List.setIfInBounds_toArray, List.set_cons_zero, List.set_cons_succ])
        refine wpAnyH_ready (rs := [10]) (by kernel_rfl) (by simp) ?_
        refine AllReadyH.cons (o := { dst := none, op := Go.Op.store 22 (Go.Operand.tmp 26) (Go.Operand.tmp 25), type := 0, pos := _, after := #[{ on := 9, ground := Go.Ground.data }, { on := 8, ground := Go.Ground.data }, { on := 0, ground := Go.Ground.phase }, { on := 1, ground := Go.Ground.phase }, { on := 2, ground := Go.Ground.phase }, { on := 3, ground := Go.Ground.phase }, { on := 4, ground := Go.Ground.phase }, { on := 5, ground := Go.Ground.phase }, { on := 6, ground := Go.Ground.phase }, { on := 7, ground := Go.Ground.phase }, { on := 8, ground := Go.Ground.phase }], guard := none }) rfl (fun K hK => ?_) AllReadyH.nil
        go_simp
        refine hK.out _ _ ?hSr1_11_10 (fun hHeld2 => ?_)
        case hSr1_11_10 => (exact (World.cell?_setCell_far _ _ _ _ hgB.symm).trans c0)
        clear hK K hHeld
        have hHeld := hHeld2
        clear hHeld2
        (try simp only [Act.put, List.setIfInBounds_toArray, List.set_cons_zero, List.set_cons_succ])
        refine wpAnyH_done (by kernel_rfl) ?_ _
        go_wp2
        refine ⟨⟨j + 1, by omega, by go_num, ?_, ?_⟩, by simp [intOf]; omega⟩
        · rw [HT.out, HU.out]
          simpa using (R.set 0 (.int .u64 (256 * n + b))).drew
        · exact (hkr.setCell (a := ⟨B1, 0, none⟩) rfl _).drew
      · have hlb8 : decide ((j : Int) < 8) = false := by simp; omega
        have hp := pow_le8 (a.length - 8) (by omega)
        have ht8 := take8_ge a b (by omega)
        have HT := Lib.hid (show valB ((t.take (j + 1)).take 8) = valB (a.take 8) by rw [hts, ht8.1])
        have HU := Lib.hid (show valB ((t.take (j + 1)).drop 8) = 256 * valB (a.drop 8) + b by rw [hts, ht8.2, valB_snoc])
        clear ht8 hts
        generalize valB (a.take 8) = n at *
        generalize valB (a.drop 8) = m at *
        have n0 : 0 ≤ n := hr1.1
        have m0 : 0 ≤ m := hr2.1
        have hw1 := wrap_u64 (x := 256 * m) (by omega) (by omega)
        have hw2 := wrap_u64 (x := 256 * m + b) (by omega) (by omega)
        clear hr1 hr2 hp
        go_wp2
        refine wp_region_held_drew (S := (fun w' => w'.cell? ⟨g, o + j, none⟩ = some (.int .u8 b))) (by kernel_rfl) ?hSr2_ (fun hHeld => ?_)
        case hSr2_ => (exact c0)
        refine wpAnyH_take (i := 0) (oi := { dst := some 27, op := Go.Op.fieldAddr 27 (Go.Operand.tmp 4) 1, type := 0, pos := _, after := #[], guard := none }) (v := ?vr2_1_0) rfl (by kernel_rfl) (by kernel_rfl) (by kernel_rfl) (fun _ _ _ h => h) (Or.inl ⟨by rfl, ?yr2_1_0⟩) hHeld ?_
        case yr2_1_0 => ((intro w hSw; (try dsimp only at hSw); go_simp) <;> with_reducible rfl)
        (try simp only [Act.put, List.setIfInBounds_toArray, List.set_cons_zero, List.set_cons_succ])
        refine wpAnyH_take (i := 3) (oi := { dst := some 30, op := Go.Op.move (Go.Operand.tmp 3), type := 56, pos := _, after := #[], guard := none }) (v := ?vr2_2_3) rfl (by kernel_rfl) (by kernel_rfl) (by kernel_rfl) (fun _ _ _ h => h) (Or.inl ⟨by rfl, ?yr2_2_3⟩) hHeld ?_
        case yr2_2_3 => ((intro w hSw; (try dsimp only at hSw); go_simp) <;> with_reducible rfl)
        (try simp only [Act.put, List.setIfInBounds_toArray, List.set_cons_zero, List.set_cons_succ])
        refine wpAnyH_take (i := 4) (oi := { dst := some 31, op := Go.Op.move (Go.Operand.tmp 5), type := 3, pos := _, after := #[], guard := none }) (v := ?vr2_3_4) rfl (by kernel_rfl) (by kernel_rfl) (by kernel_rfl) (fun _ _ _ h => h) (Or.inl ⟨by rfl, ?yr2_3_4⟩) hHeld ?_
        case yr2_3_4 => ((intro w hSw; (try dsimp only at hSw); go_simp) <;> with_reducible rfl)
        (try simp only [Act.put, List.setIfInBounds_toArray, List.set_cons_zero, List.set_cons_succ])
        refine wpAnyH_take (i := 5) (oi := { dst := some 32, op := Go.Op.indexAddr 56 (Go.Operand.tmp 30) (Go.Operand.tmp 31), type := 0, pos := _, after := #[{ on := 3, ground := Go.Ground.data }, { on := 4, ground := Go.Ground.data }], guard := none }) (v := ?vr2_4_5) rfl (by kernel_rfl) (by kernel_rfl) (by kernel_rfl) (fun _ _ _ h => h) (Or.inl ⟨by rfl, ?yr2_4_5⟩) hHeld ?_
        case yr2_4_5 => ((intro w hSw; (try dsimp only at hSw); go_simp) <;> with_reducible rfl)
        (try simp only [Act.put, List.setIfInBounds_toArray, List.set_cons_zero, List.set_cons_succ])
        refine wpAnyH_take (i := 6) (oi := { dst := some 33, op := Go.Op.load 5 (Go.Operand.tmp 32), type := 5, pos := _, after := #[{ on := 5, ground := Go.Ground.data }], guard := none }) (v := ?vr2_5_6) rfl (by kernel_rfl) (by kernel_rfl) (by kernel_rfl) (fun _ _ _ h => h) (Or.inl ⟨by rfl, ?yr2_5_6⟩) hHeld ?_
        case yr2_5_6 => ((intro w hSw; (try dsimp only at hSw); go_simp) <;> with_reducible rfl)
        (try simp only [Act.put, List.setIfInBounds_toArray, List.set_cons_zero, List.set_cons_succ])
        refine wpAnyH_take (i := 7) (oi := { dst := some 34, op := Go.Op.convert 5 22 (Go.Operand.tmp 33), type := 22, pos := _, after := #[{ on := 6, ground := Go.Ground.data }], guard := none }) (v := ?vr2_6_7) rfl (by kernel_rfl) (by kernel_rfl) (by kernel_rfl) (fun _ _ _ h => h) (Or.inl ⟨by rfl, ?yr2_6_7⟩) hHeld ?_
        case yr2_6_7 => ((intro w hSw; (try dsimp only at hSw); go_simp) <;> with_reducible rfl)
        (try simp only [Act.put, List.setIfInBounds_toArray, List.set_cons_zero, List.set_cons_succ])
        refine wpAnyH_ready (rs := [1]) (by kernel_rfl) (by simp) ?_
        refine AllReadyH.cons (o := { dst := some 28, op := Go.Op.load 22 (Go.Operand.tmp 27), type := 22, pos := _, after := #[{ on := 0, ground := Go.Ground.data }], guard := none }) rfl (fun K hK => ?_) AllReadyH.nil
        go_simp
        refine hK.out _ _ ?hSr2_7_1 (fun hHeld2 => ?_)
        case hSr2_7_1 => (exact c0)
        clear hK K hHeld
        have hHeld := hHeld2
        clear hHeld2
        (try simp only [Act.put, List.setIfInBounds_toArray, List.set_cons_zero, List.set_cons_succ])
        refine wpAnyH_take (i := 2) (oi := { dst := some 29, op := Go.Op.binOp Go.BinOp.mul 22 (Go.Operand.const (Go.Value.int Go.IntKind.u64 256)) (Go.Operand.tmp 28) 22, type := 22, pos := _, after := #[{ on := 1, ground := Go.Ground.data }], guard := none }) (v := ?vr2_8_2) rfl (by kernel_rfl) (by kernel_rfl) (by kernel_rfl) (fun _ _ _ h => h) (Or.inl ⟨by rfl, ?yr2_8_2⟩) hHeld ?_
        case yr2_8_2 => ((intro w hSw; (try dsimp only at hSw); go_simp) <;> with_reducible rfl)
        (try simp only [Act.put, List.setIfInBounds_toArray, List.set_cons_zero, List.set_cons_succ])
        refine wpAnyH_take (i := 8) (oi := { dst := some 35, op := Go.Op.binOp Go.BinOp.add 22 (Go.Operand.tmp 29) (Go.Operand.tmp 34) 22, type := 22, pos := _, after := #[{ on := 2, ground := Go.Ground.data }, { on := 7, ground := Go.Ground.data }], guard := none }) (v := ?vr2_9_8) rfl (by kernel_rfl) (by kernel_rfl) (by kernel_rfl) (fun _ _ _ h => h) (Or.inl ⟨by rfl, ?yr2_9_8⟩) hHeld ?_
        case yr2_9_8 => ((intro w hSw; (try dsimp only at hSw); go_simp) <;> with_reducible rfl)
        (try simp only [Act.put, List.setIfInBounds_toArray, List.set_cons_zero, List.set_cons_succ])
        refine wpAnyH_take (i := 9) (oi := { dst := some 36, op := Go.Op.fieldAddr 27 (Go.Operand.tmp 4) 1, type := 0, pos := _, after := #[{ on := 0, ground := Go.Ground.phase }, { on := 1, ground := Go.Ground.phase }, { on := 2, ground := Go.Ground.phase }, { on := 3, ground := Go.Ground.phase }, { on := 4, ground := Go.Ground.phase }, { on := 5, ground := Go.Ground.phase }, { on := 6, ground := Go.Ground.phase }, { on := 7, ground := Go.Ground.phase }, { on := 8, ground := Go.Ground.phase }], guard := none }) (v := ?vr2_10_9) rfl (by kernel_rfl) (by kernel_rfl) (by kernel_rfl) (fun _ _ _ h => h) (Or.inl ⟨by rfl, ?yr2_10_9⟩) hHeld ?_
        case yr2_10_9 => ((intro w hSw; (try dsimp only at hSw); go_simp) <;> with_reducible rfl)
        (try simp only [Act.put, List.setIfInBounds_toArray, List.set_cons_zero, List.set_cons_succ])
        refine wpAnyH_ready (rs := [10]) (by kernel_rfl) (by simp) ?_
        refine AllReadyH.cons (o := { dst := none, op := Go.Op.store 22 (Go.Operand.tmp 36) (Go.Operand.tmp 35), type := 0, pos := _, after := #[{ on := 9, ground := Go.Ground.data }, { on := 8, ground := Go.Ground.data }, { on := 0, ground := Go.Ground.phase }, { on := 1, ground := Go.Ground.phase }, { on := 2, ground := Go.Ground.phase }, { on := 3, ground := Go.Ground.phase }, { on := 4, ground := Go.Ground.phase }, { on := 5, ground := Go.Ground.phase }, { on := 6, ground := Go.Ground.phase }, { on := 7, ground := Go.Ground.phase }, { on := 8, ground := Go.Ground.phase }], guard := none }) rfl (fun K hK => ?_) AllReadyH.nil
        go_simp
        refine hK.out _ _ ?hSr2_11_10 (fun hHeld2 => ?_)
        case hSr2_11_10 => (exact (World.cell?_setCell_far _ _ _ _ hgB.symm).trans c0)
        clear hK K hHeld
        have hHeld := hHeld2
        clear hHeld2
        (try simp only [Act.put, List.setIfInBounds_toArray, List.set_cons_zero, List.set_cons_succ])
        refine wpAnyH_done (by kernel_rfl) ?_ _
        go_wp2
        refine ⟨⟨j + 1, by omega, by go_num, ?_, ?_⟩, by simp [intOf]; omega⟩
        · rw [HT.out, HU.out]
          simpa using (R.set 1 (.int .u64 (256 * m + b))).drew
        · exact (hkr.setCell (a := ⟨B1, 1, none⟩) rfl _).drew
    · have e8 : j = t.length := by omega
      have hlb : decide ((j : Int) < (t.length : Int)) = false := by simp; omega
      subst e8
      clear H3
      rw [List.take_length] at R
      have r0 := (R.cell 0).trans (show _ = some (Value.int .u64 (valB (t.take 8))) from rfl)
      have r1 := (R.cell 1).trans (show _ = some (Value.int .u64 (valB (t.drop 8))) from rfl)
      have Q := hkr.row R0 (by omega)
      have f0 := Q.frozen 0
      have f1 := Q.frozen 1
      have q0 := (Q.cell 0).trans (show _ = some (Value.int .u64 0) from rfl)
      have q1 := (Q.cell 1).trans (show _ = some (Value.int .u64 0) from rfl)
      go_wp2
      have htwo : Two (fun k => k = B0 ∨ k = B1) wz := fun k hk => by rcases hk with rfl | rfl; exact ⟨_, _, _, R0⟩; exact ⟨_, _, _, R1⟩
      have hkk : Keeps (fun k => k = B0 ∨ k = B1) wz ((wr.setCell ⟨B0, 0, none⟩ (.int .u64 (valB (t.take 8)))).setCell ⟨B0, 1, none⟩ (.int .u64 (valB (t.drop 8)))) := (Keeps.setCell (Keeps.setCell ((Keeps.refl _ _).trans hkr (fun _ h => .inl (.inr h))) (.inl rfl) _) (.inl rfl) _)
      have Q2 := (Q.set 0 (.int .u64 (valB (t.take 8)))).set 1 (.int .u64 (valB (t.drop 8)))
      have s0 := (Q2.cell 0).trans (show _ = some (Value.int .u64 (valB (t.take 8))) from rfl)
      have s1 := (Q2.cell 1).trans (show _ = some (Value.int .u64 (valB (t.drop 8))) from rfl)
      exact bodyPost_ret (v := .agg #[.int .u64 (valB (t.take 8)), .int .u64 (valB (t.drop 8))]) (by simp only [results, Try.results65]; simp [go_sem, s0, s1]) rfl ⟨rfl, hst'.out.typed hkk htwo, hkw.trans hkk (fun k h => .inr (by omega))⟩
end Go.Proofs.Ytgioompelogopaa
