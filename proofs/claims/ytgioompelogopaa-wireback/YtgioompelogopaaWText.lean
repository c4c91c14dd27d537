/- Wide and Text of the writer. No conditions beyond lengths and ranges. -/
import Derived.Test.YtgioompelogopaaWNum
namespace Go.Proofs.Ytgioompelogopaa
set_option linter.unusedVariables false
set_option linter.unusedSimpArgs false
open Go.RowKit
theorem Wr.tight {base : Nat} {w : World} {p : Nat} {l : List Int} {F : Nat → Prop} (h : Wr base w p l F) : Wr base w p l (fun k => F k ∧ k < w.heap.size) := by
  refine ⟨h.lp, ⟨h.fp, h.lt⟩, ?_⟩
  rcases h.st with h | ⟨q, v, R, Rq, ho, h1, h2, h3, h4, h5, h6⟩
  · exact .inl h
  · exact .inr ⟨q, v, R, Rq, ho, h1, h2, h3, h4, ⟨h5, Rq.lt⟩, fun g hg => ⟨h6 g hg, (ho.block g hg).2⟩⟩
theorem RawPost.loose {base : Nat} {w : World} {p : Nat} {l : List Int} {F : Nat → Prop} {e : Ending} {w' : World} (h : RawPost base w p l (fun k => F k ∧ k < w.heap.size) e w') : RawPost base w p l F e w' := by
  obtain ⟨rfl, F', h1, h2, h3⟩ := h
  exact ⟨rfl, F', h1, fun k hk => (h2 k hk).imp And.left id, ⟨h3.os, h3.tape, h3.output, h3.size, fun k hk hF => h3.block k hk (fun h => hF h.1)⟩⟩
theorem lim8 : limK 8 = 8 := by decide
theorem lim2 : limK 2 = 2 := by decide
theorem lim1 : limK 1 = 1 := by decide
set_option maxRecDepth 100000 in
set_option maxHeartbeats 1600000 in
theorem wideA_t (base p : Nat) (l : List Int) (ah al : Int) (hh : Word ah) (hw : Word al) (w : World) (F : Nat → Prop) (h : Wr base w p l F) (hl : l.length ≤ 1900000000) (hbase : base ≤ w.heap.size) (hF : ∀ k, F k → k < w.heap.size) :
    Calls Try.prog 54 #[.pointer (some ⟨p, 0, none⟩), .agg #[.int .u64 ah, .int .u64 al]] w (RawPost base w p (l ++ numB ah 8 ++ numB al 8) F) := by
  go_enter Try.func54, Try.ntmps54
  go_wp2_with fail
  have R := (Row.new w #[.int .u64 ah, .int .u64 al] 24).drew
  have c0 := (R.cell 0).trans (show _ = some (Value.int .u64 ah) from rfl)
  have c1 := (R.cell 1).trans (show _ = some (Value.int .u64 al) from rfl)
  have hb0 : Below w.heap.size w (w.alloc (.cells #[.int .u64 ah, .int .u64 al] 24)).drew := ((Below.refl _ _).alloc (Nat.le_refl _) _).drew
  have h0 := h.later hb0
  have hlt := R.lt
  have hbase0 := Nat.le_trans hbase hb0.size
  clear R
  have hne : ¬ F w.heap.size := fun f => by have := hF _ f; omega
  refine wp_region_held_drew (S := (fun w' => w'.cell? ⟨w.heap.size, 0, none⟩ = some (.int .u64 ah) ∧ w'.cell? ⟨w.heap.size, 1, none⟩ = some (.int .u64 al))) (by kernel_rfl) ?hSr1_ (fun hHeld => ?_)
  case hSr1_ => (first | exact ⟨c0, c1⟩ | exact ⟨hk1.cell hHeld.1 hne, hk1.cell hHeld.2 hne⟩ | exact ⟨hk2.cell hHeld.1 hne1, hk2.cell hHeld.2 hne1⟩)
  refine wpAnyH_take (i := 0) (oi := { dst := some 5, op := Go.Op.move (Go.Operand.tmp 0), type := 52, pos := _, after := #[], guard := none }) (v := ?vr1_1_0) rfl (by kernel_rfl) (by kernel_rfl) (by kernel_rfl) (fun _ _ _ h => h) (Or.inl ⟨by rfl, ?yr1_1_0⟩) hHeld ?_
  case yr1_1_0 => ((intro w hSw; (try dsimp only at hSw); go_simp) <;> with_reducible rfl)
  (try simp only [Act.put, List.setIfInBounds_toArray, List.set_cons_zero, List.set_cons_succ])
  refine wpAnyH_take (i := 1) (oi := { dst := some 6, op := Go.Op.fieldAddr 24 (Go.Operand.tmp 3) 0, type := 0, pos := _, after := #[], guard := none }) (v := ?vr1_2_1) rfl (by kernel_rfl) (by kernel_rfl) (by kernel_rfl) (fun _ _ _ h => h) (Or.inl ⟨by rfl, ?yr1_2_1⟩) hHeld ?_
  case yr1_2_1 => ((intro w hSw; (try dsimp only at hSw); go_simp) <;> with_reducible rfl)
  (try simp only [Act.put, List.setIfInBounds_toArray, List.set_cons_zero, List.set_cons_succ])
  refine wpAnyH_take (i := 2) (oi := { dst := some 7, op := Go.Op.load 22 (Go.Operand.tmp 6), type := 22, pos := _, after := #[{ on := 1, ground := Go.Ground.data }], guard := none }) (v := ?vr1_3_2) rfl (by kernel_rfl) (by kernel_rfl) (by kernel_rfl) (fun _ _ _ h => h) (Or.inl ⟨by rfl, ?yr1_3_2⟩) hHeld ?_
  case yr1_3_2 => ((intro w hSw; (try dsimp only at hSw); go_simp) <;> with_reducible rfl)
  (try simp only [Act.put, List.setIfInBounds_toArray, List.set_cons_zero, List.set_cons_succ])
  refine wpAnyH_take (i := 4) (oi := { dst := some 9, op := Go.Op.fieldAddr 24 (Go.Operand.tmp 3) 1, type := 0, pos := _, after := #[], guard := none }) (v := ?vr1_4_4) rfl (by kernel_rfl) (by kernel_rfl) (by kernel_rfl) (fun _ _ _ h => h) (Or.inl ⟨by rfl, ?yr1_4_4⟩) hHeld ?_
  case yr1_4_4 => ((intro w hSw; (try dsimp only at hSw); go_simp) <;> with_reducible rfl)
  (try simp only [Act.put, List.setIfInBounds_toArray, List.set_cons_zero, List.set_cons_succ])
  refine wpAnyH_take (i := 5) (oi := { dst := some 10, op := Go.Op.load 22 (Go.Operand.tmp 9), type := 22, pos := _, after := #[{ on := 4, ground := Go.Ground.data }], guard := none }) (v := ?vr1_5_5) rfl (by kernel_rfl) (by kernel_rfl) (by kernel_rfl) (fun _ _ _ h => h) (Or.inl ⟨by rfl, ?yr1_5_5⟩) hHeld ?_
  case yr1_5_5 => ((intro w hSw; (try dsimp only at hSw); go_simp) <;> with_reducible rfl)
  (try simp only [Act.put, List.setIfInBounds_toArray, List.set_cons_zero, List.set_cons_succ])
  refine wpAnyH_ready (rs := [3]) (by kernel_rfl) (by simp) ?_
  refine AllReadyH.cons (o := { dst := some 8, op := Go.Op.call { callee := Go.Callee.value (Go.Operand.func 41), args := #[Go.Operand.tmp 5, Go.Operand.tmp 7, Go.Operand.const (Go.Value.int Go.IntKind.i64 8)], argTypes := #[52, 22, 3] }, type := 52, pos := _, after := #[{ on := 0, ground := Go.Ground.data }, { on := 2, ground := Go.Ground.data }], guard := none }) rfl (fun K hK => ?_) AllReadyH.nil
  go_simp
  (first | ((have hc := num_t base p l ah 8 hh _ F h0 (by omega) hbase0); (rw [lim8] at hc); (refine hc.mono ?_); clear hc; (rintro e w1 ⟨rfl, F1, hw1, hF1, hk1⟩); (have hne1 : ¬ F1 w.heap.size := fun f => (hF1 _ f).elim hne (fun h => by omega)); clear h0) | ((have hc := num_t base p (l ++ numB ah 8) al 8 hw _ F1 hw1 (by rw [List.length_append, numB_length]; omega) (Nat.le_trans hbase0 hk1.size)); (rw [lim8] at hc); (refine hc.mono ?_); clear hc; (rintro e w2 ⟨rfl, F2, hw2, hF2, hk2⟩)))
  go_wp2_with fail
  refine hK.out _ _ ?hSr1_6_3 (fun hHeld2 => ?_)
  case hSr1_6_3 => (first | exact ⟨c0, c1⟩ | exact ⟨hk1.cell hHeld.1 hne, hk1.cell hHeld.2 hne⟩ | exact ⟨hk2.cell hHeld.1 hne1, hk2.cell hHeld.2 hne1⟩)
  clear hK K hHeld
  have hHeld := hHeld2
  clear hHeld2
  (try simp only [Act.put, List.setIfInBounds_toArray, List.set_cons_zero, List.set_cons_succ])
  refine wpAnyH_ready (rs := [6]) (by kernel_rfl) (by simp) ?_
  refine AllReadyH.cons (o := { dst := some 11, op := Go.Op.call { callee := Go.Callee.value (Go.Operand.func 41), args := #[Go.Operand.tmp 8, Go.Operand.tmp 10, Go.Operand.const (Go.Value.int Go.IntKind.i64 8)], argTypes := #[52, 22, 3] }, type := 52, pos := _, after := #[{ on := 3, ground := Go.Ground.data }, { on := 5, ground := Go.Ground.data }, { on := 3, ground := Go.Ground.chain }], guard := none }) rfl (fun K hK => ?_) AllReadyH.nil
  go_simp
  (first | ((have hc := num_t base p l ah 8 hh _ F h0 (by omega) hbase0); (rw [lim8] at hc); (refine hc.mono ?_); clear hc; (rintro e w1 ⟨rfl, F1, hw1, hF1, hk1⟩); (have hne1 : ¬ F1 w.heap.size := fun f => (hF1 _ f).elim hne (fun h => by omega)); clear h0) | ((have hc := num_t base p (l ++ numB ah 8) al 8 hw _ F1 hw1 (by rw [List.length_append, numB_length]; omega) (Nat.le_trans hbase0 hk1.size)); (rw [lim8] at hc); (refine hc.mono ?_); clear hc; (rintro e w2 ⟨rfl, F2, hw2, hF2, hk2⟩)))
  go_wp2_with fail
  refine hK.out _ _ ?hSr1_7_6 (fun hHeld2 => ?_)
  case hSr1_7_6 => (first | exact ⟨c0, c1⟩ | exact ⟨hk1.cell hHeld.1 hne, hk1.cell hHeld.2 hne⟩ | exact ⟨hk2.cell hHeld.1 hne1, hk2.cell hHeld.2 hne1⟩)
  clear hK K hHeld
  have hHeld := hHeld2
  clear hHeld2
  (try simp only [Act.put, List.setIfInBounds_toArray, List.set_cons_zero, List.set_cons_succ])
  refine wpAnyH_take (i := 7) (oi := { dst := some 4, op := Go.Op.assign (Go.Operand.tmp 11), type := 52, pos := _, after := #[{ on := 6, ground := Go.Ground.data }, { on := 6, ground := Go.Ground.chain }, { on := 0, ground := Go.Ground.phase }, { on := 1, ground := Go.Ground.phase }, { on := 2, ground := Go.Ground.phase }, { on := 3, ground := Go.Ground.phase }, { on := 4, ground := Go.Ground.phase }, { on := 5, ground := Go.Ground.phase }, { on := 6, ground := Go.Ground.phase }], guard := none }) (v := ?vr1_8_7) rfl (by kernel_rfl) (by kernel_rfl) (by kernel_rfl) (fun _ _ _ h => h) (Or.inl ⟨by rfl, ?yr1_8_7⟩) hHeld ?_
  case yr1_8_7 => ((intro w hSw; (try dsimp only at hSw); go_simp) <;> with_reducible rfl)
  (try simp only [Act.put, List.setIfInBounds_toArray, List.set_cons_zero, List.set_cons_succ])
  refine wpAnyH_done (by kernel_rfl) ?_ _
  go_wp2
  go_ret
  exact RawPost.back hb0 (RawPost.step hF1 hk1 ⟨rfl, F2, hw2, hF2, hk2⟩)
theorem wide_t (base p : Nat) (l : List Int) (ah al : Int) (hh : Word ah) (hw : Word al) (w : World) (F : Nat → Prop) (h : Wr base w p l F) (hl : l.length ≤ 1900000000) (hbase : base ≤ w.heap.size) :
    Calls Try.prog 54 #[.pointer (some ⟨p, 0, none⟩), .agg #[.int .u64 ah, .int .u64 al]] w (RawPost base w p (l ++ numB ah 8 ++ numB al 8) F) :=
  (wideA_t base p l ah al hh hw w _ h.tight hl hbase (fun _ hk => hk.2)).mono fun _ _ hp => hp.loose
/-- a string's bytes -/
def strB (s : ByteArray) : List Int := s.data.toList.map fun b => (b.toNat : Int)
theorem strB_length (s : ByteArray) : (strB s).length = s.size := by simp [strB]
theorem strB_byte (s : ByteArray) : ∀ x ∈ strB s, Byte x := by
  intro x hx; unfold strB at hx; rw [List.mem_map] at hx; obtain ⟨b, _, rfl⟩ := hx; have := b.toNat_lt; unfold Byte; omega
theorem conv_run (w : World) (s : ByteArray) (hs : s.size ≤ maxLen) :
    ∃ v w1, (convert 9 56 (.string s)).run Try.prog w = .ok v w1 ∧ BS w1 v (strB s) ∧ Below w.heap.size w w1 ∧ v.ownBlock = some w.heap.size := by
  refine ⟨_, _, run_bytes_of_string (P := Try.prog) w 9 56 5 s Try.underlying9 Try.underlying56 Try.underlying5, ?_, (Below.refl _ _).drew.alloc (Nat.le_refl _) _, rfl⟩
  refine ⟨_, _, by rw [strB_length], by rw [strB_length]; exact grownCap_ge _ _ _ _, grownCap_le_maxLen _ _ _ _ hs, fun _ => ⟨_, _, rfl, fun j x hx => ?_⟩, strB_byte s, fun h => by cases h⟩
  rw [Nat.zero_add, cell_of_row _ _ j _ _ _ (by show (w.heap.push _)[w.heap.size]? = _; exact Array.getElem?_push_size)]
  have hj : j < s.data.size := by have h := (List.getElem?_eq_some_iff.1 hx).1; rw [strB_length] at h; exact h
  unfold bytesRow
  rw [Array.getElem?_append_left (by simpa using hj), Array.getElem?_map]
  unfold strB at hx
  rw [List.getElem?_map, Array.getElem?_toList] at hx
  rw [Option.map_eq_some_iff] at hx ⊢
  obtain ⟨b, h1, h2⟩ := hx
  exact ⟨b, h1, by rw [← h2]⟩
def cut65 (s : ByteArray) : ByteArray := if s.size ≤ 65535 then s else s.extract 0 65535
def textB (s : ByteArray) : List Int := numB (cut65 s).size 2 ++ strB (cut65 s)
set_option maxRecDepth 100000 in
set_option maxHeartbeats 1600000 in
theorem text_t (base p : Nat) (l : List Int) (s : ByteArray) (w : World) (F : Nat → Prop) (h : Wr base w p l F) (hl : l.length ≤ 1900000000) (hbase : base ≤ w.heap.size) :
    Calls Try.prog 55 #[.pointer (some ⟨p, 0, none⟩), .string s] w (RawPost base w p (l ++ textB s) F) := by
  go_enter Try.func55, Try.ntmps55
  by_cases hs : s.size ≤ 65535
  · have hs1 : (s.size : Int) ≤ 65535 := by omega
    have ec : cut65 s = s := by unfold cut65; rw [if_pos hs]
    unfold textB
    rw [ec]
    go_wp2_with fail
    have hc := num_t base p l s.size 2 ⟨by omega, by omega⟩ w F h (by omega) hbase
    rw [lim2] at hc
    refine hc.mono ?_
    clear hc
    rintro e w1 ⟨rfl, F1, hw1, hF1, hk1⟩
    obtain ⟨v, w2, hrun, hbs, hb2, hob⟩ := conv_run w1 s (by unfold maxLen; omega)
    go_wp2_with fail
    have hw2 := hw1.later hb2
    have hlp := hw1.lt
    refine (raw_t base p v (l ++ numB s.size 2) (strB s) w2 F1 hw2 hbs (by rw [List.length_append, numB_length, strB_length]; omega) (Nat.le_trans hbase (Nat.le_trans hk1.size hb2.size)) (by rw [hob]; intro e; have := Option.some.inj e; omega)).mono ?_
    intro e w3 hp
    rw [List.append_assoc] at hp
    obtain ⟨rfl, hp2⟩ := RawPost.step hF1 hk1 (hp.back hb2)
    clear hp
    go_wp2
    go_ret
    exact ⟨rfl, hp2⟩
  · have hs1 : (65535 : Int) < (s.size : Int) := by omega
    have ec : cut65 s = s.extract 0 65535 := by unfold cut65; rw [if_neg hs]
    have es : (s.extract 0 65535).size = min 65535 s.size := by simp
    unfold textB
    rw [ec, es]
    go_wp2_with fail
    have hc := num_t base p l ((min 65535 s.size : Nat) : Int) 2 ⟨by omega, by omega⟩ w F h (by omega) hbase
    rw [lim2] at hc
    refine hc.mono ?_
    clear hc
    rintro e w1 ⟨rfl, F1, hw1, hF1, hk1⟩
    generalize s.extract 0 65535 = s' at *
    obtain ⟨v, w2, hrun, hbs, hb2, hob⟩ := conv_run w1 s' (by unfold maxLen; omega)
    go_wp2_with fail
    have hw2 := hw1.later hb2
    have hlp := hw1.lt
    refine (raw_t base p v (l ++ numB (min 65535 s.size : Nat) 2) (strB s') w2 F1 hw2 hbs (by rw [List.length_append, numB_length, strB_length]; omega) (Nat.le_trans hbase (Nat.le_trans hk1.size hb2.size)) (by rw [hob]; intro e; have := Option.some.inj e; omega)).mono ?_
    intro e w3 hp
    rw [List.append_assoc] at hp
    obtain ⟨rfl, hp2⟩ := RawPost.step hF1 hk1 (hp.back hb2)
    clear hp
    go_wp2
    go_ret
    exact ⟨rfl, hp2⟩
set_option maxRecDepth 100000 in
set_option maxHeartbeats 1600000 in
theorem wideN_t (ah al : Int) (hh : Word ah) (hw : Word al) (w : World) :
    Calls Try.prog 54 #[.pointer none, .agg #[.int .u64 ah, .int .u64 al]] w fun e w' => e = .returned (.pointer none) ∧ Below w.heap.size w w' := by
  go_enter Try.func54, Try.ntmps54
  go_wp2_with fail
  have R := (Row.new w #[.int .u64 ah, .int .u64 al] 24).drew
  have c0 := (R.cell 0).trans (show _ = some (Value.int .u64 ah) from rfl)
  have c1 := (R.cell 1).trans (show _ = some (Value.int .u64 al) from rfl)
  have hb0 : Below w.heap.size w (w.alloc (.cells #[.int .u64 ah, .int .u64 al] 24)).drew := ((Below.refl _ _).alloc (Nat.le_refl _) _).drew
  clear R
  have tok0 : True := trivial
  refine wp_region_held_drew (S := (fun w' => w'.cell? ⟨w.heap.size, 0, none⟩ = some (.int .u64 ah) ∧ w'.cell? ⟨w.heap.size, 1, none⟩ = some (.int .u64 al) ∧ Below w.heap.size w w')) (by kernel_rfl) ?hSr2_ (fun hHeld => ?_)
  case hSr2_ => (first | exact ⟨c0, c1, hb0⟩ | exact ⟨cell_later hb hHeld.1, cell_later hb hHeld.2.1, below_step hHeld.2.2 hb⟩)
  refine wpAnyH_take (i := 0) (oi := { dst := some 5, op := Go.Op.move (Go.Operand.tmp 0), type := 52, pos := _, after := #[], guard := none }) (v := ?vr2_1_0) rfl (by kernel_rfl) (by kernel_rfl) (by kernel_rfl) (fun _ _ _ h => h) (Or.inl ⟨by rfl, ?yr2_1_0⟩) hHeld ?_
  case yr2_1_0 => ((intro w hSw; (try dsimp only at hSw); go_simp) <;> with_reducible rfl)
  (try simp only [Act.put, List.setIfInBounds_toArray, List.set_cons_zero, List.set_cons_succ])
  refine wpAnyH_take (i := 1) (oi := { dst := some 6, op := Go.Op.fieldAddr 24 (Go.Operand.tmp 3) 0, type := 0, pos := _, after := #[], guard := none }) (v := ?vr2_2_1) rfl (by kernel_rfl) (by kernel_rfl) (by kernel_rfl) (fun _ _ _ h => h) (Or.inl ⟨by rfl, ?yr2_2_1⟩) hHeld ?_
  case yr2_2_1 => ((intro w hSw; (try dsimp only at hSw); go_simp) <;> with_reducible rfl)
  (try simp only [Act.put, List.setIfInBounds_toArray, List.set_cons_zero, List.set_cons_succ])
  refine wpAnyH_take (i := 2) (oi := { dst := some 7, op := Go.Op.load 22 (Go.Operand.tmp 6), type := 22, pos := _, after := #[{ on := 1, ground := Go.Ground.data }], guard := none }) (v := ?vr2_3_2) rfl (by kernel_rfl) (by kernel_rfl) (by kernel_rfl) (fun _ _ _ h => h) (Or.inl ⟨by rfl, ?yr2_3_2⟩) hHeld ?_
  case yr2_3_2 => ((intro w hSw; (try dsimp only at hSw); go_simp) <;> with_reducible rfl)
  (try simp only [Act.put, List.setIfInBounds_toArray, List.set_cons_zero, List.set_cons_succ])
  refine wpAnyH_take (i := 4) (oi := { dst := some 9, op := Go.Op.fieldAddr 24 (Go.Operand.tmp 3) 1, type := 0, pos := _, after := #[], guard := none }) (v := ?vr2_4_4) rfl (by kernel_rfl) (by kernel_rfl) (by kernel_rfl) (fun _ _ _ h => h) (Or.inl ⟨by rfl, ?yr2_4_4⟩) hHeld ?_
  case yr2_4_4 => ((intro w hSw; (try dsimp only at hSw); go_simp) <;> with_reducible rfl)
  (try simp only [Act.put, List.setIfInBounds_toArray, List.set_cons_zero, List.set_cons_succ])
  refine wpAnyH_take (i := 5) (oi := { dst := some 10, op := Go.Op.load 22 (Go.Operand.tmp 9), type := 22, pos := _, after := #[{ on := 4, ground := Go.Ground.data }], guard := none }) (v := ?vr2_5_5) rfl (by kernel_rfl) (by kernel_rfl) (by kernel_rfl) (fun _ _ _ h => h) (Or.inl ⟨by rfl, ?yr2_5_5⟩) hHeld ?_
  case yr2_5_5 => ((intro w hSw; (try dsimp only at hSw); go_simp) <;> with_reducible rfl)
  (try simp only [Act.put, List.setIfInBounds_toArray, List.set_cons_zero, List.set_cons_succ])
  refine wpAnyH_ready (rs := [3]) (by kernel_rfl) (by simp) ?_
  refine AllReadyH.cons (o := { dst := some 8, op := Go.Op.call { callee := Go.Callee.value (Go.Operand.func 41), args := #[Go.Operand.tmp 5, Go.Operand.tmp 7, Go.Operand.const (Go.Value.int Go.IntKind.i64 8)], argTypes := #[52, 22, 3] }, type := 52, pos := _, after := #[{ on := 0, ground := Go.Ground.data }, { on := 2, ground := Go.Ground.data }], guard := none }) rfl (fun K hK => ?_) AllReadyH.nil
  go_simp
  ((first | (clear tok0; refine (numN_t ah 8 hh _).mono ?_) | (refine (numN_t al 8 hw _).mono ?_)); (rintro e wn ⟨rfl, hb⟩))
  go_wp2_with fail
  refine hK.out _ _ ?hSr2_6_3 (fun hHeld2 => ?_)
  case hSr2_6_3 => (first | exact ⟨c0, c1, hb0⟩ | exact ⟨cell_later hb hHeld.1, cell_later hb hHeld.2.1, below_step hHeld.2.2 hb⟩)
  clear hK K hHeld
  have hHeld := hHeld2
  clear hHeld2
  (try simp only [Act.put, List.setIfInBounds_toArray, List.set_cons_zero, List.set_cons_succ])
  refine wpAnyH_ready (rs := [6]) (by kernel_rfl) (by simp) ?_
  refine AllReadyH.cons (o := { dst := some 11, op := Go.Op.call { callee := Go.Callee.value (Go.Operand.func 41), args := #[Go.Operand.tmp 8, Go.Operand.tmp 10, Go.Operand.const (Go.Value.int Go.IntKind.i64 8)], argTypes := #[52, 22, 3] }, type := 52, pos := _, after := #[{ on := 3, ground := Go.Ground.data }, { on := 5, ground := Go.Ground.data }, { on := 3, ground := Go.Ground.chain }], guard := none }) rfl (fun K hK => ?_) AllReadyH.nil
  go_simp
  ((first | (clear tok0; refine (numN_t ah 8 hh _).mono ?_) | (refine (numN_t al 8 hw _).mono ?_)); (rintro e wn ⟨rfl, hb⟩))
  go_wp2_with fail
  refine hK.out _ _ ?hSr2_7_6 (fun hHeld2 => ?_)
  case hSr2_7_6 => (first | exact ⟨c0, c1, hb0⟩ | exact ⟨cell_later hb hHeld.1, cell_later hb hHeld.2.1, below_step hHeld.2.2 hb⟩)
  clear hK K hHeld
  have hHeld := hHeld2
  clear hHeld2
  (try simp only [Act.put, List.setIfInBounds_toArray, List.set_cons_zero, List.set_cons_succ])
  refine wpAnyH_take (i := 7) (oi := { dst := some 4, op := Go.Op.assign (Go.Operand.tmp 11), type := 52, pos := _, after := #[{ on := 6, ground := Go.Ground.data }, { on := 6, ground := Go.Ground.chain }, { on := 0, ground := Go.Ground.phase }, { on := 1, ground := Go.Ground.phase }, { on := 2, ground := Go.Ground.phase }, { on := 3, ground := Go.Ground.phase }, { on := 4, ground := Go.Ground.phase }, { on := 5, ground := Go.Ground.phase }, { on := 6, ground := Go.Ground.phase }], guard := none }) (v := ?vr2_8_7) rfl (by kernel_rfl) (by kernel_rfl) (by kernel_rfl) (fun _ _ _ h => h) (Or.inl ⟨by rfl, ?yr2_8_7⟩) hHeld ?_
  case yr2_8_7 => ((intro w hSw; (try dsimp only at hSw); go_simp) <;> with_reducible rfl)
  (try simp only [Act.put, List.setIfInBounds_toArray, List.set_cons_zero, List.set_cons_succ])
  refine wpAnyH_done (by kernel_rfl) ?_ _
  go_wp2
  go_ret
  exact ⟨rfl, hHeld.2.2⟩
set_option maxRecDepth 100000 in
set_option maxHeartbeats 1600000 in
theorem textN_t (s : ByteArray) (w : World) :
    Calls Try.prog 55 #[.pointer none, .string s] w fun e w' => e = .returned (.pointer none) ∧ Below w.heap.size w w' := by
  go_enter Try.func55, Try.ntmps55
  by_cases hs : s.size ≤ 65535
  · have hs1 : (s.size : Int) ≤ 65535 := by omega
    go_wp2_with fail
    refine (numN_t s.size 2 ⟨by omega, by omega⟩ w).mono ?_
    rintro e w1 ⟨rfl, hb1⟩
    obtain ⟨v, w2, hrun, hbs, hb2, hob⟩ := conv_run w1 s (by unfold maxLen; omega)
    go_wp2_with fail
    refine (rawN_t _ _).mono ?_
    rintro e w3 ⟨rfl, rfl⟩
    have hb := below_step hb1 hb2
    go_wp2
    go_ret
    exact ⟨rfl, hb⟩
  · have hs1 : (65535 : Int) < (s.size : Int) := by omega
    have es : (s.extract 0 65535).size = min 65535 s.size := by simp
    go_wp2_with fail
    refine (numN_t ((min 65535 s.size : Nat) : Int) 2 ⟨by omega, by omega⟩ w).mono ?_
    rintro e w1 ⟨rfl, hb1⟩
    generalize s.extract 0 65535 = s' at *
    obtain ⟨v, w2, hrun, hbs, hb2, hob⟩ := conv_run w1 s' (by unfold maxLen; omega)
    go_wp2_with fail
    refine (rawN_t _ _).mono ?_
    rintro e w3 ⟨rfl, rfl⟩
    have hb := below_step hb1 hb2
    go_wp2
    go_ret
    exact ⟨rfl, hb⟩
end Go.Proofs.Ytgioompelogopaa
