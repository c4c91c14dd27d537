/- read of the law: both readers tell the same. No conditions beyond lengths and ranges. -/
import Derived.Test.YtgioompelogopaaXRd3
namespace Go.Proofs.Ytgioompelogopaa
set_option linter.unusedVariables false
set_option linter.unusedSimpArgs false
open Go.RowKit
theorem St.rd {w : World} {p : Nat} {l : List Int} {e : Int} (h : St false w (.pointer (some ⟨p, 0, none⟩)) l e) : Rd w p l e := by
  rcases h with ⟨_, p', hp, h⟩ | ⟨h, _⟩
  · cases hp; exact h
  · cases h
theorem Rd.st {w : World} {p : Nat} {l : List Int} {e : Int} (h : Rd w p l e) : St false w (.pointer (some ⟨p, 0, none⟩)) l e := .inl ⟨rfl, p, rfl, h⟩
theorem Rd.nb {w : World} {p : Nat} {l : List Int} {e : Int} (h : Rd w p l e) : NB (atP (.pointer (some ⟨p, 0, none⟩))) w := by
  obtain ⟨v, R, ⟨pp, c, rfl, _⟩, _⟩ := h
  intro k hk o x hc
  cases hk
  rw [R.cell] at hc
  rcases o with _ | _ | _ | o
  · cases hc
  · cases hc
  · cases hc
  · simp at hc
theorem Rx.nb {w : World} {q : Nat} {l : List Int} {e : Int} (h : Rx w q l e) : NB (fun k => k = q) w := by
  obtain ⟨v, B, a, R, ⟨pp, c, rfl, _⟩, _⟩ := h
  intro k hk o x hc
  subst hk
  rw [R.cell] at hc
  rcases o with _ | _ | _ | o
  · cases hc
  · cases hc
  · cases hc
  · simp at hc
theorem Rd.other {F : Nat → Prop} {w w1 : World} {p : Nat} {l : List Int} {e : Int} (h : Rd w p l e) (hk : Keeps F w w1) (hF : NB F w) (hne : ¬ F p) : Rd w1 p l e := by
  obtain ⟨v, R, h1, h2⟩ := h; exact ⟨v, hk.row R hne, h1.nb hk hF, h2⟩
theorem Rx.other {F : Nat → Prop} {w w1 : World} {q : Nat} {l : List Int} {e : Int} (h : Rx w q l e) (hk : Keeps F w w1) (hF : NB F w) (hne : ¬ F q) : Rx w1 q l e := by
  obtain ⟨v, B, a, R, h1, h2⟩ := h; exact ⟨v, B, a, hk.row R hne, h1.nb hk hF, h2⟩
/-- both readers in one state -/
def Both (w : World) (p q : Nat) (l : List Int) (e : Int) : Prop := Rd w p l e ∧ Rx w q l e
def PQ (p q : Nat) : Nat → Prop := fun k => k = p ∨ k = q
theorem Both.later {w w1 : World} {p q : Nat} {l : List Int} {e : Int} (h : Both w p q l e) (hb : Below w.heap.size w w1) : Both w1 p q l e := ⟨h.1.later hb, h.2.later hb⟩
theorem pq_p {p q : Nat} : ∀ i, atP (.pointer (some ⟨p, 0, none⟩)) i → PQ p q i ∨ (0 : Nat) ≤ i := fun i h => by cases h; exact .inl (.inl rfl)
theorem Keeps.thenP {w w1 w2 : World} {p q : Nat} (h : Keeps (PQ p q) w w1) (k : Keeps (atP (.pointer (some ⟨p, 0, none⟩))) w1 w2) : Keeps (PQ p q) w w2 := h.trans k (fun i h => by cases h; exact .inl (.inl rfl))
theorem Keeps.thenQ {w w1 w2 : World} {p q : Nat} (h : Keeps (PQ p q) w w1) (k : Keeps (fun k => k = q) w1 w2) : Keeps (PQ p q) w w2 := h.trans k (fun i h => .inl (.inr h))
theorem Keeps.thenB {F : Nat → Prop} {w w1 w2 : World} (h : Keeps F w w1) (k : Below w1.heap.size w1 w2) : Keeps F w w2 := h.trans (Keeps.of_below (F := F) k) (fun i h => .inl h)
def ReadPost (w : World) (p q : Nat) (e : Ending) (w' : World) : Prop := e = .returned (.bool true) ∧ (∃ l' e', Both w' p q l' e' ∧ l'.length ≤ 2147483647) ∧ Keeps (PQ p q) w w'
theorem leftS_len (l : List Int) (e n : Int) : (leftS l e n).length ≤ l.length := by
  unfold leftS; split
  · rw [List.length_drop]; omega
  · exact Nat.le_refl _
theorem atP_far {p q : Nat} (h : p ≠ q) : ¬ atP (.pointer (some ⟨p, 0, none⟩)) q := fun e => h (by cases e; rfl)
set_option maxRecDepth 100000 in
set_option maxHeartbeats 3200000 in
theorem read0_t (p q : Nat) (l : List Int) (e : Int) (i n ah al : Int) (s : ByteArray) (b : Value) (w : World) (h : Both w p q l e) (hne : p ≠ q) (hl : l.length ≤ 2147483647) :
    Calls Try.prog 43 #[.pointer (some ⟨p, 0, none⟩), .pointer (some ⟨q, 0, none⟩), partV 0 i n ah al s b] w (ReadPost w p q) := by
  unfold partV
  have hR0 := h.1
  have hX0 := h.2
  obtain ⟨v0, Rp, _⟩ := h.1
  have ltp := Rp.lt
  have ltq := h.2.lt
  clear Rp h
  go_enter Try.func43, Try.ntmps43
  go_wp2_with fail
  have hb0 : Below w.heap.size w (w.alloc (.cells #[.int .i64 0, .int .i64 i, .int .u64 n, .int .u64 ah, .int .u64 al, .string s, b] 59)).drew := ((Below.refl _ _).alloc (Nat.le_refl _) _).drew
  have RB := (Row.new w #[.int .i64 0, .int .i64 i, .int .u64 n, .int .u64 ah, .int .u64 al, .string s, b] 59).drew
  have c1 := (RB.cell 1).trans (show _ = some (Value.int .i64 i) from rfl)
  have hR := hR0.later hb0
  have hX := hX0.later hb0
  have kPQ : Keeps (PQ p q) w _ := Keeps.of_below hb0
  clear RB hb0 hR0 hX0
  have np : ¬ w.heap.size = p := by omega
  have nq : ¬ w.heap.size = q := by omega
  refine wp_region_held_drew (S := (fun w' => w'.cell? ⟨w.heap.size, 1, none⟩ = some (.int .i64 i))) (by kernel_rfl) ?hSr1_ (fun hHeld => ?_)
  case hSr1_ => (first | exact c1 | exact hk.cell hHeld (fun f => by first | exact nq f | (cases f; exact np rfl)))
  refine wpAnyH_take (i := 0) (oi := { dst := some 11, op := Go.Op.move (Go.Operand.tmp 0), type := 64, pos := _, after := #[], guard := none }) (v := ?vr1_1_0) rfl (by kernel_rfl) (by kernel_rfl) (by kernel_rfl) (fun _ _ _ h => h) (Or.inl ⟨by rfl, ?yr1_1_0⟩) hHeld ?_
  case yr1_1_0 => ((intro w hSw; (try dsimp only at hSw); go_simp) <;> with_reducible rfl)
  (try simp only [Act.put, List.setIfInBounds_toArray, List.set_cons_zero, List.set_cons_succ])
  refine wpAnyH_take (i := 1) (oi := { dst := some 12, op := Go.Op.fieldAddr 59 (Go.Operand.tmp 5) 1, type := 0, pos := _, after := #[], guard := none }) (v := ?vr1_2_1) rfl (by kernel_rfl) (by kernel_rfl) (by kernel_rfl) (fun _ _ _ h => h) (Or.inl ⟨by rfl, ?yr1_2_1⟩) hHeld ?_
  case yr1_2_1 => ((intro w hSw; (try dsimp only at hSw); go_simp) <;> with_reducible rfl)
  (try simp only [Act.put, List.setIfInBounds_toArray, List.set_cons_zero, List.set_cons_succ])
  refine wpAnyH_take (i := 2) (oi := { dst := some 13, op := Go.Op.load 3 (Go.Operand.tmp 12), type := 3, pos := _, after := #[{ on := 1, ground := Go.Ground.data }], guard := none }) (v := ?vr1_3_2) rfl (by kernel_rfl) (by kernel_rfl) (by kernel_rfl) (fun _ _ _ h => h) (Or.inl ⟨by rfl, ?yr1_3_2⟩) hHeld ?_
  case yr1_3_2 => ((intro w hSw; (try dsimp only at hSw); go_simp) <;> with_reducible rfl)
  (try simp only [Act.put, List.setIfInBounds_toArray, List.set_cons_zero, List.set_cons_succ])
  refine wpAnyH_take (i := 4) (oi := { dst := some 15, op := Go.Op.move (Go.Operand.tmp 1), type := 66, pos := _, after := #[], guard := none }) (v := ?vr1_4_4) rfl (by kernel_rfl) (by kernel_rfl) (by kernel_rfl) (fun _ _ _ h => h) (Or.inl ⟨by rfl, ?yr1_4_4⟩) hHeld ?_
  case yr1_4_4 => ((intro w hSw; (try dsimp only at hSw); go_simp) <;> with_reducible rfl)
  (try simp only [Act.put, List.setIfInBounds_toArray, List.set_cons_zero, List.set_cons_succ])
  refine wpAnyH_take (i := 5) (oi := { dst := some 16, op := Go.Op.fieldAddr 59 (Go.Operand.tmp 5) 1, type := 0, pos := _, after := #[], guard := none }) (v := ?vr1_5_5) rfl (by kernel_rfl) (by kernel_rfl) (by kernel_rfl) (fun _ _ _ h => h) (Or.inl ⟨by rfl, ?yr1_5_5⟩) hHeld ?_
  case yr1_5_5 => ((intro w hSw; (try dsimp only at hSw); go_simp) <;> with_reducible rfl)
  (try simp only [Act.put, List.setIfInBounds_toArray, List.set_cons_zero, List.set_cons_succ])
  refine wpAnyH_take (i := 6) (oi := { dst := some 17, op := Go.Op.load 3 (Go.Operand.tmp 16), type := 3, pos := _, after := #[{ on := 5, ground := Go.Ground.data }], guard := none }) (v := ?vr1_6_6) rfl (by kernel_rfl) (by kernel_rfl) (by kernel_rfl) (fun _ _ _ h => h) (Or.inl ⟨by rfl, ?yr1_6_6⟩) hHeld ?_
  case yr1_6_6 => ((intro w hSw; (try dsimp only at hSw); go_simp) <;> with_reducible rfl)
  (try simp only [Act.put, List.setIfInBounds_toArray, List.set_cons_zero, List.set_cons_succ])
  refine wpAnyH_ready (rs := [3]) (by kernel_rfl) (by simp) ?_
  refine AllReadyH.cons (o := { dst := some 14, op := Go.Op.call { callee := Go.Callee.value (Go.Operand.func 50), args := #[Go.Operand.tmp 11, Go.Operand.tmp 13], argTypes := #[64, 3] }, type := 22, pos := _, after := #[{ on := 0, ground := Go.Ground.data }, { on := 2, ground := Go.Ground.data }], guard := none }) rfl (fun K hK => ?_) AllReadyH.nil
  go_simp
  ((refine (rnum_a _ l e i _ hR.st).mono ?_); (rintro r wn ⟨rfl, hS, hk⟩); (replace hX := hX.other hk hR.nb (atP_far hne)); (replace kPQ := kPQ.thenP hk); (clear hR); (have hR := hS.rd); (clear hS))
  go_wp2_with fail
  refine hK.out _ _ ?hSr1_7_3 (fun hHeld2 => ?_)
  case hSr1_7_3 => (first | exact c1 | exact hk.cell hHeld (fun f => by first | exact nq f | (cases f; exact np rfl)))
  clear hK K hHeld
  have hHeld := hHeld2
  clear hHeld2
  (try simp only [Act.put, List.setIfInBounds_toArray, List.set_cons_zero, List.set_cons_succ])
  refine wpAnyH_ready (rs := [7]) (by kernel_rfl) (by simp) ?_
  refine AllReadyH.cons (o := { dst := some 18, op := Go.Op.call { callee := Go.Callee.value (Go.Operand.func 64), args := #[Go.Operand.tmp 15, Go.Operand.tmp 17], argTypes := #[66, 3] }, type := 22, pos := _, after := #[{ on := 4, ground := Go.Ground.data }, { on := 6, ground := Go.Ground.data }, { on := 3, ground := Go.Ground.chain }], guard := none }) rfl (fun K hK => ?_) AllReadyH.nil
  go_simp
  ((refine (xnum_t q l e i _ hX).mono ?_); (rintro r wn ⟨rfl, hY, hk⟩); (replace hR := hR.other hk hX.nb hne); (replace kPQ := kPQ.thenQ hk); (clear hX); (have hX := hY); (clear hY))
  go_wp2_with fail
  refine hK.out _ _ ?hSr1_8_7 (fun hHeld2 => ?_)
  case hSr1_8_7 => (first | exact c1 | exact hk.cell hHeld (fun f => by first | exact nq f | (cases f; exact np rfl)))
  clear hK K hHeld
  have hHeld := hHeld2
  clear hHeld2
  (try simp only [Act.put, List.setIfInBounds_toArray, List.set_cons_zero, List.set_cons_succ])
  refine wpAnyH_take (i := 8) (oi := { dst := some 19, op := Go.Op.binOp Go.BinOp.eql 22 (Go.Operand.tmp 14) (Go.Operand.tmp 18) 22, type := 4, pos := _, after := #[{ on := 3, ground := Go.Ground.data }, { on := 7, ground := Go.Ground.data }], guard := none }) (v := ?vr1_9_8) rfl (by kernel_rfl) (by kernel_rfl) (by kernel_rfl) (fun _ _ _ h => h) (Or.inl ⟨by rfl, ?yr1_9_8⟩) hHeld ?_
  case yr1_9_8 => ((intro w hSw; (try dsimp only at hSw); go_simp) <;> with_reducible rfl)
  (try simp only [Act.put, List.setIfInBounds_toArray, List.set_cons_zero, List.set_cons_succ])
  refine wpAnyH_take (i := 9) (oi := { dst := some 6, op := Go.Op.assign (Go.Operand.tmp 19), type := 4, pos := _, after := #[{ on := 8, ground := Go.Ground.data }, { on := 7, ground := Go.Ground.chain }, { on := 0, ground := Go.Ground.phase }, { on := 1, ground := Go.Ground.phase }, { on := 2, ground := Go.Ground.phase }, { on := 3, ground := Go.Ground.phase }, { on := 4, ground := Go.Ground.phase }, { on := 5, ground := Go.Ground.phase }, { on := 6, ground := Go.Ground.phase }, { on := 7, ground := Go.Ground.phase }, { on := 8, ground := Go.Ground.phase }], guard := none }) (v := ?vr1_10_9) rfl (by kernel_rfl) (by kernel_rfl) (by kernel_rfl) (fun _ _ _ h => h) (Or.inl ⟨by rfl, ?yr1_10_9⟩) hHeld ?_
  case yr1_10_9 => ((intro w hSw; (try dsimp only at hSw); go_simp) <;> with_reducible rfl)
  (try simp only [Act.put, List.setIfInBounds_toArray, List.set_cons_zero, List.set_cons_succ])
  refine wpAnyH_done (by kernel_rfl) ?_ _
  (go_wp2; go_ret; exact ⟨rfl, ⟨_, _, ⟨hR, hX⟩, Nat.le_trans (leftS_len _ _ _) hl⟩, kPQ⟩)
set_option maxRecDepth 100000 in
set_option maxHeartbeats 3200000 in
theorem read1_t (p q : Nat) (l : List Int) (e : Int) (i n ah al : Int) (s : ByteArray) (b : Value) (w : World) (h : Both w p q l e) (hne : p ≠ q) (hl : l.length ≤ 2147483647) :
    Calls Try.prog 43 #[.pointer (some ⟨p, 0, none⟩), .pointer (some ⟨q, 0, none⟩), partV 1 i n ah al s b] w (ReadPost w p q) := by
  unfold partV
  have hR0 := h.1
  have hX0 := h.2
  obtain ⟨v0, Rp, _⟩ := h.1
  have ltp := Rp.lt
  have ltq := h.2.lt
  clear Rp h
  go_enter Try.func43, Try.ntmps43
  go_wp2_with fail
  have hb0 : Below w.heap.size w (w.alloc (.cells #[.int .i64 1, .int .i64 i, .int .u64 n, .int .u64 ah, .int .u64 al, .string s, b] 59)) := ((Below.refl _ _).alloc (Nat.le_refl _) _)
  have RB := (Row.new w #[.int .i64 1, .int .i64 i, .int .u64 n, .int .u64 ah, .int .u64 al, .string s, b] 59)
  have c1 := (RB.cell 1).trans (show _ = some (Value.int .i64 i) from rfl)
  have hR := hR0.later hb0
  have hX := hX0.later hb0
  have kPQ : Keeps (PQ p q) w _ := Keeps.of_below hb0
  clear hb0 hR0 hX0
  have np : ¬ w.heap.size = p := by omega
  have nq : ¬ w.heap.size = q := by omega
  refine (rwide_a _ l e _ hR.st).mono ?_
  rintro r w1 ⟨rfl, hS, hk⟩
  replace hX := hX.other hk hR.nb (atP_far hne)
  replace kPQ := kPQ.thenP hk
  have hR1 := hS.rd
  go_wp2_with fail
  refine (as_w _ _ _).mono ?_
  rintro r w2 ⟨rfl, hb2⟩
  replace hX := hX.later hb2
  replace hR1 := hR1.later hb2
  replace kPQ := kPQ.thenB hb2
  go_wp2_with fail
  refine (xwide_t q l e _ hX).mono ?_
  rintro r w3 ⟨rfl, hY, hk3⟩
  replace hR1 := hR1.other hk3 hX.nb hne
  replace kPQ := kPQ.thenQ hk3
  go_wp2
  go_ret
  exact ⟨rfl, ⟨_, _, ⟨hR1, hY⟩, Nat.le_trans (leftS_len _ _ _) hl⟩, kPQ⟩
theorem textL_len (l : List Int) (e m : Int) : (textL l e m).length ≤ l.length := Nat.le_trans (leftS_len _ _ _) (leftS_len _ _ _)
set_option maxRecDepth 100000 in
set_option maxHeartbeats 3200000 in
theorem read2_t (p q : Nat) (l : List Int) (e : Int) (i n ah al : Int) (s : ByteArray) (b : Value) (w : World) (h : Both w p q l e) (hne : p ≠ q) (hl : l.length ≤ 2147483647) :
    Calls Try.prog 43 #[.pointer (some ⟨p, 0, none⟩), .pointer (some ⟨q, 0, none⟩), partV 2 i n ah al s b] w (ReadPost w p q) := by
  unfold partV
  have hR0 := h.1
  have hX0 := h.2
  obtain ⟨v0, Rp, _⟩ := h.1
  have ltp := Rp.lt
  have ltq := h.2.lt
  clear Rp h
  go_enter Try.func43, Try.ntmps43
  go_wp2_with fail
  have hb0 : Below w.heap.size w (w.alloc (.cells #[.int .i64 2, .int .i64 i, .int .u64 n, .int .u64 ah, .int .u64 al, .string s, b] 59)).drew := ((Below.refl _ _).alloc (Nat.le_refl _) _).drew
  have RB := (Row.new w #[.int .i64 2, .int .i64 i, .int .u64 n, .int .u64 ah, .int .u64 al, .string s, b] 59).drew
  have c1 := (RB.cell 1).trans (show _ = some (Value.int .i64 i) from rfl)
  have hR := hR0.later hb0
  have hX := hX0.later hb0
  have kPQ : Keeps (PQ p q) w _ := Keeps.of_below hb0
  clear RB hb0 hR0 hX0
  have np : ¬ w.heap.size = p := by omega
  have nq : ¬ w.heap.size = q := by omega
  refine wp_region_held_drew (S := (fun w' => w'.cell? ⟨w.heap.size, 1, none⟩ = some (.int .i64 i))) (by kernel_rfl) ?hSr2_ (fun hHeld => ?_)
  case hSr2_ => (first | exact c1 | exact hk.cell hHeld (fun f => by first | exact nq f | (cases f; exact np rfl)))
  refine wpAnyH_take (i := 0) (oi := { dst := some 30, op := Go.Op.move (Go.Operand.tmp 0), type := 64, pos := _, after := #[], guard := none }) (v := ?vr2_1_0) rfl (by kernel_rfl) (by kernel_rfl) (by kernel_rfl) (fun _ _ _ h => h) (Or.inl ⟨by rfl, ?yr2_1_0⟩) hHeld ?_
  case yr2_1_0 => ((intro w hSw; (try dsimp only at hSw); go_simp) <;> with_reducible rfl)
  (try simp only [Act.put, List.setIfInBounds_toArray, List.set_cons_zero, List.set_cons_succ])
  refine wpAnyH_take (i := 1) (oi := { dst := some 31, op := Go.Op.fieldAddr 59 (Go.Operand.tmp 5) 1, type := 0, pos := _, after := #[], guard := none }) (v := ?vr2_2_1) rfl (by kernel_rfl) (by kernel_rfl) (by kernel_rfl) (fun _ _ _ h => h) (Or.inl ⟨by rfl, ?yr2_2_1⟩) hHeld ?_
  case yr2_2_1 => ((intro w hSw; (try dsimp only at hSw); go_simp) <;> with_reducible rfl)
  (try simp only [Act.put, List.setIfInBounds_toArray, List.set_cons_zero, List.set_cons_succ])
  refine wpAnyH_take (i := 2) (oi := { dst := some 32, op := Go.Op.load 3 (Go.Operand.tmp 31), type := 3, pos := _, after := #[{ on := 1, ground := Go.Ground.data }], guard := none }) (v := ?vr2_3_2) rfl (by kernel_rfl) (by kernel_rfl) (by kernel_rfl) (fun _ _ _ h => h) (Or.inl ⟨by rfl, ?yr2_3_2⟩) hHeld ?_
  case yr2_3_2 => ((intro w hSw; (try dsimp only at hSw); go_simp) <;> with_reducible rfl)
  (try simp only [Act.put, List.setIfInBounds_toArray, List.set_cons_zero, List.set_cons_succ])
  refine wpAnyH_take (i := 4) (oi := { dst := some 34, op := Go.Op.move (Go.Operand.tmp 1), type := 66, pos := _, after := #[], guard := none }) (v := ?vr2_4_4) rfl (by kernel_rfl) (by kernel_rfl) (by kernel_rfl) (fun _ _ _ h => h) (Or.inl ⟨by rfl, ?yr2_4_4⟩) hHeld ?_
  case yr2_4_4 => ((intro w hSw; (try dsimp only at hSw); go_simp) <;> with_reducible rfl)
  (try simp only [Act.put, List.setIfInBounds_toArray, List.set_cons_zero, List.set_cons_succ])
  refine wpAnyH_take (i := 5) (oi := { dst := some 35, op := Go.Op.fieldAddr 59 (Go.Operand.tmp 5) 1, type := 0, pos := _, after := #[], guard := none }) (v := ?vr2_5_5) rfl (by kernel_rfl) (by kernel_rfl) (by kernel_rfl) (fun _ _ _ h => h) (Or.inl ⟨by rfl, ?yr2_5_5⟩) hHeld ?_
  case yr2_5_5 => ((intro w hSw; (try dsimp only at hSw); go_simp) <;> with_reducible rfl)
  (try simp only [Act.put, List.setIfInBounds_toArray, List.set_cons_zero, List.set_cons_succ])
  refine wpAnyH_take (i := 6) (oi := { dst := some 36, op := Go.Op.load 3 (Go.Operand.tmp 35), type := 3, pos := _, after := #[{ on := 5, ground := Go.Ground.data }], guard := none }) (v := ?vr2_6_6) rfl (by kernel_rfl) (by kernel_rfl) (by kernel_rfl) (fun _ _ _ h => h) (Or.inl ⟨by rfl, ?yr2_6_6⟩) hHeld ?_
  case yr2_6_6 => ((intro w hSw; (try dsimp only at hSw); go_simp) <;> with_reducible rfl)
  (try simp only [Act.put, List.setIfInBounds_toArray, List.set_cons_zero, List.set_cons_succ])
  refine wpAnyH_ready (rs := [3]) (by kernel_rfl) (by simp) ?_
  refine AllReadyH.cons (o := { dst := some 33, op := Go.Op.call { callee := Go.Callee.value (Go.Operand.func 51), args := #[Go.Operand.tmp 30, Go.Operand.tmp 32], argTypes := #[64, 3] }, type := 9, pos := _, after := #[{ on := 0, ground := Go.Ground.data }, { on := 2, ground := Go.Ground.data }], guard := none }) rfl (fun K hK => ?_) AllReadyH.nil
  go_simp
  ((refine (rtext_a _ l e i _ hR.st).mono ?_); (rintro r wn ⟨rfl, hS, hk⟩); (replace hX := hX.other hk hR.nb (atP_far hne)); (replace kPQ := kPQ.thenP hk); (clear hR); (have hR := hS.rd); (clear hS))
  go_wp2_with fail
  refine hK.out _ _ ?hSr2_7_3 (fun hHeld2 => ?_)
  case hSr2_7_3 => (first | exact c1 | exact hk.cell hHeld (fun f => by first | exact nq f | (cases f; exact np rfl)))
  clear hK K hHeld
  have hHeld := hHeld2
  clear hHeld2
  (try simp only [Act.put, List.setIfInBounds_toArray, List.set_cons_zero, List.set_cons_succ])
  refine wpAnyH_ready (rs := [7]) (by kernel_rfl) (by simp) ?_
  refine AllReadyH.cons (o := { dst := some 37, op := Go.Op.call { callee := Go.Callee.value (Go.Operand.func 66), args := #[Go.Operand.tmp 34, Go.Operand.tmp 36], argTypes := #[66, 3] }, type := 9, pos := _, after := #[{ on := 4, ground := Go.Ground.data }, { on := 6, ground := Go.Ground.data }, { on := 3, ground := Go.Ground.chain }], guard := none }) rfl (fun K hK => ?_) AllReadyH.nil
  go_simp
  ((refine (xtext_t q l e i _ hX).mono ?_); (rintro r wn ⟨rfl, hY, hk⟩); (replace hR := hR.other hk hX.nb hne); (replace kPQ := kPQ.thenQ hk); (clear hX); (have hX := hY); (clear hY))
  go_wp2_with fail
  refine hK.out _ _ ?hSr2_8_7 (fun hHeld2 => ?_)
  case hSr2_8_7 => (first | exact c1 | exact hk.cell hHeld (fun f => by first | exact nq f | (cases f; exact np rfl)))
  clear hK K hHeld
  have hHeld := hHeld2
  clear hHeld2
  (try simp only [Act.put, List.setIfInBounds_toArray, List.set_cons_zero, List.set_cons_succ])
  refine wpAnyH_take (i := 8) (oi := { dst := some 38, op := Go.Op.binOp Go.BinOp.eql 9 (Go.Operand.tmp 33) (Go.Operand.tmp 37) 9, type := 4, pos := _, after := #[{ on := 3, ground := Go.Ground.data }, { on := 7, ground := Go.Ground.data }], guard := none }) (v := ?vr2_9_8) rfl (by kernel_rfl) (by kernel_rfl) (by kernel_rfl) (fun _ _ _ h => h) (Or.inl ⟨by rfl, ?yr2_9_8⟩) hHeld ?_
  case yr2_9_8 => ((intro w hSw; (try dsimp only at hSw); go_simp) <;> with_reducible rfl)
  (try simp only [Act.put, List.setIfInBounds_toArray, List.set_cons_zero, List.set_cons_succ])
  refine wpAnyH_take (i := 9) (oi := { dst := some 6, op := Go.Op.assign (Go.Operand.tmp 38), type := 4, pos := _, after := #[{ on := 8, ground := Go.Ground.data }, { on := 7, ground := Go.Ground.chain }, { on := 0, ground := Go.Ground.phase }, { on := 1, ground := Go.Ground.phase }, { on := 2, ground := Go.Ground.phase }, { on := 3, ground := Go.Ground.phase }, { on := 4, ground := Go.Ground.phase }, { on := 5, ground := Go.Ground.phase }, { on := 6, ground := Go.Ground.phase }, { on := 7, ground := Go.Ground.phase }, { on := 8, ground := Go.Ground.phase }], guard := none }) (v := ?vr2_10_9) rfl (by kernel_rfl) (by kernel_rfl) (by kernel_rfl) (fun _ _ _ h => h) (Or.inl ⟨by rfl, ?yr2_10_9⟩) hHeld ?_
  case yr2_10_9 => ((intro w hSw; (try dsimp only at hSw); go_simp) <;> with_reducible rfl)
  (try simp only [Act.put, List.setIfInBounds_toArray, List.set_cons_zero, List.set_cons_succ])
  refine wpAnyH_done (by kernel_rfl) ?_ _
  (go_wp2; go_ret; exact ⟨rfl, ⟨_, _, ⟨hR, hX⟩, Nat.le_trans (textL_len _ _ _) hl⟩, kPQ⟩)
set_option maxRecDepth 100000 in
set_option maxHeartbeats 3200000 in
theorem read3_t (p q : Nat) (l : List Int) (e : Int) (i n ah al : Int) (s : ByteArray) (b : Value) (w : World) (h : Both w p q l e) (hne : p ≠ q) (hl : l.length ≤ 2147483647) :
    Calls Try.prog 43 #[.pointer (some ⟨p, 0, none⟩), .pointer (some ⟨q, 0, none⟩), partV 3 i n ah al s b] w (ReadPost w p q) := by
  unfold partV
  have hR0 := h.1
  have hX0 := h.2
  obtain ⟨v0, Rp, _⟩ := h.1
  have ltp := Rp.lt
  have ltq := h.2.lt
  clear Rp h
  go_enter Try.func43, Try.ntmps43
  go_wp2_with fail
  have hb0 : Below w.heap.size w (w.alloc (.cells #[.int .i64 3, .int .i64 i, .int .u64 n, .int .u64 ah, .int .u64 al, .string s, b] 59)).drew := ((Below.refl _ _).alloc (Nat.le_refl _) _).drew
  have RB := (Row.new w #[.int .i64 3, .int .i64 i, .int .u64 n, .int .u64 ah, .int .u64 al, .string s, b] 59).drew
  have c1 := (RB.cell 1).trans (show _ = some (Value.int .i64 i) from rfl)
  have hR := hR0.later hb0
  have hX := hX0.later hb0
  have kPQ : Keeps (PQ p q) w _ := Keeps.of_below hb0
  clear RB hb0 hR0 hX0
  have np : ¬ w.heap.size = p := by omega
  have nq : ¬ w.heap.size = q := by omega
  have uA : True := trivial
  have uB : True := trivial
  refine wp_region_held_drew (S := (fun w' => w'.cell? ⟨w.heap.size, 1, none⟩ = some (.int .i64 i))) (by kernel_rfl) ?hSr3_ (fun hHeld => ?_)
  case hSr3_ => (first | exact c1 | exact hHeld | exact hk.cell hHeld (fun f => by first | exact nq f | (cases f; exact np rfl)))
  refine wpAnyH_take (i := 0) (oi := { dst := some 41, op := Go.Op.move (Go.Operand.tmp 0), type := 64, pos := _, after := #[], guard := none }) (v := ?vr3_1_0) rfl (by kernel_rfl) (by kernel_rfl) (by kernel_rfl) (fun _ _ _ h => h) (Or.inl ⟨by rfl, ?yr3_1_0⟩) hHeld ?_
  case yr3_1_0 => ((intro w hSw; (try dsimp only at hSw); go_simp) <;> with_reducible rfl)
  (try simp only [Act.put, List.setIfInBounds_toArray, List.set_cons_zero, List.set_cons_succ])
  refine wpAnyH_take (i := 1) (oi := { dst := some 42, op := Go.Op.fieldAddr 59 (Go.Operand.tmp 5) 1, type := 0, pos := _, after := #[], guard := none }) (v := ?vr3_2_1) rfl (by kernel_rfl) (by kernel_rfl) (by kernel_rfl) (fun _ _ _ h => h) (Or.inl ⟨by rfl, ?yr3_2_1⟩) hHeld ?_
  case yr3_2_1 => ((intro w hSw; (try dsimp only at hSw); go_simp) <;> with_reducible rfl)
  (try simp only [Act.put, List.setIfInBounds_toArray, List.set_cons_zero, List.set_cons_succ])
  refine wpAnyH_take (i := 2) (oi := { dst := some 43, op := Go.Op.load 3 (Go.Operand.tmp 42), type := 3, pos := _, after := #[{ on := 1, ground := Go.Ground.data }], guard := none }) (v := ?vr3_3_2) rfl (by kernel_rfl) (by kernel_rfl) (by kernel_rfl) (fun _ _ _ h => h) (Or.inl ⟨by rfl, ?yr3_3_2⟩) hHeld ?_
  case yr3_3_2 => ((intro w hSw; (try dsimp only at hSw); go_simp) <;> with_reducible rfl)
  (try simp only [Act.put, List.setIfInBounds_toArray, List.set_cons_zero, List.set_cons_succ])
  refine wpAnyH_take (i := 5) (oi := { dst := some 46, op := Go.Op.move (Go.Operand.tmp 1), type := 66, pos := _, after := #[], guard := none }) (v := ?vr3_4_5) rfl (by kernel_rfl) (by kernel_rfl) (by kernel_rfl) (fun _ _ _ h => h) (Or.inl ⟨by rfl, ?yr3_4_5⟩) hHeld ?_
  case yr3_4_5 => ((intro w hSw; (try dsimp only at hSw); go_simp) <;> with_reducible rfl)
  (try simp only [Act.put, List.setIfInBounds_toArray, List.set_cons_zero, List.set_cons_succ])
  refine wpAnyH_take (i := 6) (oi := { dst := some 47, op := Go.Op.fieldAddr 59 (Go.Operand.tmp 5) 1, type := 0, pos := _, after := #[], guard := none }) (v := ?vr3_5_6) rfl (by kernel_rfl) (by kernel_rfl) (by kernel_rfl) (fun _ _ _ h => h) (Or.inl ⟨by rfl, ?yr3_5_6⟩) hHeld ?_
  case yr3_5_6 => ((intro w hSw; (try dsimp only at hSw); go_simp) <;> with_reducible rfl)
  (try simp only [Act.put, List.setIfInBounds_toArray, List.set_cons_zero, List.set_cons_succ])
  refine wpAnyH_take (i := 7) (oi := { dst := some 48, op := Go.Op.load 3 (Go.Operand.tmp 47), type := 3, pos := _, after := #[{ on := 6, ground := Go.Ground.data }], guard := none }) (v := ?vr3_6_7) rfl (by kernel_rfl) (by kernel_rfl) (by kernel_rfl) (fun _ _ _ h => h) (Or.inl ⟨by rfl, ?yr3_6_7⟩) hHeld ?_
  case yr3_6_7 => ((intro w hSw; (try dsimp only at hSw); go_simp) <;> with_reducible rfl)
  (try simp only [Act.put, List.setIfInBounds_toArray, List.set_cons_zero, List.set_cons_succ])
  refine wpAnyH_ready (rs := [3]) (by kernel_rfl) (by simp) ?_
  refine AllReadyH.cons (o := { dst := some 44, op := Go.Op.call { callee := Go.Callee.value (Go.Operand.func 52), args := #[Go.Operand.tmp 41, Go.Operand.tmp 43], argTypes := #[64, 3] }, type := 56, pos := _, after := #[{ on := 0, ground := Go.Ground.data }, { on := 2, ground := Go.Ground.data }], guard := none }) rfl (fun K hK => ?_) AllReadyH.nil
  go_simp
  ((refine (rraw_a _ l e i _ hR.st hl).mono ?_); (rintro r wn ⟨⟨vA, rfl, hOA⟩, hS, hk⟩); (have hA := hOA.bs); (clear hOA); (try replace hB := hB.nb hk hR.nb); (replace hX := hX.other hk hR.nb (atP_far hne)); (replace kPQ := kPQ.thenP hk); (clear hR); (have hR := hS.rd); (clear hS))
  go_wp2_with fail
  refine hK.out _ _ ?hSr3_7_3 (fun hHeld2 => ?_)
  case hSr3_7_3 => (first | exact c1 | exact hHeld | exact hk.cell hHeld (fun f => by first | exact nq f | (cases f; exact np rfl)))
  clear hK K hHeld
  have hHeld := hHeld2
  clear hHeld2
  (try simp only [Act.put, List.setIfInBounds_toArray, List.set_cons_zero, List.set_cons_succ])
  refine wpAnyH_ready (rs := [4, 8]) (by kernel_rfl) (by simp) ?_
  refine AllReadyH.cons (o := { dst := some 45, op := Go.Op.convert 56 9 (Go.Operand.tmp 44), type := 9, pos := _, after := #[{ on := 3, ground := Go.Ground.data }], guard := none }) rfl (fun K hK => ?_) ?_
  · ((have hrun := back_run _ _ _ hA); (rw [if_pos (by rfl)]); (with_reducible refine wp_conv_run (.tmp 44) 56 9 ?_ ?_ hrun ?_); rfl; rfl; clear hrun; (simp only [Act.put, List.setIfInBounds_toArray, List.set_cons_zero, List.set_cons_succ]))
    refine hK.out _ _ ?hSr3_8_4 (fun hHeld2 => ?_)
    case hSr3_8_4 => (first | exact c1 | exact hHeld | exact hk.cell hHeld (fun f => by first | exact nq f | (cases f; exact np rfl)))
    clear hK K hHeld
    have hHeld := hHeld2
    clear hHeld2
    (try simp only [Act.put, List.setIfInBounds_toArray, List.set_cons_zero, List.set_cons_succ])
    refine wpAnyH_ready (rs := [8]) (by kernel_rfl) (by simp) ?_
    refine AllReadyH.cons (o := { dst := some 49, op := Go.Op.call { callee := Go.Callee.value (Go.Operand.func 67), args := #[Go.Operand.tmp 46, Go.Operand.tmp 48], argTypes := #[66, 3] }, type := 56, pos := _, after := #[{ on := 5, ground := Go.Ground.data }, { on := 7, ground := Go.Ground.data }, { on := 3, ground := Go.Ground.chain }], guard := none }) rfl (fun K hK => ?_) AllReadyH.nil
    go_simp
    ((refine (xraw_t q l e i _ hX).mono ?_); (rintro r wn ⟨⟨vB, rfl, hB⟩, hY, hk⟩); (try replace hA := hA.nb hk hX.nb); (replace hR := hR.other hk hX.nb hne); (replace kPQ := kPQ.thenQ hk); (clear hX); (have hX := hY); (clear hY))
    go_wp2_with fail
    refine hK.out _ _ ?hSr3_9_8 (fun hHeld2 => ?_)
    case hSr3_9_8 => (first | exact c1 | exact hHeld | exact hk.cell hHeld (fun f => by first | exact nq f | (cases f; exact np rfl)))
    clear hK K hHeld
    have hHeld := hHeld2
    clear hHeld2
    (try simp only [Act.put, List.setIfInBounds_toArray, List.set_cons_zero, List.set_cons_succ])
    refine wpAnyH_ready (rs := [9]) (by kernel_rfl) (by simp) ?_
    refine AllReadyH.cons (o := { dst := some 50, op := Go.Op.convert 56 9 (Go.Operand.tmp 49), type := 9, pos := _, after := #[{ on := 8, ground := Go.Ground.data }], guard := none }) rfl (fun K hK => ?_) AllReadyH.nil
    ((have hrun := back_run _ _ _ hB); (rw [if_pos (by rfl)]); (with_reducible refine wp_conv_run (.tmp 49) 56 9 ?_ ?_ hrun ?_); rfl; rfl; clear hrun; (simp only [Act.put, List.setIfInBounds_toArray, List.set_cons_zero, List.set_cons_succ]))
    refine hK.out _ _ ?hSr3_10_9 (fun hHeld2 => ?_)
    case hSr3_10_9 => (first | exact c1 | exact hHeld | exact hk.cell hHeld (fun f => by first | exact nq f | (cases f; exact np rfl)))
    clear hK K hHeld
    have hHeld := hHeld2
    clear hHeld2
    (try simp only [Act.put, List.setIfInBounds_toArray, List.set_cons_zero, List.set_cons_succ])
    refine wpAnyH_take (i := 10) (oi := { dst := some 51, op := Go.Op.binOp Go.BinOp.eql 9 (Go.Operand.tmp 45) (Go.Operand.tmp 50) 9, type := 4, pos := _, after := #[{ on := 4, ground := Go.Ground.data }, { on := 9, ground := Go.Ground.data }], guard := none }) (v := ?vr3_11_10) rfl (by kernel_rfl) (by kernel_rfl) (by kernel_rfl) (fun _ _ _ h => h) (Or.inl ⟨by rfl, ?yr3_11_10⟩) hHeld ?_
    case yr3_11_10 => ((intro w hSw; (try dsimp only at hSw); go_simp) <;> with_reducible rfl)
    (try simp only [Act.put, List.setIfInBounds_toArray, List.set_cons_zero, List.set_cons_succ])
    refine wpAnyH_take (i := 11) (oi := { dst := some 6, op := Go.Op.assign (Go.Operand.tmp 51), type := 4, pos := _, after := #[{ on := 10, ground := Go.Ground.data }, { on := 8, ground := Go.Ground.chain }, { on := 0, ground := Go.Ground.phase }, { on := 1, ground := Go.Ground.phase }, { on := 2, ground := Go.Ground.phase }, { on := 3, ground := Go.Ground.phase }, { on := 4, ground := Go.Ground.phase }, { on := 5, ground := Go.Ground.phase }, { on := 6, ground := Go.Ground.phase }, { on := 7, ground := Go.Ground.phase }, { on := 8, ground := Go.Ground.phase }, { on := 9, ground := Go.Ground.phase }, { on := 10, ground := Go.Ground.phase }], guard := none }) (v := ?vr3_12_11) rfl (by kernel_rfl) (by kernel_rfl) (by kernel_rfl) (fun _ _ _ h => h) (Or.inl ⟨by rfl, ?yr3_12_11⟩) hHeld ?_
    case yr3_12_11 => ((intro w hSw; (try dsimp only at hSw); go_simp) <;> with_reducible rfl)
    (try simp only [Act.put, List.setIfInBounds_toArray, List.set_cons_zero, List.set_cons_succ])
    refine wpAnyH_done (by kernel_rfl) ?_ _
    (go_wp2; go_ret; exact ⟨rfl, ⟨_, _, ⟨hR, hX⟩, Nat.le_trans (leftS_len _ _ _) hl⟩, kPQ⟩)
  refine AllReadyH.cons (o := { dst := some 49, op := Go.Op.call { callee := Go.Callee.value (Go.Operand.func 67), args := #[Go.Operand.tmp 46, Go.Operand.tmp 48], argTypes := #[66, 3] }, type := 56, pos := _, after := #[{ on := 5, ground := Go.Ground.data }, { on := 7, ground := Go.Ground.data }, { on := 3, ground := Go.Ground.chain }], guard := none }) rfl (fun K hK => ?_) AllReadyH.nil
  · go_simp
    ((refine (xraw_t q l e i _ hX).mono ?_); (rintro r wn ⟨⟨vB, rfl, hB⟩, hY, hk⟩); (try replace hA := hA.nb hk hX.nb); (replace hR := hR.other hk hX.nb hne); (replace kPQ := kPQ.thenQ hk); (clear hX); (have hX := hY); (clear hY))
    go_wp2_with fail
    refine hK.out _ _ ?hSr3_13_8 (fun hHeld2 => ?_)
    case hSr3_13_8 => (first | exact c1 | exact hHeld | exact hk.cell hHeld (fun f => by first | exact nq f | (cases f; exact np rfl)))
    clear hK K hHeld
    have hHeld := hHeld2
    clear hHeld2
    (try simp only [Act.put, List.setIfInBounds_toArray, List.set_cons_zero, List.set_cons_succ])
    refine wpAnyH_ready (rs := [4, 9]) (by kernel_rfl) (by simp) ?_
    refine AllReadyH.cons (o := { dst := some 45, op := Go.Op.convert 56 9 (Go.Operand.tmp 44), type := 9, pos := _, after := #[{ on := 3, ground := Go.Ground.data }], guard := none }) rfl (fun K hK => ?_) ?_
    · ((have hrun := back_run _ _ _ hA); (rw [if_pos (by rfl)]); (with_reducible refine wp_conv_run (.tmp 44) 56 9 ?_ ?_ hrun ?_); rfl; rfl; clear hrun; (simp only [Act.put, List.setIfInBounds_toArray, List.set_cons_zero, List.set_cons_succ]))
      refine hK.out _ _ ?hSr3_14_4 (fun hHeld2 => ?_)
      case hSr3_14_4 => (first | exact c1 | exact hHeld | exact hk.cell hHeld (fun f => by first | exact nq f | (cases f; exact np rfl)))
      clear hK K hHeld
      have hHeld := hHeld2
      clear hHeld2
      (try simp only [Act.put, List.setIfInBounds_toArray, List.set_cons_zero, List.set_cons_succ])
      refine wpAnyH_ready (rs := [9]) (by kernel_rfl) (by simp) ?_
      refine AllReadyH.cons (o := { dst := some 50, op := Go.Op.convert 56 9 (Go.Operand.tmp 49), type := 9, pos := _, after := #[{ on := 8, ground := Go.Ground.data }], guard := none }) rfl (fun K hK => ?_) AllReadyH.nil
      ((have hrun := back_run _ _ _ hB); (rw [if_pos (by rfl)]); (with_reducible refine wp_conv_run (.tmp 49) 56 9 ?_ ?_ hrun ?_); rfl; rfl; clear hrun; (simp only [Act.put, List.setIfInBounds_toArray, List.set_cons_zero, List.set_cons_succ]))
      refine hK.out _ _ ?hSr3_15_9 (fun hHeld2 => ?_)
      case hSr3_15_9 => (first | exact c1 | exact hHeld | exact hk.cell hHeld (fun f => by first | exact nq f | (cases f; exact np rfl)))
      clear hK K hHeld
      have hHeld := hHeld2
      clear hHeld2
      (try simp only [Act.put, List.setIfInBounds_toArray, List.set_cons_zero, List.set_cons_succ])
      refine wpAnyH_take (i := 10) (oi := { dst := some 51, op := Go.Op.binOp Go.BinOp.eql 9 (Go.Operand.tmp 45) (Go.Operand.tmp 50) 9, type := 4, pos := _, after := #[{ on := 4, ground := Go.Ground.data }, { on := 9, ground := Go.Ground.data }], guard := none }) (v := ?vr3_16_10) rfl (by kernel_rfl) (by kernel_rfl) (by kernel_rfl) (fun _ _ _ h => h) (Or.inl ⟨by rfl, ?yr3_16_10⟩) hHeld ?_
      case yr3_16_10 => ((intro w hSw; (try dsimp only at hSw); go_simp) <;> with_reducible rfl)
      (try simp only [Act.put, List.setIfInBounds_toArray, List.set_cons_zero, List.set_cons_succ])
      refine wpAnyH_take (i := 11) (oi := { dst := some 6, op := Go.Op.assign (Go.Operand.tmp 51), type := 4, pos := _, after := #[{ on := 10, ground := Go.Ground.data }, { on := 8, ground := Go.Ground.chain }, { on := 0, ground := Go.Ground.phase }, { on := 1, ground := Go.Ground.phase }, { on := 2, ground := Go.Ground.phase }, { on := 3, ground := Go.Ground.phase }, { on := 4, ground := Go.Ground.phase }, { on := 5, ground := Go.Ground.phase }, { on := 6, ground := Go.Ground.phase }, { on := 7, ground := Go.Ground.phase }, { on := 8, ground := Go.Ground.phase }, { on := 9, ground := Go.Ground.phase }, { on := 10, ground := Go.Ground.phase }], guard := none }) (v := ?vr3_17_11) rfl (by kernel_rfl) (by kernel_rfl) (by kernel_rfl) (fun _ _ _ h => h) (Or.inl ⟨by rfl, ?yr3_17_11⟩) hHeld ?_
      case yr3_17_11 => ((intro w hSw; (try dsimp only at hSw); go_simp) <;> with_reducible rfl)
      (try simp only [Act.put, List.setIfInBounds_toArray, List.set_cons_zero, List.set_cons_succ])
      refine wpAnyH_done (by kernel_rfl) ?_ _
      (go_wp2; go_ret; exact ⟨rfl, ⟨_, _, ⟨hR, hX⟩, Nat.le_trans (leftS_len _ _ _) hl⟩, kPQ⟩)
    refine AllReadyH.cons (o := { dst := some 50, op := Go.Op.convert 56 9 (Go.Operand.tmp 49), type := 9, pos := _, after := #[{ on := 8, ground := Go.Ground.data }], guard := none }) rfl (fun K hK => ?_) AllReadyH.nil
    · ((have hrun := back_run _ _ _ hB); (rw [if_pos (by rfl)]); (with_reducible refine wp_conv_run (.tmp 49) 56 9 ?_ ?_ hrun ?_); rfl; rfl; clear hrun; (simp only [Act.put, List.setIfInBounds_toArray, List.set_cons_zero, List.set_cons_succ]))
      refine hK.out _ _ ?hSr3_18_9 (fun hHeld2 => ?_)
      case hSr3_18_9 => (first | exact c1 | exact hHeld | exact hk.cell hHeld (fun f => by first | exact nq f | (cases f; exact np rfl)))
      clear hK K hHeld
      have hHeld := hHeld2
      clear hHeld2
      (try simp only [Act.put, List.setIfInBounds_toArray, List.set_cons_zero, List.set_cons_succ])
      refine wpAnyH_ready (rs := [4]) (by kernel_rfl) (by simp) ?_
      refine AllReadyH.cons (o := { dst := some 45, op := Go.Op.convert 56 9 (Go.Operand.tmp 44), type := 9, pos := _, after := #[{ on := 3, ground := Go.Ground.data }], guard := none }) rfl (fun K hK => ?_) AllReadyH.nil
      ((have hrun := back_run _ _ _ hA); (rw [if_pos (by rfl)]); (with_reducible refine wp_conv_run (.tmp 44) 56 9 ?_ ?_ hrun ?_); rfl; rfl; clear hrun; (simp only [Act.put, List.setIfInBounds_toArray, List.set_cons_zero, List.set_cons_succ]))
      refine hK.out _ _ ?hSr3_19_4 (fun hHeld2 => ?_)
      case hSr3_19_4 => (first | exact c1 | exact hHeld | exact hk.cell hHeld (fun f => by first | exact nq f | (cases f; exact np rfl)))
      clear hK K hHeld
      have hHeld := hHeld2
      clear hHeld2
      (try simp only [Act.put, List.setIfInBounds_toArray, List.set_cons_zero, List.set_cons_succ])
      refine wpAnyH_take (i := 10) (oi := { dst := some 51, op := Go.Op.binOp Go.BinOp.eql 9 (Go.Operand.tmp 45) (Go.Operand.tmp 50) 9, type := 4, pos := _, after := #[{ on := 4, ground := Go.Ground.data }, { on := 9, ground := Go.Ground.data }], guard := none }) (v := ?vr3_20_10) rfl (by kernel_rfl) (by kernel_rfl) (by kernel_rfl) (fun _ _ _ h => h) (Or.inl ⟨by rfl, ?yr3_20_10⟩) hHeld ?_
      case yr3_20_10 => ((intro w hSw; (try dsimp only at hSw); go_simp) <;> with_reducible rfl)
      (try simp only [Act.put, List.setIfInBounds_toArray, List.set_cons_zero, List.set_cons_succ])
      refine wpAnyH_take (i := 11) (oi := { dst := some 6, op := Go.Op.assign (Go.Operand.tmp 51), type := 4, pos := _, after := #[{ on := 10, ground := Go.Ground.data }, { on := 8, ground := Go.Ground.chain }, { on := 0, ground := Go.Ground.phase }, { on := 1, ground := Go.Ground.phase }, { on := 2, ground := Go.Ground.phase }, { on := 3, ground := Go.Ground.phase }, { on := 4, ground := Go.Ground.phase }, { on := 5, ground := Go.Ground.phase }, { on := 6, ground := Go.Ground.phase }, { on := 7, ground := Go.Ground.phase }, { on := 8, ground := Go.Ground.phase }, { on := 9, ground := Go.Ground.phase }, { on := 10, ground := Go.Ground.phase }], guard := none }) (v := ?vr3_21_11) rfl (by kernel_rfl) (by kernel_rfl) (by kernel_rfl) (fun _ _ _ h => h) (Or.inl ⟨by rfl, ?yr3_21_11⟩) hHeld ?_
      case yr3_21_11 => ((intro w hSw; (try dsimp only at hSw); go_simp) <;> with_reducible rfl)
      (try simp only [Act.put, List.setIfInBounds_toArray, List.set_cons_zero, List.set_cons_succ])
      refine wpAnyH_done (by kernel_rfl) ?_ _
      (go_wp2; go_ret; exact ⟨rfl, ⟨_, _, ⟨hR, hX⟩, Nat.le_trans (leftS_len _ _ _) hl⟩, kPQ⟩)
set_option maxRecDepth 100000 in
set_option maxHeartbeats 3200000 in
theorem read4_t (p q : Nat) (l : List Int) (e : Int) (i n ah al : Int) (s : ByteArray) (b : Value) (w : World) (h : Both w p q l e) (hne : p ≠ q) (hl : l.length ≤ 2147483647) :
    Calls Try.prog 43 #[.pointer (some ⟨p, 0, none⟩), .pointer (some ⟨q, 0, none⟩), partV 4 i n ah al s b] w (ReadPost w p q) := by
  unfold partV
  have hR0 := h.1
  have hX0 := h.2
  obtain ⟨v0, Rp, _⟩ := h.1
  have ltp := Rp.lt
  have ltq := h.2.lt
  clear Rp h
  go_enter Try.func43, Try.ntmps43
  go_wp2_with fail
  have hb0 : Below w.heap.size w (w.alloc (.cells #[.int .i64 4, .int .i64 i, .int .u64 n, .int .u64 ah, .int .u64 al, .string s, b] 59)) := ((Below.refl _ _).alloc (Nat.le_refl _) _)
  have RB := (Row.new w #[.int .i64 4, .int .i64 i, .int .u64 n, .int .u64 ah, .int .u64 al, .string s, b] 59)
  have c1 := (RB.cell 1).trans (show _ = some (Value.int .i64 i) from rfl)
  have hR := hR0.later hb0
  have hX := hX0.later hb0
  have kPQ : Keeps (PQ p q) w _ := Keeps.of_below hb0
  clear hb0 hR0 hX0
  have np : ¬ w.heap.size = p := by omega
  have nq : ¬ w.heap.size = q := by omega
  refine (must_a _ l e (decide (0 < i)) _ hR.st).mono ?_
  rintro r w1 ⟨rfl, hS, hk⟩
  replace hX := hX.other hk hR.nb (atP_far hne)
  replace kPQ := kPQ.thenP hk
  have hR1 := hS.rd
  replace RB := hk.row RB (fun f => by cases f; exact np rfl)
  have c1 := (RB.cell 1).trans (show _ = some (Value.int .i64 i) from rfl)
  go_wp2_with fail
  refine (xmust_t q l e (decide (0 < i)) _ hX).mono ?_
  rintro r w3 ⟨rfl, hY, hk3⟩
  replace hR1 := hR1.other hk3 hX.nb hne
  replace kPQ := kPQ.thenQ hk3
  go_wp2
  go_ret
  exact ⟨rfl, ⟨_, _, ⟨hR1, hY⟩, hl⟩, kPQ⟩
set_option maxRecDepth 100000 in
set_option maxHeartbeats 3200000 in
theorem read5_t (p q : Nat) (l : List Int) (e : Int) (k i n ah al : Int) (s : ByteArray) (b : Value) (w : World) (h : Both w p q l e) (hne : p ≠ q) (hl : l.length ≤ 2147483647) (k0 : k ≠ 0) (k1 : k ≠ 1) (k2 : k ≠ 2) (k3 : k ≠ 3) (k4 : k ≠ 4) :
    Calls Try.prog 43 #[.pointer (some ⟨p, 0, none⟩), .pointer (some ⟨q, 0, none⟩), partV k i n ah al s b] w (ReadPost w p q) := by
  unfold partV
  have hR0 := h.1
  have hX0 := h.2
  obtain ⟨v0, Rp, _⟩ := h.1
  have ltp := Rp.lt
  have ltq := h.2.lt
  clear Rp h
  have e0 : (k == 0) = false := by simpa using k0
  have e1 : (k == 1) = false := by simpa using k1
  have e2 : (k == 2) = false := by simpa using k2
  have e3 : (k == 3) = false := by simpa using k3
  have e4 : (k == 4) = false := by simpa using k4
  go_enter Try.func43, Try.ntmps43
  go_wp2
  go_ret
  have hb0 : Below w.heap.size w (w.alloc (.cells #[.int .i64 k, .int .i64 i, .int .u64 n, .int .u64 ah, .int .u64 al, .string s, b] 59)) := ((Below.refl _ _).alloc (Nat.le_refl _) _)
  have RB := (Row.new w #[.int .i64 k, .int .i64 i, .int .u64 n, .int .u64 ah, .int .u64 al, .string s, b] 59)
  have c1 := (RB.cell 1).trans (show _ = some (Value.int .i64 i) from rfl)
  have hR := hR0.later hb0
  have hX := hX0.later hb0
  have kPQ : Keeps (PQ p q) w _ := Keeps.of_below hb0
  clear hb0 hR0 hX0
  have np : ¬ w.heap.size = p := by omega
  have nq : ¬ w.heap.size = q := by omega
  exact ⟨rfl, ⟨_, _, ⟨hR, hX⟩, hl⟩, kPQ⟩
theorem read_t (p q : Nat) (l : List Int) (e : Int) (k i n ah al : Int) (s : ByteArray) (b : Value) (w : World) (h : Both w p q l e) (hne : p ≠ q) (hl : l.length ≤ 2147483647) :
    Calls Try.prog 43 #[.pointer (some ⟨p, 0, none⟩), .pointer (some ⟨q, 0, none⟩), partV k i n ah al s b] w (ReadPost w p q) := by
  by_cases k0 : k = 0
  · subst k0; exact read0_t p q l e i n ah al s b w h hne hl
  by_cases k1 : k = 1
  · subst k1; exact read1_t p q l e i n ah al s b w h hne hl
  by_cases k2 : k = 2
  · subst k2; exact read2_t p q l e i n ah al s b w h hne hl
  by_cases k3 : k = 3
  · subst k3; exact read3_t p q l e i n ah al s b w h hne hl
  by_cases k4 : k = 4
  · subst k4; exact read4_t p q l e i n ah al s b w h hne hl
  exact read5_t p q l e k i n ah al s b w h hne hl k0 k1 k2 k3 k4
end Go.Proofs.Ytgioompelogopaa
