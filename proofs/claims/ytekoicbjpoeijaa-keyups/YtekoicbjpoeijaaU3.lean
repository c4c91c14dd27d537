/- Up of the reference of layer 7. No conditions beyond lengths. -/
import Derived.Test.YtekoicbjpoeijaaU2
namespace Go.Proofs.Ytekoicbjpoeijaa
set_option linter.unusedVariables false
set_option linter.unusedSimpArgs false
open Go.RowKit
def upT (k : Ke) (j : Nat) : List Ke := (List.range j).map (upK k)
def upL (k : Ke) : List Ke := upT k (upN k)
theorem upT_succ (k : Ke) (j : Nat) : upT k (j + 1) = upT k j ++ [upK k j] := by unfold upT; rw [List.range_succ, List.map_append]; rfl
theorem upT_len (k : Ke) (j : Nat) : (upT k j).length = j := by unfold upT; simp
theorem appK_below {base : Nat} {w0 w w' : World} {v : Value} {l : List Ke} {o : Obj} (ho : OwnK base w v l) (hB : Below base w0 w) (hbase : base ≤ w.heap.size) (hg : (w.alloc o).grownBy w' v.ownBlock) : Below base w0 w' := by
  have hbn : Below w.heap.size w (w.alloc o) := (Below.refl _ _).alloc (Nat.le_refl _) _
  exact (hB.trans (hbn.mono hbase)).grown hg (Nat.le_trans hbase hbn.size) (fun k hk => (ho.block _ hk).1)
def UpPost (k : Ke) (w : World) (e : Ending) (w' : World) : Prop := ∃ v, e = .returned v ∧ KS w' v (upL k) ∧ Below w.heap.size w w'
theorem upPost_bad {k : Ke} (hr : rightK k = false) {w w' : World} (hb : Below w.heap.size w w') : UpPost k w (.returned (.slice none 0 0)) w' :=
  ⟨_, rfl, by unfold upL upN; rw [hr]; exact KS.nil _, hb⟩
theorem upPost_ok {k : Ke} {w w' : World} {v : Value} (hs : KS w' v (upT k (upN k))) (hb : Below w.heap.size w w') : UpPost k w (.returned v) w' := ⟨v, rfl, hs, hb⟩
set_option maxRecDepth 100000 in
set_option maxHeartbeats 8000000 in
theorem rup_bad (k : Ke) (ok : k.ok) (hr : rightK k = false) (w : World) : Calls Try.prog 35 #[kv k] w (UpPost k w) := by
  have HL : ∀ w1, Calls Try.prog 53 #[kv k] w1 fun e w' => ∃ v, e = .returned (.tuple #[v, .bool (rightK k)]) ∧ SS w' v (letR k) ∧ Below w1.heap.size w1 w' := fun w1 => letters_t k ok w1
  rw [hr] at HL
  have HX := Lib.hid (fun (w' : World) (hb : Below w.heap.size w w') => upPost_bad hr hb)
  clear hr ok
  generalize letR k = ls at *
  generalize UpPost k w = PP at *
  unfold kv at *
  obtain ⟨RR0, hb0⟩ := one_row w #[.int .i64 k.kind, .int .i64 k.len, .int .u64 k.h, .int .u64 k.l, .string ⟨k.path.toArray⟩] 24
  have c0 := (RR0.cell 0).trans (show _ = some (Value.int .i64 k.kind) from rfl)
  have c1 := (RR0.cell 1).trans (show _ = some (Value.int .i64 k.len) from rfl)
  have c2 := (RR0.cell 2).trans (show _ = some (Value.int .u64 k.h) from rfl)
  have c3 := (RR0.cell 3).trans (show _ = some (Value.int .u64 k.l) from rfl)
  have c4 := (RR0.cell 4).trans (show _ = some (Value.string ⟨k.path.toArray⟩) from rfl)
  clear RR0
  go_enter Try.func35, Try.ntmps35
  go_wp2_with fail
  refine (HL _).mono ?_
  rintro e w1 ⟨v, rfl, ⟨p, cc, rfl, _, _⟩, hb⟩
  replace HX := Lib.hid (HX.out _ (below_step hb0 hb))
  clear hb hb0 c0 c1 c2 c3 c4 HL
  go_wp2_with fail
  go_loopw [5, 6] (fun o n wr => o = .slice none 0 0 ∧ n = .int .i64 (ls.length : Nat) ∧ wr = w1) (fun _ _ _ => 0)
  case atStart => exact ⟨rfl, rfl, rfl⟩
  case round =>
    obtain ⟨rfl, rfl, rfl⟩ := hrel
    go_wp2
    exact HX.out
set_option maxRecDepth 100000 in
set_option maxHeartbeats 8000000 in
theorem rup_ok (k : Ke) (ok : k.ok) (hr : rightK k = true) (w : World) : Calls Try.prog 35 #[kv k] w (UpPost k w) := by
  have HL : ∀ w1, Calls Try.prog 53 #[kv k] w1 fun e w' => ∃ v, e = .returned (.tuple #[v, .bool (rightK k)]) ∧ SS w' v (letR k) ∧ Below w1.heap.size w1 w' := fun w1 => letters_t k ok w1
  rw [hr, show letR k = letK k by unfold letR; rw [if_pos hr]] at HL
  have hl := letK_len hr
  have h8 := letK_small hr
  have HOF0 : ∀ (j m : Nat) (hm : m ≤ (letK k).length) (hj : (m : Int) = k.len - (j : Int)) (v : Value) (w1 : World) (hS : SS w1 v ((letK k).take m)), Calls Try.prog 56 #[.int .i64 k.kind, v] w1 fun e w' => e = .returned (kv (upK k j)) ∧ Below w1.heap.size w1 w' := fun j m hm hj v w1 hS => by
    have h := rof_take k ok hr m hm v w1 hS
    rw [hj] at h
    exact h
  have hN : (upN k : Int) = k.len + 1 := by have := len_range hr; unfold upN; rw [if_pos hr]; omega
  have HX := Lib.hid (fun (v : Value) (w' : World) (hs : KS w' v (upT k (upN k))) (hb : Below w.heap.size w w') => upPost_ok hs hb)
  have HT := Lib.hid (fun j => upT_succ k j)
  have HTL := Lib.hid (fun j => upT_len k j)
  have hT0 : upT k 0 = [] := rfl
  clear hr ok
  generalize UpPost k w = PP at *
  generalize upT k = T at *
  generalize upK k = U at *
  generalize upN k = N at *
  generalize letK k = ls at *
  have HOF := Lib.hid HOF0
  clear HOF0
  unfold kv at *
  obtain ⟨RR0, hb0⟩ := one_row w #[.int .i64 k.kind, .int .i64 k.len, .int .u64 k.h, .int .u64 k.l, .string ⟨k.path.toArray⟩] 24
  have c0 := (RR0.cell 0).trans (show _ = some (Value.int .i64 k.kind) from rfl)
  have c1 := (RR0.cell 1).trans (show _ = some (Value.int .i64 k.len) from rfl)
  have c2 := (RR0.cell 2).trans (show _ = some (Value.int .u64 k.h) from rfl)
  have c3 := (RR0.cell 3).trans (show _ = some (Value.int .u64 k.l) from rfl)
  have c4 := (RR0.cell 4).trans (show _ = some (Value.string ⟨k.path.toArray⟩) from rfl)
  clear RR0
  go_enter Try.func35, Try.ntmps35
  go_wp2_with fail
  refine (HL _).mono ?_
  rintro e w1 ⟨v, rfl, hS, hb⟩
  have HB0 := Lib.hid (below_step hb0 hb)
  have lc := World.block_lt_of_cell? _ _ c0
  dsimp only at lc
  have c0' := cell_later hb c0
  have lc' := World.block_lt_of_cell? _ _ c0'
  dsimp only at lc'
  clear hb hb0 c0 c1 c2 c3 c4 HL lc
  have HS := Lib.hid hS
  obtain ⟨p, cc, rfl, hcc, _⟩ := hS
  generalize hL : ls.length = L at *
  obtain rfl : N = L + 1 := by omega
  have hN2 := Lib.hid hl
  clear hN hl
  go_wp2_with fail
  go_loopw [5, 6] (fun o n wr => ∃ (j m : Nat) (po : Option Addr) (co : Nat), o = .slice po m co ∧ n = .int .i64 ((L : Int) - (j : Int)) ∧ j ≤ L + 1 ∧ Hid (m = j) ∧ Hid (OwnK w1.heap.size wr (.slice po m co) (T j)) ∧ Hid (Below w1.heap.size w1 wr)) (fun _ n _ => (intOf n + 1).toNat)
  case atStart => exact ⟨0, 0, none, 0, rfl, by simp, Nat.zero_le _, Lib.hid rfl, Lib.hid (by rw [hT0]; exact OwnK.nil _ _), Lib.hid (Below.refl _ _)⟩
  case round =>
    obtain ⟨j, m, po, co, rfl, rfl, hj, hm, hO, hB⟩ := hrel
    by_cases hlt : j ≤ L
    · obtain ⟨q, hq⟩ : ∃ q : Nat, (L : Int) - (j : Int) = (q : Int) := ⟨L - j, by omega⟩
      have hqL : q ≤ L := by omega
      obtain ⟨hT2, hqc⟩ := ss_take HS.out q (by omega)
      have HO3 := Lib.hid (fun (W : World) (hb : Below w1.heap.size w1 W) => HOF.out j q (by omega) (by rw [← hN2.out]; exact hq.symm) (.slice p q cc) W (hT2.later hb))
      have cK := cell_later hB.out c0'
      have hBd := hB.out.drew
      have hOd := Lib.hid (hO.out.later ((Below.refl _ _).drew))
      have HTj := Lib.hid (HT.out j)
      have HLj := Lib.hid (HTL.out j)
      have HLj1 := Lib.hid (HTL.out (j + 1))
      have HQ := Lib.hid hq
      have hjle : j ≤ 200 := by omega
      have q0 : (0 : Int) ≤ (q : Int) := by omega
      have q1 : (q : Int) ≤ (cc : Int) := by omega
      have q2 : ¬ (q : Int) < 0 := by omega
      rw [hq]
      clear hT2 HS HOF HX HT HTL hq hB hO hqc
      generalize U j = u at *
      go_wp2_with fail
      refine wp_region_held_drew (S := (fun w' => w'.cell? ⟨w.heap.size, 0, none⟩ = some (.int .i64 k.kind) ∧ Below w1.heap.size w1 w')) (by kernel_rfl) ?hSr1_ (fun hHeld => ?_)
      case hSr1_ => (first | exact ⟨cK, hBd⟩ | exact ⟨cell_later hb hHeld.1, below_step hHeld.2 hb⟩)
      refine wpAnyH_take (i := 0) (oi := { dst := some 21, op := Go.Op.move (Go.Operand.tmp 5), type := 44, pos := _, after := #[], guard := none }) (v := ?vr1_1_0) rfl (by kernel_rfl) (by kernel_rfl) (by kernel_rfl) (fun _ _ _ h => h) (Or.inl ⟨by rfl, ?yr1_1_0⟩) hHeld ?_
      case yr1_1_0 => ((intro w hSw; (try dsimp only at hSw); go_simp) <;> with_reducible rfl)
      (try simp only [Act.put, List.setIfInBounds_toArray, List.set_cons_zero, List.set_cons_succ])
      refine wpAnyH_take (i := 1) (oi := { dst := some 22, op := Go.Op.fieldAddr 24 (Go.Operand.tmp 1) 0, type := 0, pos := _, after := #[], guard := none }) (v := ?vr1_2_1) rfl (by kernel_rfl) (by kernel_rfl) (by kernel_rfl) (fun _ _ _ h => h) (Or.inl ⟨by rfl, ?yr1_2_1⟩) hHeld ?_
      case yr1_2_1 => ((intro w hSw; (try dsimp only at hSw); go_simp) <;> with_reducible rfl)
      (try simp only [Act.put, List.setIfInBounds_toArray, List.set_cons_zero, List.set_cons_succ])
      refine wpAnyH_take (i := 2) (oi := { dst := some 23, op := Go.Op.load 3 (Go.Operand.tmp 22), type := 3, pos := _, after := #[{ on := 1, ground := Go.Ground.data }], guard := none }) (v := ?vr1_3_2) rfl (by kernel_rfl) (by kernel_rfl) (by kernel_rfl) (fun _ _ _ h => h) (Or.inl ⟨by rfl, ?yr1_3_2⟩) hHeld ?_
      case yr1_3_2 => ((intro w hSw; (try dsimp only at hSw); go_simp) <;> with_reducible rfl)
      (try simp only [Act.put, List.setIfInBounds_toArray, List.set_cons_zero, List.set_cons_succ])
      refine wpAnyH_take (i := 3) (oi := { dst := some 24, op := Go.Op.move (Go.Operand.tmp 3), type := 64, pos := _, after := #[], guard := none }) (v := ?vr1_4_3) rfl (by kernel_rfl) (by kernel_rfl) (by kernel_rfl) (fun _ _ _ h => h) (Or.inl ⟨by rfl, ?yr1_4_3⟩) hHeld ?_
      case yr1_4_3 => ((intro w hSw; (try dsimp only at hSw); go_simp) <;> with_reducible rfl)
      (try simp only [Act.put, List.setIfInBounds_toArray, List.set_cons_zero, List.set_cons_succ])
      refine wpAnyH_take (i := 4) (oi := { dst := some 25, op := Go.Op.move (Go.Operand.tmp 6), type := 3, pos := _, after := #[], guard := none }) (v := ?vr1_5_4) rfl (by kernel_rfl) (by kernel_rfl) (by kernel_rfl) (fun _ _ _ h => h) (Or.inl ⟨by rfl, ?yr1_5_4⟩) hHeld ?_
      case yr1_5_4 => ((intro w hSw; (try dsimp only at hSw); go_simp) <;> with_reducible rfl)
      (try simp only [Act.put, List.setIfInBounds_toArray, List.set_cons_zero, List.set_cons_succ])
      refine wpAnyH_take (i := 5) (oi := { dst := some 26, op := Go.Op.slice 64 (Go.Operand.tmp 24) none (some (Go.Operand.tmp 25)) none, type := 64, pos := _, after := #[{ on := 3, ground := Go.Ground.data }, { on := 4, ground := Go.Ground.data }], guard := none }) (v := ?vr1_6_5) rfl (by kernel_rfl) (by kernel_rfl) (by kernel_rfl) (fun _ _ _ h => h) (Or.inl ⟨by rfl, ?yr1_6_5⟩) hHeld ?_
      case yr1_6_5 => ((intro w hSw; (try dsimp only at hSw); go_simp) <;> with_reducible rfl)
      (try simp only [Act.put, List.setIfInBounds_toArray, List.set_cons_zero, List.set_cons_succ])
      refine wpAnyH_ready (rs := [6]) (by kernel_rfl) (by simp) ?_
      refine AllReadyH.cons (o := { dst := some 27, op := Go.Op.call { callee := Go.Callee.value (Go.Operand.func 56), args := #[Go.Operand.tmp 23, Go.Operand.tmp 26], argTypes := #[3, 64] }, type := 24, pos := _, after := #[{ on := 2, ground := Go.Ground.data }, { on := 5, ground := Go.Ground.data }], guard := none }) rfl (fun K hK => ?_) AllReadyH.nil
      go_simp
      ((refine (HO3.out _ hHeld.2).mono ?_); (rintro e wn ⟨rfl, hb⟩))
      go_wp2_with fail
      refine hK.out _ _ ?hSr1_7_6 (fun hHeld2 => ?_)
      case hSr1_7_6 => (first | exact ⟨cK, hBd⟩ | exact ⟨cell_later hb hHeld.1, below_step hHeld.2 hb⟩)
      clear hK K hHeld
      have hHeld := hHeld2
      clear hHeld2
      (try simp only [Act.put, List.setIfInBounds_toArray, List.set_cons_zero, List.set_cons_succ])
      refine wpAnyH_ready (rs := [7]) (by kernel_rfl) (by simp) ?_
      refine AllReadyH.cons (o := { dst := some 28, op := Go.Op.buildSlice 44 1 #[(0, Go.Operand.tmp 27)], type := 44, pos := _, after := #[{ on := 6, ground := Go.Ground.data }], guard := none }) rfl (fun K hK => ?_) AllReadyH.nil
      (go_simp; (have hO7 := hOd.out.later hb); (have hH7 := hHeld.2); (obtain ⟨v', w3, hrun, hown, hgrow⟩ := appK_one u hO7 (by rw [HLj.out]; omega) hH7.size); (have hb3 := appK_below hO7 hH7 hH7.size hgrow); (rw [← HTj.out] at hown); (obtain ⟨pv, cv, hpv, _, _⟩ := hown.read); (subst hpv); clear hO7 hgrow hb; (have hb : Below wn.heap.size wn (wn.alloc (.cells #[.int .i64 u.kind, .int .i64 u.len, .int .u64 u.h, .int .u64 u.l, .string ⟨u.path.toArray⟩] 24)) := (Below.refl _ _).alloc (Nat.le_refl _) _))
      refine hK.out _ _ ?hSr1_8_7 (fun hHeld2 => ?_)
      case hSr1_8_7 => (first | exact ⟨cK, hBd⟩ | exact ⟨cell_later hb hHeld.1, below_step hHeld.2 hb⟩)
      clear hK K hHeld
      have hHeld := hHeld2
      clear hHeld2
      (try simp only [Act.put, List.setIfInBounds_toArray, List.set_cons_zero, List.set_cons_succ])
      refine wpAnyH_ready (rs := [8]) (by kernel_rfl) (by simp) ?_
      refine AllReadyH.cons (o := { dst := some 29, op := Go.Op.call { callee := Go.Callee.builtin Go.Builtin.append, args := #[Go.Operand.tmp 21, Go.Operand.tmp 28], argTypes := #[44, 44] }, type := 44, pos := _, after := #[{ on := 0, ground := Go.Ground.data }, { on := 7, ground := Go.Ground.data }, { on := 6, ground := Go.Ground.chain }], guard := none }) rfl (fun K hK => ?_) AllReadyH.nil
      ((rw [if_pos (by rfl)]); (with_reducible refine wp_appS (.tmp 21) (.tmp 28) 44 ?_ ?_ ?_ hrun ?_); rfl; rfl; rfl; (simp only [Act.put, List.setIfInBounds_toArray, List.set_cons_zero, List.set_cons_succ]))
      refine hK.out _ _ ?hSr1_9_8 (fun hHeld2 => ?_)
      case hSr1_9_8 => (exact ⟨(hb3.cell (p := ⟨w.heap.size, 0, none⟩) lc').trans c0', hb3⟩)
      clear hK K hHeld
      have hHeld := hHeld2
      clear hHeld2
      (try simp only [Act.put, List.setIfInBounds_toArray, List.set_cons_zero, List.set_cons_succ])
      refine wpAnyH_take (i := 9) (oi := { dst := some 5, op := Go.Op.assign (Go.Operand.tmp 29), type := 44, pos := _, after := #[{ on := 8, ground := Go.Ground.data }, { on := 8, ground := Go.Ground.chain }, { on := 0, ground := Go.Ground.phase }, { on := 1, ground := Go.Ground.phase }, { on := 2, ground := Go.Ground.phase }, { on := 3, ground := Go.Ground.phase }, { on := 4, ground := Go.Ground.phase }, { on := 5, ground := Go.Ground.phase }, { on := 6, ground := Go.Ground.phase }, { on := 7, ground := Go.Ground.phase }, { on := 8, ground := Go.Ground.phase }], guard := none }) (v := ?vr1_10_9) rfl (by kernel_rfl) (by kernel_rfl) (by kernel_rfl) (fun _ _ _ h => h) (Or.inl ⟨by rfl, ?yr1_10_9⟩) hHeld ?_
      case yr1_10_9 => ((intro w hSw; (try dsimp only at hSw); go_simp) <;> with_reducible rfl)
      (try simp only [Act.put, List.setIfInBounds_toArray, List.set_cons_zero, List.set_cons_succ])
      refine wpAnyH_done (by kernel_rfl) ?_ _
      ((have HOW := Lib.hid hown); (have HB3 := Lib.hid hb3); (have HM2 := HLj1); clear hown hb3 hrun hHeld cK hBd; go_wp2; refine ⟨⟨j + 1, _, pv, cv, rfl, ?_, by omega, HM2, HOW, HB3⟩, ?_⟩; (· congr 1; have := HQ.out; omega); (· have := HQ.out; simp [intOf] <;> omega))
    · obtain rfl : j = L + 1 := by omega
      have hneg : (L : Int) - ((L + 1 : Nat) : Int) = -1 := by omega
      rw [hneg]
      have HFX := Lib.hid (HX.out _ _ hO.out.read (below_step HB0.out hB.out))
      clear HS HOF HX HT HTL hB hO hm
      go_wp2
      exact HFX.out
theorem rup_t (k : Ke) (ok : k.ok) (w : World) : Calls Try.prog 35 #[kv k] w fun e w' => ∃ v, e = .returned v ∧ KS w' v (upL k) ∧ Below w.heap.size w w' := by
  cases h : rightK k with
  | false => exact rup_bad k ok h w
  | true => exact rup_ok k ok h w
end Go.Proofs.Ytekoicbjpoeijaa
