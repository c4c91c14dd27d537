/- The number of a text: ParseWide of package num. No conditions beyond lengths. -/
import Derived.Test.YtbhaoafngneclaaDoorN5
namespace Go.Proofs.YtbhaoafngneclaaDoor
set_option linter.unusedVariables false
set_option linter.unusedSimpArgs false
open Go.RowKit
/-- the value of digits -/
def valA (a : Nat) (l : List UInt8) : Nat := l.foldl (fun a c => 10 * a + (c.toNat - 48)) a
def valT (l : List UInt8) : Nat := valA 0 l
theorem valA_le : ∀ (l : List UInt8) (a : Nat), a ≤ valA a l
  | [], a => Nat.le_refl a
  | c :: r, a => by
    have := valA_le r (10 * a + (c.toNat - 48))
    show a ≤ valA (10 * a + (c.toNat - 48)) r
    omega
theorem valA_append (l m : List UInt8) (a : Nat) : valA a (l ++ m) = valA (valA a l) m := List.foldl_append
theorem valT_take (l : List UInt8) (k : Nat) : valT (l.take k) ≤ valT l := by
  have h : l = l.take k ++ l.drop k := (List.take_append_drop k l).symm
  have e : valT l = valA (valT (l.take k)) (l.drop k) := by
    conv => lhs; rw [h]
    exact valA_append _ _ 0
  rw [e]
  exact valA_le _ _
theorem valT_step (l : List UInt8) (k : Nat) (h : k < l.length) : valT (l.take (k + 1)) = 10 * valT (l.take k) + (l[k].toNat - 48) := by
  rw [List.take_succ_eq_append_getElem h]
  exact valA_append _ _ 0
/-- what ParseWide answers: the number and the error -/
def pw (l : List UInt8) : Int × Int := if txB l = true then (if (valT l : Int) < MM then ((valT l : Int), 0) else (0, 11)) else (0, 3)
theorem pw_bad {l : List UInt8} (h : txB l = false) : pw l = (0, 3) := by unfold pw; rw [if_neg (by simp [h])]
theorem pw_ok {l : List UInt8} (h : txB l = true) (hv : (valT l : Int) < MM) : pw l = ((valT l : Int), 0) := by unfold pw; rw [if_pos h, if_pos hv]
theorem pw_over {l : List UInt8} (h : txB l = true) (hv : ¬ (valT l : Int) < MM) : pw l = (0, 11) := by unfold pw; rw [if_pos h, if_neg hv]
theorem txB_dig {l : List UInt8} (h : txB l = true) (k : Nat) (hk : k < l.length) : 48 ≤ l[k].toNat ∧ l[k].toNat ≤ 57 := by
  unfold txB at h
  rw [Bool.and_eq_true, List.all_eq_true] at h
  have := h.1 _ (List.getElem_mem hk)
  simpa [dgB] using this
set_option maxRecDepth 100000 in
set_option maxHeartbeats 3200000 in
theorem pwide_t (l : List UInt8) (hl : l.length ≤ 1000) (w : World) : Calls Tryd.prog 12 #[.string ⟨l.toArray⟩] w fun e w' => e = .returned (.tuple #[.agg #[.int .u64 (hi (pw l).1), .int .u64 (lo (pw l).1)], .int .i64 (pw l).2]) ∧ Below w.heap.size w w' := by
  have hsz := bs_size l
  have R0 := Row.new w #[.int .u64 0, .int .u64 0] 24
  have hb : Below w.heap.size w (w.alloc (.cells #[.int .u64 0, .int .u64 0] 24)) := (by repeat (first | exact Below.refl _ _ | assumption | (with_reducible refine Below.setCell ?_ ?h _; case h => first | omega | (simp; done) | (simp; omega)) | (with_reducible refine Below.alloc ?_ ?h _; case h => first | omega | (simp; done) | (simp; omega)) | (with_reducible refine Below.drew ?_) | (with_reducible refine Below.trans ?_ (hb4.mono ?h); case h => first | omega | (simp; done) | (simp; omega)) | (with_reducible refine Below.trans ?_ (hb3.mono ?h); case h => first | omega | (simp; done) | (simp; omega)) | (with_reducible refine Below.trans ?_ (hb2.mono ?h); case h => first | omega | (simp; done) | (simp; omega)) | (with_reducible refine Below.trans ?_ (hb.mono ?h); case h => first | omega | (simp; done) | (simp; omega)) | (with_reducible refine Below.trans ?_ (hb0.mono ?h); case h => first | omega | (simp; done) | (simp; omega))))
  have HW := Lib.hid (And.intro R0 hb)
  clear R0 hb
  have hi0 : hi 0 = 0 := rfl
  have lo0 : lo 0 = 0 := rfl
  go_enter Tryd.func12, Tryd.ntmps12
  go_wp2_with fail
  obtain ⟨R0, hb⟩ := HW.out
  clear HW
  generalize w.alloc (.cells #[.int .u64 0, .int .u64 0] 24) = w0 at *
  refine (isText_t l hl w0).mono ?_
  rintro e w1 ⟨rfl, hb2⟩
  replace R0 := R0.later hb2
  replace hb := below_step hb hb2
  clear hb2
  cases htx : txB l with
  | false =>
    have HP := Lib.hid (pw_bad htx)
    clear htx
    have r0 := (R0.cell 0).trans (show _ = some (Value.int .u64 0) from rfl)
    have r1 := (R0.cell 1).trans (show _ = some (Value.int .u64 0) from rfl)
    have f0 := R0.frozen 0
    have f1 := R0.frozen 1
    have Rf := (R0.set 0 (.int .u64 0)).set 1 (.int .u64 0)
    have e0 := (Rf.cell 0).trans (show _ = some (Value.int .u64 0) from rfl)
    have e1 := (Rf.cell 1).trans (show _ = some (Value.int .u64 0) from rfl)
    have HE := Lib.hid (And.intro e0 (And.intro e1 hb))
    clear R0 Rf e0 e1 hb
    go_wp2
    obtain ⟨e0, e1, hb⟩ := HE.out
    exact bodyPost_ret (v := .tuple #[.agg #[.int .u64 0, .int .u64 0], .int .i64 3]) (by simp only [results, Tryd.results12]; simp [go_sem, e0, e1]) rfl ⟨by rw [HP.out, hi0, lo0], (hb.setCell (by dsimp only; omega) _).setCell (by dsimp only; omega) _⟩
  | true =>
    have hg := R0.lt
    have R0b := R0.alloc (.cells #[.int .u64 0, .int .u64 0] 24)
    have R1 := Row.new w1 #[.int .u64 0, .int .u64 0] 24
    have hbb : Below w.heap.size w (w1.alloc (.cells #[.int .u64 0, .int .u64 0] 24)) := below_step hb ((Below.refl _ _).alloc (Nat.le_refl _) _)
    have hsz1 := hb.size
    have HW := Lib.hid (And.intro R0b (And.intro R1 hbb))
    clear R0 R0b R1 hbb hb
    have HT := Lib.hid htx
    clear htx
    go_wp2_with fail
    generalize w1.alloc (.cells #[.int .u64 0, .int .u64 0] 24) = w2 at *
    have hgl : Hid (w.heap.size ≤ w1.heap.size ∧ w.heap.size < w1.heap.size) := Lib.hid ⟨hsz1, hg⟩
    clear hsz1 hg
    generalize w1.heap.size = ga at *
    go_loopw [15] (fun i wr => ∃ (j : Nat), j ≤ l.length ∧ i = .int .i64 j ∧ (valT (l.take j) : Int) < MM ∧ Row wr w.heap.size #[.int .u64 0, .int .u64 0] 24 ∧ Row wr ga #[.int .u64 (hi (valT (l.take j))), .int .u64 (lo (valT (l.take j)))] 24 ∧ Below w.heap.size w wr) (fun i _ => l.length - (intOf i).toNat)
    case atStart => 
      obtain ⟨R0, R1, hb⟩ := HW.out
      exact ⟨0, by omega, rfl, by rw [List.take_zero]; decide, R0, by rw [List.take_zero]; exact R1, hb⟩
    case round =>
      clear HW
      obtain ⟨j, hj, rfl, hv, R0, R1, hb⟩ := hrel
      by_cases hlt : j < l.length
      · have hst := valT_step l j hlt
        obtain ⟨hc1, hc2⟩ := txB_dig HT.out j hlt
        obtain ⟨c, hlj⟩ : ∃ c, l[j] = c := ⟨_, rfl⟩
        rw [hlj] at hst hc1 hc2
        have hsp : j < (⟨l.toArray⟩ : ByteArray).size := by rw [hsz]; exact hlt
        have hch : (⟨l.toArray⟩ : ByteArray)[j]'hsp = c := hlj
        clear hlj
        have hle := valT_take l (j + 1)
        rw [hst] at hle
        have HS := Lib.hid (And.intro hst hle)
        clear hst hle
        obtain ⟨d, hd⟩ : ∃ d : Int, d = (c.toNat : Int) - 48 := ⟨_, rfl⟩
        have hd1 : 0 ≤ d ∧ d ≤ 255 := by omega
        have hx := fun w => extend_t (valT (l.take j) : Int) d (by omega) hv hd1.1 hd1.2 w
        have hwr : IntKind.u8.wrap ((c.toNat : Int) - 48) = d := by rw [← hd]; simp [IntKind.wrap, IntKind.bits, IntKind.signed]; omega
        generalize valT (l.take j) = v at *
        have hjl : (j : Int) < (l.length : Int) := by omega
        have a0 := (R1.cell 0).trans (show _ = some (Value.int .u64 (hi (v : Nat))) from rfl)
        have a1 := (R1.cell 1).trans (show _ = some (Value.int .u64 (lo (v : Nat))) from rfl)
        have HR := Lib.hid (And.intro R0 (And.intro R1 hb))
        have HD := Lib.hid (And.intro hd (And.intro hc1 hc2))
        have hbT : Below wr.heap.size wr wr := Below.refl _ _
        clear R0 R1 hb hd hc1 hc2 hd1
        have HA := Lib.hid (And.intro a0 (And.intro a1 hbT))
        clear a0 a1 hbT
        go_wp2_with fail
        obtain ⟨a0, a1, hbT⟩ := HA.out
        clear HA
        go_cut [6, 7] (fun s6 s7 wx => ∃ gn : Nat, s6 = .pointer (some ⟨gn, 0, none⟩) ∧ s7 = .bool (decide (10 * (v : Int) + d < MM)) ∧ wx.cell? ⟨gn, 0, none⟩ = some (.int .u64 (hi (xtV v d))) ∧ wx.cell? ⟨gn, 1, none⟩ = some (.int .u64 (lo (xtV v d))) ∧ wx.cell? ⟨ga, 0, none⟩ = some (.int .u64 (hi (v : Nat))) ∧ wx.cell? ⟨ga, 1, none⟩ = some (.int .u64 (lo (v : Nat))) ∧ Below wr.heap.size wr wx)
        case first =>
          refine region_any (S := (fun w' => w'.cell? ⟨ga, 0, none⟩ = some (.int .u64 (hi (v : Nat))) ∧ w'.cell? ⟨ga, 1, none⟩ = some (.int .u64 (lo (v : Nat))) ∧ Below wr.heap.size wr w')) (by kernel_rfl) ?hSr1_ (fun wq hHeld => ?_)
          case hSr1_ => (first | exact ⟨a0, a1, hbT.drew⟩ | exact ⟨cell_later hb hHeld.1, cell_later hb hHeld.2.1, below_step hHeld.2.2 hb⟩)
          refine wpAnyH_take (i := 0) (oi := { dst := some 19, op := Go.Op.load 24 (Go.Operand.tmp 4), type := 24, pos := _, after := #[], guard := none }) (v := ?vr1_1_0) rfl (by kernel_rfl) (by kernel_rfl) (by kernel_rfl) (fun _ _ _ h => h) (Or.inl ⟨by rfl, ?yr1_1_0⟩) hHeld ?_
          case yr1_1_0 => ((intro w hSw; (try dsimp only at hSw); go_simp) <;> with_reducible rfl)
          (try simp only [Act.put, List.setIfInBounds_toArray, List.set_cons_zero, List.set_cons_succ])
          refine wpAnyH_take (i := 1) (oi := { dst := some 20, op := Go.Op.move (Go.Operand.tmp 0), type := 9, pos := _, after := #[], guard := none }) (v := ?vr1_2_1) rfl (by kernel_rfl) (by kernel_rfl) (by kernel_rfl) (fun _ _ _ h => h) (Or.inl ⟨by rfl, ?yr1_2_1⟩) hHeld ?_
          case yr1_2_1 => ((intro w hSw; (try dsimp only at hSw); go_simp) <;> with_reducible rfl)
          (try simp only [Act.put, List.setIfInBounds_toArray, List.set_cons_zero, List.set_cons_succ])
          refine wpAnyH_take (i := 2) (oi := { dst := some 21, op := Go.Op.move (Go.Operand.tmp 5), type := 3, pos := _, after := #[], guard := none }) (v := ?vr1_3_2) rfl (by kernel_rfl) (by kernel_rfl) (by kernel_rfl) (fun _ _ _ h => h) (Or.inl ⟨by rfl, ?yr1_3_2⟩) hHeld ?_
          case yr1_3_2 => ((intro w hSw; (try dsimp only at hSw); go_simp) <;> with_reducible rfl)
          (try simp only [Act.put, List.setIfInBounds_toArray, List.set_cons_zero, List.set_cons_succ])
          refine wpAnyH_take (i := 3) (oi := { dst := some 22, op := Go.Op.index 9 (Go.Operand.tmp 20) (Go.Operand.tmp 21), type := 5, pos := _, after := #[{ on := 1, ground := Go.Ground.data }, { on := 2, ground := Go.Ground.data }], guard := none }) (v := ?vr1_4_3) rfl (by kernel_rfl) (by kernel_rfl) (by kernel_rfl) (fun _ _ _ h => h) (Or.inl ⟨by rfl, ?yr1_4_3⟩) hHeld ?_
          case yr1_4_3 => ((intro w hSw; (try dsimp only at hSw); go_simp) <;> with_reducible rfl)
          (try simp only [Act.put, List.setIfInBounds_toArray, List.set_cons_zero, List.set_cons_succ])
          refine wpAnyH_take (i := 4) (oi := { dst := some 23, op := Go.Op.binOp Go.BinOp.sub 5 (Go.Operand.tmp 22) (Go.Operand.const (Go.Value.int Go.IntKind.u8 48)) 5, type := 5, pos := _, after := #[{ on := 3, ground := Go.Ground.data }], guard := none }) (v := ?vr1_5_4) rfl (by kernel_rfl) (by kernel_rfl) (by kernel_rfl) (fun _ _ _ h => h) (Or.inl ⟨by rfl, ?yr1_5_4⟩) hHeld ?_
          case yr1_5_4 => ((intro w hSw; (try dsimp only at hSw); go_simp) <;> with_reducible rfl)
          (try simp only [Act.put, List.setIfInBounds_toArray, List.set_cons_zero, List.set_cons_succ])
          refine wpAnyH_ready (rs := [5, 9]) (by kernel_rfl) (by simp) ?_
          refine AllReadyH.cons (o := { dst := some 24, op := Go.Op.call { callee := Go.Callee.value (Go.Operand.func 24), args := #[Go.Operand.tmp 19, Go.Operand.tmp 23], argTypes := #[24, 5] }, type := 53, pos := _, after := #[{ on := 0, ground := Go.Ground.data }, { on := 4, ground := Go.Ground.data }], guard := none }) rfl (fun K hK => ?_) ?_
          · go_simp
            ((refine (hx _).mono ?_); (rintro e wn ⟨rfl, hb⟩); (try replace Rn := Rn.later hb))
            go_wp2_with fail
            refine hK.out _ _ ?hSr1_6_5 (fun hHeld2 => ?_)
            case hSr1_6_5 => (first | exact ⟨a0, a1, hbT.drew⟩ | exact ⟨cell_later hb hHeld.1, cell_later hb hHeld.2.1, below_step hHeld.2.2 hb⟩)
            clear hK K hHeld
            have hHeld := hHeld2
            clear hHeld2
            rename World => wq
            (try simp only [Act.put, List.setIfInBounds_toArray, List.set_cons_zero, List.set_cons_succ])
            refine wpAnyH_take (i := 6) (oi := { dst := some 18, op := Go.Op.move (Go.Operand.tmp 24), type := 53, pos := _, after := #[{ on := 5, ground := Go.Ground.data }], guard := none }) (v := ?vr1_7_6) rfl (by kernel_rfl) (by kernel_rfl) (by kernel_rfl) (fun _ _ _ h => h) (Or.inl ⟨by rfl, ?yr1_7_6⟩) hHeld ?_
            case yr1_7_6 => ((intro w hSw; (try dsimp only at hSw); go_simp) <;> with_reducible rfl)
            (try simp only [Act.put, List.setIfInBounds_toArray, List.set_cons_zero, List.set_cons_succ])
            refine wpAnyH_take (i := 7) (oi := { dst := some 25, op := Go.Op.extract (Go.Operand.tmp 18) 0, type := 24, pos := _, after := #[{ on := 6, ground := Go.Ground.data }], guard := none }) (v := ?vr1_8_7) rfl (by kernel_rfl) (by kernel_rfl) (by kernel_rfl) (fun _ _ _ h => h) (Or.inl ⟨by rfl, ?yr1_8_7⟩) hHeld ?_
            case yr1_8_7 => ((intro w hSw; (try dsimp only at hSw); go_simp) <;> with_reducible rfl)
            (try simp only [Act.put, List.setIfInBounds_toArray, List.set_cons_zero, List.set_cons_succ])
            refine wpAnyH_take (i := 8) (oi := { dst := some 26, op := Go.Op.extract (Go.Operand.tmp 18) 1, type := 4, pos := _, after := #[{ on := 6, ground := Go.Ground.data }, { on := 10, ground := Go.Ground.gcOnly Go.Departure.lateStores }], guard := none }) (v := ?vr1_9_8) rfl (by kernel_rfl) (by kernel_rfl) (by kernel_rfl) (fun _ _ _ h => h) (Or.inl ⟨by rfl, ?yr1_9_8⟩) hHeld ?_
            case yr1_9_8 => ((intro w hSw; (try dsimp only at hSw); go_simp) <;> with_reducible rfl)
            (try simp only [Act.put, List.setIfInBounds_toArray, List.set_cons_zero, List.set_cons_succ])
            refine wpAnyH_ready (rs := [9]) (by kernel_rfl) (by simp) ?_
            refine AllReadyH.cons (o := { dst := some 6, op := Go.Op.alloc 24, type := 0, pos := _, after := #[], guard := none }) rfl (fun K hK => ?_) AllReadyH.nil
            (go_simp; (have ne0 := Nat.ne_of_lt (World.block_lt_of_cell? _ _ hHeld.1)); (have ne1 := Nat.ne_of_lt (World.block_lt_of_cell? _ _ hHeld.2.1)); (have mn := hHeld.2.2.size); (have Rn := Row.new wq #[.int .u64 0, .int .u64 0] 24); (have hb : Below wq.heap.size wq (wq.alloc (.cells #[.int .u64 0, .int .u64 0] 24)) := (Below.refl _ _).alloc (Nat.le_refl _) _); (have hSn := And.intro (cell_later hb hHeld.1) (And.intro (cell_later hb hHeld.2.1) (below_step hHeld.2.2 hb))); clear hb; generalize wq.alloc (.cells #[.int .u64 0, .int .u64 0] 24) = wn at *; generalize wq.heap.size = gn at *)
            refine hK.out _ _ ?hSr1_10_9 (fun hHeld2 => ?_)
            case hSr1_10_9 => (exact hSn)
            clear hK K hHeld
            have hHeld := hHeld2
            clear hHeld2
            rename World => wq
            (try simp only [Act.put, List.setIfInBounds_toArray, List.set_cons_zero, List.set_cons_succ])
            refine wpAnyH_ready (rs := [10]) (by kernel_rfl) (by simp) ?_
            refine AllReadyH.cons (o := { dst := none, op := Go.Op.store 24 (Go.Operand.tmp 6) (Go.Operand.tmp 25), type := 0, pos := _, after := #[{ on := 9, ground := Go.Ground.data }, { on := 7, ground := Go.Ground.data }, { on := 5, ground := Go.Ground.chain }, { on := 0, ground := Go.Ground.phase }, { on := 1, ground := Go.Ground.phase }, { on := 2, ground := Go.Ground.phase }, { on := 3, ground := Go.Ground.phase }, { on := 4, ground := Go.Ground.phase }, { on := 5, ground := Go.Ground.phase }, { on := 6, ground := Go.Ground.phase }, { on := 7, ground := Go.Ground.phase }, { on := 8, ground := Go.Ground.textOnly Go.Departure.lateStores }, { on := 9, ground := Go.Ground.phase }], guard := none }) rfl (fun K hK => ?_) AllReadyH.nil
            ((have c0 := Rn.cell 0); (have c1 := Rn.cell 1); (simp at c0 c1); (have f0 := Rn.frozen 0); (have f1 := Rn.frozen 1); go_simp; clear c0 c1 f0 f1; (have Rm := (Rn.set 0 (.int .u64 (hi (xtV v d)))).set 1 (.int .u64 (lo (xtV v d)))); (simp at Rm))
            refine hK.out _ _ ?hSr1_11_10 (fun hHeld2 => ?_)
            case hSr1_11_10 => (exact ⟨(World.cell?_setCell_far _ _ _ _ ne0.symm).trans ((World.cell?_setCell_far _ _ _ _ ne0.symm).trans hHeld.1), (World.cell?_setCell_far _ _ _ _ ne1.symm).trans ((World.cell?_setCell_far _ _ _ _ ne1.symm).trans hHeld.2.1), (hHeld.2.2.setCell mn _).setCell mn _⟩)
            clear hK K hHeld
            have hHeld := hHeld2
            clear hHeld2
            rename World => wq
            (try simp only [Act.put, List.setIfInBounds_toArray, List.set_cons_zero, List.set_cons_succ])
            refine wpAnyH_take (i := 11) (oi := { dst := some 7, op := Go.Op.assign (Go.Operand.tmp 26), type := 4, pos := _, after := #[{ on := 8, ground := Go.Ground.data }, { on := 10, ground := Go.Ground.chain }, { on := 0, ground := Go.Ground.phase }, { on := 1, ground := Go.Ground.phase }, { on := 2, ground := Go.Ground.phase }, { on := 3, ground := Go.Ground.phase }, { on := 4, ground := Go.Ground.phase }, { on := 5, ground := Go.Ground.phase }, { on := 6, ground := Go.Ground.phase }, { on := 7, ground := Go.Ground.phase }, { on := 8, ground := Go.Ground.phase }, { on := 9, ground := Go.Ground.phase }, { on := 10, ground := Go.Ground.phase }], guard := none }) (v := ?vr1_12_11) rfl (by kernel_rfl) (by kernel_rfl) (by kernel_rfl) (fun _ _ _ h => h) (Or.inl ⟨by rfl, ?yr1_12_11⟩) hHeld ?_
            case yr1_12_11 => ((intro w hSw; (try dsimp only at hSw); go_simp) <;> with_reducible rfl)
            (try simp only [Act.put, List.setIfInBounds_toArray, List.set_cons_zero, List.set_cons_succ])
            refine wpAnyH_done (by kernel_rfl) ?_ _
            (go_wp2_with fail; go_meet; exact ⟨gn, rfl, rfl, (by simpa using Rm.cell 0), (by simpa using Rm.cell 1), hHeld⟩)
          refine AllReadyH.cons (o := { dst := some 6, op := Go.Op.alloc 24, type := 0, pos := _, after := #[], guard := none }) rfl (fun K hK => ?_) AllReadyH.nil
          · (go_simp; (have ne0 := Nat.ne_of_lt (World.block_lt_of_cell? _ _ hHeld.1)); (have ne1 := Nat.ne_of_lt (World.block_lt_of_cell? _ _ hHeld.2.1)); (have mn := hHeld.2.2.size); (have Rn := Row.new wq #[.int .u64 0, .int .u64 0] 24); (have hb : Below wq.heap.size wq (wq.alloc (.cells #[.int .u64 0, .int .u64 0] 24)) := (Below.refl _ _).alloc (Nat.le_refl _) _); (have hSn := And.intro (cell_later hb hHeld.1) (And.intro (cell_later hb hHeld.2.1) (below_step hHeld.2.2 hb))); clear hb; generalize wq.alloc (.cells #[.int .u64 0, .int .u64 0] 24) = wn at *; generalize wq.heap.size = gn at *)
            refine hK.out _ _ ?hSr1_13_9 (fun hHeld2 => ?_)
            case hSr1_13_9 => (exact hSn)
            clear hK K hHeld
            have hHeld := hHeld2
            clear hHeld2
            rename World => wq
            (try simp only [Act.put, List.setIfInBounds_toArray, List.set_cons_zero, List.set_cons_succ])
            refine wpAnyH_ready (rs := [5]) (by kernel_rfl) (by simp) ?_
            refine AllReadyH.cons (o := { dst := some 24, op := Go.Op.call { callee := Go.Callee.value (Go.Operand.func 24), args := #[Go.Operand.tmp 19, Go.Operand.tmp 23], argTypes := #[24, 5] }, type := 53, pos := _, after := #[{ on := 0, ground := Go.Ground.data }, { on := 4, ground := Go.Ground.data }], guard := none }) rfl (fun K hK => ?_) AllReadyH.nil
            go_simp
            ((refine (hx _).mono ?_); (rintro e wn ⟨rfl, hb⟩); (try replace Rn := Rn.later hb))
            go_wp2_with fail
            refine hK.out _ _ ?hSr1_14_5 (fun hHeld2 => ?_)
            case hSr1_14_5 => (first | exact ⟨a0, a1, hbT.drew⟩ | exact ⟨cell_later hb hHeld.1, cell_later hb hHeld.2.1, below_step hHeld.2.2 hb⟩)
            clear hK K hHeld
            have hHeld := hHeld2
            clear hHeld2
            rename World => wq
            (try simp only [Act.put, List.setIfInBounds_toArray, List.set_cons_zero, List.set_cons_succ])
            refine wpAnyH_take (i := 6) (oi := { dst := some 18, op := Go.Op.move (Go.Operand.tmp 24), type := 53, pos := _, after := #[{ on := 5, ground := Go.Ground.data }], guard := none }) (v := ?vr1_15_6) rfl (by kernel_rfl) (by kernel_rfl) (by kernel_rfl) (fun _ _ _ h => h) (Or.inl ⟨by rfl, ?yr1_15_6⟩) hHeld ?_
            case yr1_15_6 => ((intro w hSw; (try dsimp only at hSw); go_simp) <;> with_reducible rfl)
            (try simp only [Act.put, List.setIfInBounds_toArray, List.set_cons_zero, List.set_cons_succ])
            refine wpAnyH_take (i := 7) (oi := { dst := some 25, op := Go.Op.extract (Go.Operand.tmp 18) 0, type := 24, pos := _, after := #[{ on := 6, ground := Go.Ground.data }], guard := none }) (v := ?vr1_16_7) rfl (by kernel_rfl) (by kernel_rfl) (by kernel_rfl) (fun _ _ _ h => h) (Or.inl ⟨by rfl, ?yr1_16_7⟩) hHeld ?_
            case yr1_16_7 => ((intro w hSw; (try dsimp only at hSw); go_simp) <;> with_reducible rfl)
            (try simp only [Act.put, List.setIfInBounds_toArray, List.set_cons_zero, List.set_cons_succ])
            refine wpAnyH_take (i := 8) (oi := { dst := some 26, op := Go.Op.extract (Go.Operand.tmp 18) 1, type := 4, pos := _, after := #[{ on := 6, ground := Go.Ground.data }, { on := 10, ground := Go.Ground.gcOnly Go.Departure.lateStores }], guard := none }) (v := ?vr1_17_8) rfl (by kernel_rfl) (by kernel_rfl) (by kernel_rfl) (fun _ _ _ h => h) (Or.inl ⟨by rfl, ?yr1_17_8⟩) hHeld ?_
            case yr1_17_8 => ((intro w hSw; (try dsimp only at hSw); go_simp) <;> with_reducible rfl)
            (try simp only [Act.put, List.setIfInBounds_toArray, List.set_cons_zero, List.set_cons_succ])
            refine wpAnyH_ready (rs := [10]) (by kernel_rfl) (by simp) ?_
            refine AllReadyH.cons (o := { dst := none, op := Go.Op.store 24 (Go.Operand.tmp 6) (Go.Operand.tmp 25), type := 0, pos := _, after := #[{ on := 9, ground := Go.Ground.data }, { on := 7, ground := Go.Ground.data }, { on := 5, ground := Go.Ground.chain }, { on := 0, ground := Go.Ground.phase }, { on := 1, ground := Go.Ground.phase }, { on := 2, ground := Go.Ground.phase }, { on := 3, ground := Go.Ground.phase }, { on := 4, ground := Go.Ground.phase }, { on := 5, ground := Go.Ground.phase }, { on := 6, ground := Go.Ground.phase }, { on := 7, ground := Go.Ground.phase }, { on := 8, ground := Go.Ground.textOnly Go.Departure.lateStores }, { on := 9, ground := Go.Ground.phase }], guard := none }) rfl (fun K hK => ?_) AllReadyH.nil
            ((have c0 := Rn.cell 0); (have c1 := Rn.cell 1); (simp at c0 c1); (have f0 := Rn.frozen 0); (have f1 := Rn.frozen 1); go_simp; clear c0 c1 f0 f1; (have Rm := (Rn.set 0 (.int .u64 (hi (xtV v d)))).set 1 (.int .u64 (lo (xtV v d)))); (simp at Rm))
            refine hK.out _ _ ?hSr1_18_10 (fun hHeld2 => ?_)
            case hSr1_18_10 => (exact ⟨(World.cell?_setCell_far _ _ _ _ ne0.symm).trans ((World.cell?_setCell_far _ _ _ _ ne0.symm).trans hHeld.1), (World.cell?_setCell_far _ _ _ _ ne1.symm).trans ((World.cell?_setCell_far _ _ _ _ ne1.symm).trans hHeld.2.1), (hHeld.2.2.setCell mn _).setCell mn _⟩)
            clear hK K hHeld
            have hHeld := hHeld2
            clear hHeld2
            rename World => wq
            (try simp only [Act.put, List.setIfInBounds_toArray, List.set_cons_zero, List.set_cons_succ])
            refine wpAnyH_take (i := 11) (oi := { dst := some 7, op := Go.Op.assign (Go.Operand.tmp 26), type := 4, pos := _, after := #[{ on := 8, ground := Go.Ground.data }, { on := 10, ground := Go.Ground.chain }, { on := 0, ground := Go.Ground.phase }, { on := 1, ground := Go.Ground.phase }, { on := 2, ground := Go.Ground.phase }, { on := 3, ground := Go.Ground.phase }, { on := 4, ground := Go.Ground.phase }, { on := 5, ground := Go.Ground.phase }, { on := 6, ground := Go.Ground.phase }, { on := 7, ground := Go.Ground.phase }, { on := 8, ground := Go.Ground.phase }, { on := 9, ground := Go.Ground.phase }, { on := 10, ground := Go.Ground.phase }], guard := none }) (v := ?vr1_19_11) rfl (by kernel_rfl) (by kernel_rfl) (by kernel_rfl) (fun _ _ _ h => h) (Or.inl ⟨by rfl, ?yr1_19_11⟩) hHeld ?_
            case yr1_19_11 => ((intro w hSw; (try dsimp only at hSw); go_simp) <;> with_reducible rfl)
            (try simp only [Act.put, List.setIfInBounds_toArray, List.set_cons_zero, List.set_cons_succ])
            refine wpAnyH_done (by kernel_rfl) ?_ _
            (go_wp2_with fail; go_meet; exact ⟨gn, rfl, rfl, (by simpa using Rm.cell 0), (by simpa using Rm.cell 1), hHeld⟩)
        case rest =>
          clear a0 a1 hbT hx hwr hch
          obtain ⟨gn, rfl, rfl, q0, q1, a0, a1, hbT⟩ := hcut
          clear a0 a1
          obtain ⟨R0, R1, hb⟩ := HR.out
          clear HR
          replace R0 := R0.later hbT
          replace R1 := R1.later hbT
          replace hb := below_step hb hbT
          obtain ⟨hg1, hg2⟩ := hgl.out
          clear hbT
          by_cases hok : 10 * (v : Int) + d < MM
          · have hdec : decide (10 * (v : Int) + d < MM) = true := by simp [hok]
            rw [hdec]
            obtain ⟨hd, hc1, hc2⟩ := HD.out
            have hxv : xtV (v : Int) d = ((10 * v + (c.toNat - 48) : Nat) : Int) := by
              have hM : (MM : Int) = 340282366920938463463374607431768211456 := rfl
              unfold xtV; rw [if_pos (by omega)]; omega
            have hv2 : ((10 * v + (c.toNat - 48) : Nat) : Int) < MM := by omega
            rw [hxv] at q0 q1
            obtain ⟨hst, hle⟩ := HS.out
            rw [← hst] at q0 q1 hv2
            clear hxv hst hle HS hd hc1 hc2 HD hok hdec
            obtain ⟨v2, ev⟩ : ∃ v2, valT (l.take (j + 1)) = v2 := ⟨_, rfl⟩
            rw [ev] at q0 q1 hv2
            have HV := Lib.hid ev
            clear ev
            have s0 := (R1.cell 0).trans (show _ = some (Value.int .u64 (hi (v : Nat))) from rfl)
            have s1 := (R1.cell 1).trans (show _ = some (Value.int .u64 (lo (v : Nat))) from rfl)
            have f0 := R1.frozen 0
            have f1 := R1.frozen 1
            have R1n := (R1.set 0 (.int .u64 (hi (v2 : Nat)))).set 1 (.int .u64 (lo (v2 : Nat)))
            have R0n := (R0.set_far ⟨ga, 0, none⟩ (.int .u64 (hi (v2 : Nat))) (by dsimp only; omega)).set_far ⟨ga, 1, none⟩ (.int .u64 (lo (v2 : Nat))) (by dsimp only; omega)
            have hbn := (hb.setCell (show w.heap.size ≤ (⟨ga, 0, none⟩ : Addr).block by dsimp only; omega) (.int .u64 (hi (v2 : Nat)))).setCell (show w.heap.size ≤ (⟨ga, 1, none⟩ : Addr).block by dsimp only; omega) (.int .u64 (lo (v2 : Nat)))
            have HE := Lib.hid (And.intro R0n (And.intro R1n hbn))
            clear R0 R1 hb R1n R0n hbn
            go_wp2
            obtain ⟨R0n, R1n, hbn⟩ := HE.out
            exact ⟨⟨j + 1, by omega, by go_num, by rw [HV.out]; exact hv2, R0n, by rw [HV.out]; exact R1n, hbn⟩, by simp [intOf]; omega⟩
          · have hdec : decide (10 * (v : Int) + d < MM) = false := by simp; omega
            rw [hdec]
            obtain ⟨hd, hc1, hc2⟩ := HD.out
            obtain ⟨hst, hle⟩ := HS.out
            have HP := Lib.hid (pw_over HT.out (by omega))
            clear hst hle HS hd hc1 hc2 HD hok hdec
            have s0 := (R0.cell 0).trans (show _ = some (Value.int .u64 0) from rfl)
            have s1 := (R0.cell 1).trans (show _ = some (Value.int .u64 0) from rfl)
            have f0 := R0.frozen 0
            have f1 := R0.frozen 1
            have Rf := (R0.set 0 (.int .u64 0)).set 1 (.int .u64 0)
            have e0 := (Rf.cell 0).trans (show _ = some (Value.int .u64 0) from rfl)
            have e1 := (Rf.cell 1).trans (show _ = some (Value.int .u64 0) from rfl)
            have HE := Lib.hid (And.intro e0 (And.intro e1 hb))
            clear R0 R1 Rf e0 e1 hb
            go_wp2
            obtain ⟨e0, e1, hb⟩ := HE.out
            exact bodyPost_ret (v := .tuple #[.agg #[.int .u64 0, .int .u64 0], .int .i64 11]) (by simp only [results, Tryd.results12]; simp [go_sem, e0, e1]) rfl ⟨by rw [HP.out, hi0, lo0], (hb.setCell (by dsimp only; omega) _).setCell (by dsimp only; omega) _⟩
      · have hjl : ¬ (j : Int) < (l.length : Int) := by omega
        rw [List.take_of_length_le (by omega)] at hv R1
        have HP := Lib.hid (pw_ok HT.out hv)
        clear hv
        generalize valT l = v at *
        obtain ⟨hg1, hg2⟩ := hgl.out
        have s0 := (R0.cell 0).trans (show _ = some (Value.int .u64 0) from rfl)
        have s1 := (R0.cell 1).trans (show _ = some (Value.int .u64 0) from rfl)
        have f0 := R0.frozen 0
        have f1 := R0.frozen 1
        have a0 := (R1.cell 0).trans (show _ = some (Value.int .u64 (hi (v : Nat))) from rfl)
        have a1 := (R1.cell 1).trans (show _ = some (Value.int .u64 (lo (v : Nat))) from rfl)
        have Rf := (R0.set 0 (.int .u64 (hi (v : Nat)))).set 1 (.int .u64 (lo (v : Nat)))
        have e0 := (Rf.cell 0).trans (show _ = some (Value.int .u64 (hi (v : Nat))) from rfl)
        have e1 := (Rf.cell 1).trans (show _ = some (Value.int .u64 (lo (v : Nat))) from rfl)
        have HE := Lib.hid (And.intro e0 (And.intro e1 hb))
        clear R0 R1 Rf e0 e1 hb
        go_wp2
        obtain ⟨e0, e1, hb⟩ := HE.out
        exact bodyPost_ret (v := .tuple #[.agg #[.int .u64 (hi (v : Nat)), .int .u64 (lo (v : Nat))], .int .i64 0]) (by simp only [results, Tryd.results12]; simp [go_sem, e0, e1]) rfl ⟨by rw [HP.out], (hb.setCell (by dsimp only; omega) _).setCell (by dsimp only; omega) _⟩
/-- what Parse answers -/
def pn (l : List UInt8) (m : Int) : Int × Int := if (pw l).2 = 0 then (if (pw l).1 ≤ m then ((pw l).1, 0) else (0, 11)) else (0, (pw l).2)
theorem pw_range (l : List UInt8) : 0 ≤ (pw l).1 ∧ (pw l).1 < MM := by
  have hM : (MM : Int) = 340282366920938463463374607431768211456 := rfl
  unfold pw
  split
  · split
    · dsimp only; omega
    · dsimp only; omega
  · dsimp only; omega
set_option maxRecDepth 100000 in
set_option maxHeartbeats 3200000 in
theorem parse_t (l : List UInt8) (hl : l.length ≤ 1000) (m : Int) (hm0 : 0 ≤ m) (hm1 : m < 18446744073709551616) (w : World) : Calls Tryd.prog 11 #[.string ⟨l.toArray⟩, .int .u64 m] w fun e w' => e = .returned (.tuple #[.int .u64 (pn l m).1, .int .i64 (pn l m).2]) ∧ Below w.heap.size w w' := by
  have hM : (MM : Int) = 340282366920938463463374607431768211456 := rfl
  obtain ⟨hr0, hr1⟩ := pw_range l
  have hpw := fun w => pwide_t l hl w
  have hcm := fun w => cmp_h (pw l).1 m w
  rw [show hi m = 0 by unfold hi; omega, show lo m = m by unfold lo; omega, Int.emod_eq_of_lt hr0 hr1, Int.emod_eq_of_lt hm0 (by omega)] at hcm
  have hlo : (pw l).1 ≤ m → lo (pw l).1 = (pw l).1 := fun h => by unfold lo; omega
  have hcg : (0 < cmpI (pw l).1 m) ↔ ¬ (pw l).1 ≤ m := by unfold cmpI; split <;> (try split) <;> omega
  have n1 : (pw l).2 = 0 → (pw l).1 ≤ m → pn l m = ((pw l).1, 0) := fun a b => by unfold pn; rw [if_pos a, if_pos b]
  have n2 : (pw l).2 = 0 → ¬ (pw l).1 ≤ m → pn l m = (0, 11) := fun a b => by unfold pn; rw [if_pos a, if_neg b]
  have n3 : ¬ (pw l).2 = 0 → pn l m = (0, (pw l).2) := fun a => by unfold pn; rw [if_neg a]
  generalize pn l m = r at *
  generalize (pw l).1 = p at *
  generalize (pw l).2 = er at *
  have HN := Lib.hid (And.intro n1 (And.intro n2 (And.intro n3 (And.intro hlo hcg))))
  clear n1 n2 n3 hlo hcg hM hr0 hr1
  have HB := Lib.hid (Below.refl w.heap.size w)
  go_enter Tryd.func11, Tryd.ntmps11
  go_wp2_with fail
  refine (hpw w).mono ?_
  rintro e w1 ⟨rfl, hb⟩
  clear HB hpw
  by_cases he : er = 0
  · subst he
    have HK : Hid ((¬ 0 < cmpI p m ∧ r = (p, 0) ∧ lo p = p) ∨ (0 < cmpI p m ∧ r = (0, 11))) := by
      obtain ⟨n1, n2, n3, hlo, hcg⟩ := HN.out
      refine Lib.hid ?_
      by_cases hle : p ≤ m
      · exact .inl ⟨fun h => by have := hcg.1 h; omega, n1 rfl hle, hlo hle⟩
      · exact .inr ⟨hcg.2 (by omega), n2 rfl (by omega)⟩
    clear HN
    have c0 := (Row.new w1 #[.int .u64 (hi p), .int .u64 (lo p)] 24).cell 0
    have c1 := (Row.new w1 #[.int .u64 (hi p), .int .u64 (lo p)] 24).cell 1
    have hbn : Below w.heap.size w (w1.alloc (.cells #[.int .u64 (hi p), .int .u64 (lo p)] 24)) := below_step hb ((Below.refl _ _).alloc (Nat.le_refl _) _)
    replace c0 := c0.trans (show _ = some (Value.int .u64 (hi p)) from rfl)
    replace c1 := c1.trans (show _ = some (Value.int .u64 (lo p)) from rfl)
    have HW := Lib.hid (And.intro c0 (And.intro c1 hbn))
    clear c0 c1 hbn hb
    go_wp2_with fail
    obtain ⟨c0, c1, hbn⟩ := HW.out
    clear HW
    generalize w1.alloc (.cells #[.int .u64 (hi p), .int .u64 (lo p)] 24) = w2 at *
    generalize w1.heap.size = ga at *
    have hbd := hbn.drew
    refine wp_region_held_drew (S := (fun w' => w'.cell? ⟨ga, 0, none⟩ = some (.int .u64 (hi p)) ∧ w'.cell? ⟨ga, 1, none⟩ = some (.int .u64 (lo p)) ∧ Below w.heap.size w w')) (by kernel_rfl) ?hSr2_ (fun hHeld => ?_)
    case hSr2_ => (first | exact ⟨c0, c1, hbd⟩ | exact ⟨cell_later hb hHeld.1, cell_later hb hHeld.2.1, below_step hHeld.2.2 hb⟩)
    refine wpAnyH_take (i := 0) (oi := { dst := some 16, op := Go.Op.load 24 (Go.Operand.tmp 6), type := 24, pos := _, after := #[], guard := none }) (v := ?vr2_1_0) rfl (by kernel_rfl) (by kernel_rfl) (by kernel_rfl) (fun _ _ _ h => h) (Or.inl ⟨by rfl, ?yr2_1_0⟩) hHeld ?_
    case yr2_1_0 => ((intro w hSw; (try dsimp only at hSw); go_simp) <;> with_reducible rfl)
    (try simp only [Act.put, List.setIfInBounds_toArray, List.set_cons_zero, List.set_cons_succ])
    refine wpAnyH_take (i := 1) (oi := { dst := some 17, op := Go.Op.move (Go.Operand.tmp 1), type := 22, pos := _, after := #[], guard := none }) (v := ?vr2_2_1) rfl (by kernel_rfl) (by kernel_rfl) (by kernel_rfl) (fun _ _ _ h => h) (Or.inl ⟨by rfl, ?yr2_2_1⟩) hHeld ?_
    case yr2_2_1 => ((intro w hSw; (try dsimp only at hSw); go_simp) <;> with_reducible rfl)
    (try simp only [Act.put, List.setIfInBounds_toArray, List.set_cons_zero, List.set_cons_succ])
    refine wpAnyH_ready (rs := [2]) (by kernel_rfl) (by simp) ?_
    refine AllReadyH.cons (o := { dst := some 18, op := Go.Op.call { callee := Go.Callee.value (Go.Operand.func 22), args := #[Go.Operand.tmp 17], argTypes := #[22] }, type := 24, pos := _, after := #[{ on := 1, ground := Go.Ground.data }], guard := none }) rfl (fun K hK => ?_) AllReadyH.nil
    go_simp
    ((refine (of_any _ _).mono ?_); (rintro e wn ⟨rfl, hb⟩))
    go_wp2_with fail
    refine hK.out _ _ ?hSr2_3_2 (fun hHeld2 => ?_)
    case hSr2_3_2 => (first | exact ⟨c0, c1, hbd⟩ | exact ⟨cell_later hb hHeld.1, cell_later hb hHeld.2.1, below_step hHeld.2.2 hb⟩)
    clear hK K hHeld
    have hHeld := hHeld2
    clear hHeld2
    (try simp only [Act.put, List.setIfInBounds_toArray, List.set_cons_zero, List.set_cons_succ])
    refine wpAnyH_ready (rs := [3]) (by kernel_rfl) (by simp) ?_
    refine AllReadyH.cons (o := { dst := some 19, op := Go.Op.call { callee := Go.Callee.value (Go.Operand.func 17), args := #[Go.Operand.tmp 16, Go.Operand.tmp 18], argTypes := #[24, 24] }, type := 3, pos := _, after := #[{ on := 0, ground := Go.Ground.data }, { on := 2, ground := Go.Ground.data }, { on := 2, ground := Go.Ground.chain }], guard := none }) rfl (fun K hK => ?_) AllReadyH.nil
    go_simp
    ((refine (hcm _).mono ?_); (rintro e wm ⟨rfl, hb⟩))
    go_wp2_with fail
    refine hK.out _ _ ?hSr2_4_3 (fun hHeld2 => ?_)
    case hSr2_4_3 => (first | exact ⟨c0, c1, hbd⟩ | exact ⟨cell_later hb hHeld.1, cell_later hb hHeld.2.1, below_step hHeld.2.2 hb⟩)
    clear hK K hHeld
    have hHeld := hHeld2
    clear hHeld2
    (try simp only [Act.put, List.setIfInBounds_toArray, List.set_cons_zero, List.set_cons_succ])
    refine wpAnyH_take (i := 4) (oi := { dst := some 20, op := Go.Op.binOp Go.BinOp.gtr 3 (Go.Operand.tmp 19) (Go.Operand.const (Go.Value.int Go.IntKind.i64 0)) 3, type := 4, pos := _, after := #[{ on := 3, ground := Go.Ground.data }], guard := none }) (v := ?vr2_5_4) rfl (by kernel_rfl) (by kernel_rfl) (by kernel_rfl) (fun _ _ _ h => h) (Or.inl ⟨by rfl, ?yr2_5_4⟩) hHeld ?_
    case yr2_5_4 => ((intro w hSw; (try dsimp only at hSw); go_simp) <;> with_reducible rfl)
    (try simp only [Act.put, List.setIfInBounds_toArray, List.set_cons_zero, List.set_cons_succ])
    refine wpAnyH_done (by kernel_rfl) ?_ _
    have h0 := hHeld.1
    have h1 := hHeld.2.1
    have HB := Lib.hid hHeld.2.2
    clear hHeld
    rcases HK.out with ⟨k1, k2, k3⟩ | ⟨k1, k2⟩
    · have q1 : ¬ 0 < cmpI p m := by omega
      have HR := Lib.hid k2
      have HL := Lib.hid k3
      clear k1 k2 k3 HK
      go_wp2
      exact bodyPost_ret (v := .tuple #[.int .u64 (lo p), .int .i64 0]) (by simp only [results, Tryd.results11]; simp [go_sem]) rfl ⟨by rw [HR.out]; exact congrArg (fun x => Ending.returned (.tuple #[.int .u64 x, .int .i64 0])) HL.out, HB.out⟩
    · have q1 : 0 < cmpI p m := by omega
      have HR := Lib.hid k2
      clear k1 k2 HK
      go_wp2
      exact bodyPost_ret (v := .tuple #[.int .u64 0, .int .i64 11]) (by simp only [results, Tryd.results11]; simp [go_sem]) rfl ⟨by rw [HR.out], HB.out⟩
  · have HR := Lib.hid (HN.out.2.2.1 he)
    have he' : (er == 0) = false := by simp [he]
    have hbn : Below w.heap.size w (w1.alloc (.cells #[.int .u64 (hi p), .int .u64 (lo p)] 24)) := below_step hb ((Below.refl _ _).alloc (Nat.le_refl _) _)
    have HB := Lib.hid hbn
    clear hbn hb HN
    go_wp2
    exact bodyPost_ret (v := .tuple #[.int .u64 0, .int .i64 er]) (by simp only [results, Tryd.results11]; simp [go_sem]) rfl ⟨by rw [HR.out], HB.out⟩
end Go.Proofs.YtbhaoafngneclaaDoor
