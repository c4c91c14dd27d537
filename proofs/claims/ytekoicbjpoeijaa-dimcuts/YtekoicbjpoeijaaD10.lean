/- Lens of the reference of layer 8, of dimensions that may be. No conditions beyond ranges. -/
import Derived.Test.YtekoicbjpoeijaaD9
namespace Go.Proofs.Ytekoicbjpoeijaa
set_option linter.unusedVariables false
set_option linter.unusedSimpArgs false
open Go.RowKit
set_option maxRecDepth 100000 in
set_option maxHeartbeats 8000000 in
theorem rlens_ok (d : Dm) (hr : rightD d = true) (w : World) : Calls Try.prog 67 #[dv d] w (LensPost d w) := by
  have HW := rwidth_t d.kind
  obtain ⟨g1, g2, _, _⟩ := depth_range hr
  obtain ⟨sd0, s1, s2⟩ := (rightD_iff d).1 hr
  have hw := wid_range d.kind
  have hz := lenD_zero hr
  have he := lenD_end hr
  have HN := Lib.hid (fun (l : Int) (h0 : 0 ≤ l) (h1 : l < depthD d) => lenD_next hr h0 h1)
  have HP := Lib.hid (fun (l : Int) (h0 : 0 ≤ l) (h1 : l < depthD d) => (lenD_step hr h0 h1).2.2)
  have HR := Lib.hid (fun (l : Int) => lenD_range d l)
  have HT0 := lensT_succ d 0
  have HT := Lib.hid (fun (k : Nat) => lensT_succ d k)
  have HG := Lib.hid (fun (j k : Nat) (h : j < k) => lensT_get (d := d) h)
  have HLN := Lib.hid (fun k => lensT_len d k)
  have hc := cntD_ok hr
  have HX := Lib.hid (fun (v : Value) (w' : World) (hs : IS w' v (lensT d (cntD d))) (hb : Below w.heap.size w w') => (lensPost_ok hs hb : LensPost d w (.returned v) w'))
  generalize LensPost d w = PP at *
  generalize lensT d = T at *
  generalize cntD d = N at *
  have hT1 : T 1 = [wid d.kind] := by rw [HT0]; show T 0 ++ _ = _; rw [show ((0 : Nat) : Int) = 0 from rfl, hz, List.eq_nil_of_length_eq_zero (HLN.out 0)]; rfl
  obtain ⟨Ld, hLd⟩ : ∃ Ld : Nat → Int, ∀ k : Nat, Ld k = lenD d k := ⟨_, fun _ => rfl⟩
  generalize hq : depthD d = q at *
  obtain ⟨Q, rfl⟩ := Int.eq_ofNat_of_zero_le (show 0 ≤ q by omega)
  have hN : N = Q + 1 := by omega
  subst hN
  have HNx := Lib.hid (fun (k : Nat) (h : k < Q) => (by rw [hLd, hLd, show ((k + 1 : Nat) : Int) = (k : Int) + 1 by omega]; exact HN.out k (by omega) (by omega) : Ld (k + 1) = max (Ld k - d.step) 0))
  have HPx := Lib.hid (fun (k : Nat) (h : k < Q) => (by rw [hLd]; exact HP.out k (by omega) (by omega) : 0 < Ld k))
  have HRx := Lib.hid (fun (k : Nat) => (by rw [hLd]; exact HR.out k : -1 ≤ Ld k ∧ Ld k ≤ 128))
  have HEx : Ld Q = 0 := by rw [hLd]; exact he
  have HTx := Lib.hid (fun (k : Nat) => (by rw [hLd]; exact HT.out k : T (k + 1) = T k ++ [Ld k]))
  have HGx := Lib.hid (fun (j k : Nat) (h : j < k) => (by rw [hLd]; exact HG.out j k h : (T k)[j]? = some (Ld j)))
  replace HEx := Lib.hid HEx
  replace hT1 := Lib.hid hT1
  clear HN HP HR HT HT0 HG hLd he hz hc hq hr
  obtain ⟨kd, sd, st⟩ := d
  dsimp only at *
  generalize wid kd = wd at *
  have t0 : (wd == 0) = false := by simp; omega
  have t1 : ¬ st < 1 := by omega
  have t2 : ¬ wd < st := by omega
  unfold dv
  dsimp only
  obtain ⟨RR0, hb0⟩ := one_row w #[.int .i64 kd, .int .i64 sd, .int .i64 st] 53
  have c0 := (RR0.cell 0).trans (show _ = some (Value.int .i64 kd) from rfl)
  have c1 := (RR0.cell 1).trans (show _ = some (Value.int .i64 sd) from rfl)
  have c2 := (RR0.cell 2).trans (show _ = some (Value.int .i64 st) from rfl)
  clear RR0
  have hsd : ((sd == 1) = true ∧ sd = 1) ∨ ((sd == 1) = false ∧ sd = 2) := by
    rcases sd0 with e | e
    · left; simp [e]
    · right; simp [e]
  clear sd0
  rcases hsd with ⟨_, rfl⟩ | ⟨_, rfl⟩
  · skip
    go_enter Try.func67, Try.ntmps67
    go_wp2_with fail
    refine (HW _).mono ?_
    rintro e w1 ⟨rfl, hb⟩
    replace c0 := cell_later hb c0
    replace c1 := cell_later hb c1
    replace c2 := cell_later hb c2
    replace hb0 := below_step hb0 hb
    clear hb
    have lc := World.block_lt_of_cell? _ _ c0
    dsimp only at lc
    go_wp2_with fail
    have RO : Hid (OwnI w1.heap.size (w1.alloc (.cells #[.int .i64 wd] 3)) (.slice (some ⟨w1.heap.size, 0, none⟩) 1 1) (T 1)) := Lib.hid (by rw [hT1.out]; exact OwnI.made (Row.new _ _ _) (Nat.le_refl _))
    have HB1 : Hid (Below w1.heap.size w1 (w1.alloc (.cells #[.int .i64 wd] 3))) := Lib.hid ((Below.refl _ _).alloc (Nat.le_refl _) _)
    have HB0 := Lib.hid hb0
    have hc2 := c2
    clear hb0 c0 c1 c2 hT1 HW
    go_loopw [4] (fun o wr => ∃ (k m : Nat) (po : Option Addr) (co : Nat), o = .slice po m co ∧ k ≤ Q ∧ m = k + 1 ∧ Hid (OwnI w1.heap.size wr (.slice po m co) (T m)) ∧ Hid (Below w1.heap.size w1 wr)) (fun o _ => match o with | .slice _ m _ => Q + 1 - m | _ => 0)
    case atStart => exact ⟨0, 1, _, _, rfl, Nat.zero_le _, rfl, RO, HB1⟩
    case round =>
      clear RO HB1
      obtain ⟨k, m, po, co, rfl, hk, hm, hO, hB⟩ := hrel
      obtain ⟨pp, cc, hpe, hcc, hpp⟩ := hO.out.read
      rw [HLN.out m] at hpe hcc hpp
      cases hpe
      obtain ⟨g, o, rfl, hg, hcell⟩ := hpp (by omega)
      have cA := hcell k (Ld k) (HGx.out k m (by omega))
      have cS := cell_later hB.out hc2
      have m1 : (m : Int) - 1 = (k : Int) := by omega
      have m2 : IntKind.i64.wrap (k : Int) = (k : Int) := IntWalk.i64_in _ (by omega)
      have hkm : (k : Int) < (m : Int) := by omega
      have hkm2 : k < m := by omega
      have hr := HRx.out k
      have hbs := hB.out.size
      by_cases hlt : k < Q
      · have hp := HPx.out k hlt
        have hn := HNx.out k hlt
        have HTm : T (m + 1) = T m ++ [Ld (k + 1)] := by rw [HTx.out m]; congr 3
        have hwq : IntKind.i64.wrap (Ld k - st) = Ld k - st := IntWalk.i64_in _ (by omega)
        have hcS0 := cS
        have hB' := Lib.hid hB.out.drew
        have hO' := Lib.hid (hO.out.later ((Below.refl _ _).drew))
        have hm' := Lib.hid hm
        clear hcell hcc hpp HNx HPx HRx HEx HGx HX hm hB hO
        generalize Ld k = lk at *
        go_wp2_with fail
        refine wp_region_held_drew (S := (fun w' => w'.cell? ⟨g, o + k, none⟩ = some (.int .i64 lk) ∧ w'.cell? ⟨w.heap.size, 2, none⟩ = some (.int .i64 st))) (by kernel_rfl) ?hSr1_ (fun hHeld => ?_)
        case hSr1_ => (first | exact ⟨cA, cS⟩ | exact hHeld)
        refine wpAnyH_take (i := 0) (oi := { dst := some 41, op := Go.Op.move (Go.Operand.tmp 4), type := 80, pos := _, after := #[], guard := none }) (v := ?vr1_1_0) rfl (by kernel_rfl) (by kernel_rfl) (by kernel_rfl) (fun _ _ _ h => h) (Or.inl ⟨by rfl, ?yr1_1_0⟩) hHeld ?_
        case yr1_1_0 => ((intro w hSw; (try dsimp only at hSw); go_simp) <;> with_reducible rfl)
        (try simp only [Act.put, List.setIfInBounds_toArray, List.set_cons_zero, List.set_cons_succ])
        refine wpAnyH_take (i := 1) (oi := { dst := some 42, op := Go.Op.move (Go.Operand.tmp 4), type := 80, pos := _, after := #[], guard := none }) (v := ?vr1_2_1) rfl (by kernel_rfl) (by kernel_rfl) (by kernel_rfl) (fun _ _ _ h => h) (Or.inl ⟨by rfl, ?yr1_2_1⟩) hHeld ?_
        case yr1_2_1 => ((intro w hSw; (try dsimp only at hSw); go_simp) <;> with_reducible rfl)
        (try simp only [Act.put, List.setIfInBounds_toArray, List.set_cons_zero, List.set_cons_succ])
        refine wpAnyH_take (i := 2) (oi := { dst := some 43, op := Go.Op.call { callee := Go.Callee.builtin Go.Builtin.len, args := #[Go.Operand.tmp 42], argTypes := #[80] }, type := 3, pos := _, after := #[{ on := 1, ground := Go.Ground.data }], guard := none }) (v := ?vr1_3_2) rfl (by kernel_rfl) (by kernel_rfl) (by kernel_rfl) (fun _ _ _ h => h) (Or.inl ⟨by rfl, ?yr1_3_2⟩) hHeld ?_
        case yr1_3_2 => ((intro w hSw; (try dsimp only at hSw); go_simp) <;> with_reducible rfl)
        (try simp only [Act.put, List.setIfInBounds_toArray, List.set_cons_zero, List.set_cons_succ])
        refine wpAnyH_take (i := 3) (oi := { dst := some 44, op := Go.Op.binOp Go.BinOp.sub 3 (Go.Operand.tmp 43) (Go.Operand.const (Go.Value.int Go.IntKind.i64 1)) 3, type := 3, pos := _, after := #[{ on := 2, ground := Go.Ground.data }], guard := none }) (v := ?vr1_4_3) rfl (by kernel_rfl) (by kernel_rfl) (by kernel_rfl) (fun _ _ _ h => h) (Or.inl ⟨by rfl, ?yr1_4_3⟩) hHeld ?_
        case yr1_4_3 => ((intro w hSw; (try dsimp only at hSw); go_simp) <;> with_reducible rfl)
        (try simp only [Act.put, List.setIfInBounds_toArray, List.set_cons_zero, List.set_cons_succ])
        refine wpAnyH_take (i := 4) (oi := { dst := some 45, op := Go.Op.indexAddr 80 (Go.Operand.tmp 41) (Go.Operand.tmp 44), type := 0, pos := _, after := #[{ on := 0, ground := Go.Ground.data }, { on := 3, ground := Go.Ground.data }], guard := none }) (v := ?vr1_5_4) rfl (by kernel_rfl) (by kernel_rfl) (by kernel_rfl) (fun _ _ _ h => h) (Or.inl ⟨by rfl, ?yr1_5_4⟩) hHeld ?_
        case yr1_5_4 => ((intro w hSw; (try dsimp only at hSw); go_simp) <;> with_reducible rfl)
        (try simp only [Act.put, List.setIfInBounds_toArray, List.set_cons_zero, List.set_cons_succ])
        refine wpAnyH_take (i := 5) (oi := { dst := some 46, op := Go.Op.load 3 (Go.Operand.tmp 45), type := 3, pos := _, after := #[{ on := 4, ground := Go.Ground.data }], guard := none }) (v := ?vr1_6_5) rfl (by kernel_rfl) (by kernel_rfl) (by kernel_rfl) (fun _ _ _ h => h) (Or.inl ⟨by rfl, ?yr1_6_5⟩) hHeld ?_
        case yr1_6_5 => ((intro w hSw; (try dsimp only at hSw); go_simp) <;> with_reducible rfl)
        (try simp only [Act.put, List.setIfInBounds_toArray, List.set_cons_zero, List.set_cons_succ])
        refine wpAnyH_take (i := 6) (oi := { dst := some 47, op := Go.Op.fieldAddr 53 (Go.Operand.tmp 1) 2, type := 0, pos := _, after := #[], guard := none }) (v := ?vr1_7_6) rfl (by kernel_rfl) (by kernel_rfl) (by kernel_rfl) (fun _ _ _ h => h) (Or.inl ⟨by rfl, ?yr1_7_6⟩) hHeld ?_
        case yr1_7_6 => ((intro w hSw; (try dsimp only at hSw); go_simp) <;> with_reducible rfl)
        (try simp only [Act.put, List.setIfInBounds_toArray, List.set_cons_zero, List.set_cons_succ])
        refine wpAnyH_take (i := 7) (oi := { dst := some 48, op := Go.Op.load 3 (Go.Operand.tmp 47), type := 3, pos := _, after := #[{ on := 6, ground := Go.Ground.data }], guard := none }) (v := ?vr1_8_7) rfl (by kernel_rfl) (by kernel_rfl) (by kernel_rfl) (fun _ _ _ h => h) (Or.inl ⟨by rfl, ?yr1_8_7⟩) hHeld ?_
        case yr1_8_7 => ((intro w hSw; (try dsimp only at hSw); go_simp) <;> with_reducible rfl)
        (try simp only [Act.put, List.setIfInBounds_toArray, List.set_cons_zero, List.set_cons_succ])
        refine wpAnyH_take (i := 8) (oi := { dst := some 49, op := Go.Op.binOp Go.BinOp.sub 3 (Go.Operand.tmp 46) (Go.Operand.tmp 48) 3, type := 3, pos := _, after := #[{ on := 5, ground := Go.Ground.data }, { on := 7, ground := Go.Ground.data }], guard := none }) (v := ?vr1_9_8) rfl (by kernel_rfl) (by kernel_rfl) (by kernel_rfl) (fun _ _ _ h => h) (Or.inl ⟨by rfl, ?yr1_9_8⟩) hHeld ?_
        case yr1_9_8 => ((intro w hSw; (try dsimp only at hSw); go_simp) <;> with_reducible rfl)
        (try simp only [Act.put, List.setIfInBounds_toArray, List.set_cons_zero, List.set_cons_succ])
        refine wpAnyH_take (i := 9) (oi := { dst := some 5, op := Go.Op.assign (Go.Operand.tmp 49), type := 3, pos := _, after := #[{ on := 8, ground := Go.Ground.data }, { on := 0, ground := Go.Ground.phase }, { on := 1, ground := Go.Ground.phase }, { on := 2, ground := Go.Ground.phase }, { on := 3, ground := Go.Ground.phase }, { on := 4, ground := Go.Ground.phase }, { on := 5, ground := Go.Ground.phase }, { on := 6, ground := Go.Ground.phase }, { on := 7, ground := Go.Ground.phase }, { on := 8, ground := Go.Ground.phase }], guard := none }) (v := ?vr1_10_9) rfl (by kernel_rfl) (by kernel_rfl) (by kernel_rfl) (fun _ _ _ h => h) (Or.inl ⟨by rfl, ?yr1_10_9⟩) hHeld ?_
        case yr1_10_9 => ((intro w hSw; (try dsimp only at hSw); go_simp) <;> with_reducible rfl)
        (try simp only [Act.put, List.setIfInBounds_toArray, List.set_cons_zero, List.set_cons_succ])
        refine wpAnyH_done (by kernel_rfl) ?_ _
        clear cA cS hHeld
        have hB2 := hB'.out
        have hO2 := hO'.out
        have hcS := cell_later ((Below.refl wr.heap.size wr).drew) hcS0
        have hbs2 : w1.heap.size ≤ wr.drew.heap.size := hB2.size
        clear hB' hO' hcS0
        generalize wr.drew = wx at *
        by_cases hneg : lk - st < 0
        · skip
          have hL : Ld (k + 1) = 0 := by rw [hn]; omega
          have hneg' : decide (lk - st < 0) = true := decide_eq_true hneg
          obtain ⟨v', w3, hrun, hown, hb3⟩ := appI_one (0) hO2 hB2 (by rw [HLN.out]; omega) hbs2
          rw [← hL, ← HTm] at hown
          obtain ⟨pv, cv, rfl, _, _⟩ := hown.read
          rw [HLN.out (m + 1)] at hrun hown
          have HOW := Lib.hid hown
          have HB3 := Lib.hid hb3
          have HRUN := Lib.hid hrun
          have HLN2 := Lib.hid (HLN.out (m + 1))
          clear hrun hown hb3 hO2 hB2 HTm hn hL hcS
          have tok : True := trivial
          go_wp2_with (have _t := tok; at_builtin; refine wpList_appS rfl (.tmp 52) (.tmp 54) 80 rfl rfl rfl HRUN.out ?_; clear tok HRUN)
          exact ⟨⟨k + 1, m + 1, pv, cv, by first | rfl | rw [HLN2.out], by omega, by have := hm'.out; omega, HOW, HB3⟩, by have := hm'.out; first | (simp; omega) | (rw [HLN2.out]; simp; omega)⟩
        · skip
          have hL : Ld (k + 1) = lk - st := by rw [hn]; omega
          have hneg' : decide (lk - st < 0) = false := decide_eq_false hneg
          obtain ⟨v', w3, hrun, hown, hb3⟩ := appI_one (lk - st) hO2 hB2 (by rw [HLN.out]; omega) hbs2
          rw [← hL, ← HTm] at hown
          obtain ⟨pv, cv, rfl, _, _⟩ := hown.read
          rw [HLN.out (m + 1)] at hrun hown
          have HOW := Lib.hid hown
          have HB3 := Lib.hid hb3
          have HRUN := Lib.hid hrun
          have HLN2 := Lib.hid (HLN.out (m + 1))
          clear hrun hown hb3 hO2 hB2 HTm hn hL hcS
          have tok : True := trivial
          go_wp2_with (have _t := tok; at_builtin; refine wpList_appS rfl (.tmp 52) (.tmp 54) 80 rfl rfl rfl HRUN.out ?_; clear tok HRUN)
          exact ⟨⟨k + 1, m + 1, pv, cv, by first | rfl | rw [HLN2.out], by omega, by have := hm'.out; omega, HOW, HB3⟩, by have := hm'.out; first | (simp; omega) | (rw [HLN2.out]; simp; omega)⟩
      · have hkQ : k = Q := by omega
        subst hkQ
        have hE := HEx.out
        have HFX := Lib.hid (HX.out _ _ (by rw [← hm]; exact hO.out.read) (below_step HB0.out hB.out))
        rw [hE] at cA
        clear hcell hcc hpp HNx HPx HRx HEx HGx HX hO hB hE cS hr hc2 HTx
        go_wp2
        exact HFX.out
  · skip
    go_enter Try.func67, Try.ntmps67
    go_wp2_with fail
    refine (HW _).mono ?_
    rintro e w2 ⟨rfl, hb⟩
    replace c0 := cell_later hb c0
    replace c1 := cell_later hb c1
    replace c2 := cell_later hb c2
    replace hb0 := below_step hb0 hb
    clear hb
    have lc := World.block_lt_of_cell? _ _ c0
    dsimp only at lc
    go_wp2_with fail
    have RO : Hid (OwnI w2.heap.size (w2.alloc (.cells #[.int .i64 wd] 3)) (.slice (some ⟨w2.heap.size, 0, none⟩) 1 1) (T 1)) := Lib.hid (by rw [hT1.out]; exact OwnI.made (Row.new _ _ _) (Nat.le_refl _))
    have HB1 : Hid (Below w2.heap.size w2 (w2.alloc (.cells #[.int .i64 wd] 3))) := Lib.hid ((Below.refl _ _).alloc (Nat.le_refl _) _)
    have HB0 := Lib.hid hb0
    have hc2 := c2
    clear hb0 c0 c1 c2 hT1 HW
    go_loopw [4] (fun o wr => ∃ (k m : Nat) (po : Option Addr) (co : Nat), o = .slice po m co ∧ k ≤ Q ∧ m = k + 1 ∧ Hid (OwnI w2.heap.size wr (.slice po m co) (T m)) ∧ Hid (Below w2.heap.size w2 wr)) (fun o _ => match o with | .slice _ m _ => Q + 1 - m | _ => 0)
    case atStart => exact ⟨0, 1, _, _, rfl, Nat.zero_le _, rfl, RO, HB1⟩
    case round =>
      clear RO HB1
      obtain ⟨k, m, po, co, rfl, hk, hm, hO, hB⟩ := hrel
      obtain ⟨pp, cc, hpe, hcc, hpp⟩ := hO.out.read
      rw [HLN.out m] at hpe hcc hpp
      cases hpe
      obtain ⟨g, o, rfl, hg, hcell⟩ := hpp (by omega)
      have cA := hcell k (Ld k) (HGx.out k m (by omega))
      have cS := cell_later hB.out hc2
      have m1 : (m : Int) - 1 = (k : Int) := by omega
      have m2 : IntKind.i64.wrap (k : Int) = (k : Int) := IntWalk.i64_in _ (by omega)
      have hkm : (k : Int) < (m : Int) := by omega
      have hkm2 : k < m := by omega
      have hr := HRx.out k
      have hbs := hB.out.size
      by_cases hlt : k < Q
      · have hp := HPx.out k hlt
        have hn := HNx.out k hlt
        have HTm : T (m + 1) = T m ++ [Ld (k + 1)] := by rw [HTx.out m]; congr 3
        have hwq : IntKind.i64.wrap (Ld k - st) = Ld k - st := IntWalk.i64_in _ (by omega)
        have hcS0 := cS
        have hB' := Lib.hid hB.out.drew
        have hO' := Lib.hid (hO.out.later ((Below.refl _ _).drew))
        have hm' := Lib.hid hm
        clear hcell hcc hpp HNx HPx HRx HEx HGx HX hm hB hO
        generalize Ld k = lk at *
        go_wp2_with fail
        refine wp_region_held_drew (S := (fun w' => w'.cell? ⟨g, o + k, none⟩ = some (.int .i64 lk) ∧ w'.cell? ⟨w.heap.size, 2, none⟩ = some (.int .i64 st))) (by kernel_rfl) ?hSr2_ (fun hHeld => ?_)
        case hSr2_ => (first | exact ⟨cA, cS⟩ | exact hHeld)
        refine wpAnyH_take (i := 0) (oi := { dst := some 41, op := Go.Op.move (Go.Operand.tmp 4), type := 80, pos := _, after := #[], guard := none }) (v := ?vr2_1_0) rfl (by kernel_rfl) (by kernel_rfl) (by kernel_rfl) (fun _ _ _ h => h) (Or.inl ⟨by rfl, ?yr2_1_0⟩) hHeld ?_
        case yr2_1_0 => ((intro w hSw; (try dsimp only at hSw); go_simp) <;> with_reducible rfl)
        (try simp only [Act.put, List.setIfInBounds_toArray, List.set_cons_zero, List.set_cons_succ])
        refine wpAnyH_take (i := 1) (oi := { dst := some 42, op := Go.Op.move (Go.Operand.tmp 4), type := 80, pos := _, after := #[], guard := none }) (v := ?vr2_2_1) rfl (by kernel_rfl) (by kernel_rfl) (by kernel_rfl) (fun _ _ _ h => h) (Or.inl ⟨by rfl, ?yr2_2_1⟩) hHeld ?_
        case yr2_2_1 => ((intro w hSw; (try dsimp only at hSw); go_simp) <;> with_reducible rfl)
        (try simp only [Act.put, List.setIfInBounds_toArray, List.set_cons_zero, List.set_cons_succ])
        refine wpAnyH_take (i := 2) (oi := { dst := some 43, op := Go.Op.call { callee := Go.Callee.builtin Go.Builtin.len, args := #[Go.Operand.tmp 42], argTypes := #[80] }, type := 3, pos := _, after := #[{ on := 1, ground := Go.Ground.data }], guard := none }) (v := ?vr2_3_2) rfl (by kernel_rfl) (by kernel_rfl) (by kernel_rfl) (fun _ _ _ h => h) (Or.inl ⟨by rfl, ?yr2_3_2⟩) hHeld ?_
        case yr2_3_2 => ((intro w hSw; (try dsimp only at hSw); go_simp) <;> with_reducible rfl)
        (try simp only [Act.put, List.setIfInBounds_toArray, List.set_cons_zero, List.set_cons_succ])
        refine wpAnyH_take (i := 3) (oi := { dst := some 44, op := Go.Op.binOp Go.BinOp.sub 3 (Go.Operand.tmp 43) (Go.Operand.const (Go.Value.int Go.IntKind.i64 1)) 3, type := 3, pos := _, after := #[{ on := 2, ground := Go.Ground.data }], guard := none }) (v := ?vr2_4_3) rfl (by kernel_rfl) (by kernel_rfl) (by kernel_rfl) (fun _ _ _ h => h) (Or.inl ⟨by rfl, ?yr2_4_3⟩) hHeld ?_
        case yr2_4_3 => ((intro w hSw; (try dsimp only at hSw); go_simp) <;> with_reducible rfl)
        (try simp only [Act.put, List.setIfInBounds_toArray, List.set_cons_zero, List.set_cons_succ])
        refine wpAnyH_take (i := 4) (oi := { dst := some 45, op := Go.Op.indexAddr 80 (Go.Operand.tmp 41) (Go.Operand.tmp 44), type := 0, pos := _, after := #[{ on := 0, ground := Go.Ground.data }, { on := 3, ground := Go.Ground.data }], guard := none }) (v := ?vr2_5_4) rfl (by kernel_rfl) (by kernel_rfl) (by kernel_rfl) (fun _ _ _ h => h) (Or.inl ⟨by rfl, ?yr2_5_4⟩) hHeld ?_
        case yr2_5_4 => ((intro w hSw; (try dsimp only at hSw); go_simp) <;> with_reducible rfl)
        (try simp only [Act.put, List.setIfInBounds_toArray, List.set_cons_zero, List.set_cons_succ])
        refine wpAnyH_take (i := 5) (oi := { dst := some 46, op := Go.Op.load 3 (Go.Operand.tmp 45), type := 3, pos := _, after := #[{ on := 4, ground := Go.Ground.data }], guard := none }) (v := ?vr2_6_5) rfl (by kernel_rfl) (by kernel_rfl) (by kernel_rfl) (fun _ _ _ h => h) (Or.inl ⟨by rfl, ?yr2_6_5⟩) hHeld ?_
        case yr2_6_5 => ((intro w hSw; (try dsimp only at hSw); go_simp) <;> with_reducible rfl)
        (try simp only [Act.put, List.setIfInBounds_toArray, List.set_cons_zero, List.set_cons_succ])
        refine wpAnyH_take (i := 6) (oi := { dst := some 47, op := Go.Op.fieldAddr 53 (Go.Operand.tmp 1) 2, type := 0, pos := _, after := #[], guard := none }) (v := ?vr2_7_6) rfl (by kernel_rfl) (by kernel_rfl) (by kernel_rfl) (fun _ _ _ h => h) (Or.inl ⟨by rfl, ?yr2_7_6⟩) hHeld ?_
        case yr2_7_6 => ((intro w hSw; (try dsimp only at hSw); go_simp) <;> with_reducible rfl)
        (try simp only [Act.put, List.setIfInBounds_toArray, List.set_cons_zero, List.set_cons_succ])
        refine wpAnyH_take (i := 7) (oi := { dst := some 48, op := Go.Op.load 3 (Go.Operand.tmp 47), type := 3, pos := _, after := #[{ on := 6, ground := Go.Ground.data }], guard := none }) (v := ?vr2_8_7) rfl (by kernel_rfl) (by kernel_rfl) (by kernel_rfl) (fun _ _ _ h => h) (Or.inl ⟨by rfl, ?yr2_8_7⟩) hHeld ?_
        case yr2_8_7 => ((intro w hSw; (try dsimp only at hSw); go_simp) <;> with_reducible rfl)
        (try simp only [Act.put, List.setIfInBounds_toArray, List.set_cons_zero, List.set_cons_succ])
        refine wpAnyH_take (i := 8) (oi := { dst := some 49, op := Go.Op.binOp Go.BinOp.sub 3 (Go.Operand.tmp 46) (Go.Operand.tmp 48) 3, type := 3, pos := _, after := #[{ on := 5, ground := Go.Ground.data }, { on := 7, ground := Go.Ground.data }], guard := none }) (v := ?vr2_9_8) rfl (by kernel_rfl) (by kernel_rfl) (by kernel_rfl) (fun _ _ _ h => h) (Or.inl ⟨by rfl, ?yr2_9_8⟩) hHeld ?_
        case yr2_9_8 => ((intro w hSw; (try dsimp only at hSw); go_simp) <;> with_reducible rfl)
        (try simp only [Act.put, List.setIfInBounds_toArray, List.set_cons_zero, List.set_cons_succ])
        refine wpAnyH_take (i := 9) (oi := { dst := some 5, op := Go.Op.assign (Go.Operand.tmp 49), type := 3, pos := _, after := #[{ on := 8, ground := Go.Ground.data }, { on := 0, ground := Go.Ground.phase }, { on := 1, ground := Go.Ground.phase }, { on := 2, ground := Go.Ground.phase }, { on := 3, ground := Go.Ground.phase }, { on := 4, ground := Go.Ground.phase }, { on := 5, ground := Go.Ground.phase }, { on := 6, ground := Go.Ground.phase }, { on := 7, ground := Go.Ground.phase }, { on := 8, ground := Go.Ground.phase }], guard := none }) (v := ?vr2_10_9) rfl (by kernel_rfl) (by kernel_rfl) (by kernel_rfl) (fun _ _ _ h => h) (Or.inl ⟨by rfl, ?yr2_10_9⟩) hHeld ?_
        case yr2_10_9 => ((intro w hSw; (try dsimp only at hSw); go_simp) <;> with_reducible rfl)
        (try simp only [Act.put, List.setIfInBounds_toArray, List.set_cons_zero, List.set_cons_succ])
        refine wpAnyH_done (by kernel_rfl) ?_ _
        clear cA cS hHeld
        have hB2 := hB'.out
        have hO2 := hO'.out
        have hcS := cell_later ((Below.refl wr.heap.size wr).drew) hcS0
        have hbs2 : w2.heap.size ≤ wr.drew.heap.size := hB2.size
        clear hB' hO' hcS0
        generalize wr.drew = wx at *
        by_cases hneg : lk - st < 0
        · skip
          have hL : Ld (k + 1) = 0 := by rw [hn]; omega
          have hneg' : decide (lk - st < 0) = true := decide_eq_true hneg
          obtain ⟨v', w3, hrun, hown, hb3⟩ := appI_one (0) hO2 hB2 (by rw [HLN.out]; omega) hbs2
          rw [← hL, ← HTm] at hown
          obtain ⟨pv, cv, rfl, _, _⟩ := hown.read
          rw [HLN.out (m + 1)] at hrun hown
          have HOW := Lib.hid hown
          have HB3 := Lib.hid hb3
          have HRUN := Lib.hid hrun
          have HLN2 := Lib.hid (HLN.out (m + 1))
          clear hrun hown hb3 hO2 hB2 HTm hn hL hcS
          have tok : True := trivial
          go_wp2_with (have _t := tok; at_builtin; refine wpList_appS rfl (.tmp 52) (.tmp 54) 80 rfl rfl rfl HRUN.out ?_; clear tok HRUN)
          exact ⟨⟨k + 1, m + 1, pv, cv, by first | rfl | rw [HLN2.out], by omega, by have := hm'.out; omega, HOW, HB3⟩, by have := hm'.out; first | (simp; omega) | (rw [HLN2.out]; simp; omega)⟩
        · skip
          have hL : Ld (k + 1) = lk - st := by rw [hn]; omega
          have hneg' : decide (lk - st < 0) = false := decide_eq_false hneg
          obtain ⟨v', w3, hrun, hown, hb3⟩ := appI_one (lk - st) hO2 hB2 (by rw [HLN.out]; omega) hbs2
          rw [← hL, ← HTm] at hown
          obtain ⟨pv, cv, rfl, _, _⟩ := hown.read
          rw [HLN.out (m + 1)] at hrun hown
          have HOW := Lib.hid hown
          have HB3 := Lib.hid hb3
          have HRUN := Lib.hid hrun
          have HLN2 := Lib.hid (HLN.out (m + 1))
          clear hrun hown hb3 hO2 hB2 HTm hn hL hcS
          have tok : True := trivial
          go_wp2_with (have _t := tok; at_builtin; refine wpList_appS rfl (.tmp 52) (.tmp 54) 80 rfl rfl rfl HRUN.out ?_; clear tok HRUN)
          exact ⟨⟨k + 1, m + 1, pv, cv, by first | rfl | rw [HLN2.out], by omega, by have := hm'.out; omega, HOW, HB3⟩, by have := hm'.out; first | (simp; omega) | (rw [HLN2.out]; simp; omega)⟩
      · have hkQ : k = Q := by omega
        subst hkQ
        have hE := HEx.out
        have HFX := Lib.hid (HX.out _ _ (by rw [← hm]; exact hO.out.read) (below_step HB0.out hB.out))
        rw [hE] at cA
        clear hcell hcc hpp HNx HPx HRx HEx HGx HX hO hB hE cS hr hc2 HTx
        go_wp2
        exact HFX.out
end Go.Proofs.Ytekoicbjpoeijaa
