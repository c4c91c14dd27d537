/- WireWrites answers true for every slice of parts. No conditions. -/
import Derived.Test.YtgioompelogopaaParts
import Derived.LaidEqlPtr
namespace Go.Proofs.Ytgioompelogopaa
set_option linter.unusedVariables false
set_option linter.unusedSimpArgs false
open Go.RowKit
theorem same_run (a : Addr) (w : World) : (binOp .eql 52 (.pointer (some a)) (.pointer (some a))).run Try.prog w = .ok (.bool true) w := by
  have h1 : (Try.prog.info? 55).isSome = true := by kernel_rfl
  cases hq : Try.prog.info? 55 with
  | none => rw [hq] at h1; cases h1
  | some i => exact run_eql_ptr_same w a Try.underlying52 hq
theorem bytesN_b (w : World) : Calls Try.prog 40 #[.pointer none] w fun e w' => e = .returned (.slice none 0 0) ∧ Below w.heap.size w w' :=
  (bytesN_t w).mono fun _ _ h => ⟨h.1, by rw [h.2]; exact Below.refl _ _⟩
set_option maxRecDepth 100000 in
set_option maxHeartbeats 3200000 in
theorem wireWrites_any (lv : Value) (w : World) (hps : PS w lv) :
    Calls Try.prog 9 #[lv] w fun e w' => e = .returned (.bool true) ∧ Below w.heap.size w w' := by
  have hW0 := new_wr w
  have hB0 : Below w.heap.size w (w.alloc (.cells #[.pointer none, .int .i64 0] 55)) := (by repeat (first | exact Below.refl _ _ | assumption | (with_reducible refine Below.setCell ?_ ?h _; case h => first | omega | (simp; done) | (simp; omega)) | (with_reducible refine Below.alloc ?_ ?h _; case h => first | omega | (simp; done) | (simp; omega)) | (with_reducible refine Below.drew ?_) | (with_reducible refine Below.trans ?_ (hb4.mono ?h); case h => first | omega | (simp; done) | (simp; omega)) | (with_reducible refine Below.trans ?_ (hb3.mono ?h); case h => first | omega | (simp; done) | (simp; omega)) | (with_reducible refine Below.trans ?_ (hb2.mono ?h); case h => first | omega | (simp; done) | (simp; omega)) | (with_reducible refine Below.trans ?_ (hb.mono ?h); case h => first | omega | (simp; done) | (simp; omega)) | (with_reducible refine Below.trans ?_ (hb0.mono ?h); case h => first | omega | (simp; done) | (simp; omega))))
  have hlt0 : w.heap.size < (w.alloc (.cells #[.pointer none, .int .i64 0] 55)).heap.size := by simp
  obtain ⟨lp, n, c, rfl, hn, hc, hparts⟩ := hps
  have HP := Lib.hid hparts
  clear hparts
  generalize hB : w.heap.size = B at *
  go_enter Try.func9, Try.ntmps9
  go_wp2_with fail
  generalize w.alloc (.cells #[.pointer none, .int .i64 0] 55) = w0 at *
  go_loopw [5, 6] (fun v5 i wr => ∃ (j : Nat) (L : List Int) (F : Nat → Prop), j ≤ n ∧ j ≤ 30 ∧ i = .int .i64 j ∧ Writ B wr v5 L F ∧ L.length ≤ j * 65537 ∧ Below B w wr ∧ B ≤ wr.heap.size) (fun _ i _ => 30 - (intOf i).toNat)
  case atStart =>
    refine ⟨0, [], fun k => k = B, by omega, by omega, rfl, ⟨hW0, ⟨⟨rfl, .inl ⟨rfl, rfl⟩⟩, fun _ h => by cases h⟩, fun k hk => ⟨by omega, by omega, fun e => by cases e⟩⟩, by simp, hB0, by omega⟩
  case round =>
    clear hW0 hB0 hlt0
    obtain ⟨j, L, F, hjn, hj30, rfl, hWr, hL, hBel, hBs⟩ := hrel
    by_cases hlt : j < n ∧ j < 30
    · obtain ⟨hj1, hj2⟩ := hlt
      obtain ⟨g, o, rfl, hall⟩ := HP.out (by omega)
      obtain ⟨k, i, m, ah, al, s, b, bl, P⟩ := hall j hj1
      have Q := P.later (hB.symm ▸ hBel)
      have hblt := P.hb.lt
      rw [hB] at hblt
      have q1 : decide ((j : Int) < (n : Int)) = true := by simp; omega
      have q2 : decide ((j : Int) < 30) = true := by simp; omega
      have c0 := Q.c0
      have c1 := Q.c1
      have c2 := Q.c2
      have c3 := Q.c3
      have c4 := Q.c4
      have c5 := Q.c5
      have c6 := Q.c6
      have HW := Lib.hid hWr
      have HQ := Lib.hid Q
      have HBel := Lib.hid hBel
      have HP0 := Lib.hid P
      clear hWr Q hBel hall P
      go_wp2_with fail
      refine (great_t k i m ah al s b bl wr HQ.out.hb).mono ?_
      rintro r w1 ⟨rfl, hb1⟩
      have Q := HQ.out.later hb1
      have hWr := HW.out.later hb1
      have hBel1 := HBel.out.trans (hb1.mono hBs)
      have hBs1 := Nat.le_trans hBs hb1.size
      clear HQ HW HBel hb1 c0 c1 c2 c3 c4 c5 c6
      have c0 := Q.c0
      have c1 := Q.c1
      have c2 := Q.c2
      have c3 := Q.c3
      have c4 := Q.c4
      have c5 := Q.c5
      have c6 := Q.c6
      have HW := Lib.hid hWr
      have HQ := Lib.hid Q
      have HBel := Lib.hid hBel1
      clear hWr Q hBel1
      cases hgr : greatB s.size bl.length i
      · have hg2 : bl.length ≤ 300 := by unfold greatB at hgr; have := of_decide_eq_false hgr; omega
        have hpl := partB_len k i m ah al s bl hg2
        go_wp2_with fail
        refine (put_t B B L bl k i m ah al s b HQ.out.hn HQ.out.hh HQ.out.hl w1 F HW.out.wr HQ.out.hb (by omega) hBs1 (fun hp x hx f => by have h1 := hblt hp x hx; have h2 := (HW.out.far x f).1; omega)).mono ?_
        rintro r w2 ⟨v2, rfl, hb2, _, F2, hw2, hF2, hk2⟩
        obtain ⟨hown2, hwr2, hfar2⟩ := HW.out.put hw2 hF2 hk2 hBs1
        have hbel2 := hk2.below B hBs1 (fun k f => (HW.out.far k f).1)
        have hBs2 := Nat.le_trans hBs1 hk2.size
        obtain ⟨v3, w3, hrun, hown3, hgrow, hat⟩ := append_run 56 hown2 hb2 (by omega) hBs2
        have hk3 : Keeps (fun k => u5.ownBlock = some k) w2 w3 := Keeps.of_grown ⟨hgrow.os, hgrow.tape, hgrow.output, hgrow.size, hgrow.block⟩ (fun k hk => hk)
        have hW3 : Writ B w3 v3 (L ++ partB k i m ah al s bl) (fun k => F2 k ∧ k < w2.heap.size) := by
          refine ⟨hwr2.keeps hk3 (fun k hk e => (hfar2 k hk).2.2 e), hown3, fun k hk => ⟨(hfar2 k hk).1, Nat.lt_of_lt_of_le hk.2 hk3.size, fun e => ?_⟩⟩
          rcases hat with h | h
          · rw [h] at e; exact (hfar2 k hk).2.2 e
          · rw [h] at e; have := Option.some.inj e; omega
        have hBel3 := (HBel.out.trans hbel2).trans (hk3.below B hBs2 (fun k e => (hown2.block k e).1))
        have hBs3 := Nat.le_trans hBs2 hk3.size
        have hL3 : (L ++ partB k i m ah al s bl).length ≤ (j + 1) * 65537 := by rw [List.length_append]; omega
        have Q := HP0.out.later (hB.symm ▸ hBel3)
        clear HW HQ HBel c0 c1 c2 c3 c4 c5 c6 hk3 hgrow hown2 hwr2 hfar2 hbel2 hk2 hF2 hw2 hown3 hat hb2
        have c0 := Q.c0
        have c1 := Q.c1
        have c2 := Q.c2
        have c3 := Q.c3
        have c4 := Q.c4
        have c5 := Q.c5
        have c6 := Q.c6
        have HQ := Lib.hid Q
        have HW := Lib.hid hW3
        have HBel := Lib.hid hBel3
        clear Q hW3 hBel3
        have tok : True := trivial
        go_wp2_with (have _t := tok; refine wpList_append_run rfl (.tmp 25) (.tmp 31) 56 rfl rfl rfl hrun ?_; clear tok hrun)
        refine (putN_t k i m ah al s b bl HQ.out.hn HQ.out.hh HQ.out.hl w3 HQ.out.hb).mono ?_
        rintro r w4 ⟨⟨v4, rfl⟩, hb4⟩
        have hW4 := Lib.hid (HW.out.later hb4)
        have hBel4 := Lib.hid (HBel.out.trans (hb4.mono hBs3))
        have hBs4 := Nat.le_trans hBs3 hb4.size
        clear HW HQ HBel c0 c1 c2 c3 c4 c5 c6 hb4
        go_wp2
        exact ⟨⟨j + 1, _, _, by omega, by omega, by go_num, hW4.out, hL3, hBel4.out, hBs4⟩, by simp [intOf]; omega⟩
      · go_wp2_with fail
        refine (alive2_t w1).mono ?_
        rintro r w2 ⟨rfl, hb2⟩
        have hBel2 := HBel.out.trans (hb2.mono hBs1)
        go_wp2
        go_ret
        exact ⟨rfl, hBel2⟩
    · have q1 : (j < n ∧ decide ((j : Int) < 30) = false) ∨ ¬ j < n := by
        by_cases h1 : j < n
        · left; exact ⟨h1, by simp; omega⟩
        · right; exact h1
      have HW := Lib.hid hWr
      have HBel := Lib.hid hBel
      clear hWr hBel HP
      rcases q1 with ⟨q1, q2⟩ | q1
      · skip
        go_wp2_with fail
        have hWr := HW.out
        have hBel := HBel.out.drew
        have hfarF : ∀ k, F k → B ≤ k := fun k f => (hWr.far k f).1
        have hFar : ∀ g, u5.ownBlock = some g → ¬ F g := fun g hg f => (hWr.far g f).2.2 hg
        have hlen : L.length ≤ 2147483647 := by omega
        have hwr := hWr.wr.drew
        have hown := hWr.own.drew
        have hBs5 : B ≤ wr.drew.heap.size := hBs
        have tok0 : True := trivial
        clear HW HBel hWr
        refine wp_region_held_drew (S := (fun w' => Own B w' u5 L ∧ Below B w w' ∧ B ≤ w'.heap.size)) (by kernel_rfl) ?hSr1_ (fun hHeld => ?_)
        case hSr1_ => (first | exact hHeld | exact ⟨hown, hBel, hBs5⟩ | exact ⟨hHeld.1.later hb, hHeld.2.1.trans (hb.mono hHeld.2.2), Nat.le_trans hHeld.2.2 hb.size⟩ | exact ⟨hHeld.1.keeps hk hFar, hHeld.2.1.trans (hk.below B hHeld.2.2 hfarF), Nat.le_trans hHeld.2.2 hk.size⟩)
        refine wpAnyH_ready (rs := [0]) (by kernel_rfl) (by simp) ?_
        refine AllReadyH.cons (o := { dst := some 39, op := Go.Op.call { callee := Go.Callee.value (Go.Operand.func 38), args := #[], argTypes := #[] }, type := 4, pos := _, after := #[], guard := none }) rfl (fun K hK => ?_) AllReadyH.nil
        go_simp
        ((refine (alive2_t _).mono ?_); (rintro r wn ⟨rfl, hb⟩); (replace hwr := hwr.later hb))
        go_wp2_with fail
        refine hK.out _ _ ?hSr1_1_0 (fun hHeld2 => ?_)
        case hSr1_1_0 => (first | exact hHeld | exact ⟨hown, hBel, hBs5⟩ | exact ⟨hHeld.1.later hb, hHeld.2.1.trans (hb.mono hHeld.2.2), Nat.le_trans hHeld.2.2 hb.size⟩ | exact ⟨hHeld.1.keeps hk hFar, hHeld.2.1.trans (hk.below B hHeld.2.2 hfarF), Nat.le_trans hHeld.2.2 hk.size⟩)
        clear hK K hHeld
        have hHeld := hHeld2
        clear hHeld2
        (try simp only [Act.put, List.setIfInBounds_toArray, List.set_cons_zero, List.set_cons_succ])
        refine wpAnyH_take (i := 1) (oi := { dst := some 40, op := Go.Op.move (Go.Operand.tmp 39), type := 4, pos := _, after := #[{ on := 0, ground := Go.Ground.data }, { on := 0, ground := Go.Ground.chain }], guard := none }) (v := ?vr1_2_1) rfl (by kernel_rfl) (by kernel_rfl) (by kernel_rfl) (fun _ _ _ h => h) (Or.inl ⟨by rfl, ?yr1_2_1⟩) hHeld ?_
        case yr1_2_1 => ((intro w hSw; (try dsimp only at hSw); go_simp) <;> with_reducible rfl)
        (try simp only [Act.put, List.setIfInBounds_toArray, List.set_cons_zero, List.set_cons_succ])
        refine wpAnyH_take (i := 2) (oi := { dst := some 41, op := Go.Op.move (Go.Operand.tmp 3), type := 52, pos := _, after := #[{ on := 1, ground := Go.Ground.guard }], guard := some (1, true) }) (v := ?vr1_3_2) rfl (by kernel_rfl) (by kernel_rfl) (by kernel_rfl) (fun _ _ _ h => h) (Or.inl ⟨by rfl, ?yr1_3_2⟩) hHeld ?_
        case yr1_3_2 => ((intro w hSw; (try dsimp only at hSw); go_simp) <;> with_reducible rfl)
        (try simp only [Act.put, List.setIfInBounds_toArray, List.set_cons_zero, List.set_cons_succ])
        refine wpAnyH_take (i := 5) (oi := { dst := some 44, op := Go.Op.move (Go.Operand.tmp 5), type := 56, pos := _, after := #[{ on := 1, ground := Go.Ground.guard }], guard := some (1, true) }) (v := ?vr1_4_5) rfl (by kernel_rfl) (by kernel_rfl) (by kernel_rfl) (fun _ _ _ h => h) (Or.inl ⟨by rfl, ?yr1_4_5⟩) hHeld ?_
        case yr1_4_5 => ((intro w hSw; (try dsimp only at hSw); go_simp) <;> with_reducible rfl)
        (try simp only [Act.put, List.setIfInBounds_toArray, List.set_cons_zero, List.set_cons_succ])
        refine wpAnyH_take (i := 6) (oi := { dst := some 45, op := Go.Op.convert 56 9 (Go.Operand.tmp 44), type := 9, pos := _, after := #[{ on := 5, ground := Go.Ground.data }, { on := 1, ground := Go.Ground.guard }], guard := some (1, true) }) (v := ?vr1_5_6) rfl (by kernel_rfl) (by kernel_rfl) (by kernel_rfl) (fun _ _ _ h => h) (Or.inl ⟨by rfl, ?yr1_5_6⟩) hHeld ?_
        case yr1_5_6 => ((intro w hSw; (try dsimp only at hSw); (have hrun := back_run w _ _ hSw.1.bs); clear hSw; go_simp) <;> with_reducible rfl)
        (try simp only [Act.put, List.setIfInBounds_toArray, List.set_cons_zero, List.set_cons_succ])
        refine wpAnyH_ready (rs := [3]) (by kernel_rfl) (by simp) ?_
        refine AllReadyH.cons (o := { dst := some 42, op := Go.Op.call { callee := Go.Callee.value (Go.Operand.func 40), args := #[Go.Operand.tmp 41], argTypes := #[52] }, type := 56, pos := _, after := #[{ on := 2, ground := Go.Ground.data }, { on := 1, ground := Go.Ground.chain }, { on := 1, ground := Go.Ground.guard }], guard := some (1, true) }) rfl (fun K hK => ?_) AllReadyH.nil
        go_simp
        (first | ((clear tok0); (refine (bytes_t B B L F _ hwr hlen).mono ?_); (rintro r wn ⟨vv, rfl, hOv, hb⟩); (replace hwr := hwr.later hb); (have hBv := hOv.bs); (clear hOv)) | ((refine (bytesN_b _).mono ?_); (rintro r wn ⟨rfl, hb⟩); (replace hwr := hwr.later hb)))
        go_wp2_with fail
        refine hK.out _ _ ?hSr1_6_3 (fun hHeld2 => ?_)
        case hSr1_6_3 => (first | exact hHeld | exact ⟨hown, hBel, hBs5⟩ | exact ⟨hHeld.1.later hb, hHeld.2.1.trans (hb.mono hHeld.2.2), Nat.le_trans hHeld.2.2 hb.size⟩ | exact ⟨hHeld.1.keeps hk hFar, hHeld.2.1.trans (hk.below B hHeld.2.2 hfarF), Nat.le_trans hHeld.2.2 hk.size⟩)
        clear hK K hHeld
        have hHeld := hHeld2
        clear hHeld2
        (try simp only [Act.put, List.setIfInBounds_toArray, List.set_cons_zero, List.set_cons_succ])
        refine wpAnyH_ready (rs := [4]) (by kernel_rfl) (by simp) ?_
        refine AllReadyH.cons (o := { dst := some 43, op := Go.Op.convert 56 9 (Go.Operand.tmp 42), type := 9, pos := _, after := #[{ on := 3, ground := Go.Ground.data }, { on := 1, ground := Go.Ground.guard }], guard := some (1, true) }) rfl (fun K hK => ?_) AllReadyH.nil
        ((have hrun := back_run _ _ _ hBv); (rw [if_pos (by rfl)]); (with_reducible refine wp_conv_run (.tmp 42) 56 9 ?_ ?_ hrun ?_); rfl; rfl; clear hrun; (simp only [Act.put, List.setIfInBounds_toArray, List.set_cons_zero, List.set_cons_succ]))
        refine hK.out _ _ ?hSr1_7_4 (fun hHeld2 => ?_)
        case hSr1_7_4 => (first | exact hHeld | exact ⟨hown, hBel, hBs5⟩ | exact ⟨hHeld.1.later hb, hHeld.2.1.trans (hb.mono hHeld.2.2), Nat.le_trans hHeld.2.2 hb.size⟩ | exact ⟨hHeld.1.keeps hk hFar, hHeld.2.1.trans (hk.below B hHeld.2.2 hfarF), Nat.le_trans hHeld.2.2 hk.size⟩)
        clear hK K hHeld
        have hHeld := hHeld2
        clear hHeld2
        (try simp only [Act.put, List.setIfInBounds_toArray, List.set_cons_zero, List.set_cons_succ])
        refine wpAnyH_take (i := 7) (oi := { dst := some 46, op := Go.Op.binOp Go.BinOp.eql 9 (Go.Operand.tmp 43) (Go.Operand.tmp 45) 9, type := 4, pos := _, after := #[{ on := 4, ground := Go.Ground.data }, { on := 6, ground := Go.Ground.data }, { on := 1, ground := Go.Ground.guard }], guard := some (1, true) }) (v := ?vr1_8_7) rfl (by kernel_rfl) (by kernel_rfl) (by kernel_rfl) (fun _ _ _ h => h) (Or.inl ⟨by rfl, ?yr1_8_7⟩) hHeld ?_
        case yr1_8_7 => ((intro w hSw; (try dsimp only at hSw); go_simp) <;> with_reducible rfl)
        (try simp only [Act.put, List.setIfInBounds_toArray, List.set_cons_zero, List.set_cons_succ])
        refine wpAnyH_take (i := 8) (oi := { dst := some 47, op := Go.Op.pick (Go.Operand.tmp 40) (Go.Operand.tmp 46) (Go.Operand.const (Go.Value.bool false)), type := 4, pos := _, after := #[{ on := 1, ground := Go.Ground.data }, { on := 7, ground := Go.Ground.data }], guard := none }) (v := ?vr1_9_8) rfl (by kernel_rfl) (by kernel_rfl) (by kernel_rfl) (fun _ _ _ h => h) (Or.inl ⟨by rfl, ?yr1_9_8⟩) hHeld ?_
        case yr1_9_8 => ((intro w hSw; (try dsimp only at hSw); go_simp) <;> with_reducible rfl)
        (try simp only [Act.put, List.setIfInBounds_toArray, List.set_cons_zero, List.set_cons_succ])
        refine wpAnyH_take (i := 9) (oi := { dst := some 48, op := Go.Op.move (Go.Operand.tmp 47), type := 4, pos := _, after := #[{ on := 8, ground := Go.Ground.data }, { on := 3, ground := Go.Ground.chain }], guard := none }) (v := ?vr1_10_9) rfl (by kernel_rfl) (by kernel_rfl) (by kernel_rfl) (fun _ _ _ h => h) (Or.inl ⟨by rfl, ?yr1_10_9⟩) hHeld ?_
        case yr1_10_9 => ((intro w hSw; (try dsimp only at hSw); go_simp) <;> with_reducible rfl)
        (try simp only [Act.put, List.setIfInBounds_toArray, List.set_cons_zero, List.set_cons_succ])
        refine wpAnyH_take (i := 10) (oi := { dst := some 49, op := Go.Op.move (Go.Operand.tmp 4), type := 52, pos := _, after := #[{ on := 9, ground := Go.Ground.guard }], guard := some (9, true) }) (v := ?vr1_11_10) rfl (by kernel_rfl) (by kernel_rfl) (by kernel_rfl) (fun _ _ _ h => h) (Or.inl ⟨by rfl, ?yr1_11_10⟩) hHeld ?_
        case yr1_11_10 => ((intro w hSw; (try dsimp only at hSw); go_simp) <;> with_reducible rfl)
        (try simp only [Act.put, List.setIfInBounds_toArray, List.set_cons_zero, List.set_cons_succ])
        refine wpAnyH_ready (rs := [11]) (by kernel_rfl) (by simp) ?_
        refine AllReadyH.cons (o := { dst := some 50, op := Go.Op.call { callee := Go.Callee.value (Go.Operand.func 40), args := #[Go.Operand.tmp 49], argTypes := #[52] }, type := 56, pos := _, after := #[{ on := 10, ground := Go.Ground.data }, { on := 9, ground := Go.Ground.chain }, { on := 9, ground := Go.Ground.guard }], guard := some (9, true) }) rfl (fun K hK => ?_) AllReadyH.nil
        go_simp
        (first | ((clear tok0); (refine (bytes_t B B L F _ hwr hlen).mono ?_); (rintro r wn ⟨vv, rfl, hOv, hb⟩); (replace hwr := hwr.later hb); (have hBv := hOv.bs); (clear hOv)) | ((refine (bytesN_b _).mono ?_); (rintro r wn ⟨rfl, hb⟩); (replace hwr := hwr.later hb)))
        go_wp2_with fail
        refine hK.out _ _ ?hSr1_12_11 (fun hHeld2 => ?_)
        case hSr1_12_11 => (first | exact hHeld | exact ⟨hown, hBel, hBs5⟩ | exact ⟨hHeld.1.later hb, hHeld.2.1.trans (hb.mono hHeld.2.2), Nat.le_trans hHeld.2.2 hb.size⟩ | exact ⟨hHeld.1.keeps hk hFar, hHeld.2.1.trans (hk.below B hHeld.2.2 hfarF), Nat.le_trans hHeld.2.2 hk.size⟩)
        clear hK K hHeld
        have hHeld := hHeld2
        clear hHeld2
        (try simp only [Act.put, List.setIfInBounds_toArray, List.set_cons_zero, List.set_cons_succ])
        refine wpAnyH_take (i := 12) (oi := { dst := some 51, op := Go.Op.call { callee := Go.Callee.builtin Go.Builtin.len, args := #[Go.Operand.tmp 50], argTypes := #[56] }, type := 3, pos := _, after := #[{ on := 11, ground := Go.Ground.data }, { on := 9, ground := Go.Ground.guard }], guard := some (9, true) }) (v := ?vr1_13_12) rfl (by kernel_rfl) (by kernel_rfl) (by kernel_rfl) (fun _ _ _ h => h) (Or.inl ⟨by rfl, ?yr1_13_12⟩) hHeld ?_
        case yr1_13_12 => ((intro w hSw; (try dsimp only at hSw); go_simp) <;> with_reducible rfl)
        (try simp only [Act.put, List.setIfInBounds_toArray, List.set_cons_zero, List.set_cons_succ])
        refine wpAnyH_take (i := 13) (oi := { dst := some 52, op := Go.Op.binOp Go.BinOp.eql 3 (Go.Operand.tmp 51) (Go.Operand.const (Go.Value.int Go.IntKind.i64 0)) 3, type := 4, pos := _, after := #[{ on := 12, ground := Go.Ground.data }, { on := 9, ground := Go.Ground.guard }], guard := some (9, true) }) (v := ?vr1_14_13) rfl (by kernel_rfl) (by kernel_rfl) (by kernel_rfl) (fun _ _ _ h => h) (Or.inl ⟨by rfl, ?yr1_14_13⟩) hHeld ?_
        case yr1_14_13 => ((intro w hSw; (try dsimp only at hSw); go_simp) <;> with_reducible rfl)
        (try simp only [Act.put, List.setIfInBounds_toArray, List.set_cons_zero, List.set_cons_succ])
        refine wpAnyH_take (i := 14) (oi := { dst := some 53, op := Go.Op.pick (Go.Operand.tmp 48) (Go.Operand.tmp 52) (Go.Operand.const (Go.Value.bool false)), type := 4, pos := _, after := #[{ on := 9, ground := Go.Ground.data }, { on := 13, ground := Go.Ground.data }], guard := none }) (v := ?vr1_15_14) rfl (by kernel_rfl) (by kernel_rfl) (by kernel_rfl) (fun _ _ _ h => h) (Or.inl ⟨by rfl, ?yr1_15_14⟩) hHeld ?_
        case yr1_15_14 => ((intro w hSw; (try dsimp only at hSw); go_simp) <;> with_reducible rfl)
        (try simp only [Act.put, List.setIfInBounds_toArray, List.set_cons_zero, List.set_cons_succ])
        refine wpAnyH_take (i := 15) (oi := { dst := some 54, op := Go.Op.move (Go.Operand.tmp 53), type := 4, pos := _, after := #[{ on := 14, ground := Go.Ground.data }, { on := 11, ground := Go.Ground.chain }], guard := none }) (v := ?vr1_16_15) rfl (by kernel_rfl) (by kernel_rfl) (by kernel_rfl) (fun _ _ _ h => h) (Or.inl ⟨by rfl, ?yr1_16_15⟩) hHeld ?_
        case yr1_16_15 => ((intro w hSw; (try dsimp only at hSw); go_simp) <;> with_reducible rfl)
        (try simp only [Act.put, List.setIfInBounds_toArray, List.set_cons_zero, List.set_cons_succ])
        refine wpAnyH_take (i := 16) (oi := { dst := some 55, op := Go.Op.move (Go.Operand.tmp 4), type := 52, pos := _, after := #[{ on := 15, ground := Go.Ground.guard }], guard := some (15, true) }) (v := ?vr1_17_16) rfl (by kernel_rfl) (by kernel_rfl) (by kernel_rfl) (fun _ _ _ h => h) (Or.inl ⟨by rfl, ?yr1_17_16⟩) hHeld ?_
        case yr1_17_16 => ((intro w hSw; (try dsimp only at hSw); go_simp) <;> with_reducible rfl)
        (try simp only [Act.put, List.setIfInBounds_toArray, List.set_cons_zero, List.set_cons_succ])
        refine wpAnyH_ready (rs := [17]) (by kernel_rfl) (by simp) ?_
        refine AllReadyH.cons (o := { dst := some 56, op := Go.Op.call { callee := Go.Callee.value (Go.Operand.func 41), args := #[Go.Operand.tmp 55, Go.Operand.const (Go.Value.int Go.IntKind.u64 1), Go.Operand.const (Go.Value.int Go.IntKind.i64 1)], argTypes := #[52, 22, 3] }, type := 52, pos := _, after := #[{ on := 16, ground := Go.Ground.data }, { on := 15, ground := Go.Ground.chain }, { on := 15, ground := Go.Ground.guard }], guard := some (15, true) }) rfl (fun K hK => ?_) AllReadyH.nil
        go_simp
        (first | ((clear hBv); (refine (numN_t 1 1 ⟨by decide, by decide⟩ _).mono ?_); (rintro r wn ⟨rfl, hb⟩); (replace hwr := hwr.later hb)) | ((refine (num_t B B L 1 1 ⟨by decide, by decide⟩ _ F hwr (by omega) hHeld.2.2).mono ?_); (rintro r wn ⟨rfl, F9, _, _, hk⟩)))
        go_wp2_with fail
        refine hK.out _ _ ?hSr1_18_17 (fun hHeld2 => ?_)
        case hSr1_18_17 => (first | exact hHeld | exact ⟨hown, hBel, hBs5⟩ | exact ⟨hHeld.1.later hb, hHeld.2.1.trans (hb.mono hHeld.2.2), Nat.le_trans hHeld.2.2 hb.size⟩ | exact ⟨hHeld.1.keeps hk hFar, hHeld.2.1.trans (hk.below B hHeld.2.2 hfarF), Nat.le_trans hHeld.2.2 hk.size⟩)
        clear hK K hHeld
        have hHeld := hHeld2
        clear hHeld2
        (try simp only [Act.put, List.setIfInBounds_toArray, List.set_cons_zero, List.set_cons_succ])
        refine wpAnyH_take (i := 18) (oi := { dst := some 57, op := Go.Op.binOp Go.BinOp.eql 52 (Go.Operand.tmp 56) (Go.Operand.const (Go.Value.pointer none)) 52, type := 4, pos := _, after := #[{ on := 17, ground := Go.Ground.data }, { on := 15, ground := Go.Ground.guard }], guard := some (15, true) }) (v := ?vr1_19_18) rfl (by kernel_rfl) (by kernel_rfl) (by kernel_rfl) (fun _ _ _ h => h) (Or.inl ⟨by rfl, ?yr1_19_18⟩) hHeld ?_
        case yr1_19_18 => ((intro w hSw; (try dsimp only at hSw); go_simp) <;> with_reducible rfl)
        (try simp only [Act.put, List.setIfInBounds_toArray, List.set_cons_zero, List.set_cons_succ])
        refine wpAnyH_take (i := 19) (oi := { dst := some 58, op := Go.Op.pick (Go.Operand.tmp 54) (Go.Operand.tmp 57) (Go.Operand.const (Go.Value.bool false)), type := 4, pos := _, after := #[{ on := 15, ground := Go.Ground.data }, { on := 18, ground := Go.Ground.data }], guard := none }) (v := ?vr1_20_19) rfl (by kernel_rfl) (by kernel_rfl) (by kernel_rfl) (fun _ _ _ h => h) (Or.inl ⟨by rfl, ?yr1_20_19⟩) hHeld ?_
        case yr1_20_19 => ((intro w hSw; (try dsimp only at hSw); go_simp) <;> with_reducible rfl)
        (try simp only [Act.put, List.setIfInBounds_toArray, List.set_cons_zero, List.set_cons_succ])
        refine wpAnyH_take (i := 20) (oi := { dst := some 59, op := Go.Op.move (Go.Operand.tmp 58), type := 4, pos := _, after := #[{ on := 19, ground := Go.Ground.data }, { on := 17, ground := Go.Ground.chain }], guard := none }) (v := ?vr1_21_20) rfl (by kernel_rfl) (by kernel_rfl) (by kernel_rfl) (fun _ _ _ h => h) (Or.inl ⟨by rfl, ?yr1_21_20⟩) hHeld ?_
        case yr1_21_20 => ((intro w hSw; (try dsimp only at hSw); go_simp) <;> with_reducible rfl)
        (try simp only [Act.put, List.setIfInBounds_toArray, List.set_cons_zero, List.set_cons_succ])
        refine wpAnyH_take (i := 21) (oi := { dst := some 60, op := Go.Op.move (Go.Operand.tmp 3), type := 52, pos := _, after := #[{ on := 20, ground := Go.Ground.guard }], guard := some (20, true) }) (v := ?vr1_22_21) rfl (by kernel_rfl) (by kernel_rfl) (by kernel_rfl) (fun _ _ _ h => h) (Or.inl ⟨by rfl, ?yr1_22_21⟩) hHeld ?_
        case yr1_22_21 => ((intro w hSw; (try dsimp only at hSw); go_simp) <;> with_reducible rfl)
        (try simp only [Act.put, List.setIfInBounds_toArray, List.set_cons_zero, List.set_cons_succ])
        refine wpAnyH_take (i := 23) (oi := { dst := some 62, op := Go.Op.move (Go.Operand.tmp 3), type := 52, pos := _, after := #[{ on := 20, ground := Go.Ground.guard }], guard := some (20, true) }) (v := ?vr1_23_23) rfl (by kernel_rfl) (by kernel_rfl) (by kernel_rfl) (fun _ _ _ h => h) (Or.inl ⟨by rfl, ?yr1_23_23⟩) hHeld ?_
        case yr1_23_23 => ((intro w hSw; (try dsimp only at hSw); go_simp) <;> with_reducible rfl)
        (try simp only [Act.put, List.setIfInBounds_toArray, List.set_cons_zero, List.set_cons_succ])
        refine wpAnyH_ready (rs := [22]) (by kernel_rfl) (by simp) ?_
        refine AllReadyH.cons (o := { dst := some 61, op := Go.Op.call { callee := Go.Callee.value (Go.Operand.func 41), args := #[Go.Operand.tmp 60, Go.Operand.const (Go.Value.int Go.IntKind.u64 1), Go.Operand.const (Go.Value.int Go.IntKind.i64 1)], argTypes := #[52, 22, 3] }, type := 52, pos := _, after := #[{ on := 21, ground := Go.Ground.data }, { on := 20, ground := Go.Ground.chain }, { on := 20, ground := Go.Ground.guard }], guard := some (20, true) }) rfl (fun K hK => ?_) AllReadyH.nil
        go_simp
        (first | ((clear hBv); (refine (numN_t 1 1 ⟨by decide, by decide⟩ _).mono ?_); (rintro r wn ⟨rfl, hb⟩); (replace hwr := hwr.later hb)) | ((refine (num_t B B L 1 1 ⟨by decide, by decide⟩ _ F hwr (by omega) hHeld.2.2).mono ?_); (rintro r wn ⟨rfl, F9, _, _, hk⟩)))
        go_wp2_with fail
        refine hK.out _ _ ?hSr1_24_22 (fun hHeld2 => ?_)
        case hSr1_24_22 => (first | exact hHeld | exact ⟨hown, hBel, hBs5⟩ | exact ⟨hHeld.1.later hb, hHeld.2.1.trans (hb.mono hHeld.2.2), Nat.le_trans hHeld.2.2 hb.size⟩ | exact ⟨hHeld.1.keeps hk hFar, hHeld.2.1.trans (hk.below B hHeld.2.2 hfarF), Nat.le_trans hHeld.2.2 hk.size⟩)
        clear hK K hHeld
        have hHeld := hHeld2
        clear hHeld2
        (try simp only [Act.put, List.setIfInBounds_toArray, List.set_cons_zero, List.set_cons_succ])
        refine wpAnyH_take (i := 24) (oi := { dst := some 63, op := Go.Op.binOp Go.BinOp.eql 52 (Go.Operand.tmp 61) (Go.Operand.tmp 62) 52, type := 4, pos := _, after := #[{ on := 22, ground := Go.Ground.data }, { on := 23, ground := Go.Ground.data }, { on := 20, ground := Go.Ground.guard }], guard := some (20, true) }) (v := ?vr1_25_24) rfl (by kernel_rfl) (by kernel_rfl) (by kernel_rfl) (fun _ _ _ h => h) (Or.inl ⟨by rfl, ?yr1_25_24⟩) hHeld ?_
        case yr1_25_24 => ((intro w hSw; (have hrun := same_run ⟨B, 0, none⟩ w); clear hSw; go_simp) <;> with_reducible rfl)
        (try simp only [Act.put, List.setIfInBounds_toArray, List.set_cons_zero, List.set_cons_succ])
        refine wpAnyH_take (i := 25) (oi := { dst := some 64, op := Go.Op.pick (Go.Operand.tmp 59) (Go.Operand.tmp 63) (Go.Operand.const (Go.Value.bool false)), type := 4, pos := _, after := #[{ on := 20, ground := Go.Ground.data }, { on := 24, ground := Go.Ground.data }], guard := none }) (v := ?vr1_26_25) rfl (by kernel_rfl) (by kernel_rfl) (by kernel_rfl) (fun _ _ _ h => h) (Or.inl ⟨by rfl, ?yr1_26_25⟩) hHeld ?_
        case yr1_26_25 => ((intro w hSw; (try dsimp only at hSw); go_simp) <;> with_reducible rfl)
        (try simp only [Act.put, List.setIfInBounds_toArray, List.set_cons_zero, List.set_cons_succ])
        refine wpAnyH_take (i := 26) (oi := { dst := some 2, op := Go.Op.assign (Go.Operand.tmp 64), type := 4, pos := _, after := #[{ on := 25, ground := Go.Ground.data }, { on := 22, ground := Go.Ground.chain }, { on := 0, ground := Go.Ground.phase }, { on := 1, ground := Go.Ground.phase }, { on := 2, ground := Go.Ground.phase }, { on := 3, ground := Go.Ground.phase }, { on := 4, ground := Go.Ground.phase }, { on := 5, ground := Go.Ground.phase }, { on := 6, ground := Go.Ground.phase }, { on := 7, ground := Go.Ground.phase }, { on := 8, ground := Go.Ground.phase }, { on := 9, ground := Go.Ground.phase }, { on := 10, ground := Go.Ground.phase }, { on := 11, ground := Go.Ground.phase }, { on := 12, ground := Go.Ground.phase }, { on := 13, ground := Go.Ground.phase }, { on := 14, ground := Go.Ground.phase }, { on := 15, ground := Go.Ground.phase }, { on := 16, ground := Go.Ground.phase }, { on := 17, ground := Go.Ground.phase }, { on := 18, ground := Go.Ground.phase }, { on := 19, ground := Go.Ground.phase }, { on := 20, ground := Go.Ground.phase }, { on := 21, ground := Go.Ground.phase }, { on := 22, ground := Go.Ground.phase }, { on := 23, ground := Go.Ground.phase }, { on := 24, ground := Go.Ground.phase }, { on := 25, ground := Go.Ground.phase }], guard := none }) (v := ?vr1_27_26) rfl (by kernel_rfl) (by kernel_rfl) (by kernel_rfl) (fun _ _ _ h => h) (Or.inl ⟨by rfl, ?yr1_27_26⟩) hHeld ?_
        case yr1_27_26 => ((intro w hSw; (try dsimp only at hSw); go_simp) <;> with_reducible rfl)
        (try simp only [Act.put, List.setIfInBounds_toArray, List.set_cons_zero, List.set_cons_succ])
        refine wpAnyH_done (by kernel_rfl) ?_ _
        go_wp2
        go_ret
        exact ⟨rfl, hHeld.2.1⟩
      · skip
        go_wp2_with fail
        have hWr := HW.out
        have hBel := HBel.out.drew
        have hfarF : ∀ k, F k → B ≤ k := fun k f => (hWr.far k f).1
        have hFar : ∀ g, u5.ownBlock = some g → ¬ F g := fun g hg f => (hWr.far g f).2.2 hg
        have hlen : L.length ≤ 2147483647 := by omega
        have hwr := hWr.wr.drew
        have hown := hWr.own.drew
        have hBs5 : B ≤ wr.drew.heap.size := hBs
        have tok0 : True := trivial
        clear HW HBel hWr
        refine wp_region_held_drew (S := (fun w' => Own B w' u5 L ∧ Below B w w' ∧ B ≤ w'.heap.size)) (by kernel_rfl) ?hSr2_ (fun hHeld => ?_)
        case hSr2_ => (first | exact hHeld | exact ⟨hown, hBel, hBs5⟩ | exact ⟨hHeld.1.later hb, hHeld.2.1.trans (hb.mono hHeld.2.2), Nat.le_trans hHeld.2.2 hb.size⟩ | exact ⟨hHeld.1.keeps hk hFar, hHeld.2.1.trans (hk.below B hHeld.2.2 hfarF), Nat.le_trans hHeld.2.2 hk.size⟩)
        refine wpAnyH_ready (rs := [0]) (by kernel_rfl) (by simp) ?_
        refine AllReadyH.cons (o := { dst := some 39, op := Go.Op.call { callee := Go.Callee.value (Go.Operand.func 38), args := #[], argTypes := #[] }, type := 4, pos := _, after := #[], guard := none }) rfl (fun K hK => ?_) AllReadyH.nil
        go_simp
        ((refine (alive2_t _).mono ?_); (rintro r wn ⟨rfl, hb⟩); (replace hwr := hwr.later hb))
        go_wp2_with fail
        refine hK.out _ _ ?hSr2_1_0 (fun hHeld2 => ?_)
        case hSr2_1_0 => (first | exact hHeld | exact ⟨hown, hBel, hBs5⟩ | exact ⟨hHeld.1.later hb, hHeld.2.1.trans (hb.mono hHeld.2.2), Nat.le_trans hHeld.2.2 hb.size⟩ | exact ⟨hHeld.1.keeps hk hFar, hHeld.2.1.trans (hk.below B hHeld.2.2 hfarF), Nat.le_trans hHeld.2.2 hk.size⟩)
        clear hK K hHeld
        have hHeld := hHeld2
        clear hHeld2
        (try simp only [Act.put, List.setIfInBounds_toArray, List.set_cons_zero, List.set_cons_succ])
        refine wpAnyH_take (i := 1) (oi := { dst := some 40, op := Go.Op.move (Go.Operand.tmp 39), type := 4, pos := _, after := #[{ on := 0, ground := Go.Ground.data }, { on := 0, ground := Go.Ground.chain }], guard := none }) (v := ?vr2_2_1) rfl (by kernel_rfl) (by kernel_rfl) (by kernel_rfl) (fun _ _ _ h => h) (Or.inl ⟨by rfl, ?yr2_2_1⟩) hHeld ?_
        case yr2_2_1 => ((intro w hSw; (try dsimp only at hSw); go_simp) <;> with_reducible rfl)
        (try simp only [Act.put, List.setIfInBounds_toArray, List.set_cons_zero, List.set_cons_succ])
        refine wpAnyH_take (i := 2) (oi := { dst := some 41, op := Go.Op.move (Go.Operand.tmp 3), type := 52, pos := _, after := #[{ on := 1, ground := Go.Ground.guard }], guard := some (1, true) }) (v := ?vr2_3_2) rfl (by kernel_rfl) (by kernel_rfl) (by kernel_rfl) (fun _ _ _ h => h) (Or.inl ⟨by rfl, ?yr2_3_2⟩) hHeld ?_
        case yr2_3_2 => ((intro w hSw; (try dsimp only at hSw); go_simp) <;> with_reducible rfl)
        (try simp only [Act.put, List.setIfInBounds_toArray, List.set_cons_zero, List.set_cons_succ])
        refine wpAnyH_take (i := 5) (oi := { dst := some 44, op := Go.Op.move (Go.Operand.tmp 5), type := 56, pos := _, after := #[{ on := 1, ground := Go.Ground.guard }], guard := some (1, true) }) (v := ?vr2_4_5) rfl (by kernel_rfl) (by kernel_rfl) (by kernel_rfl) (fun _ _ _ h => h) (Or.inl ⟨by rfl, ?yr2_4_5⟩) hHeld ?_
        case yr2_4_5 => ((intro w hSw; (try dsimp only at hSw); go_simp) <;> with_reducible rfl)
        (try simp only [Act.put, List.setIfInBounds_toArray, List.set_cons_zero, List.set_cons_succ])
        refine wpAnyH_take (i := 6) (oi := { dst := some 45, op := Go.Op.convert 56 9 (Go.Operand.tmp 44), type := 9, pos := _, after := #[{ on := 5, ground := Go.Ground.data }, { on := 1, ground := Go.Ground.guard }], guard := some (1, true) }) (v := ?vr2_5_6) rfl (by kernel_rfl) (by kernel_rfl) (by kernel_rfl) (fun _ _ _ h => h) (Or.inl ⟨by rfl, ?yr2_5_6⟩) hHeld ?_
        case yr2_5_6 => ((intro w hSw; (try dsimp only at hSw); (have hrun := back_run w _ _ hSw.1.bs); clear hSw; go_simp) <;> with_reducible rfl)
        (try simp only [Act.put, List.setIfInBounds_toArray, List.set_cons_zero, List.set_cons_succ])
        refine wpAnyH_ready (rs := [3]) (by kernel_rfl) (by simp) ?_
        refine AllReadyH.cons (o := { dst := some 42, op := Go.Op.call { callee := Go.Callee.value (Go.Operand.func 40), args := #[Go.Operand.tmp 41], argTypes := #[52] }, type := 56, pos := _, after := #[{ on := 2, ground := Go.Ground.data }, { on := 1, ground := Go.Ground.chain }, { on := 1, ground := Go.Ground.guard }], guard := some (1, true) }) rfl (fun K hK => ?_) AllReadyH.nil
        go_simp
        (first | ((clear tok0); (refine (bytes_t B B L F _ hwr hlen).mono ?_); (rintro r wn ⟨vv, rfl, hOv, hb⟩); (replace hwr := hwr.later hb); (have hBv := hOv.bs); (clear hOv)) | ((refine (bytesN_b _).mono ?_); (rintro r wn ⟨rfl, hb⟩); (replace hwr := hwr.later hb)))
        go_wp2_with fail
        refine hK.out _ _ ?hSr2_6_3 (fun hHeld2 => ?_)
        case hSr2_6_3 => (first | exact hHeld | exact ⟨hown, hBel, hBs5⟩ | exact ⟨hHeld.1.later hb, hHeld.2.1.trans (hb.mono hHeld.2.2), Nat.le_trans hHeld.2.2 hb.size⟩ | exact ⟨hHeld.1.keeps hk hFar, hHeld.2.1.trans (hk.below B hHeld.2.2 hfarF), Nat.le_trans hHeld.2.2 hk.size⟩)
        clear hK K hHeld
        have hHeld := hHeld2
        clear hHeld2
        (try simp only [Act.put, List.setIfInBounds_toArray, List.set_cons_zero, List.set_cons_succ])
        refine wpAnyH_ready (rs := [4]) (by kernel_rfl) (by simp) ?_
        refine AllReadyH.cons (o := { dst := some 43, op := Go.Op.convert 56 9 (Go.Operand.tmp 42), type := 9, pos := _, after := #[{ on := 3, ground := Go.Ground.data }, { on := 1, ground := Go.Ground.guard }], guard := some (1, true) }) rfl (fun K hK => ?_) AllReadyH.nil
        ((have hrun := back_run _ _ _ hBv); (rw [if_pos (by rfl)]); (with_reducible refine wp_conv_run (.tmp 42) 56 9 ?_ ?_ hrun ?_); rfl; rfl; clear hrun; (simp only [Act.put, List.setIfInBounds_toArray, List.set_cons_zero, List.set_cons_succ]))
        refine hK.out _ _ ?hSr2_7_4 (fun hHeld2 => ?_)
        case hSr2_7_4 => (first | exact hHeld | exact ⟨hown, hBel, hBs5⟩ | exact ⟨hHeld.1.later hb, hHeld.2.1.trans (hb.mono hHeld.2.2), Nat.le_trans hHeld.2.2 hb.size⟩ | exact ⟨hHeld.1.keeps hk hFar, hHeld.2.1.trans (hk.below B hHeld.2.2 hfarF), Nat.le_trans hHeld.2.2 hk.size⟩)
        clear hK K hHeld
        have hHeld := hHeld2
        clear hHeld2
        (try simp only [Act.put, List.setIfInBounds_toArray, List.set_cons_zero, List.set_cons_succ])
        refine wpAnyH_take (i := 7) (oi := { dst := some 46, op := Go.Op.binOp Go.BinOp.eql 9 (Go.Operand.tmp 43) (Go.Operand.tmp 45) 9, type := 4, pos := _, after := #[{ on := 4, ground := Go.Ground.data }, { on := 6, ground := Go.Ground.data }, { on := 1, ground := Go.Ground.guard }], guard := some (1, true) }) (v := ?vr2_8_7) rfl (by kernel_rfl) (by kernel_rfl) (by kernel_rfl) (fun _ _ _ h => h) (Or.inl ⟨by rfl, ?yr2_8_7⟩) hHeld ?_
        case yr2_8_7 => ((intro w hSw; (try dsimp only at hSw); go_simp) <;> with_reducible rfl)
        (try simp only [Act.put, List.setIfInBounds_toArray, List.set_cons_zero, List.set_cons_succ])
        refine wpAnyH_take (i := 8) (oi := { dst := some 47, op := Go.Op.pick (Go.Operand.tmp 40) (Go.Operand.tmp 46) (Go.Operand.const (Go.Value.bool false)), type := 4, pos := _, after := #[{ on := 1, ground := Go.Ground.data }, { on := 7, ground := Go.Ground.data }], guard := none }) (v := ?vr2_9_8) rfl (by kernel_rfl) (by kernel_rfl) (by kernel_rfl) (fun _ _ _ h => h) (Or.inl ⟨by rfl, ?yr2_9_8⟩) hHeld ?_
        case yr2_9_8 => ((intro w hSw; (try dsimp only at hSw); go_simp) <;> with_reducible rfl)
        (try simp only [Act.put, List.setIfInBounds_toArray, List.set_cons_zero, List.set_cons_succ])
        refine wpAnyH_take (i := 9) (oi := { dst := some 48, op := Go.Op.move (Go.Operand.tmp 47), type := 4, pos := _, after := #[{ on := 8, ground := Go.Ground.data }, { on := 3, ground := Go.Ground.chain }], guard := none }) (v := ?vr2_10_9) rfl (by kernel_rfl) (by kernel_rfl) (by kernel_rfl) (fun _ _ _ h => h) (Or.inl ⟨by rfl, ?yr2_10_9⟩) hHeld ?_
        case yr2_10_9 => ((intro w hSw; (try dsimp only at hSw); go_simp) <;> with_reducible rfl)
        (try simp only [Act.put, List.setIfInBounds_toArray, List.set_cons_zero, List.set_cons_succ])
        refine wpAnyH_take (i := 10) (oi := { dst := some 49, op := Go.Op.move (Go.Operand.tmp 4), type := 52, pos := _, after := #[{ on := 9, ground := Go.Ground.guard }], guard := some (9, true) }) (v := ?vr2_11_10) rfl (by kernel_rfl) (by kernel_rfl) (by kernel_rfl) (fun _ _ _ h => h) (Or.inl ⟨by rfl, ?yr2_11_10⟩) hHeld ?_
        case yr2_11_10 => ((intro w hSw; (try dsimp only at hSw); go_simp) <;> with_reducible rfl)
        (try simp only [Act.put, List.setIfInBounds_toArray, List.set_cons_zero, List.set_cons_succ])
        refine wpAnyH_ready (rs := [11]) (by kernel_rfl) (by simp) ?_
        refine AllReadyH.cons (o := { dst := some 50, op := Go.Op.call { callee := Go.Callee.value (Go.Operand.func 40), args := #[Go.Operand.tmp 49], argTypes := #[52] }, type := 56, pos := _, after := #[{ on := 10, ground := Go.Ground.data }, { on := 9, ground := Go.Ground.chain }, { on := 9, ground := Go.Ground.guard }], guard := some (9, true) }) rfl (fun K hK => ?_) AllReadyH.nil
        go_simp
        (first | ((clear tok0); (refine (bytes_t B B L F _ hwr hlen).mono ?_); (rintro r wn ⟨vv, rfl, hOv, hb⟩); (replace hwr := hwr.later hb); (have hBv := hOv.bs); (clear hOv)) | ((refine (bytesN_b _).mono ?_); (rintro r wn ⟨rfl, hb⟩); (replace hwr := hwr.later hb)))
        go_wp2_with fail
        refine hK.out _ _ ?hSr2_12_11 (fun hHeld2 => ?_)
        case hSr2_12_11 => (first | exact hHeld | exact ⟨hown, hBel, hBs5⟩ | exact ⟨hHeld.1.later hb, hHeld.2.1.trans (hb.mono hHeld.2.2), Nat.le_trans hHeld.2.2 hb.size⟩ | exact ⟨hHeld.1.keeps hk hFar, hHeld.2.1.trans (hk.below B hHeld.2.2 hfarF), Nat.le_trans hHeld.2.2 hk.size⟩)
        clear hK K hHeld
        have hHeld := hHeld2
        clear hHeld2
        (try simp only [Act.put, List.setIfInBounds_toArray, List.set_cons_zero, List.set_cons_succ])
        refine wpAnyH_take (i := 12) (oi := { dst := some 51, op := Go.Op.call { callee := Go.Callee.builtin Go.Builtin.len, args := #[Go.Operand.tmp 50], argTypes := #[56] }, type := 3, pos := _, after := #[{ on := 11, ground := Go.Ground.data }, { on := 9, ground := Go.Ground.guard }], guard := some (9, true) }) (v := ?vr2_13_12) rfl (by kernel_rfl) (by kernel_rfl) (by kernel_rfl) (fun _ _ _ h => h) (Or.inl ⟨by rfl, ?yr2_13_12⟩) hHeld ?_
        case yr2_13_12 => ((intro w hSw; (try dsimp only at hSw); go_simp) <;> with_reducible rfl)
        (try simp only [Act.put, List.setIfInBounds_toArray, List.set_cons_zero, List.set_cons_succ])
        refine wpAnyH_take (i := 13) (oi := { dst := some 52, op := Go.Op.binOp Go.BinOp.eql 3 (Go.Operand.tmp 51) (Go.Operand.const (Go.Value.int Go.IntKind.i64 0)) 3, type := 4, pos := _, after := #[{ on := 12, ground := Go.Ground.data }, { on := 9, ground := Go.Ground.guard }], guard := some (9, true) }) (v := ?vr2_14_13) rfl (by kernel_rfl) (by kernel_rfl) (by kernel_rfl) (fun _ _ _ h => h) (Or.inl ⟨by rfl, ?yr2_14_13⟩) hHeld ?_
        case yr2_14_13 => ((intro w hSw; (try dsimp only at hSw); go_simp) <;> with_reducible rfl)
        (try simp only [Act.put, List.setIfInBounds_toArray, List.set_cons_zero, List.set_cons_succ])
        refine wpAnyH_take (i := 14) (oi := { dst := some 53, op := Go.Op.pick (Go.Operand.tmp 48) (Go.Operand.tmp 52) (Go.Operand.const (Go.Value.bool false)), type := 4, pos := _, after := #[{ on := 9, ground := Go.Ground.data }, { on := 13, ground := Go.Ground.data }], guard := none }) (v := ?vr2_15_14) rfl (by kernel_rfl) (by kernel_rfl) (by kernel_rfl) (fun _ _ _ h => h) (Or.inl ⟨by rfl, ?yr2_15_14⟩) hHeld ?_
        case yr2_15_14 => ((intro w hSw; (try dsimp only at hSw); go_simp) <;> with_reducible rfl)
        (try simp only [Act.put, List.setIfInBounds_toArray, List.set_cons_zero, List.set_cons_succ])
        refine wpAnyH_take (i := 15) (oi := { dst := some 54, op := Go.Op.move (Go.Operand.tmp 53), type := 4, pos := _, after := #[{ on := 14, ground := Go.Ground.data }, { on := 11, ground := Go.Ground.chain }], guard := none }) (v := ?vr2_16_15) rfl (by kernel_rfl) (by kernel_rfl) (by kernel_rfl) (fun _ _ _ h => h) (Or.inl ⟨by rfl, ?yr2_16_15⟩) hHeld ?_
        case yr2_16_15 => ((intro w hSw; (try dsimp only at hSw); go_simp) <;> with_reducible rfl)
        (try simp only [Act.put, List.setIfInBounds_toArray, List.set_cons_zero, List.set_cons_succ])
        refine wpAnyH_take (i := 16) (oi := { dst := some 55, op := Go.Op.move (Go.Operand.tmp 4), type := 52, pos := _, after := #[{ on := 15, ground := Go.Ground.guard }], guard := some (15, true) }) (v := ?vr2_17_16) rfl (by kernel_rfl) (by kernel_rfl) (by kernel_rfl) (fun _ _ _ h => h) (Or.inl ⟨by rfl, ?yr2_17_16⟩) hHeld ?_
        case yr2_17_16 => ((intro w hSw; (try dsimp only at hSw); go_simp) <;> with_reducible rfl)
        (try simp only [Act.put, List.setIfInBounds_toArray, List.set_cons_zero, List.set_cons_succ])
        refine wpAnyH_ready (rs := [17]) (by kernel_rfl) (by simp) ?_
        refine AllReadyH.cons (o := { dst := some 56, op := Go.Op.call { callee := Go.Callee.value (Go.Operand.func 41), args := #[Go.Operand.tmp 55, Go.Operand.const (Go.Value.int Go.IntKind.u64 1), Go.Operand.const (Go.Value.int Go.IntKind.i64 1)], argTypes := #[52, 22, 3] }, type := 52, pos := _, after := #[{ on := 16, ground := Go.Ground.data }, { on := 15, ground := Go.Ground.chain }, { on := 15, ground := Go.Ground.guard }], guard := some (15, true) }) rfl (fun K hK => ?_) AllReadyH.nil
        go_simp
        (first | ((clear hBv); (refine (numN_t 1 1 ⟨by decide, by decide⟩ _).mono ?_); (rintro r wn ⟨rfl, hb⟩); (replace hwr := hwr.later hb)) | ((refine (num_t B B L 1 1 ⟨by decide, by decide⟩ _ F hwr (by omega) hHeld.2.2).mono ?_); (rintro r wn ⟨rfl, F9, _, _, hk⟩)))
        go_wp2_with fail
        refine hK.out _ _ ?hSr2_18_17 (fun hHeld2 => ?_)
        case hSr2_18_17 => (first | exact hHeld | exact ⟨hown, hBel, hBs5⟩ | exact ⟨hHeld.1.later hb, hHeld.2.1.trans (hb.mono hHeld.2.2), Nat.le_trans hHeld.2.2 hb.size⟩ | exact ⟨hHeld.1.keeps hk hFar, hHeld.2.1.trans (hk.below B hHeld.2.2 hfarF), Nat.le_trans hHeld.2.2 hk.size⟩)
        clear hK K hHeld
        have hHeld := hHeld2
        clear hHeld2
        (try simp only [Act.put, List.setIfInBounds_toArray, List.set_cons_zero, List.set_cons_succ])
        refine wpAnyH_take (i := 18) (oi := { dst := some 57, op := Go.Op.binOp Go.BinOp.eql 52 (Go.Operand.tmp 56) (Go.Operand.const (Go.Value.pointer none)) 52, type := 4, pos := _, after := #[{ on := 17, ground := Go.Ground.data }, { on := 15, ground := Go.Ground.guard }], guard := some (15, true) }) (v := ?vr2_19_18) rfl (by kernel_rfl) (by kernel_rfl) (by kernel_rfl) (fun _ _ _ h => h) (Or.inl ⟨by rfl, ?yr2_19_18⟩) hHeld ?_
        case yr2_19_18 => ((intro w hSw; (try dsimp only at hSw); go_simp) <;> with_reducible rfl)
        (try simp only [Act.put, List.setIfInBounds_toArray, List.set_cons_zero, List.set_cons_succ])
        refine wpAnyH_take (i := 19) (oi := { dst := some 58, op := Go.Op.pick (Go.Operand.tmp 54) (Go.Operand.tmp 57) (Go.Operand.const (Go.Value.bool false)), type := 4, pos := _, after := #[{ on := 15, ground := Go.Ground.data }, { on := 18, ground := Go.Ground.data }], guard := none }) (v := ?vr2_20_19) rfl (by kernel_rfl) (by kernel_rfl) (by kernel_rfl) (fun _ _ _ h => h) (Or.inl ⟨by rfl, ?yr2_20_19⟩) hHeld ?_
        case yr2_20_19 => ((intro w hSw; (try dsimp only at hSw); go_simp) <;> with_reducible rfl)
        (try simp only [Act.put, List.setIfInBounds_toArray, List.set_cons_zero, List.set_cons_succ])
        refine wpAnyH_take (i := 20) (oi := { dst := some 59, op := Go.Op.move (Go.Operand.tmp 58), type := 4, pos := _, after := #[{ on := 19, ground := Go.Ground.data }, { on := 17, ground := Go.Ground.chain }], guard := none }) (v := ?vr2_21_20) rfl (by kernel_rfl) (by kernel_rfl) (by kernel_rfl) (fun _ _ _ h => h) (Or.inl ⟨by rfl, ?yr2_21_20⟩) hHeld ?_
        case yr2_21_20 => ((intro w hSw; (try dsimp only at hSw); go_simp) <;> with_reducible rfl)
        (try simp only [Act.put, List.setIfInBounds_toArray, List.set_cons_zero, List.set_cons_succ])
        refine wpAnyH_take (i := 21) (oi := { dst := some 60, op := Go.Op.move (Go.Operand.tmp 3), type := 52, pos := _, after := #[{ on := 20, ground := Go.Ground.guard }], guard := some (20, true) }) (v := ?vr2_22_21) rfl (by kernel_rfl) (by kernel_rfl) (by kernel_rfl) (fun _ _ _ h => h) (Or.inl ⟨by rfl, ?yr2_22_21⟩) hHeld ?_
        case yr2_22_21 => ((intro w hSw; (try dsimp only at hSw); go_simp) <;> with_reducible rfl)
        (try simp only [Act.put, List.setIfInBounds_toArray, List.set_cons_zero, List.set_cons_succ])
        refine wpAnyH_take (i := 23) (oi := { dst := some 62, op := Go.Op.move (Go.Operand.tmp 3), type := 52, pos := _, after := #[{ on := 20, ground := Go.Ground.guard }], guard := some (20, true) }) (v := ?vr2_23_23) rfl (by kernel_rfl) (by kernel_rfl) (by kernel_rfl) (fun _ _ _ h => h) (Or.inl ⟨by rfl, ?yr2_23_23⟩) hHeld ?_
        case yr2_23_23 => ((intro w hSw; (try dsimp only at hSw); go_simp) <;> with_reducible rfl)
        (try simp only [Act.put, List.setIfInBounds_toArray, List.set_cons_zero, List.set_cons_succ])
        refine wpAnyH_ready (rs := [22]) (by kernel_rfl) (by simp) ?_
        refine AllReadyH.cons (o := { dst := some 61, op := Go.Op.call { callee := Go.Callee.value (Go.Operand.func 41), args := #[Go.Operand.tmp 60, Go.Operand.const (Go.Value.int Go.IntKind.u64 1), Go.Operand.const (Go.Value.int Go.IntKind.i64 1)], argTypes := #[52, 22, 3] }, type := 52, pos := _, after := #[{ on := 21, ground := Go.Ground.data }, { on := 20, ground := Go.Ground.chain }, { on := 20, ground := Go.Ground.guard }], guard := some (20, true) }) rfl (fun K hK => ?_) AllReadyH.nil
        go_simp
        (first | ((clear hBv); (refine (numN_t 1 1 ⟨by decide, by decide⟩ _).mono ?_); (rintro r wn ⟨rfl, hb⟩); (replace hwr := hwr.later hb)) | ((refine (num_t B B L 1 1 ⟨by decide, by decide⟩ _ F hwr (by omega) hHeld.2.2).mono ?_); (rintro r wn ⟨rfl, F9, _, _, hk⟩)))
        go_wp2_with fail
        refine hK.out _ _ ?hSr2_24_22 (fun hHeld2 => ?_)
        case hSr2_24_22 => (first | exact hHeld | exact ⟨hown, hBel, hBs5⟩ | exact ⟨hHeld.1.later hb, hHeld.2.1.trans (hb.mono hHeld.2.2), Nat.le_trans hHeld.2.2 hb.size⟩ | exact ⟨hHeld.1.keeps hk hFar, hHeld.2.1.trans (hk.below B hHeld.2.2 hfarF), Nat.le_trans hHeld.2.2 hk.size⟩)
        clear hK K hHeld
        have hHeld := hHeld2
        clear hHeld2
        (try simp only [Act.put, List.setIfInBounds_toArray, List.set_cons_zero, List.set_cons_succ])
        refine wpAnyH_take (i := 24) (oi := { dst := some 63, op := Go.Op.binOp Go.BinOp.eql 52 (Go.Operand.tmp 61) (Go.Operand.tmp 62) 52, type := 4, pos := _, after := #[{ on := 22, ground := Go.Ground.data }, { on := 23, ground := Go.Ground.data }, { on := 20, ground := Go.Ground.guard }], guard := some (20, true) }) (v := ?vr2_25_24) rfl (by kernel_rfl) (by kernel_rfl) (by kernel_rfl) (fun _ _ _ h => h) (Or.inl ⟨by rfl, ?yr2_25_24⟩) hHeld ?_
        case yr2_25_24 => ((intro w hSw; (have hrun := same_run ⟨B, 0, none⟩ w); clear hSw; go_simp) <;> with_reducible rfl)
        (try simp only [Act.put, List.setIfInBounds_toArray, List.set_cons_zero, List.set_cons_succ])
        refine wpAnyH_take (i := 25) (oi := { dst := some 64, op := Go.Op.pick (Go.Operand.tmp 59) (Go.Operand.tmp 63) (Go.Operand.const (Go.Value.bool false)), type := 4, pos := _, after := #[{ on := 20, ground := Go.Ground.data }, { on := 24, ground := Go.Ground.data }], guard := none }) (v := ?vr2_26_25) rfl (by kernel_rfl) (by kernel_rfl) (by kernel_rfl) (fun _ _ _ h => h) (Or.inl ⟨by rfl, ?yr2_26_25⟩) hHeld ?_
        case yr2_26_25 => ((intro w hSw; (try dsimp only at hSw); go_simp) <;> with_reducible rfl)
        (try simp only [Act.put, List.setIfInBounds_toArray, List.set_cons_zero, List.set_cons_succ])
        refine wpAnyH_take (i := 26) (oi := { dst := some 2, op := Go.Op.assign (Go.Operand.tmp 64), type := 4, pos := _, after := #[{ on := 25, ground := Go.Ground.data }, { on := 22, ground := Go.Ground.chain }, { on := 0, ground := Go.Ground.phase }, { on := 1, ground := Go.Ground.phase }, { on := 2, ground := Go.Ground.phase }, { on := 3, ground := Go.Ground.phase }, { on := 4, ground := Go.Ground.phase }, { on := 5, ground := Go.Ground.phase }, { on := 6, ground := Go.Ground.phase }, { on := 7, ground := Go.Ground.phase }, { on := 8, ground := Go.Ground.phase }, { on := 9, ground := Go.Ground.phase }, { on := 10, ground := Go.Ground.phase }, { on := 11, ground := Go.Ground.phase }, { on := 12, ground := Go.Ground.phase }, { on := 13, ground := Go.Ground.phase }, { on := 14, ground := Go.Ground.phase }, { on := 15, ground := Go.Ground.phase }, { on := 16, ground := Go.Ground.phase }, { on := 17, ground := Go.Ground.phase }, { on := 18, ground := Go.Ground.phase }, { on := 19, ground := Go.Ground.phase }, { on := 20, ground := Go.Ground.phase }, { on := 21, ground := Go.Ground.phase }, { on := 22, ground := Go.Ground.phase }, { on := 23, ground := Go.Ground.phase }, { on := 24, ground := Go.Ground.phase }, { on := 25, ground := Go.Ground.phase }], guard := none }) (v := ?vr2_27_26) rfl (by kernel_rfl) (by kernel_rfl) (by kernel_rfl) (fun _ _ _ h => h) (Or.inl ⟨by rfl, ?yr2_27_26⟩) hHeld ?_
        case yr2_27_26 => ((intro w hSw; (try dsimp only at hSw); go_simp) <;> with_reducible rfl)
        (try simp only [Act.put, List.setIfInBounds_toArray, List.set_cons_zero, List.set_cons_succ])
        refine wpAnyH_done (by kernel_rfl) ?_ _
        go_wp2
        go_ret
        exact ⟨rfl, hHeld.2.1⟩
end Go.Proofs.Ytgioompelogopaa
