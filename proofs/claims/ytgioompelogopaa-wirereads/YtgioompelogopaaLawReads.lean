/- WireReads answers true for all bytes and every slice of parts. No conditions. -/
import Derived.Test.YtgioompelogopaaParts
namespace Go.Proofs.Ytgioompelogopaa
set_option linter.unusedVariables false
set_option linter.unusedSimpArgs false
open Go.RowKit
set_option maxHeartbeats 800000 in
/-- From, with the bytes in memory of their own -/
theorem from2_t (v : Value) (l : List Int) (w : World) (h : BS w v l) (hl : l.length ≤ 2147483647) : Calls Try.prog 42 #[v] w fun r w' => ∃ p v', r = .returned (.pointer (some ⟨p, 0, none⟩)) ∧ w.heap.size ≤ p ∧ Row w' p #[.bool true, v', .int .i64 0] 74 ∧ Own w.heap.size w' v' l ∧ (∀ g, v'.ownBlock = some g → g < p) ∧ Below w.heap.size w w' := by
  have h' := h
  obtain ⟨pp, c, rfl, _, _, _, _, _⟩ := h'
  go_enter Try.func42, Try.ntmps42
  go_wp2_with fail
  refine (clone_t _ l _ h hl).mono ?_
  rintro r w1 ⟨v1, rfl, ho, hb⟩
  have hfr := ho.block
  obtain ⟨p1, c1, rfl⟩ := ho.form
  go_wp2
  go_ret
  have hb2 : Below w1.heap.size w1 (w1.alloc (.cells #[.bool true, .slice p1 l.length c1, .int .i64 0] 74)) := (Below.refl _ _).alloc (Nat.le_refl _) _
  exact ⟨_, _, rfl, hb.size, Row.new w1 _ _, ho.later hb2, fun g e => (hfr g e).2, below_step hb hb2⟩
theorem bits8_byte (o : BinOp) (x y : Int) : Byte (bits o .u8 x y) := by
  unfold bits Byte
  rw [wrap8]
  omega
/-- a byte of an own row, set -/
theorem Own.setb {base : Nat} {w : World} {g c : Nat} {l : List Int} (h : Own base w (.slice (some ⟨g, 0, none⟩) l.length c) l) (k : Nat) (hk : k < l.length) (z : Int) (hz : Byte z) : Own base (w.setCell ⟨g, k, none⟩ (.int .u8 z)) (.slice (some ⟨g, 0, none⟩) (l.set k z).length c) (l.set k z) := by
  obtain ⟨⟨hl, h⟩, hr⟩ := h
  rcases h with ⟨h, _⟩ | ⟨g', cap, cur, hv, hbs, hg, h1, h2, h3, h4⟩
  · cases h
  · cases hv
    have hrow : Row w g cur 5 := hg
    refine ⟨⟨by simp [bys], .inr ⟨g, c, cur.setIfInBounds k (.int .u8 z), rfl, hbs, hrow.set k _, by simpa using h1, h2, by simpa using h3, ?_⟩⟩, fun x hx => ?_⟩
    · simp only [List.length_set, Nat.mul_one, Array.toList_setIfInBounds] at h4 ⊢
      rw [List.take_set, h4]
      simp [bys, List.map_set]
    · rcases List.mem_or_eq_of_mem_set hx with h | h
      · exact hr x h
      · rw [h]; exact hz
theorem Own.cellb {base : Nat} {w : World} {v : Value} {l : List Int} (h : Own base w v l) (k : Nat) (hk : k < l.length) : ∃ g c, v = .slice (some ⟨g, 0, none⟩) l.length c ∧ l.length ≤ c ∧ w.cell? ⟨g, k, none⟩ = some (.int .u8 l[k]) ∧ w.frozen? ⟨g, k, none⟩ = false := by
  have hb := h.bs
  obtain ⟨⟨hl, h⟩, hr⟩ := h
  rcases h with ⟨rfl, h0⟩ | ⟨g', cap, cur, rfl, hbs, hg, h1, h2, h3, h4⟩
  · omega
  · obtain ⟨p, c, hv, _, _, h5, _, _⟩ := hb
    cases hv
    obtain ⟨g, o, he, h6⟩ := h5 (by omega)
    cases he
    have := h6 k l[k] (List.getElem?_eq_getElem hk)
    rw [Nat.zero_add] at this
    exact ⟨g', cap, rfl, h1, this, Row.frozen (t := 5) hg k⟩
/-- an empty slice, made -/
theorem empty_own (w : World) (B : Nat) (hB : B ≤ w.heap.size) : Own B (w.alloc (.cells #[] 5)) (.slice (some ⟨w.heap.size, 0, none⟩) 0 0) [] :=
  ⟨⟨rfl, .inr ⟨w.heap.size, 0, #[], rfl, hB, Row.new w #[] 5, Nat.le_refl _, by decide, rfl, rfl⟩⟩, fun _ h => by cases h⟩
theorem cat_nil : ((⟨#[]⟩ : ByteArray) ++ (⟨#[]⟩ : ByteArray)).toList = [] := by
  rw [show ((⟨#[]⟩ : ByteArray) ++ (⟨#[]⟩ : ByteArray)) = ⟨#[]⟩ from rfl]
  first | decide | (simp; done) | (unfold ByteArray.toList ByteArray.toList.loop; rfl) | (unfold ByteArray.toList ByteArray.toList.loop; simp; done) | (simp [ByteArray.toList, ByteArray.toList.loop]; done)
theorem keeps_nil {w w' : World} (h : Keeps (atP (.pointer none)) w w') : Below w.heap.size w w' := h.below _ (Nat.le_refl _) (fun k hk => by cases hk)
def endV (l : List Int) (e : Int) : Int := if e = 0 then (if l.length = 0 then 0 else 2) else e
def leftV (l : List Int) (e : Int) : Int := if e = 0 then (l.length : Int) else 0
theorem end_v {d : Bool} (x : Value) (l : List Int) (e : Int) (w : World) (h : St d w x l e) :
    Calls Try.prog 45 #[x] w fun r w' => r = .returned (.int .i64 (endV l e)) ∧ w = w' := end_a x l e w h
theorem left_v {d : Bool} (x : Value) (l : List Int) (e : Int) (w : World) (h : St d w x l e) :
    Calls Try.prog 47 #[x] w fun r w' => r = .returned (.int .i64 (leftV l e)) ∧ w = w' := left_a x l e w h
theorem xend_v (q : Nat) (l : List Int) (e : Int) (w : World) (h : Rx w q l e) : Calls Try.prog 46 #[.pointer (some ⟨q, 0, none⟩)] w fun r w' => r = .returned (.int .i64 (endV l e)) ∧ Below w.heap.size w w' := xend_t q l e w h
theorem xleft_v (q : Nat) (l : List Int) (e : Int) (w : World) (h : Rx w q l e) : Calls Try.prog 48 #[.pointer (some ⟨q, 0, none⟩)] w fun r w' => r = .returned (.int .i64 (leftV l e)) ∧ Below w.heap.size w w' := xleft_t q l e w h
set_option maxRecDepth 100000 in
set_option maxHeartbeats 3200000 in
theorem wireReads_any (bv lv : Value) (bl : List Int) (w : World) (hbs : BS w bv bl) (hps : PS w lv) :
    Calls Try.prog 10 #[bv, lv] w fun e w' => e = .returned (.bool true) ∧ Below w.heap.size w w' := by
  obtain ⟨lp, n, c, rfl, hn, hc, hparts⟩ := hps
  have HP := Lib.hid hparts
  clear hparts
  have hblt := hbs.lt
  have hbs' := Lib.hid hbs
  obtain ⟨bp, bc, rfl, hb1, hb2, _, _, _⟩ := hbs
  by_cases h500 : 500 < bl.length
  · go_enter Try.func10, Try.ntmps10
    go_wp2_with fail
    refine (alive2_t _).mono ?_
    rintro r w1 ⟨rfl, hb⟩
    go_wp2
    go_ret
    exact ⟨rfl, hb⟩
  generalize hB : w.heap.size = B at *
  have he0 := empty_own w B (by omega)
  rw [hB] at he0
  have hbe : Below B w (w.alloc (.cells #[] 5)) := (Below.refl _ _).alloc (by omega) _
  have hse : B < (w.alloc (.cells #[] 5)).heap.size := by simp; omega
  have hbse := hbs'.out.later (hB.symm ▸ hbe)
  obtain ⟨v1, w1, hrun, hown1, hgrow, hat⟩ := append_run 56 he0 hbse (by simp; omega) (by omega)
  rw [List.nil_append] at hown1
  have hB1 : Below B w w1 := hbe.trans (Keeps.below (F := fun k => k = B) (Keeps.of_grown ⟨hgrow.os, hgrow.tape, hgrow.output, hgrow.size, hgrow.block⟩ (fun k hk => by have := Option.some.inj hk; exact this.symm)) B (by omega) (fun k hk => by omega))
  have hs1 : B < w1.heap.size := Nat.lt_of_lt_of_le hse hgrow.size
  clear hgrow hat he0 hbe hse hbse
  have HO1 := Lib.hid hown1
  clear hown1
  have tok : True := trivial
  go_enter Try.func10, Try.ntmps10
  go_wp2_with (have _t := tok; refine wpList_append_run rfl (.tmp 16) (.tmp 17) 56 rfl rfl rfl hrun ?_; clear tok hrun)
  refine (from2_t _ bl w1 HO1.out.bs (by omega)).mono ?_
  rintro r w2 ⟨p, v2, rfl, hp, hRp, hO2, hv2, hb2⟩
  have hob1 := HO1.out.block
  have HO2 := HO1.out.later hb2
  obtain ⟨p1, c1, rfl⟩ := HO1.out.form
  have hB2 := hB1.trans (hb2.mono (Nat.le_of_lt hs1))
  have hs2 := Nat.lt_of_lt_of_le hs1 hb2.size
  have hpl := hRp.lt
  clear HO1 hb2 hB1
  go_wp2_with fail
  have hb3 : Below w2.heap.size w2 (w2.alloc (.cells #[.slice bp bl.length bc, .int .i64 0, .int .i64 0] 69)) := (Below.refl _ _).alloc (Nat.le_refl _) _
  have RQ := Row.new w2 #[.slice bp bl.length bc, .int .i64 0, .int .i64 0] 69
  replace hRp := hRp.later hb3
  replace hO2 := hO2.later hb3
  replace HO2 := HO2.later hb3
  have hB3 := hB2.trans (hb3.mono (Nat.le_of_lt hs2))
  have hs3 := Nat.lt_of_lt_of_le hs2 hb3.size
  have hbs3 := hbs'.out.later (hB.symm ▸ hB3)
  have hql := RQ.lt
  clear hb3 hB2
  generalize w2.alloc (.cells #[.slice bp bl.length bc, .int .i64 0, .int .i64 0] 69) = w3 at *
  generalize hq : w2.heap.size = q at *
  have H1 := Lib.hid hRp
  have H2 := Lib.hid hO2
  have H4 := Lib.hid RQ
  have H5 := Lib.hid hbs3
  have H6 := Lib.hid hB3
  clear hRp hO2 RQ hbs3 hB3
  go_loopw [8] (fun i wr => ∃ (k : Nat) (l' : List Int), k ≤ bl.length ∧ i = .int .i64 k ∧ l'.length = bl.length ∧ Own B wr (.slice p1 bl.length c1) l' ∧ Keeps (fun x => (Value.slice p1 bl.length c1).ownBlock = some x) w3 wr) (fun i _ => bl.length - (intOf i).toNat)
  case atStart => exact ⟨0, bl, by omega, rfl, rfl, HO2, Keeps.refl _ _⟩
  case round =>
    clear HO2
    obtain ⟨k, l', hkl, rfl, hll, hown, hkp⟩ := hrel
    by_cases hlt : k < bl.length
    · obtain ⟨g, cc, hv, hcc, cb, fb⟩ := hown.cellb k (by omega)
      have hby := bits8_byte .xor (l'[k]'(by omega)) 255
      have hset := Lib.hid (Own.setb (base := B) (w := wr) (g := g) (c := cc) (l := l') (by rw [← hv]; exact hown) k (by omega) _ hby)
      obtain ⟨e1, e2⟩ : p1 = some ⟨g, 0, none⟩ ∧ c1 = cc := by injection hv with a b c; exact ⟨a, c⟩
      subst e1 e2
      clear hv
      generalize l'[k]'(by omega) = y at *
      have hky := Lib.hid hkp
      clear hkp hown
      go_wp2
      refine ⟨⟨k + 1, l'.set k (bits .xor .u8 y 255), by omega, by go_num, by rw [List.length_set]; exact hll, ?_, hky.out.setCell (a := ⟨g, k, none⟩) rfl _⟩, by simp [intOf]; omega⟩
      have := hset.out
      rw [List.length_set, hll] at this
      exact this
    · have hk : k = bl.length := by omega
      subst hk
      have hk1 := hkp
      have R1 := hk1.row H1.out (fun e => by have := hob1 _ e; omega)
      have O1 := H2.out.keeps hk1 (fun g hg e => by have h3 := H2.out.block _ hg; have := hob1 _ e; omega)
      have RQ := hk1.row H4.out (fun e => by have := hob1 _ e; omega)
      have BQ := bs1 hk1 H5.out (fun h0 g hg e => by have h3 := hblt h0 g hg; have := (hob1 g e).1; omega)
      have hBo : Both wr p q bl 0 := ⟨⟨v2, R1, O1.bs, hv2⟩, ⟨_, bl, 0, RQ, BQ, by omega, rfl⟩⟩
      have hBelr := H6.out.trans (hk1.below B (Nat.le_of_lt hs3) (fun k e => (hob1 k e).1))
      have hsr := Nat.le_trans (Nat.le_of_lt hs3) hk1.size
      have hpq : p ≠ q := by omega
      have hBp : B ≤ p := by omega
      have hBq : B ≤ q := by omega
      have HBo := Lib.hid hBo
      have HBelr := Lib.hid hBelr
      have q0 : decide ((bl.length : Int) < (bl.length : Int)) = false := by simp
      clear H1 H2 H4 H5 H6 hown hkp hk1 R1 O1 RQ BQ hBo hBelr hob1
      go_wp2_with fail
      go_loopw [9] (fun i ws => ∃ (j : Nat) (l : List Int) (e : Int), j ≤ n ∧ j ≤ 30 ∧ i = .int .i64 j ∧ Both ws p q l e ∧ l.length ≤ 2147483647 ∧ Below B w ws ∧ B ≤ ws.heap.size) (fun i _ => 30 - (intOf i).toNat)
      case atStart => exact ⟨0, bl, 0, by omega, by omega, rfl, HBo.out, by omega, HBelr.out, hsr⟩
      case round =>
        clear HBo HBelr hsr
        obtain ⟨j, l, e, hjn, hj30, rfl, hBo, hll2, hBel, hBs⟩ := hrel
        by_cases hlt : j < n ∧ j < 30
        · obtain ⟨hj1, hj2⟩ := hlt
          obtain ⟨g, o, rfl, hall⟩ := HP.out (by omega)
          obtain ⟨k, i, m, ah, al, s, b, bl2, P⟩ := hall j hj1
          have Q := P.later (hB.symm ▸ hBel)
          have q2 : decide ((j : Int) < 30) = true := by simp; omega
          have c0 := Q.c0
          have c1 := Q.c1
          have c2 := Q.c2
          have c3 := Q.c3
          have c4 := Q.c4
          have c5 := Q.c5
          have c6 := Q.c6
          have HW := Lib.hid hBo
          have HQ := Lib.hid Q
          have HBel := Lib.hid hBel
          have HP0 := Lib.hid P
          clear hBo Q hBel hall P
          go_wp2_with fail
          refine (great_t k i m ah al s b bl2 wr HQ.out.hb).mono ?_
          rintro r w4 ⟨rfl, hb4⟩
          have hBo4 := HW.out.later hb4
          have hBel4 := HBel.out.trans (hb4.mono hBs)
          have hBs4 := Nat.le_trans hBs hb4.size
          clear HW HQ HBel hb4 c0 c1 c2 c3 c4 c5 c6
          cases hgr : greatB s.size bl2.length i
          · have HBo4 := Lib.hid hBo4
            have HBel4 := Lib.hid hBel4
            clear hBo4 hBel4
            go_wp2_with fail
            have hbo := HBo4.out.later (Below.refl w4.heap.size w4).drew
            have hS0 := And.intro HBel4.out.drew (show B ≤ w4.drew.heap.size from hBs4)
            clear HBo4 HBel4
            refine wp_region_held_drew (S := (fun w' => Below B w w' ∧ B ≤ w'.heap.size)) (by kernel_rfl) ?hSr1_ (fun hHeld => ?_)
            case hSr1_ => (first | exact hS0 | exact hHeld | exact ⟨hHeld.1.trans (hb.mono hHeld.2), Nat.le_trans hHeld.2 hb.size⟩ | exact ⟨hHeld.1.trans (hk.below B hHeld.2 (fun x hx => by rcases hx with rfl | rfl <;> assumption)), Nat.le_trans hHeld.2 hk.size⟩)
            refine wpAnyH_take (i := 0) (oi := { dst := some 54, op := Go.Op.move (Go.Operand.tmp 6), type := 64, pos := _, after := #[], guard := none }) (v := ?vr1_1_0) rfl (by kernel_rfl) (by kernel_rfl) (by kernel_rfl) (fun _ _ _ h => h) (Or.inl ⟨by rfl, ?yr1_1_0⟩) hHeld ?_
            case yr1_1_0 => ((intro w hSw; (try dsimp only at hSw); go_simp) <;> with_reducible rfl)
            (try simp only [Act.put, List.setIfInBounds_toArray, List.set_cons_zero, List.set_cons_succ])
            refine wpAnyH_take (i := 1) (oi := { dst := some 55, op := Go.Op.move (Go.Operand.tmp 7), type := 66, pos := _, after := #[], guard := none }) (v := ?vr1_2_1) rfl (by kernel_rfl) (by kernel_rfl) (by kernel_rfl) (fun _ _ _ h => h) (Or.inl ⟨by rfl, ?yr1_2_1⟩) hHeld ?_
            case yr1_2_1 => ((intro w hSw; (try dsimp only at hSw); go_simp) <;> with_reducible rfl)
            (try simp only [Act.put, List.setIfInBounds_toArray, List.set_cons_zero, List.set_cons_succ])
            refine wpAnyH_take (i := 2) (oi := { dst := some 56, op := Go.Op.move (Go.Operand.tmp 1), type := 51, pos := _, after := #[], guard := none }) (v := ?vr1_3_2) rfl (by kernel_rfl) (by kernel_rfl) (by kernel_rfl) (fun _ _ _ h => h) (Or.inl ⟨by rfl, ?yr1_3_2⟩) hHeld ?_
            case yr1_3_2 => ((intro w hSw; (try dsimp only at hSw); go_simp) <;> with_reducible rfl)
            (try simp only [Act.put, List.setIfInBounds_toArray, List.set_cons_zero, List.set_cons_succ])
            refine wpAnyH_take (i := 3) (oi := { dst := some 57, op := Go.Op.move (Go.Operand.tmp 9), type := 3, pos := _, after := #[], guard := none }) (v := ?vr1_4_3) rfl (by kernel_rfl) (by kernel_rfl) (by kernel_rfl) (fun _ _ _ h => h) (Or.inl ⟨by rfl, ?yr1_4_3⟩) hHeld ?_
            case yr1_4_3 => ((intro w hSw; (try dsimp only at hSw); go_simp) <;> with_reducible rfl)
            (try simp only [Act.put, List.setIfInBounds_toArray, List.set_cons_zero, List.set_cons_succ])
            refine wpAnyH_take (i := 4) (oi := { dst := some 58, op := Go.Op.indexAddr 51 (Go.Operand.tmp 56) (Go.Operand.tmp 57), type := 0, pos := _, after := #[{ on := 2, ground := Go.Ground.data }, { on := 3, ground := Go.Ground.data }], guard := none }) (v := ?vr1_5_4) rfl (by kernel_rfl) (by kernel_rfl) (by kernel_rfl) (fun _ _ _ h => h) (Or.inl ⟨by rfl, ?yr1_5_4⟩) hHeld ?_
            case yr1_5_4 => ((intro w hSw; (try dsimp only at hSw); go_simp) <;> with_reducible rfl)
            (try simp only [Act.put, List.setIfInBounds_toArray, List.set_cons_zero, List.set_cons_succ])
            refine wpAnyH_take (i := 5) (oi := { dst := some 59, op := Go.Op.load 59 (Go.Operand.tmp 58), type := 59, pos := _, after := #[{ on := 4, ground := Go.Ground.data }], guard := none }) (v := ?vr1_6_5) rfl (by kernel_rfl) (by kernel_rfl) (by kernel_rfl) (fun _ _ _ h => h) (Or.inl ⟨by rfl, ?yr1_6_5⟩) hHeld ?_
            case yr1_6_5 => ((intro w' hSw; (try dsimp only at hSw); (have Q := HP0.out.later (hB.symm ▸ hSw.1)); (have c0 := Q.c0); (have c1 := Q.c1); (have c2 := Q.c2); (have c3 := Q.c3); (have c4 := Q.c4); (have c5 := Q.c5); (have c6 := Q.c6); clear Q hSw; go_simp) <;> with_reducible rfl)
            (try simp only [Act.put, List.setIfInBounds_toArray, List.set_cons_zero, List.set_cons_succ])
            refine wpAnyH_ready (rs := [6]) (by kernel_rfl) (by simp) ?_
            refine AllReadyH.cons (o := { dst := some 60, op := Go.Op.call { callee := Go.Callee.value (Go.Operand.func 43), args := #[Go.Operand.tmp 54, Go.Operand.tmp 55, Go.Operand.tmp 59], argTypes := #[64, 66, 59] }, type := 4, pos := _, after := #[{ on := 0, ground := Go.Ground.data }, { on := 1, ground := Go.Ground.data }, { on := 5, ground := Go.Ground.data }], guard := none }) rfl (fun K hK => ?_) AllReadyH.nil
            go_simp
            ((refine (read_t p q l e k i m ah al s b _ hbo hpq hll2).mono ?_); (rintro r wn ⟨rfl, ⟨l1, e1, hbo1, hll1⟩, hk⟩); (clear hbo); (obtain ⟨v9, B9, a9, R9, h9⟩ := id hbo1.2); (have x2 := (R9.cell 2).trans (show _ = some (Value.int .i64 e1) from rfl)); (clear R9 h9))
            go_wp2_with fail
            refine hK.out _ _ ?hSr1_7_6 (fun hHeld2 => ?_)
            case hSr1_7_6 => (first | exact hS0 | exact hHeld | exact ⟨hHeld.1.trans (hb.mono hHeld.2), Nat.le_trans hHeld.2 hb.size⟩ | exact ⟨hHeld.1.trans (hk.below B hHeld.2 (fun x hx => by rcases hx with rfl | rfl <;> assumption)), Nat.le_trans hHeld.2 hk.size⟩)
            clear hK K hHeld
            have hHeld := hHeld2
            clear hHeld2
            (try simp only [Act.put, List.setIfInBounds_toArray, List.set_cons_zero, List.set_cons_succ])
            refine wpAnyH_take (i := 7) (oi := { dst := some 61, op := Go.Op.unOp Go.UnOp.not 4 (Go.Operand.tmp 60), type := 4, pos := _, after := #[{ on := 6, ground := Go.Ground.data }], guard := none }) (v := ?vr1_8_7) rfl (by kernel_rfl) (by kernel_rfl) (by kernel_rfl) (fun _ _ _ h => h) (Or.inl ⟨by rfl, ?yr1_8_7⟩) hHeld ?_
            case yr1_8_7 => ((intro w hSw; (try dsimp only at hSw); go_simp) <;> with_reducible rfl)
            (try simp only [Act.put, List.setIfInBounds_toArray, List.set_cons_zero, List.set_cons_succ])
            refine wpAnyH_take (i := 8) (oi := { dst := some 62, op := Go.Op.move (Go.Operand.tmp 61), type := 4, pos := _, after := #[{ on := 7, ground := Go.Ground.data }, { on := 6, ground := Go.Ground.chain }], guard := none }) (v := ?vr1_9_8) rfl (by kernel_rfl) (by kernel_rfl) (by kernel_rfl) (fun _ _ _ h => h) (Or.inl ⟨by rfl, ?yr1_9_8⟩) hHeld ?_
            case yr1_9_8 => ((intro w hSw; (try dsimp only at hSw); go_simp) <;> with_reducible rfl)
            (try simp only [Act.put, List.setIfInBounds_toArray, List.set_cons_zero, List.set_cons_succ])
            refine wpAnyH_take (i := 9) (oi := { dst := some 63, op := Go.Op.move (Go.Operand.tmp 6), type := 64, pos := _, after := #[{ on := 8, ground := Go.Ground.guard }], guard := some (8, false) }) (v := ?vr1_10_9) rfl (by kernel_rfl) (by kernel_rfl) (by kernel_rfl) (fun _ _ _ h => h) (Or.inl ⟨by rfl, ?yr1_10_9⟩) hHeld ?_
            case yr1_10_9 => ((intro w hSw; (try dsimp only at hSw); go_simp) <;> with_reducible rfl)
            (try simp only [Act.put, List.setIfInBounds_toArray, List.set_cons_zero, List.set_cons_succ])
            refine wpAnyH_take (i := 11) (oi := { dst := some 65, op := Go.Op.move (Go.Operand.tmp 7), type := 66, pos := _, after := #[{ on := 8, ground := Go.Ground.guard }], guard := some (8, false) }) (v := ?vr1_11_11) rfl (by kernel_rfl) (by kernel_rfl) (by kernel_rfl) (fun _ _ _ h => h) (Or.inl ⟨by rfl, ?yr1_11_11⟩) hHeld ?_
            case yr1_11_11 => ((intro w hSw; (try dsimp only at hSw); go_simp) <;> with_reducible rfl)
            (try simp only [Act.put, List.setIfInBounds_toArray, List.set_cons_zero, List.set_cons_succ])
            refine wpAnyH_take (i := 12) (oi := { dst := some 66, op := Go.Op.nilCheck (Go.Operand.tmp 65), type := 0, pos := _, after := #[{ on := 11, ground := Go.Ground.data }, { on := 8, ground := Go.Ground.guard }], guard := some (8, false) }) (v := ?vr1_12_12) rfl (by kernel_rfl) (by kernel_rfl) (by kernel_rfl) (fun _ _ _ h => h) (Or.inl ⟨by rfl, ?yr1_12_12⟩) hHeld ?_
            case yr1_12_12 => ((intro w hSw; (try dsimp only at hSw); go_simp) <;> with_reducible rfl)
            (try simp only [Act.put, List.setIfInBounds_toArray, List.set_cons_zero, List.set_cons_succ])
            refine wpAnyH_take (i := 13) (oi := { dst := some 67, op := Go.Op.fieldAddr 69 (Go.Operand.tmp 66) 2, type := 0, pos := _, after := #[{ on := 12, ground := Go.Ground.data }, { on := 8, ground := Go.Ground.guard }], guard := some (8, false) }) (v := ?vr1_13_13) rfl (by kernel_rfl) (by kernel_rfl) (by kernel_rfl) (fun _ _ _ h => h) (Or.inl ⟨by rfl, ?yr1_13_13⟩) hHeld ?_
            case yr1_13_13 => ((intro w hSw; (try dsimp only at hSw); go_simp) <;> with_reducible rfl)
            (try simp only [Act.put, List.setIfInBounds_toArray, List.set_cons_zero, List.set_cons_succ])
            refine wpAnyH_ready (rs := [10, 14]) (by kernel_rfl) (by simp) ?_
            refine AllReadyH.cons (o := { dst := some 64, op := Go.Op.call { callee := Go.Callee.value (Go.Operand.func 44), args := #[Go.Operand.tmp 63], argTypes := #[64] }, type := 67, pos := _, after := #[{ on := 9, ground := Go.Ground.data }, { on := 8, ground := Go.Ground.chain }, { on := 8, ground := Go.Ground.guard }], guard := some (8, false) }) rfl (fun K hK => ?_) ?_
            · go_simp
              ((refine (err_a _ l1 e1 _ hbo1.1.st).mono ?_); (rintro r wn ⟨rfl, rfl⟩))
              go_wp2_with fail
              refine hK.out _ _ ?hSr1_14_10 (fun hHeld2 => ?_)
              case hSr1_14_10 => (first | exact hS0 | exact hHeld | exact ⟨hHeld.1.trans (hb.mono hHeld.2), Nat.le_trans hHeld.2 hb.size⟩ | exact ⟨hHeld.1.trans (hk.below B hHeld.2 (fun x hx => by rcases hx with rfl | rfl <;> assumption)), Nat.le_trans hHeld.2 hk.size⟩)
              clear hK K hHeld
              have hHeld := hHeld2
              clear hHeld2
              (try simp only [Act.put, List.setIfInBounds_toArray, List.set_cons_zero, List.set_cons_succ])
              refine wpAnyH_ready (rs := [14]) (by kernel_rfl) (by simp) ?_
              refine AllReadyH.cons (o := { dst := some 68, op := Go.Op.load 67 (Go.Operand.tmp 67), type := 67, pos := _, after := #[{ on := 13, ground := Go.Ground.data }, { on := 8, ground := Go.Ground.guard }], guard := some (8, false) }) rfl (fun K hK => ?_) AllReadyH.nil
              go_simp
              refine hK.out _ _ ?hSr1_15_14 (fun hHeld2 => ?_)
              case hSr1_15_14 => (first | exact hS0 | exact hHeld | exact ⟨hHeld.1.trans (hb.mono hHeld.2), Nat.le_trans hHeld.2 hb.size⟩ | exact ⟨hHeld.1.trans (hk.below B hHeld.2 (fun x hx => by rcases hx with rfl | rfl <;> assumption)), Nat.le_trans hHeld.2 hk.size⟩)
              clear hK K hHeld
              have hHeld := hHeld2
              clear hHeld2
              (try simp only [Act.put, List.setIfInBounds_toArray, List.set_cons_zero, List.set_cons_succ])
              refine wpAnyH_take (i := 15) (oi := { dst := some 69, op := Go.Op.binOp Go.BinOp.neq 67 (Go.Operand.tmp 64) (Go.Operand.tmp 68) 67, type := 4, pos := _, after := #[{ on := 10, ground := Go.Ground.data }, { on := 14, ground := Go.Ground.data }, { on := 8, ground := Go.Ground.guard }], guard := some (8, false) }) (v := ?vr1_16_15) rfl (by kernel_rfl) (by kernel_rfl) (by kernel_rfl) (fun _ _ _ h => h) (Or.inl ⟨by rfl, ?yr1_16_15⟩) hHeld ?_
              case yr1_16_15 => ((intro w hSw; (try dsimp only at hSw); go_simp) <;> with_reducible rfl)
              (try simp only [Act.put, List.setIfInBounds_toArray, List.set_cons_zero, List.set_cons_succ])
              refine wpAnyH_take (i := 16) (oi := { dst := some 70, op := Go.Op.pick (Go.Operand.tmp 62) (Go.Operand.const (Go.Value.bool true)) (Go.Operand.tmp 69), type := 4, pos := _, after := #[{ on := 8, ground := Go.Ground.data }, { on := 15, ground := Go.Ground.data }], guard := none }) (v := ?vr1_17_16) rfl (by kernel_rfl) (by kernel_rfl) (by kernel_rfl) (fun _ _ _ h => h) (Or.inl ⟨by rfl, ?yr1_17_16⟩) hHeld ?_
              case yr1_17_16 => ((intro w hSw; (try dsimp only at hSw); go_simp) <;> with_reducible rfl)
              (try simp only [Act.put, List.setIfInBounds_toArray, List.set_cons_zero, List.set_cons_succ])
              refine wpAnyH_take (i := 17) (oi := { dst := some 71, op := Go.Op.move (Go.Operand.tmp 70), type := 4, pos := _, after := #[{ on := 16, ground := Go.Ground.data }, { on := 10, ground := Go.Ground.chain }], guard := none }) (v := ?vr1_18_17) rfl (by kernel_rfl) (by kernel_rfl) (by kernel_rfl) (fun _ _ _ h => h) (Or.inl ⟨by rfl, ?yr1_18_17⟩) hHeld ?_
              case yr1_18_17 => ((intro w hSw; (try dsimp only at hSw); go_simp) <;> with_reducible rfl)
              (try simp only [Act.put, List.setIfInBounds_toArray, List.set_cons_zero, List.set_cons_succ])
              refine wpAnyH_take (i := 18) (oi := { dst := some 72, op := Go.Op.move (Go.Operand.tmp 6), type := 64, pos := _, after := #[{ on := 17, ground := Go.Ground.guard }], guard := some (17, false) }) (v := ?vr1_19_18) rfl (by kernel_rfl) (by kernel_rfl) (by kernel_rfl) (fun _ _ _ h => h) (Or.inl ⟨by rfl, ?yr1_19_18⟩) hHeld ?_
              case yr1_19_18 => ((intro w hSw; (try dsimp only at hSw); go_simp) <;> with_reducible rfl)
              (try simp only [Act.put, List.setIfInBounds_toArray, List.set_cons_zero, List.set_cons_succ])
              refine wpAnyH_take (i := 20) (oi := { dst := some 74, op := Go.Op.move (Go.Operand.tmp 7), type := 66, pos := _, after := #[{ on := 17, ground := Go.Ground.guard }], guard := some (17, false) }) (v := ?vr1_20_20) rfl (by kernel_rfl) (by kernel_rfl) (by kernel_rfl) (fun _ _ _ h => h) (Or.inl ⟨by rfl, ?yr1_20_20⟩) hHeld ?_
              case yr1_20_20 => ((intro w hSw; (try dsimp only at hSw); go_simp) <;> with_reducible rfl)
              (try simp only [Act.put, List.setIfInBounds_toArray, List.set_cons_zero, List.set_cons_succ])
              refine wpAnyH_ready (rs := [19]) (by kernel_rfl) (by simp) ?_
              refine AllReadyH.cons (o := { dst := some 73, op := Go.Op.call { callee := Go.Callee.value (Go.Operand.func 45), args := #[Go.Operand.tmp 72], argTypes := #[64] }, type := 67, pos := _, after := #[{ on := 18, ground := Go.Ground.data }, { on := 17, ground := Go.Ground.chain }, { on := 17, ground := Go.Ground.guard }], guard := some (17, false) }) rfl (fun K hK => ?_) AllReadyH.nil
              go_simp
              ((refine (end_v _ l1 e1 _ hbo1.1.st).mono ?_); (rintro r wn ⟨rfl, rfl⟩))
              go_wp2_with fail
              refine hK.out _ _ ?hSr1_21_19 (fun hHeld2 => ?_)
              case hSr1_21_19 => (first | exact hS0 | exact hHeld | exact ⟨hHeld.1.trans (hb.mono hHeld.2), Nat.le_trans hHeld.2 hb.size⟩ | exact ⟨hHeld.1.trans (hk.below B hHeld.2 (fun x hx => by rcases hx with rfl | rfl <;> assumption)), Nat.le_trans hHeld.2 hk.size⟩)
              clear hK K hHeld
              have hHeld := hHeld2
              clear hHeld2
              (try simp only [Act.put, List.setIfInBounds_toArray, List.set_cons_zero, List.set_cons_succ])
              refine wpAnyH_ready (rs := [21]) (by kernel_rfl) (by simp) ?_
              refine AllReadyH.cons (o := { dst := some 75, op := Go.Op.call { callee := Go.Callee.value (Go.Operand.func 46), args := #[Go.Operand.tmp 74], argTypes := #[66] }, type := 67, pos := _, after := #[{ on := 20, ground := Go.Ground.data }, { on := 19, ground := Go.Ground.chain }, { on := 17, ground := Go.Ground.guard }], guard := some (17, false) }) rfl (fun K hK => ?_) AllReadyH.nil
              go_simp
              ((refine (xend_v q l1 e1 _ hbo1.2).mono ?_); (rintro r wn ⟨rfl, hb⟩); (replace hbo1 := hbo1.later hb))
              go_wp2_with fail
              refine hK.out _ _ ?hSr1_22_21 (fun hHeld2 => ?_)
              case hSr1_22_21 => (first | exact hS0 | exact hHeld | exact ⟨hHeld.1.trans (hb.mono hHeld.2), Nat.le_trans hHeld.2 hb.size⟩ | exact ⟨hHeld.1.trans (hk.below B hHeld.2 (fun x hx => by rcases hx with rfl | rfl <;> assumption)), Nat.le_trans hHeld.2 hk.size⟩)
              clear hK K hHeld
              have hHeld := hHeld2
              clear hHeld2
              (try simp only [Act.put, List.setIfInBounds_toArray, List.set_cons_zero, List.set_cons_succ])
              refine wpAnyH_take (i := 22) (oi := { dst := some 76, op := Go.Op.binOp Go.BinOp.neq 67 (Go.Operand.tmp 73) (Go.Operand.tmp 75) 67, type := 4, pos := _, after := #[{ on := 19, ground := Go.Ground.data }, { on := 21, ground := Go.Ground.data }, { on := 17, ground := Go.Ground.guard }], guard := some (17, false) }) (v := ?vr1_23_22) rfl (by kernel_rfl) (by kernel_rfl) (by kernel_rfl) (fun _ _ _ h => h) (Or.inl ⟨by rfl, ?yr1_23_22⟩) hHeld ?_
              case yr1_23_22 => ((intro w hSw; (try dsimp only at hSw); go_simp) <;> with_reducible rfl)
              (try simp only [Act.put, List.setIfInBounds_toArray, List.set_cons_zero, List.set_cons_succ])
              refine wpAnyH_take (i := 23) (oi := { dst := some 77, op := Go.Op.pick (Go.Operand.tmp 71) (Go.Operand.const (Go.Value.bool true)) (Go.Operand.tmp 76), type := 4, pos := _, after := #[{ on := 17, ground := Go.Ground.data }, { on := 22, ground := Go.Ground.data }], guard := none }) (v := ?vr1_24_23) rfl (by kernel_rfl) (by kernel_rfl) (by kernel_rfl) (fun _ _ _ h => h) (Or.inl ⟨by rfl, ?yr1_24_23⟩) hHeld ?_
              case yr1_24_23 => ((intro w hSw; (try dsimp only at hSw); go_simp) <;> with_reducible rfl)
              (try simp only [Act.put, List.setIfInBounds_toArray, List.set_cons_zero, List.set_cons_succ])
              refine wpAnyH_take (i := 24) (oi := { dst := some 78, op := Go.Op.move (Go.Operand.tmp 77), type := 4, pos := _, after := #[{ on := 23, ground := Go.Ground.data }, { on := 21, ground := Go.Ground.chain }], guard := none }) (v := ?vr1_25_24) rfl (by kernel_rfl) (by kernel_rfl) (by kernel_rfl) (fun _ _ _ h => h) (Or.inl ⟨by rfl, ?yr1_25_24⟩) hHeld ?_
              case yr1_25_24 => ((intro w hSw; (try dsimp only at hSw); go_simp) <;> with_reducible rfl)
              (try simp only [Act.put, List.setIfInBounds_toArray, List.set_cons_zero, List.set_cons_succ])
              refine wpAnyH_take (i := 25) (oi := { dst := some 79, op := Go.Op.move (Go.Operand.tmp 6), type := 64, pos := _, after := #[{ on := 24, ground := Go.Ground.guard }], guard := some (24, false) }) (v := ?vr1_26_25) rfl (by kernel_rfl) (by kernel_rfl) (by kernel_rfl) (fun _ _ _ h => h) (Or.inl ⟨by rfl, ?yr1_26_25⟩) hHeld ?_
              case yr1_26_25 => ((intro w hSw; (try dsimp only at hSw); go_simp) <;> with_reducible rfl)
              (try simp only [Act.put, List.setIfInBounds_toArray, List.set_cons_zero, List.set_cons_succ])
              refine wpAnyH_take (i := 27) (oi := { dst := some 81, op := Go.Op.move (Go.Operand.tmp 7), type := 66, pos := _, after := #[{ on := 24, ground := Go.Ground.guard }], guard := some (24, false) }) (v := ?vr1_27_27) rfl (by kernel_rfl) (by kernel_rfl) (by kernel_rfl) (fun _ _ _ h => h) (Or.inl ⟨by rfl, ?yr1_27_27⟩) hHeld ?_
              case yr1_27_27 => ((intro w hSw; (try dsimp only at hSw); go_simp) <;> with_reducible rfl)
              (try simp only [Act.put, List.setIfInBounds_toArray, List.set_cons_zero, List.set_cons_succ])
              refine wpAnyH_ready (rs := [26]) (by kernel_rfl) (by simp) ?_
              refine AllReadyH.cons (o := { dst := some 80, op := Go.Op.call { callee := Go.Callee.value (Go.Operand.func 47), args := #[Go.Operand.tmp 79], argTypes := #[64] }, type := 3, pos := _, after := #[{ on := 25, ground := Go.Ground.data }, { on := 24, ground := Go.Ground.chain }, { on := 24, ground := Go.Ground.guard }], guard := some (24, false) }) rfl (fun K hK => ?_) AllReadyH.nil
              go_simp
              ((refine (left_v _ l1 e1 _ hbo1.1.st).mono ?_); (rintro r wn ⟨rfl, rfl⟩))
              go_wp2_with fail
              refine hK.out _ _ ?hSr1_28_26 (fun hHeld2 => ?_)
              case hSr1_28_26 => (first | exact hS0 | exact hHeld | exact ⟨hHeld.1.trans (hb.mono hHeld.2), Nat.le_trans hHeld.2 hb.size⟩ | exact ⟨hHeld.1.trans (hk.below B hHeld.2 (fun x hx => by rcases hx with rfl | rfl <;> assumption)), Nat.le_trans hHeld.2 hk.size⟩)
              clear hK K hHeld
              have hHeld := hHeld2
              clear hHeld2
              (try simp only [Act.put, List.setIfInBounds_toArray, List.set_cons_zero, List.set_cons_succ])
              refine wpAnyH_ready (rs := [28]) (by kernel_rfl) (by simp) ?_
              refine AllReadyH.cons (o := { dst := some 82, op := Go.Op.call { callee := Go.Callee.value (Go.Operand.func 48), args := #[Go.Operand.tmp 81], argTypes := #[66] }, type := 3, pos := _, after := #[{ on := 27, ground := Go.Ground.data }, { on := 26, ground := Go.Ground.chain }, { on := 24, ground := Go.Ground.guard }], guard := some (24, false) }) rfl (fun K hK => ?_) AllReadyH.nil
              go_simp
              ((refine (xleft_v q l1 e1 _ hbo1.2).mono ?_); (rintro r wn ⟨rfl, hb⟩); (replace hbo1 := hbo1.later hb))
              go_wp2_with fail
              refine hK.out _ _ ?hSr1_29_28 (fun hHeld2 => ?_)
              case hSr1_29_28 => (first | exact hS0 | exact hHeld | exact ⟨hHeld.1.trans (hb.mono hHeld.2), Nat.le_trans hHeld.2 hb.size⟩ | exact ⟨hHeld.1.trans (hk.below B hHeld.2 (fun x hx => by rcases hx with rfl | rfl <;> assumption)), Nat.le_trans hHeld.2 hk.size⟩)
              clear hK K hHeld
              have hHeld := hHeld2
              clear hHeld2
              (try simp only [Act.put, List.setIfInBounds_toArray, List.set_cons_zero, List.set_cons_succ])
              refine wpAnyH_take (i := 29) (oi := { dst := some 83, op := Go.Op.binOp Go.BinOp.neq 3 (Go.Operand.tmp 80) (Go.Operand.tmp 82) 3, type := 4, pos := _, after := #[{ on := 26, ground := Go.Ground.data }, { on := 28, ground := Go.Ground.data }, { on := 24, ground := Go.Ground.guard }], guard := some (24, false) }) (v := ?vr1_30_29) rfl (by kernel_rfl) (by kernel_rfl) (by kernel_rfl) (fun _ _ _ h => h) (Or.inl ⟨by rfl, ?yr1_30_29⟩) hHeld ?_
              case yr1_30_29 => ((intro w hSw; (try dsimp only at hSw); go_simp) <;> with_reducible rfl)
              (try simp only [Act.put, List.setIfInBounds_toArray, List.set_cons_zero, List.set_cons_succ])
              refine wpAnyH_take (i := 30) (oi := { dst := some 84, op := Go.Op.pick (Go.Operand.tmp 78) (Go.Operand.const (Go.Value.bool true)) (Go.Operand.tmp 83), type := 4, pos := _, after := #[{ on := 24, ground := Go.Ground.data }, { on := 29, ground := Go.Ground.data }], guard := none }) (v := ?vr1_31_30) rfl (by kernel_rfl) (by kernel_rfl) (by kernel_rfl) (fun _ _ _ h => h) (Or.inl ⟨by rfl, ?yr1_31_30⟩) hHeld ?_
              case yr1_31_30 => ((intro w hSw; (try dsimp only at hSw); go_simp) <;> with_reducible rfl)
              (try simp only [Act.put, List.setIfInBounds_toArray, List.set_cons_zero, List.set_cons_succ])
              refine wpAnyH_done (by kernel_rfl) ?_ _
              (go_wp2; exact ⟨⟨j + 1, l1, e1, by omega, by omega, by go_num, hbo1, hll1, hHeld.1, hHeld.2⟩, by simp [intOf]; omega⟩)
            refine AllReadyH.cons (o := { dst := some 68, op := Go.Op.load 67 (Go.Operand.tmp 67), type := 67, pos := _, after := #[{ on := 13, ground := Go.Ground.data }, { on := 8, ground := Go.Ground.guard }], guard := some (8, false) }) rfl (fun K hK => ?_) AllReadyH.nil
            · go_simp
              refine hK.out _ _ ?hSr1_32_14 (fun hHeld2 => ?_)
              case hSr1_32_14 => (first | exact hS0 | exact hHeld | exact ⟨hHeld.1.trans (hb.mono hHeld.2), Nat.le_trans hHeld.2 hb.size⟩ | exact ⟨hHeld.1.trans (hk.below B hHeld.2 (fun x hx => by rcases hx with rfl | rfl <;> assumption)), Nat.le_trans hHeld.2 hk.size⟩)
              clear hK K hHeld
              have hHeld := hHeld2
              clear hHeld2
              (try simp only [Act.put, List.setIfInBounds_toArray, List.set_cons_zero, List.set_cons_succ])
              refine wpAnyH_ready (rs := [10]) (by kernel_rfl) (by simp) ?_
              refine AllReadyH.cons (o := { dst := some 64, op := Go.Op.call { callee := Go.Callee.value (Go.Operand.func 44), args := #[Go.Operand.tmp 63], argTypes := #[64] }, type := 67, pos := _, after := #[{ on := 9, ground := Go.Ground.data }, { on := 8, ground := Go.Ground.chain }, { on := 8, ground := Go.Ground.guard }], guard := some (8, false) }) rfl (fun K hK => ?_) AllReadyH.nil
              go_simp
              ((refine (err_a _ l1 e1 _ hbo1.1.st).mono ?_); (rintro r wn ⟨rfl, rfl⟩))
              go_wp2_with fail
              refine hK.out _ _ ?hSr1_33_10 (fun hHeld2 => ?_)
              case hSr1_33_10 => (first | exact hS0 | exact hHeld | exact ⟨hHeld.1.trans (hb.mono hHeld.2), Nat.le_trans hHeld.2 hb.size⟩ | exact ⟨hHeld.1.trans (hk.below B hHeld.2 (fun x hx => by rcases hx with rfl | rfl <;> assumption)), Nat.le_trans hHeld.2 hk.size⟩)
              clear hK K hHeld
              have hHeld := hHeld2
              clear hHeld2
              (try simp only [Act.put, List.setIfInBounds_toArray, List.set_cons_zero, List.set_cons_succ])
              refine wpAnyH_take (i := 15) (oi := { dst := some 69, op := Go.Op.binOp Go.BinOp.neq 67 (Go.Operand.tmp 64) (Go.Operand.tmp 68) 67, type := 4, pos := _, after := #[{ on := 10, ground := Go.Ground.data }, { on := 14, ground := Go.Ground.data }, { on := 8, ground := Go.Ground.guard }], guard := some (8, false) }) (v := ?vr1_34_15) rfl (by kernel_rfl) (by kernel_rfl) (by kernel_rfl) (fun _ _ _ h => h) (Or.inl ⟨by rfl, ?yr1_34_15⟩) hHeld ?_
              case yr1_34_15 => ((intro w hSw; (try dsimp only at hSw); go_simp) <;> with_reducible rfl)
              (try simp only [Act.put, List.setIfInBounds_toArray, List.set_cons_zero, List.set_cons_succ])
              refine wpAnyH_take (i := 16) (oi := { dst := some 70, op := Go.Op.pick (Go.Operand.tmp 62) (Go.Operand.const (Go.Value.bool true)) (Go.Operand.tmp 69), type := 4, pos := _, after := #[{ on := 8, ground := Go.Ground.data }, { on := 15, ground := Go.Ground.data }], guard := none }) (v := ?vr1_35_16) rfl (by kernel_rfl) (by kernel_rfl) (by kernel_rfl) (fun _ _ _ h => h) (Or.inl ⟨by rfl, ?yr1_35_16⟩) hHeld ?_
              case yr1_35_16 => ((intro w hSw; (try dsimp only at hSw); go_simp) <;> with_reducible rfl)
              (try simp only [Act.put, List.setIfInBounds_toArray, List.set_cons_zero, List.set_cons_succ])
              refine wpAnyH_take (i := 17) (oi := { dst := some 71, op := Go.Op.move (Go.Operand.tmp 70), type := 4, pos := _, after := #[{ on := 16, ground := Go.Ground.data }, { on := 10, ground := Go.Ground.chain }], guard := none }) (v := ?vr1_36_17) rfl (by kernel_rfl) (by kernel_rfl) (by kernel_rfl) (fun _ _ _ h => h) (Or.inl ⟨by rfl, ?yr1_36_17⟩) hHeld ?_
              case yr1_36_17 => ((intro w hSw; (try dsimp only at hSw); go_simp) <;> with_reducible rfl)
              (try simp only [Act.put, List.setIfInBounds_toArray, List.set_cons_zero, List.set_cons_succ])
              refine wpAnyH_take (i := 18) (oi := { dst := some 72, op := Go.Op.move (Go.Operand.tmp 6), type := 64, pos := _, after := #[{ on := 17, ground := Go.Ground.guard }], guard := some (17, false) }) (v := ?vr1_37_18) rfl (by kernel_rfl) (by kernel_rfl) (by kernel_rfl) (fun _ _ _ h => h) (Or.inl ⟨by rfl, ?yr1_37_18⟩) hHeld ?_
              case yr1_37_18 => ((intro w hSw; (try dsimp only at hSw); go_simp) <;> with_reducible rfl)
              (try simp only [Act.put, List.setIfInBounds_toArray, List.set_cons_zero, List.set_cons_succ])
              refine wpAnyH_take (i := 20) (oi := { dst := some 74, op := Go.Op.move (Go.Operand.tmp 7), type := 66, pos := _, after := #[{ on := 17, ground := Go.Ground.guard }], guard := some (17, false) }) (v := ?vr1_38_20) rfl (by kernel_rfl) (by kernel_rfl) (by kernel_rfl) (fun _ _ _ h => h) (Or.inl ⟨by rfl, ?yr1_38_20⟩) hHeld ?_
              case yr1_38_20 => ((intro w hSw; (try dsimp only at hSw); go_simp) <;> with_reducible rfl)
              (try simp only [Act.put, List.setIfInBounds_toArray, List.set_cons_zero, List.set_cons_succ])
              refine wpAnyH_ready (rs := [19]) (by kernel_rfl) (by simp) ?_
              refine AllReadyH.cons (o := { dst := some 73, op := Go.Op.call { callee := Go.Callee.value (Go.Operand.func 45), args := #[Go.Operand.tmp 72], argTypes := #[64] }, type := 67, pos := _, after := #[{ on := 18, ground := Go.Ground.data }, { on := 17, ground := Go.Ground.chain }, { on := 17, ground := Go.Ground.guard }], guard := some (17, false) }) rfl (fun K hK => ?_) AllReadyH.nil
              go_simp
              ((refine (end_v _ l1 e1 _ hbo1.1.st).mono ?_); (rintro r wn ⟨rfl, rfl⟩))
              go_wp2_with fail
              refine hK.out _ _ ?hSr1_39_19 (fun hHeld2 => ?_)
              case hSr1_39_19 => (first | exact hS0 | exact hHeld | exact ⟨hHeld.1.trans (hb.mono hHeld.2), Nat.le_trans hHeld.2 hb.size⟩ | exact ⟨hHeld.1.trans (hk.below B hHeld.2 (fun x hx => by rcases hx with rfl | rfl <;> assumption)), Nat.le_trans hHeld.2 hk.size⟩)
              clear hK K hHeld
              have hHeld := hHeld2
              clear hHeld2
              (try simp only [Act.put, List.setIfInBounds_toArray, List.set_cons_zero, List.set_cons_succ])
              refine wpAnyH_ready (rs := [21]) (by kernel_rfl) (by simp) ?_
              refine AllReadyH.cons (o := { dst := some 75, op := Go.Op.call { callee := Go.Callee.value (Go.Operand.func 46), args := #[Go.Operand.tmp 74], argTypes := #[66] }, type := 67, pos := _, after := #[{ on := 20, ground := Go.Ground.data }, { on := 19, ground := Go.Ground.chain }, { on := 17, ground := Go.Ground.guard }], guard := some (17, false) }) rfl (fun K hK => ?_) AllReadyH.nil
              go_simp
              ((refine (xend_v q l1 e1 _ hbo1.2).mono ?_); (rintro r wn ⟨rfl, hb⟩); (replace hbo1 := hbo1.later hb))
              go_wp2_with fail
              refine hK.out _ _ ?hSr1_40_21 (fun hHeld2 => ?_)
              case hSr1_40_21 => (first | exact hS0 | exact hHeld | exact ⟨hHeld.1.trans (hb.mono hHeld.2), Nat.le_trans hHeld.2 hb.size⟩ | exact ⟨hHeld.1.trans (hk.below B hHeld.2 (fun x hx => by rcases hx with rfl | rfl <;> assumption)), Nat.le_trans hHeld.2 hk.size⟩)
              clear hK K hHeld
              have hHeld := hHeld2
              clear hHeld2
              (try simp only [Act.put, List.setIfInBounds_toArray, List.set_cons_zero, List.set_cons_succ])
              refine wpAnyH_take (i := 22) (oi := { dst := some 76, op := Go.Op.binOp Go.BinOp.neq 67 (Go.Operand.tmp 73) (Go.Operand.tmp 75) 67, type := 4, pos := _, after := #[{ on := 19, ground := Go.Ground.data }, { on := 21, ground := Go.Ground.data }, { on := 17, ground := Go.Ground.guard }], guard := some (17, false) }) (v := ?vr1_41_22) rfl (by kernel_rfl) (by kernel_rfl) (by kernel_rfl) (fun _ _ _ h => h) (Or.inl ⟨by rfl, ?yr1_41_22⟩) hHeld ?_
              case yr1_41_22 => ((intro w hSw; (try dsimp only at hSw); go_simp) <;> with_reducible rfl)
              (try simp only [Act.put, List.setIfInBounds_toArray, List.set_cons_zero, List.set_cons_succ])
              refine wpAnyH_take (i := 23) (oi := { dst := some 77, op := Go.Op.pick (Go.Operand.tmp 71) (Go.Operand.const (Go.Value.bool true)) (Go.Operand.tmp 76), type := 4, pos := _, after := #[{ on := 17, ground := Go.Ground.data }, { on := 22, ground := Go.Ground.data }], guard := none }) (v := ?vr1_42_23) rfl (by kernel_rfl) (by kernel_rfl) (by kernel_rfl) (fun _ _ _ h => h) (Or.inl ⟨by rfl, ?yr1_42_23⟩) hHeld ?_
              case yr1_42_23 => ((intro w hSw; (try dsimp only at hSw); go_simp) <;> with_reducible rfl)
              (try simp only [Act.put, List.setIfInBounds_toArray, List.set_cons_zero, List.set_cons_succ])
              refine wpAnyH_take (i := 24) (oi := { dst := some 78, op := Go.Op.move (Go.Operand.tmp 77), type := 4, pos := _, after := #[{ on := 23, ground := Go.Ground.data }, { on := 21, ground := Go.Ground.chain }], guard := none }) (v := ?vr1_43_24) rfl (by kernel_rfl) (by kernel_rfl) (by kernel_rfl) (fun _ _ _ h => h) (Or.inl ⟨by rfl, ?yr1_43_24⟩) hHeld ?_
              case yr1_43_24 => ((intro w hSw; (try dsimp only at hSw); go_simp) <;> with_reducible rfl)
              (try simp only [Act.put, List.setIfInBounds_toArray, List.set_cons_zero, List.set_cons_succ])
              refine wpAnyH_take (i := 25) (oi := { dst := some 79, op := Go.Op.move (Go.Operand.tmp 6), type := 64, pos := _, after := #[{ on := 24, ground := Go.Ground.guard }], guard := some (24, false) }) (v := ?vr1_44_25) rfl (by kernel_rfl) (by kernel_rfl) (by kernel_rfl) (fun _ _ _ h => h) (Or.inl ⟨by rfl, ?yr1_44_25⟩) hHeld ?_
              case yr1_44_25 => ((intro w hSw; (try dsimp only at hSw); go_simp) <;> with_reducible rfl)
              (try simp only [Act.put, List.setIfInBounds_toArray, List.set_cons_zero, List.set_cons_succ])
              refine wpAnyH_take (i := 27) (oi := { dst := some 81, op := Go.Op.move (Go.Operand.tmp 7), type := 66, pos := _, after := #[{ on := 24, ground := Go.Ground.guard }], guard := some (24, false) }) (v := ?vr1_45_27) rfl (by kernel_rfl) (by kernel_rfl) (by kernel_rfl) (fun _ _ _ h => h) (Or.inl ⟨by rfl, ?yr1_45_27⟩) hHeld ?_
              case yr1_45_27 => ((intro w hSw; (try dsimp only at hSw); go_simp) <;> with_reducible rfl)
              (try simp only [Act.put, List.setIfInBounds_toArray, List.set_cons_zero, List.set_cons_succ])
              refine wpAnyH_ready (rs := [26]) (by kernel_rfl) (by simp) ?_
              refine AllReadyH.cons (o := { dst := some 80, op := Go.Op.call { callee := Go.Callee.value (Go.Operand.func 47), args := #[Go.Operand.tmp 79], argTypes := #[64] }, type := 3, pos := _, after := #[{ on := 25, ground := Go.Ground.data }, { on := 24, ground := Go.Ground.chain }, { on := 24, ground := Go.Ground.guard }], guard := some (24, false) }) rfl (fun K hK => ?_) AllReadyH.nil
              go_simp
              ((refine (left_v _ l1 e1 _ hbo1.1.st).mono ?_); (rintro r wn ⟨rfl, rfl⟩))
              go_wp2_with fail
              refine hK.out _ _ ?hSr1_46_26 (fun hHeld2 => ?_)
              case hSr1_46_26 => (first | exact hS0 | exact hHeld | exact ⟨hHeld.1.trans (hb.mono hHeld.2), Nat.le_trans hHeld.2 hb.size⟩ | exact ⟨hHeld.1.trans (hk.below B hHeld.2 (fun x hx => by rcases hx with rfl | rfl <;> assumption)), Nat.le_trans hHeld.2 hk.size⟩)
              clear hK K hHeld
              have hHeld := hHeld2
              clear hHeld2
              (try simp only [Act.put, List.setIfInBounds_toArray, List.set_cons_zero, List.set_cons_succ])
              refine wpAnyH_ready (rs := [28]) (by kernel_rfl) (by simp) ?_
              refine AllReadyH.cons (o := { dst := some 82, op := Go.Op.call { callee := Go.Callee.value (Go.Operand.func 48), args := #[Go.Operand.tmp 81], argTypes := #[66] }, type := 3, pos := _, after := #[{ on := 27, ground := Go.Ground.data }, { on := 26, ground := Go.Ground.chain }, { on := 24, ground := Go.Ground.guard }], guard := some (24, false) }) rfl (fun K hK => ?_) AllReadyH.nil
              go_simp
              ((refine (xleft_v q l1 e1 _ hbo1.2).mono ?_); (rintro r wn ⟨rfl, hb⟩); (replace hbo1 := hbo1.later hb))
              go_wp2_with fail
              refine hK.out _ _ ?hSr1_47_28 (fun hHeld2 => ?_)
              case hSr1_47_28 => (first | exact hS0 | exact hHeld | exact ⟨hHeld.1.trans (hb.mono hHeld.2), Nat.le_trans hHeld.2 hb.size⟩ | exact ⟨hHeld.1.trans (hk.below B hHeld.2 (fun x hx => by rcases hx with rfl | rfl <;> assumption)), Nat.le_trans hHeld.2 hk.size⟩)
              clear hK K hHeld
              have hHeld := hHeld2
              clear hHeld2
              (try simp only [Act.put, List.setIfInBounds_toArray, List.set_cons_zero, List.set_cons_succ])
              refine wpAnyH_take (i := 29) (oi := { dst := some 83, op := Go.Op.binOp Go.BinOp.neq 3 (Go.Operand.tmp 80) (Go.Operand.tmp 82) 3, type := 4, pos := _, after := #[{ on := 26, ground := Go.Ground.data }, { on := 28, ground := Go.Ground.data }, { on := 24, ground := Go.Ground.guard }], guard := some (24, false) }) (v := ?vr1_48_29) rfl (by kernel_rfl) (by kernel_rfl) (by kernel_rfl) (fun _ _ _ h => h) (Or.inl ⟨by rfl, ?yr1_48_29⟩) hHeld ?_
              case yr1_48_29 => ((intro w hSw; (try dsimp only at hSw); go_simp) <;> with_reducible rfl)
              (try simp only [Act.put, List.setIfInBounds_toArray, List.set_cons_zero, List.set_cons_succ])
              refine wpAnyH_take (i := 30) (oi := { dst := some 84, op := Go.Op.pick (Go.Operand.tmp 78) (Go.Operand.const (Go.Value.bool true)) (Go.Operand.tmp 83), type := 4, pos := _, after := #[{ on := 24, ground := Go.Ground.data }, { on := 29, ground := Go.Ground.data }], guard := none }) (v := ?vr1_49_30) rfl (by kernel_rfl) (by kernel_rfl) (by kernel_rfl) (fun _ _ _ h => h) (Or.inl ⟨by rfl, ?yr1_49_30⟩) hHeld ?_
              case yr1_49_30 => ((intro w hSw; (try dsimp only at hSw); go_simp) <;> with_reducible rfl)
              (try simp only [Act.put, List.setIfInBounds_toArray, List.set_cons_zero, List.set_cons_succ])
              refine wpAnyH_done (by kernel_rfl) ?_ _
              (go_wp2; exact ⟨⟨j + 1, l1, e1, by omega, by omega, by go_num, hbo1, hll1, hHeld.1, hHeld.2⟩, by simp [intOf]; omega⟩)
          · go_wp2_with fail
            refine (alive2_t w4).mono ?_
            rintro r w5 ⟨rfl, hb5⟩
            have hBel5 := hBel4.trans (hb5.mono hBs4)
            go_wp2
            go_ret
            exact ⟨rfl, hBel5⟩
        · have q1 : (j < n ∧ decide ((j : Int) < 30) = false) ∨ ¬ j < n := by
            by_cases h1 : j < n
            · left; exact ⟨h1, by simp; omega⟩
            · right; exact h1
          clear HP hBo
          have hcat := cat_nil
          have hN : ∀ w, St true w (.pointer none) [] 6 := fun w => .inr ⟨rfl, ⟨by decide, .inl ⟨rfl, rfl⟩⟩, rfl⟩
          rcases q1 with ⟨q1, q2⟩ | q1
          · skip
            go_wp2_with fail
            have hZ : St true (wr.alloc (.cells #[.bool false, .slice none 0 0, .int .i64 0] 74)) (.pointer (some ⟨wr.heap.size, 0, none⟩)) [] 6 := .inr ⟨rfl, ⟨by decide, .inr ⟨_, rfl, .inl ⟨_, _, Row.new wr _ _, rfl⟩⟩⟩, rfl⟩
            have hb5 : Below wr.heap.size wr (wr.alloc (.cells #[.bool false, .slice none 0 0, .int .i64 0] 74)) := (Below.refl _ _).alloc (Nat.le_refl _) _
            replace hBel := hBel.trans (hb5.mono hBs)
            have hzB : B ≤ wr.heap.size := hBs
            replace hBs := Nat.le_trans hBs hb5.size
            clear hb5
            generalize wr.alloc (.cells #[.bool false, .slice none 0 0, .int .i64 0] 74) = w5 at *
            generalize wr.heap.size = z at *
            have hc := must_a (.pointer none) [] 6 false w5 (hN _)
            refine hc.mono ?_
            clear hc
            rintro r w6 ⟨rfl, hS, hk⟩
            have hb := keeps_nil hk
            replace hZ := hZ.later hb
            replace hBel := hBel.trans (hb.mono hBs)
            replace hBs := Nat.le_trans hBs hb.size
            clear hb hk hS
            go_wp2_with fail
            have hc := must_a (.pointer (some ⟨z, 0, none⟩)) [] 6 true w6 hZ
            rw [show mustS 6 true = 6 by decide +kernel] at hc
            refine hc.mono ?_
            clear hc
            rintro r w7 ⟨rfl, hS, hk⟩
            clear hZ
            have hZ := hS
            replace hBel := hBel.trans (hk.below B hBs (fun x hx => by cases hx; exact hzB))
            replace hBs := Nat.le_trans hBs hk.size
            clear hk hS
            go_wp2_with fail
            have hc := alive2_t w7
            refine hc.mono ?_
            clear hc
            rintro r w8 ⟨rfl, hb⟩
            replace hZ := hZ.later hb
            replace hBel := hBel.trans (hb.mono hBs)
            replace hBs := Nat.le_trans hBs hb.size
            clear hb
            go_wp2_with fail
            have hc := err_a (.pointer none) [] 6 w8 (hN _)
            refine hc.mono ?_
            clear hc
            rintro r w9 ⟨rfl, rfl⟩
            go_wp2_with fail
            have hc := end_v (.pointer (some ⟨z, 0, none⟩)) [] 6 w8 hZ
            rw [show endV [] 6 = 6 by decide +kernel] at hc
            refine hc.mono ?_
            clear hc
            rintro r w9 ⟨rfl, rfl⟩
            go_wp2_with fail
            have hc := rnum_a (.pointer none) [] 6 1 w8 (hN _)
            rw [show valB (takenS [] 6 (limK 1)) = 0 by decide +kernel] at hc
            refine hc.mono ?_
            clear hc
            rintro r w9 ⟨rfl, hS, hk⟩
            have hb := keeps_nil hk
            replace hZ := hZ.later hb
            replace hBel := hBel.trans (hb.mono hBs)
            replace hBs := Nat.le_trans hBs hb.size
            clear hb hk hS
            go_wp2_with fail
            have hc := rnum_a (.pointer (some ⟨z, 0, none⟩)) [] 6 8 w9 hZ
            rw [show valB (takenS [] 6 (limK 8)) = 0 by decide +kernel] at hc
            rw [show leftS [] 6 (limK 8) = [] by decide +kernel] at hc
            rw [show errS [] 6 (limK 8) = 6 by decide +kernel] at hc
            refine hc.mono ?_
            clear hc
            rintro r w10 ⟨rfl, hS, hk⟩
            clear hZ
            have hZ := hS
            replace hBel := hBel.trans (hk.below B hBs (fun x hx => by cases hx; exact hzB))
            replace hBs := Nat.le_trans hBs hk.size
            clear hk hS
            go_wp2_with fail
            have hc := rtext_a (.pointer (some ⟨z, 0, none⟩)) [] 6 5 w10 hZ
            rw [show byS (textT [] 6 5) = ⟨#[]⟩ by decide +kernel] at hc
            rw [show textL [] 6 5 = [] by decide +kernel] at hc
            rw [show textX [] 6 5 = 6 by decide +kernel] at hc
            refine hc.mono ?_
            clear hc
            rintro r w11 ⟨rfl, hS, hk⟩
            clear hZ
            have hZ := hS
            replace hBel := hBel.trans (hk.below B hBs (fun x hx => by cases hx; exact hzB))
            replace hBs := Nat.le_trans hBs hk.size
            clear hk hS
            go_wp2_with fail
            have hc := rtext_a (.pointer none) [] 6 5 w11 (hN _)
            rw [show byS (textT [] 6 5) = ⟨#[]⟩ by decide +kernel] at hc
            refine hc.mono ?_
            clear hc
            rintro r w12 ⟨rfl, hS, hk⟩
            have hb := keeps_nil hk
            replace hZ := hZ.later hb
            replace hBel := hBel.trans (hb.mono hBs)
            replace hBs := Nat.le_trans hBs hb.size
            clear hb hk hS
            go_wp2_with fail
            have hc := rraw_a (.pointer none) [] 6 5 w12 (hN _) (by decide)
            rw [show takenS [] (mustS 6 (decide ((0 : Int) ≤ 5))) 5 = [] by decide +kernel] at hc
            refine hc.mono ?_
            clear hc
            rintro r w13 ⟨⟨v13, rfl, ho⟩, hS, hk⟩
            obtain ⟨pp13, cc13, rfl⟩ := ho.form
            clear ho
            rw [show ([] : List Int).length = 0 from rfl]
            have hb := keeps_nil hk
            replace hZ := hZ.later hb
            replace hBel := hBel.trans (hb.mono hBs)
            replace hBs := Nat.le_trans hBs hb.size
            clear hb hk hS
            go_wp2_with fail
            have hc := rraw_a (.pointer (some ⟨z, 0, none⟩)) [] 6 5 w13 hZ (by decide)
            rw [show takenS [] (mustS 6 (decide ((0 : Int) ≤ 5))) 5 = [] by decide +kernel] at hc
            rw [show leftS [] (mustS 6 (decide ((0 : Int) ≤ 5))) 5 = [] by decide +kernel] at hc
            rw [show errS [] (mustS 6 (decide ((0 : Int) ≤ 5))) 5 = 6 by decide +kernel] at hc
            refine hc.mono ?_
            clear hc
            rintro r w14 ⟨⟨v14, rfl, ho⟩, hS, hk⟩
            obtain ⟨pp14, cc14, rfl⟩ := ho.form
            clear ho
            rw [show ([] : List Int).length = 0 from rfl]
            clear hZ
            have hZ := hS
            replace hBel := hBel.trans (hk.below B hBs (fun x hx => by cases hx; exact hzB))
            replace hBs := Nat.le_trans hBs hk.size
            clear hk hS
            go_wp2_with fail
            have hc := left_v (.pointer none) [] 6 w14 (hN _)
            rw [show leftV [] 6 = 0 by decide +kernel] at hc
            refine hc.mono ?_
            clear hc
            rintro r w15 ⟨rfl, rfl⟩
            go_wp2_with fail
            have hc := left_v (.pointer (some ⟨z, 0, none⟩)) [] 6 w14 hZ
            rw [show leftV [] 6 = 0 by decide +kernel] at hc
            refine hc.mono ?_
            clear hc
            rintro r w15 ⟨rfl, rfl⟩
            go_wp2_with fail
            have hc := rwide_a (.pointer none) [] 6 w14 (hN _)
            rw [show hi (valB (takenS [] 6 16)) = 0 by decide +kernel] at hc
            rw [show lo (valB (takenS [] 6 16)) = 0 by decide +kernel] at hc
            refine hc.mono ?_
            clear hc
            rintro r w15 ⟨rfl, hS, hk⟩
            have hb := keeps_nil hk
            replace hZ := hZ.later hb
            replace hBel := hBel.trans (hb.mono hBs)
            replace hBs := Nat.le_trans hBs hb.size
            clear hb hk hS
            go_wp2
            go_ret
            exact ⟨rfl, hBel⟩
          · skip
            go_wp2_with fail
            have hZ : St true (wr.alloc (.cells #[.bool false, .slice none 0 0, .int .i64 0] 74)) (.pointer (some ⟨wr.heap.size, 0, none⟩)) [] 6 := .inr ⟨rfl, ⟨by decide, .inr ⟨_, rfl, .inl ⟨_, _, Row.new wr _ _, rfl⟩⟩⟩, rfl⟩
            have hb5 : Below wr.heap.size wr (wr.alloc (.cells #[.bool false, .slice none 0 0, .int .i64 0] 74)) := (Below.refl _ _).alloc (Nat.le_refl _) _
            replace hBel := hBel.trans (hb5.mono hBs)
            have hzB : B ≤ wr.heap.size := hBs
            replace hBs := Nat.le_trans hBs hb5.size
            clear hb5
            generalize wr.alloc (.cells #[.bool false, .slice none 0 0, .int .i64 0] 74) = w5 at *
            generalize wr.heap.size = z at *
            have hc := must_a (.pointer none) [] 6 false w5 (hN _)
            refine hc.mono ?_
            clear hc
            rintro r w6 ⟨rfl, hS, hk⟩
            have hb := keeps_nil hk
            replace hZ := hZ.later hb
            replace hBel := hBel.trans (hb.mono hBs)
            replace hBs := Nat.le_trans hBs hb.size
            clear hb hk hS
            go_wp2_with fail
            have hc := must_a (.pointer (some ⟨z, 0, none⟩)) [] 6 true w6 hZ
            rw [show mustS 6 true = 6 by decide +kernel] at hc
            refine hc.mono ?_
            clear hc
            rintro r w7 ⟨rfl, hS, hk⟩
            clear hZ
            have hZ := hS
            replace hBel := hBel.trans (hk.below B hBs (fun x hx => by cases hx; exact hzB))
            replace hBs := Nat.le_trans hBs hk.size
            clear hk hS
            go_wp2_with fail
            have hc := alive2_t w7
            refine hc.mono ?_
            clear hc
            rintro r w8 ⟨rfl, hb⟩
            replace hZ := hZ.later hb
            replace hBel := hBel.trans (hb.mono hBs)
            replace hBs := Nat.le_trans hBs hb.size
            clear hb
            go_wp2_with fail
            have hc := err_a (.pointer none) [] 6 w8 (hN _)
            refine hc.mono ?_
            clear hc
            rintro r w9 ⟨rfl, rfl⟩
            go_wp2_with fail
            have hc := end_v (.pointer (some ⟨z, 0, none⟩)) [] 6 w8 hZ
            rw [show endV [] 6 = 6 by decide +kernel] at hc
            refine hc.mono ?_
            clear hc
            rintro r w9 ⟨rfl, rfl⟩
            go_wp2_with fail
            have hc := rnum_a (.pointer none) [] 6 1 w8 (hN _)
            rw [show valB (takenS [] 6 (limK 1)) = 0 by decide +kernel] at hc
            refine hc.mono ?_
            clear hc
            rintro r w9 ⟨rfl, hS, hk⟩
            have hb := keeps_nil hk
            replace hZ := hZ.later hb
            replace hBel := hBel.trans (hb.mono hBs)
            replace hBs := Nat.le_trans hBs hb.size
            clear hb hk hS
            go_wp2_with fail
            have hc := rnum_a (.pointer (some ⟨z, 0, none⟩)) [] 6 8 w9 hZ
            rw [show valB (takenS [] 6 (limK 8)) = 0 by decide +kernel] at hc
            rw [show leftS [] 6 (limK 8) = [] by decide +kernel] at hc
            rw [show errS [] 6 (limK 8) = 6 by decide +kernel] at hc
            refine hc.mono ?_
            clear hc
            rintro r w10 ⟨rfl, hS, hk⟩
            clear hZ
            have hZ := hS
            replace hBel := hBel.trans (hk.below B hBs (fun x hx => by cases hx; exact hzB))
            replace hBs := Nat.le_trans hBs hk.size
            clear hk hS
            go_wp2_with fail
            have hc := rtext_a (.pointer (some ⟨z, 0, none⟩)) [] 6 5 w10 hZ
            rw [show byS (textT [] 6 5) = ⟨#[]⟩ by decide +kernel] at hc
            rw [show textL [] 6 5 = [] by decide +kernel] at hc
            rw [show textX [] 6 5 = 6 by decide +kernel] at hc
            refine hc.mono ?_
            clear hc
            rintro r w11 ⟨rfl, hS, hk⟩
            clear hZ
            have hZ := hS
            replace hBel := hBel.trans (hk.below B hBs (fun x hx => by cases hx; exact hzB))
            replace hBs := Nat.le_trans hBs hk.size
            clear hk hS
            go_wp2_with fail
            have hc := rtext_a (.pointer none) [] 6 5 w11 (hN _)
            rw [show byS (textT [] 6 5) = ⟨#[]⟩ by decide +kernel] at hc
            refine hc.mono ?_
            clear hc
            rintro r w12 ⟨rfl, hS, hk⟩
            have hb := keeps_nil hk
            replace hZ := hZ.later hb
            replace hBel := hBel.trans (hb.mono hBs)
            replace hBs := Nat.le_trans hBs hb.size
            clear hb hk hS
            go_wp2_with fail
            have hc := rraw_a (.pointer none) [] 6 5 w12 (hN _) (by decide)
            rw [show takenS [] (mustS 6 (decide ((0 : Int) ≤ 5))) 5 = [] by decide +kernel] at hc
            refine hc.mono ?_
            clear hc
            rintro r w13 ⟨⟨v13, rfl, ho⟩, hS, hk⟩
            obtain ⟨pp13, cc13, rfl⟩ := ho.form
            clear ho
            rw [show ([] : List Int).length = 0 from rfl]
            have hb := keeps_nil hk
            replace hZ := hZ.later hb
            replace hBel := hBel.trans (hb.mono hBs)
            replace hBs := Nat.le_trans hBs hb.size
            clear hb hk hS
            go_wp2_with fail
            have hc := rraw_a (.pointer (some ⟨z, 0, none⟩)) [] 6 5 w13 hZ (by decide)
            rw [show takenS [] (mustS 6 (decide ((0 : Int) ≤ 5))) 5 = [] by decide +kernel] at hc
            rw [show leftS [] (mustS 6 (decide ((0 : Int) ≤ 5))) 5 = [] by decide +kernel] at hc
            rw [show errS [] (mustS 6 (decide ((0 : Int) ≤ 5))) 5 = 6 by decide +kernel] at hc
            refine hc.mono ?_
            clear hc
            rintro r w14 ⟨⟨v14, rfl, ho⟩, hS, hk⟩
            obtain ⟨pp14, cc14, rfl⟩ := ho.form
            clear ho
            rw [show ([] : List Int).length = 0 from rfl]
            clear hZ
            have hZ := hS
            replace hBel := hBel.trans (hk.below B hBs (fun x hx => by cases hx; exact hzB))
            replace hBs := Nat.le_trans hBs hk.size
            clear hk hS
            go_wp2_with fail
            have hc := left_v (.pointer none) [] 6 w14 (hN _)
            rw [show leftV [] 6 = 0 by decide +kernel] at hc
            refine hc.mono ?_
            clear hc
            rintro r w15 ⟨rfl, rfl⟩
            go_wp2_with fail
            have hc := left_v (.pointer (some ⟨z, 0, none⟩)) [] 6 w14 hZ
            rw [show leftV [] 6 = 0 by decide +kernel] at hc
            refine hc.mono ?_
            clear hc
            rintro r w15 ⟨rfl, rfl⟩
            go_wp2_with fail
            have hc := rwide_a (.pointer none) [] 6 w14 (hN _)
            rw [show hi (valB (takenS [] 6 16)) = 0 by decide +kernel] at hc
            rw [show lo (valB (takenS [] 6 16)) = 0 by decide +kernel] at hc
            refine hc.mono ?_
            clear hc
            rintro r w15 ⟨rfl, hS, hk⟩
            have hb := keeps_nil hk
            replace hZ := hZ.later hb
            replace hBel := hBel.trans (hb.mono hBs)
            replace hBs := Nat.le_trans hBs hb.size
            clear hb hk hS
            go_wp2
            go_ret
            exact ⟨rfl, hBel⟩
end Go.Proofs.Ytgioompelogopaa
