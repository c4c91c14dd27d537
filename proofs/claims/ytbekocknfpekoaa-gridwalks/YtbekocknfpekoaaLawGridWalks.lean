/- LawGridWalks: what the theorem needs of these texts. No conditions beyond those that are written. -/
import Derived.Test.YtbekocknfpekoaaGA
import Derived.Test.YtbekocknfpekoaaJD9
namespace Go.Proofs.Ytbekocknfpekoaa
set_option linter.unusedVariables false
set_option linter.unusedSimpArgs false
open Go.RowKit
attribute [local go_sem] Oper.semAt_some
theorem ts_take {w : World} {p : Option Addr} {n c : Nat} {l : List (Int × Int)} (h : TS w (.slice p n c) l) (m : Nat) (hm : m ≤ l.length) : TS w (.slice p m c) (l.take m) := by
  obtain ⟨p', c', e, hc, hp⟩ := h
  cases e
  refine ⟨p, c, by rw [List.length_take, Nat.min_eq_left hm], by rw [List.length_take]; omega, fun h0 => ?_⟩
  rw [List.length_take] at h0
  obtain ⟨g, o, e1, e2, e3⟩ := hp (by omega)
  refine ⟨g, o, e1, e2, fun j k hk => e3 j k ?_⟩
  rw [List.getElem?_take] at hk
  split at hk
  · exact hk
  · cases hk
/-- a row of nodes does not lie in a block of one cell -/
theorem ts_set {w : World} {v : Value} {l : List (Int × Int)} {b : Nat} {u : Value} {t : TypeId} (h : TS w v l) (R : Row w b #[u] t) (x : Value) : TS (w.setCell ⟨b, 0, none⟩ x) v l := by
  obtain ⟨p, c, rfl, hc, hp⟩ := h
  refine ⟨p, c, rfl, hc, fun h0 => ?_⟩
  obtain ⟨g, o, rfl, hg, hk⟩ := hp h0
  have hne : g ≠ b := fun e => by
    subst e
    obtain ⟨q, hq⟩ : ∃ q, l[0]? = some q := ⟨_, List.getElem?_eq_getElem h0⟩
    have h1 := hk 0 q hq 1 _ rfl
    rw [R.cell] at h1
    rw [show o + (0 * 2 + 1) = o + 1 by omega] at h1
    simp at h1
  refine ⟨g, o, rfl, ?_, fun j k hj i y hy => ?_⟩
  · show g < (w.heap.modify _ _).size; rw [Array.size_modify]; exact hg
  · have := hk j k hj i y hy
    rw [World.cell?_of_block (w := w) (a := ⟨g, o + (j * 2 + i), none⟩) (heap_setCell_other _ _ _ _ hne)]
    exact this
theorem nil_func (fn : Fn) (a b : Array Value) (w : World) : (binOp .eql 56 (.func fn a b) .nilFunc).run Try.prog w = .ok (.bool false) w := by kernel_rfl
set_option maxRecDepth 100000 in
set_option maxHeartbeats 16000000 in
theorem gwalks_t (s : Sp) (most : Int) (a b : Int) (L : List (Int × Int)) (N : Nat) (F : Nat → Array Value) (hN : L.length = N) (hN6 : N ≤ 16641) (m0 : -9223372036854775808 ≤ most) (m1 : most ≤ 9223372036854775807)
    (hF : ∀ k, F k = #[.int .i64 (k : Int), .agg #[.int .i64 (L.getD k (0, 0)).1, .int .i64 (L.getD k (0, 0)).2]])
    (HG : ∀ w, Calls Try.prog 45 #[sv s] w fun e w' => ∃ g, e = .returned (.func (.func 96) #[] #[.pointer (some ⟨g, 0, none⟩)]) ∧ Row w' g #[.int .i64 a, .int .i64 b] 75 ∧ w.heap.size ≤ g ∧ Below w.heap.size w w')
    (hseq : ∀ g (w0 : World), Row w0 g #[.int .i64 a, .int .i64 b] 75 → SeqR Fence.wide 2 Try.prog 96 #[.pointer (some ⟨g, 0, none⟩)] F (fun V V' => V'.heap[g]? = V.heap[g]?) N w0)
    (HN : ∀ w, Calls Try.prog 36 #[sv s] w fun e w' => ∃ p c, e = .returned (.slice p N c) ∧ TS w' (.slice p N c) L ∧ Below w.heap.size w w')
    (w : World) : Calls Try.prog 11 #[sv s, .int .i64 most] w fun e w' => e = .returned (.bool true) ∧ Below w.heap.size w w' := by
  have HA := alive10_t
  have HSm := Lib.hid (fun (l : List (Int × Int)) va vb (hl : l.length ≤ 100000) (w1 : World) ha hb => sameN_t l va vb hl w1 ha hb)
  have hTF : L.take N = L := by rw [← hN]; exact take_full _
  have hTL : ∀ k, k ≤ N → (L.take k).length = k := fun k hk => by rw [List.length_take]; omega
  have hLG : ∀ k, k < N → L.take (k + 1) = L.take k ++ [((L.getD k (0, 0)).1, (L.getD k (0, 0)).2)] := fun k hk => take_snoc _ _ _ (by rw [List.getD_eq_getElem?_getD, List.getElem?_eq_getElem (by omega)]; rfl)
  have HX := Lib.hid (And.intro hTF (And.intro hTL hLG))
  have HF := Lib.hid hF
  have HQ := Lib.hid hseq
  have hnil := nil_func
  clear hTF hTL hLG hF hseq
  unfold sv at *
  obtain ⟨Rs, Rm, hb0⟩ := two_rows w #[.int .i64 s.n, .int .i64 s.d0.kind, .int .i64 s.d0.side, .int .i64 s.d0.step, .int .i64 s.d1.kind, .int .i64 s.d1.side, .int .i64 s.d1.step] #[.int .i64 most] 26 3
  (try clear s0 s1 s2 s3 s4 s5 s6); obtain ⟨s0, s1, s2, s3, s4, s5, s6⟩ := row7 Rs
  replace m0 := (Rm.cell 0).trans (show _ = some (Value.int .i64 most) from rfl)
  refine (callsIn_wide (n := 3)).1 ?_
  refine callsIn_of_wp_marks Try.func11 rfl trivial ?_ rfl
  simp only [Try.ntmps11, List.size_toArray, List.length_cons, List.length_nil, Nat.reduceAdd, Nat.reduceSub, Array.replicate_succ, Array.replicate_zero, List.push_toArray, List.append_toArray, List.nil_append, List.cons_append]
  gi_wp2
  refine ⟨trivial, (callsIn_wide.2 (HG _)).mono ?_⟩
  rintro e w1 ⟨g, rfl, RG, hg, hb⟩
  replace hb0 := below_step hb0 hb
  replace Rs := Rs.later hb
  replace Rm := Rm.later hb
  have hg2 : w.heap.size + 2 ≤ g := by simpa using hg
  have lg := RG.lt
  clear hb HG s0 s1 s2 s3 s4 s5 s6 hg
  gi_wp2
  obtain ⟨RB, RT, hb2⟩ := two_rows w1 #[.slice none 0 0] #[.bool true] 49 4
  replace hb0 := below_step hb0 hb2
  replace Rs := Rs.later hb2
  replace Rm := Rm.later hb2
  replace RG := RG.later hb2
  have hs8 := RT.lt
  clear hb2
  generalize (w1.alloc (.cells #[.slice none 0 0] 49)).alloc (.cells #[.bool true] 4) = w2 at *
  generalize w1.heap.size = gb at *
  have HR2 := Lib.hid (And.intro RG (And.intro RT (And.intro Rm Rs)))
  have HB2 := Lib.hid hb0
  have HRB := Lib.hid RB
  clear RG RT Rm Rs RB hb0
  refine wpIn_rangeRA rfl (by omega) (gf := 96) (lb := #[.pointer (some ⟨g, 0, none⟩)]) rfl trivial (enters_of Try.func96 (by kernel_rfl) rfl)
    (HQ.out g w2 HR2.out.1) (fun h1 h2 => h2.trans h1) (fun W l o o' hl _ _ _ => World.putObj_heap_other (by omega)) (fun W o hW => Below.heap_alloc W o _ (by omega)) (Below.refl _ _) (fun k => by rw [HF.out k]; rfl)
    (fun k ρ V => (∃ po co, ρ = (Value.slice po k co).ownBlock ∧ Row V gb #[.slice po k co] 49 ∧ OwnT w2.heap.size V (.slice po k co) (L.take k)) ∧ (Below w.heap.size w V ∧ w2.heap.size ≤ V.heap.size) ∧ (Row V g #[.int .i64 a, .int .i64 b] 75 ∧ Row V (gb + 1) #[.bool true] 4 ∧ Row V (w.heap.size + 1) #[.int .i64 most] 3 ∧ Row V w.heap.size #[.int .i64 s.n, .int .i64 s.d0.kind, .int .i64 s.d0.side, .int .i64 s.d0.step, .int .i64 s.d1.kind, .int .i64 s.d1.side, .int .i64 s.d1.step] 26) ∧ (k = 0 ∨ (k : Int) < most))
    (fun c k ρ V => c = .exit 0 ∧ (∃ po co M, ρ = (Value.slice po M co).ownBlock ∧ Row V gb #[.slice po M co] 49 ∧ OwnT w2.heap.size V (.slice po M co) (L.take M) ∧ M ≤ N ∧ 1 ≤ M ∧ most ≤ (M : Int) ∧ (M = 1 ∨ (M : Int) - 1 < most)) ∧ (Below w.heap.size w V ∧ w2.heap.size ≤ V.heap.size) ∧ (Row V g #[.int .i64 a, .int .i64 b] 75 ∧ Row V (gb + 1) #[.bool true] 4 ∧ Row V (w.heap.size + 1) #[.int .i64 most] 3 ∧ Row V w.heap.size #[.int .i64 s.n, .int .i64 s.d0.kind, .int .i64 s.d0.side, .int .i64 s.d0.step, .int .i64 s.d1.kind, .int .i64 s.d1.side, .int .i64 s.d1.step] 26))
    (fun k ρ V V' hs hst => by
      obtain ⟨⟨po, co, rfl, h1, h2⟩, ⟨h3, h4⟩, ⟨h5, h6, h7, h8⟩, h9⟩ := hs
      exact ⟨⟨po, co, rfl, (hst.block _ h1.lt (.inl (by omega))).trans h1, h2.stays hst⟩, ⟨hst.below h3 (Nat.le_refl _) (by omega), Nat.le_trans h4 hst.size⟩, ⟨(hst.block _ h5.lt (.inl (by omega))).trans h5, (hst.block _ h6.lt (.inl (by omega))).trans h6, (hst.block _ h7.lt (.inl (by omega))).trans h7, (hst.block _ h8.lt (.inl (by omega))).trans h8⟩, h9⟩)
    (fun c k ρ V V' hs hst => by
      obtain ⟨h0, ⟨po, co, M, rfl, h1, h2, h9⟩, ⟨h3, h4⟩, h5, h6, h7, h8⟩ := hs
      exact ⟨h0, ⟨po, co, M, rfl, (hst.block _ h1.lt (.inl (by omega))).trans h1, h2.stays hst, h9⟩, ⟨hst.below h3 (Nat.le_refl _) (by omega), Nat.le_trans h4 hst.size⟩, (hst.block _ h5.lt (.inl (by omega))).trans h5, (hst.block _ h6.lt (.inl (by omega))).trans h6, (hst.block _ h7.lt (.inl (by omega))).trans h7, (hst.block _ h8.lt (.inl (by omega))).trans h8⟩)
    (fun k ρ V hs => by obtain ⟨⟨po, co, rfl, h1, h2⟩, _⟩ := hs; exact h2.cellsy)
    (fun c k ρ V hs => by obtain ⟨_, ⟨po, co, M, rfl, h1, h2, _⟩, _⟩ := hs; exact h2.cellsy)
    none ⟨⟨none, 0, rfl, HRB.out, OwnT.nil _ _⟩, ⟨HB2.out, Nat.le_refl _⟩, HR2.out, .inl rfl⟩
    (fun k => .cells #[.int .i64 (L.getD k (0, 0)).1, .int .i64 (L.getD k (0, 0)).2] 27)
    (fun k b9 => { tmps := #[.agg #[.int .i64 s.n, .int .i64 s.d0.kind, .int .i64 s.d0.side, .int .i64 s.d0.step, .int .i64 s.d1.kind, .int .i64 s.d1.side, .int .i64 s.d1.step], .int .i64 most, .pointer (some ⟨w.heap.size, 0, none⟩), .pointer (some ⟨w.heap.size + 1, 0, none⟩), .bool false, .func (.func 96) #[] #[.pointer (some ⟨g, 0, none⟩)], .pointer (some ⟨gb, 0, none⟩), .pointer (some ⟨gb + 1, 0, none⟩), .int .i64 (k : Int), .pointer (some ⟨b9, 0, none⟩), undef, .agg #[.int .i64 s.n, .int .i64 s.d0.kind, .int .i64 s.d0.side, .int .i64 s.d0.step, .int .i64 s.d1.kind, .int .i64 s.d1.side, .int .i64 s.d1.step], .func (.func 96) #[] #[.pointer (some ⟨g, 0, none⟩)], .func (.func 96) #[] #[.pointer (some ⟨g, 0, none⟩)], .bool false, .func (.func 96) #[] #[.pointer (some ⟨g, 0, none⟩)], .int .i64 (k : Int), .agg #[.int .i64 (L.getD k (0, 0)).1, .int .i64 (L.getD k (0, 0)).2], undef, undef, undef, undef, undef, undef, undef, undef, undef, undef, undef, undef, undef, undef, undef, undef, undef, undef, undef, undef, undef, undef, undef, undef, undef, undef, undef, undef, undef, undef, undef, undef, undef, undef, undef], defers := [] }) ?assign ?body ?done ?stop
  case assign =>
    intro i k W K hK
    rw [HF.out k]
    gi_wp2
    exact hK
  case body =>
    rintro i k b9 ρ V hkN ⟨⟨po, co, rfl, RO, HO⟩, ⟨hB, hsz⟩, ⟨RG, RT, Rm, Rs⟩, hkm⟩ hbx hbb hne
    have RX : Row V b9 #[.int .i64 (L.getD k (0, 0)).1, .int .i64 (L.getD k (0, 0)).2] 27 := hbx
    have hG := HX.out.2.2 k hkN
    have hTk := HX.out.2.1 k (by omega)
    have hTk1 := HX.out.2.1 (k + 1) (by omega)
    generalize (L.getD k (0, 0)).1 = x at *
    generalize (L.getD k (0, 0)).2 = y at *
    have t0 := RT.cell 0
    have t0' := t0.trans (show _ = some (Value.bool true) from rfl)
    have tf := RT.frozen 0
    have o0 := (RO.cell 0).trans (show _ = some (Value.slice po k co) from rfl)
    have x0 := (RX.cell 0).trans (show _ = some (Value.int .i64 x) from rfl)
    have x1 := (RX.cell 1).trans (show _ = some (Value.int .i64 y) from rfl)
    have hbW := RX.lt
    have hoW := RO.lt
    have htW := RT.lt
    have HO1 := HO.set 0 (.bool true) (show gb + 1 < w2.heap.size by omega)
    have RO1 := RO.set_far ⟨gb + 1, 0, none⟩ (.bool true) (by simp)
    have RG1 := RG.set_far ⟨gb + 1, 0, none⟩ (.bool true) (by simp; omega)
    have RT1 : Row (V.setCell ⟨gb + 1, 0, none⟩ (.bool true)) (gb + 1) #[.bool true] 4 := RT.set 0 (.bool true)
    have Rm1 := Rm.set_far ⟨gb + 1, 0, none⟩ (.bool true) (by simp; omega)
    have Rs1 := Rs.set_far ⟨gb + 1, 0, none⟩ (.bool true) (by simp; omega)
    have hB1 := hB.setCell (p := ⟨gb + 1, 0, none⟩) (by simp; omega) (.bool true)
    have hsz1 : w2.heap.size ≤ (V.setCell ⟨gb + 1, 0, none⟩ (.bool true)).heap.size := by show _ ≤ (V.heap.modify _ _).size; rw [Array.size_modify]; exact hsz
    have hszE : (V.setCell ⟨gb + 1, 0, none⟩ (.bool true)).heap.size = V.heap.size := by show (V.heap.modify _ _).size = _; rw [Array.size_modify]
    obtain ⟨v', w3, hrun, hown, hgrow, hrow⟩ := appT_row (x, y) HO1 (by rw [hTk]; omega) hsz1
    rw [hszE] at hrun
    rw [← hG] at hown
    obtain ⟨pv, cv, hpv, _, _⟩ := hown.read
    rw [hTk1] at hpv
    subst hpv
    have RO3 := rowT_app HO1 hgrow RO1 (by omega)
    have RG3 := rowT_app HO1 hgrow RG1 (by omega)
    have RT3 := rowT_app HO1 hgrow RT1 (by omega)
    have Rm3 := rowT_app HO1 hgrow Rm1 (by omega)
    have Rs3 := rowT_app HO1 hgrow Rs1 (by omega)
    have d0 := (RO3.cell 0).trans (show _ = some (Value.slice po k co) from rfl)
    have df := RO3.frozen 0
    have mc := (Rm3.cell 0).trans (show _ = some (Value.int .i64 most) from rfl)
    have HT0 := turnT_app (B := w2.heap.size) HO1 hgrow hrow (g := gb) 0 (.slice pv (k + 1) cv) (by omega)
    have HT := Lib.hid (show Turn w2.heap.size (Value.slice po k co).ownBlock (Value.slice pv (k + 1) cv).ownBlock V (w3.setCell ⟨gb, 0, none⟩ (.slice pv (k + 1) cv)) from ⟨by rw [← hszE]; exact HT0.size, fun j h1 h2 h3 => (HT0.same j h1 (by rw [hszE]; exact h2) h3).trans (heap_setCell_other _ _ _ _ (by simp; omega)), HT0.row.imp id (fun ⟨r, e1, e2⟩ => ⟨r, e1, by rw [← hszE]; exact e2⟩)⟩)
    have HKF := Lib.hid (HT.out.keeps HO.cellsy)
    have F1 := Lib.hid (show (w3.setCell ⟨gb, 0, none⟩ (.slice pv (k + 1) cv)).heap[g]? = V.heap[g]? from (heap_setCell_other _ _ _ _ (by simp; omega)).trans (RG3.trans RG.symm))
    have F2 := Lib.hid (show Row (w3.setCell ⟨gb, 0, none⟩ (.slice pv (k + 1) cv)) gb #[.slice pv (k + 1) cv] 49 from RO3.set 0 (.slice pv (k + 1) cv))
    have F3 := Lib.hid (hown.set 0 (.slice pv (k + 1) cv) (show gb < w2.heap.size by omega))
    have F4 := Lib.hid ((hB1.trans ((appT_below HO1 (Below.refl w2.heap.size _) hsz1 hgrow).mono (by omega))).setCell (p := ⟨gb, 0, none⟩) (by simp; omega) (.slice pv (k + 1) cv))
    have F5 := Lib.hid (Nat.le_trans hsz HT.out.size)
    have F6 := Lib.hid (And.intro (RG3.set_far ⟨gb, 0, none⟩ (.slice pv (k + 1) cv) (by simp; omega)) (And.intro (RT3.set_far ⟨gb, 0, none⟩ (.slice pv (k + 1) cv) (by simp)) (And.intro (Rm3.set_far ⟨gb, 0, none⟩ (.slice pv (k + 1) cv) (by simp; omega)) (Rs3.set_far ⟨gb, 0, none⟩ (.slice pv (k + 1) cv) (by simp; omega)))))
    have HRUN := Lib.hid hrun
    have hk1 : ((k + 1 : Nat) : Int) = (k : Int) + 1 := by omega
    have hkx := Lib.hid hkm
    clear HO1 RO1 RG1 RT1 Rm1 Rs1 hB1 hsz1 hrun hown hgrow hrow RO3 RG3 RT3 Rm3 Rs3 HT0 RO HO hB hsz RG RT Rm Rs RX hbx hG hTk hTk1 hne t0 hkm hszE
    by_cases hge : most ≤ ((k + 1 : Nat) : Int)
    · have hge' : decide (most ≤ ((k + 1 : Nat) : Int)) = true := decide_eq_true hge
      have hge2 : most ≤ (k : Int) + 1 := by omega
      have hge2' : decide (most ≤ (k : Int) + 1) = true := decide_eq_true hge2
      have hgx := Lib.hid hge
      clear hge hk1
      gi_wp2_with ((with_reducible refine wpListIn_appR (o := ⟨some 28, _, _, _, _, _⟩) ?_ (.tmp 25) (.tmp 27) 49 ?_ (v := .slice po k co) (bv := .slice (some ⟨_, 0, none⟩) 1 1) ?_ ?_ HRUN.out ?_); (with_reducible rfl); (with_reducible rfl); rfl; rfl; clear HRUN)
      exact ⟨HKF.out, _, rfl, ⟨pv, cv, k + 1, rfl, F2.out, F3.out, by omega, by omega, hgx.out, by have := hkx.out; omega⟩, ⟨F4.out, F5.out⟩, F6.out⟩
    · have hge' : decide (most ≤ ((k + 1 : Nat) : Int)) = false := decide_eq_false hge
      have hge2 : ¬ most ≤ (k : Int) + 1 := by omega
      have hge2' : decide (most ≤ (k : Int) + 1) = false := decide_eq_false hge2
      have hgx := Lib.hid (show ((k + 1 : Nat) : Int) < most by omega)
      have hlt : ((k + 1 : Nat) : Int) < most := by omega
      clear hge hk1
      gi_wp2_with ((with_reducible refine wpListIn_appR (o := ⟨some 28, _, _, _, _, _⟩) ?_ (.tmp 25) (.tmp 27) 49 ?_ (v := .slice po k co) (bv := .slice (some ⟨_, 0, none⟩) 1 1) ?_ ?_ HRUN.out ?_); (with_reducible rfl); (with_reducible rfl); rfl; rfl; clear HRUN)
      exact ⟨F1.out, _, ⟨⟨pv, cv, rfl, F2.out, F3.out⟩, ⟨F4.out, F5.out⟩, F6.out, .inr hgx.out⟩, HT.out⟩
  case done =>
    rintro D ρ W hD ⟨⟨po, co, rfl, RO, HO⟩, ⟨hB, hsz⟩, ⟨RG, RT, Rm, Rs⟩, hkm⟩ hK
    have hM := Lib.hid hkm
    clear hkm RG
    have TG := HO.read
    have o0 := (RO.cell 0).trans (show _ = some (Value.slice po N co) from rfl)
    have hoW := RO.lt
    have hmW := Rm.lt
    have hDW := (Array.getElem?_eq_some_iff.1 hK).1
    obtain ⟨s0, s1, s2, s3, s4, s5, s6⟩ := row7 Rs
    have HTG := Lib.hid TG
    have HRo := Lib.hid (And.intro RO (And.intro RT Rm))
    have HBw := Lib.hid hB
    have HKd := Lib.hid hK
    clear TG RO HO RT Rm hB o0 hK
    gi_wp2
    refine ⟨trivial, (callsIn_wide.2 (HN _)).mono ?_⟩
    rintro e wA ⟨p9, c9, rfl, TW, hb⟩
    have TG := Lib.hid (HTG.out.later hb)
    have RO := HRo.out.1.later hb
    have RT := HRo.out.2.1.later hb
    have Rm := HRo.out.2.2.later hb
    have hBA := Lib.hid (below_step HBw.out hb)
    have hKA := (hb.block _ hDW).trans HKd.out
    have hTW := Lib.hid TW
    have o0 := (RO.cell 0).trans (show _ = some (Value.slice po N co) from rfl)
    have t0 := (RT.cell 0).trans (show _ = some (Value.bool true) from rfl)
    have m0c := (Rm.cell 0).trans (show _ = some (Value.int .i64 most) from rfl)
    have mf := Rm.frozen 0
    have lo := RO.lt
    have lt := RT.lt
    have lm := Rm.lt
    have hDA : D < wA.heap.size := Nat.lt_of_lt_of_le hDW hb.size
    clear hb TW HTG HRo HBw HKd s0 s1 s2 s3 s4 s5 s6 HN
    by_cases q1 : most < 1
    · have q1' : decide (most < 1) = true := decide_eq_true q1
      obtain ⟨wC, hwC⟩ : ∃ wC, wC = wA.setCell ⟨w.heap.size + 1, 0, none⟩ (.int .i64 1) := ⟨_, rfl⟩
      have TGC := Lib.hid (show TS wC (.slice po N co) (L.take N) by rw [hwC]; exact ts_set TG.out Rm (.int .i64 1))
      have TWC := Lib.hid (show TS wC (.slice p9 N c9) L by rw [hwC]; exact ts_set hTW.out Rm (.int .i64 1))
      have ROC : Row wC gb #[.slice po N co] 49 := by rw [hwC]; exact RO.set_far ⟨w.heap.size + 1, 0, none⟩ (.int .i64 1) (by simp; omega)
      have RTC : Row wC (gb + 1) #[.bool true] 4 := by rw [hwC]; exact RT.set_far ⟨w.heap.size + 1, 0, none⟩ (.int .i64 1) (by simp; omega)
      have hBC := Lib.hid (show Below w.heap.size w wC by rw [hwC]; exact hBA.out.setCell (p := ⟨w.heap.size + 1, 0, none⟩) (by simp) (.int .i64 1))
      have hKC := Lib.hid (show wC.heap[D]? = some (.deferred (some [])) by rw [hwC]; exact (heap_setCell_other _ _ _ _ (by simp; omega)).trans hKA)
      have hDC : D < wC.heap.size := (Array.getElem?_eq_some_iff.1 hKC.out).1
      have q2 : ¬ (1 : Int) < (N : Int) := by have := hM.out; omega
      have q2' : decide ((1 : Int) < (N : Int)) = false := decide_eq_false q2
      have TWE := Lib.hid (show TS wC (.slice p9 N c9) (L.take N) by rw [HX.out.1]; exact TWC.out)
      gi_wp2
      refine ⟨trivial, (callsIn_wide.2 (HA _)).mono ?_⟩
      rintro e wD ⟨rfl, hb⟩
      rw [← hwC] at hb
      have TGD := TGC.out.later hb
      have TWD := TWE.out.later hb
      have o9 := ((ROC.later hb).cell 0).trans (show _ = some (Value.slice po N co) from rfl)
      have t9 := ((RTC.later hb).cell 0).trans (show _ = some (Value.bool true) from rfl)
      have hBD := Lib.hid (below_step hBC.out hb)
      have hKD := Lib.hid ((hb.block _ hDC).trans hKC.out)
      have hDD : D < wD.heap.size := Nat.lt_of_lt_of_le hDC hb.size
      have HSS := HSm.out (L.take N) _ _ (by rw [List.length_take]; omega) wD TGD TWD
      clear hb TGD TWD TGC TWE ROC RTC hBC hKC
      (try clear o0 t0 m0c mf)
      gi_wp2
      refine ⟨trivial, (callsIn_wide.2 HSS).mono ?_⟩
      rintro e wF ⟨rfl, hb⟩
      have hBF := below_step hBD.out hb
      have hKF := (hb.block _ hDD).trans hKD.out
      clear hb o9 t9 HSS
      gi_wp2
      refine ⟨by simp, .inl ⟨_, _, rfl, run_takeDeferred hKF, ?_⟩⟩
      refine ⟨.bool true, ?_, rfl, hBF.trans (belowK_b (w := w) (Nat.le_refl _) wF D _ _ (by omega) hKF rfl rfl)⟩
      simp only [results, Try.results11]
      simp [go_sem]
    · obtain ⟨mm, rfl⟩ : ∃ mm : Nat, most = (mm : Int) := ⟨most.toNat, by omega⟩
      have q1' : decide ((mm : Int) < 1) = false := decide_eq_false q1
      have TGC := TG
      have TWC := hTW
      have ROC := RO
      have RTC := RT
      have hBC := hBA
      have hKC := Lib.hid hKA
      have hDC := hDA
      have q2 : ¬ (mm : Int) < (N : Int) := by have := hM.out; omega
      have q2' : decide ((mm : Int) < (N : Int)) = false := decide_eq_false q2
      have TWE := Lib.hid (show TS wA (.slice p9 N c9) (L.take N) by rw [HX.out.1]; exact TWC.out)
      gi_wp2
      refine ⟨trivial, (callsIn_wide.2 (HA _)).mono ?_⟩
      rintro e wD ⟨rfl, hb⟩
      have TGD := TGC.out.later hb
      have TWD := TWE.out.later hb
      have o9 := ((ROC.later hb).cell 0).trans (show _ = some (Value.slice po N co) from rfl)
      have t9 := ((RTC.later hb).cell 0).trans (show _ = some (Value.bool true) from rfl)
      have hBD := Lib.hid (below_step hBC.out hb)
      have hKD := Lib.hid ((hb.block _ hDC).trans hKC.out)
      have hDD : D < wD.heap.size := Nat.lt_of_lt_of_le hDC hb.size
      have HSS := HSm.out (L.take N) _ _ (by rw [List.length_take]; omega) wD TGD TWD
      clear hb TGD TWD TGC TWE ROC RTC hBC hKC
      (try clear o0 t0 m0c mf)
      gi_wp2
      refine ⟨trivial, (callsIn_wide.2 HSS).mono ?_⟩
      rintro e wF ⟨rfl, hb⟩
      have hBF := below_step hBD.out hb
      have hKF := (hb.block _ hDD).trans hKD.out
      clear hb o9 t9 HSS
      gi_wp2
      refine ⟨by simp, .inl ⟨_, _, rfl, run_takeDeferred hKF, ?_⟩⟩
      refine ⟨.bool true, ?_, rfl, hBF.trans (belowK_b (w := w) (Nat.le_refl _) wF D _ _ (by omega) hKF rfl rfl)⟩
      simp only [results, Try.results11]
      simp [go_sem]
  case stop =>
    rintro D c k ρ W hD _ ⟨rfl, ⟨po, co, M, rfl, RO, HO, hM1, hM2, hM3, hM4⟩, ⟨hB, hsz⟩, RG, RT, Rm, Rs⟩ hK
    have hM := Lib.hid (And.intro hM1 (And.intro hM2 (And.intro hM3 hM4)))
    clear hM1 hM2 hM3 hM4 RG
    have TG := HO.read
    have o0 := (RO.cell 0).trans (show _ = some (Value.slice po M co) from rfl)
    have hoW := RO.lt
    have hmW := Rm.lt
    have hDW := (Array.getElem?_eq_some_iff.1 hK).1
    obtain ⟨s0, s1, s2, s3, s4, s5, s6⟩ := row7 Rs
    have HTG := Lib.hid TG
    have HRo := Lib.hid (And.intro RO (And.intro RT Rm))
    have HBw := Lib.hid hB
    have HKd := Lib.hid hK
    clear TG RO HO RT Rm hB o0 hK
    gi_wp2
    refine ⟨trivial, (callsIn_wide.2 (HN _)).mono ?_⟩
    rintro e wA ⟨p9, c9, rfl, TW, hb⟩
    have TG := Lib.hid (HTG.out.later hb)
    have RO := HRo.out.1.later hb
    have RT := HRo.out.2.1.later hb
    have Rm := HRo.out.2.2.later hb
    have hBA := Lib.hid (below_step HBw.out hb)
    have hKA := (hb.block _ hDW).trans HKd.out
    have hTW := Lib.hid TW
    have o0 := (RO.cell 0).trans (show _ = some (Value.slice po M co) from rfl)
    have t0 := (RT.cell 0).trans (show _ = some (Value.bool true) from rfl)
    have m0c := (Rm.cell 0).trans (show _ = some (Value.int .i64 most) from rfl)
    have mf := Rm.frozen 0
    have lo := RO.lt
    have lt := RT.lt
    have lm := Rm.lt
    have hDA : D < wA.heap.size := Nat.lt_of_lt_of_le hDW hb.size
    clear hb TW HTG HRo HBw HKd s0 s1 s2 s3 s4 s5 s6 HN
    by_cases q1 : most < 1
    · have q1' : decide (most < 1) = true := decide_eq_true q1
      obtain ⟨wC, hwC⟩ : ∃ wC, wC = wA.setCell ⟨w.heap.size + 1, 0, none⟩ (.int .i64 1) := ⟨_, rfl⟩
      have TGC := Lib.hid (show TS wC (.slice po M co) (L.take M) by rw [hwC]; exact ts_set TG.out Rm (.int .i64 1))
      have TWC := Lib.hid (show TS wC (.slice p9 N c9) L by rw [hwC]; exact ts_set hTW.out Rm (.int .i64 1))
      have ROC : Row wC gb #[.slice po M co] 49 := by rw [hwC]; exact RO.set_far ⟨w.heap.size + 1, 0, none⟩ (.int .i64 1) (by simp; omega)
      have RTC : Row wC (gb + 1) #[.bool true] 4 := by rw [hwC]; exact RT.set_far ⟨w.heap.size + 1, 0, none⟩ (.int .i64 1) (by simp; omega)
      have hBC := Lib.hid (show Below w.heap.size w wC by rw [hwC]; exact hBA.out.setCell (p := ⟨w.heap.size + 1, 0, none⟩) (by simp) (.int .i64 1))
      have hKC := Lib.hid (show wC.heap[D]? = some (.deferred (some [])) by rw [hwC]; exact (heap_setCell_other _ _ _ _ (by simp; omega)).trans hKA)
      have hDC : D < wC.heap.size := (Array.getElem?_eq_some_iff.1 hKC.out).1
      obtain rfl : M = 1 := by have := hM.out; omega
      by_cases q2 : (1 : Int) < (N : Int)
      · have q2' : decide ((1 : Int) < (N : Int)) = true := decide_eq_true q2
        have hc9 : N ≤ c9 := by obtain ⟨p', c', e, hc, _⟩ := TWC.out; cases e; omega
        have TWE := Lib.hid (show TS wC (.slice p9 1 c9) (L.take 1) from ts_take TWC.out 1 (by omega))
        gi_wp2
        refine ⟨trivial, (callsIn_wide.2 (HA _)).mono ?_⟩
        rintro e wD ⟨rfl, hb⟩
        rw [← hwC] at hb
        have TGD := TGC.out.later hb
        have TWD := TWE.out.later hb
        have o9 := ((ROC.later hb).cell 0).trans (show _ = some (Value.slice po 1 co) from rfl)
        have t9 := ((RTC.later hb).cell 0).trans (show _ = some (Value.bool true) from rfl)
        have hBD := Lib.hid (below_step hBC.out hb)
        have hKD := Lib.hid ((hb.block _ hDC).trans hKC.out)
        have hDD : D < wD.heap.size := Nat.lt_of_lt_of_le hDC hb.size
        have HSS := HSm.out (L.take 1) _ _ (by rw [List.length_take]; omega) wD TGD TWD
        clear hb TGD TWD TGC TWE ROC RTC hBC hKC
        (try clear o0 t0 m0c mf)
        gi_wp2
        refine ⟨trivial, (callsIn_wide.2 HSS).mono ?_⟩
        rintro e wF ⟨rfl, hb⟩
        have hBF := below_step hBD.out hb
        have hKF := (hb.block _ hDD).trans hKD.out
        clear hb o9 t9 HSS
        gi_wp2
        refine ⟨by simp, .inl ⟨_, _, rfl, run_takeDeferred hKF, ?_⟩⟩
        refine ⟨.bool true, ?_, rfl, hBF.trans (belowK_b (w := w) (Nat.le_refl _) wF D _ _ (by omega) hKF rfl rfl)⟩
        simp only [results, Try.results11]
        simp [go_sem]
      · have q2' : decide ((1 : Int) < (N : Int)) = false := decide_eq_false q2
        have hMN : 1 = N := by have := hM.out; omega
        have TWE := Lib.hid (show TS wC (.slice p9 N c9) (L.take 1) by rw [hMN, HX.out.1]; exact TWC.out)
        clear hMN
        gi_wp2
        refine ⟨trivial, (callsIn_wide.2 (HA _)).mono ?_⟩
        rintro e wD ⟨rfl, hb⟩
        rw [← hwC] at hb
        have TGD := TGC.out.later hb
        have TWD := TWE.out.later hb
        have o9 := ((ROC.later hb).cell 0).trans (show _ = some (Value.slice po 1 co) from rfl)
        have t9 := ((RTC.later hb).cell 0).trans (show _ = some (Value.bool true) from rfl)
        have hBD := Lib.hid (below_step hBC.out hb)
        have hKD := Lib.hid ((hb.block _ hDC).trans hKC.out)
        have hDD : D < wD.heap.size := Nat.lt_of_lt_of_le hDC hb.size
        have HSS := HSm.out (L.take 1) _ _ (by rw [List.length_take]; omega) wD TGD TWD
        clear hb TGD TWD TGC TWE ROC RTC hBC hKC
        (try clear o0 t0 m0c mf)
        gi_wp2
        refine ⟨trivial, (callsIn_wide.2 HSS).mono ?_⟩
        rintro e wF ⟨rfl, hb⟩
        have hBF := below_step hBD.out hb
        have hKF := (hb.block _ hDD).trans hKD.out
        clear hb o9 t9 HSS
        gi_wp2
        refine ⟨by simp, .inl ⟨_, _, rfl, run_takeDeferred hKF, ?_⟩⟩
        refine ⟨.bool true, ?_, rfl, hBF.trans (belowK_b (w := w) (Nat.le_refl _) wF D _ _ (by omega) hKF rfl rfl)⟩
        simp only [results, Try.results11]
        simp [go_sem]
    · obtain ⟨mm, rfl⟩ : ∃ mm : Nat, most = (mm : Int) := ⟨most.toNat, by omega⟩
      have q1' : decide ((mm : Int) < 1) = false := decide_eq_false q1
      have TGC := TG
      have TWC := hTW
      have ROC := RO
      have RTC := RT
      have hBC := hBA
      have hKC := Lib.hid hKA
      have hDC := hDA
      obtain rfl : M = mm := by have := hM.out; omega
      by_cases q2 : (M : Int) < (N : Int)
      · have q2' : decide ((M : Int) < (N : Int)) = true := decide_eq_true q2
        have hc9 : N ≤ c9 := by obtain ⟨p', c', e, hc, _⟩ := TWC.out; cases e; omega
        have TWE := Lib.hid (show TS wA (.slice p9 M c9) (L.take M) from ts_take TWC.out M (by omega))
        have qM : M < N := by omega
        gi_wp2
        refine ⟨trivial, (callsIn_wide.2 (HA _)).mono ?_⟩
        rintro e wD ⟨rfl, hb⟩
        have TGD := TGC.out.later hb
        have TWD := TWE.out.later hb
        have o9 := ((ROC.later hb).cell 0).trans (show _ = some (Value.slice po M co) from rfl)
        have t9 := ((RTC.later hb).cell 0).trans (show _ = some (Value.bool true) from rfl)
        have hBD := Lib.hid (below_step hBC.out hb)
        have hKD := Lib.hid ((hb.block _ hDC).trans hKC.out)
        have hDD : D < wD.heap.size := Nat.lt_of_lt_of_le hDC hb.size
        have HSS := HSm.out (L.take M) _ _ (by rw [List.length_take]; omega) wD TGD TWD
        clear hb TGD TWD TGC TWE ROC RTC hBC hKC
        (try clear o0 t0 m0c mf)
        gi_wp2
        refine ⟨trivial, (callsIn_wide.2 HSS).mono ?_⟩
        rintro e wF ⟨rfl, hb⟩
        have hBF := below_step hBD.out hb
        have hKF := (hb.block _ hDD).trans hKD.out
        clear hb o9 t9 HSS
        gi_wp2
        refine ⟨by simp, .inl ⟨_, _, rfl, run_takeDeferred hKF, ?_⟩⟩
        refine ⟨.bool true, ?_, rfl, hBF.trans (belowK_b (w := w) (Nat.le_refl _) wF D _ _ (by omega) hKF rfl rfl)⟩
        simp only [results, Try.results11]
        simp [go_sem]
      · have q2' : decide ((M : Int) < (N : Int)) = false := decide_eq_false q2
        have hMN : M = N := by have := hM.out; omega
        have TWE := Lib.hid (show TS wA (.slice p9 N c9) (L.take M) by rw [hMN, HX.out.1]; exact TWC.out)
        clear hMN
        gi_wp2
        refine ⟨trivial, (callsIn_wide.2 (HA _)).mono ?_⟩
        rintro e wD ⟨rfl, hb⟩
        have TGD := TGC.out.later hb
        have TWD := TWE.out.later hb
        have o9 := ((ROC.later hb).cell 0).trans (show _ = some (Value.slice po M co) from rfl)
        have t9 := ((RTC.later hb).cell 0).trans (show _ = some (Value.bool true) from rfl)
        have hBD := Lib.hid (below_step hBC.out hb)
        have hKD := Lib.hid ((hb.block _ hDC).trans hKC.out)
        have hDD : D < wD.heap.size := Nat.lt_of_lt_of_le hDC hb.size
        have HSS := HSm.out (L.take M) _ _ (by rw [List.length_take]; omega) wD TGD TWD
        clear hb TGD TWD TGC TWE ROC RTC hBC hKC
        (try clear o0 t0 m0c mf)
        gi_wp2
        refine ⟨trivial, (callsIn_wide.2 HSS).mono ?_⟩
        rintro e wF ⟨rfl, hb⟩
        have hBF := below_step hBD.out hb
        have hKF := (hb.block _ hDD).trans hKD.out
        clear hb o9 t9 HSS
        gi_wp2
        refine ⟨by simp, .inl ⟨_, _, rfl, run_takeDeferred hKF, ?_⟩⟩
        refine ⟨.bool true, ?_, rfl, hBF.trans (belowK_b (w := w) (Nat.le_refl _) wF D _ _ (by omega) hKF rfl rfl)⟩
        simp only [results, Try.results11]
        simp [go_sem]
theorem ts_sliced2 {f : FuncId} {args : Array Value} {w : World} {l : List (Int × Int)} {N : Nat} (hN : l.length = N) (h : Calls Try.prog f args w fun e w' => ∃ v, e = .returned v ∧ TS w' v l ∧ Below w.heap.size w w') : Calls Try.prog f args w fun e w' => ∃ p c, e = .returned (.slice p N c) ∧ TS w' (.slice p N c) l ∧ Below w.heap.size w w' := by
  refine h.mono ?_
  rintro e w' ⟨v, rfl, hx, hb⟩
  obtain ⟨p, c, rfl, _, _⟩ := ts_read hx
  rw [hN] at hx ⊢
  exact ⟨p, c, rfl, hx, hb⟩
theorem gridWalks_any (s : Sp) (most : Int) (m0 : -9223372036854775808 ≤ most) (m1 : most ≤ 9223372036854775807) (w : World) : Calls Try.prog 11 #[sv s, .int .i64 most] w fun e w' => e = .returned (.bool true) ∧ Below w.heap.size w w' := by
  have ra := wA_range s
  have rb := wB_range s
  have hc := (walk_cnt ra.1 ra.2 rb.1 rb.2).2
  exact gwalks_t s most (wA s) (wB s) (walkN (wA s) (wB s)) _ (walF (wA s) (wB s)) rfl hc m0 m1 (fun _ => rfl) (gwalk_t s) (fun g w0 R => walk1_in _ _ ra.1 ra.2 rb.1 rb.2 2 g w0 R) (fun w => ts_sliced2 rfl (rnodes_t s w)) w
end Go.Proofs.Ytbekocknfpekoaa
