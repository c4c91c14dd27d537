/- GR2, GR3, GR4: what the theorem needs of these texts. No conditions beyond those that are written. -/
import Derived.Test.YtbekocknfpekoaaBR9d
namespace Go.Proofs.Ytbekocknfpekoaa
set_option linter.unusedVariables false
set_option linter.unusedSimpArgs false
open Go.RowKit
attribute [local go_sem] Oper.semAt_some
theorem rnodes_no (s : Sp)
    (HS : ∀ w, Calls Try.prog 19 #[sv s] w fun e w' => e = .returned (.bool false) ∧ Below w.heap.size w w') (w : World) :
    Calls Try.prog 36 #[sv s] w fun e w' => ∃ v, e = .returned v ∧ TS w' v [] ∧ Below w.heap.size w w' := by
  unfold sv at *
  obtain ⟨Rc, hb0⟩ := one_row w #[.int .i64 s.n, .int .i64 s.d0.kind, .int .i64 s.d0.side, .int .i64 s.d0.step, .int .i64 s.d1.kind, .int .i64 s.d1.side, .int .i64 s.d1.step] 26
  (try clear c0 c1 c2 c3 c4 c5 c6); obtain ⟨c0, c1, c2, c3, c4, c5, c6⟩ := row7 Rc
  go_enter Try.func36, Try.ntmps36
  go_wp2_with fail
  refine (HS _).mono ?_
  rintro e w1 ⟨rfl, hb⟩
  replace Rc := Rc.later hb
  replace hb0 := below_step hb0 hb
  clear hb
  have lc := Rc.lt
  (try clear c0 c1 c2 c3 c4 c5 c6); obtain ⟨c0, c1, c2, c3, c4, c5, c6⟩ := row7 Rc
  go_wp2
  go_ret
  exact ⟨_, rfl, TS.nil _, hb0⟩
set_option maxRecDepth 100000 in
set_option maxHeartbeats 16000000 in
theorem rnodes_ok (s : Sp) (a b : Int)
    (HS : ∀ w, Calls Try.prog 19 #[sv s] w fun e w' => e = .returned (.bool true) ∧ Below w.heap.size w w')
    (HD0 : ∀ w, Calls Try.prog 57 #[dv s.d0] w fun e w' => e = .returned (.int .i64 a) ∧ Below w.heap.size w w')
    (HD1 : ∀ w, Calls Try.prog 57 #[dv s.d1] w fun e w' => e = .returned (.int .i64 b) ∧ Below w.heap.size w w')
    (h0 : 0 ≤ a) (h1 : a ≤ 128) (h2 : 0 ≤ b) (h3 : b ≤ 128) (w : World) :
    Calls Try.prog 36 #[sv s] w fun e w' => ∃ v, e = .returned v ∧ TS w' v (walkN a b) ∧ Below w.heap.size w w' := by
  obtain ⟨hc1, hc2⟩ := walk_cnt (show -1 ≤ a by omega) h1 h2 h3
  have hlen := walk_len a b
  have hPS : ∀ h : Nat, posF a b (h + 1) = posF a b h + cntH a b (h : Int) := fun _ => rfl
  have hTL : ∀ m, m ≤ (walkN a b).length → ((walkN a b).take m).length = m := fun m hm => by rw [List.length_take]; omega
  have hTF : (walkN a b).take (posF a b (a + b + 1).toNat) = walkN a b := by rw [← hlen]; exact take_full _
  have hTN : ∀ (h k : Nat), (h : Int) ≤ a + b → k < cntH a b (h : Int) → (walkN a b).take (posF a b h + k + 1) = (walkN a b).take (posF a b h + k) ++ [(max ((h : Int) - b) 0 + (k : Int), (h : Int) - (max ((h : Int) - b) 0 + (k : Int)))] := fun h k hh hk => take_snoc _ _ _ (@upto_get a b h (a + b + 1).toNat k (by omega) hk)
  have hPL : ∀ h k : Nat, (h : Int) ≤ a + b → k ≤ cntH a b (h : Int) → posF a b h + k ≤ (walkN a b).length := fun h k hh hk => by
    rw [hlen]
    have m := posF_mono a b (show h + 1 ≤ (a + b + 1).toNat by omega)
    have := hPS h
    omega
  obtain ⟨A, hA⟩ : ∃ A : Nat, a = (A : Int) := ⟨a.toNat, by omega⟩
  obtain ⟨T, hT⟩ : ∃ T : Nat, a + b = (T : Int) := ⟨(a + b).toNat, by omega⟩
  have hTz : (a + b + 1).toNat = T + 1 := by omega
  rw [hTz] at hTF hlen
  have hcH : ∀ h : Nat, cntH a b (h : Int) = (min (h : Int) a - max ((h : Int) - b) 0 + 1).toNat := fun _ => rfl
  have wT : IntKind.i64.wrap (a + b) = (T : Int) := by rw [IntWalk.i64_in _ (by omega), hT]
  generalize walkN a b = L at *
  have HX := Lib.hid (And.intro hTL (And.intro hTF (And.intro hTN (And.intro hPL (And.intro hPS (And.intro hcH (And.intro hc2 hlen)))))))
  have HA := Lib.hid (And.intro hA (And.intro hT (And.intro h1 (And.intro h2 h3))))
  clear hTL hTF hTN hPL hPS hcH hc1 hc2 hlen hA hT h0 h1 h2 h3 hTz
  unfold sv dv at *
  obtain ⟨Rc, hb0⟩ := one_row w #[.int .i64 s.n, .int .i64 s.d0.kind, .int .i64 s.d0.side, .int .i64 s.d0.step, .int .i64 s.d1.kind, .int .i64 s.d1.side, .int .i64 s.d1.step] 26
  (try clear c0 c1 c2 c3 c4 c5 c6); obtain ⟨c0, c1, c2, c3, c4, c5, c6⟩ := row7 Rc
  go_enter Try.func36, Try.ntmps36
  go_wp2_with fail
  refine (HS _).mono ?_
  rintro e w1 ⟨rfl, hb⟩
  replace Rc := Rc.later hb
  replace hb0 := below_step hb0 hb
  clear hb
  have lc := Rc.lt
  (try clear c0 c1 c2 c3 c4 c5 c6); obtain ⟨c0, c1, c2, c3, c4, c5, c6⟩ := row7 Rc
  go_wp2_with fail
  refine (HD0 _).mono ?_
  rintro e w2 ⟨rfl, hb⟩
  replace Rc := Rc.later hb
  replace hb0 := below_step hb0 hb
  clear hb
  have lc := Rc.lt
  (try clear c0 c1 c2 c3 c4 c5 c6); obtain ⟨c0, c1, c2, c3, c4, c5, c6⟩ := row7 Rc
  go_wp2_with fail
  refine (HD1 _).mono ?_
  rintro e w3 ⟨rfl, hb⟩
  replace Rc := Rc.later hb
  replace hb0 := below_step hb0 hb
  clear hb
  have lc := Rc.lt
  (try clear c0 c1 c2 c3 c4 c5 c6); obtain ⟨c0, c1, c2, c3, c4, c5, c6⟩ := row7 Rc
  have HB := Lib.hid hb0
  have HZ0 := Lib.hid hb0.size
  have HO := Lib.hid (show OwnT w3.heap.size w3 (.slice none 0 0) (L.take (posF a b 0)) from by rw [show posF a b 0 = 0 from rfl, List.take_zero]; exact OwnT.nil _ _)
  clear Rc hb0 c0 c1 c2 c3 c4 c5 c6 lc HS HD0 HD1
  have HZ := Lib.hid (Nat.le_refl w3.heap.size)
  go_wp2_with fail
  go_loopw [6, 3] (fun iv sv' wr => ∃ (h : Nat) (p : Option Addr) (c : Nat), iv = .int .i64 (h : Int) ∧ sv' = .slice p (posF a b h) c ∧ h ≤ T + 1 ∧ Hid (OwnT w3.heap.size wr (.slice p (posF a b h) c) (L.take (posF a b h))) ∧ Hid (Below w.heap.size w wr) ∧ Hid (w3.heap.size ≤ wr.heap.size)) (fun iv _ _ => T + 1 - (intOf iv).toNat)
  case atStart => exact ⟨0, none, 0, rfl, rfl, Nat.zero_le _, HO, HB, HZ⟩
  case round =>
    clear HO HB HZ
    obtain ⟨h, p, c, rfl, rfl, hh, hO, hB, hZ⟩ := hrel
    by_cases hlt : h ≤ T
    · have hlt' : (h : Int) ≤ (T : Int) := by omega
      have hh256 : (h : Int) ≤ 256 := by have := HA.out; omega
      go_wp2_with fail
      go_loopw [7, 3] (fun iv sv' wr => ∃ (i m : Nat) (p : Option Addr) (c : Nat), iv = .int .i64 (i : Int) ∧ sv' = .slice p m c ∧ Hid (i ≤ A + 1 ∧ m = posF a b h + (min (i : Int) (min (h : Int) a + 1) - max ((h : Int) - b) 0).toNat) ∧ Hid (OwnT w3.heap.size wr (.slice p m c) (L.take m)) ∧ Hid (Below w.heap.size w wr) ∧ Hid (w3.heap.size ≤ wr.heap.size)) (fun iv _ _ => A + 1 - (intOf iv).toNat)
      case atStart => exact ⟨0, _, p, c, rfl, rfl, Lib.hid ⟨Nat.zero_le _, by omega⟩, hO, hB, hZ⟩
      case round =>
        clear hO hB hZ
        obtain ⟨i, m, p, c, rfl, rfl, hm, hO, hB, hZ⟩ := hrel
        obtain ⟨hA1, hT1, ha1, hb1, hb2⟩ := HA.out
        obtain ⟨hi, hmm⟩ := hm.out
        have ws : IntKind.i64.wrap ((h : Int) - (i : Int)) = (h : Int) - (i : Int) := IntWalk.i64_in _ (by omega)
        have wi : IntKind.i64.wrap ((i : Int) + 1) = (i : Int) + 1 := IntWalk.i64_in _ (by omega)
        have hcc := HX.out.2.2.2.2.2.1 h
        by_cases hle : i ≤ A
        · have g0 : (i : Int) ≤ a := by omega
          have g0' : decide ((i : Int) ≤ a) = true := decide_eq_true g0
          by_cases g1 : 0 ≤ (h : Int) - (i : Int)
          · have g1' : decide (0 ≤ (h : Int) - (i : Int)) = true := decide_eq_true g1
            by_cases g2 : (h : Int) - (i : Int) ≤ b
            · have g2' : decide ((h : Int) - (i : Int) ≤ b) = true := decide_eq_true g2
              obtain ⟨k, hk⟩ : ∃ k : Nat, (k : Int) = (i : Int) - max ((h : Int) - b) 0 := ⟨((i : Int) - max ((h : Int) - b) 0).toNat, by omega⟩
              have hkc : k < cntH a b (h : Int) := by rw [hcc]; omega
              obtain rfl : m = posF a b h + k := by omega
              have hN := HX.out.2.2.1 h k (by omega) hkc
              have hLe := HX.out.2.2.2.1 h (k + 1) (by omega) (by omega)
              have hl0 := HX.out.1 (posF a b h + k) (by omega)
              have hl1 := HX.out.1 (posF a b h + k + 1) (by omega)
              have hc2 := HX.out.2.2.2.2.2.2.1
              rw [show max ((h : Int) - b) 0 + (k : Int) = (i : Int) by omega] at hN
              obtain ⟨v', w4, hrun, hown, hgrow⟩ := appT_one ((i : Int), (h : Int) - (i : Int)) hO.out (by rw [hl0]; omega) hZ.out
              rw [← hN] at hown
              obtain ⟨pv, cv, hpv, _, _⟩ := hown.read
              rw [hl1] at hpv
              subst hpv
              have hB4 := Lib.hid (hB.out.trans ((appT_below hO.out (Below.refl w3.heap.size _) hZ.out hgrow).mono (by have := HZ0.out; omega)))
              have hZ4 := Lib.hid (show w3.heap.size ≤ w4.heap.size from Nat.le_trans hZ.out (Nat.le_trans (by simp) hgrow.size))
              have hO4 := Lib.hid hown
              have HRUN := Lib.hid hrun
              have hm4 := Lib.hid (show i + 1 ≤ A + 1 ∧ posF a b h + k + 1 = posF a b h + (min ((i + 1 : Nat) : Int) (min (h : Int) a + 1) - max ((h : Int) - b) 0).toNat by omega)
              clear hrun hown hgrow hO hB hZ hN hl0 hl1 hLe hkc hk hcc hmm hA1 hT1
              dsimp only at HRUN
              have tok : True := trivial
              go_wp2_with (have _t := tok; at_builtin; refine wpList_appS rfl (.tmp 42) (.tmp 48) 49 rfl rfl rfl HRUN.out ?_; clear tok HRUN)
              exact ⟨⟨i + 1, posF a b h + k + 1, pv, cv, by simp, rfl, hm4, hO4, hB4, hZ4⟩, by simp [intOf]; omega⟩
            · have g2' : decide ((h : Int) - (i : Int) ≤ b) = false := decide_eq_false g2
              have hm4 := Lib.hid (show i + 1 ≤ A + 1 ∧ m = posF a b h + (min ((i + 1 : Nat) : Int) (min (h : Int) a + 1) - max ((h : Int) - b) 0).toNat by omega)
              clear hcc hmm hA1 hT1
              go_wp2
              exact ⟨⟨i + 1, m, p, c, by simp, rfl, hm4, hO, hB, hZ⟩, by simp [intOf]; omega⟩
          · have g1' : decide (0 ≤ (h : Int) - (i : Int)) = false := decide_eq_false g1
            have hm4 := Lib.hid (show i + 1 ≤ A + 1 ∧ m = posF a b h + (min ((i + 1 : Nat) : Int) (min (h : Int) a + 1) - max ((h : Int) - b) 0).toNat by omega)
            clear hcc hmm hA1 hT1
            go_wp2
            exact ⟨⟨i + 1, m, p, c, by simp, rfl, hm4, hO, hB, hZ⟩, by simp [intOf]; omega⟩
        · have g0 : ¬ (i : Int) ≤ a := by omega
          have g0' : decide ((i : Int) ≤ a) = false := decide_eq_false g0
          have hps := HX.out.2.2.2.2.1 h
          have hmp : m = posF a b (h + 1) := by rw [hps, hcc]; omega
          have wh : IntKind.i64.wrap ((h : Int) + 1) = (h : Int) + 1 := IntWalk.i64_in _ (by omega)
          rw [hmp] at hO ⊢
          clear hcc hmm hA1 hT1 hps hmp hm
          go_wp2
          exact ⟨⟨h + 1, p, c, by simp, rfl, by omega, hO, hB, hZ⟩, by simp [intOf]; omega⟩
    · obtain rfl : h = T + 1 := by omega
      have hlt' : ¬ ((T + 1 : Nat) : Int) ≤ (T : Int) := by omega
      have hlt2 : decide (((T + 1 : Nat) : Int) ≤ (T : Int)) = false := decide_eq_false hlt'
      have hF := hO.out.read
      rw [HX.out.2.1] at hF
      have hFx := Lib.hid hF
      clear hF hO
      go_wp2
      go_ret
      exact ⟨_, rfl, hFx.out, hB.out⟩
theorem rnodes_t (s : Sp) (w : World) : Calls Try.prog 36 #[sv s] w fun e w' => ∃ v, e = .returned v ∧ TS w' v (walkN (wA s) (wB s)) ∧ Below w.heap.size w w' := by
  have HS := rsound_t s
  have q0 := depthD_range s.d0
  have q1 := depthD_range s.d1
  unfold wA wB
  cases h : soundS s with
  | false => rw [h] at HS; exact rnodes_no s HS w
  | true => rw [h] at HS; exact rnodes_ok s _ _ HS (r8depth_t s.d0) (r8depth_t s.d1) q0.1 q0.2 q1.1 q1.2 w
end Go.Proofs.Ytbekocknfpekoaa
namespace Go.Proofs.Ytbekocknfpekoaa
set_option linter.unusedVariables false
set_option linter.unusedSimpArgs false
open Go.RowKit
attribute [local go_sem] Oper.semAt_some
end Go.Proofs.Ytbekocknfpekoaa
namespace Go.Proofs.Ytbekocknfpekoaa
set_option linter.unusedVariables false
set_option linter.unusedSimpArgs false
open Go.RowKit
attribute [local go_sem] Oper.semAt_some
set_option maxRecDepth 100000 in
set_option maxHeartbeats 16000000 in
theorem rall_t (s : Sp) (p : Px) (op : p.ok) (w : World) : Calls Try.prog 48 #[sv s, pv p] w fun e w' => ∃ v, e = .returned v ∧ XS w' v (allP s p) ∧ Below w.heap.size w w' := by
  have HN := rnodes_t s
  have ra := wA_range s
  have rb := wB_range s
  have hc := (walk_cnt ra.1 ra.2 rb.1 rb.2).2
  have hpos : ∀ (i : Nat) x y, (walkN (wA s) (wB s))[i]? = some (x, y) → (0 ≤ x ∧ x ≤ 128) ∧ 0 ≤ y ∧ y ≤ 128 := fun i x y h => by
    obtain ⟨x', y', e1, e2, _⟩ := walkN_get ra.1 rb.1 (List.getElem?_eq_some_iff.1 h).1
    rw [h] at e1
    obtain ⟨rfl, rfl⟩ := Prod.mk.inj (Option.some.inj e1)
    omega
  have HU := fun x y (h : (0 ≤ x ∧ x ≤ 128) ∧ 0 ≤ y ∧ y ≤ 128) => rup_t s p op x y (by omega) (by omega) (by omega) (by omega)
  have HQ := fun x y (h : (0 ≤ x ∧ x ≤ 128) ∧ 0 ≤ y ∧ y ≤ 128) => rright9_t s (upP s p x y) (upP_ok op s x y (by omega) (by omega) (by omega) (by omega))
  rw [← all_filter]
  clear ra rb
  generalize walkN (wA s) (wB s) = L at *
  obtain ⟨Fl, hFl⟩ : ∃ Fl : Nat → List Px, ∀ i, Fl i = ((L.take i).map (fun n => upP s p n.1 n.2)).filter (rightP s) := ⟨_, fun _ => rfl⟩
  have hF0 : Fl 0 = [] := by rw [hFl]; rfl
  have hFN : Fl L.length = (L.map (fun n => upP s p n.1 n.2)).filter (rightP s) := by rw [hFl, take_full]
  have hFs : ∀ (i : Nat) x y, L[i]? = some (x, y) → Fl (i + 1) = if rightP s (upP s p x y) = true then Fl i ++ [upP s p x y] else Fl i := fun i x y h => by
    rw [hFl, hFl, take_snoc _ _ _ h, List.map_append, List.filter_append]
    cases e : rightP s (upP s p x y) with
    | true => rw [if_pos rfl]; simp [e]
    | false => rw [if_neg (by simp)]; simp [e]
  have hFn : ∀ i, (Fl i).length ≤ i := fun i => by rw [hFl]; exact Nat.le_trans (List.length_filter_le _ _) (by rw [List.length_map, List.length_take]; omega)
  rw [← hFN]
  have HX := Lib.hid (And.intro hFs (And.intro hFn (And.intro hpos hc)))
  have HUx := Lib.hid (And.intro HU HQ)
  clear hFl hFN hFs hFn hpos hc HU HQ
  unfold sv at HN HUx ⊢
  unfold pv at HUx ⊢
  obtain ⟨Rs, Rp, hb0⟩ := two_rows w #[.int .i64 s.n, .int .i64 s.d0.kind, .int .i64 s.d0.side, .int .i64 s.d0.step, .int .i64 s.d1.kind, .int .i64 s.d1.side, .int .i64 s.d1.step] #[.int .i64 p.a0, .int .i64 p.a1, .int .i64 p.k0.kind, .int .i64 p.k0.len, .int .u64 p.k0.h, .int .u64 p.k0.l, .string ⟨p.k0.path.toArray⟩, .int .i64 p.k1.kind, .int .i64 p.k1.len, .int .u64 p.k1.h, .int .u64 p.k1.l, .string ⟨p.k1.path.toArray⟩] 26 33
  (try clear s0 s1 s2 s3 s4 s5 s6); obtain ⟨s0, s1, s2, s3, s4, s5, s6⟩ := row7 Rs
  (try clear p0 p1 p2 p3 p4 p5 p6 p7 p8 p9 p10 p11); obtain ⟨p0, p1, p2, p3, p4, p5, p6, p7, p8, p9, p10, p11⟩ := row12 Rp
  go_enter Try.func48, Try.ntmps48
  go_wp2_with fail
  refine (HN _).mono ?_
  rintro e wN ⟨v, rfl, hT, hb⟩
  have HB := Lib.hid (below_step hb0 hb)
  have HZ0 := Lib.hid (Nat.le_trans hb0.size hb.size)
  have HR := Lib.hid (And.intro (Rs.later hb) (Rp.later hb))
  obtain ⟨pp, cc, rfl, hcc, hpp⟩ := ts_read hT
  have HG := Lib.hid hpp
  have HO := Lib.hid (show OwnX wN.heap.size wN (.slice none 0 0) (Fl 0) by rw [hF0]; exact OwnX.nil _ _)
  have hl0 : (Fl 0).length = 0 := by rw [hF0]; rfl
  have Hl0 := Lib.hid hl0
  have HS := Lib.hid (Below.refl wN.heap.size wN)
  have HZ1 := Lib.hid (show w.heap.size + 1 < wN.heap.size from (Rp.later hb).lt)
  clear Rs Rp hb0 hb hT s0 s1 s2 s3 s4 s5 s6 p0 p1 p2 p3 p4 p5 p6 p7 p8 p9 p10 p11 HN hpp hl0 hF0
  go_wp2_with fail
  go_loopw [7, 5] (fun iv sv' wr => ∃ (i : Nat) (p' : Option Addr) (c' : Nat), iv = .int .i64 (i : Int) ∧ sv' = .slice p' (Fl i).length c' ∧ i ≤ L.length ∧ Hid (OwnX wN.heap.size wr (.slice p' (Fl i).length c') (Fl i)) ∧ Hid (Below w.heap.size w wr) ∧ Hid (Below wN.heap.size wN wr) ∧ Hid (Row wr w.heap.size #[.int .i64 s.n, .int .i64 s.d0.kind, .int .i64 s.d0.side, .int .i64 s.d0.step, .int .i64 s.d1.kind, .int .i64 s.d1.side, .int .i64 s.d1.step] 26 ∧ Row wr (w.heap.size + 1) #[.int .i64 p.a0, .int .i64 p.a1, .int .i64 p.k0.kind, .int .i64 p.k0.len, .int .u64 p.k0.h, .int .u64 p.k0.l, .string ⟨p.k0.path.toArray⟩, .int .i64 p.k1.kind, .int .i64 p.k1.len, .int .u64 p.k1.h, .int .u64 p.k1.l, .string ⟨p.k1.path.toArray⟩] 33)) (fun iv _ _ => L.length - (intOf iv).toNat)
  case atStart => exact ⟨0, none, 0, rfl, by rw [Hl0.out], Nat.zero_le _, Lib.hid (by rw [Hl0.out]; exact HO.out), HB, HS, HR⟩
  case round =>
    clear HO HB HS HR
    obtain ⟨i, p', c', rfl, rfl, hi, hO, hB, hS, hR⟩ := hrel
    by_cases hlt : i < L.length
    · have hlt' : (i : Int) < (L.length : Int) := by omega
      have wi : IntKind.i64.wrap ((i : Int) + 1) = (i : Int) + 1 := IntWalk.i64_in _ (by have := HX.out.2.2.2; omega)
      obtain ⟨g, o, rfl, hg, hcell⟩ := HG.out (by omega)
      obtain ⟨⟨xi, yi⟩, hL⟩ : ∃ q, L[i]? = some q := ⟨_, List.getElem?_eq_getElem hlt⟩
      obtain ⟨z0, z1⟩ := hcell i xi yi hL
      replace z0 := cell_later hS.out z0
      replace z1 := cell_later hS.out z1
      have hb0 : Below wr.heap.size wr wr := Below.refl _ _
      have hps := HX.out.2.2.1 i xi yi hL
      have hstep := HX.out.1 i xi yi hL
      have HUi := HUx.out.1 xi yi hps
      have HQi := HUx.out.2 xi yi hps
      have Rs := hR.out.1
      have Rp := hR.out.2
      obtain ⟨s0, s1, s2, s3, s4, s5, s6⟩ := row7 Rs
      obtain ⟨p0, p1, p2, p3, p4, p5, p6, p7, p8, p9, p10, p11⟩ := row12 Rp
      have ls := Rs.lt
      have lp := Rp.lt
      have hgw := Nat.lt_of_lt_of_le hg hS.out.size
      clear hcell hL hps hR
      generalize upP s p xi yi = u at *
      generalize rightP s u = bq at *
      have hstx := Lib.hid hstep
      clear hstep
      go_wp2_with fail
      go_cut [8] (fun s8 wx => ∃ gq : Nat, s8 = .pointer (some ⟨gq, 0, none⟩) ∧ wr.heap.size ≤ gq ∧ Row wx gq #[.int .i64 u.a0, .int .i64 u.a1, .int .i64 u.k0.kind, .int .i64 u.k0.len, .int .u64 u.k0.h, .int .u64 u.k0.l, .string ⟨u.k0.path.toArray⟩, .int .i64 u.k1.kind, .int .i64 u.k1.len, .int .u64 u.k1.h, .int .u64 u.k1.l, .string ⟨u.k1.path.toArray⟩] 33 ∧ Row wx w.heap.size #[.int .i64 s.n, .int .i64 s.d0.kind, .int .i64 s.d0.side, .int .i64 s.d0.step, .int .i64 s.d1.kind, .int .i64 s.d1.side, .int .i64 s.d1.step] 26 ∧ Row wx (w.heap.size + 1) #[.int .i64 p.a0, .int .i64 p.a1, .int .i64 p.k0.kind, .int .i64 p.k0.len, .int .u64 p.k0.h, .int .u64 p.k0.l, .string ⟨p.k0.path.toArray⟩, .int .i64 p.k1.kind, .int .i64 p.k1.len, .int .u64 p.k1.h, .int .u64 p.k1.l, .string ⟨p.k1.path.toArray⟩] 33 ∧ Below wr.heap.size wr wx)
      case first =>
        refine wp_region_held_drew (S := (fun w' => w'.cell? ⟨g, o + i * 2, none⟩ = some (Value.int .i64 xi) ∧ w'.cell? ⟨g, o + i * 2 + 1, none⟩ = some (Value.int .i64 yi) ∧ Row w' w.heap.size #[.int .i64 s.n, .int .i64 s.d0.kind, .int .i64 s.d0.side, .int .i64 s.d0.step, .int .i64 s.d1.kind, .int .i64 s.d1.side, .int .i64 s.d1.step] 26 ∧ Row w' (w.heap.size + 1) #[.int .i64 p.a0, .int .i64 p.a1, .int .i64 p.k0.kind, .int .i64 p.k0.len, .int .u64 p.k0.h, .int .u64 p.k0.l, .string ⟨p.k0.path.toArray⟩, .int .i64 p.k1.kind, .int .i64 p.k1.len, .int .u64 p.k1.h, .int .u64 p.k1.l, .string ⟨p.k1.path.toArray⟩] 33)) (by kernel_rfl) ?hSr1_ (fun hHeld => ?_)
        case hSr1_ => (exact ⟨z0, z1, Rs.drew, Rp.drew⟩)
        (clear s0 s1 s2 s3 s4 s5 s6 p0 p1 p2 p3 p4 p5 p6 p7 p8 p9 p10 p11; (replace Rs := Rs.drew); (replace Rp := Rp.drew); (replace hb0 := hb0.drew); (generalize World.drew wr = wq at *))
        refine tk 0 ⟨some 17, .load 26 (.tmp 2), 26, _, _, _⟩ hHeld ?_ (v := ?vr1_1_0) (hy := ?yr1_1_0)
        case yr1_1_0 => (intro wy hSw; obtain ⟨z0, z1, Qs, Qp⟩ := hSw; (with_reducible refine pexec_load 26 (.tmp 2) ?_ w.heap.size ?_ 26 #[.int .i64 s.n, .int .i64 s.d0.kind, .int .i64 s.d0.side, .int .i64 s.d0.step, .int .i64 s.d1.kind, .int .i64 s.d1.side, .int .i64 s.d1.step] _ Qs Try.underlying26 ?_ ?_) <;> first | rfl | exact infoSp)
        (try simp only [Act.put, nz1, nz2, nz3])
        refine tk 1 ⟨some 18, .load 33 (.tmp 3), 33, _, _, _⟩ hHeld ?_ (v := ?vr1_2_1) (hy := ?yr1_2_1)
        case yr1_2_1 => (intro wy hSw; obtain ⟨z0, z1, Qs, Qp⟩ := hSw; (with_reducible refine pexec_load 33 (.tmp 3) ?_ (w.heap.size + 1) ?_ 33 #[.int .i64 p.a0, .int .i64 p.a1, .int .i64 p.k0.kind, .int .i64 p.k0.len, .int .u64 p.k0.h, .int .u64 p.k0.l, .string ⟨p.k0.path.toArray⟩, .int .i64 p.k1.kind, .int .i64 p.k1.len, .int .u64 p.k1.h, .int .u64 p.k1.l, .string ⟨p.k1.path.toArray⟩] _ Qp Try.underlying33 ?_ ?_) <;> first | rfl | exact infoPx)
        (try simp only [Act.put, nz1, nz2, nz3])
        refine tk 2 ⟨some 19, .move (.tmp 6), 49, _, _, _⟩ hHeld ?_
        (try simp only [Act.put, nz1, nz2, nz3])
        refine tk 3 ⟨some 20, .move (.tmp 7), 3, _, _, _⟩ hHeld ?_
        (try simp only [Act.put, nz1, nz2, nz3])
        refine tk 4 ⟨some 21, .indexAddr 49 (.tmp 19) (.tmp 20), 0, _, _, _⟩ hHeld ?_
        (try simp only [Act.put, nz1, nz2, nz3])
        refine tk 5 ⟨some 22, .load 27 (.tmp 21), 27, _, _, _⟩ hHeld ?_
        (try simp only [Act.put, nz1, nz2, nz3])
        refine wpAnyH_ready (rs := [6, 7]) (by kernel_rfl) (by simp) ?_
        refine AllReadyH.cons (o := ⟨some 23, .call { callee := .value (.func 27), args := #[.tmp 17, .tmp 18, .tmp 22], argTypes := #[26, 33, 27] }, 33, _, _, _⟩) rfl (fun K hK => ?_) ?_
        · (go_simp; (refine (HUi _).mono ?_); (rintro e wz ⟨rfl, hb⟩); (replace Rs := Rs.later hb); (replace Rp := Rp.later hb); (try replace Rq := Rq.later hb); (replace hb0 := below_step hb0 hb); go_wp2_with fail)
          refine hK.out _ _ ?hSr1_7_6 (fun hHeld2 => ?_)
          case hSr1_7_6 => (obtain ⟨z0, z1, Qs, Qp⟩ := hHeld; exact ⟨cell_later hb z0, cell_later hb z1, Qs.later hb, Qp.later hb⟩)
          clear hK K hHeld
          have hHeld := hHeld2
          clear hHeld2
          rename World => wq
          (try simp only [Act.put, nz1, nz2, nz3])
          refine wpAnyH_ready (rs := [7]) (by kernel_rfl) (by simp) ?_
          refine AllReadyH.cons (o := ⟨some 8, .alloc 33, 0, _, _, _⟩) rfl (fun K hK => ?_) AllReadyH.nil
          (go_simp; (have mq := hb0.size); (have nq_s := Rs.lt); (have nq_p := Rp.lt); (have Rq := Row.new wq #[.int .i64 0, .int .i64 0, .int .i64 0, .int .i64 0, .int .u64 0, .int .u64 0, .string ⟨#[]⟩, .int .i64 0, .int .i64 0, .int .u64 0, .int .u64 0, .string ⟨#[]⟩] 33); (have hb : Below wq.heap.size wq (World.alloc wq (.cells #[.int .i64 0, .int .i64 0, .int .i64 0, .int .i64 0, .int .u64 0, .int .u64 0, .string ⟨#[]⟩, .int .i64 0, .int .i64 0, .int .u64 0, .int .u64 0, .string ⟨#[]⟩] 33)) := (Below.refl _ _).alloc (Nat.le_refl _) _); (replace Rs := Rs.later hb); (replace Rp := Rp.later hb); (replace hb0 := below_step hb0 hb); (have hSn : (World.alloc wq (.cells #[.int .i64 0, .int .i64 0, .int .i64 0, .int .i64 0, .int .u64 0, .int .u64 0, .string ⟨#[]⟩, .int .i64 0, .int .i64 0, .int .u64 0, .int .u64 0, .string ⟨#[]⟩] 33)).cell? ⟨g, o + i * 2, none⟩ = some (Value.int .i64 xi) ∧ (World.alloc wq (.cells #[.int .i64 0, .int .i64 0, .int .i64 0, .int .i64 0, .int .u64 0, .int .u64 0, .string ⟨#[]⟩, .int .i64 0, .int .i64 0, .int .u64 0, .int .u64 0, .string ⟨#[]⟩] 33)).cell? ⟨g, o + i * 2 + 1, none⟩ = some (Value.int .i64 yi) ∧ Row (World.alloc wq (.cells #[.int .i64 0, .int .i64 0, .int .i64 0, .int .i64 0, .int .u64 0, .int .u64 0, .string ⟨#[]⟩, .int .i64 0, .int .i64 0, .int .u64 0, .int .u64 0, .string ⟨#[]⟩] 33)) w.heap.size #[.int .i64 s.n, .int .i64 s.d0.kind, .int .i64 s.d0.side, .int .i64 s.d0.step, .int .i64 s.d1.kind, .int .i64 s.d1.side, .int .i64 s.d1.step] 26 ∧ Row (World.alloc wq (.cells #[.int .i64 0, .int .i64 0, .int .i64 0, .int .i64 0, .int .u64 0, .int .u64 0, .string ⟨#[]⟩, .int .i64 0, .int .i64 0, .int .u64 0, .int .u64 0, .string ⟨#[]⟩] 33)) (w.heap.size + 1) #[.int .i64 p.a0, .int .i64 p.a1, .int .i64 p.k0.kind, .int .i64 p.k0.len, .int .u64 p.k0.h, .int .u64 p.k0.l, .string ⟨p.k0.path.toArray⟩, .int .i64 p.k1.kind, .int .i64 p.k1.len, .int .u64 p.k1.h, .int .u64 p.k1.l, .string ⟨p.k1.path.toArray⟩] 33 := by obtain ⟨z0, z1, Qs, Qp⟩ := hHeld; exact ⟨cell_later hb z0, cell_later hb z1, Qs.later hb, Qp.later hb⟩); clear hb; generalize World.alloc wq (.cells #[.int .i64 0, .int .i64 0, .int .i64 0, .int .i64 0, .int .u64 0, .int .u64 0, .string ⟨#[]⟩, .int .i64 0, .int .i64 0, .int .u64 0, .int .u64 0, .string ⟨#[]⟩] 33) = wz at *; generalize wq.heap.size = gq at *)
          refine hK.out _ _ ?hSr1_8_7 (fun hHeld2 => ?_)
          case hSr1_8_7 => (exact hSn)
          clear hK K hHeld
          have hHeld := hHeld2
          clear hHeld2
          rename World => wq
          (try simp only [Act.put, nz1, nz2, nz3])
          refine wpAnyH_ready (rs := [8]) (by kernel_rfl) (by simp) ?_
          refine AllReadyH.cons (o := ⟨none, .store 33 (.tmp 8) (.tmp 23), 0, _, _, _⟩) rfl (fun K hK => ?_) AllReadyH.nil
          ((rw [if_pos (by rfl)]); (with_reducible refine pst 33 (.tmp 8) (.tmp 23) ?_ gq 0 #[.int .i64 u.a0, .int .i64 u.a1, .int .i64 u.k0.kind, .int .i64 u.k0.len, .int .u64 u.k0.h, .int .u64 u.k0.l, .string ⟨u.k0.path.toArray⟩, .int .i64 u.k1.kind, .int .i64 u.k1.len, .int .u64 u.k1.h, .int .u64 u.k1.l, .string ⟨u.k1.path.toArray⟩] ?_ ?_ ?_ ?_ ?_ ?_); rfl; rfl; rfl; (exact Row.thereAt Rq 0 _ (by simp)); (exact infoPx); (simp [Value.oneCell']); (rintro wz hwz); (have hHq := hHeld); (obtain ⟨z0, z1, Qs, Qp⟩ := hHq); (replace z0 := pcf hwz z0); (replace z1 := pcf hwz z1); (replace Qs := prf hwz Qs); (replace Qp := prf hwz Qp); (replace Rs := prf hwz Rs); (replace Rp := prf hwz Rp); (replace hb0 := pbl hwz hb0); (replace Rq := psw hwz Rq); clear hwz)
          refine hK.out _ _ ?hSr1_9_8 (fun hHeld2 => ?_)
          case hSr1_9_8 => (exact ⟨z0, z1, Qs, Qp⟩)
          clear hK K hHeld
          have hHeld := hHeld2
          clear hHeld2
          rename World => wq
          (try simp only [Act.put, nz1, nz2, nz3])
          refine wpAnyH_done (by kernel_rfl) ?_ _
          (go_wp2_with fail; go_meet; exact ⟨gq, rfl, mq, Rq, Rs, Rp, hb0⟩)
        refine AllReadyH.cons (o := ⟨some 8, .alloc 33, 0, _, _, _⟩) rfl (fun K hK => ?_) AllReadyH.nil
        · (go_simp; (have mq := hb0.size); (have nq_s := Rs.lt); (have nq_p := Rp.lt); (have Rq := Row.new wq #[.int .i64 0, .int .i64 0, .int .i64 0, .int .i64 0, .int .u64 0, .int .u64 0, .string ⟨#[]⟩, .int .i64 0, .int .i64 0, .int .u64 0, .int .u64 0, .string ⟨#[]⟩] 33); (have hb : Below wq.heap.size wq (World.alloc wq (.cells #[.int .i64 0, .int .i64 0, .int .i64 0, .int .i64 0, .int .u64 0, .int .u64 0, .string ⟨#[]⟩, .int .i64 0, .int .i64 0, .int .u64 0, .int .u64 0, .string ⟨#[]⟩] 33)) := (Below.refl _ _).alloc (Nat.le_refl _) _); (replace Rs := Rs.later hb); (replace Rp := Rp.later hb); (replace hb0 := below_step hb0 hb); (have hSn : (World.alloc wq (.cells #[.int .i64 0, .int .i64 0, .int .i64 0, .int .i64 0, .int .u64 0, .int .u64 0, .string ⟨#[]⟩, .int .i64 0, .int .i64 0, .int .u64 0, .int .u64 0, .string ⟨#[]⟩] 33)).cell? ⟨g, o + i * 2, none⟩ = some (Value.int .i64 xi) ∧ (World.alloc wq (.cells #[.int .i64 0, .int .i64 0, .int .i64 0, .int .i64 0, .int .u64 0, .int .u64 0, .string ⟨#[]⟩, .int .i64 0, .int .i64 0, .int .u64 0, .int .u64 0, .string ⟨#[]⟩] 33)).cell? ⟨g, o + i * 2 + 1, none⟩ = some (Value.int .i64 yi) ∧ Row (World.alloc wq (.cells #[.int .i64 0, .int .i64 0, .int .i64 0, .int .i64 0, .int .u64 0, .int .u64 0, .string ⟨#[]⟩, .int .i64 0, .int .i64 0, .int .u64 0, .int .u64 0, .string ⟨#[]⟩] 33)) w.heap.size #[.int .i64 s.n, .int .i64 s.d0.kind, .int .i64 s.d0.side, .int .i64 s.d0.step, .int .i64 s.d1.kind, .int .i64 s.d1.side, .int .i64 s.d1.step] 26 ∧ Row (World.alloc wq (.cells #[.int .i64 0, .int .i64 0, .int .i64 0, .int .i64 0, .int .u64 0, .int .u64 0, .string ⟨#[]⟩, .int .i64 0, .int .i64 0, .int .u64 0, .int .u64 0, .string ⟨#[]⟩] 33)) (w.heap.size + 1) #[.int .i64 p.a0, .int .i64 p.a1, .int .i64 p.k0.kind, .int .i64 p.k0.len, .int .u64 p.k0.h, .int .u64 p.k0.l, .string ⟨p.k0.path.toArray⟩, .int .i64 p.k1.kind, .int .i64 p.k1.len, .int .u64 p.k1.h, .int .u64 p.k1.l, .string ⟨p.k1.path.toArray⟩] 33 := by obtain ⟨z0, z1, Qs, Qp⟩ := hHeld; exact ⟨cell_later hb z0, cell_later hb z1, Qs.later hb, Qp.later hb⟩); clear hb; generalize World.alloc wq (.cells #[.int .i64 0, .int .i64 0, .int .i64 0, .int .i64 0, .int .u64 0, .int .u64 0, .string ⟨#[]⟩, .int .i64 0, .int .i64 0, .int .u64 0, .int .u64 0, .string ⟨#[]⟩] 33) = wz at *; generalize wq.heap.size = gq at *)
          refine hK.out _ _ ?hSr1_10_7 (fun hHeld2 => ?_)
          case hSr1_10_7 => (exact hSn)
          clear hK K hHeld
          have hHeld := hHeld2
          clear hHeld2
          rename World => wq
          (try simp only [Act.put, nz1, nz2, nz3])
          refine wpAnyH_ready (rs := [6]) (by kernel_rfl) (by simp) ?_
          refine AllReadyH.cons (o := ⟨some 23, .call { callee := .value (.func 27), args := #[.tmp 17, .tmp 18, .tmp 22], argTypes := #[26, 33, 27] }, 33, _, _, _⟩) rfl (fun K hK => ?_) AllReadyH.nil
          (go_simp; (refine (HUi _).mono ?_); (rintro e wz ⟨rfl, hb⟩); (replace Rs := Rs.later hb); (replace Rp := Rp.later hb); (try replace Rq := Rq.later hb); (replace hb0 := below_step hb0 hb); go_wp2_with fail)
          refine hK.out _ _ ?hSr1_11_6 (fun hHeld2 => ?_)
          case hSr1_11_6 => (obtain ⟨z0, z1, Qs, Qp⟩ := hHeld; exact ⟨cell_later hb z0, cell_later hb z1, Qs.later hb, Qp.later hb⟩)
          clear hK K hHeld
          have hHeld := hHeld2
          clear hHeld2
          rename World => wq
          (try simp only [Act.put, nz1, nz2, nz3])
          refine wpAnyH_ready (rs := [8]) (by kernel_rfl) (by simp) ?_
          refine AllReadyH.cons (o := ⟨none, .store 33 (.tmp 8) (.tmp 23), 0, _, _, _⟩) rfl (fun K hK => ?_) AllReadyH.nil
          ((rw [if_pos (by rfl)]); (with_reducible refine pst 33 (.tmp 8) (.tmp 23) ?_ gq 0 #[.int .i64 u.a0, .int .i64 u.a1, .int .i64 u.k0.kind, .int .i64 u.k0.len, .int .u64 u.k0.h, .int .u64 u.k0.l, .string ⟨u.k0.path.toArray⟩, .int .i64 u.k1.kind, .int .i64 u.k1.len, .int .u64 u.k1.h, .int .u64 u.k1.l, .string ⟨u.k1.path.toArray⟩] ?_ ?_ ?_ ?_ ?_ ?_); rfl; rfl; rfl; (exact Row.thereAt Rq 0 _ (by simp)); (exact infoPx); (simp [Value.oneCell']); (rintro wz hwz); (have hHq := hHeld); (obtain ⟨z0, z1, Qs, Qp⟩ := hHq); (replace z0 := pcf hwz z0); (replace z1 := pcf hwz z1); (replace Qs := prf hwz Qs); (replace Qp := prf hwz Qp); (replace Rs := prf hwz Rs); (replace Rp := prf hwz Rp); (replace hb0 := pbl hwz hb0); (replace Rq := psw hwz Rq); clear hwz)
          refine hK.out _ _ ?hSr1_12_8 (fun hHeld2 => ?_)
          case hSr1_12_8 => (exact ⟨z0, z1, Qs, Qp⟩)
          clear hK K hHeld
          have hHeld := hHeld2
          clear hHeld2
          rename World => wq
          (try simp only [Act.put, nz1, nz2, nz3])
          refine wpAnyH_done (by kernel_rfl) ?_ _
          (go_wp2_with fail; go_meet; exact ⟨gq, rfl, mq, Rq, Rs, Rp, hb0⟩)
      case rest =>
        clear s0 s1 s2 s3 s4 s5 s6 p0 p1 p2 p3 p4 p5 p6 p7 p8 p9 p10 p11 Rs Rp hb0
        obtain ⟨gq, rfl, mq, Rq, Rs, Rp, hb0⟩ := hcut
        rename World => w1
        have ls := Rs.lt
        have lp := Rp.lt
        have lq := Rq.lt
        (try clear s0 s1 s2 s3 s4 s5 s6); obtain ⟨s0, s1, s2, s3, s4, s5, s6⟩ := row7 Rs
        (try clear p0 p1 p2 p3 p4 p5 p6 p7 p8 p9 p10 p11); obtain ⟨p0, p1, p2, p3, p4, p5, p6, p7, p8, p9, p10, p11⟩ := row12 Rp
        (try clear q0 q1 q2 q3 q4 q5 q6 q7 q8 q9 q10 q11); obtain ⟨q0, q1, q2, q3, q4, q5, q6, q7, q8, q9, q10, q11⟩ := row12 Rq
        go_wp2_with fail
        refine (HQi _).mono ?_
        rintro e w2 ⟨rfl, hb⟩
        replace Rs := Rs.later hb
        replace Rp := Rp.later hb
        replace Rq := Rq.later hb
        replace hb0 := below_step hb0 hb
        clear hb
        have ls := Rs.lt
        have lp := Rp.lt
        have lq := Rq.lt
        (try clear s0 s1 s2 s3 s4 s5 s6); obtain ⟨s0, s1, s2, s3, s4, s5, s6⟩ := row7 Rs
        (try clear p0 p1 p2 p3 p4 p5 p6 p7 p8 p9 p10 p11); obtain ⟨p0, p1, p2, p3, p4, p5, p6, p7, p8, p9, p10, p11⟩ := row12 Rp
        (try clear q0 q1 q2 q3 q4 q5 q6 q7 q8 q9 q10 q11); obtain ⟨q0, q1, q2, q3, q4, q5, q6, q7, q8, q9, q10, q11⟩ := row12 Rq
        have hB2 := Lib.hid (below_step hB.out hb0)
        have hS2 := Lib.hid (below_step hS.out hb0)
        have hO2 := hO.out.later hb0
        have F3 := Lib.hid (And.intro Rs Rp)
        clear hB hS hO Rs Rp s0 s1 s2 s3 s4 s5 s6 p0 p1 p2 p3 p4 p5 p6 p7 p8 p9 p10 p11 hb0
        cases bq with
        | true =>
          have hn := HX.out.2.1 i
          have hs9 := hS2.out.size
          have hst : Fl (i + 1) = Fl i ++ [u] := hstx.out.trans (if_pos rfl)
          obtain ⟨v', w4, hrun, hown, hgrow⟩ := appX_one u hO2 (by have := HX.out.2.2.2; omega) hs9
          rw [← hst] at hown
          have hsx := Lib.hid hst
          obtain ⟨pv', cv, hpv, _, _⟩ := hown.read
          subst hpv
          have hb4 := appX_below hO2 (Below.refl wN.heap.size _) hs9 hgrow
          have hB4 := Lib.hid (hB2.out.trans (hb4.mono (by have := HZ0.out; omega)))
          have hS4 := Lib.hid (hS2.out.trans hb4)
          have hR4 := Lib.hid (And.intro (rowX_app2 hO2 hgrow F3.out.1 (by decide)) (rowX_app3 hO2 hgrow F3.out.2 (by have := HZ1.out; omega)))
          have hO4 := Lib.hid hown
          have HRUN := Lib.hid hrun
          clear hrun hown hgrow hO2 hb4 hn hs9 hB2 hS2 F3 hst
          have tok : True := trivial
          go_wp2_with (have _t := tok; at_builtin; refine wpList_appS rfl (.tmp 27) (.tmp 29) 60 rfl rfl rfl HRUN.out ?_; clear tok HRUN)
          exact ⟨⟨i + 1, pv', cv, by simp, rfl, by omega, hO4, hB4, hS4, hR4⟩, by simp [intOf]; omega⟩
        | false =>
          have hst : Fl (i + 1) = Fl i := hstx.out.trans (if_neg (by simp))
          have hsx := Lib.hid hst
          have hO3 := Lib.hid hO2
          clear hO2 hst
          go_wp2
          exact ⟨⟨i + 1, p', c', by simp, by rw [hsx.out], by omega, Lib.hid (by rw [hsx.out]; exact hO3.out), hB2, hS2, F3⟩, by simp [intOf]; omega⟩
    · obtain rfl : i = L.length := by omega
      have hFx := Lib.hid hO.out.read
      clear hO
      go_wp2
      go_ret
      exact ⟨_, rfl, hFx.out, hB.out⟩
theorem neqX_self (u : Px) (w : World) : (binOp .neq 33 (.agg #[.int .i64 u.a0, .int .i64 u.a1, .int .i64 u.k0.kind, .int .i64 u.k0.len, .int .u64 u.k0.h, .int .u64 u.k0.l, .string ⟨u.k0.path.toArray⟩, .int .i64 u.k1.kind, .int .i64 u.k1.len, .int .u64 u.k1.h, .int .u64 u.k1.l, .string ⟨u.k1.path.toArray⟩]) (.agg #[.int .i64 u.a0, .int .i64 u.a1, .int .i64 u.k0.kind, .int .i64 u.k0.len, .int .u64 u.k0.h, .int .u64 u.k0.l, .string ⟨u.k0.path.toArray⟩, .int .i64 u.k1.kind, .int .i64 u.k1.len, .int .u64 u.k1.h, .int .u64 u.k1.l, .string ⟨u.k1.path.toArray⟩])).run Try.prog w = .ok (.bool false) w := by
  have h := neq_px u u w
  rw [decide_eq_true rfl] at h
  exact h
set_option maxRecDepth 100000 in
set_option maxHeartbeats 16000000 in
theorem sameX_t (L : List Px) (va vb : Value) (hc : L.length ≤ 100000) (w : World) (ha : XS w va L) (hb : XS w vb L) : Calls Try.prog 46 #[va, vb] w fun e w' => e = .returned (.bool true) ∧ Below w.heap.size w w' := by
  obtain ⟨p, ca, rfl, _, hpp⟩ := xs_read ha
  obtain ⟨q, cb, rfl, _, hqq⟩ := xs_read hb
  have HGa := Lib.hid hpp
  have HGb := Lib.hid hqq
  clear ha hb hpp hqq
  go_enter Try.func46, Try.ntmps46
  go_wp2_with fail
  go_loopw [5] (fun iv wr => ∃ i : Nat, iv = .int .i64 (i : Int) ∧ i ≤ L.length ∧ Hid (Below w.heap.size w wr)) (fun iv _ => L.length - (intOf iv).toNat)
  case atStart => exact ⟨0, rfl, Nat.zero_le _, Lib.hid (Below.refl _ _)⟩
  case round =>
    obtain ⟨i, rfl, hi, hS⟩ := hrel
    by_cases hlt : i < L.length
    · have hlt' : (i : Int) < (L.length : Int) := by omega
      have wi : IntKind.i64.wrap ((i : Int) + 1) = (i : Int) + 1 := IntWalk.i64_in _ (by omega)
      obtain ⟨g, o, rfl, hg, hcell⟩ := HGa.out (by omega)
      obtain ⟨g', o', rfl, hg', hcell'⟩ := HGb.out (by omega)
      obtain ⟨u, hL⟩ : ∃ q, L[i]? = some q := ⟨_, List.getElem?_eq_getElem hlt⟩
      have z0 : wr.cell? ⟨g, o + i * 12, none⟩ = some (Value.int .i64 u.a0) := by have h := cell_later hS.out (hcell i u hL 0 _ rfl); rw [show o + (i * 12 + 0) = o + i * 12 by omega] at h; exact h
      have z1 : wr.cell? ⟨g, o + i * 12 + 1, none⟩ = some (Value.int .i64 u.a1) := by have h := cell_later hS.out (hcell i u hL 1 _ rfl); rw [show o + (i * 12 + 1) = o + i * 12 + 1 by omega] at h; exact h
      have z2 : wr.cell? ⟨g, o + i * 12 + 2, none⟩ = some (Value.int .i64 u.k0.kind) := by have h := cell_later hS.out (hcell i u hL 2 _ rfl); rw [show o + (i * 12 + 2) = o + i * 12 + 2 by omega] at h; exact h
      have z3 : wr.cell? ⟨g, o + i * 12 + 3, none⟩ = some (Value.int .i64 u.k0.len) := by have h := cell_later hS.out (hcell i u hL 3 _ rfl); rw [show o + (i * 12 + 3) = o + i * 12 + 3 by omega] at h; exact h
      have z4 : wr.cell? ⟨g, o + i * 12 + 4, none⟩ = some (Value.int .u64 u.k0.h) := by have h := cell_later hS.out (hcell i u hL 4 _ rfl); rw [show o + (i * 12 + 4) = o + i * 12 + 4 by omega] at h; exact h
      have z5 : wr.cell? ⟨g, o + i * 12 + 5, none⟩ = some (Value.int .u64 u.k0.l) := by have h := cell_later hS.out (hcell i u hL 5 _ rfl); rw [show o + (i * 12 + 5) = o + i * 12 + 5 by omega] at h; exact h
      have z6 : wr.cell? ⟨g, o + i * 12 + 6, none⟩ = some (Value.string ⟨u.k0.path.toArray⟩) := by have h := cell_later hS.out (hcell i u hL 6 _ rfl); rw [show o + (i * 12 + 6) = o + i * 12 + 6 by omega] at h; exact h
      have z7 : wr.cell? ⟨g, o + i * 12 + 7, none⟩ = some (Value.int .i64 u.k1.kind) := by have h := cell_later hS.out (hcell i u hL 7 _ rfl); rw [show o + (i * 12 + 7) = o + i * 12 + 7 by omega] at h; exact h
      have z8 : wr.cell? ⟨g, o + i * 12 + 8, none⟩ = some (Value.int .i64 u.k1.len) := by have h := cell_later hS.out (hcell i u hL 8 _ rfl); rw [show o + (i * 12 + 8) = o + i * 12 + 8 by omega] at h; exact h
      have z9 : wr.cell? ⟨g, o + i * 12 + 9, none⟩ = some (Value.int .u64 u.k1.h) := by have h := cell_later hS.out (hcell i u hL 9 _ rfl); rw [show o + (i * 12 + 9) = o + i * 12 + 9 by omega] at h; exact h
      have z10 : wr.cell? ⟨g, o + i * 12 + 10, none⟩ = some (Value.int .u64 u.k1.l) := by have h := cell_later hS.out (hcell i u hL 10 _ rfl); rw [show o + (i * 12 + 10) = o + i * 12 + 10 by omega] at h; exact h
      have z11 : wr.cell? ⟨g, o + i * 12 + 11, none⟩ = some (Value.string ⟨u.k1.path.toArray⟩) := by have h := cell_later hS.out (hcell i u hL 11 _ rfl); rw [show o + (i * 12 + 11) = o + i * 12 + 11 by omega] at h; exact h
      have t0 : wr.cell? ⟨g', o' + i * 12, none⟩ = some (Value.int .i64 u.a0) := by have h := cell_later hS.out (hcell' i u hL 0 _ rfl); rw [show o' + (i * 12 + 0) = o' + i * 12 by omega] at h; exact h
      have t1 : wr.cell? ⟨g', o' + i * 12 + 1, none⟩ = some (Value.int .i64 u.a1) := by have h := cell_later hS.out (hcell' i u hL 1 _ rfl); rw [show o' + (i * 12 + 1) = o' + i * 12 + 1 by omega] at h; exact h
      have t2 : wr.cell? ⟨g', o' + i * 12 + 2, none⟩ = some (Value.int .i64 u.k0.kind) := by have h := cell_later hS.out (hcell' i u hL 2 _ rfl); rw [show o' + (i * 12 + 2) = o' + i * 12 + 2 by omega] at h; exact h
      have t3 : wr.cell? ⟨g', o' + i * 12 + 3, none⟩ = some (Value.int .i64 u.k0.len) := by have h := cell_later hS.out (hcell' i u hL 3 _ rfl); rw [show o' + (i * 12 + 3) = o' + i * 12 + 3 by omega] at h; exact h
      have t4 : wr.cell? ⟨g', o' + i * 12 + 4, none⟩ = some (Value.int .u64 u.k0.h) := by have h := cell_later hS.out (hcell' i u hL 4 _ rfl); rw [show o' + (i * 12 + 4) = o' + i * 12 + 4 by omega] at h; exact h
      have t5 : wr.cell? ⟨g', o' + i * 12 + 5, none⟩ = some (Value.int .u64 u.k0.l) := by have h := cell_later hS.out (hcell' i u hL 5 _ rfl); rw [show o' + (i * 12 + 5) = o' + i * 12 + 5 by omega] at h; exact h
      have t6 : wr.cell? ⟨g', o' + i * 12 + 6, none⟩ = some (Value.string ⟨u.k0.path.toArray⟩) := by have h := cell_later hS.out (hcell' i u hL 6 _ rfl); rw [show o' + (i * 12 + 6) = o' + i * 12 + 6 by omega] at h; exact h
      have t7 : wr.cell? ⟨g', o' + i * 12 + 7, none⟩ = some (Value.int .i64 u.k1.kind) := by have h := cell_later hS.out (hcell' i u hL 7 _ rfl); rw [show o' + (i * 12 + 7) = o' + i * 12 + 7 by omega] at h; exact h
      have t8 : wr.cell? ⟨g', o' + i * 12 + 8, none⟩ = some (Value.int .i64 u.k1.len) := by have h := cell_later hS.out (hcell' i u hL 8 _ rfl); rw [show o' + (i * 12 + 8) = o' + i * 12 + 8 by omega] at h; exact h
      have t9 : wr.cell? ⟨g', o' + i * 12 + 9, none⟩ = some (Value.int .u64 u.k1.h) := by have h := cell_later hS.out (hcell' i u hL 9 _ rfl); rw [show o' + (i * 12 + 9) = o' + i * 12 + 9 by omega] at h; exact h
      have t10 : wr.cell? ⟨g', o' + i * 12 + 10, none⟩ = some (Value.int .u64 u.k1.l) := by have h := cell_later hS.out (hcell' i u hL 10 _ rfl); rw [show o' + (i * 12 + 10) = o' + i * 12 + 10 by omega] at h; exact h
      have t11 : wr.cell? ⟨g', o' + i * 12 + 11, none⟩ = some (Value.string ⟨u.k1.path.toArray⟩) := by have h := cell_later hS.out (hcell' i u hL 11 _ rfl); rw [show o' + (i * 12 + 11) = o' + i * 12 + 11 by omega] at h; exact h
      have hb0 : Below wr.heap.size wr wr := Below.refl _ _
      have qi := neqX_self u
      clear hcell hcell' hL
      go_wp2_with fail
      refine wp_region_held_drew (S := (fun w' => w'.cell? ⟨g, o + i * 12, none⟩ = some (Value.int .i64 u.a0) ∧ w'.cell? ⟨g, o + i * 12 + 1, none⟩ = some (Value.int .i64 u.a1) ∧ w'.cell? ⟨g, o + i * 12 + 2, none⟩ = some (Value.int .i64 u.k0.kind) ∧ w'.cell? ⟨g, o + i * 12 + 3, none⟩ = some (Value.int .i64 u.k0.len) ∧ w'.cell? ⟨g, o + i * 12 + 4, none⟩ = some (Value.int .u64 u.k0.h) ∧ w'.cell? ⟨g, o + i * 12 + 5, none⟩ = some (Value.int .u64 u.k0.l) ∧ w'.cell? ⟨g, o + i * 12 + 6, none⟩ = some (Value.string ⟨u.k0.path.toArray⟩) ∧ w'.cell? ⟨g, o + i * 12 + 7, none⟩ = some (Value.int .i64 u.k1.kind) ∧ w'.cell? ⟨g, o + i * 12 + 8, none⟩ = some (Value.int .i64 u.k1.len) ∧ w'.cell? ⟨g, o + i * 12 + 9, none⟩ = some (Value.int .u64 u.k1.h) ∧ w'.cell? ⟨g, o + i * 12 + 10, none⟩ = some (Value.int .u64 u.k1.l) ∧ w'.cell? ⟨g, o + i * 12 + 11, none⟩ = some (Value.string ⟨u.k1.path.toArray⟩) ∧ w'.cell? ⟨g', o' + i * 12, none⟩ = some (Value.int .i64 u.a0) ∧ w'.cell? ⟨g', o' + i * 12 + 1, none⟩ = some (Value.int .i64 u.a1) ∧ w'.cell? ⟨g', o' + i * 12 + 2, none⟩ = some (Value.int .i64 u.k0.kind) ∧ w'.cell? ⟨g', o' + i * 12 + 3, none⟩ = some (Value.int .i64 u.k0.len) ∧ w'.cell? ⟨g', o' + i * 12 + 4, none⟩ = some (Value.int .u64 u.k0.h) ∧ w'.cell? ⟨g', o' + i * 12 + 5, none⟩ = some (Value.int .u64 u.k0.l) ∧ w'.cell? ⟨g', o' + i * 12 + 6, none⟩ = some (Value.string ⟨u.k0.path.toArray⟩) ∧ w'.cell? ⟨g', o' + i * 12 + 7, none⟩ = some (Value.int .i64 u.k1.kind) ∧ w'.cell? ⟨g', o' + i * 12 + 8, none⟩ = some (Value.int .i64 u.k1.len) ∧ w'.cell? ⟨g', o' + i * 12 + 9, none⟩ = some (Value.int .u64 u.k1.h) ∧ w'.cell? ⟨g', o' + i * 12 + 10, none⟩ = some (Value.int .u64 u.k1.l) ∧ w'.cell? ⟨g', o' + i * 12 + 11, none⟩ = some (Value.string ⟨u.k1.path.toArray⟩))) (by kernel_rfl) ?hSr2_ (fun hHeld => ?_)
      case hSr2_ => (exact ⟨z0, z1, z2, z3, z4, z5, z6, z7, z8, z9, z10, z11, t0, t1, t2, t3, t4, t5, t6, t7, t8, t9, t10, t11⟩)
      ((replace hb0 := hb0.drew); (generalize World.drew wr = wq at *))
      refine tk 0 ⟨some 17, .move (.tmp 0), 60, _, _, _⟩ hHeld ?_
      (try simp only [Act.put, nz1, nz2, nz3])
      refine tk 1 ⟨some 18, .move (.tmp 5), 3, _, _, _⟩ hHeld ?_
      (try simp only [Act.put, nz1, nz2, nz3])
      refine tk 2 ⟨some 19, .indexAddr 60 (.tmp 17) (.tmp 18), 0, _, _, _⟩ hHeld ?_
      (try simp only [Act.put, nz1, nz2, nz3])
      refine tk 3 ⟨some 20, .load 33 (.tmp 19), 33, _, _, _⟩ hHeld ?_
      (try simp only [Act.put, nz1, nz2, nz3])
      refine tk 4 ⟨some 21, .move (.tmp 1), 60, _, _, _⟩ hHeld ?_
      (try simp only [Act.put, nz1, nz2, nz3])
      refine tk 5 ⟨some 22, .move (.tmp 5), 3, _, _, _⟩ hHeld ?_
      (try simp only [Act.put, nz1, nz2, nz3])
      refine tk 6 ⟨some 23, .indexAddr 60 (.tmp 21) (.tmp 22), 0, _, _, _⟩ hHeld ?_
      (try simp only [Act.put, nz1, nz2, nz3])
      refine tk 7 ⟨some 24, .load 33 (.tmp 23), 33, _, _, _⟩ hHeld ?_
      (try simp only [Act.put, nz1, nz2, nz3])
      refine tk 8 ⟨some 25, .binOp .neq 33 (.tmp 20) (.tmp 24) 33, 4, _, _, _⟩ hHeld ?_
      (try simp only [Act.put, nz1, nz2, nz3])
      refine wpAnyH_done (by kernel_rfl) ?_ _
      clear hHeld
      rename World => w1
      have F2 := Lib.hid (below_step hS.out hb0)
      clear hb0 hS qi
      go_wp2
      exact ⟨⟨i + 1, by simp, by omega, F2⟩, by simp [intOf]; omega⟩
    · obtain rfl : i = L.length := by omega
      go_wp2
      go_ret
      exact ⟨rfl, hS.out⟩
end Go.Proofs.Ytbekocknfpekoaa
