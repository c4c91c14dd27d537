/- G7, G8, RoundW: what the theorem needs of these texts. No conditions beyond those that are written. -/
import Derived.Test.YtbekocknfpekoaaJP6
namespace Go.Proofs.Ytbekocknfpekoaa
set_option linter.unusedVariables false
set_option linter.unusedSimpArgs false
open Go.RowKit
attribute [local go_sem] Oper.semAt_some
set_option maxRecDepth 100000 in
set_option maxHeartbeats 32000000 in
theorem place_no (s : Sp) (a b x y : Int)
    (HW : ∀ w, Calls Try.prog 67 #[sv s] w fun e w' => e = .returned (rv a b) ∧ Below w.heap.size w w')
    (HH : ∀ w, Calls Try.prog 72 #[rv a b, rv x y] w fun e w' => e = .returned (.bool false) ∧ Below w.heap.size w w') (w : World) :
    Calls Try.prog 43 #[sv s, rv x y] w fun e w' => e = .returned (.int .i64 (-1)) ∧ Below w.heap.size w w' := by
  unfold sv rv at *
  (try dsimp only at *)
  obtain ⟨Rc, Rd, hb0⟩ := two_rows w #[.int .i64 s.n, .int .i64 s.d0.kind, .int .i64 s.d0.side, .int .i64 s.d0.step, .int .i64 s.d1.kind, .int .i64 s.d1.side, .int .i64 s.d1.step] #[.int .i64 x, .int .i64 y] 26 27
  (try clear c0 c1 c2 c3 c4 c5 c6); obtain ⟨c0, c1, c2, c3, c4, c5, c6⟩ := row7 Rc
  (try clear d0 d1); obtain ⟨d0, d1⟩ := row2 Rd
  go_enter Try.func43, Try.ntmps43
  go_wp2_with fail
  refine (HW _).mono ?_
  rintro e w1 ⟨rfl, hb⟩
  replace Rc := Rc.later hb
  replace Rd := Rd.later hb
  replace hb0 := below_step hb0 hb
  clear hb
  have lc := Rc.lt
  have ld := Rd.lt
  (try clear c0 c1 c2 c3 c4 c5 c6); obtain ⟨c0, c1, c2, c3, c4, c5, c6⟩ := row7 Rc
  (try clear d0 d1); obtain ⟨d0, d1⟩ := row2 Rd
  go_wp2_with fail
  refine (HH _).mono ?_
  rintro e w2 ⟨rfl, hb⟩
  have nrc := Rc.lt
  have nrd := Rd.lt
  replace Rc := (Rc.alloc _).later hb
  replace Rd := (Rd.alloc _).later hb
  have Rr := Row.later (Row.new _ _ _) hb
  have mr := hb0.size
  replace hb0 := below_step (hb0.alloc hb0.size _) hb
  clear hb
  generalize w1.heap.size = gr at *
  have lc := Rc.lt
  have ld := Rd.lt
  have lr := Rr.lt
  (try clear c0 c1 c2 c3 c4 c5 c6); obtain ⟨c0, c1, c2, c3, c4, c5, c6⟩ := row7 Rc
  (try clear d0 d1); obtain ⟨d0, d1⟩ := row2 Rd
  (try clear r0 r1); obtain ⟨r0, r1⟩ := row2 Rr
  go_wp2
  go_ret
  exact ⟨rfl, hb0⟩
set_option maxRecDepth 100000 in
set_option maxHeartbeats 32000000 in
theorem place_ok (s : Sp) (a b x y : Int) (H : Nat) (h0 : 0 ≤ a) (h1 : a ≤ 128) (h2 : 0 ≤ b) (h3 : b ≤ 128) (hx0 : 0 ≤ x) (hx1 : x ≤ 128) (hy0 : 0 ≤ y) (hH : x + y = (H : Int)) (hab : (H : Int) ≤ a + b) (hp6 : ∀ h, h ≤ H → posF a b h ≤ 16641)
    (HW : ∀ w, Calls Try.prog 67 #[sv s] w fun e w' => e = .returned (rv a b) ∧ Below w.heap.size w w')
    (HH : ∀ w, Calls Try.prog 72 #[rv a b, rv x y] w fun e w' => e = .returned (.bool true) ∧ Below w.heap.size w w') (w : World) :
    Calls Try.prog 43 #[sv s, rv x y] w fun e w' => e = .returned (.int .i64 (((posF a b H : Nat) : Int) + x - max ((H : Int) - b) 0)) ∧ Below w.heap.size w w' := by
  have wH : IntKind.i64.wrap (x + y) = (H : Int) := by rw [IntWalk.i64_in _ (by omega), hH]
  have HPS : ∀ h : Nat, posF a b (h + 1) = posF a b h + cntH a b (h : Int) := fun _ => rfl
  have HE : ∀ h : Nat, h ≤ H → ∀ w, Calls Try.prog 73 #[rv a b, .int .i64 (h : Int)] w fun e w' => e = .returned (.tuple #[.int .i64 (max ((h : Int) - b) 0), .int .i64 (min (h : Int) a)]) ∧ Below w.heap.size w w' := fun h hh w => ends_t a b (h : Int) (by omega) h1 h2 h3 (by omega) (by omega) w
  have hcn : ∀ h : Nat, h ≤ H → (cntH a b (h : Int) : Int) = min (h : Int) a - max ((h : Int) - b) 0 + 1 ∧ 0 ≤ max ((h : Int) - b) 0 ∧ max ((h : Int) - b) 0 ≤ 256 ∧ 0 ≤ min (h : Int) a ∧ min (h : Int) a ≤ 128 := fun h hh => by unfold cntH; omega
  have HX := Lib.hid (And.intro HPS (And.intro hcn hp6))
  have HEx := Lib.hid HE
  have hH9 : H ≤ 256 := by omega
  clear HPS HE hcn h0 h1 h2 h3 hp6 hH hab
  unfold sv rv at *
  (try dsimp only at *)
  obtain ⟨Rc, Rd, hb0⟩ := two_rows w #[.int .i64 s.n, .int .i64 s.d0.kind, .int .i64 s.d0.side, .int .i64 s.d0.step, .int .i64 s.d1.kind, .int .i64 s.d1.side, .int .i64 s.d1.step] #[.int .i64 x, .int .i64 y] 26 27
  (try clear c0 c1 c2 c3 c4 c5 c6); obtain ⟨c0, c1, c2, c3, c4, c5, c6⟩ := row7 Rc
  (try clear d0 d1); obtain ⟨d0, d1⟩ := row2 Rd
  go_enter Try.func43, Try.ntmps43
  go_wp2_with fail
  refine (HW _).mono ?_
  rintro e w1 ⟨rfl, hb⟩
  replace Rc := Rc.later hb
  replace Rd := Rd.later hb
  replace hb0 := below_step hb0 hb
  clear hb
  have lc := Rc.lt
  have ld := Rd.lt
  (try clear c0 c1 c2 c3 c4 c5 c6); obtain ⟨c0, c1, c2, c3, c4, c5, c6⟩ := row7 Rc
  (try clear d0 d1); obtain ⟨d0, d1⟩ := row2 Rd
  go_wp2_with fail
  refine (HH _).mono ?_
  rintro e w2 ⟨rfl, hb⟩
  have nrc := Rc.lt
  have nrd := Rd.lt
  replace Rc := (Rc.alloc _).later hb
  replace Rd := (Rd.alloc _).later hb
  have Rr := Row.later (Row.new _ _ _) hb
  have mr := hb0.size
  replace hb0 := below_step (hb0.alloc hb0.size _) hb
  clear hb
  generalize w1.heap.size = gr at *
  have lc := Rc.lt
  have ld := Rd.lt
  have lr := Rr.lt
  (try clear c0 c1 c2 c3 c4 c5 c6); obtain ⟨c0, c1, c2, c3, c4, c5, c6⟩ := row7 Rc
  (try clear d0 d1); obtain ⟨d0, d1⟩ := row2 Rd
  (try clear r0 r1); obtain ⟨r0, r1⟩ := row2 Rr
  go_wp2_with fail
  refine wp_region_held_drew (S := (fun w' => w'.cell? ⟨w.heap.size + 1, 0, none⟩ = some (Value.int .i64 x) ∧ w'.cell? ⟨w.heap.size + 1, 1, none⟩ = some (Value.int .i64 y))) (by kernel_rfl) ?hSr1_ (fun hHeld => ?_)
  case hSr1_ => (exact ⟨d0, d1⟩)
  (clear c0 c1 c2 c3 c4 c5 c6 d0 d1 r0 r1; (replace Rc := Rc.drew); (replace Rd := Rd.drew); (replace Rr := Rr.drew); (replace hb0 := hb0.drew); (generalize World.drew w2 = wq at *))
  refine tk 0 ⟨some 19, .indexAddr 27 (.tmp 3) (.const (.int .i64 0)), 0, _, _, _⟩ hHeld ?_
  (try simp only [Act.put, nz1, nz2, nz3])
  refine tk 1 ⟨some 20, .load 3 (.tmp 19), 3, _, _, _⟩ hHeld ?_
  (try simp only [Act.put, nz1, nz2, nz3])
  refine tk 2 ⟨some 21, .indexAddr 27 (.tmp 3) (.const (.int .i64 1)), 0, _, _, _⟩ hHeld ?_
  (try simp only [Act.put, nz1, nz2, nz3])
  refine tk 3 ⟨some 22, .load 3 (.tmp 21), 3, _, _, _⟩ hHeld ?_
  (try simp only [Act.put, nz1, nz2, nz3])
  refine tk 4 ⟨some 23, .binOp .add 3 (.tmp 20) (.tmp 22) 3, 3, _, _, _⟩ hHeld ?_
  (try simp only [Act.put, nz1, nz2, nz3])
  refine tk 5 ⟨some 6, .assign (.const (.int .i64 0)), 3, _, _, _⟩ hHeld ?_
  (try simp only [Act.put, nz1, nz2, nz3])
  refine tk 6 ⟨some 7, .assign (.tmp 23), 3, _, _, _⟩ hHeld ?_
  (try simp only [Act.put, nz1, nz2, nz3])
  refine wpAnyH_done (by kernel_rfl) ?_ _
  clear hHeld
  rename World => w3
  have lc := Rc.lt
  have ld := Rd.lt
  have lr := Rr.lt
  (try clear c0 c1 c2 c3 c4 c5 c6); obtain ⟨c0, c1, c2, c3, c4, c5, c6⟩ := row7 Rc
  (try clear d0 d1); obtain ⟨d0, d1⟩ := row2 Rd
  (try clear r0 r1); obtain ⟨r0, r1⟩ := row2 Rr
  clear c0 c1 c2 c3 c4 c5 c6 d0 d1 r0 r1 lc ld lr HW HH
  have HR := Lib.hid (And.intro Rr Rd)
  have HB := Lib.hid hb0
  clear Rc Rr Rd hb0
  go_wp2_with fail
  go_loopw [6, 25] (fun nv iv wr => ∃ h : Nat, h ≤ H ∧ nv = .int .i64 ((posF a b h : Nat) : Int) ∧ iv = .int .i64 (h : Int) ∧ Hid (Row wr gr #[.int .i64 a, .int .i64 b] 75 ∧ Row wr (w.heap.size + 1) #[.int .i64 x, .int .i64 y] 27) ∧ Hid (Below w.heap.size w wr)) (fun _ iv _ => H - (intOf iv).toNat)
  case atStart => exact ⟨0, Nat.zero_le _, rfl, rfl, HR, HB⟩
  case round =>
    clear HR HB
    obtain ⟨h, hh, rfl, rfl, hR, hB⟩ := hrel
    have r0 := (hR.out.1.cell 0).trans (show _ = some (Value.int .i64 a) from rfl)
    have r1 := (hR.out.1.cell 1).trans (show _ = some (Value.int .i64 b) from rfl)
    by_cases hlt : h < H
    · have hlt' : (h : Int) < (H : Int) := by omega
      obtain ⟨q1, q2, q3, q4, q5⟩ := HX.out.2.1 h hh
      have hp9 := HX.out.2.2 h hh
      have HEh := HEx.out h hh
      have hp1 := HX.out.1 h
      unfold rv at HEh
      generalize max ((h : Int) - b) 0 = fm at *
      generalize min (h : Int) a = lm at *
      generalize cntH a b (h : Int) = cn at *
      have w1 : IntKind.i64.wrap (lm - fm) = lm - fm := IntWalk.i64_in _ (by omega)
      have w2 : IntKind.i64.wrap (lm - fm + 1) = lm - fm + 1 := IntWalk.i64_in _ (by omega)
      have w3 : IntKind.i64.wrap (((posF a b h : Nat) : Int) + (lm - fm + 1)) = ((posF a b (h + 1) : Nat) : Int) := by rw [IntWalk.i64_in _ (by omega), hp1]; omega
      have w4 : IntKind.i64.wrap ((h : Int) + 1) = (h : Int) + 1 := IntWalk.i64_in _ (by omega)
      clear q1 q2 q3 q4 q5 hp1 hp9
      go_wp2_with fail
      refine (HEh _).mono ?_
      rintro e w9 ⟨rfl, hb⟩
      have hR2 := Lib.hid (And.intro (hR.out.1.later hb) (hR.out.2.later hb))
      have hB2 := Lib.hid (below_step hB.out hb)
      clear hb r0 r1 hR hB HEh
      go_wp2
      exact ⟨⟨h + 1, by omega, rfl, by simp, hR2, hB2⟩, by simp [intOf]; omega⟩
    · obtain rfl : h = H := by omega
      obtain ⟨q1, q2, q3, q4, q5⟩ := HX.out.2.1 h hh
      have hp9 := HX.out.2.2 h hh
      have HEh := HEx.out h hh
      unfold rv at HEh
      generalize hfm : max ((h : Int) - b) 0 = fm at *
      generalize min (h : Int) a = lm at *
      generalize hpn : posF a b h = pn at *
      have HEQ := Lib.hid (And.intro hfm hpn)
      clear hfm hpn
      have w1 : IntKind.i64.wrap ((pn : Int) + x) = (pn : Int) + x := IntWalk.i64_in _ (by omega)
      have w2 : IntKind.i64.wrap ((pn : Int) + x - fm) = (pn : Int) + x - fm := IntWalk.i64_in _ (by omega)
      clear q1 q2 q3 q4 q5 hp9 hx0 hx1 hy0
      go_wp2_with fail
      refine (HEh _).mono ?_
      rintro e w9 ⟨rfl, hb⟩
      have d0 := ((hR.out.2.later hb).cell 0).trans (show _ = some (Value.int .i64 x) from rfl)
      have hb0 := below_step hB.out hb
      clear hb r0 r1 hR hB HEh
      go_wp2
      go_ret
      exact ⟨by rw [HEQ.out.1, HEQ.out.2]; rfl, hb0⟩
theorem place_t (s : Sp) (x y : Int) (w : World) : Calls Try.prog 43 #[sv s, rv x y] w fun e w' => e = .returned (.int .i64 (placeN (wA s) (wB s) x y)) ∧ Below w.heap.size w w' := by
  have HW := whole_t s
  have HH := has_t (wA s) (wB s) x y
  have ra := wA_range s
  have rb := wB_range s
  have hc := (walk_cnt ra.1 ra.2 rb.1 rb.2).2
  rw [walk_len] at hc
  generalize wA s = a at *
  generalize wB s = b at *
  unfold hasB at HH
  unfold placeN
  by_cases h : 0 ≤ x ∧ x ≤ a ∧ 0 ≤ y ∧ y ≤ b
  · rw [decide_eq_true h] at HH
    rw [if_pos h]
    have hz : (((x + y).toNat : Nat) : Int) = x + y := by omega
    have H9 := place_ok s a b x y (x + y).toNat (by omega) ra.2 rb.1 rb.2 h.1 (by omega) h.2.2.1 hz.symm (by omega) (fun k hk => Nat.le_trans (posF_mono a b (show k ≤ (a + b + 1).toNat by omega)) hc) HW HH w
    rw [hz] at H9
    rw [show ((posF a b (x + y).toNat : Nat) : Int) + (x - max (x + y - b) 0) = ((posF a b (x + y).toNat : Nat) : Int) + x - max (x + y - b) 0 by omega]
    exact H9
  · rw [decide_eq_false h] at HH
    rw [if_neg h]
    exact place_no s a b x y HW HH w
end Go.Proofs.Ytbekocknfpekoaa
namespace Go.Proofs.Ytbekocknfpekoaa
set_option linter.unusedVariables false
set_option linter.unusedSimpArgs false
open Go.RowKit
attribute [local go_sem] Oper.semAt_some
def cutT (d : Dm) (l0 : Int) (k : Ke) (m : Nat) : List Ke := (List.range m).map (fun j : Nat => cutD d (l0 + (j : Int)) k)
theorem cutT_succ (d : Dm) (l0 : Int) (k : Ke) (m : Nat) : cutT d l0 k (m + 1) = cutT d l0 k m ++ [cutD d (l0 + (m : Int)) k] := by unfold cutT; rw [List.range_succ, List.map_append]; rfl
theorem cutT_len (d : Dm) (l0 : Int) (k : Ke) (m : Nat) : (cutT d l0 k m).length = m := by unfold cutT; simp
theorem cutT_get {d : Dm} {l0 : Int} {k : Ke} {m j : Nat} (h : j < m) : (cutT d l0 k m)[j]? = some (cutD d (l0 + (j : Int)) k) := by
  unfold cutT; rw [List.getElem?_map, List.getElem?_range h]; rfl
/-- a row of keys in a block of its own, told whole -/
def KB (w : World) (base : Nat) (v : Value) (ls : List Ke) : Prop := ∃ g c cur, v = .slice (some ⟨g, 0, none⟩) ls.length c ∧ ls.length ≤ c ∧ base ≤ g ∧ Row w g cur 30 ∧ ∀ (j : Nat) k, ls[j]? = some k → ∀ i x, (cellsK k)[i]? = some x → cur[j * 5 + i]? = some x
theorem OwnK.kb {base : Nat} {w : World} {v : Value} {l : List Ke} (h : OwnK base w v l) (h0 : 0 < l.length) : KB w base v l := by
  obtain ⟨hl, h⟩ := h
  rcases h with ⟨_, e⟩ | ⟨g, cap, cur, rfl, hb, hg, h1, h2, h3, h4⟩
  · omega
  · refine ⟨g, cap, cur, rfl, h1, hb, hg, fun j k hk i x hx => ?_⟩
    rw [← Array.getElem?_toList]
    have hj : j < l.length := (List.getElem?_eq_some_iff.1 hk).1
    have hi : i < 5 := (List.getElem?_eq_some_iff.1 hx).1
    have := valsK_get l j i k hk hi
    rw [hx, ← h4, List.getElem?_take, if_pos (by omega)] at this
    exact this
set_option maxRecDepth 100000 in
set_option maxHeartbeats 8000000 in
theorem cuts_t (d : Dm) (l0 : Int) (k : Ke) (ok : k.ok) (h0 : 0 ≤ l0) (h1 : l0 ≤ depthD d + 1) (w : World) : Calls Try.prog 75 #[dv d, .int .i64 l0, kv k] w fun e w' => ∃ v, e = .returned v ∧ KS w' v (cutT d l0 k (depthD d + 1 - l0).toNat) ∧ (l0 ≤ depthD d → KB w' w.heap.size v (cutT d l0 k (depthD d + 1 - l0).toNat)) ∧ Below w.heap.size w w' := by
  have HD := ddepth_t d
  have HC : ∀ l w1, Calls Try.prog 61 #[dv d, .int .i64 l, kv k] w1 fun e w' => e = .returned (kv (cutD d l k)) ∧ Below w1.heap.size w1 w' := fun l w1 => dcut_t d l k ok w1
  have hr := depthD_range d
  have hT1 := cutT_succ d l0 k
  have hT2 := cutT_len d l0 k
  have hT0 : cutT d l0 k 0 = [] := rfl
  generalize cutT d l0 k = T at *
  generalize depthD d = D at *
  obtain ⟨N, hN⟩ : ∃ N : Nat, (D + 1 - l0).toNat = N := ⟨_, rfl⟩
  rw [hN]
  have hN1 : (N : Int) = D + 1 - l0 := by omega
  have HT := Lib.hid (And.intro hT1 (And.intro hT2 hT0))
  have HCx := Lib.hid HC
  clear hT1 hT2 hT0 HC hN
  have hkv : ∀ u : Ke, kv u = .agg #[.int .i64 u.kind, .int .i64 u.len, .int .u64 u.h, .int .u64 u.l, .string ⟨u.path.toArray⟩] := fun _ => rfl
  have HK := Lib.hid hkv
  rw [hkv k]
  rw [hkv k] at HCx
  clear hkv ok
  unfold dv at HD HCx ⊢
  obtain ⟨Rd, Re, hb0⟩ := two_rows w #[.int .i64 d.kind, .int .i64 d.side, .int .i64 d.step] #[.int .i64 k.kind, .int .i64 k.len, .int .u64 k.h, .int .u64 k.l, .string ⟨k.path.toArray⟩] 23 30
  (try clear d0 d1 d2); obtain ⟨d0, d1, d2⟩ := row3 Rd
  (try clear e0 e1 e2 e3 e4); obtain ⟨e0, e1, e2, e3, e4⟩ := row5 Re
  go_enter Try.func75, Try.ntmps75
  have HR := Lib.hid (And.intro Rd Re)
  have HB := Lib.hid hb0
  have hs0 : w.heap.size + 2 ≤ ((w.alloc (.cells #[.int .i64 d.kind, .int .i64 d.side, .int .i64 d.step] 23)).alloc (.cells #[.int .i64 k.kind, .int .i64 k.len, .int .u64 k.h, .int .u64 k.l, .string ⟨k.path.toArray⟩] 30)).heap.size := by simp
  have HO := Lib.hid (show OwnK (w.heap.size + 2) ((w.alloc (.cells #[.int .i64 d.kind, .int .i64 d.side, .int .i64 d.step] 23)).alloc (.cells #[.int .i64 k.kind, .int .i64 k.len, .int .u64 k.h, .int .u64 k.l, .string ⟨k.path.toArray⟩] 30)) (.slice none 0 0) (T 0) by rw [HT.out.2.2]; exact OwnK.nil _ _)
  clear Rd Re hb0 d0 d1 d2 e0 e1 e2 e3 e4
  have HS := Lib.hid hs0
  clear hs0
  have HN := Lib.hid (And.intro hN1 (And.intro h0 (And.intro h1 hr)))
  clear hN1 h0 h1 hr
  go_wp2_with fail
  go_loopw [1, 7] (fun lv sv wr => ∃ (m : Nat) (p : Option Addr) (c : Nat), lv = .int .i64 (l0 + (m : Int)) ∧ sv = .slice p m c ∧ m ≤ N ∧ Hid (Row wr w.heap.size #[.int .i64 d.kind, .int .i64 d.side, .int .i64 d.step] 23 ∧ Row wr (w.heap.size + 1) #[.int .i64 k.kind, .int .i64 k.len, .int .u64 k.h, .int .u64 k.l, .string ⟨k.path.toArray⟩] 30) ∧ Hid (OwnK (w.heap.size + 2) wr (.slice p m c) (T m)) ∧ Hid (Below w.heap.size w wr) ∧ Hid (w.heap.size + 2 ≤ wr.heap.size)) (fun lv _ _ => (l0 + N - intOf lv).toNat)
  case atStart => exact ⟨0, none, 0, by simp, rfl, Nat.zero_le _, HR, HO, HB, HS⟩
  case round =>
    clear HR HO HB HS
    obtain ⟨m, p, c, rfl, rfl, hm, hR, hO, hB, hS⟩ := hrel
    obtain ⟨n1, n2, n3, n4, n5⟩ := HN.out
    have d0 := (hR.out.1.cell 0).trans (show _ = some (Value.int .i64 d.kind) from rfl)
    have d1 := (hR.out.1.cell 1).trans (show _ = some (Value.int .i64 d.side) from rfl)
    have d2 := (hR.out.1.cell 2).trans (show _ = some (Value.int .i64 d.step) from rfl)
    have w1 : IntKind.i64.wrap (l0 + (m : Int) + 1) = l0 + (m : Int) + 1 := IntWalk.i64_in _ (by omega)
    go_wp2_with fail
    refine (HD _).mono ?_
    rintro e w2 ⟨rfl, hb⟩
    replace hR := Lib.hid (And.intro (hR.out.1.later hb) (hR.out.2.later hb))
    replace hO := Lib.hid (hO.out.later hb)
    replace hB := Lib.hid (below_step hB.out hb)
    replace hS := Lib.hid (Nat.le_trans hS.out hb.size)
    clear hb d0 d1 d2
    by_cases hlt : m < N
    · have hle : l0 + (m : Int) ≤ D := by omega
      have hle' : decide (l0 + (m : Int) ≤ D) = true := decide_eq_true hle
      have d0 := (hR.out.1.cell 0).trans (show _ = some (Value.int .i64 d.kind) from rfl)
      have d1 := (hR.out.1.cell 1).trans (show _ = some (Value.int .i64 d.side) from rfl)
      have d2 := (hR.out.1.cell 2).trans (show _ = some (Value.int .i64 d.step) from rfl)
      obtain ⟨e0, e1, e2, e3, e4⟩ := row5 hR.out.2
      have HCm := HCx.out (l0 + (m : Int))
      have hTm := HT.out.1 m
      rw [HK.out (cutD d (l0 + (m : Int)) k)] at HCm
      generalize cutD d (l0 + (m : Int)) k = u at *
      have HTm := Lib.hid hTm
      clear hTm n1 n2 n3 n4 n5
      go_wp2_with fail
      refine (HCm _).mono ?_
      rintro e w3 ⟨rfl, hb⟩
      have hR3 := Lib.hid (And.intro (hR.out.1.later hb) (hR.out.2.later hb))
      have hO3 := hO.out.later hb
      have hB3 := below_step hB.out hb
      have hS3 := Nat.le_trans hS.out hb.size
      clear hb d0 d1 d2 e0 e1 e2 e3 e4 HCm hR hO hB hS
      obtain ⟨v', w4, hrun, hown, hgrow⟩ := appK_one u hO3 (by rw [HT.out.2.1]; have := HN.out; omega) hS3
      rw [← HTm.out] at hown
      obtain ⟨pv, cv, hpv, _, _⟩ := hown.read
      rw [HT.out.2.1] at hpv
      subst hpv
      have hb4 := Lib.hid (hB3.trans ((appK_below hO3 (Below.refl (w.heap.size + 2) w3) hS3 hgrow).mono (by omega)))
      have hR4 := Lib.hid (And.intro (rowK_app hO3 hgrow hR3.out.1 (by omega)) (rowK_app hO3 hgrow hR3.out.2 (by omega)))
      have hO4 := Lib.hid hown
      have hS4 := Lib.hid (show w.heap.size + 2 ≤ w4.heap.size from Nat.le_trans hS3 (Nat.le_trans (by simp) hgrow.size))
      have HRUN := Lib.hid hrun
      clear hO3 hB3 hS3 hR3 hown hgrow hrun
      have tok : True := trivial
      go_wp2_with (have _t := tok; at_builtin; refine wpList_appS rfl (.tmp 14) (.tmp 19) 71 rfl rfl rfl HRUN.out ?_; clear tok HRUN)
      exact ⟨⟨m + 1, pv, cv, by congr 1; omega, rfl, by omega, hR4, hO4, hb4, hS4⟩, by simp [intOf]; omega⟩
    · obtain rfl : m = N := by omega
      have hle : ¬ l0 + (m : Int) ≤ D := by omega
      have hle' : decide (l0 + (m : Int) ≤ D) = false := decide_eq_false hle
      have hF := Lib.hid hO.out.read
      have hF2 := Lib.hid (show l0 ≤ D → KB w2 w.heap.size (.slice p m c) (T m) from fun hl => by
        obtain ⟨g, c', cur, e1, e2, e3, e4⟩ := hO.out.kb (by rw [HT.out.2.1]; omega)
        exact ⟨g, c', cur, e1, e2, by omega, e4⟩)
      clear n1 n2 n3 n4 n5 hO
      go_wp2
      go_ret
      exact ⟨_, rfl, hF.out, hF2.out, hB.out⟩
end Go.Proofs.Ytbekocknfpekoaa
namespace Go.Proofs.Ytbekocknfpekoaa
set_option linter.unusedVariables false
set_option linter.unusedSimpArgs false
open Go.RowKit
section
variable {P : Program} {ops : Array Oper} {Q : Exit → Act → World → Prop} {md : Region.Mode} {S : World → Prop} {n l : Nat}
theorem rows_in_round {row : String} {args : Array Value} {w : World} {R : Value → World → Prop} (h : Rows P row args w R) : RowsIn (Fence.wide.inRound l) n P row args w R :=
  fun c cs _ => let ⟨v, w', r, s⟩ := h c cs; ⟨v, w', r, stepsIn_wide.2 s⟩
theorem oper_in_round {o : Oper} {a : Act} {w : World} {K K' : Act → World → Prop} (hd : ∀ c, o.op ≠ .defer c) (hK : ∀ a w, K a w → K' a w) (h : o.wp P a w K Q) : o.wpIn (Fence.wide.inRound l) n P a w K' Q := by
  refine ⟨fun _ _ => trivial, ?_⟩
  rw [Oper.semAt_plain _ _ _ hd]
  unfold Oper.wp at h
  generalize (execOp a.eval o).run P w = r at *
  cases r with
  | ok x w' =>
    cases x with
    | value v => exact hK _ _ h
    | skip => exact hK _ _ h
    | defer d => exact hK _ _ h
    | enter f args =>
      refine ⟨fun e => (by cases e), CallsIn.inRound l ((callsIn_wide.2 h).mono ?_)⟩
      rintro e w'' he
      cases e with
      | returned v => exact hK _ _ he
      | panicked c => exact he
      | outgrown => exact he
    | row r args => exact ⟨fun e => (by cases e), (rows_in_round h).mono fun _ _ he => hK _ _ he⟩
    | _ => exact h.elim
  | halt x w' => cases x <;> first | exact h | exact h.elim
theorem op_in_round {i : Nat} {a : Act} {w : World} {K K' : Act → World → Prop} (hd : ∀ (j : Nat) o, ops[j]? = some o → ∀ c, o.op ≠ .defer c) (hlo : ¬ LetsOut Q) (hK : ∀ a w, K a w → K' a w) (h : wpOp P ops Q i K a w) : wpOpIn (Fence.wide.inRound l) n P ops Q i K' a w := by
  unfold wpOp at h
  unfold wpOpIn
  cases ho : ops[i]? with
  | none => rw [ho] at h; exact hK _ _ h
  | some o =>
    rw [ho] at h
    dsimp only at h ⊢
    split at h
    · rename_i hw
      rw [if_pos hw]
      rcases h with h | ⟨_, h⟩
      · exact oper_in_round (hd i o ho) hK h
      · exact absurd h hlo
    · rename_i hw
      rw [if_neg hw]
      exact ⟨fun _ _ => trivial, hK _ _ h⟩
theorem any_in_round (hd : ∀ (j : Nat) o, ops[j]? = some o → ∀ c, o.op ≠ .defer c) (hlo : ¬ LetsOut Q) : ∀ (fuel : Nat) (listed : Array Bool) (a : Act) (w : World), wpAny P md ops Q fuel listed a w → wpAnyIn (Fence.wide.inRound l) n P md ops Q fuel listed a w
  | 0, _, _, _, h => h
  | fuel + 1, listed, a, w, h => ⟨h.1, fun i hi => op_in_round hd hlo (any_in_round hd hlo fuel (listed.setIfInBounds i true)) (h.2 i hi)⟩
/-- whether a region holds no 'defer' -/
def noDefer (ops : Array Oper) : Bool := ops.all fun o => match o.op with | .defer _ => false | _ => true
theorem noDefer_spec (h : noDefer ops = true) : ∀ (j : Nat) o, ops[j]? = some o → ∀ c, o.op ≠ .defer c := fun j o ho c e => by
  unfold noDefer at h
  rw [Array.all_eq_true] at h
  obtain ⟨hj, rfl⟩ := Array.getElem?_eq_some_iff.1 ho
  have := h j hj
  rw [e] at this
  cases this
/-- the walk of a region that draws, as 'wp_region_held_drew' says it, in a round -/
theorem region_in_round {id : Nat} {a : Act} {w : World} (hlo : ¬ LetsOut Q) (hn : noDefer ops = true) (hm : P.follows .mixedOrders = true) (hS : S w.drew)
    (h : S w.drew → wpAnyH P .any ops Q S ops.size (Array.replicate ops.size false) a w.drew) : (Code.region id ops true).wpIn (Fence.wide.inRound l) n P Q a w :=
  wpIn_region_any hm (any_in_round (noDefer_spec hn) hlo _ _ _ _ (wpAny_of_held _ _ _ _ (h hS)))
/-- the walk of a region of which nothing but its plain end matters -/
def onlyN (Q : Exit → Act → World → Prop) : Exit → Act → World → Prop
  | .normal, a, w => Q .normal a w
  | _, _, _ => False
theorem region_marks {id : Nat} {a : Act} {w : World} (hm : P.follows .mixedOrders = true) (hS : S w.drew)
    (h : S w.drew → wpAnyH P .any ops (onlyN Q) S ops.size (Array.replicate ops.size false) a w.drew) : (Code.region id ops true).wp P Q a w :=
  wp_mono (wp_region_held_drew hm hS h) (fun e a w h => by cases e <;> first | exact h | exact h.elim)
end
end Go.Proofs.Ytbekocknfpekoaa
