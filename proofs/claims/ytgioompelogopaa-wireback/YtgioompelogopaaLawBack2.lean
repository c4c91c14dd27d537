/- WireBack answers true for every slice of parts and every cut. No conditions. -/
import Derived.Test.YtgioompelogopaaBacks2
namespace Go.Proofs.Ytgioompelogopaa
set_option linter.unusedVariables false
set_option linter.unusedSimpArgs false
open Go.RowKit
theorem Wr.nb {base : Nat} {w : World} {p : Nat} {l : List Int} {F : Nat → Prop} (h : Wr base w p l F) : ∀ o x, w.cell? ⟨p, o, none⟩ ≠ some (.int .u8 x) := by
  intro o x hc
  rcases h.st with ⟨R, _⟩ | ⟨q, v, R, _⟩
  · rw [R.cell] at hc
    rcases o with _ | _ | o
    · cases hc
    · cases hc
    · simp at hc
  · rw [R.cell] at hc
    rcases o with _ | _ | o
    · cases hc
    · cases hc
    · simp at hc
theorem Rd.far {F : Nat → Prop} {w w1 : World} {p : Nat} {l : List Int} {e : Int} (h : Rd w p l e) (hk : Keeps F w w1) (hp : ¬ F p) (hF : ∀ g, g < p → F g → ∀ o x, w.cell? ⟨g, o, none⟩ ≠ some (.int .u8 x)) : Rd w1 p l e := by
  obtain ⟨v, R, ⟨pp, c, rfl, h1, h2, h3, h4, h6⟩, hv⟩ := h
  refine ⟨_, hk.row R hp, ⟨pp, c, rfl, h1, h2, fun hl => ?_, h4, h6⟩, hv⟩
  obtain ⟨g, o, rfl, h5⟩ := h3 hl
  exact ⟨g, o, rfl, fun j x hx => hk.cell (h5 j x hx) (fun f => hF g (hv g rfl) f _ _ (h5 j x hx))⟩
theorem Rd.lt {w : World} {p : Nat} {l : List Int} {e : Int} (h : Rd w p l e) : p < w.heap.size := by
  obtain ⟨_, R, _⟩ := h; exact R.lt
theorem app16 {A : List Int} (r : List Int) (h : A.length = 16) : takenS (A ++ r) 0 16 = A ∧ leftS (A ++ r) 0 16 = r ∧ errS (A ++ r) 0 16 = 0 := by
  have h1 := takenS_app A r
  have h2 := leftS_app A r
  have h3 := errS_app A r
  rw [h] at h1 h2 h3
  exact ⟨h1, h2, h3⟩
theorem pB2' {d : PD} (h : d.k = 2) : pB d = textB d.s := by unfold pB partB; rw [h]; rfl
theorem after_len (f : Nat → PD) {x j : Nat} (h : x ≤ j) : (after f (j - x) x).length ≤ (upto f j).length := by
  have := upto_after f (j - x) x
  rw [show x + (j - x) = j by omega] at this
  rw [← this, List.length_append]; omega
/-- the first loop's state -/
structure B1 (B : Nat) (f : Nat → PD) (w : World) (j : Nat) (F : Nat → Prop) : Prop where
  wr : Wr B w B (upto f j) F
  ag : Wr B w (B + 1) [] (fun k => k = B + 1)
  far : ∀ k, F k → B ≤ k ∧ k ≠ B + 1
theorem B1.later {B : Nat} {f : Nat → PD} {w w1 : World} {j : Nat} {F : Nat → Prop} (h : B1 B f w j F) (hb : Below w.heap.size w w1) : B1 B f w1 j F := ⟨h.wr.later hb, h.ag.later hb, h.far⟩
theorem B1.put {B : Nat} {f : Nat → PD} {w w1 : World} {j : Nat} {F F' : Nat → Prop} (h : B1 B f w j F) (hw : Wr B w1 B (upto f j ++ pB (f j)) F') (hF : ∀ k, F' k → F k ∨ w.heap.size ≤ k) (hk : Keeps F w w1) (hs : B + 2 ≤ w.heap.size) : B1 B f w1 (j + 1) F' :=
  ⟨hw, h.ag.keeps hk (fun k hk2 f => (h.far k f).2 hk2), fun k hk2 => (hF k hk2).elim (h.far k) (fun h => by omega)⟩
/-- the second loop's state -/
structure B2 (B M p : Nat) (f : Nat → PD) (n : Nat) (v : Value) (w : World) (j : Nat) (F : Nat → Prop) : Prop where
  rd : Rd w p (after f (n - j) j) 0
  ag : Wr B w (B + 1) (upto f j) F
  far : ∀ k, F k → k = B + 1 ∨ M ≤ k
  own : Own (B + 2) w v (upto f n)
  low : ∀ g, v.ownBlock = some g → g < p
theorem B2.later {B M p : Nat} {f : Nat → PD} {n : Nat} {v : Value} {w w1 : World} {j : Nat} {F : Nat → Prop} (h : B2 B M p f n v w j F) (hb : Below w.heap.size w w1) : B2 B M p f n v w1 j F := ⟨h.rd.later hb, h.ag.later hb, h.far, h.own.later hb, h.low⟩
/-- behind a read and a write -/
theorem B2.step {B M p : Nat} {f : Nat → PD} {n : Nat} {v : Value} {w w1 w2 : World} {j : Nat} {F F' : Nat → Prop} (h : B2 B M p f n v w j F) (hpB : B + 2 ≤ p) (hpM : p < M) (hM : M ≤ w.heap.size) (hjn : j < n)
    (hr : Rd w1 p (after f (n - (j + 1)) (j + 1)) 0) (hk1 : Keeps (atP (.pointer (some ⟨p, 0, none⟩))) w w1) (hw : Wr B w2 (B + 1) (upto f j ++ pB (f j)) F') (hF : ∀ k, F' k → F k ∨ w1.heap.size ≤ k) (hk2 : Keeps F w1 w2) : B2 B M p f n v w2 (j + 1) F' := by
  have hnp : ¬ F p := fun f => by rcases h.far p f with h | h <;> omega
  have hag1 : Wr B w1 (B + 1) (upto f j) F := h.ag.keeps hk1 (fun k hk f => by cases f; exact hnp hk)
  have hown1 : Own (B + 2) w1 v (upto f n) := h.own.keeps hk1 (fun g hg f => by cases f; have := h.low _ hg; omega)
  refine ⟨hr.far hk2 hnp (fun g hg fg => ?_), hw, fun k hk => ?_, hown1.keeps hk2 (fun g hg fg => ?_), h.low⟩
  · rcases h.far g fg with rfl | h2
    · exact hag1.nb
    · omega
  · rcases hF k hk with h2 | h2
    · exact h.far k h2
    · right; exact Nat.le_trans hM (Nat.le_trans hk1.size h2)
  · have h3 := (hown1.block g hg).1
    have h4 := h.low g hg
    rcases h.far g fg with h5 | h5 <;> omega
theorem after_step (f : Nat → PD) {n j : Nat} (h : j < n) : after f (n - j) j = pB (f j) ++ after f (n - (j + 1)) (j + 1) := by
  rw [show n - j = (n - (j + 1)) + 1 by omega]; rfl
theorem upto_len (f : Nat → PD) : ∀ n, (∀ j, j < n → Good (f j)) → (upto f n).length ≤ n * 302
  | 0, _ => by simp [upto]
  | n + 1, h => by
    have h1 := upto_len f n (fun j hj => h j (by omega))
    have h2 := pB_len (h n (by omega))
    rw [upto, List.length_append]; omega
set_option maxRecDepth 100000 in
set_option maxHeartbeats 6400000 in
theorem wireBack_any (lv : Value) (cut : Int) (w : World) (hps : PS w lv) :
    Calls Try.prog 11 #[lv, .int .i64 cut] w fun e w' => e = .returned (.bool true) ∧ Below w.heap.size w w' := by
  obtain ⟨lp, n, c, rfl, hn, hc, hparts⟩ := hps
  obtain ⟨f, hf⟩ : ∃ f : Nat → PD, 0 < n → ∃ g o, lp = some ⟨g, o, none⟩ ∧ ∀ j, j < n → (f j).at w g (o + j * 7) := by
    by_cases h0 : 0 < n
    · obtain ⟨g, o, hl, hall⟩ := hparts h0
      obtain ⟨f, hf⟩ := parts_fun hall
      exact ⟨f, fun _ => ⟨g, o, hl, hf⟩⟩
    · exact ⟨fun _ => ⟨0, 0, 0, 0, 0, ⟨#[]⟩, undef, []⟩, fun h => absurd h h0⟩
  have HP := Lib.hid hf
  clear hf hparts
  have hW0 := (new_wr w).later ((Below.refl _ _).alloc (Nat.le_refl _) (.cells #[.pointer none, .int .i64 0] 55))
  have hA0 : Wr w.heap.size ((w.alloc (.cells #[.pointer none, .int .i64 0] 55)).alloc (.cells #[.pointer none, .int .i64 0] 55)) (w.heap.size + 1) [] (fun k => k = w.heap.size + 1) :=
    ⟨by omega, rfl, .inl ⟨by simpa using Row.new (w.alloc (.cells #[.pointer none, .int .i64 0] 55)) #[.pointer none, .int .i64 0] 55, rfl⟩⟩
  have hB0 : Below w.heap.size w ((w.alloc (.cells #[.pointer none, .int .i64 0] 55)).alloc (.cells #[.pointer none, .int .i64 0] 55)) := (by repeat (first | exact Below.refl _ _ | assumption | (with_reducible refine Below.setCell ?_ ?h _; case h => first | omega | (simp; done) | (simp; omega)) | (with_reducible refine Below.alloc ?_ ?h _; case h => first | omega | (simp; done) | (simp; omega)) | (with_reducible refine Below.drew ?_) | (with_reducible refine Below.trans ?_ (hb4.mono ?h); case h => first | omega | (simp; done) | (simp; omega)) | (with_reducible refine Below.trans ?_ (hb3.mono ?h); case h => first | omega | (simp; done) | (simp; omega)) | (with_reducible refine Below.trans ?_ (hb2.mono ?h); case h => first | omega | (simp; done) | (simp; omega)) | (with_reducible refine Below.trans ?_ (hb.mono ?h); case h => first | omega | (simp; done) | (simp; omega)) | (with_reducible refine Below.trans ?_ (hb0.mono ?h); case h => first | omega | (simp; done) | (simp; omega))))
  have hs0 : w.heap.size + 2 ≤ ((w.alloc (.cells #[.pointer none, .int .i64 0] 55)).alloc (.cells #[.pointer none, .int .i64 0] 55)).heap.size := by simp
  generalize hB : w.heap.size = B at *
  go_enter Try.func11, Try.ntmps11
  go_wp2_with fail
  generalize (w.alloc (.cells #[.pointer none, .int .i64 0] 55)).alloc (.cells #[.pointer none, .int .i64 0] 55) = w0 at *
  go_loopw [7] (fun i wr => ∃ (j : Nat) (F : Nat → Prop), j ≤ n ∧ i = .int .i64 j ∧ (0 < j → n ≤ 30) ∧ (∀ x, x < j → Good (f x)) ∧ B1 B f wr j F ∧ Below B w wr ∧ B + 2 ≤ wr.heap.size) (fun i _ => n - (intOf i).toNat)
  case atStart => exact ⟨0, _, by omega, rfl, fun h => absurd h (by omega), fun x h => absurd h (by omega), ⟨hW0, hA0, fun k hk => by omega⟩, hB0, hs0⟩
  case round =>
    clear hW0 hA0 hB0 hs0
    obtain ⟨j, F, hjn, rfl, h30, hgood, hb1, hBel, hBs⟩ := hrel
    by_cases hj1 : j < n
    · obtain ⟨g, o, rfl, hall⟩ := HP.out (by omega)
      have P : (f j).at w g (o + j * 7) := hall j hj1
      have Q : (f j).at wr g (o + j * 7) := P.later (hB.symm ▸ hBel)
      have hblt := P.hb.lt
      rw [hB] at hblt
      have c0 := Q.c0
      have c1 := Q.c1
      have c2 := Q.c2
      have c3 := Q.c3
      have c4 := Q.c4
      have c5 := Q.c5
      have c6 := Q.c6
      have H1 := Lib.hid hb1
      have HQ := Lib.hid Q
      have HBel := Lib.hid hBel
      have HP0 := Lib.hid P
      have HG := Lib.hid hgood
      clear hb1 Q hBel hall P hgood
      by_cases hn30 : 30 < n
      · go_wp2_with fail
        refine (alive2_t wr).mono ?_
        rintro r w2 ⟨rfl, hb2⟩
        have hBel2 := HBel.out.trans (hb2.mono (by omega))
        go_wp2
        go_ret
        exact ⟨rfl, hBel2⟩
      · go_wp2_with fail
        refine (great_t _ _ _ _ _ _ _ _ wr HQ.out.hb).mono ?_
        rintro r w1 ⟨rfl, hb1⟩
        have Q : (f j).at w1 g (o + j * 7) := HQ.out.later hb1
        have h1 := H1.out.later hb1
        have hBel1 := HBel.out.trans (hb1.mono (by omega))
        have hBs1 := Nat.le_trans hBs hb1.size
        clear HQ H1 HBel hb1 c0 c1 c2 c3 c4 c5 c6
        have c0 := Q.c0
        have c1 := Q.c1
        have c2 := Q.c2
        have c3 := Q.c3
        have c4 := Q.c4
        have c5 := Q.c5
        have c6 := Q.c6
        have H1 := Lib.hid h1
        have HQ := Lib.hid Q
        have HBel := Lib.hid hBel1
        clear h1 Q hBel1
        have hend : ∀ w2, Below w1.heap.size w1 w2 → Below B w w2 := fun w2 hb2 => HBel.out.trans (hb2.mono (by omega))
        cases hgr : greatB (f j).s.size (f j).bl.length (f j).i
        · have hg2 : (f j).bl.length ≤ 300 := by unfold greatB at hgr; have := of_decide_eq_false hgr; omega
          by_cases k0 : (f j).k < 0
          · go_wp2_with fail
            refine (alive2_t w1).mono ?_
            rintro r w2 ⟨rfl, hb2⟩
            have hBel2 := hend w2 hb2
            clear hend
            go_wp2
            go_ret
            exact ⟨rfl, hBel2⟩
          by_cases k3 : 3 < (f j).k
          · go_wp2_with fail
            refine (alive2_t w1).mono ?_
            rintro r w2 ⟨rfl, hb2⟩
            have hBel2 := hend w2 hb2
            clear hend
            go_wp2
            go_ret
            exact ⟨rfl, hBel2⟩
          by_cases s3 : 300 < (f j).s.size
          · go_wp2_with fail
            refine (alive2_t w1).mono ?_
            rintro r w2 ⟨rfl, hb2⟩
            have hBel2 := hend w2 hb2
            clear hend
            go_wp2
            go_ret
            exact ⟨rfl, hBel2⟩
          have hgj : Good (f j) := ⟨by omega, by omega, by omega, hg2⟩
          have hul := upto_len f j HG.out
          go_wp2_with fail
          refine (put_t B B (upto f j) _ _ _ _ _ _ _ _ HQ.out.hn HQ.out.hh HQ.out.hl w1 F H1.out.wr HQ.out.hb (by omega) (by omega) (fun hp x hx fx => by have h1 := hblt hp x hx; have h2 := (H1.out.far x fx).1; omega)).mono ?_
          rintro r w2 ⟨v2, rfl, hb2, _, F2, hw2, hF2, hk2⟩
          have h2 := Lib.hid (H1.out.put hw2 hF2 hk2 hBs1)
          have hBel2 := Lib.hid (HBel.out.trans (hk2.below B (by omega) (fun k fk => (H1.out.far k fk).1)))
          have hBs2 := Nat.le_trans hBs1 hk2.size
          clear hend hb2 hw2 hF2 hk2 H1 HQ HBel c0 c1 c2 c3 c4 c5 c6
          have hg' : ∀ x, x < j + 1 → Good (f x) := by
            intro x hx
            by_cases e : x < j
            · exact HG.out x e
            · obtain rfl : x = j := by omega
              exact hgj
          have HG2 := Lib.hid hg'
          clear hg'
          go_wp2
          exact ⟨⟨j + 1, F2, by omega, by go_num, fun _ => by omega, HG2.out, h2.out, hBel2.out, hBs2⟩, by simp [intOf]; omega⟩
        · go_wp2_with fail
          refine (alive2_t w1).mono ?_
          rintro r w2 ⟨rfl, hb2⟩
          have hBel2 := hend w2 hb2
          clear hend
          go_wp2
          go_ret
          exact ⟨rfl, hBel2⟩
    · have hje : j = n := by omega
      subst hje
      have hn30 : j ≤ 30 := by by_cases h0 : 0 < j; exact h30 h0; omega
      have hul := upto_len f j hgood
      have q0 : decide ((j : Int) < (j : Int)) = false := by simp
      have H1 := Lib.hid hb1
      have HBel := Lib.hid hBel
      have HG := Lib.hid hgood
      clear hb1 hBel hgood h30
      go_wp2_with fail
      refine (bytes_t B B (upto f j) F wr H1.out.wr (by omega)).mono ?_
      rintro r w1 ⟨v, rfl, hO1, hb1⟩
      have hA1 := H1.out.ag.later hb1
      have hBel1 := HBel.out.trans (hb1.mono (by omega))
      have hBs1 := Nat.le_trans hBs hb1.size
      have hOb := hO1.bs
      have hO1' : Own (B + 2) w1 v (upto f j) := hO1.mono hBs
      have hlow1 := hO1.block
      obtain ⟨pv, cv, rfl⟩ := hO1.form
      clear hb1 H1 HBel hO1
      have HA1 := Lib.hid hA1
      have HO1 := Lib.hid hO1'
      have HBel1 := Lib.hid hBel1
      clear hA1 hO1' hBel1
      go_wp2_with fail
      refine (from_t _ (upto f j) w1 hOb (by omega)).mono ?_
      rintro r w2 ⟨p, rfl, hp, hR, hb2⟩
      have hlow : ∀ g, (Value.slice pv (upto f j).length cv).ownBlock = some g → g < p := fun g hg => by have := (hlow1 g hg).2; omega
      have hA2 := HA1.out.later hb2
      have hO2 := HO1.out.later hb2
      have hBel2 := HBel1.out.trans (hb2.mono (by omega))
      have hBs2 := Nat.le_trans hBs1 hb2.size
      have hpM := hR.lt
      have hpB : B + 2 ≤ p := by omega
      have hst : B2 B w2.heap.size p f j (.slice pv (upto f j).length cv) w2 0 (fun k => k = B + 1) := ⟨by rw [Nat.sub_zero, after_all]; exact hR, hA2, fun k hk => .inl hk, hO2, hlow⟩
      clear hb2 HA1 HO1 HBel1 hR hA2 hO2 hOb hlow hlow1
      generalize hM : w2.heap.size = M at *
      have H2 := Lib.hid hst
      have HBel2 := Lib.hid hBel2
      clear hst hBel2
      go_wp2_with fail
      go_loopw [10] (fun i wr => ∃ (x : Nat) (F2 : Nat → Prop), x ≤ j ∧ i = .int .i64 x ∧ B2 B M p f j (.slice pv (upto f j).length cv) wr x F2 ∧ Below B w wr ∧ M ≤ wr.heap.size) (fun i _ => j - (intOf i).toNat)
      case atStart => exact ⟨0, _, by omega, rfl, H2.out, HBel2.out, by omega⟩
      case round =>
        clear H2 HBel2
        obtain ⟨x, F2, hxj, rfl, hb2, hBel, hMs⟩ := hrel
        by_cases hx1 : x < j
        · obtain ⟨g, o, rfl, hall⟩ := HP.out (by omega)
          have P : (f x).at w g (o + x * 7) := hall x hx1
          have Q : (f x).at wr g (o + x * 7) := P.later (hB.symm ▸ hBel)
          have hgx := HG.out x hx1
          have has := after_step f hx1
          have c0 := Q.c0
          have c1 := Q.c1
          have c2 := Q.c2
          have c3 := Q.c3
          have c4 := Q.c4
          have c5 := Q.c5
          have c6 := Q.c6
          have HQ := Lib.hid Q
          have HP0 := Lib.hid P
          have H2 := Lib.hid hb2
          have HBel := Lib.hid hBel
          clear hb2 hBel Q P hall
          have HAS := Lib.hid has
          clear has
          have hux : (upto f x).length ≤ 30 * 302 := by have := upto_len f x (fun y hy => HG.out y (by omega)); omega
          by_cases e0 : (f x).k = 0
          · have e0b : ((f x).k == 0) = true := by simpa using e0
            rw [e0] at c0
            have H3 := Lib.hid (H2.out.later (Below.refl wr.heap.size wr).drew)
            have hMs3 : M ≤ wr.drew.heap.size := hMs
            have hR := H3.out.rd
            rw [HAS.out] at hR
            have hag : ∀ w5, Keeps (atP (.pointer (some ⟨p, 0, none⟩))) wr.drew w5 → Wr B w5 (B + 1) (upto f x) F2 := fun w5 hk => H3.out.ag.keeps hk (fun k fk e => by cases e; rcases H3.out.far _ fk with h | h <;> omega)
            have hbelp : ∀ w5, Keeps (atP (.pointer (some ⟨p, 0, none⟩))) wr.drew w5 → Below B w w5 := fun w5 hk => (HBel.out.drew).trans (hk.below B (by omega) (fun k e => by cases e; omega))
            have hfarB : ∀ k, F2 k → B ≤ k := fun k fk => by rcases H3.out.far k fk with h | h <;> omega
            have HAG := Lib.hid hag
            have HBP := Lib.hid hbelp
            clear hag hbelp
            rw [pB0 e0] at hR
            have hc5 := rnum_a (.pointer (some ⟨p, 0, none⟩)) _ 0 (f x).i wr.drew hR.st
            clear hR
            have tA := takenS_app (numB (f x).n (limK (f x).i)) (after f (j - (x + 1)) (x + 1))
            have tB := leftS_app (numB (f x).n (limK (f x).i)) (after f (j - (x + 1)) (x + 1))
            have tC := errS_app (numB (f x).n (limK (f x).i)) (after f (j - (x + 1)) (x + 1))
            rw [numB_length] at tA tB tC
            rw [tA, tB, tC, valB_numB] at hc5
            clear tA tB tC
            have HC5 := Lib.hid hc5
            clear hc5
            have hwd : Word ((f x).n % 256 ^ limK (f x).i) := by
              obtain ⟨n0, n1⟩ := HQ.out.hn
              have hpp : (0 : Int) < 256 ^ limK (f x).i := Int.pow_pos (by decide)
              refine ⟨Int.emod_nonneg _ (by omega), ?_⟩
              have := Int.emod_add_mul_ediv (f x).n (256 ^ limK (f x).i)
              have h2 : 0 ≤ 256 ^ limK (f x).i * ((f x).n / 256 ^ limK (f x).i) := Int.mul_nonneg (by omega) (Int.ediv_nonneg n0 (by omega))
              omega
            go_wp2_with fail
            have hS0 := And.intro HBel.out.drew (show M ≤ wr.drew.heap.size from hMs)
            refine wp_region_held_drew (S := (fun w' => Below B w w' ∧ M ≤ w'.heap.size)) (by kernel_rfl) ?hSr1_ (fun hHeld => ?_)
            case hSr1_ => (first | exact hS0 | exact hSn)
            refine wpAnyH_take (i := 0) (oi := { dst := some 82, op := Go.Op.move (Go.Operand.tmp 6), type := 52, pos := _, after := #[], guard := none }) (v := ?vr1_1_0) rfl (by kernel_rfl) (by kernel_rfl) (by kernel_rfl) (fun _ _ _ h => h) (Or.inl ⟨by rfl, ?yr1_1_0⟩) hHeld ?_
            case yr1_1_0 => ((intro w hSw; (try dsimp only at hSw); go_simp) <;> with_reducible rfl)
            (try simp only [Act.put, List.setIfInBounds_toArray, List.set_cons_zero, List.set_cons_succ])
            refine wpAnyH_take (i := 1) (oi := { dst := some 83, op := Go.Op.move (Go.Operand.tmp 9), type := 64, pos := _, after := #[], guard := none }) (v := ?vr1_2_1) rfl (by kernel_rfl) (by kernel_rfl) (by kernel_rfl) (fun _ _ _ h => h) (Or.inl ⟨by rfl, ?yr1_2_1⟩) hHeld ?_
            case yr1_2_1 => ((intro w hSw; (try dsimp only at hSw); go_simp) <;> with_reducible rfl)
            (try simp only [Act.put, List.setIfInBounds_toArray, List.set_cons_zero, List.set_cons_succ])
            refine wpAnyH_take (i := 2) (oi := { dst := some 84, op := Go.Op.move (Go.Operand.tmp 0), type := 51, pos := _, after := #[], guard := none }) (v := ?vr1_3_2) rfl (by kernel_rfl) (by kernel_rfl) (by kernel_rfl) (fun _ _ _ h => h) (Or.inl ⟨by rfl, ?yr1_3_2⟩) hHeld ?_
            case yr1_3_2 => ((intro w hSw; (try dsimp only at hSw); go_simp) <;> with_reducible rfl)
            (try simp only [Act.put, List.setIfInBounds_toArray, List.set_cons_zero, List.set_cons_succ])
            refine wpAnyH_take (i := 3) (oi := { dst := some 85, op := Go.Op.move (Go.Operand.tmp 10), type := 3, pos := _, after := #[], guard := none }) (v := ?vr1_4_3) rfl (by kernel_rfl) (by kernel_rfl) (by kernel_rfl) (fun _ _ _ h => h) (Or.inl ⟨by rfl, ?yr1_4_3⟩) hHeld ?_
            case yr1_4_3 => ((intro w hSw; (try dsimp only at hSw); go_simp) <;> with_reducible rfl)
            (try simp only [Act.put, List.setIfInBounds_toArray, List.set_cons_zero, List.set_cons_succ])
            refine wpAnyH_take (i := 4) (oi := { dst := some 86, op := Go.Op.indexAddr 51 (Go.Operand.tmp 84) (Go.Operand.tmp 85), type := 0, pos := _, after := #[{ on := 2, ground := Go.Ground.data }, { on := 3, ground := Go.Ground.data }], guard := none }) (v := ?vr1_5_4) rfl (by kernel_rfl) (by kernel_rfl) (by kernel_rfl) (fun _ _ _ h => h) (Or.inl ⟨by rfl, ?yr1_5_4⟩) hHeld ?_
            case yr1_5_4 => ((intro w hSw; (try dsimp only at hSw); go_simp) <;> with_reducible rfl)
            (try simp only [Act.put, List.setIfInBounds_toArray, List.set_cons_zero, List.set_cons_succ])
            refine wpAnyH_take (i := 5) (oi := { dst := some 87, op := Go.Op.fieldAddr 59 (Go.Operand.tmp 86) 1, type := 0, pos := _, after := #[{ on := 4, ground := Go.Ground.data }], guard := none }) (v := ?vr1_6_5) rfl (by kernel_rfl) (by kernel_rfl) (by kernel_rfl) (fun _ _ _ h => h) (Or.inl ⟨by rfl, ?yr1_6_5⟩) hHeld ?_
            case yr1_6_5 => ((intro w hSw; (try dsimp only at hSw); go_simp) <;> with_reducible rfl)
            (try simp only [Act.put, List.setIfInBounds_toArray, List.set_cons_zero, List.set_cons_succ])
            refine wpAnyH_take (i := 6) (oi := { dst := some 88, op := Go.Op.load 3 (Go.Operand.tmp 87), type := 3, pos := _, after := #[{ on := 5, ground := Go.Ground.data }], guard := none }) (v := ?vr1_7_6) rfl (by kernel_rfl) (by kernel_rfl) (by kernel_rfl) (fun _ _ _ h => h) (Or.inl ⟨by rfl, ?yr1_7_6⟩) hHeld ?_
            case yr1_7_6 => ((intro w' hSw; (try dsimp only at hSw); (have Q := HP0.out.later (hB.symm ▸ hSw.1)); (have c1 := Q.c1); clear Q hSw; go_simp) <;> with_reducible rfl)
            (try simp only [Act.put, List.setIfInBounds_toArray, List.set_cons_zero, List.set_cons_succ])
            refine wpAnyH_take (i := 8) (oi := { dst := some 90, op := Go.Op.move (Go.Operand.tmp 0), type := 51, pos := _, after := #[], guard := none }) (v := ?vr1_8_8) rfl (by kernel_rfl) (by kernel_rfl) (by kernel_rfl) (fun _ _ _ h => h) (Or.inl ⟨by rfl, ?yr1_8_8⟩) hHeld ?_
            case yr1_8_8 => ((intro w hSw; (try dsimp only at hSw); go_simp) <;> with_reducible rfl)
            (try simp only [Act.put, List.setIfInBounds_toArray, List.set_cons_zero, List.set_cons_succ])
            refine wpAnyH_take (i := 9) (oi := { dst := some 91, op := Go.Op.move (Go.Operand.tmp 10), type := 3, pos := _, after := #[], guard := none }) (v := ?vr1_9_9) rfl (by kernel_rfl) (by kernel_rfl) (by kernel_rfl) (fun _ _ _ h => h) (Or.inl ⟨by rfl, ?yr1_9_9⟩) hHeld ?_
            case yr1_9_9 => ((intro w hSw; (try dsimp only at hSw); go_simp) <;> with_reducible rfl)
            (try simp only [Act.put, List.setIfInBounds_toArray, List.set_cons_zero, List.set_cons_succ])
            refine wpAnyH_take (i := 10) (oi := { dst := some 92, op := Go.Op.indexAddr 51 (Go.Operand.tmp 90) (Go.Operand.tmp 91), type := 0, pos := _, after := #[{ on := 8, ground := Go.Ground.data }, { on := 9, ground := Go.Ground.data }], guard := none }) (v := ?vr1_10_10) rfl (by kernel_rfl) (by kernel_rfl) (by kernel_rfl) (fun _ _ _ h => h) (Or.inl ⟨by rfl, ?yr1_10_10⟩) hHeld ?_
            case yr1_10_10 => ((intro w hSw; (try dsimp only at hSw); go_simp) <;> with_reducible rfl)
            (try simp only [Act.put, List.setIfInBounds_toArray, List.set_cons_zero, List.set_cons_succ])
            refine wpAnyH_take (i := 11) (oi := { dst := some 93, op := Go.Op.fieldAddr 59 (Go.Operand.tmp 92) 1, type := 0, pos := _, after := #[{ on := 10, ground := Go.Ground.data }], guard := none }) (v := ?vr1_11_11) rfl (by kernel_rfl) (by kernel_rfl) (by kernel_rfl) (fun _ _ _ h => h) (Or.inl ⟨by rfl, ?yr1_11_11⟩) hHeld ?_
            case yr1_11_11 => ((intro w hSw; (try dsimp only at hSw); go_simp) <;> with_reducible rfl)
            (try simp only [Act.put, List.setIfInBounds_toArray, List.set_cons_zero, List.set_cons_succ])
            refine wpAnyH_take (i := 12) (oi := { dst := some 94, op := Go.Op.load 3 (Go.Operand.tmp 93), type := 3, pos := _, after := #[{ on := 11, ground := Go.Ground.data }], guard := none }) (v := ?vr1_12_12) rfl (by kernel_rfl) (by kernel_rfl) (by kernel_rfl) (fun _ _ _ h => h) (Or.inl ⟨by rfl, ?yr1_12_12⟩) hHeld ?_
            case yr1_12_12 => ((intro w' hSw; (try dsimp only at hSw); (have Q := HP0.out.later (hB.symm ▸ hSw.1)); (have c1 := Q.c1); clear Q hSw; go_simp) <;> with_reducible rfl)
            (try simp only [Act.put, List.setIfInBounds_toArray, List.set_cons_zero, List.set_cons_succ])
            refine wpAnyH_ready (rs := [7]) (by kernel_rfl) (by simp) ?_
            refine AllReadyH.cons (o := { dst := some 89, op := Go.Op.call { callee := Go.Callee.value (Go.Operand.func 50), args := #[Go.Operand.tmp 83, Go.Operand.tmp 88], argTypes := #[64, 3] }, type := 22, pos := _, after := #[{ on := 1, ground := Go.Ground.data }, { on := 6, ground := Go.Ground.data }], guard := none }) rfl (fun K hK => ?_) AllReadyH.nil
            go_simp
            ((refine HC5.out.mono ?_); (rintro r w5 ⟨rfl, hS5, hk5⟩); (have hSn := And.intro (HBP.out w5 hk5) (Nat.le_trans hMs3 hk5.size)))
            go_wp2_with fail
            refine hK.out _ _ ?hSr1_13_7 (fun hHeld2 => ?_)
            case hSr1_13_7 => (first | exact hS0 | exact hSn)
            clear hK K hHeld
            have hHeld := hHeld2
            clear hHeld2
            (try simp only [Act.put, List.setIfInBounds_toArray, List.set_cons_zero, List.set_cons_succ])
            refine wpAnyH_ready (rs := [13]) (by kernel_rfl) (by simp) ?_
            refine AllReadyH.cons (o := { dst := some 95, op := Go.Op.call { callee := Go.Callee.value (Go.Operand.func 41), args := #[Go.Operand.tmp 82, Go.Operand.tmp 89, Go.Operand.tmp 94], argTypes := #[52, 22, 3] }, type := 52, pos := _, after := #[{ on := 0, ground := Go.Ground.data }, { on := 7, ground := Go.Ground.data }, { on := 12, ground := Go.Ground.data }, { on := 7, ground := Go.Ground.chain }], guard := none }) rfl (fun K hK => ?_) AllReadyH.nil
            go_simp
            ((refine (num_t B (B + 1) (upto f x) _ (f x).i hwd w5 F2 (HAG.out w5 hk5) (by omega) (by have := hk5.size; omega)).mono ?_); (rintro r w6 ⟨rfl, F6, hw6, hF6, hk6⟩); (clear hSn); (have hSn := And.intro ((HBP.out w5 hk5).trans (hk6.below B (by have := hk5.size; omega) hfarB)) (Nat.le_trans (Nat.le_trans hMs3 hk5.size) hk6.size)))
            go_wp2_with fail
            refine hK.out _ _ ?hSr1_14_13 (fun hHeld2 => ?_)
            case hSr1_14_13 => (first | exact hS0 | exact hSn)
            clear hK K hHeld
            have hHeld := hHeld2
            clear hHeld2
            (try simp only [Act.put, List.setIfInBounds_toArray, List.set_cons_zero, List.set_cons_succ])
            refine wpAnyH_done (by kernel_rfl) ?_ _
            rw [numB_mod, ← pB0 e0] at hw6
            have h6 := H3.out.step hpB (by omega) hMs3 hx1 hS5.rd hk5 hw6 hF6 hk6
            go_wp2
            exact ⟨⟨x + 1, F6, by omega, by go_num, h6, hHeld.1, hHeld.2⟩, by simp [intOf]; omega⟩
          by_cases e1 : (f x).k = 1
          · rw [e1] at c0
            have H3 := Lib.hid (H2.out)
            have hMs3 : M ≤ wr.heap.size := hMs
            have hR := H3.out.rd
            rw [HAS.out] at hR
            have hag : ∀ w5, Keeps (atP (.pointer (some ⟨p, 0, none⟩))) wr w5 → Wr B w5 (B + 1) (upto f x) F2 := fun w5 hk => H3.out.ag.keeps hk (fun k fk e => by cases e; rcases H3.out.far _ fk with h | h <;> omega)
            have hbelp : ∀ w5, Keeps (atP (.pointer (some ⟨p, 0, none⟩))) wr w5 → Below B w w5 := fun w5 hk => (HBel.out).trans (hk.below B (by omega) (fun k e => by cases e; omega))
            have hfarB : ∀ k, F2 k → B ≤ k := fun k fk => by rcases H3.out.far k fk with h | h <;> omega
            have HAG := Lib.hid hag
            have HBP := Lib.hid hbelp
            clear hag hbelp
            rw [pB1 e1] at hR
            obtain ⟨tA, tB, tC⟩ := app16 (A := numB (f x).ah 8 ++ numB (f x).al 8) (after f (j - (x + 1)) (x + 1)) (by rw [List.length_append, numB_length, numB_length])
            obtain ⟨vh, vl⟩ := val16 (f x).ah (f x).al HQ.out.hh HQ.out.hl
            have hc5 := rwide_a (.pointer (some ⟨p, 0, none⟩)) _ 0 wr hR.st
            rw [tA, tB, tC, vh, vl] at hc5
            clear hR tA tB tC vh vl
            have HC5 := Lib.hid hc5
            clear hc5
            go_wp2_with fail
            refine HC5.out.mono ?_
            rintro r w5 ⟨rfl, hS5, hk5⟩
            go_wp2_with fail
            refine (wide_t B (B + 1) (upto f x) _ _ HQ.out.hh HQ.out.hl w5 F2 (HAG.out w5 hk5) (by omega) (by have := hk5.size; omega)).mono ?_
            rintro r w6 ⟨rfl, F6, hw6, hF6, hk6⟩
            have hw7 : Wr B w6 (B + 1) (upto f x ++ pB (f x)) F6 := by rw [pB1 e1, ← List.append_assoc]; exact hw6
            have h6 := Lib.hid (H3.out.step hpB (by omega) hMs3 hx1 hS5.rd hk5 hw7 hF6 hk6)
            have hB6 := Lib.hid ((HBP.out w5 hk5).trans (hk6.below B (by have := hk5.size; omega) hfarB))
            have hM6 := Nat.le_trans (Nat.le_trans hMs3 hk5.size) hk6.size
            clear hS5 hk5 hw6 hw7 hF6 hk6 H3 H2 HAG HBP HC5 HQ HBel hfarB
            go_wp2
            exact ⟨⟨x + 1, F6, by omega, by go_num, h6.out, hB6.out, hM6⟩, by simp [intOf]; omega⟩
          by_cases e2 : (f x).k = 2
          · rw [e2] at c0
            have H3 := Lib.hid (H2.out)
            have hMs3 : M ≤ wr.heap.size := hMs
            have hR := H3.out.rd
            rw [HAS.out] at hR
            have hag : ∀ w5, Keeps (atP (.pointer (some ⟨p, 0, none⟩))) wr w5 → Wr B w5 (B + 1) (upto f x) F2 := fun w5 hk => H3.out.ag.keeps hk (fun k fk e => by cases e; rcases H3.out.far _ fk with h | h <;> omega)
            have hbelp : ∀ w5, Keeps (atP (.pointer (some ⟨p, 0, none⟩))) wr w5 → Below B w w5 := fun w5 hk => (HBel.out).trans (hk.below B (by omega) (fun k e => by cases e; omega))
            have hfarB : ∀ k, F2 k → B ≤ k := fun k fk => by rcases H3.out.far k fk with h | h <;> omega
            have HAG := Lib.hid hag
            have HBP := Lib.hid hbelp
            clear hag hbelp
            rw [pB2 e2 hgx.s3] at hR
            obtain ⟨tA, tB, tC⟩ := text_back (f x).s (after f (j - (x + 1)) (x + 1)) hgx.s3
            have hc5 := rtext_a (.pointer (some ⟨p, 0, none⟩)) _ 0 300 wr hR.st
            rw [tA, tB, tC] at hc5
            clear hR tA tB tC
            have HC5 := Lib.hid hc5
            clear hc5
            go_wp2_with fail
            refine HC5.out.mono ?_
            rintro r w5 ⟨rfl, hS5, hk5⟩
            go_wp2_with fail
            refine (text_t B (B + 1) (upto f x) (f x).s w5 F2 (HAG.out w5 hk5) (by omega) (by have := hk5.size; omega)).mono ?_
            rintro r w6 ⟨rfl, F6, hw6, hF6, hk6⟩
            have hw7 : Wr B w6 (B + 1) (upto f x ++ pB (f x)) F6 := by rw [pB2' e2]; exact hw6
            have h6 := Lib.hid (H3.out.step hpB (by omega) hMs3 hx1 hS5.rd hk5 hw7 hF6 hk6)
            have hB6 := Lib.hid ((HBP.out w5 hk5).trans (hk6.below B (by have := hk5.size; omega) hfarB))
            have hM6 := Nat.le_trans (Nat.le_trans hMs3 hk5.size) hk6.size
            clear hS5 hk5 hw6 hw7 hF6 hk6 H3 H2 HAG HBP HC5 HQ HBel hfarB
            go_wp2
            exact ⟨⟨x + 1, F6, by omega, by go_num, h6.out, hB6.out, hM6⟩, by simp [intOf]; omega⟩
          have e3 : (f x).k = 3 := by have := hgx.k0; have := hgx.k3; omega
          rw [e3] at c0
          obtain ⟨pb, cb, hbv, _, _, _, _, _⟩ := id HQ.out.hb
          rw [hbv] at c6
          have H3 := Lib.hid (H2.out)
          have hMs3 : M ≤ wr.heap.size := hMs
          have hR := H3.out.rd
          rw [HAS.out] at hR
          have hag : ∀ w5, Keeps (atP (.pointer (some ⟨p, 0, none⟩))) wr w5 → Wr B w5 (B + 1) (upto f x) F2 := fun w5 hk => H3.out.ag.keeps hk (fun k fk e => by cases e; rcases H3.out.far _ fk with h | h <;> omega)
          have hbelp : ∀ w5, Keeps (atP (.pointer (some ⟨p, 0, none⟩))) wr w5 → Below B w w5 := fun w5 hk => (HBel.out).trans (hk.below B (by omega) (fun k e => by cases e; omega))
          have hfarB : ∀ k, F2 k → B ≤ k := fun k fk => by rcases H3.out.far k fk with h | h <;> omega
          have HAG := Lib.hid hag
          have HBP := Lib.hid hbelp
          clear hag hbelp
          rw [pB3 e3] at hR
          have tA := takenS_app (f x).bl (after f (j - (x + 1)) (x + 1))
          have tB := leftS_app (f x).bl (after f (j - (x + 1)) (x + 1))
          have tC := errS_app (f x).bl (after f (j - (x + 1)) (x + 1))
          have hal := after_len f (Nat.le_of_lt hx1)
          rw [HAS.out, pB3 e3] at hal
          have hc5 := rraw_a (.pointer (some ⟨p, 0, none⟩)) _ 0 (f x).bl.length wr hR.st (by omega)
          rw [mustS_nat, tA, tB, tC] at hc5
          clear hR tA tB tC hal
          have HC5 := Lib.hid hc5
          clear hc5
          go_wp2_with fail
          refine HC5.out.mono ?_
          rintro r w5 ⟨⟨v5, rfl, hO5⟩, hS5, hk5⟩
          go_wp2_with fail
          refine (raw2_t B (B + 1) v5 (upto f x) (f x).bl w5 F2 (HAG.out w5 hk5) hO5.bs (by have := hgx.b3; omega) (by have := hk5.size; omega)).mono ?_
          rintro r w6 ⟨rfl, F6, hw6, hF6, hk6⟩
          have hw7 : Wr B w6 (B + 1) (upto f x ++ pB (f x)) F6 := by rw [pB3 e3]; exact hw6
          have h6 := Lib.hid (H3.out.step hpB (by omega) hMs3 hx1 hS5.rd hk5 hw7 hF6 hk6)
          have hB6 := Lib.hid ((HBP.out w5 hk5).trans (hk6.below B (by have := hk5.size; omega) hfarB))
          have hM6 := Nat.le_trans (Nat.le_trans hMs3 hk5.size) hk6.size
          clear hS5 hk5 hw6 hw7 hF6 hk6 H3 H2 HAG HBP HC5 HQ HBel hfarB
          go_wp2
          exact ⟨⟨x + 1, F6, by omega, by go_num, h6.out, hB6.out, hM6⟩, by simp [intOf]; omega⟩
        · have hxe : x = j := by omega
          subst hxe
          have HR0 := Lib.hid (show Rd wr p [] 0 by have h := hb2.rd; rw [Nat.sub_self] at h; exact h)
          have hag := Lib.hid hb2.ag
          have hownb := Lib.hid hb2.own
          have HBel := Lib.hid hBel
          have hfarB : ∀ k, F2 k → B ≤ k := fun k fk => by rcases hb2.far k fk with h | h <;> omega
          have q0 : decide ((x : Int) < (x : Int)) = false := by simp
          clear hb2 hBel
          go_wp2_with fail
          have hS0 : BS wr.drew (.slice pv (upto f x).length cv) (upto f x) ∧ Below B w wr.drew ∧ B ≤ wr.drew.heap.size := ⟨hownb.out.bs, HBel.out.drew, by show B ≤ wr.heap.size; omega⟩
          have hrd := HR0.out.later (Below.refl wr.heap.size wr).drew
          have hwr := hag.out.drew
          have hulx : (upto f x).length ≤ 2147483647 := by omega
          clear HR0 hag hownb HBel
          refine wp_region_held_drew (S := (fun w' => BS w' (.slice pv (upto f x).length cv) (upto f x) ∧ Below B w w' ∧ B ≤ w'.heap.size)) (by kernel_rfl) ?hSr2_ (fun hHeld => ?_)
          case hSr2_ => (first | exact hS0 | exact hHeld | exact ⟨hHeld.1.later hb, hHeld.2.1.trans (hb.mono hHeld.2.2), Nat.le_trans hHeld.2.2 hb.size⟩)
          refine wpAnyH_take (i := 0) (oi := { dst := some 120, op := Go.Op.move (Go.Operand.tmp 9), type := 64, pos := _, after := #[], guard := none }) (v := ?vr2_1_0) rfl (by kernel_rfl) (by kernel_rfl) (by kernel_rfl) (fun _ _ _ h => h) (Or.inl ⟨by rfl, ?yr2_1_0⟩) hHeld ?_
          case yr2_1_0 => ((intro w hSw; (try dsimp only at hSw); go_simp) <;> with_reducible rfl)
          (try simp only [Act.put, List.setIfInBounds_toArray, List.set_cons_zero, List.set_cons_succ])
          refine wpAnyH_ready (rs := [1]) (by kernel_rfl) (by simp) ?_
          refine AllReadyH.cons (o := { dst := some 121, op := Go.Op.call { callee := Go.Callee.value (Go.Operand.func 45), args := #[Go.Operand.tmp 120], argTypes := #[64] }, type := 67, pos := _, after := #[{ on := 0, ground := Go.Ground.data }], guard := none }) rfl (fun K hK => ?_) AllReadyH.nil
          go_simp
          ((refine (end_a _ [] 0 _ hrd.st).mono ?_); (rintro r wn ⟨rfl, rfl⟩))
          go_wp2_with fail
          refine hK.out _ _ ?hSr2_2_1 (fun hHeld2 => ?_)
          case hSr2_2_1 => (first | exact hS0 | exact hHeld | exact ⟨hHeld.1.later hb, hHeld.2.1.trans (hb.mono hHeld.2.2), Nat.le_trans hHeld.2.2 hb.size⟩)
          clear hK K hHeld
          have hHeld := hHeld2
          clear hHeld2
          (try simp only [Act.put, List.setIfInBounds_toArray, List.set_cons_zero, List.set_cons_succ])
          refine wpAnyH_take (i := 2) (oi := { dst := some 122, op := Go.Op.binOp Go.BinOp.neq 67 (Go.Operand.tmp 121) (Go.Operand.const (Go.Value.int Go.IntKind.i64 0)) 67, type := 4, pos := _, after := #[{ on := 1, ground := Go.Ground.data }], guard := none }) (v := ?vr2_3_2) rfl (by kernel_rfl) (by kernel_rfl) (by kernel_rfl) (fun _ _ _ h => h) (Or.inl ⟨by rfl, ?yr2_3_2⟩) hHeld ?_
          case yr2_3_2 => ((intro w hSw; (try dsimp only at hSw); go_simp) <;> with_reducible rfl)
          (try simp only [Act.put, List.setIfInBounds_toArray, List.set_cons_zero, List.set_cons_succ])
          refine wpAnyH_take (i := 3) (oi := { dst := some 123, op := Go.Op.move (Go.Operand.tmp 122), type := 4, pos := _, after := #[{ on := 2, ground := Go.Ground.data }, { on := 1, ground := Go.Ground.chain }], guard := none }) (v := ?vr2_4_3) rfl (by kernel_rfl) (by kernel_rfl) (by kernel_rfl) (fun _ _ _ h => h) (Or.inl ⟨by rfl, ?yr2_4_3⟩) hHeld ?_
          case yr2_4_3 => ((intro w hSw; (try dsimp only at hSw); go_simp) <;> with_reducible rfl)
          (try simp only [Act.put, List.setIfInBounds_toArray, List.set_cons_zero, List.set_cons_succ])
          refine wpAnyH_take (i := 4) (oi := { dst := some 124, op := Go.Op.move (Go.Operand.tmp 6), type := 52, pos := _, after := #[{ on := 3, ground := Go.Ground.guard }], guard := some (3, false) }) (v := ?vr2_5_4) rfl (by kernel_rfl) (by kernel_rfl) (by kernel_rfl) (fun _ _ _ h => h) (Or.inl ⟨by rfl, ?yr2_5_4⟩) hHeld ?_
          case yr2_5_4 => ((intro w hSw; (try dsimp only at hSw); go_simp) <;> with_reducible rfl)
          (try simp only [Act.put, List.setIfInBounds_toArray, List.set_cons_zero, List.set_cons_succ])
          refine wpAnyH_take (i := 7) (oi := { dst := some 127, op := Go.Op.move (Go.Operand.tmp 8), type := 56, pos := _, after := #[{ on := 3, ground := Go.Ground.guard }], guard := some (3, false) }) (v := ?vr2_6_7) rfl (by kernel_rfl) (by kernel_rfl) (by kernel_rfl) (fun _ _ _ h => h) (Or.inl ⟨by rfl, ?yr2_6_7⟩) hHeld ?_
          case yr2_6_7 => ((intro w hSw; (try dsimp only at hSw); go_simp) <;> with_reducible rfl)
          (try simp only [Act.put, List.setIfInBounds_toArray, List.set_cons_zero, List.set_cons_succ])
          refine wpAnyH_take (i := 8) (oi := { dst := some 128, op := Go.Op.convert 56 9 (Go.Operand.tmp 127), type := 9, pos := _, after := #[{ on := 7, ground := Go.Ground.data }, { on := 3, ground := Go.Ground.guard }], guard := some (3, false) }) (v := ?vr2_7_8) rfl (by kernel_rfl) (by kernel_rfl) (by kernel_rfl) (fun _ _ _ h => h) (Or.inl ⟨by rfl, ?yr2_7_8⟩) hHeld ?_
          case yr2_7_8 => ((intro w' hSw; (try dsimp only at hSw); (have hrun := back_run w' _ _ hSw.1); clear hSw; go_simp) <;> with_reducible rfl)
          (try simp only [Act.put, List.setIfInBounds_toArray, List.set_cons_zero, List.set_cons_succ])
          refine wpAnyH_ready (rs := [5]) (by kernel_rfl) (by simp) ?_
          refine AllReadyH.cons (o := { dst := some 125, op := Go.Op.call { callee := Go.Callee.value (Go.Operand.func 40), args := #[Go.Operand.tmp 124], argTypes := #[52] }, type := 56, pos := _, after := #[{ on := 4, ground := Go.Ground.data }, { on := 3, ground := Go.Ground.chain }, { on := 3, ground := Go.Ground.guard }], guard := some (3, false) }) rfl (fun K hK => ?_) AllReadyH.nil
          go_simp
          ((refine (bytes_t B (B + 1) (upto f x) F2 _ hwr hulx).mono ?_); (rintro r wn ⟨vv, rfl, hOv, hb⟩); (have hBv := hOv.bs); (clear hOv))
          go_wp2_with fail
          refine hK.out _ _ ?hSr2_8_5 (fun hHeld2 => ?_)
          case hSr2_8_5 => (first | exact hS0 | exact hHeld | exact ⟨hHeld.1.later hb, hHeld.2.1.trans (hb.mono hHeld.2.2), Nat.le_trans hHeld.2.2 hb.size⟩)
          clear hK K hHeld
          have hHeld := hHeld2
          clear hHeld2
          (try simp only [Act.put, List.setIfInBounds_toArray, List.set_cons_zero, List.set_cons_succ])
          refine wpAnyH_ready (rs := [6]) (by kernel_rfl) (by simp) ?_
          refine AllReadyH.cons (o := { dst := some 126, op := Go.Op.convert 56 9 (Go.Operand.tmp 125), type := 9, pos := _, after := #[{ on := 5, ground := Go.Ground.data }, { on := 3, ground := Go.Ground.guard }], guard := some (3, false) }) rfl (fun K hK => ?_) AllReadyH.nil
          ((have hrun := back_run _ _ _ hBv); (rw [if_pos (by rfl)]); (with_reducible refine wp_conv_run (.tmp 125) 56 9 ?_ ?_ hrun ?_); rfl; rfl; clear hrun; (simp only [Act.put, List.setIfInBounds_toArray, List.set_cons_zero, List.set_cons_succ]))
          refine hK.out _ _ ?hSr2_9_6 (fun hHeld2 => ?_)
          case hSr2_9_6 => (first | exact hS0 | exact hHeld | exact ⟨hHeld.1.later hb, hHeld.2.1.trans (hb.mono hHeld.2.2), Nat.le_trans hHeld.2.2 hb.size⟩)
          clear hK K hHeld
          have hHeld := hHeld2
          clear hHeld2
          (try simp only [Act.put, List.setIfInBounds_toArray, List.set_cons_zero, List.set_cons_succ])
          refine wpAnyH_take (i := 9) (oi := { dst := some 129, op := Go.Op.binOp Go.BinOp.neq 9 (Go.Operand.tmp 126) (Go.Operand.tmp 128) 9, type := 4, pos := _, after := #[{ on := 6, ground := Go.Ground.data }, { on := 8, ground := Go.Ground.data }, { on := 3, ground := Go.Ground.guard }], guard := some (3, false) }) (v := ?vr2_10_9) rfl (by kernel_rfl) (by kernel_rfl) (by kernel_rfl) (fun _ _ _ h => h) (Or.inl ⟨by rfl, ?yr2_10_9⟩) hHeld ?_
          case yr2_10_9 => ((intro w hSw; (try dsimp only at hSw); go_simp) <;> with_reducible rfl)
          (try simp only [Act.put, List.setIfInBounds_toArray, List.set_cons_zero, List.set_cons_succ])
          refine wpAnyH_take (i := 10) (oi := { dst := some 130, op := Go.Op.pick (Go.Operand.tmp 123) (Go.Operand.const (Go.Value.bool true)) (Go.Operand.tmp 129), type := 4, pos := _, after := #[{ on := 3, ground := Go.Ground.data }, { on := 9, ground := Go.Ground.data }], guard := none }) (v := ?vr2_11_10) rfl (by kernel_rfl) (by kernel_rfl) (by kernel_rfl) (fun _ _ _ h => h) (Or.inl ⟨by rfl, ?yr2_11_10⟩) hHeld ?_
          case yr2_11_10 => ((intro w hSw; (try dsimp only at hSw); go_simp) <;> with_reducible rfl)
          (try simp only [Act.put, List.setIfInBounds_toArray, List.set_cons_zero, List.set_cons_succ])
          refine wpAnyH_done (by kernel_rfl) ?_ _
          obtain ⟨hSb, hBel5, hBs5⟩ := hHeld
          have HSb := Lib.hid hSb
          have HBel5 := Lib.hid hBel5
          clear hSb hBel5 hrd hwr hb
          by_cases hcut : 0 ≤ cut ∧ cut < (upto f x).length
          · obtain ⟨hc0, hc1⟩ := hcut
            obtain ⟨m, rfl⟩ : ∃ m : Nat, cut = m := ⟨cut.toNat, by omega⟩
            have hcv : (upto f x).length ≤ cv := by
              obtain ⟨pp, cc, he, h1, _⟩ := HSb.out
              cases he; exact h1
            have q3 : (m : Int) ≤ (cv : Int) := by omega
            have q4 : ¬ ((upto f x).length : Int) ≤ (m : Int) := by omega
            have q5 : ¬ (upto f x).length ≤ m := by omega
            have hbt := BS.takeC (l := upto f x) HSb.out m (by omega)
            have HBT := Lib.hid hbt
            clear hbt
            go_wp2_with fail
            refine (from_t _ ((upto f x).take m) _ HBT.out (by rw [List.length_take]; omega)).mono ?_
            rintro r w9 ⟨p3, rfl, hp3, hR3, hb9⟩
            have hB9 := HBel5.out.trans (hb9.mono hBs5)
            have hs9 := Nat.le_trans hBs5 hb9.size
            have hp3B : B ≤ p3 := Nat.le_trans hBs5 hp3
            have hct : Cut (after f (x - 0) 0) ((upto f x).take m) 0 := .inl ⟨rfl, m, by rw [Nat.sub_zero, after_all], by rw [Nat.sub_zero, after_all]; omega⟩
            have H9 := Lib.hid (And.intro hR3 (And.intro hct hB9))
            clear hR3 hct hB9 hb9 HBT HSb HBel5
            go_wp2_with fail
            go_loopw [12] (fun i wt => ∃ (y : Nat) (l : List Int) (e : Int), y ≤ x ∧ i = .int .i64 y ∧ Rd wt p3 l e ∧ Cut (after f (x - y) y) l e ∧ l.length ≤ 2147483647 ∧ Below B w wt ∧ B ≤ wt.heap.size) (fun i _ => x - (intOf i).toNat)
            case atStart => exact ⟨0, _, _, by omega, rfl, H9.out.1, H9.out.2.1, by rw [List.length_take]; omega, H9.out.2.2, hs9⟩
            case round =>
              clear H9
              obtain ⟨y, l, e, hyx, rfl, hR3, hC3, hl3, hBel3, hBs3⟩ := hrel
              by_cases hy1 : y < x
              · obtain ⟨g, o, rfl, hall⟩ := HP.out (by omega)
                have P : (f y).at w g (o + y * 7) := hall y hy1
                have Q : (f y).at wr g (o + y * 7) := P.later (hB.symm ▸ hBel3)
                have hgy := HG.out y hy1
                rw [after_step f hy1] at hC3
                have c0 := Q.c0
                have c1 := Q.c1
                have c2 := Q.c2
                have c3 := Q.c3
                have c4 := Q.c4
                have c5 := Q.c5
                have c6 := Q.c6
                have HQ := Lib.hid Q
                have HR3 := Lib.hid hR3
                have HC3 := Lib.hid hC3
                have HBel3 := Lib.hid hBel3
                clear hR3 hC3 hBel3 Q P hall
                by_cases e0 : (f y).k = 0
                · rw [e0] at c0
                  have hcs := Cut.step (a := numB (f y).n (limK (f y).i)) (r := (after f (x - (y + 1)) (y + 1))) (by rw [← pB0 e0]; exact HC3.out)
                  rw [numB_length] at hcs
                  have HCS := Lib.hid hcs.1
                  clear hcs
                  go_wp2_with fail
                  refine (rnum_a (.pointer (some ⟨p3, 0, none⟩)) l e (f y).i wr HR3.out.st).mono ?_
                  rintro r w5 ⟨rfl, hS5, hk5⟩
                  have hcut3 := Lib.hid (HCS.out)
                  have hlen3 := Nat.le_trans (leftS_len l e (limK (f y).i)) hl3
                  have hrd3 := Lib.hid hS5.rd
                  have hB6 := Lib.hid (HBel3.out.trans (hk5.below B hBs3 (fun k e => by cases e; exact hp3B)))
                  have hs6 := Nat.le_trans hBs3 hk5.size
                  clear hS5 hk5 HR3 HC3 HQ HBel3 c0 c1 c2 c3 c4 c5 c6
                  go_wp2
                  exact ⟨⟨y + 1, _, _, by omega, by go_num, hrd3.out, hcut3.out, hlen3, hB6.out, hs6⟩, by simp [intOf]; omega⟩
                by_cases e1 : (f y).k = 1
                · rw [e1] at c0
                  have hcs := Cut.step (a := numB (f y).ah 8 ++ numB (f y).al 8) (r := (after f (x - (y + 1)) (y + 1))) (by rw [← pB1 e1]; exact HC3.out)
                  rw [List.length_append, numB_length, numB_length] at hcs
                  have HCS := Lib.hid hcs.1
                  clear hcs
                  go_wp2_with fail
                  refine (rwide_a (.pointer (some ⟨p3, 0, none⟩)) l e wr HR3.out.st).mono ?_
                  rintro r w5 ⟨rfl, hS5, hk5⟩
                  have hcut3 := Lib.hid (HCS.out)
                  have hlen3 := Nat.le_trans (leftS_len l e 16) hl3
                  have hrd3 := Lib.hid hS5.rd
                  have hB6 := Lib.hid (HBel3.out.trans (hk5.below B hBs3 (fun k e => by cases e; exact hp3B)))
                  have hs6 := Nat.le_trans hBs3 hk5.size
                  clear hS5 hk5 HR3 HC3 HQ HBel3 c0 c1 c2 c3 c4 c5 c6
                  go_wp2
                  exact ⟨⟨y + 1, _, _, by omega, by go_num, hrd3.out, hcut3.out, hlen3, hB6.out, hs6⟩, by simp [intOf]; omega⟩
                by_cases e2 : (f y).k = 2
                · rw [e2] at c0
                  have HCS := Lib.hid (Cut.text (s := (f y).s) (r := (after f (x - (y + 1)) (y + 1))) hgy.s3 (by rw [← pB2 e2 hgy.s3]; exact HC3.out))
                  go_wp2_with fail
                  refine (rtext_a (.pointer (some ⟨p3, 0, none⟩)) l e 300 wr HR3.out.st).mono ?_
                  rintro r w5 ⟨rfl, hS5, hk5⟩
                  have hcut3 := Lib.hid (HCS.out)
                  have hlen3 := Nat.le_trans (textL_len l e 300) hl3
                  have hrd3 := Lib.hid hS5.rd
                  have hB6 := Lib.hid (HBel3.out.trans (hk5.below B hBs3 (fun k e => by cases e; exact hp3B)))
                  have hs6 := Nat.le_trans hBs3 hk5.size
                  clear hS5 hk5 HR3 HC3 HQ HBel3 c0 c1 c2 c3 c4 c5 c6
                  go_wp2
                  exact ⟨⟨y + 1, _, _, by omega, by go_num, hrd3.out, hcut3.out, hlen3, hB6.out, hs6⟩, by simp [intOf]; omega⟩
                have e3 : (f y).k = 3 := by have := hgy.k0; have := hgy.k3; omega
                rw [e3] at c0
                obtain ⟨pb, cb, hbv, _, _, _, _, _⟩ := id HQ.out.hb
                rw [hbv] at c6
                have hcs := Cut.step (a := (f y).bl) (r := (after f (x - (y + 1)) (y + 1))) (by rw [← pB3 e3]; exact HC3.out)
                have HCS := Lib.hid hcs.1
                clear hcs
                have hc5 := rraw_a (.pointer (some ⟨p3, 0, none⟩)) l e (f y).bl.length wr HR3.out.st hl3
                rw [mustS_nat] at hc5
                have HC5 := Lib.hid hc5
                clear hc5
                go_wp2_with fail
                refine (HC5.out).mono ?_
                rintro r w5 ⟨⟨v5, rfl, hO5⟩, hS5, hk5⟩
                have hcut3 := Lib.hid (HCS.out)
                have hlen3 := Nat.le_trans (leftS_len l e (f y).bl.length) hl3
                have hrd3 := Lib.hid hS5.rd
                have hB6 := Lib.hid (HBel3.out.trans (hk5.below B hBs3 (fun k e => by cases e; exact hp3B)))
                have hs6 := Nat.le_trans hBs3 hk5.size
                clear hS5 hk5 HR3 HC3 HQ HBel3 c0 c1 c2 c3 c4 c5 c6
                go_wp2
                exact ⟨⟨y + 1, _, _, by omega, by go_num, hrd3.out, hcut3.out, hlen3, hB6.out, hs6⟩, by simp [intOf]; omega⟩
              · have hye : y = x := by omega
                subst hye
                rw [Nat.sub_self] at hC3
                have he8 : e = 8 := Cut.end hC3
                subst he8
                have q9 : decide ((y : Int) < (y : Int)) = false := by simp
                have HR3 := Lib.hid hR3
                have HBel3 := Lib.hid hBel3
                clear hR3 hBel3 hC3
                go_wp2_with fail
                refine (alive2_t _).mono ?_
                rintro r w5 ⟨rfl, hb5⟩
                have hR5 := HR3.out.later hb5
                have hB5 := Lib.hid (HBel3.out.trans (hb5.mono hBs3))
                clear HR3 HBel3 hb5
                go_wp2_with fail
                refine (end_a _ l 8 _ hR5.st).mono ?_
                rintro r w6 ⟨rfl, rfl⟩
                go_wp2
                go_ret
                exact ⟨rfl, hB5.out⟩
          · have qc : cut < 0 ∨ (¬ cut < 0 ∧ ((upto f x).length : Int) ≤ cut) := by omega
            rcases qc with q1 | ⟨q1, q2⟩
            · go_wp2_with fail
              refine (alive2_t _).mono ?_
              rintro r w9 ⟨rfl, hb9⟩
              have hB9 := HBel5.out.trans (hb9.mono hBs5)
              go_wp2
              go_ret
              exact ⟨rfl, hB9⟩
            · go_wp2_with fail
              refine (alive2_t _).mono ?_
              rintro r w9 ⟨rfl, hb9⟩
              have hB9 := HBel5.out.trans (hb9.mono hBs5)
              go_wp2
              go_ret
              exact ⟨rfl, hB9⟩
end Go.Proofs.Ytgioompelogopaa
