/- Raw, Text and Wide of the reader. No conditions beyond lengths. -/
import Derived.Test.YtgioompelogopaaStr
namespace Go.Proofs.Ytgioompelogopaa
set_option linter.unusedVariables false
set_option linter.unusedSimpArgs false
open Go.RowKit
theorem takenS_len (l : List Int) (e n : Int) : (takenS l e n).length ≤ l.length := by
  unfold takenS; split
  · rw [List.length_take]; omega
  · simp
theorem St.bytes {w : World} {d : Bool} {x : Value} {l : List Int} {e : Int} (h : St d w x l e) : ∀ y ∈ l, Byte y := by
  rcases h with ⟨_, p, rfl, v, _, ⟨_, _, _, _, _, _, h4, _⟩, _⟩ | ⟨_, _, rfl⟩
  · exact h4
  · intro y hy; cases hy
theorem St.lt {w : World} {d : Bool} {x : Value} {l : List Int} {e : Int} (h : St d w x l e) (k : Nat) (hk : atP x k) : k < w.heap.size := by
  unfold atP at hk
  rcases h with ⟨_, p, rfl, v, R, _⟩ | ⟨_, ⟨_, ⟨rfl, _⟩ | ⟨p, rfl, ⟨v, d, R, _⟩ | ⟨v, R⟩⟩⟩, rfl⟩
  · cases hk; exact R.lt
  · cases hk
  · cases hk; exact R.lt
  · cases hk; exact R.lt
theorem takenS_byte {l : List Int} (h : ∀ y ∈ l, Byte y) (e n : Int) : ∀ y ∈ takenS l e n, Byte y := by
  unfold takenS; split
  · exact take_byte h _
  · intro y hy; cases hy
theorem leftS_byte {l : List Int} (h : ∀ y ∈ l, Byte y) (e n : Int) : ∀ y ∈ leftS l e n, Byte y := by
  unfold leftS; split
  · exact fun y hy => h y (List.mem_of_mem_drop hy)
  · exact h
theorem must_zero2 {e n : Int} (h : mustS e (decide (0 ≤ n)) = 0) : 0 ≤ n := by
  unfold mustS at h; split at h
  · cases h
  · rename_i hn; exact Decidable.by_contra fun hc => hn ⟨h, by simpa using hc⟩
set_option maxHeartbeats 800000 in
theorem rraw_a {d : Bool} (x : Value) (l : List Int) (e n : Int) (w : World) (h : St d w x l e) (hl : l.length ≤ 2147483647) :
    Calls Try.prog 52 #[x, .int .i64 n] w fun r w' => (∃ v, r = .returned v ∧ Own w.heap.size w' v (takenS l (mustS e (decide (0 ≤ n))) n)) ∧ St d w' x (leftS l (mustS e (decide (0 ≤ n))) n) (errS l (mustS e (decide (0 ≤ n))) n) ∧ Keeps (atP x) w w' := by
  go_enter Try.func52, Try.ntmps52
  go_wp2_with fail
  refine (must_a x l e (decide (0 ≤ n)) w h).mono ?_
  rintro r w1 ⟨rfl, h1, k1⟩
  go_wp2_with fail
  refine (take_a x l (mustS e (decide (0 ≤ n))) n w1 h1 (fun h => must_zero2 h)).mono ?_
  rintro r w2 ⟨⟨v, rfl, hb⟩, h2, k2⟩
  go_wp2_with fail
  refine (clone_t v _ w2 hb (Nat.le_trans (takenS_len _ _ _) hl)).mono ?_
  rintro r w3 ⟨v', rfl, ho, hb3⟩
  go_wp2
  go_ret
  have hs : w.heap.size ≤ w2.heap.size := Nat.le_trans k1.size k2.size
  exact ⟨⟨_, rfl, ho.mono hs⟩, h2.later hb3, (k1.trans k2 (fun _ h => .inl h)).trans (Keeps.of_below (F := atP x) hb3) (fun _ h => .inl h)⟩
/-- what Text reads of the state l, e -/
def textN (l : List Int) (e : Int) : Int := valB (takenS l e 2)
def textE (l : List Int) (e m : Int) : Int := mustS (errS l e 2) (decide (textN l e ≤ m))
def textT (l : List Int) (e m : Int) : List Int := takenS (leftS l e 2) (textE l e m) (textN l e)
def textL (l : List Int) (e m : Int) : List Int := leftS (leftS l e 2) (textE l e m) (textN l e)
def textX (l : List Int) (e m : Int) : Int := errS (leftS l e 2) (textE l e m) (textN l e)
theorem textN_range {l : List Int} (h : ∀ y ∈ l, Byte y) (e : Int) : 0 ≤ textN l e ∧ textN l e ≤ 65535 := by
  have h1 := valB_range _ (takenS_byte h e 2)
  have h2 := takenS_length l e 2 (by decide)
  unfold textN
  have h3 : (256 : Int) ^ (takenS l e 2).length ≤ 65536 := by
    generalize (takenS l e 2).length = k at h2
    rcases k with _ | _ | _ | k <;> first | decide | omega
  omega
set_option maxHeartbeats 800000 in
theorem rtext_a {d : Bool} (x : Value) (l : List Int) (e m : Int) (w : World) (h : St d w x l e) :
    Calls Try.prog 51 #[x, .int .i64 m] w fun r w' => r = .returned (.string (byS (textT l e m))) ∧ St d w' x (textL l e m) (textX l e m) ∧ Keeps (atP x) w w' := by
  obtain ⟨n0, n1⟩ := textN_range h.bytes e
  go_enter Try.func51, Try.ntmps51
  go_wp2_with fail
  have hc := rnum_a x l e 2 w h
  rw [lim2] at hc
  refine hc.mono ?_
  clear hc
  rintro r w1 ⟨rfl, h1, k1⟩
  replace h1 : St d w1 x (leftS l e 2) (errS l e 2) := h1
  change _ at n0
  rw [show valB (takenS l e ((2 : Nat) : Int)) = textN l e from rfl]
  go_wp2_with fail
  refine (must_a x _ _ (decide (textN l e ≤ m)) w1 h1).mono ?_
  rintro r w2 ⟨rfl, h2, k2⟩
  go_wp2_with fail
  refine (take_a x _ _ (textN l e) w2 h2 (fun _ => n0)).mono ?_
  rintro r w3 ⟨⟨v, rfl, hb⟩, h3, k3⟩
  have hrun := back_run w3 v _ hb
  go_wp2
  go_ret
  exact ⟨rfl, h3, (k1.trans k2 (fun _ h => .inl h)).trans k3 (fun _ h => .inl h)⟩
theorem hi_byte {b : Int} (h : Byte b) : hi b = 0 := by unfold Byte at h; unfold hi; omega
theorem lo_byte {b : Int} (h : Byte b) : lo b = b := by unfold Byte at h; unfold lo; omega
theorem of_b {b : Int} (h : Byte b) (w : World) : Calls Try.prog 20 #[.int .u64 b] w fun e w' => e = .returned (.agg #[.int .u64 (hi b), .int .u64 (lo b)]) ∧ Below w.heap.size w w' := by
  rw [hi_byte h, lo_byte h]; exact of_any b w
theorem pow_le16 (j : Nat) (h : j ≤ 15) : (256 : Int) ^ j ≤ 1329227995784915872903807060280344576 := by
  have : ∀ j : Fin 16, (256 : Int) ^ (j : Nat) ≤ 1329227995784915872903807060280344576 := by decide
  exact this ⟨j, by omega⟩
theorem or_step (A b : Int) (h0 : 0 ≤ A) (h1 : A < 1329227995784915872903807060280344576) (hb : Byte b) : orI (A * 2 ^ (8 : Int).toNat % MM) (b % MM) = 256 * A + b := by
  have hb' := hb
  unfold Byte at hb'
  rw [show A * 2 ^ (8 : Int).toNat % MM = 256 * A by
    show A * 256 % MM = 256 * A
    unfold MM; omega, show b % MM = b by unfold MM; omega, or_byte A b h0 hb]
theorem left8 (n : Int) (w : World) : Calls Try.prog 23 #[.agg #[.int .u64 (hi n), .int .u64 (lo n)], .int .i64 8] w fun e w' => e = .returned (.agg #[.int .u64 (hi (256 * n)), .int .u64 (lo (256 * n))]) ∧ Below w.heap.size w w' := by
  have h := left_h n 8 w
  rw [show n * 2 ^ (8 : Int).toNat = 256 * n by show n * 256 = 256 * n; omega] at h
  exact h
theorem or8 (A b : Int) (h0 : 0 ≤ A) (h1 : A < 1329227995784915872903807060280344576) (hb : Byte b) (w : World) : Calls Try.prog 29 #[.agg #[.int .u64 (hi (256 * A)), .int .u64 (lo (256 * A))], .agg #[.int .u64 (hi b), .int .u64 (lo b)]] w fun e w' => e = .returned (.agg #[.int .u64 (hi (256 * A + b)), .int .u64 (lo (256 * A + b))]) ∧ Below w.heap.size w w' := by
  have h := or_h (256 * A) b w
  have hs := or_step A b h0 h1 hb
  rw [show A * 2 ^ (8 : Int).toNat = 256 * A by show A * 256 = 256 * A; omega] at hs
  rw [hs] at h
  exact h
/-- blocks of two words -/
def Two (F : Nat → Prop) (w : World) : Prop := ∀ k, F k → ∃ a b t, Row w k #[.int .u64 a, .int .u64 b] t
theorem Two.byte {F : Nat → Prop} {w : World} (h : Two F w) {g o : Nat} {b : Int} (hc : w.cell? ⟨g, o, none⟩ = some (.int .u8 b)) : ¬ F g := by
  intro hF
  obtain ⟨x, y, t, R⟩ := h g hF
  rw [R.cell] at hc
  rcases o with _ | _ | o
  · cases hc
  · cases hc
  · simp at hc
theorem Two.far {F : Nat → Prop} {w : World} (h : Two F w) {p : Nat} {a b c : Value} {t : TypeId} (R : Row w p #[a, b, c] t) : ¬ F p := by
  intro hF
  obtain ⟨x, y, t', R'⟩ := h p hF
  have h1 := R.cell 2
  rw [R'.cell] at h1
  cases h1
theorem BS.typed {F : Nat → Prop} {w w1 : World} {v : Value} {l : List Int} (h : BS w v l) (hk : Keeps F w w1) (hF : Two F w) : BS w1 v l := by
  obtain ⟨p, c, rfl, h1, h2, h3, h4, h6⟩ := h
  refine ⟨p, c, rfl, h1, h2, fun hl => ?_, h4, h6⟩
  obtain ⟨g, o, rfl, h5⟩ := h3 hl
  exact ⟨g, o, rfl, fun j x hx => hk.cell (h5 j x hx) (hF.byte (h5 j x hx))⟩
theorem Rd.typed {F : Nat → Prop} {w w1 : World} {p : Nat} {l : List Int} {e : Int} (h : Rd w p l e) (hk : Keeps F w w1) (hF : Two F w) : Rd w1 p l e := by
  obtain ⟨v, R, h1, h2⟩ := h; exact ⟨v, hk.row R (hF.far R), h1.typed hk hF, h2⟩
theorem St.typed {F : Nat → Prop} {w w1 : World} {d : Bool} {x : Value} {l : List Int} {e : Int} (h : St d w x l e) (hk : Keeps F w w1) (hF : Two F w) : St d w1 x l e := by
  rcases h with ⟨hd, p, rfl, h⟩ | ⟨hd, ⟨h0, h | ⟨p, rfl, ⟨v, y, R, h⟩ | ⟨v, R⟩⟩⟩, rfl⟩
  · exact .inl ⟨hd, p, rfl, h.typed hk hF⟩
  · exact .inr ⟨hd, ⟨h0, .inl h⟩, rfl⟩
  · exact .inr ⟨hd, ⟨h0, .inr ⟨p, rfl, .inl ⟨v, y, hk.row R (hF.far R), h⟩⟩⟩, rfl⟩
  · exact .inr ⟨hd, ⟨h0, .inr ⟨p, rfl, .inr ⟨v, hk.row R (hF.far R)⟩⟩⟩, rfl⟩
set_option maxRecDepth 100000 in
set_option maxHeartbeats 1600000 in
theorem rwide_a {d : Bool} (x : Value) (l : List Int) (e : Int) (w : World) (h : St d w x l e) :
    Calls Try.prog 53 #[x] w fun r w' => r = .returned (.agg #[.int .u64 (hi (valB (takenS l e 16))), .int .u64 (lo (valB (takenS l e 16)))]) ∧ St d w' x (leftS l e 16) (errS l e 16) ∧ Keeps (atP x) w w' := by
  have hlt := h.lt
  have htl := takenS_length l e 16 (by decide)
  have htb := takenS_byte h.bytes e 16
  generalize hg1 : takenS l e 16 = t at *
  go_enter Try.func53, Try.ntmps53
  go_wp2_with fail
  have hb0 : Below w.heap.size w ((w.alloc (.cells #[.int .u64 0, .int .u64 0] 24)).alloc (.cells #[.int .u64 0, .int .u64 0] 24)) := (by repeat (first | exact Below.refl _ _ | assumption | (with_reducible refine Below.setCell ?_ ?h _; case h => first | omega | (simp; done) | (simp; omega)) | (with_reducible refine Below.alloc ?_ ?h _; case h => first | omega | (simp; done) | (simp; omega)) | (with_reducible refine Below.drew ?_) | (with_reducible refine Below.trans ?_ (hb4.mono ?h); case h => first | omega | (simp; done) | (simp; omega)) | (with_reducible refine Below.trans ?_ (hb3.mono ?h); case h => first | omega | (simp; done) | (simp; omega)) | (with_reducible refine Below.trans ?_ (hb2.mono ?h); case h => first | omega | (simp; done) | (simp; omega)) | (with_reducible refine Below.trans ?_ (hb.mono ?h); case h => first | omega | (simp; done) | (simp; omega)) | (with_reducible refine Below.trans ?_ (hb0.mono ?h); case h => first | omega | (simp; done) | (simp; omega))))
  have R0 : Row ((w.alloc (.cells #[.int .u64 0, .int .u64 0] 24)).alloc (.cells #[.int .u64 0, .int .u64 0] 24)) w.heap.size #[.int .u64 0, .int .u64 0] 24 := (Row.new w _ _).alloc _
  have R1 : Row ((w.alloc (.cells #[.int .u64 0, .int .u64 0] 24)).alloc (.cells #[.int .u64 0, .int .u64 0] 24)) (w.heap.size + 1) #[.int .u64 0, .int .u64 0] 24 := by simpa using Row.new (w.alloc (.cells #[.int .u64 0, .int .u64 0] 24)) #[.int .u64 0, .int .u64 0] 24
  refine (take_a x l e 16 _ (h.later hb0) (fun _ => by decide)).mono ?_
  rintro r w1 ⟨⟨v, rfl, hb⟩, hst, hk⟩
  replace R0 := hk.row R0 (fun f => by have := hlt _ f; omega)
  replace R1 := hk.row R1 (fun f => by have := hlt _ f; omega)
  have hkw : Keeps (atP x) w w1 := (Keeps.of_below hb0).trans hk (fun _ h => .inl h)
  clear hk hb0
  rw [hg1] at hb
  have HG := Lib.hid hg1; clear hg1
  have hst' := Lib.hid hst; clear hst h
  obtain ⟨pp, c, rfl, h1, h2, h3, h4, h6⟩ := hb
  have H3 := Lib.hid h3; clear h3 h6 h4
  generalize hB : w.heap.size = B0 at *
  have H0 : hi (0 : Int) = 0 ∧ lo (0 : Int) = 0 := ⟨by decide, by decide⟩
  go_wp2
  go_loopw [10] (fun i wr => ∃ (j : Nat), j ≤ t.length ∧ i = .int .i64 j ∧ Row wr (B0 + 1) #[.int .u64 (hi (valB (t.take j))), .int .u64 (lo (valB (t.take j)))] 24 ∧ Keeps (fun k => k = B0 + 1) w1 wr) (fun i _ => t.length - (intOf i).toNat)
  case atStart => exact ⟨0, by omega, rfl, R1, Keeps.refl _ _⟩
  case round =>
    obtain ⟨j, hj, rfl, R, hkr⟩ := hrel
    by_cases hlt2 : j < t.length
    · obtain ⟨g, o, rfl, h5⟩ := H3.out (by omega)
      have hx : t[j]? = some t[j] := List.getElem?_eq_getElem hlt2
      have c0' := h5 j _ hx
      have htwo : Two (fun k => k = B0 + 1) w1 := fun k hk => ⟨0, 0, 24, by rw [hk]; exact R1⟩
      have c0 := hkr.cell c0' (htwo.byte c0')
      have hby := htb t[j] (List.getElem_mem hlt2)
      have hts := take_succ_get t j _ hx
      have hr := valB_range (t.take j) (take_byte htb j)
      rw [List.length_take, Nat.min_eq_left hj] at hr
      have hp := pow_le16 j (by omega)
      have ho8 := or8 (valB (t.take j)) t[j] hr.1 (by omega) hby
      have HT := Lib.hid (show valB (t.take (j + 1)) = 256 * valB (t.take j) + t[j] by rw [hts, valB_snoc])
      generalize t[j] = b at *
      generalize valB (t.take j) = n at *
      have n0 : 0 ≤ n := hr.1
      obtain ⟨b0, b1⟩ := id hby
      clear hr hp h5 hts hx c0'
      have r0 := (R.cell 0).trans (show _ = some (Value.int .u64 (hi n)) from rfl)
      have r1 := (R.cell 1).trans (show _ = some (Value.int .u64 (lo n)) from rfl)
      have hlb : decide ((j : Int) < (t.length : Int)) = true := by simp; omega
      go_wp2_with fail
      refine (left8 n wr).mono ?_
      rintro r w2 ⟨rfl, hb2⟩
      go_wp2_with fail
      refine (of_b hby w2).mono ?_
      rintro r w3 ⟨rfl, hb3⟩
      go_wp2_with fail
      refine (ho8 w3).mono ?_
      rintro r w4 ⟨rfl, hb4⟩
      clear ho8
      have hbb := below_step (below_step hb2 hb3) hb4
      have R4 := R.later hbb
      have f0 := R4.frozen 0
      have f1 := R4.frozen 1
      have r0 := (R4.cell 0).trans (show _ = some (Value.int .u64 (hi n)) from rfl)
      have r1 := (R4.cell 1).trans (show _ = some (Value.int .u64 (lo n)) from rfl)
      clear hb2 hb3 hb4
      go_wp2
      refine ⟨⟨j + 1, by omega, by go_num, ?_, ?_⟩, by simp [intOf]; omega⟩
      · rw [HT.out]
        have := (R4.set 0 (.int .u64 (hi (256 * n + b)))).set 1 (.int .u64 (lo (256 * n + b)))
        simpa using this
      · exact ((hkr.trans (Keeps.of_below (F := fun k => k = B0 + 1) hbb) (fun _ h => .inl h)).setCell rfl _).setCell rfl _
    · have e8 : j = t.length := by omega
      have hlb : decide ((j : Int) < (t.length : Int)) = false := by simp; omega
      subst e8
      clear H3
      rw [List.take_length] at R
      have r0 := (R.cell 0).trans (show _ = some (Value.int .u64 (hi (valB t))) from rfl)
      have r1 := (R.cell 1).trans (show _ = some (Value.int .u64 (lo (valB t))) from rfl)
      have Q := hkr.row R0 (by omega)
      have f0 := Q.frozen 0
      have f1 := Q.frozen 1
      have q0 := (Q.cell 0).trans (show _ = some (Value.int .u64 0) from rfl)
      have q1 := (Q.cell 1).trans (show _ = some (Value.int .u64 0) from rfl)
      go_wp2
      have htwo : Two (fun k => k = B0 ∨ k = B0 + 1) w1 := fun k hk => by rcases hk with rfl | rfl; exact ⟨_, _, _, R0⟩; exact ⟨_, _, _, R1⟩
      have hkk : Keeps (fun k => k = B0 ∨ k = B0 + 1) w1 ((wr.setCell ⟨B0, 0, none⟩ (.int .u64 (hi (valB t)))).setCell ⟨B0, 1, none⟩ (.int .u64 (lo (valB t)))) := (Keeps.setCell (Keeps.setCell ((Keeps.refl _ _).trans hkr (fun _ h => .inl (.inr h))) (.inl rfl) _) (.inl rfl) _)
      have Q2 := (Q.set 0 (.int .u64 (hi (valB t)))).set 1 (.int .u64 (lo (valB t)))
      have s0 := (Q2.cell 0).trans (show _ = some (Value.int .u64 (hi (valB t))) from rfl)
      have s1 := (Q2.cell 1).trans (show _ = some (Value.int .u64 (lo (valB t))) from rfl)
      exact bodyPost_ret (v := .agg #[.int .u64 (hi (valB t)), .int .u64 (lo (valB t))]) (by simp only [results, Try.results53]; simp [go_sem, s0, s1]) rfl ⟨rfl, hst'.out.typed hkk htwo, hkw.trans hkk (fun k h => .inr (by omega))⟩
end Go.Proofs.Ytgioompelogopaa
