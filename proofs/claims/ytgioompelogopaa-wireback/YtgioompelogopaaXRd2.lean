/- Num, Text and Wide of the reference's reader. No conditions beyond lengths. -/
import Derived.Test.YtgioompelogopaaXRd
import Derived.Test.YtgioompelogopaaRd5
namespace Go.Proofs.Ytgioompelogopaa
set_option linter.unusedVariables false
set_option linter.unusedSimpArgs false
open Go.RowKit
theorem Rx.bytes {w : World} {q : Nat} {l : List Int} {e : Int} (h : Rx w q l e) : ∀ y ∈ l, Byte y := by
  obtain ⟨v, B, a, R, ⟨_, _, _, _, _, _, h4, _⟩, _, rfl⟩ := h
  exact fun y hy => h4 y (List.mem_of_mem_drop hy)
theorem Rx.lt {w : World} {q : Nat} {l : List Int} {e : Int} (h : Rx w q l e) : q < w.heap.size := by
  obtain ⟨v, B, a, R, _⟩ := h; exact R.lt
theorem Rx.typed {F : Nat → Prop} {w w1 : World} {q : Nat} {l : List Int} {e : Int} (h : Rx w q l e) (hk : Keeps F w w1) (hF : Two F w) : Rx w1 q l e := by
  obtain ⟨v, B, a, R, h1, h2⟩ := h; exact ⟨v, B, a, hk.row R (hF.far R), h1.typed hk hF, h2⟩
theorem mustS_nat (e : Int) (k : Nat) : mustS e (decide (0 ≤ (k : Int))) = e := by
  unfold mustS; rw [if_neg]; intro h; have h2 := h.2; simp at h2
set_option maxRecDepth 100000 in
set_option maxHeartbeats 1600000 in
theorem xnum_t (q : Nat) (l : List Int) (e s : Int) (w : World) (h : Rx w q l e) :
    Calls Try.prog 64 #[.pointer (some ⟨q, 0, none⟩), .int .i64 s] w fun r w' => r = .returned (.int .u64 (valB (takenS l e (limK s)))) ∧ Rx w' q (leftS l e (limK s)) (errS l e (limK s)) ∧ Keeps (fun k => k = q) w w' := by
  obtain ⟨hk1, hk8⟩ := limK_range s
  have hby0 := h.bytes
  go_enter Try.func64, Try.ntmps64
  go_wp2_with fail
  have hsz := refSize_t s w
  rw [limK_int] at hsz
  refine hsz.mono ?_; rintro e1 w' ⟨rfl, rfl⟩
  clear hsz
  go_wp2_with fail
  have hc := xraw_t q l e (limK s) w h
  rw [mustS_nat] at hc
  refine hc.mono ?_
  clear hc
  rintro r w1 ⟨⟨v, rfl, hb⟩, hst, hk⟩
  have htl := takenS_length l e (limK s) (by omega)
  generalize hT : takenS l e (limK s) = t at *
  have HTt := Lib.hid hT; clear hT
  obtain ⟨pp, c, rfl, h1, h2, h3, h4, h6⟩ := hb
  have hst' := Lib.hid hst; clear hst
  clear h
  have H3 := Lib.hid h3; clear h3 h6
  go_wp2
  go_loopw [6, 7] (fun n i wr => ∃ (j : Nat), j ≤ t.length ∧ i = .int .i64 j ∧ n = .int .u64 (valB (t.take j)) ∧ wr = w1) (fun _ i _ => t.length - (intOf i).toNat)
  case atStart => exact ⟨0, by omega, rfl, rfl, rfl⟩
  case round =>
    obtain ⟨j, hj, rfl, rfl, rfl⟩ := hrel
    by_cases hlt : j < t.length
    · obtain ⟨g, o, rfl, h5⟩ := H3.out (by omega)
      have hx : t[j]? = some t[j] := List.getElem?_eq_getElem hlt
      have c0 := h5 j _ hx
      have hby := h4 t[j] (List.getElem_mem hlt)
      have hts := take_succ_get t j _ hx
      have hr := valB_range (t.take j) (take_byte h4 j)
      rw [List.length_take, Nat.min_eq_left hj] at hr
      have hp := pow_le8 j (by omega)
      have HT := Lib.hid (show valB (t.take (j + 1)) = 256 * valB (t.take j) + t[j] by rw [hts, valB_snoc])
      generalize t[j] = b at *
      generalize valB (t.take j) = n at *
      have n0 : 0 ≤ n := hr.1
      have n1 : n < 72057594037927936 := by omega
      obtain ⟨b0, b1⟩ := hby
      clear hr hp h4 h5 hts hx
      have hlb : decide ((j : Int) < (t.length : Int)) = true := by simp; omega
      go_wp2
      exact ⟨⟨j + 1, by omega, by go_num, by rw [HT.out], trivial⟩, by simp [intOf]; omega⟩
    · have e8 : j = t.length := by omega
      have hlb : decide ((j : Int) < (t.length : Int)) = false := by simp; omega
      subst e8
      clear h4 H3
      go_wp2
      go_ret
      refine ⟨?_, hst'.out, hk⟩
      rw [HTt.out]
      show Ending.returned (Value.int .u64 (valB (t.take t.length))) = _
      rw [List.take_length]
set_option maxHeartbeats 800000 in
theorem xtext_t (q : Nat) (l : List Int) (e m : Int) (w : World) (h : Rx w q l e) :
    Calls Try.prog 66 #[.pointer (some ⟨q, 0, none⟩), .int .i64 m] w fun r w' => r = .returned (.string (byS (textT l e m))) ∧ Rx w' q (textL l e m) (textX l e m) ∧ Keeps (fun k => k = q) w w' := by
  obtain ⟨n0, n1⟩ := textN_range h.bytes e
  go_enter Try.func66, Try.ntmps66
  go_wp2_with fail
  have hc := xnum_t q l e 2 w h
  rw [lim2] at hc
  refine hc.mono ?_
  clear hc
  rintro r w1 ⟨rfl, h1, k1⟩
  replace h1 : Rx w1 q (leftS l e 2) (errS l e 2) := h1
  rw [show valB (takenS l e ((2 : Nat) : Int)) = textN l e from rfl]
  go_wp2_with fail
  refine (xmust_t q _ _ (decide (textN l e ≤ m)) w1 h1).mono ?_
  rintro r w2 ⟨rfl, h2, k2⟩
  have hc := xraw_t q _ _ (textN l e) w2 h2
  rw [show mustS (mustS (errS l e 2) (decide (textN l e ≤ m))) (decide (0 ≤ textN l e)) = mustS (errS l e 2) (decide (textN l e ≤ m)) by rw [show textN l e = ((textN l e).toNat : Int) by omega]; exact mustS_nat _ _] at hc
  go_wp2_with fail
  refine hc.mono ?_
  rintro r w3 ⟨⟨v, rfl, hb⟩, h3, k3⟩
  have hrun := back_run w3 v _ hb
  go_wp2
  go_ret
  exact ⟨rfl, h3, (k1.trans k2 (fun _ h => .inl h)).trans k3 (fun _ h => .inl h)⟩
end Go.Proofs.Ytgioompelogopaa
