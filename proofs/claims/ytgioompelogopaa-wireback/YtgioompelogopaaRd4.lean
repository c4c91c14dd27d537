/- Num of the reader. No conditions beyond lengths. -/
import Derived.Test.YtgioompelogopaaRd3
namespace Go.Proofs.Ytgioompelogopaa
set_option linter.unusedVariables false
set_option linter.unusedSimpArgs false
open Go.RowKit
/-- the number of a list of bytes, the greatest first -/
def valB (l : List Int) : Int := l.foldl (fun a b => 256 * a + b) 0
theorem valB_nil : valB [] = 0 := rfl
theorem valB_snoc (l : List Int) (b : Int) : valB (l ++ [b]) = 256 * valB l + b := by unfold valB; rw [List.foldl_append]; rfl
theorem fold_range : ∀ (l : List Int) (a : Int) (k : Nat), 0 ≤ a → a < 256 ^ k → (∀ x ∈ l, Byte x) → 0 ≤ l.foldl (fun a b => 256 * a + b) a ∧ l.foldl (fun a b => 256 * a + b) a < 256 ^ (k + l.length)
  | [], a, k, h0, h1, _ => ⟨h0, h1⟩
  | b :: l, a, k, h0, h1, h => by
    have hb := h b (by simp)
    unfold Byte at hb
    have hp : (256 : Int) ^ (k + 1) = 256 ^ k * 256 := Int.pow_succ _ _
    have := fold_range l (256 * a + b) (k + 1) (by omega) (by omega) (fun x hx => h x (List.mem_cons_of_mem _ hx))
    rw [show k + 1 + l.length = k + (b :: l).length by simp; omega] at this
    exact this
theorem valB_range (l : List Int) (h : ∀ x ∈ l, Byte x) : 0 ≤ valB l ∧ valB l < 256 ^ l.length := by
  have := fold_range l 0 0 (by decide) (by decide) h
  rw [Nat.zero_add] at this; exact this
theorem take_succ_get (l : List Int) (j : Nat) (x : Int) (h : l[j]? = some x) : l.take (j + 1) = l.take j ++ [x] := by
  rw [List.take_add_one, h]; rfl
theorem or_byte (a b : Int) (ha : 0 ≤ a) (hb : Byte b) : orI (256 * a) b = 256 * a + b := by
  obtain ⟨h0, h1⟩ := hb
  unfold orI
  have h := Nat.two_pow_add_eq_or_of_lt (b := b.toNat) (i := 8) (by omega) a.toNat
  rw [show (256 * a).toNat = 2 ^ 8 * a.toNat by omega, ← h]
  omega
theorem pow_le8 (j : Nat) (h : j ≤ 7) : (256 : Int) ^ j ≤ 72057594037927936 := by
  rcases j with _ | _ | _ | _ | _ | _ | _ | _ | j <;> first | decide | omega
theorem bits_step (a b : Int) (h0 : 0 ≤ a) (h1 : a < 72057594037927936) (hb : Byte b) : bits .or .u64 (256 * a) b = 256 * a + b := by
  unfold Byte at hb
  rw [bits_or_w ⟨by omega, by omega⟩ ⟨by omega, by omega⟩, or_byte a b h0 hb]
theorem take_byte {l : List Int} (h : ∀ x ∈ l, Byte x) (n : Nat) : ∀ x ∈ l.take n, Byte x := fun x hx => h x (List.mem_of_mem_take hx)
theorem takenS_length (l : List Int) (e n : Int) (h : 0 ≤ n) : ((takenS l e n).length : Int) ≤ n := by
  unfold takenS; split
  · rw [List.length_take]; omega
  · simpa using h
set_option maxRecDepth 100000 in
set_option maxHeartbeats 1600000 in
theorem rnum_a {d : Bool} (x : Value) (l : List Int) (e s : Int) (w : World) (h : St d w x l e) :
    Calls Try.prog 50 #[x, .int .i64 s] w fun r w' => r = .returned (.int .u64 (valB (takenS l e (limK s)))) ∧ St d w' x (leftS l e (limK s)) (errS l e (limK s)) ∧ Keeps (atP x) w w' := by
  obtain ⟨hk1, hk8⟩ := limK_range s
  go_enter Try.func50, Try.ntmps50
  go_wp2_with fail
  have hsz := limited_t s w
  rw [limK_int] at hsz
  refine hsz.mono ?_; rintro e1 w' ⟨rfl, rfl⟩
  clear hsz
  go_wp2_with fail
  refine (take_a x l e (limK s) w h (fun _ => by omega)).mono ?_
  rintro r w1 ⟨⟨v, rfl, hb⟩, hst, hk⟩
  have htl := takenS_length l e (limK s) (by omega)
  generalize hT : takenS l e (limK s) = t at *
  have HTt := Lib.hid hT; clear hT
  obtain ⟨pp, c, rfl, h1, h2, h3, h4, h6⟩ := hb
  have hst' := Lib.hid hst; clear hst
  clear h
  have H3 := Lib.hid h3; clear h3 h6
  go_wp2
  go_loopw [5, 13] (fun n i wr => ∃ (j : Nat), j ≤ t.length ∧ i = .int .i64 j ∧ n = .int .u64 (valB (t.take j)) ∧ wr = w1) (fun _ i _ => t.length - (intOf i).toNat)
  case atStart => exact ⟨0, by omega, rfl, rfl, rfl⟩
  case round =>
    obtain ⟨j, hj, rfl, rfl, rfl⟩ := hrel
    by_cases hlt : j < t.length
    · obtain ⟨g, o, rfl, h5⟩ := H3.out (by omega)
      have hx : t[j]? = some t[j] := List.getElem?_eq_getElem hlt
      have c0 := h5 j _ hx
      have hby := h4 t[j] (List.getElem_mem hlt)
      have hts := take_succ_get t j _ hx
      have hr := valB_range (t.take j) (take_byte h4 j)
      rw [List.length_take, Nat.min_eq_left hj] at hr
      have hp := pow_le8 j (by omega)
      have hbs := bits_step (valB (t.take j)) t[j] hr.1 (by omega) hby
      have HT := Lib.hid (show valB (t.take (j + 1)) = 256 * valB (t.take j) + t[j] by rw [hts, valB_snoc])
      generalize t[j] = b at *
      generalize valB (t.take j) = n at *
      have n0 : 0 ≤ n := hr.1
      have n1 : n < 72057594037927936 := by omega
      obtain ⟨b0, b1⟩ := hby
      clear hr hp h4 h5 hts hx
      have hlb : decide ((j : Int) < (t.length : Int)) = true := by simp; omega
      go_wp2
      exact ⟨⟨j + 1, by omega, by go_num, by rw [HT.out, Int.mul_comm, hbs], trivial⟩, by simp [intOf]; omega⟩
    · have e8 : j = t.length := by omega
      have hlb : decide ((j : Int) < (t.length : Int)) = false := by simp; omega
      subst e8
      clear h4 H3
      go_wp2
      go_ret
      refine ⟨?_, hst'.out, hk⟩
      rw [HTt.out]
      show Ending.returned (Value.int .u64 (valB (t.take t.length))) = _
      rw [List.take_length]
end Go.Proofs.Ytgioompelogopaa
