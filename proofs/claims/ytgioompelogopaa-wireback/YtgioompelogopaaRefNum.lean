/- The reference's bytes of a number. No conditions beyond the number's range. -/
import Derived.Test.YtgioompelogopaaBys
namespace Go.Proofs.Ytgioompelogopaa
set_option linter.unusedVariables false
set_option linter.unusedSimpArgs false
open Go.RowKit
/-- the last k bytes of n, the greatest first -/
def numB (n : Int) (k : Nat) : List Int := (List.range k).map fun m => n / 256 ^ (k - 1 - m) % 256
theorem numB_length (n : Int) (k : Nat) : (numB n k).length = k := by simp [numB]
theorem numB_get (n : Int) (k m : Nat) (h : m < k) : (numB n k)[m]? = some (n / 256 ^ (k - 1 - m) % 256) := by
  unfold numB; rw [List.getElem?_map, List.getElem?_range h]; rfl
theorem numB_byte (n : Int) (k : Nat) : ∀ x ∈ numB n k, Byte x := by
  intro x hx; unfold numB at hx; rw [List.mem_map] at hx; obtain ⟨m, _, rfl⟩ := hx; unfold Byte; omega
def limK (s : Int) : Nat := (max 1 (min s 8)).toNat
theorem limK_range (s : Int) : 1 ≤ limK s ∧ limK s ≤ 8 := by unfold limK; omega
theorem limK_int (s : Int) : max 1 (min s 8) = (limK s : Int) := by unfold limK; omega
theorem div256 (x : Int) (k : Nat) : x / 256 ^ k / 256 = x / 256 ^ (k + 1) := by
  rw [Int.pow_succ, Int.ediv_ediv_of_nonneg (Int.pow_nonneg (by decide))]
theorem word_div256 {x : Int} (hx : Word x) (k : Nat) : 0 ≤ x / 256 ^ k ∧ x / 256 ^ k < 18446744073709551616 := by
  obtain ⟨h0, h1⟩ := hx
  have hp : (0 : Int) < 256 ^ k := Int.pow_pos (by decide)
  exact ⟨Int.ediv_nonneg h0 (Int.le_of_lt hp), Int.lt_of_le_of_lt (Int.ediv_le_self _ h0) h1⟩
theorem all_cells (n : Int) (k : Nat) (cs : Array Value) (hs : cs.size = k) (h : ∀ m, m < k → cs[m]? = some (.int .u8 (n / 256 ^ (k - 1 - m) % 256))) : cs = (bys (numB n k)).toArray := by
  apply Array.ext_getElem?
  intro m
  rw [show (bys (numB n k)).toArray[m]? = (bys (numB n k))[m]? by simp]
  unfold bys
  rw [List.getElem?_map]
  by_cases hm : m < k
  · rw [h m hm, numB_get n k m hm]; rfl
  · rw [Array.getElem?_eq_none (by omega), List.getElem?_eq_none (by rw [numB_length]; omega)]; rfl
set_option maxRecDepth 100000 in
set_option maxHeartbeats 1600000 in
theorem refNum_t (n s : Int) (hn : Word n) (w : World) : Calls Try.prog 59 #[.int .u64 n, .int .i64 s] w (RetOwn w (numB n (limK s))) := by
  obtain ⟨i, i1, i2, i3, i4⟩ := info8
  have hk := limK_range s
  obtain ⟨hk1, hk8⟩ := hk
  go_enter Try.func59, Try.ntmps59
  go_wp2_with fail
  have hsz := refSize_t s w
  rw [limK_int] at hsz
  refine hsz.mono ?_; rintro e w' ⟨rfl, rfl⟩
  clear hsz
  generalize limK s = k at *
  have tok : True := trivial
  go_wp2_with (have _t := tok; refine wpList_make_full _ rfl (.tmp 10) (.tmp 10) 56 rfl w.heap.size 5 i (.int .u8 0) 1 Try.underlying56 i1 i2 i3 .i64 .i64 _ _ k rfl rfl rfl rfl (by rw [i4]; omega) (by unfold maxLen; omega) (Nat.le_refl _) ?_; clear tok; intro w1 ho hg; obtain ⟨cur, hrow, hcur, _, _, _⟩ := made_row ho; have hb1 : Below w.heap.size w w1 := Below.grown (Below.refl _ _) hg (Nat.le_refl _) (fun k hk => by cases hk); clear ho hg)
  go_loopw [0, 7] (fun a0 i wr => ∃ (j : Nat) (cs : Array Value), j ≤ k ∧ i = .int .i64 j ∧ a0 = .int .u64 (n / 256 ^ j) ∧ Row wr w.heap.size cs 5 ∧ cs.size = k ∧ (∀ m, k - j ≤ m → m < k → cs[m]? = some (.int .u8 (n / 256 ^ (k - 1 - m) % 256))) ∧ Below w.heap.size w wr) (fun _ i _ => k - (intOf i).toNat)
  case atStart => exact ⟨0, cur.toArray, by omega, rfl, by simp, hrow, by simp [hcur], fun m h1 h2 => absurd h2 (by omega), hb1⟩
  case round =>
    clear hrow hb1 hcur
    obtain ⟨j, cs, hj, rfl, rfl, R, hcs, hset, hb1⟩ := hrel
    by_cases hlt : j < k
    · have hkb : decide ((j : Int) < (k : Int)) = true := by simp; omega
      have hkc : decide (j < k) = true := by simp; omega
      have hd := word_div256 hn j
      obtain ⟨d0, d1⟩ := hd
      have HD := Lib.hid (div256 n j)
      have ix : ((k : Int) - 1 - (j : Int)).toNat = k - 1 - j := by omega
      have c0 := cell_at8 R (k - 1 - j) (by omega)
      have f0 := R.frozen (k - 1 - j)
      generalize cs[k - 1 - j]'(by omega) = v0 at c0
      have HS := Lib.hid hset; clear hset
      have HC := Lib.hid hcs; clear hcs
      generalize hz : n / 256 ^ j = z at *
      have b1 : (0 : Int) ≤ (k : Int) - 1 - (j : Int) := by omega
      have b2 : (k : Int) - 1 - (j : Int) < (k : Int) := by omega
      have HZ := Lib.hid hz; clear hz
      go_wp2
      refine ⟨⟨j + 1, cs.setIfInBounds (k - 1 - j) (.int .u8 (z % 256)), by omega, by go_num, by rw [← HD.out], R.set _ _, by simp [HC.out], ?_, hb1.setCell (Nat.le_refl _) _⟩, by simp [intOf]; omega⟩
      intro m m1 m2
      rw [Array.getElem?_setIfInBounds]
      by_cases hm : k - 1 - j = m
      · rw [if_pos hm, if_pos (by have := HC.out; omega), ← HZ.out, show k - 1 - m = j by omega]
      · rw [if_neg hm]; exact HS.out m (by omega) m2
    · obtain rfl : j = k := by omega
      have hall := all_cells n j cs hcs (fun m hm => hset m (by omega) hm)
      subst hall
      have HR := Lib.hid R
      clear R hset hcs
      have hkb : decide ((j : Int) < (j : Int)) = false := by simp
      go_wp2
      go_ret
      have hl := numB_length n j
      refine ⟨_, rfl, ?_, hb1⟩
      have ho := own_row (base := w.heap.size) (l := numB n j) (Nat.le_refl _) (by rw [hl]; unfold maxLen; omega) HR.out (numB_byte n j)
      rw [hl] at ho
      exact ho
end Go.Proofs.Ytgioompelogopaa
