/- Bytes, Of, Mask and Top of package four. No conditions beyond ranges. -/
import Derived.Test.YtkenkjdelhmaoaaDoorF0
namespace Go.Proofs.YtkenkjdelhmaoaaDoor
set_option linter.unusedVariables false
set_option linter.unusedSimpArgs false
open Go.RowKit
/-- the byte i of an address, the greatest first -/
def byteI (a : Int) (i : Nat) : Int := a / 2 ^ (24 - 8 * i) % 256
def arr4 (a : Int) : Value := .agg #[.int .u8 (byteI a 0), .int .u8 (byteI a 1), .int .u8 (byteI a 2), .int .u8 (byteI a 3)]
theorem byteI_range (a : Int) (i : Nat) : 0 ≤ byteI a i ∧ byteI a i ≤ 255 := by unfold byteI; omega
def cells4 (f : Nat → Int) (j : Nat) : Array Value := #[.int .u8 (if 0 < j then f 0 else 0), .int .u8 (if 1 < j then f 1 else 0), .int .u8 (if 2 < j then f 2 else 0), .int .u8 (if 3 < j then f 3 else 0)]
theorem cells4_set (f : Nat → Int) (j : Nat) (h : j < 4) : (cells4 f j).setIfInBounds j (.int .u8 (f j)) = cells4 f (j + 1) := by
  rcases j with _ | _ | _ | _ | j <;> first | rfl | omega
theorem cells4_get (f : Nat → Int) (j i : Nat) (h : i < 4) : (cells4 f j)[i]? = some (.int .u8 (if i < j then f i else 0)) := by
  rcases i with _ | _ | _ | _ | i <;> first | rfl | omega
set_option maxRecDepth 100000 in
set_option maxHeartbeats 1600000 in
theorem bytes4_t (a : Int) (a0 : 0 ≤ a) (a1 : a ≤ 4294967295) (w : World) : Calls Tryd.prog 10 #[.int .u32 a] w fun e w' => e = .returned (arr4 a) ∧ Below w.heap.size w w' := by
  go_enter Tryd.func10, Tryd.ntmps10
  go_wp2_with fail
  have Z0 : Row ((w.alloc (.cells #[.int .u8 0, .int .u8 0, .int .u8 0, .int .u8 0] 23)).alloc (.cells #[.int .u8 0, .int .u8 0, .int .u8 0, .int .u8 0] 23)) w.heap.size #[.int .u8 0, .int .u8 0, .int .u8 0, .int .u8 0] 23 := (Row.new w _ _).alloc _
  have Z1 : Row ((w.alloc (.cells #[.int .u8 0, .int .u8 0, .int .u8 0, .int .u8 0] 23)).alloc (.cells #[.int .u8 0, .int .u8 0, .int .u8 0, .int .u8 0] 23)) (w.heap.size + 1) (cells4 (byteI a) 0) 23 := by simpa [cells4] using Row.new (w.alloc (.cells #[.int .u8 0, .int .u8 0, .int .u8 0, .int .u8 0] 23)) #[.int .u8 0, .int .u8 0, .int .u8 0, .int .u8 0] 23
  have hb0 : Below w.heap.size w ((w.alloc (.cells #[.int .u8 0, .int .u8 0, .int .u8 0, .int .u8 0] 23)).alloc (.cells #[.int .u8 0, .int .u8 0, .int .u8 0, .int .u8 0] 23)) := (by repeat (first | exact Below.refl _ _ | assumption | (with_reducible refine Below.setCell ?_ ?h _; case h => first | omega | (simp; done) | (simp; omega)) | (with_reducible refine Below.alloc ?_ ?h _; case h => first | omega | (simp; done) | (simp; omega)) | (with_reducible refine Below.drew ?_) | (with_reducible refine Below.trans ?_ (hb4.mono ?h); case h => first | omega | (simp; done) | (simp; omega)) | (with_reducible refine Below.trans ?_ (hb3.mono ?h); case h => first | omega | (simp; done) | (simp; omega)) | (with_reducible refine Below.trans ?_ (hb2.mono ?h); case h => first | omega | (simp; done) | (simp; omega)) | (with_reducible refine Below.trans ?_ (hb.mono ?h); case h => first | omega | (simp; done) | (simp; omega)) | (with_reducible refine Below.trans ?_ (hb0.mono ?h); case h => first | omega | (simp; done) | (simp; omega))))
  generalize (w.alloc (.cells #[.int .u8 0, .int .u8 0, .int .u8 0, .int .u8 0] 23)).alloc (.cells #[.int .u8 0, .int .u8 0, .int .u8 0, .int .u8 0] 23) = w0 at *
  go_loopw [5] (fun i wr => ∃ (j : Nat), j ≤ 4 ∧ i = .int .i64 j ∧ Row wr (w.heap.size + 1) (cells4 (byteI a) j) 23 ∧ Row wr w.heap.size #[.int .u8 0, .int .u8 0, .int .u8 0, .int .u8 0] 23 ∧ Below w.heap.size w wr) (fun i _ => 4 - (intOf i).toNat)
  case atStart => exact ⟨0, by omega, rfl, Z1, Z0, hb0⟩
  case round =>
    clear Z0 Z1 hb0
    obtain ⟨j, hj, rfl, R, R0, hb⟩ := hrel
    by_cases hlt : j < 4
    · have hlb : decide ((j : Int) < 4) = true := by simp; omega
      have c0 := (R.cell j).trans (cells4_get (byteI a) j j hlt)
      have f0 := R.frozen j
      rw [if_neg (Nat.lt_irrefl j)] at c0
      have HR := Lib.hid R
      have HR0 := Lib.hid R0
      have HB := Lib.hid hb
      clear R R0 hb
      go_wp2
      refine ⟨⟨j + 1, by omega, by go_num, ?_, HR0.out.set_far _ _ (by simp), HB.out.setCell (by simp) _⟩, by simp [intOf]; omega⟩
      have := HR.out.set j (.int .u8 (byteI a j))
      rw [cells4_set (byteI a) j hlt] at this
      exact this
    · have hj4 : j = 4 := by omega
      subst hj4
      have R' : Row wr (w.heap.size + 1) #[.int .u8 (byteI a 0), .int .u8 (byteI a 1), .int .u8 (byteI a 2), .int .u8 (byteI a 3)] 23 := R
      have c0 := (R'.cell 0).trans (show _ = some (Value.int .u8 (byteI a 0)) from rfl)
      have c1 := (R'.cell 1).trans (show _ = some (Value.int .u8 (byteI a 1)) from rfl)
      have c2 := (R'.cell 2).trans (show _ = some (Value.int .u8 (byteI a 2)) from rfl)
      have c3 := (R'.cell 3).trans (show _ = some (Value.int .u8 (byteI a 3)) from rfl)
      have z0 := (R0.cell 0).trans (show _ = some (Value.int .u8 0) from rfl)
      have z1 := (R0.cell 1).trans (show _ = some (Value.int .u8 0) from rfl)
      have z2 := (R0.cell 2).trans (show _ = some (Value.int .u8 0) from rfl)
      have z3 := (R0.cell 3).trans (show _ = some (Value.int .u8 0) from rfl)
      have f0 := R0.frozen 0
      have f1 := R0.frozen 1
      have f2 := R0.frozen 2
      have f3 := R0.frozen 3
      have HB := Lib.hid hb
      have HR0 := Lib.hid R0
      clear R R' R0 hb
      go_wp2
      have Q := (((HR0.out.set 0 (.int .u8 (byteI a 0))).set 1 (.int .u8 (byteI a 1))).set 2 (.int .u8 (byteI a 2))).set 3 (.int .u8 (byteI a 3))
      have s0 := (Q.cell 0).trans (show _ = some (Value.int .u8 (byteI a 0)) from rfl)
      have s1 := (Q.cell 1).trans (show _ = some (Value.int .u8 (byteI a 1)) from rfl)
      have s2 := (Q.cell 2).trans (show _ = some (Value.int .u8 (byteI a 2)) from rfl)
      have s3 := (Q.cell 3).trans (show _ = some (Value.int .u8 (byteI a 3)) from rfl)
      exact bodyPost_ret (v := .agg #[.int .u8 (byteI a 0), .int .u8 (byteI a 1), .int .u8 (byteI a 2), .int .u8 (byteI a 3)]) (by simp only [results, Tryd.results10]; simp [go_sem, s0, s1, s2, s3]) rfl ⟨rfl, (((HB.out.setCell (Nat.le_refl _) _).setCell (Nat.le_refl _) _).setCell (Nat.le_refl _) _).setCell (Nat.le_refl _) _⟩
theorem ofInt32 (x : Int) (h0 : 0 ≤ x) (h1 : x < 4294967296) : (BitVec.ofInt 32 x).toNat = x.toNat := by
  obtain ⟨n, rfl⟩ := Int.eq_ofNat_of_zero_le h0
  rw [BitVec.ofInt_natCast, BitVec.toNat_ofNat, Int.toNat_natCast]; exact Nat.mod_eq_of_lt (by omega)
theorem or32 (n b : Int) (n0 : 0 ≤ n) (n1 : n < 16777216) (b0 : 0 ≤ b) (b1 : b ≤ 255) : bits .or .u32 (n * 256) b = n * 256 + b := by
  show IntKind.u32.wrap ((BitVec.ofInt 32 (n * 256) ||| BitVec.ofInt 32 b).toNat : Int) = _
  rw [BitVec.toNat_or, ofInt32 _ (by omega) (by omega), ofInt32 b (by omega) (by omega)]
  have h := Nat.two_pow_add_eq_or_of_lt (b := b.toNat) (i := 8) (by omega) n.toNat
  rw [show (n * 256).toNat = 2 ^ 8 * n.toNat by omega, ← h]
  simp [IntKind.wrap, IntKind.bits, IntKind.signed]
  omega
theorem idx4_0 (b0 b1 b2 b3 : Value) (w : World) : (Instr.index 23 (.agg #[b0, b1, b2, b3]) (.int .i64 0)).run Tryd.prog w = .ok b0 w := by kernel_rfl
theorem idx4_1 (b0 b1 b2 b3 : Value) (w : World) : (Instr.index 23 (.agg #[b0, b1, b2, b3]) (.int .i64 1)).run Tryd.prog w = .ok b1 w := by kernel_rfl
theorem idx4_2 (b0 b1 b2 b3 : Value) (w : World) : (Instr.index 23 (.agg #[b0, b1, b2, b3]) (.int .i64 2)).run Tryd.prog w = .ok b2 w := by kernel_rfl
theorem idx4_3 (b0 b1 b2 b3 : Value) (w : World) : (Instr.index 23 (.agg #[b0, b1, b2, b3]) (.int .i64 3)).run Tryd.prog w = .ok b3 w := by kernel_rfl
/-- the address of the first j of four bytes -/
def part4 (b0 b1 b2 b3 : Int) : Nat → Int
  | 0 => 0
  | 1 => b0
  | 2 => b0 * 256 + b1
  | 3 => (b0 * 256 + b1) * 256 + b2
  | _ => ((b0 * 256 + b1) * 256 + b2) * 256 + b3
set_option maxRecDepth 100000 in
set_option maxHeartbeats 1600000 in
theorem of4_t (b0 b1 b2 b3 : Int) (h0 : 0 ≤ b0 ∧ b0 ≤ 255) (h1 : 0 ≤ b1 ∧ b1 ≤ 255) (h2 : 0 ≤ b2 ∧ b2 ≤ 255) (h3 : 0 ≤ b3 ∧ b3 ≤ 255) (w : World) : Calls Tryd.prog 14 #[.agg #[.int .u8 b0, .int .u8 b1, .int .u8 b2, .int .u8 b3]] w fun e w' => e = .returned (.int .u32 (part4 b0 b1 b2 b3 4)) ∧ Below w.heap.size w w' := by
  go_enter Tryd.func14, Tryd.ntmps14
  go_wp2_with fail
  have hb0 : Below w.heap.size w (w.alloc (.cells #[.int .u8 b0, .int .u8 b1, .int .u8 b2, .int .u8 b3] 23)) := (by repeat (first | exact Below.refl _ _ | assumption | (with_reducible refine Below.setCell ?_ ?h _; case h => first | omega | (simp; done) | (simp; omega)) | (with_reducible refine Below.alloc ?_ ?h _; case h => first | omega | (simp; done) | (simp; omega)) | (with_reducible refine Below.drew ?_) | (with_reducible refine Below.trans ?_ (hb4.mono ?h); case h => first | omega | (simp; done) | (simp; omega)) | (with_reducible refine Below.trans ?_ (hb3.mono ?h); case h => first | omega | (simp; done) | (simp; omega)) | (with_reducible refine Below.trans ?_ (hb2.mono ?h); case h => first | omega | (simp; done) | (simp; omega)) | (with_reducible refine Below.trans ?_ (hb.mono ?h); case h => first | omega | (simp; done) | (simp; omega)) | (with_reducible refine Below.trans ?_ (hb0.mono ?h); case h => first | omega | (simp; done) | (simp; omega))))
  generalize w.alloc (.cells #[.int .u8 b0, .int .u8 b1, .int .u8 b2, .int .u8 b3] 23) = w0 at *
  have g0 := or32 0 b0 (by omega) (by omega) h0.1 h0.2
  have g1 := or32 b0 b1 (by omega) (by omega) h1.1 h1.2
  have g2 := or32 (b0 * 256 + b1) b2 (by omega) (by omega) h2.1 h2.2
  have g3 := or32 ((b0 * 256 + b1) * 256 + b2) b3 (by omega) (by omega) h3.1 h3.2
  simp at g0
  obtain ⟨p0, q0⟩ := h0
  obtain ⟨p1, q1⟩ := h1
  obtain ⟨p2, q2⟩ := h2
  obtain ⟨p3, q3⟩ := h3
  go_loopw [3, 7] (fun n i wr => ∃ (j : Nat), j ≤ 4 ∧ i = .int .i64 j ∧ n = .int .u32 (part4 b0 b1 b2 b3 j) ∧ wr = w0) (fun _ i _ => 4 - (intOf i).toNat)
  case atStart => exact ⟨0, by omega, rfl, rfl, rfl⟩
  case round =>
    obtain ⟨j, hj, rfl, rfl, rfl⟩ := hrel
    rcases j with _ | _ | _ | _ | _ | j
    · simp only [part4]
      have hi := idx4_0 (.int .u8 b0) (.int .u8 b1) (.int .u8 b2) (.int .u8 b3) wr
      go_wp2
      exact ⟨⟨1, by omega, by go_num, by simp only [part4], trivial⟩, by simp [intOf]⟩
    · simp only [part4]
      have hi := idx4_1 (.int .u8 b0) (.int .u8 b1) (.int .u8 b2) (.int .u8 b3) wr
      go_wp2
      exact ⟨⟨2, by omega, by go_num, by simp only [part4], trivial⟩, by simp [intOf]⟩
    · simp only [part4]
      have hi := idx4_2 (.int .u8 b0) (.int .u8 b1) (.int .u8 b2) (.int .u8 b3) wr
      go_wp2
      exact ⟨⟨3, by omega, by go_num, by simp only [part4], trivial⟩, by simp [intOf]⟩
    · simp only [part4]
      have hi := idx4_3 (.int .u8 b0) (.int .u8 b1) (.int .u8 b2) (.int .u8 b3) wr
      go_wp2
      exact ⟨⟨4, by omega, by go_num, by simp only [part4], trivial⟩, by simp [intOf]⟩
    · simp only [part4]
      go_wp2
      go_ret
      exact ⟨rfl, hb0⟩
    · omega
theorem part4_bytes (a : Int) (a0 : 0 ≤ a) (a1 : a ≤ 4294967295) : part4 (byteI a 0) (byteI a 1) (byteI a 2) (byteI a 3) 4 = a := by
  simp only [part4, byteI]
  simp
  omega
/-- the mask of n bits -/
def mask4 (n : Int) : Int := if n < 1 then 0 else 4294967296 - 2 ^ (32 - (min n 32).toNat)
set_option maxHeartbeats 400000 in
theorem mask4_t (n : Int) (w : World) : Calls Tryd.prog 15 #[.int .i64 n] w fun e w' => e = .returned (.int .u32 (mask4 n)) ∧ w = w' := by
  by_cases hn : n < 1
  · unfold mask4
    rw [if_pos hn]
    go_enter Tryd.func15, Tryd.ntmps15
    go_wp2
    go_ret
    exact ⟨rfl, rfl⟩
  · unfold mask4
    rw [if_neg hn]
    by_cases h32 : 32 < n
    · go_enter Tryd.func15, Tryd.ntmps15
      go_wp2
      go_ret
      refine ⟨ret_int ?_, rfl⟩
      rw [show (min n 32).toNat = 32 by omega]; decide
    · have h33 : n ≤ 32 := by omega
      go_enter Tryd.func15, Tryd.ntmps15
      go_wp2
      go_ret
      refine ⟨ret_int ?_, rfl⟩
      obtain ⟨k, rfl⟩ : ∃ k : Nat, n = k := ⟨n.toNat, by omega⟩
      have hall : ∀ k : Fin 33, 1 ≤ (k : Nat) → (4294967295 : Int) * 2 ^ ((32 : Int) - ((k : Nat) : Int)).toNat % 4294967296 = 4294967296 - 2 ^ (32 - (min ((k : Nat) : Int) 32).toNat) := by decide +kernel
      exact hall ⟨k, by omega⟩ (by show 1 ≤ k; omega)
/-- the first n bits of an address -/
def top4 (a n : Int) : Int := ((a.toNat &&& (mask4 n).toNat : Nat) : Int)
theorem mask4_range (n : Int) : 0 ≤ mask4 n ∧ mask4 n ≤ 4294967295 := by
  unfold mask4
  split
  · omega
  · have h1 : (2 : Int) ^ (32 - (min n 32).toNat) ≤ 2 ^ 31 := by
      have : 32 - (min n 32).toNat ≤ 31 := by omega
      exact_mod_cast Nat.pow_le_pow_right (by decide) this
    have h2 : (0 : Int) < 2 ^ (32 - (min n 32).toNat) := Int.pow_pos (by decide)
    omega
theorem and32 (x y : Int) (x0 : 0 ≤ x) (x1 : x ≤ 4294967295) (y0 : 0 ≤ y) (y1 : y ≤ 4294967295) : bits .and .u32 x y = ((x.toNat &&& y.toNat : Nat) : Int) := by
  show IntKind.u32.wrap ((BitVec.ofInt 32 x &&& BitVec.ofInt 32 y).toNat : Int) = _
  rw [BitVec.toNat_and, ofInt32 _ (by omega) (by omega), ofInt32 y (by omega) (by omega)]
  have : x.toNat &&& y.toNat ≤ x.toNat := Nat.and_le_left
  simp [IntKind.wrap, IntKind.bits, IntKind.signed]
  omega
set_option maxHeartbeats 400000 in
theorem top4_t (a n : Int) (a0 : 0 ≤ a) (a1 : a ≤ 4294967295) (w : World) : Calls Tryd.prog 17 #[.int .u32 a, .int .i64 n] w fun e w' => e = .returned (.int .u32 (top4 a n)) ∧ w = w' := by
  obtain ⟨m0, m1⟩ := mask4_range n
  have hand := and32 a (mask4 n) a0 a1 m0 m1
  go_enter Tryd.func17, Tryd.ntmps17
  go_wp2_with fail
  refine (mask4_t n w).mono ?_
  rintro r w1 ⟨rfl, rfl⟩
  go_wp2
  go_ret
  exact ⟨by first | rfl | exact ret_int hand, rfl⟩
end Go.Proofs.YtkenkjdelhmaoaaDoor
