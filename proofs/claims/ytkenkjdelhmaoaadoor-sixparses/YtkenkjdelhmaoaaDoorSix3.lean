/- Of of package six. No conditions beyond ranges. -/
import Derived.Test.YtkenkjdelhmaoaaDoorSix2
namespace Go.Proofs.YtkenkjdelhmaoaaDoor
set_option linter.unusedVariables false
set_option linter.unusedSimpArgs false
open Go.RowKit
/-- the address of the first j groups -/
def ofN (f : Nat → Int) : Nat → Int
  | 0 => 0
  | j + 1 => 65536 * ofN f j + f j
theorem ofN_range (f : Nat → Int) (hf : ∀ k, 0 ≤ f k ∧ f k ≤ 65535) : ∀ j, 0 ≤ ofN f j ∧ ofN f j < 65536 ^ j
  | 0 => ⟨by simp [ofN], by simp [ofN]⟩
  | j + 1 => by
    have h := ofN_range f hf j
    have h2 := hf j
    rw [ofN, Int.pow_succ]
    generalize (65536 : Int) ^ j = q at *
    omega
theorem or16 (a b : Int) (ha : 0 ≤ a) (b0 : 0 ≤ b) (b1 : b ≤ 65535) : orI (65536 * a) b = 65536 * a + b := by
  unfold orI
  have h := Nat.two_pow_add_eq_or_of_lt (b := b.toNat) (i := 16) (by omega) a.toNat
  rw [show (65536 * a).toNat = 2 ^ 16 * a.toNat by omega, ← h]
  omega
theorem left16 (n : Int) (w : World) : Calls Tryd.prog 41 #[.agg #[.int .u64 (hi n), .int .u64 (lo n)], .int .i64 16] w fun e w' => e = .returned (.agg #[.int .u64 (hi (65536 * n)), .int .u64 (lo (65536 * n))]) ∧ Below w.heap.size w w' := by
  have h := left_h n 16 w
  rw [show n * 2 ^ (16 : Int).toNat = 65536 * n by show n * 65536 = 65536 * n; omega] at h
  exact h
theorem of16 (b : Int) (b0 : 0 ≤ b) (b1 : b ≤ 65535) (w : World) : Calls Tryd.prog 39 #[.int .u64 b] w fun e w' => e = .returned (.agg #[.int .u64 (hi b), .int .u64 (lo b)]) ∧ Below w.heap.size w w' := by
  rw [show hi b = 0 by unfold hi; omega, show lo b = b by unfold lo; omega]; exact of_any b w
theorem orN (a b : Int) (a0 : 0 ≤ a) (a1 : a < 5192296858534827628530496329220096) (b0 : 0 ≤ b) (b1 : b ≤ 65535) (w : World) : Calls Tryd.prog 40 #[.agg #[.int .u64 (hi (65536 * a)), .int .u64 (lo (65536 * a))], .agg #[.int .u64 (hi b), .int .u64 (lo b)]] w fun e w' => e = .returned (.agg #[.int .u64 (hi (65536 * a + b)), .int .u64 (lo (65536 * a + b))]) ∧ Below w.heap.size w w' := by
  have h := or_h (65536 * a) b w
  rw [show (65536 * a) % MM = 65536 * a by unfold MM; omega, show b % MM = b by unfold MM; omega, or16 a b a0 b0 b1] at h
  exact h
theorem pow_le7 (j : Nat) (h : j ≤ 7) : (65536 : Int) ^ j ≤ 5192296858534827628530496329220096 := by
  have : ∀ j : Fin 8, (65536 : Int) ^ (j : Nat) ≤ 5192296858534827628530496329220096 := by decide
  exact this ⟨j, by omega⟩
set_option maxRecDepth 100000 in
set_option maxHeartbeats 3200000 in
theorem of8_t (f : Nat → Int) (hf : ∀ k, 0 ≤ f k ∧ f k ≤ 65535) (w : World) : Calls Tryd.prog 26 #[arr8 f] w fun e w' => e = .returned (.agg #[.int .u64 (hi (ofN f 8)), .int .u64 (lo (ofN f 8))]) ∧ Below w.heap.size w w' := by
  unfold arr8
  go_enter Tryd.func26, Tryd.ntmps26
  go_wp2_with fail
  have hb0 : Below w.heap.size w ((w.alloc (.cells #[.int .u16 (f 0), .int .u16 (f 1), .int .u16 (f 2), .int .u16 (f 3), .int .u16 (f 4), .int .u16 (f 5), .int .u16 (f 6), .int .u16 (f 7)] 42)).alloc (.cells #[.int .u64 0, .int .u64 0] 40)) := (by repeat (first | exact Below.refl _ _ | assumption | (with_reducible refine Below.setCell ?_ ?h _; case h => first | omega | (simp; done) | (simp; omega)) | (with_reducible refine Below.alloc ?_ ?h _; case h => first | omega | (simp; done) | (simp; omega)) | (with_reducible refine Below.drew ?_) | (with_reducible refine Below.trans ?_ (hb4.mono ?h); case h => first | omega | (simp; done) | (simp; omega)) | (with_reducible refine Below.trans ?_ (hb3.mono ?h); case h => first | omega | (simp; done) | (simp; omega)) | (with_reducible refine Below.trans ?_ (hb2.mono ?h); case h => first | omega | (simp; done) | (simp; omega)) | (with_reducible refine Below.trans ?_ (hb.mono ?h); case h => first | omega | (simp; done) | (simp; omega)) | (with_reducible refine Below.trans ?_ (hb0.mono ?h); case h => first | omega | (simp; done) | (simp; omega))))
  have R0 : Row ((w.alloc (.cells #[.int .u16 (f 0), .int .u16 (f 1), .int .u16 (f 2), .int .u16 (f 3), .int .u16 (f 4), .int .u16 (f 5), .int .u16 (f 6), .int .u16 (f 7)] 42)).alloc (.cells #[.int .u64 0, .int .u64 0] 40)) (w.heap.size + 1) #[.int .u64 0, .int .u64 0] 40 := by simpa using Row.new (w.alloc (.cells #[.int .u16 (f 0), .int .u16 (f 1), .int .u16 (f 2), .int .u16 (f 3), .int .u16 (f 4), .int .u16 (f 5), .int .u16 (f 6), .int .u16 (f 7)] 42)) #[.int .u64 0, .int .u64 0] 40
  have G0 : Row ((w.alloc (.cells #[.int .u16 (f 0), .int .u16 (f 1), .int .u16 (f 2), .int .u16 (f 3), .int .u16 (f 4), .int .u16 (f 5), .int .u16 (f 6), .int .u16 (f 7)] 42)).alloc (.cells #[.int .u64 0, .int .u64 0] 40)) w.heap.size #[.int .u16 (f 0), .int .u16 (f 1), .int .u16 (f 2), .int .u16 (f 3), .int .u16 (f 4), .int .u16 (f 5), .int .u16 (f 6), .int .u16 (f 7)] 42 := (Row.new w _ _).alloc _
  have hsz : w.heap.size + 2 ≤ ((w.alloc (.cells #[.int .u16 (f 0), .int .u16 (f 1), .int .u16 (f 2), .int .u16 (f 3), .int .u16 (f 4), .int .u16 (f 5), .int .u16 (f 6), .int .u16 (f 7)] 42)).alloc (.cells #[.int .u64 0, .int .u64 0] 40)).heap.size := by simp
  generalize (w.alloc (.cells #[.int .u16 (f 0), .int .u16 (f 1), .int .u16 (f 2), .int .u16 (f 3), .int .u16 (f 4), .int .u16 (f 5), .int .u16 (f 6), .int .u16 (f 7)] 42)).alloc (.cells #[.int .u64 0, .int .u64 0] 40) = w0 at *
  refine (of_any 0 w0).mono ?_
  rintro r w1 ⟨rfl, hb1⟩
  replace R0 := R0.later hb1
  replace G0 := G0.later hb1
  have hbz := below_step hb0 hb1
  have hs1 := Nat.le_trans hsz hb1.size
  clear hb0 hb1 hsz
  have g0 := (G0.cell 0).trans (show _ = some (Value.int .u16 (f 0)) from rfl)
  have g1 := (G0.cell 1).trans (show _ = some (Value.int .u16 (f 1)) from rfl)
  have g2 := (G0.cell 2).trans (show _ = some (Value.int .u16 (f 2)) from rfl)
  have g3 := (G0.cell 3).trans (show _ = some (Value.int .u16 (f 3)) from rfl)
  have g4 := (G0.cell 4).trans (show _ = some (Value.int .u16 (f 4)) from rfl)
  have g5 := (G0.cell 5).trans (show _ = some (Value.int .u16 (f 5)) from rfl)
  have g6 := (G0.cell 6).trans (show _ = some (Value.int .u16 (f 6)) from rfl)
  have g7 := (G0.cell 7).trans (show _ = some (Value.int .u16 (f 7)) from rfl)
  have hl1 : w.heap.size < w1.heap.size := by omega
  have hl2 : w.heap.size + 1 < w1.heap.size := by omega
  have hn1 : ¬ w1.heap.size = w.heap.size := by omega
  have hn2 : ¬ w.heap.size = w1.heap.size := by omega
  have HG := Lib.hid G0
  have HR := Lib.hid R0
  have HB := Lib.hid hbz
  clear G0 R0 hbz
  go_wp2_with fail
  have RA := Row.new w1 #[.int .u64 0, .int .u64 0] 40
  have hba : Below w1.heap.size w1 (w1.alloc (.cells #[.int .u64 0, .int .u64 0] 40)) := (Below.refl _ _).alloc (Nat.le_refl _) _
  have RZ := HR.out.later hba
  have hbz := below_step HB.out hba
  clear HG HR HB hba g0 g1 g2 g3 g4 g5 g6 g7
  generalize w1.alloc (.cells #[.int .u64 0, .int .u64 0] 40) = w2 at *
  generalize w1.heap.size = g at *
  go_loopw [8] (fun i wr => ∃ (j : Nat), j ≤ 8 ∧ i = .int .i64 j ∧ Row wr g #[.int .u64 (hi (ofN f j)), .int .u64 (lo (ofN f j))] 40 ∧ Row wr (w.heap.size + 1) #[.int .u64 0, .int .u64 0] 40 ∧ Below w.heap.size w wr) (fun i _ => 8 - (intOf i).toNat)
  case atStart => exact ⟨0, by omega, rfl, RA, RZ, hbz⟩
  case round =>
    clear RA RZ hbz
    obtain ⟨j, hj, rfl, R, R0, hb⟩ := hrel
    have hrg := ofN_range f hf j
    rcases j with _ | _ | _ | _ | _ | _ | _ | _ | _ | j
    · have hidx := idx8_0 (.int .u16 (f 0)) (.int .u16 (f 1)) (.int .u16 (f 2)) (.int .u16 (f 3)) (.int .u16 (f 4)) (.int .u16 (f 5)) (.int .u16 (f 6)) (.int .u16 (f 7)) wr
      have hp7 := pow_le7 (0) (by omega)
      have hn : ofN f (0 + 1) = 65536 * ofN f (0) + f 0 := rfl
      have HN := Lib.hid hn
      clear hn
      obtain ⟨y0, y1⟩ := hf 0
      have n0 := hrg.1
      have n1 : ofN f (0) < 5192296858534827628530496329220096 := Int.lt_of_lt_of_le hrg.2 hp7
      clear hrg hp7
      generalize ofN f (0) = n at *
      have r0 := (R.cell 0).trans (show _ = some (Value.int .u64 (hi n)) from rfl)
      have r1 := (R.cell 1).trans (show _ = some (Value.int .u64 (lo n)) from rfl)
      have HR := Lib.hid R
      have HR0 := Lib.hid R0
      have HB := Lib.hid hb
      clear R R0 hb
      go_wp2_with fail
      refine (left16 n wr).mono ?_
      rintro r w3 ⟨rfl, hb3⟩
      go_wp2_with fail
      refine (of16 (f 0) y0 y1 w3).mono ?_
      rintro r w4 ⟨rfl, hb4⟩
      go_wp2_with fail
      refine (orN n (f 0) n0 n1 y0 y1 w4).mono ?_
      rintro r w5 ⟨rfl, hb5⟩
      have hbb := below_step (below_step hb3 hb4) hb5
      have R5 := HR.out.later hbb
      have r0 := (R5.cell 0).trans (show _ = some (Value.int .u64 (hi n)) from rfl)
      have r1 := (R5.cell 1).trans (show _ = some (Value.int .u64 (lo n)) from rfl)
      have f0 := R5.frozen 0
      have f1 := R5.frozen 1
      have HR5 := Lib.hid R5
      have HZ5 := Lib.hid (HR0.out.later hbb)
      have HB5 := Lib.hid (below_step HB.out hbb)
      clear R5 HR HR0 HB hbb hb3 hb4 hb5
      go_wp2
      refine ⟨⟨1, by omega, by go_num, ?_, (HZ5.out.set_far _ _ (by dsimp only; omega)).set_far _ _ (by dsimp only; omega), (HB5.out.setCell (by dsimp only; omega) _).setCell (by dsimp only; omega) _⟩, by simp [intOf]⟩
      rw [show ofN f 1 = ofN f (0 + 1) from rfl, HN.out]
      simpa using (HR5.out.set 0 (.int .u64 (hi (65536 * n + f 0)))).set 1 (.int .u64 (lo (65536 * n + f 0)))
    · have hidx := idx8_1 (.int .u16 (f 0)) (.int .u16 (f 1)) (.int .u16 (f 2)) (.int .u16 (f 3)) (.int .u16 (f 4)) (.int .u16 (f 5)) (.int .u16 (f 6)) (.int .u16 (f 7)) wr
      have hp7 := pow_le7 (0 + 1) (by omega)
      have hn : ofN f (0 + 1 + 1) = 65536 * ofN f (0 + 1) + f 1 := rfl
      have HN := Lib.hid hn
      clear hn
      obtain ⟨y0, y1⟩ := hf 1
      have n0 := hrg.1
      have n1 : ofN f (0 + 1) < 5192296858534827628530496329220096 := Int.lt_of_lt_of_le hrg.2 hp7
      clear hrg hp7
      generalize ofN f (0 + 1) = n at *
      have r0 := (R.cell 0).trans (show _ = some (Value.int .u64 (hi n)) from rfl)
      have r1 := (R.cell 1).trans (show _ = some (Value.int .u64 (lo n)) from rfl)
      have HR := Lib.hid R
      have HR0 := Lib.hid R0
      have HB := Lib.hid hb
      clear R R0 hb
      go_wp2_with fail
      refine (left16 n wr).mono ?_
      rintro r w3 ⟨rfl, hb3⟩
      go_wp2_with fail
      refine (of16 (f 1) y0 y1 w3).mono ?_
      rintro r w4 ⟨rfl, hb4⟩
      go_wp2_with fail
      refine (orN n (f 1) n0 n1 y0 y1 w4).mono ?_
      rintro r w5 ⟨rfl, hb5⟩
      have hbb := below_step (below_step hb3 hb4) hb5
      have R5 := HR.out.later hbb
      have r0 := (R5.cell 0).trans (show _ = some (Value.int .u64 (hi n)) from rfl)
      have r1 := (R5.cell 1).trans (show _ = some (Value.int .u64 (lo n)) from rfl)
      have f0 := R5.frozen 0
      have f1 := R5.frozen 1
      have HR5 := Lib.hid R5
      have HZ5 := Lib.hid (HR0.out.later hbb)
      have HB5 := Lib.hid (below_step HB.out hbb)
      clear R5 HR HR0 HB hbb hb3 hb4 hb5
      go_wp2
      refine ⟨⟨2, by omega, by go_num, ?_, (HZ5.out.set_far _ _ (by dsimp only; omega)).set_far _ _ (by dsimp only; omega), (HB5.out.setCell (by dsimp only; omega) _).setCell (by dsimp only; omega) _⟩, by simp [intOf]⟩
      rw [show ofN f 2 = ofN f (0 + 1 + 1) from rfl, HN.out]
      simpa using (HR5.out.set 0 (.int .u64 (hi (65536 * n + f 1)))).set 1 (.int .u64 (lo (65536 * n + f 1)))
    · have hidx := idx8_2 (.int .u16 (f 0)) (.int .u16 (f 1)) (.int .u16 (f 2)) (.int .u16 (f 3)) (.int .u16 (f 4)) (.int .u16 (f 5)) (.int .u16 (f 6)) (.int .u16 (f 7)) wr
      have hp7 := pow_le7 (0 + 1 + 1) (by omega)
      have hn : ofN f (0 + 1 + 1 + 1) = 65536 * ofN f (0 + 1 + 1) + f 2 := rfl
      have HN := Lib.hid hn
      clear hn
      obtain ⟨y0, y1⟩ := hf 2
      have n0 := hrg.1
      have n1 : ofN f (0 + 1 + 1) < 5192296858534827628530496329220096 := Int.lt_of_lt_of_le hrg.2 hp7
      clear hrg hp7
      generalize ofN f (0 + 1 + 1) = n at *
      have r0 := (R.cell 0).trans (show _ = some (Value.int .u64 (hi n)) from rfl)
      have r1 := (R.cell 1).trans (show _ = some (Value.int .u64 (lo n)) from rfl)
      have HR := Lib.hid R
      have HR0 := Lib.hid R0
      have HB := Lib.hid hb
      clear R R0 hb
      go_wp2_with fail
      refine (left16 n wr).mono ?_
      rintro r w3 ⟨rfl, hb3⟩
      go_wp2_with fail
      refine (of16 (f 2) y0 y1 w3).mono ?_
      rintro r w4 ⟨rfl, hb4⟩
      go_wp2_with fail
      refine (orN n (f 2) n0 n1 y0 y1 w4).mono ?_
      rintro r w5 ⟨rfl, hb5⟩
      have hbb := below_step (below_step hb3 hb4) hb5
      have R5 := HR.out.later hbb
      have r0 := (R5.cell 0).trans (show _ = some (Value.int .u64 (hi n)) from rfl)
      have r1 := (R5.cell 1).trans (show _ = some (Value.int .u64 (lo n)) from rfl)
      have f0 := R5.frozen 0
      have f1 := R5.frozen 1
      have HR5 := Lib.hid R5
      have HZ5 := Lib.hid (HR0.out.later hbb)
      have HB5 := Lib.hid (below_step HB.out hbb)
      clear R5 HR HR0 HB hbb hb3 hb4 hb5
      go_wp2
      refine ⟨⟨3, by omega, by go_num, ?_, (HZ5.out.set_far _ _ (by dsimp only; omega)).set_far _ _ (by dsimp only; omega), (HB5.out.setCell (by dsimp only; omega) _).setCell (by dsimp only; omega) _⟩, by simp [intOf]⟩
      rw [show ofN f 3 = ofN f (0 + 1 + 1 + 1) from rfl, HN.out]
      simpa using (HR5.out.set 0 (.int .u64 (hi (65536 * n + f 2)))).set 1 (.int .u64 (lo (65536 * n + f 2)))
    · have hidx := idx8_3 (.int .u16 (f 0)) (.int .u16 (f 1)) (.int .u16 (f 2)) (.int .u16 (f 3)) (.int .u16 (f 4)) (.int .u16 (f 5)) (.int .u16 (f 6)) (.int .u16 (f 7)) wr
      have hp7 := pow_le7 (0 + 1 + 1 + 1) (by omega)
      have hn : ofN f (0 + 1 + 1 + 1 + 1) = 65536 * ofN f (0 + 1 + 1 + 1) + f 3 := rfl
      have HN := Lib.hid hn
      clear hn
      obtain ⟨y0, y1⟩ := hf 3
      have n0 := hrg.1
      have n1 : ofN f (0 + 1 + 1 + 1) < 5192296858534827628530496329220096 := Int.lt_of_lt_of_le hrg.2 hp7
      clear hrg hp7
      generalize ofN f (0 + 1 + 1 + 1) = n at *
      have r0 := (R.cell 0).trans (show _ = some (Value.int .u64 (hi n)) from rfl)
      have r1 := (R.cell 1).trans (show _ = some (Value.int .u64 (lo n)) from rfl)
      have HR := Lib.hid R
      have HR0 := Lib.hid R0
      have HB := Lib.hid hb
      clear R R0 hb
      go_wp2_with fail
      refine (left16 n wr).mono ?_
      rintro r w3 ⟨rfl, hb3⟩
      go_wp2_with fail
      refine (of16 (f 3) y0 y1 w3).mono ?_
      rintro r w4 ⟨rfl, hb4⟩
      go_wp2_with fail
      refine (orN n (f 3) n0 n1 y0 y1 w4).mono ?_
      rintro r w5 ⟨rfl, hb5⟩
      have hbb := below_step (below_step hb3 hb4) hb5
      have R5 := HR.out.later hbb
      have r0 := (R5.cell 0).trans (show _ = some (Value.int .u64 (hi n)) from rfl)
      have r1 := (R5.cell 1).trans (show _ = some (Value.int .u64 (lo n)) from rfl)
      have f0 := R5.frozen 0
      have f1 := R5.frozen 1
      have HR5 := Lib.hid R5
      have HZ5 := Lib.hid (HR0.out.later hbb)
      have HB5 := Lib.hid (below_step HB.out hbb)
      clear R5 HR HR0 HB hbb hb3 hb4 hb5
      go_wp2
      refine ⟨⟨4, by omega, by go_num, ?_, (HZ5.out.set_far _ _ (by dsimp only; omega)).set_far _ _ (by dsimp only; omega), (HB5.out.setCell (by dsimp only; omega) _).setCell (by dsimp only; omega) _⟩, by simp [intOf]⟩
      rw [show ofN f 4 = ofN f (0 + 1 + 1 + 1 + 1) from rfl, HN.out]
      simpa using (HR5.out.set 0 (.int .u64 (hi (65536 * n + f 3)))).set 1 (.int .u64 (lo (65536 * n + f 3)))
    · have hidx := idx8_4 (.int .u16 (f 0)) (.int .u16 (f 1)) (.int .u16 (f 2)) (.int .u16 (f 3)) (.int .u16 (f 4)) (.int .u16 (f 5)) (.int .u16 (f 6)) (.int .u16 (f 7)) wr
      have hp7 := pow_le7 (0 + 1 + 1 + 1 + 1) (by omega)
      have hn : ofN f (0 + 1 + 1 + 1 + 1 + 1) = 65536 * ofN f (0 + 1 + 1 + 1 + 1) + f 4 := rfl
      have HN := Lib.hid hn
      clear hn
      obtain ⟨y0, y1⟩ := hf 4
      have n0 := hrg.1
      have n1 : ofN f (0 + 1 + 1 + 1 + 1) < 5192296858534827628530496329220096 := Int.lt_of_lt_of_le hrg.2 hp7
      clear hrg hp7
      generalize ofN f (0 + 1 + 1 + 1 + 1) = n at *
      have r0 := (R.cell 0).trans (show _ = some (Value.int .u64 (hi n)) from rfl)
      have r1 := (R.cell 1).trans (show _ = some (Value.int .u64 (lo n)) from rfl)
      have HR := Lib.hid R
      have HR0 := Lib.hid R0
      have HB := Lib.hid hb
      clear R R0 hb
      go_wp2_with fail
      refine (left16 n wr).mono ?_
      rintro r w3 ⟨rfl, hb3⟩
      go_wp2_with fail
      refine (of16 (f 4) y0 y1 w3).mono ?_
      rintro r w4 ⟨rfl, hb4⟩
      go_wp2_with fail
      refine (orN n (f 4) n0 n1 y0 y1 w4).mono ?_
      rintro r w5 ⟨rfl, hb5⟩
      have hbb := below_step (below_step hb3 hb4) hb5
      have R5 := HR.out.later hbb
      have r0 := (R5.cell 0).trans (show _ = some (Value.int .u64 (hi n)) from rfl)
      have r1 := (R5.cell 1).trans (show _ = some (Value.int .u64 (lo n)) from rfl)
      have f0 := R5.frozen 0
      have f1 := R5.frozen 1
      have HR5 := Lib.hid R5
      have HZ5 := Lib.hid (HR0.out.later hbb)
      have HB5 := Lib.hid (below_step HB.out hbb)
      clear R5 HR HR0 HB hbb hb3 hb4 hb5
      go_wp2
      refine ⟨⟨5, by omega, by go_num, ?_, (HZ5.out.set_far _ _ (by dsimp only; omega)).set_far _ _ (by dsimp only; omega), (HB5.out.setCell (by dsimp only; omega) _).setCell (by dsimp only; omega) _⟩, by simp [intOf]⟩
      rw [show ofN f 5 = ofN f (0 + 1 + 1 + 1 + 1 + 1) from rfl, HN.out]
      simpa using (HR5.out.set 0 (.int .u64 (hi (65536 * n + f 4)))).set 1 (.int .u64 (lo (65536 * n + f 4)))
    · have hidx := idx8_5 (.int .u16 (f 0)) (.int .u16 (f 1)) (.int .u16 (f 2)) (.int .u16 (f 3)) (.int .u16 (f 4)) (.int .u16 (f 5)) (.int .u16 (f 6)) (.int .u16 (f 7)) wr
      have hp7 := pow_le7 (0 + 1 + 1 + 1 + 1 + 1) (by omega)
      have hn : ofN f (0 + 1 + 1 + 1 + 1 + 1 + 1) = 65536 * ofN f (0 + 1 + 1 + 1 + 1 + 1) + f 5 := rfl
      have HN := Lib.hid hn
      clear hn
      obtain ⟨y0, y1⟩ := hf 5
      have n0 := hrg.1
      have n1 : ofN f (0 + 1 + 1 + 1 + 1 + 1) < 5192296858534827628530496329220096 := Int.lt_of_lt_of_le hrg.2 hp7
      clear hrg hp7
      generalize ofN f (0 + 1 + 1 + 1 + 1 + 1) = n at *
      have r0 := (R.cell 0).trans (show _ = some (Value.int .u64 (hi n)) from rfl)
      have r1 := (R.cell 1).trans (show _ = some (Value.int .u64 (lo n)) from rfl)
      have HR := Lib.hid R
      have HR0 := Lib.hid R0
      have HB := Lib.hid hb
      clear R R0 hb
      go_wp2_with fail
      refine (left16 n wr).mono ?_
      rintro r w3 ⟨rfl, hb3⟩
      go_wp2_with fail
      refine (of16 (f 5) y0 y1 w3).mono ?_
      rintro r w4 ⟨rfl, hb4⟩
      go_wp2_with fail
      refine (orN n (f 5) n0 n1 y0 y1 w4).mono ?_
      rintro r w5 ⟨rfl, hb5⟩
      have hbb := below_step (below_step hb3 hb4) hb5
      have R5 := HR.out.later hbb
      have r0 := (R5.cell 0).trans (show _ = some (Value.int .u64 (hi n)) from rfl)
      have r1 := (R5.cell 1).trans (show _ = some (Value.int .u64 (lo n)) from rfl)
      have f0 := R5.frozen 0
      have f1 := R5.frozen 1
      have HR5 := Lib.hid R5
      have HZ5 := Lib.hid (HR0.out.later hbb)
      have HB5 := Lib.hid (below_step HB.out hbb)
      clear R5 HR HR0 HB hbb hb3 hb4 hb5
      go_wp2
      refine ⟨⟨6, by omega, by go_num, ?_, (HZ5.out.set_far _ _ (by dsimp only; omega)).set_far _ _ (by dsimp only; omega), (HB5.out.setCell (by dsimp only; omega) _).setCell (by dsimp only; omega) _⟩, by simp [intOf]⟩
      rw [show ofN f 6 = ofN f (0 + 1 + 1 + 1 + 1 + 1 + 1) from rfl, HN.out]
      simpa using (HR5.out.set 0 (.int .u64 (hi (65536 * n + f 5)))).set 1 (.int .u64 (lo (65536 * n + f 5)))
    · have hidx := idx8_6 (.int .u16 (f 0)) (.int .u16 (f 1)) (.int .u16 (f 2)) (.int .u16 (f 3)) (.int .u16 (f 4)) (.int .u16 (f 5)) (.int .u16 (f 6)) (.int .u16 (f 7)) wr
      have hp7 := pow_le7 (0 + 1 + 1 + 1 + 1 + 1 + 1) (by omega)
      have hn : ofN f (0 + 1 + 1 + 1 + 1 + 1 + 1 + 1) = 65536 * ofN f (0 + 1 + 1 + 1 + 1 + 1 + 1) + f 6 := rfl
      have HN := Lib.hid hn
      clear hn
      obtain ⟨y0, y1⟩ := hf 6
      have n0 := hrg.1
      have n1 : ofN f (0 + 1 + 1 + 1 + 1 + 1 + 1) < 5192296858534827628530496329220096 := Int.lt_of_lt_of_le hrg.2 hp7
      clear hrg hp7
      generalize ofN f (0 + 1 + 1 + 1 + 1 + 1 + 1) = n at *
      have r0 := (R.cell 0).trans (show _ = some (Value.int .u64 (hi n)) from rfl)
      have r1 := (R.cell 1).trans (show _ = some (Value.int .u64 (lo n)) from rfl)
      have HR := Lib.hid R
      have HR0 := Lib.hid R0
      have HB := Lib.hid hb
      clear R R0 hb
      go_wp2_with fail
      refine (left16 n wr).mono ?_
      rintro r w3 ⟨rfl, hb3⟩
      go_wp2_with fail
      refine (of16 (f 6) y0 y1 w3).mono ?_
      rintro r w4 ⟨rfl, hb4⟩
      go_wp2_with fail
      refine (orN n (f 6) n0 n1 y0 y1 w4).mono ?_
      rintro r w5 ⟨rfl, hb5⟩
      have hbb := below_step (below_step hb3 hb4) hb5
      have R5 := HR.out.later hbb
      have r0 := (R5.cell 0).trans (show _ = some (Value.int .u64 (hi n)) from rfl)
      have r1 := (R5.cell 1).trans (show _ = some (Value.int .u64 (lo n)) from rfl)
      have f0 := R5.frozen 0
      have f1 := R5.frozen 1
      have HR5 := Lib.hid R5
      have HZ5 := Lib.hid (HR0.out.later hbb)
      have HB5 := Lib.hid (below_step HB.out hbb)
      clear R5 HR HR0 HB hbb hb3 hb4 hb5
      go_wp2
      refine ⟨⟨7, by omega, by go_num, ?_, (HZ5.out.set_far _ _ (by dsimp only; omega)).set_far _ _ (by dsimp only; omega), (HB5.out.setCell (by dsimp only; omega) _).setCell (by dsimp only; omega) _⟩, by simp [intOf]⟩
      rw [show ofN f 7 = ofN f (0 + 1 + 1 + 1 + 1 + 1 + 1 + 1) from rfl, HN.out]
      simpa using (HR5.out.set 0 (.int .u64 (hi (65536 * n + f 6)))).set 1 (.int .u64 (lo (65536 * n + f 6)))
    · have hidx := idx8_7 (.int .u16 (f 0)) (.int .u16 (f 1)) (.int .u16 (f 2)) (.int .u16 (f 3)) (.int .u16 (f 4)) (.int .u16 (f 5)) (.int .u16 (f 6)) (.int .u16 (f 7)) wr
      have hp7 := pow_le7 (0 + 1 + 1 + 1 + 1 + 1 + 1 + 1) (by omega)
      have hn : ofN f (0 + 1 + 1 + 1 + 1 + 1 + 1 + 1 + 1) = 65536 * ofN f (0 + 1 + 1 + 1 + 1 + 1 + 1 + 1) + f 7 := rfl
      have HN := Lib.hid hn
      clear hn
      obtain ⟨y0, y1⟩ := hf 7
      have n0 := hrg.1
      have n1 : ofN f (0 + 1 + 1 + 1 + 1 + 1 + 1 + 1) < 5192296858534827628530496329220096 := Int.lt_of_lt_of_le hrg.2 hp7
      clear hrg hp7
      generalize ofN f (0 + 1 + 1 + 1 + 1 + 1 + 1 + 1) = n at *
      have r0 := (R.cell 0).trans (show _ = some (Value.int .u64 (hi n)) from rfl)
      have r1 := (R.cell 1).trans (show _ = some (Value.int .u64 (lo n)) from rfl)
      have HR := Lib.hid R
      have HR0 := Lib.hid R0
      have HB := Lib.hid hb
      clear R R0 hb
      go_wp2_with fail
      refine (left16 n wr).mono ?_
      rintro r w3 ⟨rfl, hb3⟩
      go_wp2_with fail
      refine (of16 (f 7) y0 y1 w3).mono ?_
      rintro r w4 ⟨rfl, hb4⟩
      go_wp2_with fail
      refine (orN n (f 7) n0 n1 y0 y1 w4).mono ?_
      rintro r w5 ⟨rfl, hb5⟩
      have hbb := below_step (below_step hb3 hb4) hb5
      have R5 := HR.out.later hbb
      have r0 := (R5.cell 0).trans (show _ = some (Value.int .u64 (hi n)) from rfl)
      have r1 := (R5.cell 1).trans (show _ = some (Value.int .u64 (lo n)) from rfl)
      have f0 := R5.frozen 0
      have f1 := R5.frozen 1
      have HR5 := Lib.hid R5
      have HZ5 := Lib.hid (HR0.out.later hbb)
      have HB5 := Lib.hid (below_step HB.out hbb)
      clear R5 HR HR0 HB hbb hb3 hb4 hb5
      go_wp2
      refine ⟨⟨8, by omega, by go_num, ?_, (HZ5.out.set_far _ _ (by dsimp only; omega)).set_far _ _ (by dsimp only; omega), (HB5.out.setCell (by dsimp only; omega) _).setCell (by dsimp only; omega) _⟩, by simp [intOf]⟩
      rw [show ofN f 8 = ofN f (0 + 1 + 1 + 1 + 1 + 1 + 1 + 1 + 1) from rfl, HN.out]
      simpa using (HR5.out.set 0 (.int .u64 (hi (65536 * n + f 7)))).set 1 (.int .u64 (lo (65536 * n + f 7)))
    · have r0 := (R.cell 0).trans (show _ = some (Value.int .u64 (hi (ofN f 8))) from rfl)
      have r1 := (R.cell 1).trans (show _ = some (Value.int .u64 (lo (ofN f 8))) from rfl)
      have q0 := (R0.cell 0).trans (show _ = some (Value.int .u64 0) from rfl)
      have q1 := (R0.cell 1).trans (show _ = some (Value.int .u64 0) from rfl)
      have f0 := R0.frozen 0
      have f1 := R0.frozen 1
      have HR0 := Lib.hid R0
      have HB := Lib.hid hb
      clear R R0 hb hrg
      go_wp2
      have Q2 := (HR0.out.set 0 (.int .u64 (hi (ofN f 8)))).set 1 (.int .u64 (lo (ofN f 8)))
      have s0 := (Q2.cell 0).trans (show _ = some (Value.int .u64 (hi (ofN f 8))) from rfl)
      have s1 := (Q2.cell 1).trans (show _ = some (Value.int .u64 (lo (ofN f 8))) from rfl)
      exact bodyPost_ret (v := .agg #[.int .u64 (hi (ofN f 8)), .int .u64 (lo (ofN f 8))]) (by simp only [results, Tryd.results26]; simp [go_sem, s0, s1]) rfl ⟨rfl, (HB.out.setCell (by dsimp only; omega) _).setCell (by dsimp only; omega) _⟩
    · omega
end Go.Proofs.YtkenkjdelhmaoaaDoor
