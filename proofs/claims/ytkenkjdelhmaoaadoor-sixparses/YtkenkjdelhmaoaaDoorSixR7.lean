/- The reference's Of of layer 4. No conditions beyond ranges. -/
import Derived.Test.YtkenkjdelhmaoaaDoorSixR6
namespace Go.Proofs.YtkenkjdelhmaoaaDoor
set_option linter.unusedVariables false
set_option linter.unusedSimpArgs false
open Go.RowKit
def sh4 (f : Nat → Int) (i : Nat) : Int := f (4 + i)
theorem ofN_half (f : Nat → Int) (hf : ∀ k, 0 ≤ f k ∧ f k ≤ 65535) : hi (ofN f 8) = ofN f 4 ∧ lo (ofN f 8) = ofN (sh4 f) 4 := by
  have h4 := ofN_range f hf 4
  have k4 := ofN_range (sh4 f) (fun k => hf (4 + k)) 4
  rw [show (65536 : Int) ^ 4 = 18446744073709551616 from rfl] at h4 k4
  have e : ofN f 8 = 18446744073709551616 * ofN f 4 + ofN (sh4 f) 4 := by
    have o4 : ofN f 5 = 65536 * ofN f 4 + f 4 := rfl
    have o5 : ofN f 6 = 65536 * ofN f 5 + f 5 := rfl
    have o6 : ofN f 7 = 65536 * ofN f 6 + f 6 := rfl
    have o7 : ofN f 8 = 65536 * ofN f 7 + f 7 := rfl
    have s0 : ofN (sh4 f) 1 = 65536 * ofN (sh4 f) 0 + f 4 := rfl
    have s1 : ofN (sh4 f) 2 = 65536 * ofN (sh4 f) 1 + f 5 := rfl
    have s2 : ofN (sh4 f) 3 = 65536 * ofN (sh4 f) 2 + f 6 := rfl
    have s3 : ofN (sh4 f) 4 = 65536 * ofN (sh4 f) 3 + f 7 := rfl
    have s : ofN (sh4 f) 0 = 0 := rfl
    omega
  unfold hi lo
  omega
set_option maxRecDepth 100000 in
set_option maxHeartbeats 3200000 in
theorem rof_t (f : Nat → Int) (hf : ∀ k, 0 ≤ f k ∧ f k ≤ 65535) (w : World) : Calls Tryd.prog 47 #[arr8 f] w fun e w' => e = .returned (.agg #[.int .u64 (hi (ofN f 8)), .int .u64 (lo (ofN f 8))]) ∧ Below w.heap.size w w' := by
  rw [(ofN_half f hf).1, (ofN_half f hf).2]
  unfold arr8
  go_enter Tryd.func47, Tryd.ntmps47
  go_wp2_with fail
  have Rg0 : Row (((w.alloc (.cells #[.int .u16 (f 0), .int .u16 (f 1), .int .u16 (f 2), .int .u16 (f 3), .int .u16 (f 4), .int .u16 (f 5), .int .u16 (f 6), .int .u16 (f 7)] 42)).alloc (.cells #[.int .u64 0, .int .u64 0] 47)).alloc (.cells #[.int .u64 0, .int .u64 0] 47)) w.heap.size #[.int .u16 (f 0), .int .u16 (f 1), .int .u16 (f 2), .int .u16 (f 3), .int .u16 (f 4), .int .u16 (f 5), .int .u16 (f 6), .int .u16 (f 7)] 42 := ((Row.new w _ _).alloc _).alloc _
  have Rr0 : Row (((w.alloc (.cells #[.int .u16 (f 0), .int .u16 (f 1), .int .u16 (f 2), .int .u16 (f 3), .int .u16 (f 4), .int .u16 (f 5), .int .u16 (f 6), .int .u16 (f 7)] 42)).alloc (.cells #[.int .u64 0, .int .u64 0] 47)).alloc (.cells #[.int .u64 0, .int .u64 0] 47)) (w.heap.size + 1) #[.int .u64 0, .int .u64 0] 47 := by simpa using (Row.new (w.alloc (.cells #[.int .u16 (f 0), .int .u16 (f 1), .int .u16 (f 2), .int .u16 (f 3), .int .u16 (f 4), .int .u16 (f 5), .int .u16 (f 6), .int .u16 (f 7)] 42)) #[.int .u64 0, .int .u64 0] 47).alloc (.cells #[.int .u64 0, .int .u64 0] 47)
  have Ra0 : Row (((w.alloc (.cells #[.int .u16 (f 0), .int .u16 (f 1), .int .u16 (f 2), .int .u16 (f 3), .int .u16 (f 4), .int .u16 (f 5), .int .u16 (f 6), .int .u16 (f 7)] 42)).alloc (.cells #[.int .u64 0, .int .u64 0] 47)).alloc (.cells #[.int .u64 0, .int .u64 0] 47)) (w.heap.size + 2) #[.int .u64 (ofN f 0), .int .u64 (ofN (sh4 f) 0)] 47 := by
    have h := Row.new ((w.alloc (.cells #[.int .u16 (f 0), .int .u16 (f 1), .int .u16 (f 2), .int .u16 (f 3), .int .u16 (f 4), .int .u16 (f 5), .int .u16 (f 6), .int .u16 (f 7)] 42)).alloc (.cells #[.int .u64 0, .int .u64 0] 47)) #[.int .u64 0, .int .u64 0] 47
    rw [show ((w.alloc (.cells #[.int .u16 (f 0), .int .u16 (f 1), .int .u16 (f 2), .int .u16 (f 3), .int .u16 (f 4), .int .u16 (f 5), .int .u16 (f 6), .int .u16 (f 7)] 42)).alloc (.cells #[.int .u64 0, .int .u64 0] 47)).heap.size = w.heap.size + 2 by simp] at h
    exact h
  have hb0 : Below w.heap.size w (((w.alloc (.cells #[.int .u16 (f 0), .int .u16 (f 1), .int .u16 (f 2), .int .u16 (f 3), .int .u16 (f 4), .int .u16 (f 5), .int .u16 (f 6), .int .u16 (f 7)] 42)).alloc (.cells #[.int .u64 0, .int .u64 0] 47)).alloc (.cells #[.int .u64 0, .int .u64 0] 47)) := (by repeat (first | exact Below.refl _ _ | assumption | (with_reducible refine Below.setCell ?_ ?h _; case h => first | omega | (simp; done) | (simp; omega)) | (with_reducible refine Below.alloc ?_ ?h _; case h => first | omega | (simp; done) | (simp; omega)) | (with_reducible refine Below.drew ?_) | (with_reducible refine Below.trans ?_ (hb4.mono ?h); case h => first | omega | (simp; done) | (simp; omega)) | (with_reducible refine Below.trans ?_ (hb3.mono ?h); case h => first | omega | (simp; done) | (simp; omega)) | (with_reducible refine Below.trans ?_ (hb2.mono ?h); case h => first | omega | (simp; done) | (simp; omega)) | (with_reducible refine Below.trans ?_ (hb.mono ?h); case h => first | omega | (simp; done) | (simp; omega)) | (with_reducible refine Below.trans ?_ (hb0.mono ?h); case h => first | omega | (simp; done) | (simp; omega))))
  generalize ((w.alloc (.cells #[.int .u16 (f 0), .int .u16 (f 1), .int .u16 (f 2), .int .u16 (f 3), .int .u16 (f 4), .int .u16 (f 5), .int .u16 (f 6), .int .u16 (f 7)] 42)).alloc (.cells #[.int .u64 0, .int .u64 0] 47)).alloc (.cells #[.int .u64 0, .int .u64 0] 47) = w0 at *
  go_loopw [4] (fun i wr => ∃ (j : Nat), j ≤ 4 ∧ i = .int .i64 j ∧ Row wr w.heap.size #[.int .u16 (f 0), .int .u16 (f 1), .int .u16 (f 2), .int .u16 (f 3), .int .u16 (f 4), .int .u16 (f 5), .int .u16 (f 6), .int .u16 (f 7)] 42 ∧ Row wr (w.heap.size + 1) #[.int .u64 0, .int .u64 0] 47 ∧ Row wr (w.heap.size + 2) #[.int .u64 (ofN f j), .int .u64 (ofN (sh4 f) j)] 47 ∧ Below w.heap.size w wr) (fun i _ => 4 - (intOf i).toNat)
  case atStart => exact ⟨0, by omega, rfl, Rg0, Rr0, Ra0, hb0⟩
  case round =>
    clear Rg0 Rr0 Ra0 hb0
    obtain ⟨j, hj, rfl, Rg, Rr, Ra, hb⟩ := hrel
    rcases j with _ | _ | _ | _ | _ | j
    · replace Ra : Row wr (w.heap.size + 2) #[.int .u64 (ofN f 0), .int .u64 (ofN (sh4 f) 0)] 47 := Ra
      have x0 := (Ra.cell 0).trans (show _ = some (Value.int .u64 (ofN f 0)) from rfl)
      have x1 := (Ra.cell 1).trans (show _ = some (Value.int .u64 (ofN (sh4 f) 0)) from rfl)
      have xf0 := Ra.frozen 0
      have xf1 := Ra.frozen 1
      have g0 := (Rg.cell 0).trans (show _ = some (Value.int .u16 (f 0)) from rfl)
      have g1 := (Rg.cell 4).trans (show _ = some (Value.int .u16 (f 4)) from rfl)
      have HX1 : Hid (ofN f 1 = 65536 * ofN f 0 + f 0) := Lib.hid rfl
      have HY1 : Hid (ofN (sh4 f) 1 = 65536 * ofN (sh4 f) 0 + f 4) := Lib.hid rfl
      have rx := ofN_range f hf 0
      have ry := ofN_range (sh4 f) (fun k => hf (4 + k)) 0
      have y0 := hf 0
      have y1 := hf 4
      rw [show (65536 : Int) ^ 0 = 1 from rfl] at rx ry
      have HG := Lib.hid Rg
      have HR := Lib.hid Rr
      have HA := Lib.hid Ra
      have HB := Lib.hid hb
      have HF := Lib.hid hf
      clear Rg Rr Ra hb hf
      generalize ofN f 0 = x at *
      generalize ofN (sh4 f) 0 = y at *
      generalize f 0 = u at *
      generalize f 4 = v at *
      have wx : IntKind.u64.wrap (65536 * x) = 65536 * x := by simp [IntKind.wrap, IntKind.bits, IntKind.signed]; omega
      have wy : IntKind.u64.wrap (65536 * y) = 65536 * y := by simp [IntKind.wrap, IntKind.bits, IntKind.signed]; omega
      have wu : IntKind.u64.wrap u = u := by simp [IntKind.wrap, IntKind.bits, IntKind.signed]; omega
      have wv : IntKind.u64.wrap v = v := by simp [IntKind.wrap, IntKind.bits, IntKind.signed]; omega
      have wxu : IntKind.u64.wrap (65536 * x + u) = 65536 * x + u := by simp [IntKind.wrap, IntKind.bits, IntKind.signed]; omega
      have wyv : IntKind.u64.wrap (65536 * y + v) = 65536 * y + v := by simp [IntKind.wrap, IntKind.bits, IntKind.signed]; omega
      go_wp2_with fail
      go_region
      go_wp2
      refine ⟨⟨1, by omega, by go_num, ((HG.out.set_far _ _ (by dsimp only; omega)).set_far _ _ (by dsimp only; omega)).drew, ((HR.out.set_far _ _ (by dsimp only; omega)).set_far _ _ (by dsimp only; omega)).drew, ?_, ((HB.out.setCell (by dsimp only; omega) _).setCell (by dsimp only; omega) _).drew⟩, by simp [intOf]⟩
      have h := ((HA.out.set 0 (.int .u64 (65536 * x + u))).set 1 (.int .u64 (65536 * y + v))).drew
      show Row _ _ #[.int .u64 (ofN f 1), .int .u64 (ofN (sh4 f) 1)] _
      rw [HX1.out, HY1.out]
      simpa using h
    · replace Ra : Row wr (w.heap.size + 2) #[.int .u64 (ofN f 1), .int .u64 (ofN (sh4 f) 1)] 47 := Ra
      have x0 := (Ra.cell 0).trans (show _ = some (Value.int .u64 (ofN f 1)) from rfl)
      have x1 := (Ra.cell 1).trans (show _ = some (Value.int .u64 (ofN (sh4 f) 1)) from rfl)
      have xf0 := Ra.frozen 0
      have xf1 := Ra.frozen 1
      have g0 := (Rg.cell 1).trans (show _ = some (Value.int .u16 (f 1)) from rfl)
      have g1 := (Rg.cell 5).trans (show _ = some (Value.int .u16 (f 5)) from rfl)
      have HX1 : Hid (ofN f 2 = 65536 * ofN f 1 + f 1) := Lib.hid rfl
      have HY1 : Hid (ofN (sh4 f) 2 = 65536 * ofN (sh4 f) 1 + f 5) := Lib.hid rfl
      have rx := ofN_range f hf 1
      have ry := ofN_range (sh4 f) (fun k => hf (4 + k)) 1
      have y0 := hf 1
      have y1 := hf 5
      rw [show (65536 : Int) ^ 1 = 65536 from rfl] at rx ry
      have HG := Lib.hid Rg
      have HR := Lib.hid Rr
      have HA := Lib.hid Ra
      have HB := Lib.hid hb
      have HF := Lib.hid hf
      clear Rg Rr Ra hb hf
      generalize ofN f 1 = x at *
      generalize ofN (sh4 f) 1 = y at *
      generalize f 1 = u at *
      generalize f 5 = v at *
      have wx : IntKind.u64.wrap (65536 * x) = 65536 * x := by simp [IntKind.wrap, IntKind.bits, IntKind.signed]; omega
      have wy : IntKind.u64.wrap (65536 * y) = 65536 * y := by simp [IntKind.wrap, IntKind.bits, IntKind.signed]; omega
      have wu : IntKind.u64.wrap u = u := by simp [IntKind.wrap, IntKind.bits, IntKind.signed]; omega
      have wv : IntKind.u64.wrap v = v := by simp [IntKind.wrap, IntKind.bits, IntKind.signed]; omega
      have wxu : IntKind.u64.wrap (65536 * x + u) = 65536 * x + u := by simp [IntKind.wrap, IntKind.bits, IntKind.signed]; omega
      have wyv : IntKind.u64.wrap (65536 * y + v) = 65536 * y + v := by simp [IntKind.wrap, IntKind.bits, IntKind.signed]; omega
      go_wp2_with fail
      go_region
      go_wp2
      refine ⟨⟨2, by omega, by go_num, ((HG.out.set_far _ _ (by dsimp only; omega)).set_far _ _ (by dsimp only; omega)).drew, ((HR.out.set_far _ _ (by dsimp only; omega)).set_far _ _ (by dsimp only; omega)).drew, ?_, ((HB.out.setCell (by dsimp only; omega) _).setCell (by dsimp only; omega) _).drew⟩, by simp [intOf]⟩
      have h := ((HA.out.set 0 (.int .u64 (65536 * x + u))).set 1 (.int .u64 (65536 * y + v))).drew
      show Row _ _ #[.int .u64 (ofN f 2), .int .u64 (ofN (sh4 f) 2)] _
      rw [HX1.out, HY1.out]
      simpa using h
    · replace Ra : Row wr (w.heap.size + 2) #[.int .u64 (ofN f 2), .int .u64 (ofN (sh4 f) 2)] 47 := Ra
      have x0 := (Ra.cell 0).trans (show _ = some (Value.int .u64 (ofN f 2)) from rfl)
      have x1 := (Ra.cell 1).trans (show _ = some (Value.int .u64 (ofN (sh4 f) 2)) from rfl)
      have xf0 := Ra.frozen 0
      have xf1 := Ra.frozen 1
      have g0 := (Rg.cell 2).trans (show _ = some (Value.int .u16 (f 2)) from rfl)
      have g1 := (Rg.cell 6).trans (show _ = some (Value.int .u16 (f 6)) from rfl)
      have HX1 : Hid (ofN f 3 = 65536 * ofN f 2 + f 2) := Lib.hid rfl
      have HY1 : Hid (ofN (sh4 f) 3 = 65536 * ofN (sh4 f) 2 + f 6) := Lib.hid rfl
      have rx := ofN_range f hf 2
      have ry := ofN_range (sh4 f) (fun k => hf (4 + k)) 2
      have y0 := hf 2
      have y1 := hf 6
      rw [show (65536 : Int) ^ 2 = 4294967296 from rfl] at rx ry
      have HG := Lib.hid Rg
      have HR := Lib.hid Rr
      have HA := Lib.hid Ra
      have HB := Lib.hid hb
      have HF := Lib.hid hf
      clear Rg Rr Ra hb hf
      generalize ofN f 2 = x at *
      generalize ofN (sh4 f) 2 = y at *
      generalize f 2 = u at *
      generalize f 6 = v at *
      have wx : IntKind.u64.wrap (65536 * x) = 65536 * x := by simp [IntKind.wrap, IntKind.bits, IntKind.signed]; omega
      have wy : IntKind.u64.wrap (65536 * y) = 65536 * y := by simp [IntKind.wrap, IntKind.bits, IntKind.signed]; omega
      have wu : IntKind.u64.wrap u = u := by simp [IntKind.wrap, IntKind.bits, IntKind.signed]; omega
      have wv : IntKind.u64.wrap v = v := by simp [IntKind.wrap, IntKind.bits, IntKind.signed]; omega
      have wxu : IntKind.u64.wrap (65536 * x + u) = 65536 * x + u := by simp [IntKind.wrap, IntKind.bits, IntKind.signed]; omega
      have wyv : IntKind.u64.wrap (65536 * y + v) = 65536 * y + v := by simp [IntKind.wrap, IntKind.bits, IntKind.signed]; omega
      go_wp2_with fail
      go_region
      go_wp2
      refine ⟨⟨3, by omega, by go_num, ((HG.out.set_far _ _ (by dsimp only; omega)).set_far _ _ (by dsimp only; omega)).drew, ((HR.out.set_far _ _ (by dsimp only; omega)).set_far _ _ (by dsimp only; omega)).drew, ?_, ((HB.out.setCell (by dsimp only; omega) _).setCell (by dsimp only; omega) _).drew⟩, by simp [intOf]⟩
      have h := ((HA.out.set 0 (.int .u64 (65536 * x + u))).set 1 (.int .u64 (65536 * y + v))).drew
      show Row _ _ #[.int .u64 (ofN f 3), .int .u64 (ofN (sh4 f) 3)] _
      rw [HX1.out, HY1.out]
      simpa using h
    · replace Ra : Row wr (w.heap.size + 2) #[.int .u64 (ofN f 3), .int .u64 (ofN (sh4 f) 3)] 47 := Ra
      have x0 := (Ra.cell 0).trans (show _ = some (Value.int .u64 (ofN f 3)) from rfl)
      have x1 := (Ra.cell 1).trans (show _ = some (Value.int .u64 (ofN (sh4 f) 3)) from rfl)
      have xf0 := Ra.frozen 0
      have xf1 := Ra.frozen 1
      have g0 := (Rg.cell 3).trans (show _ = some (Value.int .u16 (f 3)) from rfl)
      have g1 := (Rg.cell 7).trans (show _ = some (Value.int .u16 (f 7)) from rfl)
      have HX1 : Hid (ofN f 4 = 65536 * ofN f 3 + f 3) := Lib.hid rfl
      have HY1 : Hid (ofN (sh4 f) 4 = 65536 * ofN (sh4 f) 3 + f 7) := Lib.hid rfl
      have rx := ofN_range f hf 3
      have ry := ofN_range (sh4 f) (fun k => hf (4 + k)) 3
      have y0 := hf 3
      have y1 := hf 7
      rw [show (65536 : Int) ^ 3 = 281474976710656 from rfl] at rx ry
      have HG := Lib.hid Rg
      have HR := Lib.hid Rr
      have HA := Lib.hid Ra
      have HB := Lib.hid hb
      have HF := Lib.hid hf
      clear Rg Rr Ra hb hf
      generalize ofN f 3 = x at *
      generalize ofN (sh4 f) 3 = y at *
      generalize f 3 = u at *
      generalize f 7 = v at *
      have wx : IntKind.u64.wrap (65536 * x) = 65536 * x := by simp [IntKind.wrap, IntKind.bits, IntKind.signed]; omega
      have wy : IntKind.u64.wrap (65536 * y) = 65536 * y := by simp [IntKind.wrap, IntKind.bits, IntKind.signed]; omega
      have wu : IntKind.u64.wrap u = u := by simp [IntKind.wrap, IntKind.bits, IntKind.signed]; omega
      have wv : IntKind.u64.wrap v = v := by simp [IntKind.wrap, IntKind.bits, IntKind.signed]; omega
      have wxu : IntKind.u64.wrap (65536 * x + u) = 65536 * x + u := by simp [IntKind.wrap, IntKind.bits, IntKind.signed]; omega
      have wyv : IntKind.u64.wrap (65536 * y + v) = 65536 * y + v := by simp [IntKind.wrap, IntKind.bits, IntKind.signed]; omega
      go_wp2_with fail
      go_region
      go_wp2
      refine ⟨⟨4, by omega, by go_num, ((HG.out.set_far _ _ (by dsimp only; omega)).set_far _ _ (by dsimp only; omega)).drew, ((HR.out.set_far _ _ (by dsimp only; omega)).set_far _ _ (by dsimp only; omega)).drew, ?_, ((HB.out.setCell (by dsimp only; omega) _).setCell (by dsimp only; omega) _).drew⟩, by simp [intOf]⟩
      have h := ((HA.out.set 0 (.int .u64 (65536 * x + u))).set 1 (.int .u64 (65536 * y + v))).drew
      show Row _ _ #[.int .u64 (ofN f 4), .int .u64 (ofN (sh4 f) 4)] _
      rw [HX1.out, HY1.out]
      simpa using h
    · replace Ra : Row wr (w.heap.size + 2) #[.int .u64 (ofN f 4), .int .u64 (ofN (sh4 f) 4)] 47 := Ra
      have x0 := (Ra.cell 0).trans (show _ = some (Value.int .u64 (ofN f 4)) from rfl)
      have x1 := (Ra.cell 1).trans (show _ = some (Value.int .u64 (ofN (sh4 f) 4)) from rfl)
      have r0 := (Rr.cell 0).trans (show _ = some (Value.int .u64 0) from rfl)
      have r1 := (Rr.cell 1).trans (show _ = some (Value.int .u64 0) from rfl)
      have f0 := Rr.frozen 0
      have f1 := Rr.frozen 1
      have HR := Lib.hid Rr
      have HB := Lib.hid hb
      clear Rg Rr Ra hb hf
      generalize hx4 : ofN f 4 = x at *
      generalize hy4 : ofN (sh4 f) 4 = y at *
      have HX4 := Lib.hid hx4
      have HY4 := Lib.hid hy4
      clear hx4 hy4
      go_wp2
      have Q := (HR.out.set 0 (.int .u64 x)).set 1 (.int .u64 y)
      have s0 := (Q.cell 0).trans (show _ = some (Value.int .u64 x) from rfl)
      have s1 := (Q.cell 1).trans (show _ = some (Value.int .u64 y) from rfl)
      clear r0 r1
      exact bodyPost_ret (v := .agg #[.int .u64 x, .int .u64 y]) (by simp only [results, Tryd.results47]; simp [go_sem, s0, s1]) rfl ⟨by rw [HX4.out, HY4.out], (HB.out.setCell (p := ⟨w.heap.size + 1, 0, none⟩) (by dsimp only; omega) _).setCell (p := ⟨w.heap.size + 1, 1, none⟩) (by dsimp only; omega) _⟩
    · omega
end Go.Proofs.YtkenkjdelhmaoaaDoor
