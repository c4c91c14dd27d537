/- SixR7, SixR8, RA, N1, N2, N3, N4, N5, N6, N7, Lab1, RangeN, Lab2: what the theorem needs of these texts. No conditions beyond those that are written. -/
import Derived.Test.YtboinifeemghaaaGreatDoorCJSix11
set_option linter.unusedSimpArgs false
set_option linter.unusedVariables false
set_option maxHeartbeats 4000000
set_option maxRecDepth 100000
namespace Go.Proofs.YtboinifeemghaaaGreatDoor
open Go.RowKit
def sh4 (f : Nat → Int) (i : Nat) : Int := f (4 + i)
theorem ofN_half (f : Nat → Int) (hf : ∀ k, 0 ≤ f k ∧ f k ≤ 65535) : hi (ofN f 8) = ofN f 4 ∧ lo (ofN f 8) = ofN (sh4 f) 4 := by
 have h4 := ofN_range f hf 4
 have k4 := ofN_range (sh4 f) (fun k => hf (4 + k)) 4
 rw [show (65536 : Int) ^ 4 = 18446744073709551616 from rfl] at h4 k4
 have e : ofN f 8 = 18446744073709551616 * ofN f 4 + ofN (sh4 f) 4 := by
  have o4 : ofN f 5 = 65536 * ofN f 4 + f 4 := rfl
  have o5 : ofN f 6 = 65536 * ofN f 5 + f 5 := rfl
  have o6 : ofN f 7 = 65536 * ofN f 6 + f 6 := rfl
  have o7 : ofN f 8 = 65536 * ofN f 7 + f 7 := rfl
  have s0 : ofN (sh4 f) 1 = 65536 * ofN (sh4 f) 0 + f 4 := rfl
  have s1 : ofN (sh4 f) 2 = 65536 * ofN (sh4 f) 1 + f 5 := rfl
  have s2 : ofN (sh4 f) 3 = 65536 * ofN (sh4 f) 2 + f 6 := rfl
  have s3 : ofN (sh4 f) 4 = 65536 * ofN (sh4 f) 3 + f 7 := rfl
  have s : ofN (sh4 f) 0 = 0 := rfl
  omega
 unfold hi lo
 omega
theorem rof_t (f : Nat → Int) (hf : ∀ k, 0 ≤ f k ∧ f k ≤ 65535) (w : World) : Calls Tryz.prog 107 #[arr8 f] w fun e w' => e = .returned (.agg #[.int .u64 (hi (ofN f 8)), .int .u64 (lo (ofN f 8))]) ∧ Below w.heap.size w w' := by
 rw [(ofN_half f hf).1, (ofN_half f hf).2]
 unfold arr8
 go_enter Tryz.func107, Tryz.ntmps107
 go_wp2_with fail
 have Rg0 : Row (((w.alloc (.cells #[.int .u16 (f 0), .int .u16 (f 1), .int .u16 (f 2), .int .u16 (f 3), .int .u16 (f 4), .int .u16 (f 5), .int .u16 (f 6), .int .u16 (f 7)] 107)).alloc (.cells #[.int .u64 0, .int .u64 0] 75)).alloc (.cells #[.int .u64 0, .int .u64 0] 75)) w.heap.size #[.int .u16 (f 0), .int .u16 (f 1), .int .u16 (f 2), .int .u16 (f 3), .int .u16 (f 4), .int .u16 (f 5), .int .u16 (f 6), .int .u16 (f 7)] 107 := ((Row.new w _ _).alloc _).alloc _
 have Rr0 : Row (((w.alloc (.cells #[.int .u16 (f 0), .int .u16 (f 1), .int .u16 (f 2), .int .u16 (f 3), .int .u16 (f 4), .int .u16 (f 5), .int .u16 (f 6), .int .u16 (f 7)] 107)).alloc (.cells #[.int .u64 0, .int .u64 0] 75)).alloc (.cells #[.int .u64 0, .int .u64 0] 75)) (w.heap.size + 1) #[.int .u64 0, .int .u64 0] 75 := by simpa using (Row.new (w.alloc (.cells #[.int .u16 (f 0), .int .u16 (f 1), .int .u16 (f 2), .int .u16 (f 3), .int .u16 (f 4), .int .u16 (f 5), .int .u16 (f 6), .int .u16 (f 7)] 107)) #[.int .u64 0, .int .u64 0] 75).alloc (.cells #[.int .u64 0, .int .u64 0] 75)
 have Ra0 : Row (((w.alloc (.cells #[.int .u16 (f 0), .int .u16 (f 1), .int .u16 (f 2), .int .u16 (f 3), .int .u16 (f 4), .int .u16 (f 5), .int .u16 (f 6), .int .u16 (f 7)] 107)).alloc (.cells #[.int .u64 0, .int .u64 0] 75)).alloc (.cells #[.int .u64 0, .int .u64 0] 75)) (w.heap.size + 2) #[.int .u64 (ofN f 0), .int .u64 (ofN (sh4 f) 0)] 75 := by
  have h := Row.new ((w.alloc (.cells #[.int .u16 (f 0), .int .u16 (f 1), .int .u16 (f 2), .int .u16 (f 3), .int .u16 (f 4), .int .u16 (f 5), .int .u16 (f 6), .int .u16 (f 7)] 107)).alloc (.cells #[.int .u64 0, .int .u64 0] 75)) #[.int .u64 0, .int .u64 0] 75
  rw [show ((w.alloc (.cells #[.int .u16 (f 0), .int .u16 (f 1), .int .u16 (f 2), .int .u16 (f 3), .int .u16 (f 4), .int .u16 (f 5), .int .u16 (f 6), .int .u16 (f 7)] 107)).alloc (.cells #[.int .u64 0, .int .u64 0] 75)).heap.size = w.heap.size + 2 by simp] at h
  exact h
 have hb0 : Below w.heap.size w (((w.alloc (.cells #[.int .u16 (f 0), .int .u16 (f 1), .int .u16 (f 2), .int .u16 (f 3), .int .u16 (f 4), .int .u16 (f 5), .int .u16 (f 6), .int .u16 (f 7)] 107)).alloc (.cells #[.int .u64 0, .int .u64 0] 75)).alloc (.cells #[.int .u64 0, .int .u64 0] 75)) := (by repeat (first | exact Below.refl _ _ | assumption | (with_reducible refine Below.drew ?_) | ((with_reducible first | refine Below.setCell ?_ ?h _ | refine Below.alloc ?_ ?h _ | refine Below.trans ?_ (hb.mono ?h) | refine Below.trans ?_ (hb0.mono ?h)); case h => first | omega | (simp; done) | (simp; omega))))
 generalize ((w.alloc (.cells #[.int .u16 (f 0), .int .u16 (f 1), .int .u16 (f 2), .int .u16 (f 3), .int .u16 (f 4), .int .u16 (f 5), .int .u16 (f 6), .int .u16 (f 7)] 107)).alloc (.cells #[.int .u64 0, .int .u64 0] 75)).alloc (.cells #[.int .u64 0, .int .u64 0] 75) = w0 at *
 go_loopw [4] (fun i wr => ∃ (j : Nat), j ≤ 4 ∧ i = .int .i64 j ∧ Row wr w.heap.size #[.int .u16 (f 0), .int .u16 (f 1), .int .u16 (f 2), .int .u16 (f 3), .int .u16 (f 4), .int .u16 (f 5), .int .u16 (f 6), .int .u16 (f 7)] 107 ∧ Row wr (w.heap.size + 1) #[.int .u64 0, .int .u64 0] 75 ∧ Row wr (w.heap.size + 2) #[.int .u64 (ofN f j), .int .u64 (ofN (sh4 f) j)] 75 ∧ Below w.heap.size w wr) (fun i _ => 4 - (intOf i).toNat)
 case atStart => exact ⟨0, by omega, rfl, Rg0, Rr0, Ra0, hb0⟩
 case round =>
  clear Rg0 Rr0 Ra0 hb0
  obtain ⟨j, hj, rfl, Rg, Rr, Ra, hb⟩ := hrel
  rcases j with _ | _ | _ | _ | _ | j
  ·replace Ra : Row wr (w.heap.size + 2) #[.int .u64 (ofN f 0), .int .u64 (ofN (sh4 f) 0)] 75 := Ra
   have x0 := (Ra.cell 0).trans (show _ = some (Value.int .u64 (ofN f 0)) from rfl)
   have x1 := (Ra.cell 1).trans (show _ = some (Value.int .u64 (ofN (sh4 f) 0)) from rfl)
   have xf0 := Ra.frozen 0
   have xf1 := Ra.frozen 1
   have g0 := (Rg.cell 0).trans (show _ = some (Value.int .u16 (f 0)) from rfl)
   have g1 := (Rg.cell 4).trans (show _ = some (Value.int .u16 (f 4)) from rfl)
   have HX1 : Hid (ofN f 1 = 65536 * ofN f 0 + f 0) := Lib.hid rfl
   have HY1 : Hid (ofN (sh4 f) 1 = 65536 * ofN (sh4 f) 0 + f 4) := Lib.hid rfl
   have rx := ofN_range f hf 0
   have ry := ofN_range (sh4 f) (fun k => hf (4 + k)) 0
   have y0 := hf 0
   have y1 := hf 4
   rw [show (65536 : Int) ^ 0 = 1 from rfl] at rx ry
   have HG := Lib.hid Rg
   have HR := Lib.hid Rr
   have HA := Lib.hid Ra
   have HB := Lib.hid hb
   have HF := Lib.hid hf
   clear Rg Rr Ra hb hf
   generalize ofN f 0 = x at *
   generalize ofN (sh4 f) 0 = y at *
   generalize f 0 = u at *
   generalize f 4 = v at *
   have wx : IntKind.u64.wrap (65536 * x) = 65536 * x := by simp [IntKind.wrap, IntKind.bits, IntKind.signed]; omega
   have wy : IntKind.u64.wrap (65536 * y) = 65536 * y := by simp [IntKind.wrap, IntKind.bits, IntKind.signed]; omega
   have wu : IntKind.u64.wrap u = u := by simp [IntKind.wrap, IntKind.bits, IntKind.signed]; omega
   have wv : IntKind.u64.wrap v = v := by simp [IntKind.wrap, IntKind.bits, IntKind.signed]; omega
   have wxu : IntKind.u64.wrap (65536 * x + u) = 65536 * x + u := by simp [IntKind.wrap, IntKind.bits, IntKind.signed]; omega
   have wyv : IntKind.u64.wrap (65536 * y + v) = 65536 * y + v := by simp [IntKind.wrap, IntKind.bits, IntKind.signed]; omega
   go_wp2_with fail
   go_region
   go_wp2
   refine ⟨⟨1, by omega, by go_num, ((HG.out.set_far _ _ (by dsimp only; omega)).set_far _ _ (by dsimp only; omega)).drew, ((HR.out.set_far _ _ (by dsimp only; omega)).set_far _ _ (by dsimp only; omega)).drew, ?_, ((HB.out.setCell (by dsimp only; omega) _).setCell (by dsimp only; omega) _).drew⟩, by simp [intOf]⟩
   have h := ((HA.out.set 0 (.int .u64 (65536 * x + u))).set 1 (.int .u64 (65536 * y + v))).drew
   show Row _ _ #[.int .u64 (ofN f 1), .int .u64 (ofN (sh4 f) 1)] _
   rw [HX1.out, HY1.out]
   simpa using h
  ·replace Ra : Row wr (w.heap.size + 2) #[.int .u64 (ofN f 1), .int .u64 (ofN (sh4 f) 1)] 75 := Ra
   have x0 := (Ra.cell 0).trans (show _ = some (Value.int .u64 (ofN f 1)) from rfl)
   have x1 := (Ra.cell 1).trans (show _ = some (Value.int .u64 (ofN (sh4 f) 1)) from rfl)
   have xf0 := Ra.frozen 0
   have xf1 := Ra.frozen 1
   have g0 := (Rg.cell 1).trans (show _ = some (Value.int .u16 (f 1)) from rfl)
   have g1 := (Rg.cell 5).trans (show _ = some (Value.int .u16 (f 5)) from rfl)
   have HX1 : Hid (ofN f 2 = 65536 * ofN f 1 + f 1) := Lib.hid rfl
   have HY1 : Hid (ofN (sh4 f) 2 = 65536 * ofN (sh4 f) 1 + f 5) := Lib.hid rfl
   have rx := ofN_range f hf 1
   have ry := ofN_range (sh4 f) (fun k => hf (4 + k)) 1
   have y0 := hf 1
   have y1 := hf 5
   rw [show (65536 : Int) ^ 1 = 65536 from rfl] at rx ry
   have HG := Lib.hid Rg
   have HR := Lib.hid Rr
   have HA := Lib.hid Ra
   have HB := Lib.hid hb
   have HF := Lib.hid hf
   clear Rg Rr Ra hb hf
   generalize ofN f 1 = x at *
   generalize ofN (sh4 f) 1 = y at *
   generalize f 1 = u at *
   generalize f 5 = v at *
   have wx : IntKind.u64.wrap (65536 * x) = 65536 * x := by simp [IntKind.wrap, IntKind.bits, IntKind.signed]; omega
   have wy : IntKind.u64.wrap (65536 * y) = 65536 * y := by simp [IntKind.wrap, IntKind.bits, IntKind.signed]; omega
   have wu : IntKind.u64.wrap u = u := by simp [IntKind.wrap, IntKind.bits, IntKind.signed]; omega
   have wv : IntKind.u64.wrap v = v := by simp [IntKind.wrap, IntKind.bits, IntKind.signed]; omega
   have wxu : IntKind.u64.wrap (65536 * x + u) = 65536 * x + u := by simp [IntKind.wrap, IntKind.bits, IntKind.signed]; omega
   have wyv : IntKind.u64.wrap (65536 * y + v) = 65536 * y + v := by simp [IntKind.wrap, IntKind.bits, IntKind.signed]; omega
   go_wp2_with fail
   go_region
   go_wp2
   refine ⟨⟨2, by omega, by go_num, ((HG.out.set_far _ _ (by dsimp only; omega)).set_far _ _ (by dsimp only; omega)).drew, ((HR.out.set_far _ _ (by dsimp only; omega)).set_far _ _ (by dsimp only; omega)).drew, ?_, ((HB.out.setCell (by dsimp only; omega) _).setCell (by dsimp only; omega) _).drew⟩, by simp [intOf]⟩
   have h := ((HA.out.set 0 (.int .u64 (65536 * x + u))).set 1 (.int .u64 (65536 * y + v))).drew
   show Row _ _ #[.int .u64 (ofN f 2), .int .u64 (ofN (sh4 f) 2)] _
   rw [HX1.out, HY1.out]
   simpa using h
  ·replace Ra : Row wr (w.heap.size + 2) #[.int .u64 (ofN f 2), .int .u64 (ofN (sh4 f) 2)] 75 := Ra
   have x0 := (Ra.cell 0).trans (show _ = some (Value.int .u64 (ofN f 2)) from rfl)
   have x1 := (Ra.cell 1).trans (show _ = some (Value.int .u64 (ofN (sh4 f) 2)) from rfl)
   have xf0 := Ra.frozen 0
   have xf1 := Ra.frozen 1
   have g0 := (Rg.cell 2).trans (show _ = some (Value.int .u16 (f 2)) from rfl)
   have g1 := (Rg.cell 6).trans (show _ = some (Value.int .u16 (f 6)) from rfl)
   have HX1 : Hid (ofN f 3 = 65536 * ofN f 2 + f 2) := Lib.hid rfl
   have HY1 : Hid (ofN (sh4 f) 3 = 65536 * ofN (sh4 f) 2 + f 6) := Lib.hid rfl
   have rx := ofN_range f hf 2
   have ry := ofN_range (sh4 f) (fun k => hf (4 + k)) 2
   have y0 := hf 2
   have y1 := hf 6
   rw [show (65536 : Int) ^ 2 = 4294967296 from rfl] at rx ry
   have HG := Lib.hid Rg
   have HR := Lib.hid Rr
   have HA := Lib.hid Ra
   have HB := Lib.hid hb
   have HF := Lib.hid hf
   clear Rg Rr Ra hb hf
   generalize ofN f 2 = x at *
   generalize ofN (sh4 f) 2 = y at *
   generalize f 2 = u at *
   generalize f 6 = v at *
   have wx : IntKind.u64.wrap (65536 * x) = 65536 * x := by simp [IntKind.wrap, IntKind.bits, IntKind.signed]; omega
   have wy : IntKind.u64.wrap (65536 * y) = 65536 * y := by simp [IntKind.wrap, IntKind.bits, IntKind.signed]; omega
   have wu : IntKind.u64.wrap u = u := by simp [IntKind.wrap, IntKind.bits, IntKind.signed]; omega
   have wv : IntKind.u64.wrap v = v := by simp [IntKind.wrap, IntKind.bits, IntKind.signed]; omega
   have wxu : IntKind.u64.wrap (65536 * x + u) = 65536 * x + u := by simp [IntKind.wrap, IntKind.bits, IntKind.signed]; omega
   have wyv : IntKind.u64.wrap (65536 * y + v) = 65536 * y + v := by simp [IntKind.wrap, IntKind.bits, IntKind.signed]; omega
   go_wp2_with fail
   go_region
   go_wp2
   refine ⟨⟨3, by omega, by go_num, ((HG.out.set_far _ _ (by dsimp only; omega)).set_far _ _ (by dsimp only; omega)).drew, ((HR.out.set_far _ _ (by dsimp only; omega)).set_far _ _ (by dsimp only; omega)).drew, ?_, ((HB.out.setCell (by dsimp only; omega) _).setCell (by dsimp only; omega) _).drew⟩, by simp [intOf]⟩
   have h := ((HA.out.set 0 (.int .u64 (65536 * x + u))).set 1 (.int .u64 (65536 * y + v))).drew
   show Row _ _ #[.int .u64 (ofN f 3), .int .u64 (ofN (sh4 f) 3)] _
   rw [HX1.out, HY1.out]
   simpa using h
  ·replace Ra : Row wr (w.heap.size + 2) #[.int .u64 (ofN f 3), .int .u64 (ofN (sh4 f) 3)] 75 := Ra
   have x0 := (Ra.cell 0).trans (show _ = some (Value.int .u64 (ofN f 3)) from rfl)
   have x1 := (Ra.cell 1).trans (show _ = some (Value.int .u64 (ofN (sh4 f) 3)) from rfl)
   have xf0 := Ra.frozen 0
   have xf1 := Ra.frozen 1
   have g0 := (Rg.cell 3).trans (show _ = some (Value.int .u16 (f 3)) from rfl)
   have g1 := (Rg.cell 7).trans (show _ = some (Value.int .u16 (f 7)) from rfl)
   have HX1 : Hid (ofN f 4 = 65536 * ofN f 3 + f 3) := Lib.hid rfl
   have HY1 : Hid (ofN (sh4 f) 4 = 65536 * ofN (sh4 f) 3 + f 7) := Lib.hid rfl
   have rx := ofN_range f hf 3
   have ry := ofN_range (sh4 f) (fun k => hf (4 + k)) 3
   have y0 := hf 3
   have y1 := hf 7
   rw [show (65536 : Int) ^ 3 = 281474976710656 from rfl] at rx ry
   have HG := Lib.hid Rg
   have HR := Lib.hid Rr
   have HA := Lib.hid Ra
   have HB := Lib.hid hb
   have HF := Lib.hid hf
   clear Rg Rr Ra hb hf
   generalize ofN f 3 = x at *
   generalize ofN (sh4 f) 3 = y at *
   generalize f 3 = u at *
   generalize f 7 = v at *
   have wx : IntKind.u64.wrap (65536 * x) = 65536 * x := by simp [IntKind.wrap, IntKind.bits, IntKind.signed]; omega
   have wy : IntKind.u64.wrap (65536 * y) = 65536 * y := by simp [IntKind.wrap, IntKind.bits, IntKind.signed]; omega
   have wu : IntKind.u64.wrap u = u := by simp [IntKind.wrap, IntKind.bits, IntKind.signed]; omega
   have wv : IntKind.u64.wrap v = v := by simp [IntKind.wrap, IntKind.bits, IntKind.signed]; omega
   have wxu : IntKind.u64.wrap (65536 * x + u) = 65536 * x + u := by simp [IntKind.wrap, IntKind.bits, IntKind.signed]; omega
   have wyv : IntKind.u64.wrap (65536 * y + v) = 65536 * y + v := by simp [IntKind.wrap, IntKind.bits, IntKind.signed]; omega
   go_wp2_with fail
   go_region
   go_wp2
   refine ⟨⟨4, by omega, by go_num, ((HG.out.set_far _ _ (by dsimp only; omega)).set_far _ _ (by dsimp only; omega)).drew, ((HR.out.set_far _ _ (by dsimp only; omega)).set_far _ _ (by dsimp only; omega)).drew, ?_, ((HB.out.setCell (by dsimp only; omega) _).setCell (by dsimp only; omega) _).drew⟩, by simp [intOf]⟩
   have h := ((HA.out.set 0 (.int .u64 (65536 * x + u))).set 1 (.int .u64 (65536 * y + v))).drew
   show Row _ _ #[.int .u64 (ofN f 4), .int .u64 (ofN (sh4 f) 4)] _
   rw [HX1.out, HY1.out]
   simpa using h
  ·replace Ra : Row wr (w.heap.size + 2) #[.int .u64 (ofN f 4), .int .u64 (ofN (sh4 f) 4)] 75 := Ra
   have x0 := (Ra.cell 0).trans (show _ = some (Value.int .u64 (ofN f 4)) from rfl)
   have x1 := (Ra.cell 1).trans (show _ = some (Value.int .u64 (ofN (sh4 f) 4)) from rfl)
   have r0 := (Rr.cell 0).trans (show _ = some (Value.int .u64 0) from rfl)
   have r1 := (Rr.cell 1).trans (show _ = some (Value.int .u64 0) from rfl)
   have f0 := Rr.frozen 0
   have f1 := Rr.frozen 1
   have HR := Lib.hid Rr
   have HB := Lib.hid hb
   clear Rg Rr Ra hb hf
   generalize hx4 : ofN f 4 = x at *
   generalize hy4 : ofN (sh4 f) 4 = y at *
   have HX4 := Lib.hid hx4
   have HY4 := Lib.hid hy4
   clear hx4 hy4
   go_wp2
   have Q := (HR.out.set 0 (.int .u64 x)).set 1 (.int .u64 y)
   have s0 := (Q.cell 0).trans (show _ = some (Value.int .u64 x) from rfl)
   have s1 := (Q.cell 1).trans (show _ = some (Value.int .u64 y) from rfl)
   clear r0 r1
   exact bodyPost_ret (v := .agg #[.int .u64 x, .int .u64 y]) (by simp only [results, Tryz.results107]; simp [go_sem, s0, s1]) rfl ⟨by rw [HX4.out, HY4.out], (HB.out.setCell (p := ⟨w.heap.size + 1, 0, none⟩) (by dsimp only; omega) _).setCell (p := ⟨w.heap.size + 1, 1, none⟩) (by dsimp only; omega) _⟩
  ·omega
def RParPost (o : Option (List Nat)) (w : World) (e : Ending) (w' : World) : Prop := (match o with
 | some gs => e = .returned (.tuple #[.agg #[.int .u64 (hi (ofN (lf gs) 8)), .int .u64 (lo (ofN (lf gs) 8))], .bool true])
 | none => e = .returned (.tuple #[.agg #[.int .u64 0, .int .u64 0], .bool false])) ∧ Below w.heap.size w w'
theorem lf_pad (u : List Nat) (k : Nat) : lf (u ++ List.replicate k 0) = lf u := by
 funext i
 unfold lf
 by_cases h : i < u.length
 ·simp [List.getElem?_append_left h]
 ·rw [List.getD, List.getD, List.getElem?_append_right (by omega), List.getElem?_eq_none (show u.length ≤ i by omega), List.getElem?_replicate]
  split <;> rfl
theorem cellsV_pad (u : List Nat) (k : Nat) : cellsV (u ++ List.replicate k 0 ++ []) = cellsV u := by
 rw [List.append_nil]
 unfold cellsV
 rw [lf_pad]
theorem cellsV_take (v : List Nat) (j : Nat) (h : j < v.length) (h8 : j < 8) : (cellsV (v.take j)).setIfInBounds j (.int .u16 (v[j] : Int)) = cellsV (v.take (j + 1)) := by
 have h1 := cellsV_set (v.take j) v[j] (by rw [List.length_take]; omega)
 rw [show (v.take j).length = j by rw [List.length_take]; omega] at h1
 rw [h1, List.take_add_one, List.getElem?_eq_getElem h]
 rfl
theorem cellsV_more (u v : List Nat) (j : Nat) (hs : u.length + v.length ≤ 7) (h : j < v.length) : (cellsV (u ++ List.replicate (8 - u.length - v.length) 0 ++ v.take j)).setIfInBounds (8 - v.length + j) (.int .u16 (v[j] : Int)) = cellsV (u ++ List.replicate (8 - u.length - v.length) 0 ++ v.take (j + 1)) := by
 have hlen : (u ++ List.replicate (8 - u.length - v.length) 0 ++ v.take j).length = 8 - v.length + j := by simp; omega
 have h1 := cellsV_set (u ++ List.replicate (8 - u.length - v.length) 0 ++ v.take j) v[j] (by rw [hlen]; omega)
 rw [hlen] at h1
 rw [h1, List.take_add_one, List.getElem?_eq_getElem h]
 simp [List.append_assoc]
theorem cc_index (l : List UInt8) : (Lib.index l [58, 58] = -1 ∧ cc l = (l, [], false)) ∨ (∃ k : Nat, Lib.index l [58, 58] = (k : Int) ∧ k + 2 ≤ l.length ∧ cc l = (l.take k, l.drop (k + 2), true)) := by
 have hge := Lib.index_ge l [58, 58]
 by_cases h : 0 ≤ Lib.index l [58, 58]
 ·have hr := Lib.index_room l [58, 58] h
  refine .inr ⟨(Lib.index l [58, 58]).toNat, by omega, by simp at hr; omega, ?_⟩
  unfold cc Lib.cut
  rw [if_pos h]
  rfl
 ·refine .inl ⟨by omega, ?_⟩
  unfold cc Lib.cut
  rw [if_neg h]
theorem splitC_len : ∀ l : List UInt8, (splitC l).length ≤ l.length + 1
 | [] => by simp [splitC]
 | c :: r => by
  have ih := splitC_len r
  rw [splitC]
  split
  ·simp; omega
  ·split
   ·rename_i h t he; rw [he] at ih; simp at ih ⊢; omega
   ·simp
theorem lastV_len {d : Bool} {p : List UInt8} {vs : List Nat} (h : lastV d p = some vs) : vs.length ≤ 2 := by
 unfold lastV at h
 split at h
 ·cases h; simp
 ·cases hg : grpV p with
  | none => rw [hg] at h; cases h
  | some v => rw [hg] at h; cases h; simp
theorem seqV_len (d : Bool) : ∀ (ps : List (List UInt8)) (vs : List Nat), seqV d ps = some vs → vs.length ≤ ps.length + 1
 | [], vs, h => by cases h; simp
 | [p], vs, h => by have := lastV_len h; simp; omega
 | p :: q :: r, vs, h => by
  rw [seqV_cons d p (q :: r) (by simp)] at h
  split at h
  ·rename_i v us h1 h2
   cases h
   have := seqV_len d (q :: r) us h2
   simp at this ⊢
   omega
  ·cases h
theorem readV_len {d : Bool} {l : List UInt8} {vs : List Nat} (h : readV d l = some vs) : vs.length ≤ l.length + 2 := by
 unfold readV at h
 split at h
 ·cases h; simp
 ·have h1 := seqV_len d _ _ h
  have h2 := splitC_len l
  omega
theorem read_use (d : Bool) (l : List UInt8) (hl : l.length ≤ 2000000) (w : World) : Calls Tryz.prog 106 #[.string ⟨l.toArray⟩, .bool d] w fun e w' => (match readV d l with
  | some vs => ∃ p c g, vs.length ≤ 2000002 ∧ e = .returned (.tuple #[.slice p vs.length c, .bool true]) ∧ (0 < vs.length → p = some ⟨g, 0, none⟩) ∧ w.heap.size ≤ g ∧ (0 < vs.length → ∀ (k x : Nat), vs[k]? = some x → w'.cell? ⟨g, k, none⟩ = some (.int .u16 (x : Int)))
  | none => e = .returned (.tuple #[.slice none 0 0, .bool false])) ∧ Below w.heap.size w w' := by
 refine (read_t d l hl w).mono ?_
 intro e w' hP
 cases hq : readV d l with
 | none => rw [hq] at hP; exact hP
 | some vs =>
  rw [hq] at hP
  obtain ⟨⟨v, rfl, ho⟩, hb⟩ := hP
  obtain ⟨p, c, rfl, hr⟩ := ho.read
  refine ⟨?_, hb⟩
  by_cases h : 0 < vs.length
  ·obtain ⟨g, rfl, hg, _, hc⟩ := hr h
   exact ⟨_, c, g, Nat.le_trans (readV_len hq) (by omega), rfl, fun _ => rfl, hg, fun _ => hc⟩
  ·exact ⟨p, c, w.heap.size, Nat.le_trans (readV_len hq) (by omega), rfl, fun h' => absurd h' h, Nat.le_refl _, fun h' => absurd h' h⟩
theorem region_any {P : Program} {ops : Array Oper} {Q : Exit → Act → World → Prop} {S : World → Prop} {id : Nat} {a : Act} {w : World} (hm : P.follows .mixedOrders = true) (hS : S w.drew)
  (h : ∀ wq, S wq → wpAnyH P .any ops Q S ops.size (Array.replicate ops.size false) a wq) : (Code.region id ops true).wp P Q a w :=
 wp_region_held_drew hm hS (fun hs => h _ hs)
theorem lz10 (w : World) : Calls Tryz.prog 163 #[.int .u64 10] w fun e w' => e = .returned (.int .i64 60) ∧ w = w' := by
 refine (Tryz.bits_LeadingZeros64 10 w (by decide) (by decide)).mono ?_
 rintro e w' ⟨rfl, rfl⟩
 exact ⟨by rw [show Lib.bitLen (10 : Int).toNat = 4 by decide +kernel]; rfl, rfl⟩
theorem or60 (h l : Int) (h0 : 0 ≤ h) (h1 : h < 10) (l0 : 0 ≤ l) (l1 : l < 1152921504606846976) : bits .or .u64 (h * 1152921504606846976) l = h * 1152921504606846976 + l := by
 rw [bits_or_w ⟨by omega, by omega⟩ ⟨by omega, by omega⟩]
 unfold orI
 have e := Nat.two_pow_add_eq_or_of_lt (b := l.toNat) (i := 60) (by omega) h.toNat
 rw [show (h * 1152921504606846976).toNat = 2 ^ 60 * h.toNat by omega, ← e]
 omega
theorem and32w (x : Int) (h0 : 0 ≤ x) (h1 : x < 18446744073709551616) : bits .and .u64 x 4294967295 = x % 4294967296 := by
 rw [bits_and_w ⟨h0, h1⟩ ⟨by omega, by omega⟩]
 unfold andI
 rw [show (4294967295 : Int).toNat = 2 ^ 32 - 1 by decide, Nat.and_two_pow_sub_one_eq_mod]
 omega
theorem div10_pure (h l U q1 V q0 : Int) (h0 : 0 ≤ h) (h1 : h < 10) (l0 : 0 ≤ l) (l1 : l < 18446744073709551616) (hU : U = h * 1152921504606846976 + l / 16) (hq1 : q1 = U / 2684354560) (hV : V = U % 2684354560 * 4294967296 + l % 16 * 268435456) (hq0 : q0 = V / 2684354560) :
  q1 * 4294967296 + q0 = (h * 18446744073709551616 + l) / 10 ∧ V % 2684354560 / 268435456 = (h * 18446744073709551616 + l) % 10 := by
 have e1 : U * 4294967296 + l % 16 * 268435456 = (h * 18446744073709551616 + l) * 268435456 := by omega
 have e2 : q1 * 4294967296 * 2684354560 + V = (h * 18446744073709551616 + l) * 268435456 := by omega
 generalize h * 18446744073709551616 + l = N at *
 omega
theorem div10_t (h l : Int) (h0 : 0 ≤ h) (h1 : h < 10) (l0 : 0 ≤ l) (l1 : l < 18446744073709551616) (w : World) : Calls Tryz.prog 143 #[.int .u64 h, .int .u64 l, .int .u64 10] w fun e w' => e = .returned (.tuple #[.int .u64 ((h * 18446744073709551616 + l) / 10), .int .u64 ((h * 18446744073709551616 + l) % 10)]) ∧ Below w.heap.size w w' := by
 by_cases hz : h = 0
 ·subst hz
  have hq : ¬ (10 : Int) ≤ 0 := by omega
  go_enter Tryz.func143, Tryz.ntmps143
  go_wp2_with fail
  go_quiet (fail)
  go_wp2
  exact bodyPost_ret (v := .tuple #[.int .u64 (l / 10), .int .u64 (l % 10)]) (by simp [results, Tryz.results143, go_sem]) rfl ⟨by rw [Int.zero_mul, Int.zero_add], below_drewN (Below.refl _ _) _⟩
 ·have hq : ¬ (10 : Int) ≤ h := by omega
  have hz' : (h == 0) = false := by simpa using hz
  have w1 : IntKind.u64.wrap (h * 1152921504606846976) = h * 1152921504606846976 := by rw [IntKind.wrap_u64]; omega
  have o1 := or60 h (l / 16) h0 h1 (by omega) (by omega)
  have a0 : bits .and .u64 11529215046068469760 4294967295 = 0 := and32w 11529215046068469760 (by omega) (by omega)
  have w2 : IntKind.u64.wrap (l * 1152921504606846976) = l % 16 * 1152921504606846976 := by rw [IntKind.wrap_u64]; omega
  have a1 : bits .and .u64 (l % 16 * 1152921504606846976) 4294967295 = 0 := (and32w _ (by omega) (by omega)).trans (by omega)
  have d1 : l % 16 * 1152921504606846976 / 4294967296 = l % 16 * 268435456 := by omega
  have r1 : 0 ≤ l % 16 ∧ l % 16 ≤ 15 := by omega
  have HP := Lib.hid (div10_pure h l (h * 1152921504606846976 + l / 16) _ _ _ h0 h1 l0 l1 rfl rfl rfl rfl)
  generalize hA : (h * 18446744073709551616 + l) / 10 = A at *
  generalize hB : (h * 18446744073709551616 + l) % 10 = B at *
  clear hA hB
  go_enter Tryz.func143, Tryz.ntmps143
  go_wp2_with fail
  refine (lz10 w).mono ?_
  rintro e w2' ⟨rfl, rfl⟩
  go_wp2_with fail
  have u0 : 0 ≤ h * 1152921504606846976 + l / 16 ∧ h * 1152921504606846976 + l / 16 < 11529215046068469760 := by omega
  clear o1 w1
  generalize h * 1152921504606846976 + l / 16 = U at *
  generalize l % 16 = m at *
  have e1 : U - U / 2684354560 * 2684354560 = U % 2684354560 := by omega
  have b1 : 0 ≤ U / 2684354560 ∧ U / 2684354560 < 4294967296 := by omega
  have b2 : 0 ≤ U % 2684354560 ∧ U % 2684354560 < 2684354560 := by omega
  have hUq : U = U / 2684354560 * 2684354560 + U % 2684354560 := by omega
  rw [e1]
  clear e1
  generalize U / 2684354560 = q at *
  generalize U % 2684354560 = r at *
  have f3 : IntKind.u64.wrap (IntKind.u64.wrap (IntKind.u64.wrap (U * 4294967296) + m * 268435456) - IntKind.u64.wrap (q * 11529215046068469760)) = r * 4294967296 + m * 268435456 := by simp only [IntKind.wrap_u64]; omega
  have v0 : 0 ≤ r * 4294967296 + m * 268435456 ∧ r * 4294967296 + m * 268435456 < 11529215046068469760 := by omega
  have g2 : 4294967296 * r + m * 268435456 < 18446744073709551616 := by omega
  have g3 : ¬ 4294967296 * r + m * 268435456 < 0 := by omega
  generalize r * 4294967296 + m * 268435456 = V at *
  have HU := Lib.hid hUq
  clear hUq
  go_loopw [15, 16] (fun a b wr => a = .int .u64 q ∧ b = .int .u64 r ∧ wr = w) (fun _ _ _ => 0)
  case atStart => exact ⟨rfl, rfl, rfl⟩
  case round =>
   obtain ⟨rfl, rfl, rfl⟩ := hrel
   have g1 : ¬ (4294967296 : Int) ≤ q := by omega
   have s1 : V - V / 2684354560 * 2684354560 = V % 2684354560 := by omega
   have s2 : 0 ≤ V / 2684354560 ∧ V / 2684354560 < 4294967296 := by omega
   have s3 : 0 ≤ V % 2684354560 ∧ V % 2684354560 < 2684354560 := by omega
   have s4 : V = V / 2684354560 * 2684354560 + V % 2684354560 := by omega
   have f5 : IntKind.u64.wrap (IntKind.u64.wrap (IntKind.u64.wrap (V * 4294967296)) - IntKind.u64.wrap (V / 2684354560 * 11529215046068469760)) = V % 2684354560 * 4294967296 := by simp only [IntKind.wrap_u64]; omega
   have HS4 := Lib.hid s4
   clear s4
   go_wp2_with fail
   clear s1
   generalize V / 2684354560 = q0 at *
   generalize V % 2684354560 = r0 at *
   go_loopw [18, 16] (fun a b wr' => a = .int .u64 q0 ∧ b = .int .u64 r0 ∧ wr' = wr) (fun _ _ _ => 0)
   case atStart => exact ⟨rfl, rfl, rfl⟩
   case round =>
    obtain ⟨rfl, rfl, rfl⟩ := hrel
    have g4 : ¬ (4294967296 : Int) ≤ q0 := by omega
    have g5 : 4294967296 * r0 < 18446744073709551616 := by omega
    have g6 : ¬ 4294967296 * r0 < 0 := by omega
    have f6 : r0 * 4294967296 / 1152921504606846976 = r0 / 268435456 := by omega
    go_wp2_with fail
    exact bodyPost_ret (v := .tuple #[.int .u64 (q * 4294967296 + q0), .int .u64 (r0 / 268435456)]) (by simp [results, Tryz.results143, go_sem, f5, f6]) rfl ⟨by rw [HP.out.1, HP.out.2], Below.refl _ _⟩
theorem bs_sizeN (l : List UInt8) : (⟨l.toArray⟩ : ByteArray).size = l.length := by simp [ByteArray.size]
theorem tenth_pure (A : Int) (h0 : 0 ≤ A) (h1 : A < MM) : hi (A / 10) = hi A / 10 ∧ lo (A / 10) = (hi A % 10 * 18446744073709551616 + lo A) / 10 ∧ A % 10 = (hi A % 10 * 18446744073709551616 + lo A) % 10 := by
 have e := wv_hi_lo A
 rw [Int.emod_eq_of_lt h0 h1] at e
 unfold wv at e
 have a1 := hi_nonneg A
 have a2 := hi_le A
 have a3 := lo_nonneg A
 have a4 := lo_le A
 generalize hi A = H at *
 generalize lo A = L at *
 obtain ⟨u, v, hu, hv0, hv1⟩ : ∃ u v, H = 10 * u + v ∧ 0 ≤ v ∧ v < 10 := ⟨H / 10, H % 10, by omega, by omega, by omega⟩
 have e1 : H / 10 = u := by omega
 have e2 : H % 10 = v := by omega
 rw [e1, e2]
 obtain ⟨D, r, hD, hr0, hr1⟩ : ∃ D r, v * 18446744073709551616 + L = 10 * D + r ∧ 0 ≤ r ∧ r < 10 := ⟨(v * 18446744073709551616 + L) / 10, (v * 18446744073709551616 + L) % 10, by omega, by omega, by omega⟩
 have e3 : (v * 18446744073709551616 + L) / 10 = D := by omega
 have e4 : (v * 18446744073709551616 + L) % 10 = r := by omega
 have e5 : A = 10 * (u * 18446744073709551616 + D) + r := by omega
 have e6 : A / 10 = u * 18446744073709551616 + D := by omega
 have e7 : A % 10 = r := by omega
 rw [e3, e4, e6, e7]
 have d0 : 0 ≤ D ∧ D < 18446744073709551616 := by omega
 have u0 : 0 ≤ u ∧ u < 18446744073709551616 := by omega
 exact ⟨hi_wv (h := u) (l := D) u0 d0, lo_wv (h := u) (l := D) d0, rfl⟩
theorem tenth_t (A : Int) (h0 : 0 ≤ A) (h1 : A < MM) (w : World) : Calls Tryz.prog 122 #[.agg #[.int .u64 (hi A), .int .u64 (lo A)]] w fun e w' => e = .returned (.tuple #[.agg #[.int .u64 (hi (A / 10)), .int .u64 (lo (A / 10))], .int .u8 (A % 10)]) ∧ Below w.heap.size w w' := by
 obtain ⟨p1, p2, p3⟩ := tenth_pure A h0 h1
 rw [p1, p2, p3]
 have a1 := hi_nonneg A
 have a2 := hi_le A
 have a3 := lo_nonneg A
 have a4 := lo_le A
 generalize hi A = h at *
 generalize lo A = l at *
 clear p1 p2 p3 h0 h1
 have b1 : 0 ≤ h % 10 ∧ h % 10 < 10 := by omega
 have hd := fun w => div10_t (h % 10) l b1.1 b1.2 a3 (by omega) w
 have q1 : 0 ≤ (h % 10 * 18446744073709551616 + l) % 10 ∧ (h % 10 * 18446744073709551616 + l) % 10 < 10 := by omega
 generalize (h % 10 * 18446744073709551616 + l) % 10 = R at *
 generalize (h % 10 * 18446744073709551616 + l) / 10 = Q at *
 have wR : IntKind.u8.wrap R = R := by simp [IntKind.wrap, IntKind.bits, IntKind.signed]; omega
 have hb0 : Below w.heap.size w ((w.alloc (.cells #[.int .u64 h, .int .u64 l] 73)).alloc (.cells #[.int .u64 0, .int .u64 0] 73)) := (by repeat (first | exact Below.refl _ _ | assumption | (with_reducible refine Below.drew ?_) | ((with_reducible first | refine Below.setCell ?_ ?h _ | refine Below.alloc ?_ ?h _ | refine Below.trans ?_ (hb2.mono ?h) | refine Below.trans ?_ (hb.mono ?h) | refine Below.trans ?_ (hb0.mono ?h)); case h => first | omega | (simp; done) | (simp; omega))))
 have R0 : Row ((w.alloc (.cells #[.int .u64 h, .int .u64 l] 73)).alloc (.cells #[.int .u64 0, .int .u64 0] 73)) w.heap.size #[.int .u64 h, .int .u64 l] 73 := (Row.new w _ _).alloc _
 have R1 : Row ((w.alloc (.cells #[.int .u64 h, .int .u64 l] 73)).alloc (.cells #[.int .u64 0, .int .u64 0] 73)) (w.heap.size + 1) #[.int .u64 0, .int .u64 0] 73 := by
  have := Row.new (w.alloc (.cells #[.int .u64 h, .int .u64 l] 73)) #[.int .u64 0, .int .u64 0] 73
  rwa [World.size_alloc] at this
 have HR := Lib.hid (And.intro R0 (And.intro R1 hb0))
 clear R0 R1 hb0
 go_enter Tryz.func122, Tryz.ntmps122
 go_wp2_with fail
 obtain ⟨R0, R1, hb⟩ := HR.out
 clear HR
 generalize (w.alloc (.cells #[.int .u64 h, .int .u64 l] 73)).alloc (.cells #[.int .u64 0, .int .u64 0] 73) = w0 at *
 refine (hd w0).mono ?_
 rintro e w1 ⟨rfl, hb2⟩
 replace R0 := R0.later hb2
 replace R1 := R1.later hb2
 replace hb := below_step hb hb2
 clear hb2 hd
 have c0 := (R0.cell 0).trans (show _ = some (Value.int .u64 h) from rfl)
 have d0 := (R1.cell 0).trans (show _ = some (Value.int .u64 0) from rfl)
 have d1 := (R1.cell 1).trans (show _ = some (Value.int .u64 0) from rfl)
 have f0 := R1.frozen 0
 have f1 := R1.frozen 1
 have HR := Lib.hid R1
 clear R0 R1
 go_wp2
 have Rf := (HR.out.set 0 (.int .u64 (h / 10))).set 1 (.int .u64 Q)
 have e0 := (Rf.cell 0).trans (show _ = some (Value.int .u64 (h / 10)) from rfl)
 have e1 := (Rf.cell 1).trans (show _ = some (Value.int .u64 Q) from rfl)
 exact bodyPost_ret (v := .tuple #[.agg #[.int .u64 (h / 10), .int .u64 Q], .int .u8 R]) (by simp only [results, Tryz.results122]; simp [go_sem, e0, e1]) rfl ⟨rfl, (hb.setCell (by dsimp only; omega) _).setCell (by dsimp only; omega) _⟩
/-! digits -/
def dg (n : Nat) : UInt8 := UInt8.ofNat (48 + n % 10)
theorem dg_toNat (n : Nat) : (dg n).toNat = 48 + n % 10 := by unfold dg; rw [UInt8.toNat_ofNat']; omega
def decN (n : Nat) : List UInt8 := if h : n < 10 then [dg n] else decN (n / 10) ++ [dg n]
termination_by n
decreasing_by omega
theorem decN_small {n : Nat} (h : n < 10) : decN n = [dg n] := by rw [decN, dif_pos h]
theorem decN_big {n : Nat} (h : ¬ n < 10) : decN n = decN (n / 10) ++ [dg n] := by rw [decN, dif_neg h]
def digsL : Nat → Nat → List UInt8
 | 0, _ => []
 | k + 1, n => digsL k (n / 10) ++ [dg n]
theorem digsL_length : ∀ (k n : Nat), (digsL k n).length = k
 | 0, _ => rfl
 | k + 1, n => by rw [digsL, List.length_append, digsL_length k]; rfl
theorem digsL_zero : ∀ (k : Nat), (digsL k 0).dropWhile (· == 48) = []
 | 0 => rfl
 | k + 1 => by
  have ih := digsL_zero k
  rw [digsL, Nat.zero_div, List.dropWhile_append, ih]
  decide
theorem dg_ne {n : Nat} (h : n % 10 ≠ 0) : (dg n == 48) = false := by
 rw [beq_eq_false_iff_ne]
 intro e
 have := congrArg UInt8.toNat e
 rw [dg_toNat] at this
 have h48 : (48 : UInt8).toNat = 48 := rfl
 omega
theorem decN_ne (n : Nat) : decN n ≠ [] := by
 by_cases h : n < 10
 ·rw [decN_small h]; simp
 ·rw [decN_big h]; simp
theorem digsL_trim : ∀ (k n : Nat), n < 10 ^ k → n ≠ 0 → (digsL k n).dropWhile (· == 48) = decN n
 | 0, n, h, h0 => by simp at h; exact absurd h h0
 | k + 1, n, h, h0 => by
  rw [digsL, List.dropWhile_append]
  by_cases hs : n < 10
  ·rw [show n / 10 = 0 by omega, digsL_zero k, decN_small hs]
   simp [List.dropWhile, dg_ne (n := n) (by omega)]
  ·have ih := digsL_trim k (n / 10) (by rw [Nat.pow_succ] at h; omega) (by omega)
   rw [ih, decN_big hs]
   have := decN_ne (n / 10)
   cases hq : decN (n / 10) with
   | nil => exact absurd hq this
   | cons a b => simp
theorem trim_last (n : Nat) (h : n < 10 ^ 39) : (digsL 38 (n / 10)).dropWhile (· == 48) ++ [dg n] = decN n := by
 by_cases hs : n < 10
 ·rw [show n / 10 = 0 by omega, digsL_zero, decN_small hs]; rfl
 ·rw [digsL_trim 38 (n / 10) (by rw [show (39 : Nat) = 38 + 1 from rfl, Nat.pow_succ] at h; omega) (by omega), decN_big hs]
def cell39 (n i p : Nat) : Value := .int .u8 (if 39 ≤ p + i then ((48 + n / 10 ^ (38 - p) % 10 : Nat) : Int) else 0)
def cells39 (n i : Nat) : Array Value := ((List.range 39).map (cell39 n i)).toArray
theorem cells39_size (n i : Nat) : (cells39 n i).size = 39 := by simp [cells39]
theorem cells39_get (n i p : Nat) (h : p < 39) : (cells39 n i)[p]? = some (cell39 n i p) := by simp [cells39, h]
theorem cells39_set (n i : Nat) (h : i < 39) : (cells39 n i).setIfInBounds (38 - i) (.int .u8 ((48 + n / 10 ^ i % 10 : Nat) : Int)) = cells39 n (i + 1) := by
 apply Array.ext_getElem?
 intro p
 by_cases hp : p < 39
 ·rw [cells39_get _ _ p hp, Array.getElem?_setIfInBounds]
  by_cases he : 38 - i = p
  ·rw [if_pos he, if_pos (by rw [cells39_size]; omega)]
   unfold cell39
   rw [if_pos (by omega), show 38 - p = i by omega]
  ·rw [if_neg he, cells39_get _ _ p hp]
   unfold cell39
   by_cases h1 : 39 ≤ p + i
   ·rw [if_pos h1, if_pos (by omega)]
   ·rw [if_neg h1, if_neg (by omega)]
 ·rw [Array.getElem?_eq_none (by simp [cells39_size]; omega), Array.getElem?_eq_none (by rw [cells39_size]; omega)]
theorem digsL_get : ∀ (k n j : Nat), j < k → (digsL k n)[j]? = some (dg (n / 10 ^ (k - 1 - j)))
 | 0, _, _, h => by omega
 | k + 1, n, j, h => by
  rw [digsL]
  by_cases hj : j < k
  ·rw [List.getElem?_append_left (by rw [digsL_length]; exact hj), digsL_get k (n / 10) j hj, Nat.div_div_eq_div_mul, ← Nat.pow_succ', show k + 1 - 1 - j = (k - 1 - j) + 1 by omega]
  ·rw [show j = k by omega, List.getElem?_append_right (by rw [digsL_length]; exact Nat.le_refl _), digsL_length]
   simp
theorem cells39_zero (n : Nat) : cells39 n 0 = #[.int .u8 0, .int .u8 0, .int .u8 0, .int .u8 0, .int .u8 0, .int .u8 0, .int .u8 0, .int .u8 0, .int .u8 0, .int .u8 0, .int .u8 0, .int .u8 0, .int .u8 0, .int .u8 0, .int .u8 0, .int .u8 0, .int .u8 0, .int .u8 0, .int .u8 0, .int .u8 0, .int .u8 0, .int .u8 0, .int .u8 0, .int .u8 0, .int .u8 0, .int .u8 0, .int .u8 0, .int .u8 0, .int .u8 0, .int .u8 0, .int .u8 0, .int .u8 0, .int .u8 0, .int .u8 0, .int .u8 0, .int .u8 0, .int .u8 0, .int .u8 0, .int .u8 0] := by kernel_rfl
theorem cutA39l (w : World) (g : Nat) : (Instr.sliceAt 155 (.pointer (some ⟨g, 0, none⟩)) (some (.int .i64 38)) none none).run Tryz.prog w = .ok (.slice (some ⟨g, 38, none⟩) 1 1) w := by
 have ha : Tryz.prog.arrayLen 155 = 39 := by kernel_rfl
 have he : Tryz.prog.elem 155 = 5 := by kernel_rfl
 have hu : Tryz.prog.underlying 155 = some (.array (Tryz.prog.arrayLen 155) (Tryz.prog.elem 155)) := by rw [ha, he]; exact Tryz.underlying155
 rw [run_sliceAt_array_l (P := Tryz.prog) w 155 ⟨g, 0, none⟩ hu .i64 38 (by omega) (by rw [ha]; omega)]
 rw [ha, he]
 simp [go_sem]
theorem cutA39h (w : World) (g : Nat) : (Instr.sliceAt 155 (.pointer (some ⟨g, 0, none⟩)) none (some (.int .i64 38)) none).run Tryz.prog w = .ok (.slice (some ⟨g, 0, none⟩) 38 39) w := by
 have ha : Tryz.prog.arrayLen 155 = 39 := by kernel_rfl
 have he : Tryz.prog.elem 155 = 5 := by kernel_rfl
 have hu : Tryz.prog.underlying 155 = some (.array (Tryz.prog.arrayLen 155) (Tryz.prog.elem 155)) := by rw [ha, he]; exact Tryz.underlying155
 rw [run_sliceAt_array_h (P := Tryz.prog) w 155 ⟨g, 0, none⟩ hu .i64 38 (by omega) (by rw [ha]; omega)]
 rw [ha, he]
 simp [go_sem]
theorem cell39_dg (n p : Nat) : cell39 n 39 p = .int .u8 ((dg (n / 10 ^ (38 - p))).toNat : Int) := by
 unfold cell39
 rw [if_pos (by omega), dg_toNat]
theorem conv39a (n : Nat) {w : World} {g : Nat} (R : Row w g (cells39 n 39) 155) : (convert 118 9 (.slice (some ⟨g, 0, none⟩) 38 39)).run Tryz.prog w = .ok (.string ⟨(digsL 38 (n / 10)).toArray⟩) w := by
 have h := run_convert_bytes_back (P := Tryz.prog) w 118 9 5 ⟨g, 0, none⟩ 39 (digsL 38 (n / 10)) Tryz.underlying118 Tryz.underlying5 Tryz.underlying9 (fun j hj => by
  rw [digsL_length] at hj
  have e := digsL_get 38 (n / 10) j hj
  rw [List.getElem?_eq_getElem (by rw [digsL_length]; exact hj)] at e
  rw [Option.some.inj e, Addr.add_mid, R.cell, Nat.zero_add, cells39_get _ _ _ (by omega), cell39_dg, Nat.div_div_eq_div_mul, ← Nat.pow_succ', show (38 - 1 - j).succ = 38 - j by omega])
 rwa [digsL_length] at h
theorem conv39b (n : Nat) {w : World} {g : Nat} (R : Row w g (cells39 n 39) 155) : (convert 118 9 (.slice (some ⟨g, 38, none⟩) 1 1)).run Tryz.prog w = .ok (.string ⟨[dg n].toArray⟩) w := by
 refine run_convert_bytes_back (P := Tryz.prog) w 118 9 5 ⟨g, 38, none⟩ 1 [dg n] Tryz.underlying118 Tryz.underlying5 Tryz.underlying9 (fun j hj => ?_)
 obtain rfl : j = 0 := by simpa using hj
 rw [Addr.add_mid, R.cell, Nat.add_zero, cells39_get _ _ _ (by omega), cell39_dg]
 simp
theorem Row.drewN {w : World} {g : Nat} {cs : Array Value} {t : TypeId} (h : Row w g cs t) (n : Nat) : Row (w.drewN n) g cs t := h
theorem ba_add (a b : List UInt8) : (⟨a.toArray⟩ : ByteArray) ++ ⟨b.toArray⟩ = ⟨(a ++ b).toArray⟩ := by apply ByteArray.ext; simp
theorem nwide_t (n : Nat) (hn : (n : Int) < MM) (w : World) : Calls Tryz.prog 86 #[.agg #[.int .u64 (hi n), .int .u64 (lo n)]] w fun e w' => e = .returned (.string ⟨(decN n).toArray⟩) ∧ Below w.heap.size w w' := by
  go_enter Tryz.func86, Tryz.ntmps86
  go_wp2_with fail
  go_loopw [7] (fun i wr => ∃ k : Nat, k ≤ 39 ∧ i = .int .i64 (k : Nat) ∧ Row wr w.heap.size #[.int .u64 (hi (n / 10 ^ k : Nat)), .int .u64 (lo (n / 10 ^ k : Nat))] 73 ∧ Row wr (w.heap.size + 1) (cells39 n k) 155 ∧ Below w.heap.size w wr) (fun i _ => 39 - (intOf i).toNat)
  case atStart =>
    refine ⟨0, by omega, rfl, ?_, ?_, (by repeat (first | exact Below.refl _ _ | assumption | (with_reducible refine Below.drew ?_) | ((with_reducible first | refine Below.setCell ?_ ?h _ | refine Below.alloc ?_ ?h _ | refine Below.trans ?_ (hb2.mono ?h) | refine Below.trans ?_ (hb.mono ?h)); case h => first | omega | (simp; done) | (simp; omega))))⟩
    · rw [Nat.pow_zero, Nat.div_one]; exact (Row.new w _ _).alloc _
    · rw [cells39_zero]
      have := Row.new (w.alloc (.cells #[.int .u64 (hi n), .int .u64 (lo n)] 73)) #[.int .u8 0, .int .u8 0, .int .u8 0, .int .u8 0, .int .u8 0, .int .u8 0, .int .u8 0, .int .u8 0, .int .u8 0, .int .u8 0, .int .u8 0, .int .u8 0, .int .u8 0, .int .u8 0, .int .u8 0, .int .u8 0, .int .u8 0, .int .u8 0, .int .u8 0, .int .u8 0, .int .u8 0, .int .u8 0, .int .u8 0, .int .u8 0, .int .u8 0, .int .u8 0, .int .u8 0, .int .u8 0, .int .u8 0, .int .u8 0, .int .u8 0, .int .u8 0, .int .u8 0, .int .u8 0, .int .u8 0, .int .u8 0, .int .u8 0, .int .u8 0, .int .u8 0] 155
      rwa [World.size_alloc] at this
  case round =>
    obtain ⟨k, hk, rfl, R0, R1, hb⟩ := hrel
    by_cases hlt : k < 39
    · have hkb : (k : Int) < 39 := by omega
      have c0 := (R0.cell 0).trans (show _ = some (Value.int .u64 (hi (n / 10 ^ k : Nat))) from rfl)
      have c1 := (R0.cell 1).trans (show _ = some (Value.int .u64 (lo (n / 10 ^ k : Nat))) from rfl)
      have hm : ((n / 10 ^ k : Nat) : Int) < MM := by
        have := Nat.div_le_self n (10 ^ k)
        omega
      have hset := cells39_set n k hlt
      have hnx : n / 10 ^ (k + 1) = n / 10 ^ k / 10 := by rw [Nat.pow_succ, Nat.div_div_eq_div_mul]
      generalize n / 10 ^ k = m at *
      have ht := fun w => tenth_t (m : Int) (by omega) hm w
      rw [show (m : Int) / 10 = ((m / 10 : Nat) : Int) by omega] at ht
      have HR := Lib.hid (And.intro R0 (And.intro R1 hb))
      have HS := Lib.hid (And.intro hset hnx)
      clear R0 R1 hb hset hnx
      go_wp2_with fail
      refine (ht _).mono ?_
      rintro e w1 ⟨rfl, hb2⟩
      obtain ⟨R0, R1, hb⟩ := HR.out
      replace R0 := R0.later hb2
      replace R1 := R1.later hb2
      replace hb := below_step hb hb2
      clear hb2 ht HR c0 c1
      have c0 := (R0.cell 0).trans (show _ = some (Value.int .u64 (hi (m : Nat))) from rfl)
      have c1 := (R0.cell 1).trans (show _ = some (Value.int .u64 (lo (m : Nat))) from rfl)
      have f0 := R0.frozen 0
      have f1 := R0.frozen 1
      have d0 := (R1.cell (38 - k)).trans (cells39_get n k (38 - k) (by omega))
      have f2 := R1.frozen (38 - k)
      have q1 : (38 - (k : Int)) = ((38 - k : Nat) : Int) := by omega
      have q2 : 0 ≤ (m : Int) % 10 ∧ (m : Int) % 10 < 10 := by omega
      have q3 : ((48 + m % 10 : Nat) : Int) = 48 + (m : Int) % 10 := by omega
      rw [q3] at HS
      generalize (m : Int) % 10 = r at *
      have q4 : IntKind.u8.wrap (48 + r) = 48 + r := by simp [IntKind.wrap, IntKind.bits, IntKind.signed]; omega
      have HR := Lib.hid (And.intro R0 (And.intro R1 hb))
      clear R0 R1 hb q3 
      go_wp2
      obtain ⟨R0, R1, hb⟩ := HR.out
      obtain ⟨hset, hnx⟩ := HS.out
      refine ⟨⟨k + 1, by omega, by go_num, ?_, ?_, ?_⟩, by simp [intOf]; omega⟩
      · rw [hnx]
        exact ((R0.set 0 (.int .u64 (hi (m / 10 : Nat)))).set 1 (.int .u64 (lo (m / 10 : Nat)))).set_far _ _ (by simp)
      · rw [← hset]
        exact ((R1.set_far _ _ (by simp)).set_far _ _ (by simp)).set _ _
      · exact (by repeat (first | exact Below.refl _ _ | assumption | (with_reducible refine Below.drew ?_) | ((with_reducible first | refine Below.setCell ?_ ?h _ | refine Below.alloc ?_ ?h _ | refine Below.trans ?_ (hb2.mono ?h) | refine Below.trans ?_ (hb.mono ?h)); case h => first | omega | (simp; done) | (simp; omega))))
    · obtain rfl : k = 39 := by omega
      have hA := fun q => conv39a n (R1.drewN q)
      have hB := fun q => conv39b n (R1.drewN q)
      have s1 := fun q => cutA39l (wr.drewN q) (w.heap.size + 1)
      have s2 := fun q => cutA39h (wr.drewN q) (w.heap.size + 1)
      have ht := fun q => Calls.quiet_of_same (n := q) (Tryz.strings_TrimLeft_one ⟨(digsL 38 (n / 10)).toArray⟩ 48 (by decide) (wr.drewN q))
      have htr := trim_last n (by have h : (MM : Int) = 340282366920938463463374607431768211456 := rfl; have : (10 : Nat) ^ 39 = 1000000000000000000000000000000000000000 := by rfl
                                  omega)
      unfold Lib.trimLeftB at ht
      dsimp only at ht
      have htl : ((digsL 38 (n / 10)).dropWhile (· == 48)).length ≤ 38 := by
        have := (List.dropWhile_sublist (l := digsL 38 (n / 10)) (· == 48)).length_le
        rwa [digsL_length] at this
      generalize (digsL 38 (n / 10)).dropWhile (· == 48) = tl at *
      have hle : ¬ 9223372036854775807 < tl.length + 1 := by omega
      have hle2 : ¬ 9223372036854775807 < (⟨tl.toArray⟩ : ByteArray).size + (⟨#[dg n]⟩ : ByteArray).size := by rw [bs_sizeN]; exact hle
      have HB := Lib.hid hb
      have HT := Lib.hid htr
      clear htr R0 R1 hb
      go_wp2_with fail
      go_quiet (first | (go_at_call 123; exact ht _))
      go_wp2
      go_ret
      refine ⟨?_, below_drewN HB.out _⟩
      rw [← HT.out, ba_add]; rfl
theorem nprint_t (n : Nat) (hn : n < 18446744073709551616) (w : World) : Calls Tryz.prog 42 #[.int .u64 (n : Int)] w fun e w' => e = .returned (.string ⟨(decN n).toArray⟩) ∧ Below w.heap.size w w' := by
 have h1 : hi (n : Int) = 0 := by unfold hi; omega
 have h2 : lo (n : Int) = n := by unfold lo; omega
 have hw := fun w => nwide_t n (by have h : (MM : Int) = 340282366920938463463374607431768211456 := rfl; omega) w
 rw [h1, h2] at hw
 have hb : Below w.heap.size w w := Below.refl _ _
 go_enter Tryz.func42, Tryz.ntmps42
 go_wp2_with fail
 refine (of_any (n : Int) _).mono ?_
 rintro e w1 ⟨rfl, hb2⟩
 replace hb := below_step hb hb2
 clear hb2 
 go_wp2_with fail
 refine (hw _).mono ?_
 rintro e w2 ⟨rfl, hb2⟩
 replace hb := below_step hb hb2
 clear hb2 
 go_wp2
 go_ret
 exact ⟨rfl, hb⟩
def dgB (c : UInt8) : Bool := decide (48 ≤ c.toNat) && decide (c.toNat ≤ 57)
def txB (l : List UInt8) : Bool := l.all dgB && (l == [48] || (!l.isEmpty && l.head? != some 48))
theorem txB_bad {l : List UInt8} {j : Nat} (hj : j < l.length) (h : dgB l[j] = false) : txB l = false := by
 unfold txB
 have : l.all dgB = false := by rw [List.all_eq_false]; exact ⟨l[j], List.getElem_mem hj, by simp [h]⟩
 simp [this]
theorem txB_ok {l : List UInt8} (h : ∀ i (hi : i < l.length), dgB l[i] = true) : txB l = (l == [48] || (!l.isEmpty && l.head? != some 48)) := by
 unfold txB
 have : l.all dgB = true := by rw [List.all_eq_true]; intro x hx; obtain ⟨i, hi, rfl⟩ := List.getElem_of_mem hx; exact h i hi
 simp [this]
theorem isText_t (l : List UInt8) (hl : l.length ≤ 2000000) (w : World) : Calls Tryz.prog 102 #[.string ⟨l.toArray⟩] w fun e w' => e = .returned (.bool (txB l)) ∧ Below w.heap.size w w' := by
 have hsz := bs_sizeN l
 go_enter Tryz.func102, Tryz.ntmps102
 go_wp2_with fail
 go_loopw [6] (fun i wr => ∃ (j : Nat), j ≤ l.length ∧ i = .int .i64 j ∧ Hid (∀ i (hi : i < j) (hl : i < l.length), dgB l[i] = true) ∧ wr = w) (fun i _ => l.length - (intOf i).toNat)
 case atStart => exact ⟨0, by omega, rfl, Lib.hid (fun i hi => by omega), rfl⟩
 case round =>
  obtain ⟨j, hj, rfl, hm, rfl⟩ := hrel
  by_cases hlt : j < l.length
  ·obtain ⟨c, hlj⟩ : ∃ c, l[j] = c := ⟨_, rfl⟩
   have hsp : j < (⟨l.toArray⟩ : ByteArray).size := by rw [hsz]; exact hlt
   have hch : (⟨l.toArray⟩ : ByteArray)[j]'hsp = c := hlj
   have HJ := Lib.hid hlj
   clear hlj
   have hc : c.toNat < 256 := c.toNat_lt
   by_cases h1 : 48 ≤ c.toNat
   ·by_cases h2 : c.toNat ≤ 57
    ·have h1' : ¬ (c.toNat : Int) < 48 := by omega
     have h2' : ¬ (57 : Int) < (c.toNat : Int) := by omega
     have HD := Lib.hid (show dgB c = true by simp [dgB, h1, h2])
     clear h1 h2
     go_wp2
     refine ⟨⟨j + 1, by omega, by go_num, Lib.hid (fun i hi hl => ?_), by first | rfl | trivial⟩, by simp [intOf]; omega⟩
     by_cases hij : i = j
     ·subst hij; rw [HJ.out]; exact HD.out
     ·exact hm.out i (by omega) hl
    ·have h1' : ¬ (c.toNat : Int) < 48 := by omega
     have h2' : (57 : Int) < (c.toNat : Int) := by omega
     have HB := Lib.hid (txB_bad hlt (by rw [HJ.out]; simp [dgB, h2]))
     clear h1 h2
     go_wp2
     go_ret
     exact ⟨by rw [HB.out]; rfl, Below.refl _ _⟩
   ·have h1' : (c.toNat : Int) < 48 := by omega
    have HB := Lib.hid (txB_bad hlt (by rw [HJ.out]; simp [dgB, h1]))
    clear h1
    go_wp2
    go_ret
    exact ⟨by rw [HB.out]; rfl, Below.refl _ _⟩
  ·have HB := Lib.hid (txB_ok (l := l) (fun i hi => hm.out i (by omega) hi))
   have hlt' : ¬ (j : Int) < (l.length : Int) := by omega
   clear hm
   by_cases e1 : l = [48]
   ·have b1 : (l == [48]) = true := by rw [e1]; rfl
    have HC := Lib.hid (show txB l = true by rw [HB.out]; simp [e1])
    have h0 : l.length = 1 := by rw [e1]; rfl
    clear e1 HB
    go_wp2
    go_ret
    exact ⟨by rw [HC.out]; rfl, Below.refl _ _⟩
   ·have b1 : (l == [48]) = false := by rw [beq_eq_false_iff_ne]; exact e1
    by_cases e2 : l = []
    ·have HC := Lib.hid (show txB l = false by rw [HB.out]; simp [e2])
     have he : l.isEmpty = true := by rw [e2]; rfl
     clear e1 HB e2
     go_wp2
     go_ret
     exact ⟨by rw [HC.out]; rfl, Below.refl _ _⟩
    ·have he : l.isEmpty = false := by simpa using e2
     have h0 : 0 < l.length := List.length_pos_iff.2 e2
     obtain ⟨c, hlj⟩ : ∃ c, l[0] = c := ⟨_, rfl⟩
     have hsp : 0 < (⟨l.toArray⟩ : ByteArray).size := by rw [hsz]; exact h0
     have hch : (⟨l.toArray⟩ : ByteArray)[0]'hsp = c := hlj
     have hhd : l.head? = some c := by rw [List.head?_eq_getElem?, List.getElem?_eq_getElem h0, hlj]
     by_cases e3 : c = 48
     ·have HC := Lib.hid (show txB l = false by rw [HB.out, hhd]; simp [e1, e3])
      have e3' : c.toNat = 48 := by rw [e3]; rfl
      have e3'' : ((c.toNat : Int) == 48) = true := by rw [e3']; rfl
      have HQ := Lib.hid (show ((c.toNat : Int) != 48) = !((c.toNat : Int) == 48) from rfl)
      rw [e3''] at HQ
      clear HB e3 hlj hhd e1 e2 e3'
      go_wp2
      go_ret
      exact ⟨by rw [HC.out]; exact congrArg (fun b => Ending.returned (Value.bool b)) HQ.out, Below.refl _ _⟩
     ·have HC := Lib.hid (show txB l = true by rw [HB.out, hhd]; simp [e1, e2, e3])
      have e3' : ¬ c.toNat = 48 := fun h => e3 (UInt8.toNat_inj.1 h)
      have e3'' : ((c.toNat : Int) == 48) = false := by rw [beq_eq_false_iff_ne]; omega
      have HQ := Lib.hid (show ((c.toNat : Int) != 48) = !((c.toNat : Int) == 48) from rfl)
      rw [e3''] at HQ
      clear HB e3 hlj hhd e1 e2 e3'
      go_wp2
      go_ret
      exact ⟨by rw [HC.out]; exact congrArg (fun b => Ending.returned (Value.bool b)) HQ.out, Below.refl _ _⟩
theorem ext_walk (ah al d u1 u2 v1 v2 s1 s2 t1 t2 : Int) (o b : Bool) (hd0 : 0 ≤ d) (hd1 : d ≤ 255) (w : World)
  (hR : ∀ w, Calls Tryz.prog 118 #[.agg #[.int .u64 ah, .int .u64 al], .int .i64 125] w fun e w' => e = .returned (.agg #[.int .u64 0, .int .u64 0]) ∧ Below w.heap.size w w')
  (hL3 : ∀ w, Calls Tryz.prog 99 #[.agg #[.int .u64 ah, .int .u64 al], .int .i64 3] w fun e w' => e = .returned (.agg #[.int .u64 u1, .int .u64 u2]) ∧ Below w.heap.size w w')
  (hL1 : ∀ w, Calls Tryz.prog 99 #[.agg #[.int .u64 ah, .int .u64 al], .int .i64 1] w fun e w' => e = .returned (.agg #[.int .u64 v1, .int .u64 v2]) ∧ Below w.heap.size w w')
  (hA1 : ∀ w, Calls Tryz.prog 135 #[.agg #[.int .u64 u1, .int .u64 u2], .agg #[.int .u64 v1, .int .u64 v2]] w fun e w' => e = .returned (.tuple #[.agg #[.int .u64 s1, .int .u64 s2], .bool o]) ∧ Below w.heap.size w w')
  (hA2 : ∀ w, Calls Tryz.prog 135 #[.agg #[.int .u64 s1, .int .u64 s2], .agg #[.int .u64 0, .int .u64 d]] w fun e w' => e = .returned (.tuple #[.agg #[.int .u64 t1, .int .u64 t2], .bool b]) ∧ Below w.heap.size w w') :
  Calls Tryz.prog 103 #[.agg #[.int .u64 ah, .int .u64 al], .int .u8 d] w fun e w' => e = .returned (.tuple #[.agg #[.int .u64 t1, .int .u64 t2], .bool (!o && !b)]) ∧ Below w.heap.size w w' := by
 have hwr : IntKind.u64.wrap d = d := by rw [IntKind.wrap_u64]; omega
 have hbT : Below w.heap.size w ((w.alloc (.cells #[.int .u64 ah, .int .u64 al] 73)).alloc (.cells #[.int .u64 0, .int .u64 0] 73)) := (by repeat (first | exact Below.refl _ _ | assumption | (with_reducible refine Below.drew ?_) | ((with_reducible first | refine Below.setCell ?_ ?h _ | refine Below.alloc ?_ ?h _ | refine Below.trans ?_ (hb.mono ?h) | refine Below.trans ?_ (hb0.mono ?h)); case h => first | omega | (simp; done) | (simp; omega))))
 have a0 : ((w.alloc (.cells #[.int .u64 ah, .int .u64 al] 73)).alloc (.cells #[.int .u64 0, .int .u64 0] 73)).cell? ⟨w.heap.size, 0, none⟩ = some (.int .u64 ah) := by simp [go_sem]
 have a1 : ((w.alloc (.cells #[.int .u64 ah, .int .u64 al] 73)).alloc (.cells #[.int .u64 0, .int .u64 0] 73)).cell? ⟨w.heap.size, 1, none⟩ = some (.int .u64 al) := by simp [go_sem]
 have RR : Row ((w.alloc (.cells #[.int .u64 ah, .int .u64 al] 73)).alloc (.cells #[.int .u64 0, .int .u64 0] 73)) (w.heap.size + 1) #[.int .u64 0, .int .u64 0] 73 := by
  have := Row.new (w.alloc (.cells #[.int .u64 ah, .int .u64 al] 73)) #[.int .u64 0, .int .u64 0] 73
  rwa [World.size_alloc] at this
 have HW := Lib.hid (And.intro hbT (And.intro a0 (And.intro a1 RR)))
 clear hbT a0 a1 RR
 go_enter Tryz.func103, Tryz.ntmps103
 go_wp2_with fail
 obtain ⟨hbT, a0, a1, RR⟩ := HW.out
 clear HW
 generalize ((w.alloc (.cells #[.int .u64 ah, .int .u64 al] 73)).alloc (.cells #[.int .u64 0, .int .u64 0] 73)) = w0 at *
 refine (hR w0).mono ?_
 rintro e w1 ⟨rfl, hx⟩
 replace a0 := cl hx a0
 replace a1 := cl hx a1
 replace RR := RR.later hx
 replace hbT := below_step hbT hx
 clear hx hR
 have HW := Lib.hid (And.intro hbT (And.intro a0 (And.intro a1 RR)))
 clear hbT a0 a1 RR
 go_wp2_with fail
 refine (of_any 0 w1).mono ?_
 rintro e w2 ⟨rfl, hx⟩
 obtain ⟨hbT, a0, a1, RR⟩ := HW.out
 clear HW
 replace a0 := cl hx a0
 replace a1 := cl hx a1
 replace RR := RR.later hx
 replace hbT := below_step hbT hx
 clear hx
 have HF := Lib.hid (And.intro RR hbT)
 have HW := Lib.hid (And.intro a0 a1)
 clear hbT a0 a1 RR
 go_wp2_with fail
 obtain ⟨a0, a1⟩ := HW.out
 clear HW
 have HX := Lib.hid (And.intro hA2 hwr)
 clear hA2 hwr
 have hbT : Below w2.heap.size w2 w2 := Below.refl _ _
 go_cut [6, 7] (fun s6 s7 wx => ∃ gp : Nat, s6 = .pointer (some ⟨gp, 0, none⟩) ∧ s7 = .bool o ∧ wx.cell? ⟨gp, 0, none⟩ = some (.int .u64 (s1)) ∧ wx.cell? ⟨gp, 1, none⟩ = some (.int .u64 (s2)) ∧ wx.cell? ⟨w.heap.size, 0, none⟩ = some (.int .u64 ah) ∧ wx.cell? ⟨w.heap.size, 1, none⟩ = some (.int .u64 al) ∧ Below w2.heap.size w2 wx)
 case first =>
  refine region_any (S := (fun w' => w'.cell? ⟨w.heap.size, 0, none⟩ = some (.int .u64 ah) ∧ w'.cell? ⟨w.heap.size, 1, none⟩ = some (.int .u64 al) ∧ Below w2.heap.size w2 w')) (by kernel_rfl) ?hSr1_ (fun wq hH => ?_)
  case hSr1_ => (first | exact ⟨a0, a1, hbT.drew⟩ | exact ⟨cl hb hH.1, cl hb hH.2.1, below_step hH.2.2 hb⟩)
  refine tk 0 ⟨some 16, .load 73 (.tmp 2), 73, _, _, _⟩ hH ?_
  refine tk 2 ⟨some 18, .load 73 (.tmp 2), 73, _, _, _⟩ hH ?_
  refine wpAnyH_ready (rs := [1, 8]) (by kernel_rfl) (by simp) ?_
  refine AllReadyH.cons (o := ⟨some 17, .call { callee := .value (.func 99), args := #[.tmp 16, .const (.int .i64 3)], argTypes := #[73, 3] }, 73, _, _, _⟩) rfl (fun K hK => ?_) ?_
  ·go_simp
   ((first | (with_reducible refine (hL3 _).mono ?_) | (with_reducible refine (hL1 _).mono ?_)); (rintro e wn ⟨rfl, hb⟩); (try replace Rn := Rn.later hb))
   go_wp2_with fail
   refine hK.out _ _ ?hSr1_3_1 fun _ => ?_
   case hSr1_3_1 => (first | exact ⟨a0, a1, hbT.drew⟩ | exact ⟨cl hb hH.1, cl hb hH.2.1, below_step hH.2.2 hb⟩)
   clear hK K hH; rename_i hH
   rename World => wq
   (try simp only [Act.put, nz1, nz2, nz3])
   refine wpAnyH_ready (rs := [3, 8]) (by kernel_rfl) (by simp) ?_
   refine AllReadyH.cons (o := ⟨some 19, .call { callee := .value (.func 99), args := #[.tmp 18, .const (.int .i64 1)], argTypes := #[73, 3] }, 73, _, _, _⟩) rfl (fun K hK => ?_) ?_
   ·go_simp
    ((first | (with_reducible refine (hL3 _).mono ?_) | (with_reducible refine (hL1 _).mono ?_)); (rintro e wn ⟨rfl, hb⟩); (try replace Rn := Rn.later hb))
    go_wp2_with fail
    refine hK.out _ _ ?hSr1_4_3 fun _ => ?_
    case hSr1_4_3 => (first | exact ⟨a0, a1, hbT.drew⟩ | exact ⟨cl hb hH.1, cl hb hH.2.1, below_step hH.2.2 hb⟩)
    clear hK K hH; rename_i hH
    rename World => wq
    (try simp only [Act.put, nz1, nz2, nz3])
    refine wpAnyH_ready (rs := [4, 8]) (by kernel_rfl) (by simp) ?_
    refine AllReadyH.cons (o := ⟨some 20, .call { callee := .value (.func 135), args := #[.tmp 17, .tmp 19], argTypes := #[73, 73] }, 138, _, _, _⟩) rfl (fun K hK => ?_) ?_
    ·go_simp
     ((refine (hA1 _).mono ?_); (rintro e wn ⟨rfl, hb⟩); (try replace Rn := Rn.later hb))
     go_wp2_with fail
     refine hK.out _ _ ?hSr1_5_4 fun _ => ?_
     case hSr1_5_4 => (first | exact ⟨a0, a1, hbT.drew⟩ | exact ⟨cl hb hH.1, cl hb hH.2.1, below_step hH.2.2 hb⟩)
     clear hK K hH; rename_i hH
     rename World => wq
     (try simp only [Act.put, nz1, nz2, nz3])
     refine tk 5 ⟨some 15, .move (.tmp 20), 138, _, _, _⟩ hH ?_
     refine tk 6 ⟨some 21, .extract (.tmp 15) 0, 73, _, _, _⟩ hH ?_
     refine tk 7 ⟨some 22, .extract (.tmp 15) 1, 4, _, _, _⟩ hH ?_
     refine wpAnyH_ready (rs := [8]) (by kernel_rfl) (by simp) ?_
     refine AllReadyH.cons (o := ⟨some 6, .alloc 73, 0, _, _, _⟩) rfl (fun K hK => ?_) AllReadyH.nil
     (go_simp; (have ne0 := Nat.ne_of_lt (World.block_lt_of_cell? _ _ hH.1)); (have ne1 := Nat.ne_of_lt (World.block_lt_of_cell? _ _ hH.2.1)); (have mn := hH.2.2.size); (have Rn := Row.new wq #[.int .u64 0, .int .u64 0] 73); (have hb : Below wq.heap.size wq (wq.alloc (.cells #[.int .u64 0, .int .u64 0] 73)) := (Below.refl _ _).alloc (Nat.le_refl _) _); (have hSn := And.intro (cl hb hH.1) (And.intro (cl hb hH.2.1) (below_step hH.2.2 hb))); clear hb; generalize wq.alloc (.cells #[.int .u64 0, .int .u64 0] 73) = wn at *; generalize wq.heap.size = gp at *)
     refine hK.out _ _ ?hSr1_9_8 fun _ => ?_
     case hSr1_9_8 => (exact hSn)
     clear hK K hH; rename_i hH
     rename World => wq
     (try simp only [Act.put, nz1, nz2, nz3])
     refine wpAnyH_ready (rs := [9]) (by kernel_rfl) (by simp) ?_
     refine AllReadyH.cons (o := ⟨none, .store 73 (.tmp 6) (.tmp 21), 0, _, _, _⟩) rfl (fun K hK => ?_) AllReadyH.nil
     ((have c0 := Rn.cell 0); (have c1 := Rn.cell 1); (simp at c0 c1); (have f0 := Rn.frozen 0); (have f1 := Rn.frozen 1); go_simp; clear c0 c1 f0 f1; (have Rm := (Rn.set 0 (.int .u64 (s1))).set 1 (.int .u64 (s2))); (simp at Rm))
     refine hK.out _ _ ?hSr1_10_9 fun _ => ?_
     case hSr1_10_9 => (exact ⟨(World.cell?_setCell_far _ _ _ _ ne0.symm).trans ((World.cell?_setCell_far _ _ _ _ ne0.symm).trans hH.1), (World.cell?_setCell_far _ _ _ _ ne1.symm).trans ((World.cell?_setCell_far _ _ _ _ ne1.symm).trans hH.2.1), (hH.2.2.setCell mn _).setCell mn _⟩)
     clear hK K hH; rename_i hH
     rename World => wq
     (try simp only [Act.put, nz1, nz2, nz3])
     refine tk 10 ⟨some 7, .assign (.tmp 22), 4, _, _, _⟩ hH ?_
     refine wpAnyH_done (by kernel_rfl) ?_ _
     (go_wp2_with fail; go_meet; exact ⟨gp, rfl, rfl, (by simpa using Rm.cell 0), (by simpa using Rm.cell 1), hH⟩)
    refine AllReadyH.cons (o := ⟨some 6, .alloc 73, 0, _, _, _⟩) rfl (fun K hK => ?_) AllReadyH.nil
    ·(go_simp; (have ne0 := Nat.ne_of_lt (World.block_lt_of_cell? _ _ hH.1)); (have ne1 := Nat.ne_of_lt (World.block_lt_of_cell? _ _ hH.2.1)); (have mn := hH.2.2.size); (have Rn := Row.new wq #[.int .u64 0, .int .u64 0] 73); (have hb : Below wq.heap.size wq (wq.alloc (.cells #[.int .u64 0, .int .u64 0] 73)) := (Below.refl _ _).alloc (Nat.le_refl _) _); (have hSn := And.intro (cl hb hH.1) (And.intro (cl hb hH.2.1) (below_step hH.2.2 hb))); clear hb; generalize wq.alloc (.cells #[.int .u64 0, .int .u64 0] 73) = wn at *; generalize wq.heap.size = gp at *)
     refine hK.out _ _ ?hSr1_12_8 fun _ => ?_
     case hSr1_12_8 => (exact hSn)
     clear hK K hH; rename_i hH
     rename World => wq
     (try simp only [Act.put, nz1, nz2, nz3])
     refine wpAnyH_ready (rs := [4]) (by kernel_rfl) (by simp) ?_
     refine AllReadyH.cons (o := ⟨some 20, .call { callee := .value (.func 135), args := #[.tmp 17, .tmp 19], argTypes := #[73, 73] }, 138, _, _, _⟩) rfl (fun K hK => ?_) AllReadyH.nil
     go_simp
     ((refine (hA1 _).mono ?_); (rintro e wn ⟨rfl, hb⟩); (try replace Rn := Rn.later hb))
     go_wp2_with fail
     refine hK.out _ _ ?hSr1_13_4 fun _ => ?_
     case hSr1_13_4 => (first | exact ⟨a0, a1, hbT.drew⟩ | exact ⟨cl hb hH.1, cl hb hH.2.1, below_step hH.2.2 hb⟩)
     clear hK K hH; rename_i hH
     rename World => wq
     (try simp only [Act.put, nz1, nz2, nz3])
     refine tk 5 ⟨some 15, .move (.tmp 20), 138, _, _, _⟩ hH ?_
     refine tk 6 ⟨some 21, .extract (.tmp 15) 0, 73, _, _, _⟩ hH ?_
     refine tk 7 ⟨some 22, .extract (.tmp 15) 1, 4, _, _, _⟩ hH ?_
     refine wpAnyH_ready (rs := [9]) (by kernel_rfl) (by simp) ?_
     refine AllReadyH.cons (o := ⟨none, .store 73 (.tmp 6) (.tmp 21), 0, _, _, _⟩) rfl (fun K hK => ?_) AllReadyH.nil
     ((have c0 := Rn.cell 0); (have c1 := Rn.cell 1); (simp at c0 c1); (have f0 := Rn.frozen 0); (have f1 := Rn.frozen 1); go_simp; clear c0 c1 f0 f1; (have Rm := (Rn.set 0 (.int .u64 (s1))).set 1 (.int .u64 (s2))); (simp at Rm))
     refine hK.out _ _ ?hSr1_17_9 fun _ => ?_
     case hSr1_17_9 => (exact ⟨(World.cell?_setCell_far _ _ _ _ ne0.symm).trans ((World.cell?_setCell_far _ _ _ _ ne0.symm).trans hH.1), (World.cell?_setCell_far _ _ _ _ ne1.symm).trans ((World.cell?_setCell_far _ _ _ _ ne1.symm).trans hH.2.1), (hH.2.2.setCell mn _).setCell mn _⟩)
     clear hK K hH; rename_i hH
     rename World => wq
     (try simp only [Act.put, nz1, nz2, nz3])
     refine tk 10 ⟨some 7, .assign (.tmp 22), 4, _, _, _⟩ hH ?_
     refine wpAnyH_done (by kernel_rfl) ?_ _
     (go_wp2_with fail; go_meet; exact ⟨gp, rfl, rfl, (by simpa using Rm.cell 0), (by simpa using Rm.cell 1), hH⟩)
   refine AllReadyH.cons (o := ⟨some 6, .alloc 73, 0, _, _, _⟩) rfl (fun K hK => ?_) AllReadyH.nil
   ·(go_simp; (have ne0 := Nat.ne_of_lt (World.block_lt_of_cell? _ _ hH.1)); (have ne1 := Nat.ne_of_lt (World.block_lt_of_cell? _ _ hH.2.1)); (have mn := hH.2.2.size); (have Rn := Row.new wq #[.int .u64 0, .int .u64 0] 73); (have hb : Below wq.heap.size wq (wq.alloc (.cells #[.int .u64 0, .int .u64 0] 73)) := (Below.refl _ _).alloc (Nat.le_refl _) _); (have hSn := And.intro (cl hb hH.1) (And.intro (cl hb hH.2.1) (below_step hH.2.2 hb))); clear hb; generalize wq.alloc (.cells #[.int .u64 0, .int .u64 0] 73) = wn at *; generalize wq.heap.size = gp at *)
    refine hK.out _ _ ?hSr1_19_8 fun _ => ?_
    case hSr1_19_8 => (exact hSn)
    clear hK K hH; rename_i hH
    rename World => wq
    (try simp only [Act.put, nz1, nz2, nz3])
    refine wpAnyH_ready (rs := [3]) (by kernel_rfl) (by simp) ?_
    refine AllReadyH.cons (o := ⟨some 19, .call { callee := .value (.func 99), args := #[.tmp 18, .const (.int .i64 1)], argTypes := #[73, 3] }, 73, _, _, _⟩) rfl (fun K hK => ?_) AllReadyH.nil
    go_simp
    ((first | (with_reducible refine (hL3 _).mono ?_) | (with_reducible refine (hL1 _).mono ?_)); (rintro e wn ⟨rfl, hb⟩); (try replace Rn := Rn.later hb))
    go_wp2_with fail
    refine hK.out _ _ ?hSr1_20_3 fun _ => ?_
    case hSr1_20_3 => (first | exact ⟨a0, a1, hbT.drew⟩ | exact ⟨cl hb hH.1, cl hb hH.2.1, below_step hH.2.2 hb⟩)
    clear hK K hH; rename_i hH
    rename World => wq
    (try simp only [Act.put, nz1, nz2, nz3])
    refine wpAnyH_ready (rs := [4]) (by kernel_rfl) (by simp) ?_
    refine AllReadyH.cons (o := ⟨some 20, .call { callee := .value (.func 135), args := #[.tmp 17, .tmp 19], argTypes := #[73, 73] }, 138, _, _, _⟩) rfl (fun K hK => ?_) AllReadyH.nil
    go_simp
    ((refine (hA1 _).mono ?_); (rintro e wn ⟨rfl, hb⟩); (try replace Rn := Rn.later hb))
    go_wp2_with fail
    refine hK.out _ _ ?hSr1_21_4 fun _ => ?_
    case hSr1_21_4 => (first | exact ⟨a0, a1, hbT.drew⟩ | exact ⟨cl hb hH.1, cl hb hH.2.1, below_step hH.2.2 hb⟩)
    clear hK K hH; rename_i hH
    rename World => wq
    (try simp only [Act.put, nz1, nz2, nz3])
    refine tk 5 ⟨some 15, .move (.tmp 20), 138, _, _, _⟩ hH ?_
    refine tk 6 ⟨some 21, .extract (.tmp 15) 0, 73, _, _, _⟩ hH ?_
    refine tk 7 ⟨some 22, .extract (.tmp 15) 1, 4, _, _, _⟩ hH ?_
    refine wpAnyH_ready (rs := [9]) (by kernel_rfl) (by simp) ?_
    refine AllReadyH.cons (o := ⟨none, .store 73 (.tmp 6) (.tmp 21), 0, _, _, _⟩) rfl (fun K hK => ?_) AllReadyH.nil
    ((have c0 := Rn.cell 0); (have c1 := Rn.cell 1); (simp at c0 c1); (have f0 := Rn.frozen 0); (have f1 := Rn.frozen 1); go_simp; clear c0 c1 f0 f1; (have Rm := (Rn.set 0 (.int .u64 (s1))).set 1 (.int .u64 (s2))); (simp at Rm))
    refine hK.out _ _ ?hSr1_25_9 fun _ => ?_
    case hSr1_25_9 => (exact ⟨(World.cell?_setCell_far _ _ _ _ ne0.symm).trans ((World.cell?_setCell_far _ _ _ _ ne0.symm).trans hH.1), (World.cell?_setCell_far _ _ _ _ ne1.symm).trans ((World.cell?_setCell_far _ _ _ _ ne1.symm).trans hH.2.1), (hH.2.2.setCell mn _).setCell mn _⟩)
    clear hK K hH; rename_i hH
    rename World => wq
    (try simp only [Act.put, nz1, nz2, nz3])
    refine tk 10 ⟨some 7, .assign (.tmp 22), 4, _, _, _⟩ hH ?_
    refine wpAnyH_done (by kernel_rfl) ?_ _
    (go_wp2_with fail; go_meet; exact ⟨gp, rfl, rfl, (by simpa using Rm.cell 0), (by simpa using Rm.cell 1), hH⟩)
  refine AllReadyH.cons (o := ⟨some 6, .alloc 73, 0, _, _, _⟩) rfl (fun K hK => ?_) AllReadyH.nil
  ·(go_simp; (have ne0 := Nat.ne_of_lt (World.block_lt_of_cell? _ _ hH.1)); (have ne1 := Nat.ne_of_lt (World.block_lt_of_cell? _ _ hH.2.1)); (have mn := hH.2.2.size); (have Rn := Row.new wq #[.int .u64 0, .int .u64 0] 73); (have hb : Below wq.heap.size wq (wq.alloc (.cells #[.int .u64 0, .int .u64 0] 73)) := (Below.refl _ _).alloc (Nat.le_refl _) _); (have hSn := And.intro (cl hb hH.1) (And.intro (cl hb hH.2.1) (below_step hH.2.2 hb))); clear hb; generalize wq.alloc (.cells #[.int .u64 0, .int .u64 0] 73) = wn at *; generalize wq.heap.size = gp at *)
   refine hK.out _ _ ?hSr1_27_8 fun _ => ?_
   case hSr1_27_8 => (exact hSn)
   clear hK K hH; rename_i hH
   rename World => wq
   (try simp only [Act.put, nz1, nz2, nz3])
   refine wpAnyH_ready (rs := [1]) (by kernel_rfl) (by simp) ?_
   refine AllReadyH.cons (o := ⟨some 17, .call { callee := .value (.func 99), args := #[.tmp 16, .const (.int .i64 3)], argTypes := #[73, 3] }, 73, _, _, _⟩) rfl (fun K hK => ?_) AllReadyH.nil
   go_simp
   ((first | (with_reducible refine (hL3 _).mono ?_) | (with_reducible refine (hL1 _).mono ?_)); (rintro e wn ⟨rfl, hb⟩); (try replace Rn := Rn.later hb))
   go_wp2_with fail
   refine hK.out _ _ ?hSr1_28_1 fun _ => ?_
   case hSr1_28_1 => (first | exact ⟨a0, a1, hbT.drew⟩ | exact ⟨cl hb hH.1, cl hb hH.2.1, below_step hH.2.2 hb⟩)
   clear hK K hH; rename_i hH
   rename World => wq
   (try simp only [Act.put, nz1, nz2, nz3])
   refine wpAnyH_ready (rs := [3]) (by kernel_rfl) (by simp) ?_
   refine AllReadyH.cons (o := ⟨some 19, .call { callee := .value (.func 99), args := #[.tmp 18, .const (.int .i64 1)], argTypes := #[73, 3] }, 73, _, _, _⟩) rfl (fun K hK => ?_) AllReadyH.nil
   go_simp
   ((first | (with_reducible refine (hL3 _).mono ?_) | (with_reducible refine (hL1 _).mono ?_)); (rintro e wn ⟨rfl, hb⟩); (try replace Rn := Rn.later hb))
   go_wp2_with fail
   refine hK.out _ _ ?hSr1_29_3 fun _ => ?_
   case hSr1_29_3 => (first | exact ⟨a0, a1, hbT.drew⟩ | exact ⟨cl hb hH.1, cl hb hH.2.1, below_step hH.2.2 hb⟩)
   clear hK K hH; rename_i hH
   rename World => wq
   (try simp only [Act.put, nz1, nz2, nz3])
   refine wpAnyH_ready (rs := [4]) (by kernel_rfl) (by simp) ?_
   refine AllReadyH.cons (o := ⟨some 20, .call { callee := .value (.func 135), args := #[.tmp 17, .tmp 19], argTypes := #[73, 73] }, 138, _, _, _⟩) rfl (fun K hK => ?_) AllReadyH.nil
   go_simp
   ((refine (hA1 _).mono ?_); (rintro e wn ⟨rfl, hb⟩); (try replace Rn := Rn.later hb))
   go_wp2_with fail
   refine hK.out _ _ ?hSr1_30_4 fun _ => ?_
   case hSr1_30_4 => (first | exact ⟨a0, a1, hbT.drew⟩ | exact ⟨cl hb hH.1, cl hb hH.2.1, below_step hH.2.2 hb⟩)
   clear hK K hH; rename_i hH
   rename World => wq
   (try simp only [Act.put, nz1, nz2, nz3])
   refine tk 5 ⟨some 15, .move (.tmp 20), 138, _, _, _⟩ hH ?_
   refine tk 6 ⟨some 21, .extract (.tmp 15) 0, 73, _, _, _⟩ hH ?_
   refine tk 7 ⟨some 22, .extract (.tmp 15) 1, 4, _, _, _⟩ hH ?_
   refine wpAnyH_ready (rs := [9]) (by kernel_rfl) (by simp) ?_
   refine AllReadyH.cons (o := ⟨none, .store 73 (.tmp 6) (.tmp 21), 0, _, _, _⟩) rfl (fun K hK => ?_) AllReadyH.nil
   ((have c0 := Rn.cell 0); (have c1 := Rn.cell 1); (simp at c0 c1); (have f0 := Rn.frozen 0); (have f1 := Rn.frozen 1); go_simp; clear c0 c1 f0 f1; (have Rm := (Rn.set 0 (.int .u64 (s1))).set 1 (.int .u64 (s2))); (simp at Rm))
   refine hK.out _ _ ?hSr1_34_9 fun _ => ?_
   case hSr1_34_9 => (exact ⟨(World.cell?_setCell_far _ _ _ _ ne0.symm).trans ((World.cell?_setCell_far _ _ _ _ ne0.symm).trans hH.1), (World.cell?_setCell_far _ _ _ _ ne1.symm).trans ((World.cell?_setCell_far _ _ _ _ ne1.symm).trans hH.2.1), (hH.2.2.setCell mn _).setCell mn _⟩)
   clear hK K hH; rename_i hH
   rename World => wq
   (try simp only [Act.put, nz1, nz2, nz3])
   refine tk 10 ⟨some 7, .assign (.tmp 22), 4, _, _, _⟩ hH ?_
   refine wpAnyH_done (by kernel_rfl) ?_ _
   (go_wp2_with fail; go_meet; exact ⟨gp, rfl, rfl, (by simpa using Rm.cell 0), (by simpa using Rm.cell 1), hH⟩)
 case rest =>
  clear a0 a1 hbT hL3 hL1 hA1
  obtain ⟨gp, rfl, rfl, p0, p1, a0, a1, hbT⟩ := hcut
  obtain ⟨hA2, hwr⟩ := HX.out
  clear HX
  go_wp2_with fail
  go_cut [8, 9] (fun s8 s9 wx => ∃ gs : Nat, s8 = .pointer (some ⟨gs, 0, none⟩) ∧ s9 = .bool b ∧ wx.cell? ⟨gs, 0, none⟩ = some (.int .u64 (t1)) ∧ wx.cell? ⟨gs, 1, none⟩ = some (.int .u64 (t2)) ∧ wx.cell? ⟨w.heap.size, 0, none⟩ = some (.int .u64 ah) ∧ wx.cell? ⟨w.heap.size, 1, none⟩ = some (.int .u64 al) ∧ wx.cell? ⟨gp, 0, none⟩ = some (.int .u64 s1) ∧ wx.cell? ⟨gp, 1, none⟩ = some (.int .u64 s2) ∧ Below w2.heap.size w2 wx)
  case first =>
   refine region_any (S := (fun w' => w'.cell? ⟨w.heap.size, 0, none⟩ = some (.int .u64 ah) ∧ w'.cell? ⟨w.heap.size, 1, none⟩ = some (.int .u64 al) ∧ w'.cell? ⟨gp, 0, none⟩ = some (.int .u64 s1) ∧ w'.cell? ⟨gp, 1, none⟩ = some (.int .u64 s2) ∧ Below w2.heap.size w2 w')) (by kernel_rfl) ?hSr2_ (fun wq hH => ?_)
   case hSr2_ => (first | exact ⟨a0, a1, p0, p1, hbT.drew⟩ | exact ⟨cl hb hH.1, cl hb hH.2.1, cl hb hH.2.2.1, cl hb hH.2.2.2.1, below_step hH.2.2.2.2 hb⟩)
   refine tk 0 ⟨some 24, .load 73 (.tmp 6), 73, _, _, _⟩ hH ?_
   refine tk 1 ⟨some 25, .move (.tmp 1), 5, _, _, _⟩ hH ?_
   refine tk 2 ⟨some 26, .convert 5 24 (.tmp 25), 24, _, _, _⟩ hH ?_
   refine wpAnyH_ready (rs := [3, 8]) (by kernel_rfl) (by simp) ?_
   refine AllReadyH.cons (o := ⟨some 27, .call { callee := .value (.func 63), args := #[.tmp 26], argTypes := #[24] }, 73, _, _, _⟩) rfl (fun K hK => ?_) ?_
   ·go_simp
    ((refine (of_any _ _).mono ?_); (rintro e wn ⟨rfl, hb⟩); (try replace Rn := Rn.later hb))
    go_wp2_with fail
    refine hK.out _ _ ?hSr2_4_3 fun _ => ?_
    case hSr2_4_3 => (first | exact ⟨a0, a1, p0, p1, hbT.drew⟩ | exact ⟨cl hb hH.1, cl hb hH.2.1, cl hb hH.2.2.1, cl hb hH.2.2.2.1, below_step hH.2.2.2.2 hb⟩)
    clear hK K hH; rename_i hH
    rename World => wq
    (try simp only [Act.put, nz1, nz2, nz3])
    refine wpAnyH_ready (rs := [4, 8]) (by kernel_rfl) (by simp) ?_
    refine AllReadyH.cons (o := ⟨some 28, .call { callee := .value (.func 135), args := #[.tmp 24, .tmp 27], argTypes := #[73, 73] }, 138, _, _, _⟩) rfl (fun K hK => ?_) ?_
    ·go_simp
     ((refine (hA2 _).mono ?_); (rintro e wn ⟨rfl, hb⟩); (try replace Rn := Rn.later hb))
     go_wp2_with fail
     refine hK.out _ _ ?hSr2_5_4 fun _ => ?_
     case hSr2_5_4 => (first | exact ⟨a0, a1, p0, p1, hbT.drew⟩ | exact ⟨cl hb hH.1, cl hb hH.2.1, cl hb hH.2.2.1, cl hb hH.2.2.2.1, below_step hH.2.2.2.2 hb⟩)
     clear hK K hH; rename_i hH
     rename World => wq
     (try simp only [Act.put, nz1, nz2, nz3])
     refine tk 5 ⟨some 23, .move (.tmp 28), 138, _, _, _⟩ hH ?_
     refine tk 6 ⟨some 29, .extract (.tmp 23) 0, 73, _, _, _⟩ hH ?_
     refine tk 7 ⟨some 30, .extract (.tmp 23) 1, 4, _, _, _⟩ hH ?_
     refine wpAnyH_ready (rs := [8]) (by kernel_rfl) (by simp) ?_
     refine AllReadyH.cons (o := ⟨some 8, .alloc 73, 0, _, _, _⟩) rfl (fun K hK => ?_) AllReadyH.nil
     (go_simp; (have ne0 := Nat.ne_of_lt (World.block_lt_of_cell? _ _ hH.1)); (have ne1 := Nat.ne_of_lt (World.block_lt_of_cell? _ _ hH.2.1)); (have ne2 := Nat.ne_of_lt (World.block_lt_of_cell? _ _ hH.2.2.1)); (have ne3 := Nat.ne_of_lt (World.block_lt_of_cell? _ _ hH.2.2.2.1)); (have mn := hH.2.2.2.2.size); (have Rn := Row.new wq #[.int .u64 0, .int .u64 0] 73); (have hb : Below wq.heap.size wq (wq.alloc (.cells #[.int .u64 0, .int .u64 0] 73)) := (Below.refl _ _).alloc (Nat.le_refl _) _); (have hSn := And.intro (cl hb hH.1) (And.intro (cl hb hH.2.1) (And.intro (cl hb hH.2.2.1) (And.intro (cl hb hH.2.2.2.1) (below_step hH.2.2.2.2 hb))))); clear hb; generalize wq.alloc (.cells #[.int .u64 0, .int .u64 0] 73) = wn at *; generalize wq.heap.size = gs at *)
     refine hK.out _ _ ?hSr2_9_8 fun _ => ?_
     case hSr2_9_8 => (exact hSn)
     clear hK K hH; rename_i hH
     rename World => wq
     (try simp only [Act.put, nz1, nz2, nz3])
     refine wpAnyH_ready (rs := [9]) (by kernel_rfl) (by simp) ?_
     refine AllReadyH.cons (o := ⟨none, .store 73 (.tmp 8) (.tmp 29), 0, _, _, _⟩) rfl (fun K hK => ?_) AllReadyH.nil
     ((have c0 := Rn.cell 0); (have c1 := Rn.cell 1); (simp at c0 c1); (have f0 := Rn.frozen 0); (have f1 := Rn.frozen 1); go_simp; clear c0 c1 f0 f1; (have Rm := (Rn.set 0 (.int .u64 (t1))).set 1 (.int .u64 (t2))); (simp at Rm))
     refine hK.out _ _ ?hSr2_10_9 fun _ => ?_
     case hSr2_10_9 => (exact ⟨(World.cell?_setCell_far _ _ _ _ ne0.symm).trans ((World.cell?_setCell_far _ _ _ _ ne0.symm).trans hH.1), (World.cell?_setCell_far _ _ _ _ ne1.symm).trans ((World.cell?_setCell_far _ _ _ _ ne1.symm).trans hH.2.1), (World.cell?_setCell_far _ _ _ _ ne2.symm).trans ((World.cell?_setCell_far _ _ _ _ ne2.symm).trans hH.2.2.1), (World.cell?_setCell_far _ _ _ _ ne3.symm).trans ((World.cell?_setCell_far _ _ _ _ ne3.symm).trans hH.2.2.2.1), (hH.2.2.2.2.setCell mn _).setCell mn _⟩)
     clear hK K hH; rename_i hH
     rename World => wq
     (try simp only [Act.put, nz1, nz2, nz3])
     refine tk 10 ⟨some 9, .assign (.tmp 30), 4, _, _, _⟩ hH ?_
     refine wpAnyH_done (by kernel_rfl) ?_ _
     (go_wp2_with fail; go_meet; exact ⟨gs, rfl, rfl, (by simpa using Rm.cell 0), (by simpa using Rm.cell 1), hH⟩)
    refine AllReadyH.cons (o := ⟨some 8, .alloc 73, 0, _, _, _⟩) rfl (fun K hK => ?_) AllReadyH.nil
    ·(go_simp; (have ne0 := Nat.ne_of_lt (World.block_lt_of_cell? _ _ hH.1)); (have ne1 := Nat.ne_of_lt (World.block_lt_of_cell? _ _ hH.2.1)); (have ne2 := Nat.ne_of_lt (World.block_lt_of_cell? _ _ hH.2.2.1)); (have ne3 := Nat.ne_of_lt (World.block_lt_of_cell? _ _ hH.2.2.2.1)); (have mn := hH.2.2.2.2.size); (have Rn := Row.new wq #[.int .u64 0, .int .u64 0] 73); (have hb : Below wq.heap.size wq (wq.alloc (.cells #[.int .u64 0, .int .u64 0] 73)) := (Below.refl _ _).alloc (Nat.le_refl _) _); (have hSn := And.intro (cl hb hH.1) (And.intro (cl hb hH.2.1) (And.intro (cl hb hH.2.2.1) (And.intro (cl hb hH.2.2.2.1) (below_step hH.2.2.2.2 hb))))); clear hb; generalize wq.alloc (.cells #[.int .u64 0, .int .u64 0] 73) = wn at *; generalize wq.heap.size = gs at *)
     refine hK.out _ _ ?hSr2_12_8 fun _ => ?_
     case hSr2_12_8 => (exact hSn)
     clear hK K hH; rename_i hH
     rename World => wq
     (try simp only [Act.put, nz1, nz2, nz3])
     refine wpAnyH_ready (rs := [4]) (by kernel_rfl) (by simp) ?_
     refine AllReadyH.cons (o := ⟨some 28, .call { callee := .value (.func 135), args := #[.tmp 24, .tmp 27], argTypes := #[73, 73] }, 138, _, _, _⟩) rfl (fun K hK => ?_) AllReadyH.nil
     go_simp
     ((refine (hA2 _).mono ?_); (rintro e wn ⟨rfl, hb⟩); (try replace Rn := Rn.later hb))
     go_wp2_with fail
     refine hK.out _ _ ?hSr2_13_4 fun _ => ?_
     case hSr2_13_4 => (first | exact ⟨a0, a1, p0, p1, hbT.drew⟩ | exact ⟨cl hb hH.1, cl hb hH.2.1, cl hb hH.2.2.1, cl hb hH.2.2.2.1, below_step hH.2.2.2.2 hb⟩)
     clear hK K hH; rename_i hH
     rename World => wq
     (try simp only [Act.put, nz1, nz2, nz3])
     refine tk 5 ⟨some 23, .move (.tmp 28), 138, _, _, _⟩ hH ?_
     refine tk 6 ⟨some 29, .extract (.tmp 23) 0, 73, _, _, _⟩ hH ?_
     refine tk 7 ⟨some 30, .extract (.tmp 23) 1, 4, _, _, _⟩ hH ?_
     refine wpAnyH_ready (rs := [9]) (by kernel_rfl) (by simp) ?_
     refine AllReadyH.cons (o := ⟨none, .store 73 (.tmp 8) (.tmp 29), 0, _, _, _⟩) rfl (fun K hK => ?_) AllReadyH.nil
     ((have c0 := Rn.cell 0); (have c1 := Rn.cell 1); (simp at c0 c1); (have f0 := Rn.frozen 0); (have f1 := Rn.frozen 1); go_simp; clear c0 c1 f0 f1; (have Rm := (Rn.set 0 (.int .u64 (t1))).set 1 (.int .u64 (t2))); (simp at Rm))
     refine hK.out _ _ ?hSr2_17_9 fun _ => ?_
     case hSr2_17_9 => (exact ⟨(World.cell?_setCell_far _ _ _ _ ne0.symm).trans ((World.cell?_setCell_far _ _ _ _ ne0.symm).trans hH.1), (World.cell?_setCell_far _ _ _ _ ne1.symm).trans ((World.cell?_setCell_far _ _ _ _ ne1.symm).trans hH.2.1), (World.cell?_setCell_far _ _ _ _ ne2.symm).trans ((World.cell?_setCell_far _ _ _ _ ne2.symm).trans hH.2.2.1), (World.cell?_setCell_far _ _ _ _ ne3.symm).trans ((World.cell?_setCell_far _ _ _ _ ne3.symm).trans hH.2.2.2.1), (hH.2.2.2.2.setCell mn _).setCell mn _⟩)
     clear hK K hH; rename_i hH
     rename World => wq
     (try simp only [Act.put, nz1, nz2, nz3])
     refine tk 10 ⟨some 9, .assign (.tmp 30), 4, _, _, _⟩ hH ?_
     refine wpAnyH_done (by kernel_rfl) ?_ _
     (go_wp2_with fail; go_meet; exact ⟨gs, rfl, rfl, (by simpa using Rm.cell 0), (by simpa using Rm.cell 1), hH⟩)
   refine AllReadyH.cons (o := ⟨some 8, .alloc 73, 0, _, _, _⟩) rfl (fun K hK => ?_) AllReadyH.nil
   ·(go_simp; (have ne0 := Nat.ne_of_lt (World.block_lt_of_cell? _ _ hH.1)); (have ne1 := Nat.ne_of_lt (World.block_lt_of_cell? _ _ hH.2.1)); (have ne2 := Nat.ne_of_lt (World.block_lt_of_cell? _ _ hH.2.2.1)); (have ne3 := Nat.ne_of_lt (World.block_lt_of_cell? _ _ hH.2.2.2.1)); (have mn := hH.2.2.2.2.size); (have Rn := Row.new wq #[.int .u64 0, .int .u64 0] 73); (have hb : Below wq.heap.size wq (wq.alloc (.cells #[.int .u64 0, .int .u64 0] 73)) := (Below.refl _ _).alloc (Nat.le_refl _) _); (have hSn := And.intro (cl hb hH.1) (And.intro (cl hb hH.2.1) (And.intro (cl hb hH.2.2.1) (And.intro (cl hb hH.2.2.2.1) (below_step hH.2.2.2.2 hb))))); clear hb; generalize wq.alloc (.cells #[.int .u64 0, .int .u64 0] 73) = wn at *; generalize wq.heap.size = gs at *)
    refine hK.out _ _ ?hSr2_19_8 fun _ => ?_
    case hSr2_19_8 => (exact hSn)
    clear hK K hH; rename_i hH
    rename World => wq
    (try simp only [Act.put, nz1, nz2, nz3])
    refine wpAnyH_ready (rs := [3]) (by kernel_rfl) (by simp) ?_
    refine AllReadyH.cons (o := ⟨some 27, .call { callee := .value (.func 63), args := #[.tmp 26], argTypes := #[24] }, 73, _, _, _⟩) rfl (fun K hK => ?_) AllReadyH.nil
    go_simp
    ((refine (of_any _ _).mono ?_); (rintro e wn ⟨rfl, hb⟩); (try replace Rn := Rn.later hb))
    go_wp2_with fail
    refine hK.out _ _ ?hSr2_20_3 fun _ => ?_
    case hSr2_20_3 => (first | exact ⟨a0, a1, p0, p1, hbT.drew⟩ | exact ⟨cl hb hH.1, cl hb hH.2.1, cl hb hH.2.2.1, cl hb hH.2.2.2.1, below_step hH.2.2.2.2 hb⟩)
    clear hK K hH; rename_i hH
    rename World => wq
    (try simp only [Act.put, nz1, nz2, nz3])
    refine wpAnyH_ready (rs := [4]) (by kernel_rfl) (by simp) ?_
    refine AllReadyH.cons (o := ⟨some 28, .call { callee := .value (.func 135), args := #[.tmp 24, .tmp 27], argTypes := #[73, 73] }, 138, _, _, _⟩) rfl (fun K hK => ?_) AllReadyH.nil
    go_simp
    ((refine (hA2 _).mono ?_); (rintro e wn ⟨rfl, hb⟩); (try replace Rn := Rn.later hb))
    go_wp2_with fail
    refine hK.out _ _ ?hSr2_21_4 fun _ => ?_
    case hSr2_21_4 => (first | exact ⟨a0, a1, p0, p1, hbT.drew⟩ | exact ⟨cl hb hH.1, cl hb hH.2.1, cl hb hH.2.2.1, cl hb hH.2.2.2.1, below_step hH.2.2.2.2 hb⟩)
    clear hK K hH; rename_i hH
    rename World => wq
    (try simp only [Act.put, nz1, nz2, nz3])
    refine tk 5 ⟨some 23, .move (.tmp 28), 138, _, _, _⟩ hH ?_
    refine tk 6 ⟨some 29, .extract (.tmp 23) 0, 73, _, _, _⟩ hH ?_
    refine tk 7 ⟨some 30, .extract (.tmp 23) 1, 4, _, _, _⟩ hH ?_
    refine wpAnyH_ready (rs := [9]) (by kernel_rfl) (by simp) ?_
    refine AllReadyH.cons (o := ⟨none, .store 73 (.tmp 8) (.tmp 29), 0, _, _, _⟩) rfl (fun K hK => ?_) AllReadyH.nil
    ((have c0 := Rn.cell 0); (have c1 := Rn.cell 1); (simp at c0 c1); (have f0 := Rn.frozen 0); (have f1 := Rn.frozen 1); go_simp; clear c0 c1 f0 f1; (have Rm := (Rn.set 0 (.int .u64 (t1))).set 1 (.int .u64 (t2))); (simp at Rm))
    refine hK.out _ _ ?hSr2_25_9 fun _ => ?_
    case hSr2_25_9 => (exact ⟨(World.cell?_setCell_far _ _ _ _ ne0.symm).trans ((World.cell?_setCell_far _ _ _ _ ne0.symm).trans hH.1), (World.cell?_setCell_far _ _ _ _ ne1.symm).trans ((World.cell?_setCell_far _ _ _ _ ne1.symm).trans hH.2.1), (World.cell?_setCell_far _ _ _ _ ne2.symm).trans ((World.cell?_setCell_far _ _ _ _ ne2.symm).trans hH.2.2.1), (World.cell?_setCell_far _ _ _ _ ne3.symm).trans ((World.cell?_setCell_far _ _ _ _ ne3.symm).trans hH.2.2.2.1), (hH.2.2.2.2.setCell mn _).setCell mn _⟩)
    clear hK K hH; rename_i hH
    rename World => wq
    (try simp only [Act.put, nz1, nz2, nz3])
    refine tk 10 ⟨some 9, .assign (.tmp 30), 4, _, _, _⟩ hH ?_
    refine wpAnyH_done (by kernel_rfl) ?_ _
    (go_wp2_with fail; go_meet; exact ⟨gs, rfl, rfl, (by simpa using Rm.cell 0), (by simpa using Rm.cell 1), hH⟩)
  case rest =>
   clear a0 a1 hbT p0 p1 hA2
   obtain ⟨gs, rfl, rfl, q0, q1, a0, a1, p0, p1, hbT⟩ := hcut
   obtain ⟨RR, hb0⟩ := HF.out
   clear HF a0 a1 p0 p1
   replace RR := RR.later hbT
   replace hbT := below_step hb0 hbT
   clear hb0
   have r0 := (RR.cell 0).trans (show _ = some (Value.int .u64 0) from rfl)
   have r1 := (RR.cell 1).trans (show _ = some (Value.int .u64 0) from rfl)
   have f0 := RR.frozen 0
   have f1 := RR.frozen 1
   have Rf := (RR.set 0 (.int .u64 t1)).set 1 (.int .u64 t2)
   have e0 := (Rf.cell 0).trans (show _ = some (Value.int .u64 t1) from rfl)
   have e1 := (Rf.cell 1).trans (show _ = some (Value.int .u64 t2) from rfl)
   have HE := Lib.hid (And.intro e0 (And.intro e1 hbT))
   clear RR Rf e0 e1 hbT
   cases o with
   | true =>
    go_wp2
    obtain ⟨e0, e1, hbT⟩ := HE.out
    exact bodyPost_ret (v := .tuple #[.agg #[.int .u64 t1, .int .u64 t2], .bool false]) (by simp only [results, Tryz.results103]; simp [go_sem, e0, e1]) rfl ⟨rfl, (hbT.setCell (by dsimp only; omega) _).setCell (by dsimp only; omega) _⟩
   | false =>
    go_wp2
    obtain ⟨e0, e1, hbT⟩ := HE.out
    exact bodyPost_ret (v := .tuple #[.agg #[.int .u64 t1, .int .u64 t2], .bool (!b)]) (by simp only [results, Tryz.results103]; simp [go_sem, e0, e1]) rfl ⟨by simp, (hbT.setCell (by dsimp only; omega) _).setCell (by dsimp only; omega) _⟩
theorem ext_high (ah al q : Int) (d : Int) (hq : ¬ q = 0) (w : World)
  (hR : ∀ w, Calls Tryz.prog 118 #[.agg #[.int .u64 ah, .int .u64 al], .int .i64 125] w fun e w' => e = .returned (.agg #[.int .u64 0, .int .u64 q]) ∧ Below w.heap.size w w') :
  Calls Tryz.prog 103 #[.agg #[.int .u64 ah, .int .u64 al], .int .u8 d] w fun e w' => e = .returned (.tuple #[.agg #[.int .u64 0, .int .u64 0], .bool false]) ∧ Below w.heap.size w w' := by
 have hq' : decide (q = 0) = false := by simp [hq]
 have hq2 : (q == 0) = false := by simp [hq]
 have hbT : Below w.heap.size w ((w.alloc (.cells #[.int .u64 ah, .int .u64 al] 73)).alloc (.cells #[.int .u64 0, .int .u64 0] 73)) := (by repeat (first | exact Below.refl _ _ | assumption | (with_reducible refine Below.drew ?_) | ((with_reducible first | refine Below.setCell ?_ ?h _ | refine Below.alloc ?_ ?h _); case h => first | omega | (simp; done) | (simp; omega))))
 have RR : Row ((w.alloc (.cells #[.int .u64 ah, .int .u64 al] 73)).alloc (.cells #[.int .u64 0, .int .u64 0] 73)) (w.heap.size + 1) #[.int .u64 0, .int .u64 0] 73 := by
  have := Row.new (w.alloc (.cells #[.int .u64 ah, .int .u64 al] 73)) #[.int .u64 0, .int .u64 0] 73
  rwa [World.size_alloc] at this
 have HW := Lib.hid (And.intro hbT RR)
 clear hbT RR
 go_enter Tryz.func103, Tryz.ntmps103
 go_wp2_with fail
 obtain ⟨hbT, RR⟩ := HW.out
 clear HW
 generalize ((w.alloc (.cells #[.int .u64 ah, .int .u64 al] 73)).alloc (.cells #[.int .u64 0, .int .u64 0] 73)) = w0 at *
 refine (hR w0).mono ?_
 rintro e w1 ⟨rfl, hx⟩
 replace RR := RR.later hx
 replace hbT := below_step hbT hx
 clear hx hR
 have HW := Lib.hid (And.intro hbT RR)
 clear hbT RR
 go_wp2_with fail
 refine (of_any 0 w1).mono ?_
 rintro e w2 ⟨rfl, hx⟩
 obtain ⟨hbT, RR⟩ := HW.out
 clear HW
 replace RR := RR.later hx
 replace hbT := below_step hbT hx
 clear hx
 have r0 := (RR.cell 0).trans (show _ = some (Value.int .u64 0) from rfl)
 have r1 := (RR.cell 1).trans (show _ = some (Value.int .u64 0) from rfl)
 have f0 := RR.frozen 0
 have f1 := RR.frozen 1
 have Rf := (RR.set 0 (.int .u64 0)).set 1 (.int .u64 0)
 have e0 := (Rf.cell 0).trans (show _ = some (Value.int .u64 0) from rfl)
 have e1 := (Rf.cell 1).trans (show _ = some (Value.int .u64 0) from rfl)
 have HE := Lib.hid (And.intro e0 (And.intro e1 hbT))
 clear RR Rf e0 e1 hbT
 go_wp2
 obtain ⟨e0, e1, hbT⟩ := HE.out
 exact bodyPost_ret (v := .tuple #[.agg #[.int .u64 0, .int .u64 0], .bool false]) (by simp only [results, Tryz.results103]; simp [go_sem, e0, e1]) rfl ⟨rfl, (hbT.setCell (by dsimp only; omega) _).setCell (by dsimp only; omega) _⟩
def xtV (A d : Int) : Int := if A < 42535295865117307932921825928971026432 then 10 * A + d else 0
theorem extend_t (A d : Int) (h0 : 0 ≤ A) (h1 : A < MM) (hd0 : 0 ≤ d) (hd1 : d ≤ 255) (w : World) :
  Calls Tryz.prog 103 #[.agg #[.int .u64 (hi A), .int .u64 (lo A)], .int .u8 d] w fun e w' => e = .returned (.tuple #[.agg #[.int .u64 (hi (xtV A d)), .int .u64 (lo (xtV A d))], .bool (decide (10 * A + d < MM))]) ∧ Below w.heap.size w w' := by
 have hM : (MM : Int) = 340282366920938463463374607431768211456 := rfl
 have hR := fun w => right_h A 125 w
 rw [Int.emod_eq_of_lt h0 h1, show (2 : Int) ^ (125 : Int).toNat = 42535295865117307932921825928971026432 from rfl] at hR
 unfold xtV
 by_cases hA : A < 42535295865117307932921825928971026432
 ·rw [if_pos hA]
  rw [show A / 42535295865117307932921825928971026432 = 0 from Int.ediv_eq_zero_of_lt h0 hA, show hi 0 = 0 from rfl, show lo 0 = 0 from rfl] at hR
  have hL3 := fun w => left_h A 3 w
  have hL1 := fun w => left_h A 1 w
  rw [show A * (2 : Int) ^ (3 : Int).toNat = 8 * A by rw [show (2 : Int) ^ (3 : Int).toNat = 8 from rfl]; omega] at hL3
  rw [show A * (2 : Int) ^ (1 : Int).toNat = 2 * A by rw [show (2 : Int) ^ (1 : Int).toNat = 2 from rfl]; omega] at hL1
  have hA1 := fun w => add_h (8 * A) (2 * A) w
  have hA2 := fun w => add_h (8 * A + 2 * A) d w
  rw [show hi d = 0 by unfold hi; omega, show lo d = d by unfold lo; omega] at hA2
  have h := ext_walk (hi A) (lo A) d _ _ _ _ _ _ _ _ _ _ hd0 hd1 w hR hL3 hL1 hA1 hA2
  rw [show 8 * A + 2 * A + d = 10 * A + d by omega] at h
  have e : (!addB (8 * A % MM) (2 * A % MM) && !addB ((8 * A + 2 * A) % MM) (d % MM)) = decide (10 * A + d < MM) := by
   unfold addB
   rw [Int.emod_eq_of_lt (a := 8 * A) (by omega) (by omega), Int.emod_eq_of_lt (a := 2 * A) (by omega) (by omega), Int.emod_eq_of_lt (a := d) (by omega) (by omega)]
   by_cases hc : 8 * A + 2 * A < MM
   ·rw [Int.emod_eq_of_lt (by omega) hc]
    rw [Bool.eq_iff_iff]
    simp
    omega
   ·rw [Bool.eq_iff_iff]
    simp
    omega
  rwa [e] at h
 ·rw [if_neg hA]
  have q1 : 1 ≤ A / 42535295865117307932921825928971026432 ∧ A / 42535295865117307932921825928971026432 < 8 := by omega
  rw [show hi (A / 42535295865117307932921825928971026432) = 0 by unfold hi; omega, show lo (A / 42535295865117307932921825928971026432) = A / 42535295865117307932921825928971026432 by unfold lo; omega] at hR
  have h := ext_high (hi A) (lo A) _ d (by omega) w hR
  rw [show decide (10 * A + d < MM) = false by simp; omega]
  exact h
def valA (a : Nat) (l : List UInt8) : Nat := l.foldl (fun a c => 10 * a + (c.toNat - 48)) a
def valT (l : List UInt8) : Nat := valA 0 l
theorem valA_le : ∀ (l : List UInt8) (a : Nat), a ≤ valA a l
 | [], a => Nat.le_refl a
 | c :: r, a => by
  have := valA_le r (10 * a + (c.toNat - 48))
  show a ≤ valA (10 * a + (c.toNat - 48)) r
  omega
theorem valA_append (l m : List UInt8) (a : Nat) : valA a (l ++ m) = valA (valA a l) m := List.foldl_append
theorem valT_take (l : List UInt8) (k : Nat) : valT (l.take k) ≤ valT l := by
 have h : l = l.take k ++ l.drop k := (List.take_append_drop k l).symm
 have e : valT l = valA (valT (l.take k)) (l.drop k) := by
  conv => lhs; rw [h]
  exact valA_append _ _ 0
 rw [e]
 exact valA_le _ _
theorem valT_step (l : List UInt8) (k : Nat) (h : k < l.length) : valT (l.take (k + 1)) = 10 * valT (l.take k) + (l[k].toNat - 48) := by
 rw [List.take_succ_eq_append_getElem h]
 exact valA_append _ _ 0
def pw (l : List UInt8) : Int × Int := if txB l = true then (if (valT l : Int) < MM then ((valT l : Int), 0) else (0, 11)) else (0, 3)
theorem pw_bad {l : List UInt8} (h : txB l = false) : pw l = (0, 3) := by unfold pw; rw [if_neg (by simp [h])]
theorem pw_ok {l : List UInt8} (h : txB l = true) (hv : (valT l : Int) < MM) : pw l = ((valT l : Int), 0) := by unfold pw; rw [if_pos h, if_pos hv]
theorem pw_over {l : List UInt8} (h : txB l = true) (hv : ¬ (valT l : Int) < MM) : pw l = (0, 11) := by unfold pw; rw [if_pos h, if_neg hv]
theorem txB_dig {l : List UInt8} (h : txB l = true) (k : Nat) (hk : k < l.length) : 48 ≤ l[k].toNat ∧ l[k].toNat ≤ 57 := by
 unfold txB at h
 rw [Bool.and_eq_true, List.all_eq_true] at h
 have := h.1 _ (List.getElem_mem hk)
 simpa [dgB] using this
theorem pwide_t (l : List UInt8) (hl : l.length ≤ 2000000) (w : World) : Calls Tryz.prog 61 #[.string ⟨l.toArray⟩] w fun e w' => e = .returned (.tuple #[.agg #[.int .u64 (hi (pw l).1), .int .u64 (lo (pw l).1)], .int .i64 (pw l).2]) ∧ Below w.heap.size w w' := by
 have hsz := bs_sizeN l
 have R0 := Row.new w #[.int .u64 0, .int .u64 0] 73
 have hb : Below w.heap.size w (w.alloc (.cells #[.int .u64 0, .int .u64 0] 73)) := (by repeat (first | exact Below.refl _ _ | assumption | (with_reducible refine Below.drew ?_) | ((with_reducible first | refine Below.setCell ?_ ?h _ | refine Below.alloc ?_ ?h _ | refine Below.trans ?_ (hb2.mono ?h) | refine Below.trans ?_ (hb.mono ?h)); case h => first | omega | (simp; done) | (simp; omega))))
 have HW := Lib.hid (And.intro R0 hb)
 clear R0 hb
 have hi0 : hi 0 = 0 := rfl
 have lo0 : lo 0 = 0 := rfl
 go_enter Tryz.func61, Tryz.ntmps61
 go_wp2_with fail
 obtain ⟨R0, hb⟩ := HW.out
 clear HW
 generalize w.alloc (.cells #[.int .u64 0, .int .u64 0] 73) = w0 at *
 refine (isText_t l hl w0).mono ?_
 rintro e w1 ⟨rfl, hb2⟩
 replace R0 := R0.later hb2
 replace hb := below_step hb hb2
 clear hb2
 cases htx : txB l with
 | false =>
  have HP := Lib.hid (pw_bad htx)
  clear htx
  have r0 := (R0.cell 0).trans (show _ = some (Value.int .u64 0) from rfl)
  have r1 := (R0.cell 1).trans (show _ = some (Value.int .u64 0) from rfl)
  have f0 := R0.frozen 0
  have f1 := R0.frozen 1
  have Rf := (R0.set 0 (.int .u64 0)).set 1 (.int .u64 0)
  have e0 := (Rf.cell 0).trans (show _ = some (Value.int .u64 0) from rfl)
  have e1 := (Rf.cell 1).trans (show _ = some (Value.int .u64 0) from rfl)
  have HE := Lib.hid (And.intro e0 (And.intro e1 hb))
  clear R0 Rf e0 e1 hb
  go_wp2
  obtain ⟨e0, e1, hb⟩ := HE.out
  exact bodyPost_ret (v := .tuple #[.agg #[.int .u64 0, .int .u64 0], .int .i64 3]) (by simp only [results, Tryz.results61]; simp [go_sem, e0, e1]) rfl ⟨by rw [HP.out, hi0, lo0], (hb.setCell (by dsimp only; omega) _).setCell (by dsimp only; omega) _⟩
 | true =>
  have hg := R0.lt
  have R0b := R0.alloc (.cells #[.int .u64 0, .int .u64 0] 73)
  have R1 := Row.new w1 #[.int .u64 0, .int .u64 0] 73
  have hbb : Below w.heap.size w (w1.alloc (.cells #[.int .u64 0, .int .u64 0] 73)) := below_step hb ((Below.refl _ _).alloc (Nat.le_refl _) _)
  have hsz1 := hb.size
  have HW := Lib.hid (And.intro R0b (And.intro R1 hbb))
  clear R0 R0b R1 hbb hb
  have HT := Lib.hid htx
  clear htx
  go_wp2_with fail
  generalize w1.alloc (.cells #[.int .u64 0, .int .u64 0] 73) = w2 at *
  have hgl : Hid (w.heap.size ≤ w1.heap.size ∧ w.heap.size < w1.heap.size) := Lib.hid ⟨hsz1, hg⟩
  clear hsz1 hg
  generalize w1.heap.size = ga at *
  go_loopw [15] (fun i wr => ∃ (j : Nat), j ≤ l.length ∧ i = .int .i64 j ∧ (valT (l.take j) : Int) < MM ∧ Row wr w.heap.size #[.int .u64 0, .int .u64 0] 73 ∧ Row wr ga #[.int .u64 (hi (valT (l.take j))), .int .u64 (lo (valT (l.take j)))] 73 ∧ Below w.heap.size w wr) (fun i _ => l.length - (intOf i).toNat)
  case atStart => 
   obtain ⟨R0, R1, hb⟩ := HW.out
   exact ⟨0, by omega, rfl, by rw [List.take_zero]; decide, R0, by rw [List.take_zero]; exact R1, hb⟩
  case round =>
   clear HW
   obtain ⟨j, hj, rfl, hv, R0, R1, hb⟩ := hrel
   by_cases hlt : j < l.length
   ·have hst := valT_step l j hlt
    obtain ⟨hc1, hc2⟩ := txB_dig HT.out j hlt
    obtain ⟨c, hlj⟩ : ∃ c, l[j] = c := ⟨_, rfl⟩
    rw [hlj] at hst hc1 hc2
    have hsp : j < (⟨l.toArray⟩ : ByteArray).size := by rw [hsz]; exact hlt
    have hch : (⟨l.toArray⟩ : ByteArray)[j]'hsp = c := hlj
    clear hlj
    have hle := valT_take l (j + 1)
    rw [hst] at hle
    have HS := Lib.hid (And.intro hst hle)
    clear hst hle
    obtain ⟨d, hd⟩ : ∃ d : Int, d = (c.toNat : Int) - 48 := ⟨_, rfl⟩
    have hd1 : 0 ≤ d ∧ d ≤ 255 := by omega
    have hx := fun w => extend_t (valT (l.take j) : Int) d (by omega) hv hd1.1 hd1.2 w
    have hwr : IntKind.u8.wrap ((c.toNat : Int) - 48) = d := by rw [← hd]; simp [IntKind.wrap, IntKind.bits, IntKind.signed]; omega
    generalize valT (l.take j) = v at *
    have hjl : (j : Int) < (l.length : Int) := by omega
    have a0 := (R1.cell 0).trans (show _ = some (Value.int .u64 (hi (v : Nat))) from rfl)
    have a1 := (R1.cell 1).trans (show _ = some (Value.int .u64 (lo (v : Nat))) from rfl)
    have HR := Lib.hid (And.intro R0 (And.intro R1 hb))
    have HD := Lib.hid (And.intro hd (And.intro hc1 hc2))
    have hbT : Below wr.heap.size wr wr := Below.refl _ _
    clear R0 R1 hb hd hc1 hc2 hd1
    have HA := Lib.hid (And.intro a0 (And.intro a1 hbT))
    clear a0 a1 hbT
    go_wp2_with fail
    obtain ⟨a0, a1, hbT⟩ := HA.out
    clear HA
    go_cut [6, 7] (fun s6 s7 wx => ∃ gn : Nat, s6 = .pointer (some ⟨gn, 0, none⟩) ∧ s7 = .bool (decide (10 * (v : Int) + d < MM)) ∧ wx.cell? ⟨gn, 0, none⟩ = some (.int .u64 (hi (xtV v d))) ∧ wx.cell? ⟨gn, 1, none⟩ = some (.int .u64 (lo (xtV v d))) ∧ wx.cell? ⟨ga, 0, none⟩ = some (.int .u64 (hi (v : Nat))) ∧ wx.cell? ⟨ga, 1, none⟩ = some (.int .u64 (lo (v : Nat))) ∧ Below wr.heap.size wr wx)
    case first =>
     refine region_any (S := (fun w' => w'.cell? ⟨ga, 0, none⟩ = some (.int .u64 (hi (v : Nat))) ∧ w'.cell? ⟨ga, 1, none⟩ = some (.int .u64 (lo (v : Nat))) ∧ Below wr.heap.size wr w')) (by kernel_rfl) ?hSr1_ (fun wq hH => ?_)
     case hSr1_ => (first | exact ⟨a0, a1, hbT.drew⟩ | exact ⟨cl hb hH.1, cl hb hH.2.1, below_step hH.2.2 hb⟩)
     refine tk 0 ⟨some 19, .load 73 (.tmp 4), 73, _, _, _⟩ hH ?_
     refine tk 1 ⟨some 20, .move (.tmp 0), 9, _, _, _⟩ hH ?_
     refine tk 2 ⟨some 21, .move (.tmp 5), 3, _, _, _⟩ hH ?_
     refine tk 3 ⟨some 22, .index 9 (.tmp 20) (.tmp 21), 5, _, _, _⟩ hH ?_
     refine tk 4 ⟨some 23, .binOp .sub 5 (.tmp 22) (.const (.int .u8 48)) 5, 5, _, _, _⟩ hH ?_
     refine wpAnyH_ready (rs := [5, 9]) (by kernel_rfl) (by simp) ?_
     refine AllReadyH.cons (o := ⟨some 24, .call { callee := .value (.func 103), args := #[.tmp 19, .tmp 23], argTypes := #[73, 5] }, 138, _, _, _⟩) rfl (fun K hK => ?_) ?_
     ·go_simp
      ((refine (hx _).mono ?_); (rintro e wn ⟨rfl, hb⟩); (try replace Rn := Rn.later hb))
      go_wp2_with fail
      refine hK.out _ _ ?hSr1_6_5 fun _ => ?_
      case hSr1_6_5 => (first | exact ⟨a0, a1, hbT.drew⟩ | exact ⟨cl hb hH.1, cl hb hH.2.1, below_step hH.2.2 hb⟩)
      clear hK K hH; rename_i hH
      rename World => wq
      (try simp only [Act.put, nz1, nz2, nz3])
      refine tk 6 ⟨some 18, .move (.tmp 24), 138, _, _, _⟩ hH ?_
      refine tk 7 ⟨some 25, .extract (.tmp 18) 0, 73, _, _, _⟩ hH ?_
      refine tk 8 ⟨some 26, .extract (.tmp 18) 1, 4, _, _, _⟩ hH ?_
      refine wpAnyH_ready (rs := [9]) (by kernel_rfl) (by simp) ?_
      refine AllReadyH.cons (o := ⟨some 6, .alloc 73, 0, _, _, _⟩) rfl (fun K hK => ?_) AllReadyH.nil
      (go_simp; (have ne0 := Nat.ne_of_lt (World.block_lt_of_cell? _ _ hH.1)); (have ne1 := Nat.ne_of_lt (World.block_lt_of_cell? _ _ hH.2.1)); (have mn := hH.2.2.size); (have Rn := Row.new wq #[.int .u64 0, .int .u64 0] 73); (have hb : Below wq.heap.size wq (wq.alloc (.cells #[.int .u64 0, .int .u64 0] 73)) := (Below.refl _ _).alloc (Nat.le_refl _) _); (have hSn := And.intro (cl hb hH.1) (And.intro (cl hb hH.2.1) (below_step hH.2.2 hb))); clear hb; generalize wq.alloc (.cells #[.int .u64 0, .int .u64 0] 73) = wn at *; generalize wq.heap.size = gn at *)
      refine hK.out _ _ ?hSr1_10_9 fun _ => ?_
      case hSr1_10_9 => (exact hSn)
      clear hK K hH; rename_i hH
      rename World => wq
      (try simp only [Act.put, nz1, nz2, nz3])
      refine wpAnyH_ready (rs := [10]) (by kernel_rfl) (by simp) ?_
      refine AllReadyH.cons (o := ⟨none, .store 73 (.tmp 6) (.tmp 25), 0, _, _, _⟩) rfl (fun K hK => ?_) AllReadyH.nil
      ((have c0 := Rn.cell 0); (have c1 := Rn.cell 1); (simp at c0 c1); (have f0 := Rn.frozen 0); (have f1 := Rn.frozen 1); go_simp; clear c0 c1 f0 f1; (have Rm := (Rn.set 0 (.int .u64 (hi (xtV v d)))).set 1 (.int .u64 (lo (xtV v d)))); (simp at Rm))
      refine hK.out _ _ ?hSr1_11_10 fun _ => ?_
      case hSr1_11_10 => (exact ⟨(World.cell?_setCell_far _ _ _ _ ne0.symm).trans ((World.cell?_setCell_far _ _ _ _ ne0.symm).trans hH.1), (World.cell?_setCell_far _ _ _ _ ne1.symm).trans ((World.cell?_setCell_far _ _ _ _ ne1.symm).trans hH.2.1), (hH.2.2.setCell mn _).setCell mn _⟩)
      clear hK K hH; rename_i hH
      rename World => wq
      (try simp only [Act.put, nz1, nz2, nz3])
      refine tk 11 ⟨some 7, .assign (.tmp 26), 4, _, _, _⟩ hH ?_
      refine wpAnyH_done (by kernel_rfl) ?_ _
      (go_wp2_with fail; go_meet; exact ⟨gn, rfl, rfl, (by simpa using Rm.cell 0), (by simpa using Rm.cell 1), hH⟩)
     refine AllReadyH.cons (o := ⟨some 6, .alloc 73, 0, _, _, _⟩) rfl (fun K hK => ?_) AllReadyH.nil
     ·(go_simp; (have ne0 := Nat.ne_of_lt (World.block_lt_of_cell? _ _ hH.1)); (have ne1 := Nat.ne_of_lt (World.block_lt_of_cell? _ _ hH.2.1)); (have mn := hH.2.2.size); (have Rn := Row.new wq #[.int .u64 0, .int .u64 0] 73); (have hb : Below wq.heap.size wq (wq.alloc (.cells #[.int .u64 0, .int .u64 0] 73)) := (Below.refl _ _).alloc (Nat.le_refl _) _); (have hSn := And.intro (cl hb hH.1) (And.intro (cl hb hH.2.1) (below_step hH.2.2 hb))); clear hb; generalize wq.alloc (.cells #[.int .u64 0, .int .u64 0] 73) = wn at *; generalize wq.heap.size = gn at *)
      refine hK.out _ _ ?hSr1_13_9 fun _ => ?_
      case hSr1_13_9 => (exact hSn)
      clear hK K hH; rename_i hH
      rename World => wq
      (try simp only [Act.put, nz1, nz2, nz3])
      refine wpAnyH_ready (rs := [5]) (by kernel_rfl) (by simp) ?_
      refine AllReadyH.cons (o := ⟨some 24, .call { callee := .value (.func 103), args := #[.tmp 19, .tmp 23], argTypes := #[73, 5] }, 138, _, _, _⟩) rfl (fun K hK => ?_) AllReadyH.nil
      go_simp
      ((refine (hx _).mono ?_); (rintro e wn ⟨rfl, hb⟩); (try replace Rn := Rn.later hb))
      go_wp2_with fail
      refine hK.out _ _ ?hSr1_14_5 fun _ => ?_
      case hSr1_14_5 => (first | exact ⟨a0, a1, hbT.drew⟩ | exact ⟨cl hb hH.1, cl hb hH.2.1, below_step hH.2.2 hb⟩)
      clear hK K hH; rename_i hH
      rename World => wq
      (try simp only [Act.put, nz1, nz2, nz3])
      refine tk 6 ⟨some 18, .move (.tmp 24), 138, _, _, _⟩ hH ?_
      refine tk 7 ⟨some 25, .extract (.tmp 18) 0, 73, _, _, _⟩ hH ?_
      refine tk 8 ⟨some 26, .extract (.tmp 18) 1, 4, _, _, _⟩ hH ?_
      refine wpAnyH_ready (rs := [10]) (by kernel_rfl) (by simp) ?_
      refine AllReadyH.cons (o := ⟨none, .store 73 (.tmp 6) (.tmp 25), 0, _, _, _⟩) rfl (fun K hK => ?_) AllReadyH.nil
      ((have c0 := Rn.cell 0); (have c1 := Rn.cell 1); (simp at c0 c1); (have f0 := Rn.frozen 0); (have f1 := Rn.frozen 1); go_simp; clear c0 c1 f0 f1; (have Rm := (Rn.set 0 (.int .u64 (hi (xtV v d)))).set 1 (.int .u64 (lo (xtV v d)))); (simp at Rm))
      refine hK.out _ _ ?hSr1_18_10 fun _ => ?_
      case hSr1_18_10 => (exact ⟨(World.cell?_setCell_far _ _ _ _ ne0.symm).trans ((World.cell?_setCell_far _ _ _ _ ne0.symm).trans hH.1), (World.cell?_setCell_far _ _ _ _ ne1.symm).trans ((World.cell?_setCell_far _ _ _ _ ne1.symm).trans hH.2.1), (hH.2.2.setCell mn _).setCell mn _⟩)
      clear hK K hH; rename_i hH
      rename World => wq
      (try simp only [Act.put, nz1, nz2, nz3])
      refine tk 11 ⟨some 7, .assign (.tmp 26), 4, _, _, _⟩ hH ?_
      refine wpAnyH_done (by kernel_rfl) ?_ _
      (go_wp2_with fail; go_meet; exact ⟨gn, rfl, rfl, (by simpa using Rm.cell 0), (by simpa using Rm.cell 1), hH⟩)
    case rest =>
     clear a0 a1 hbT hx hwr hch
     obtain ⟨gn, rfl, rfl, q0, q1, a0, a1, hbT⟩ := hcut
     clear a0 a1
     obtain ⟨R0, R1, hb⟩ := HR.out
     clear HR
     replace R0 := R0.later hbT
     replace R1 := R1.later hbT
     replace hb := below_step hb hbT
     obtain ⟨hg1, hg2⟩ := hgl.out
     clear hbT
     by_cases hok : 10 * (v : Int) + d < MM
     ·have hdec : decide (10 * (v : Int) + d < MM) = true := by simp [hok]
      rw [hdec]
      obtain ⟨hd, hc1, hc2⟩ := HD.out
      have hxv : xtV (v : Int) d = ((10 * v + (c.toNat - 48) : Nat) : Int) := by
       have hM : (MM : Int) = 340282366920938463463374607431768211456 := rfl
       unfold xtV; rw [if_pos (by omega)]; omega
      have hv2 : ((10 * v + (c.toNat - 48) : Nat) : Int) < MM := by omega
      rw [hxv] at q0 q1
      obtain ⟨hst, hle⟩ := HS.out
      rw [← hst] at q0 q1 hv2
      clear hxv hst hle HS hd hc1 hc2 HD hok hdec
      obtain ⟨v2, ev⟩ : ∃ v2, valT (l.take (j + 1)) = v2 := ⟨_, rfl⟩
      rw [ev] at q0 q1 hv2
      have HV := Lib.hid ev
      clear ev
      have s0 := (R1.cell 0).trans (show _ = some (Value.int .u64 (hi (v : Nat))) from rfl)
      have s1 := (R1.cell 1).trans (show _ = some (Value.int .u64 (lo (v : Nat))) from rfl)
      have f0 := R1.frozen 0
      have f1 := R1.frozen 1
      have R1n := (R1.set 0 (.int .u64 (hi (v2 : Nat)))).set 1 (.int .u64 (lo (v2 : Nat)))
      have R0n := (R0.set_far ⟨ga, 0, none⟩ (.int .u64 (hi (v2 : Nat))) (by dsimp only; omega)).set_far ⟨ga, 1, none⟩ (.int .u64 (lo (v2 : Nat))) (by dsimp only; omega)
      have hbn := (hb.setCell (show w.heap.size ≤ (⟨ga, 0, none⟩ : Addr).block by dsimp only; omega) (.int .u64 (hi (v2 : Nat)))).setCell (show w.heap.size ≤ (⟨ga, 1, none⟩ : Addr).block by dsimp only; omega) (.int .u64 (lo (v2 : Nat)))
      have HE := Lib.hid (And.intro R0n (And.intro R1n hbn))
      clear R0 R1 hb R1n R0n hbn
      go_wp2
      obtain ⟨R0n, R1n, hbn⟩ := HE.out
      exact ⟨⟨j + 1, by omega, by go_num, by rw [HV.out]; exact hv2, R0n, by rw [HV.out]; exact R1n, hbn⟩, by simp [intOf]; omega⟩
     ·have hdec : decide (10 * (v : Int) + d < MM) = false := by simp; omega
      rw [hdec]
      obtain ⟨hd, hc1, hc2⟩ := HD.out
      obtain ⟨hst, hle⟩ := HS.out
      have HP := Lib.hid (pw_over HT.out (by omega))
      clear hst hle HS hd hc1 hc2 HD hok hdec
      have s0 := (R0.cell 0).trans (show _ = some (Value.int .u64 0) from rfl)
      have s1 := (R0.cell 1).trans (show _ = some (Value.int .u64 0) from rfl)
      have f0 := R0.frozen 0
      have f1 := R0.frozen 1
      have Rf := (R0.set 0 (.int .u64 0)).set 1 (.int .u64 0)
      have e0 := (Rf.cell 0).trans (show _ = some (Value.int .u64 0) from rfl)
      have e1 := (Rf.cell 1).trans (show _ = some (Value.int .u64 0) from rfl)
      have HE := Lib.hid (And.intro e0 (And.intro e1 hb))
      clear R0 R1 Rf e0 e1 hb
      go_wp2
      obtain ⟨e0, e1, hb⟩ := HE.out
      exact bodyPost_ret (v := .tuple #[.agg #[.int .u64 0, .int .u64 0], .int .i64 11]) (by simp only [results, Tryz.results61]; simp [go_sem, e0, e1]) rfl ⟨by rw [HP.out, hi0, lo0], (hb.setCell (by dsimp only; omega) _).setCell (by dsimp only; omega) _⟩
   ·have hjl : ¬ (j : Int) < (l.length : Int) := by omega
    rw [List.take_of_length_le (by omega)] at hv R1
    have HP := Lib.hid (pw_ok HT.out hv)
    clear hv
    generalize valT l = v at *
    obtain ⟨hg1, hg2⟩ := hgl.out
    have s0 := (R0.cell 0).trans (show _ = some (Value.int .u64 0) from rfl)
    have s1 := (R0.cell 1).trans (show _ = some (Value.int .u64 0) from rfl)
    have f0 := R0.frozen 0
    have f1 := R0.frozen 1
    have a0 := (R1.cell 0).trans (show _ = some (Value.int .u64 (hi (v : Nat))) from rfl)
    have a1 := (R1.cell 1).trans (show _ = some (Value.int .u64 (lo (v : Nat))) from rfl)
    have Rf := (R0.set 0 (.int .u64 (hi (v : Nat)))).set 1 (.int .u64 (lo (v : Nat)))
    have e0 := (Rf.cell 0).trans (show _ = some (Value.int .u64 (hi (v : Nat))) from rfl)
    have e1 := (Rf.cell 1).trans (show _ = some (Value.int .u64 (lo (v : Nat))) from rfl)
    have HE := Lib.hid (And.intro e0 (And.intro e1 hb))
    clear R0 R1 Rf e0 e1 hb
    go_wp2
    obtain ⟨e0, e1, hb⟩ := HE.out
    exact bodyPost_ret (v := .tuple #[.agg #[.int .u64 (hi (v : Nat)), .int .u64 (lo (v : Nat))], .int .i64 0]) (by simp only [results, Tryz.results61]; simp [go_sem, e0, e1]) rfl ⟨by rw [HP.out], (hb.setCell (by dsimp only; omega) _).setCell (by dsimp only; omega) _⟩
def pn (l : List UInt8) (m : Int) : Int × Int := if (pw l).2 = 0 then (if (pw l).1 ≤ m then ((pw l).1, 0) else (0, 11)) else (0, (pw l).2)
theorem pw_range (l : List UInt8) : 0 ≤ (pw l).1 ∧ (pw l).1 < MM := by
 have hM : (MM : Int) = 340282366920938463463374607431768211456 := rfl
 unfold pw
 split
 ·split
  ·dsimp only; omega
  ·dsimp only; omega
 ·dsimp only; omega
theorem parse_t (l : List UInt8) (hl : l.length ≤ 2000000) (m : Int) (hm0 : 0 ≤ m) (hm1 : m < 18446744073709551616) (w : World) : Calls Tryz.prog 23 #[.string ⟨l.toArray⟩, .int .u64 m] w fun e w' => e = .returned (.tuple #[.int .u64 (pn l m).1, .int .i64 (pn l m).2]) ∧ Below w.heap.size w w' := by
 have hM : (MM : Int) = 340282366920938463463374607431768211456 := rfl
 obtain ⟨hr0, hr1⟩ := pw_range l
 have hpw := fun w => pwide_t l hl w
 have hcm := fun w => cmp_h (pw l).1 m w
 rw [show hi m = 0 by unfold hi; omega, show lo m = m by unfold lo; omega, Int.emod_eq_of_lt hr0 hr1, Int.emod_eq_of_lt hm0 (by omega)] at hcm
 have hlo : (pw l).1 ≤ m → lo (pw l).1 = (pw l).1 := fun h => by unfold lo; omega
 have hcg : (0 < cmpI (pw l).1 m) ↔ ¬ (pw l).1 ≤ m := by unfold cmpI; split <;> (try split) <;> omega
 have n1 : (pw l).2 = 0 → (pw l).1 ≤ m → pn l m = ((pw l).1, 0) := fun a b => by unfold pn; rw [if_pos a, if_pos b]
 have n2 : (pw l).2 = 0 → ¬ (pw l).1 ≤ m → pn l m = (0, 11) := fun a b => by unfold pn; rw [if_pos a, if_neg b]
 have n3 : ¬ (pw l).2 = 0 → pn l m = (0, (pw l).2) := fun a => by unfold pn; rw [if_neg a]
 generalize pn l m = r at *
 generalize (pw l).1 = p at *
 generalize (pw l).2 = er at *
 have HN := Lib.hid (And.intro n1 (And.intro n2 (And.intro n3 (And.intro hlo hcg))))
 clear n1 n2 n3 hlo hcg hM hr0 hr1
 have HB := Lib.hid (Below.refl w.heap.size w)
 go_enter Tryz.func23, Tryz.ntmps23
 go_wp2_with fail
 refine (hpw w).mono ?_
 rintro e w1 ⟨rfl, hb⟩
 clear HB hpw
 by_cases he : er = 0
 ·subst he
  have HK : Hid ((¬ 0 < cmpI p m ∧ r = (p, 0) ∧ lo p = p) ∨ (0 < cmpI p m ∧ r = (0, 11))) := by
   obtain ⟨n1, n2, n3, hlo, hcg⟩ := HN.out
   refine Lib.hid ?_
   by_cases hle : p ≤ m
   ·exact .inl ⟨fun h => by have := hcg.1 h; omega, n1 rfl hle, hlo hle⟩
   ·exact .inr ⟨hcg.2 (by omega), n2 rfl (by omega)⟩
  clear HN
  have c0 := (Row.new w1 #[.int .u64 (hi p), .int .u64 (lo p)] 73).cell 0
  have c1 := (Row.new w1 #[.int .u64 (hi p), .int .u64 (lo p)] 73).cell 1
  have hbn : Below w.heap.size w (w1.alloc (.cells #[.int .u64 (hi p), .int .u64 (lo p)] 73)) := below_step hb ((Below.refl _ _).alloc (Nat.le_refl _) _)
  replace c0 := c0.trans (show _ = some (Value.int .u64 (hi p)) from rfl)
  replace c1 := c1.trans (show _ = some (Value.int .u64 (lo p)) from rfl)
  have HW := Lib.hid (And.intro c0 (And.intro c1 hbn))
  clear c0 c1 hbn hb
  go_wp2_with fail
  obtain ⟨c0, c1, hbn⟩ := HW.out
  clear HW
  generalize w1.alloc (.cells #[.int .u64 (hi p), .int .u64 (lo p)] 73) = w2 at *
  generalize w1.heap.size = ga at *
  have hbd := hbn.drew
  refine wp_region_held_drew (S := (fun w' => w'.cell? ⟨ga, 0, none⟩ = some (.int .u64 (hi p)) ∧ w'.cell? ⟨ga, 1, none⟩ = some (.int .u64 (lo p)) ∧ Below w.heap.size w w')) (by kernel_rfl) ?hSr2_ (fun hH => ?_)
  case hSr2_ => (first | exact ⟨c0, c1, hbd⟩ | exact ⟨cl hb hH.1, cl hb hH.2.1, below_step hH.2.2 hb⟩)
  refine tk 0 ⟨some 16, .load 73 (.tmp 6), 73, _, _, _⟩ hH ?_
  refine tk 1 ⟨some 17, .move (.tmp 1), 24, _, _, _⟩ hH ?_
  refine wpAnyH_ready (rs := [2]) (by kernel_rfl) (by simp) ?_
  refine AllReadyH.cons (o := ⟨some 18, .call { callee := .value (.func 63), args := #[.tmp 17], argTypes := #[24] }, 73, _, _, _⟩) rfl (fun K hK => ?_) AllReadyH.nil
  go_simp
  ((refine (of_any _ _).mono ?_); (rintro e wn ⟨rfl, hb⟩))
  go_wp2_with fail
  refine hK.out _ _ ?hSr2_3_2 fun _ => ?_
  case hSr2_3_2 => (first | exact ⟨c0, c1, hbd⟩ | exact ⟨cl hb hH.1, cl hb hH.2.1, below_step hH.2.2 hb⟩)
  clear hK K hH; rename_i hH
  (try simp only [Act.put, nz1, nz2, nz3])
  refine wpAnyH_ready (rs := [3]) (by kernel_rfl) (by simp) ?_
  refine AllReadyH.cons (o := ⟨some 19, .call { callee := .value (.func 62), args := #[.tmp 16, .tmp 18], argTypes := #[73, 73] }, 3, _, _, _⟩) rfl (fun K hK => ?_) AllReadyH.nil
  go_simp
  ((refine (hcm _).mono ?_); (rintro e wm ⟨rfl, hb⟩))
  go_wp2_with fail
  refine hK.out _ _ ?hSr2_4_3 fun _ => ?_
  case hSr2_4_3 => (first | exact ⟨c0, c1, hbd⟩ | exact ⟨cl hb hH.1, cl hb hH.2.1, below_step hH.2.2 hb⟩)
  clear hK K hH; rename_i hH
  (try simp only [Act.put, nz1, nz2, nz3])
  refine tk 4 ⟨some 20, .binOp .gtr 3 (.tmp 19) (.const (.int .i64 0)) 3, 4, _, _, _⟩ hH ?_
  refine wpAnyH_done (by kernel_rfl) ?_ _
  have h0 := hH.1
  have h1 := hH.2.1
  have HB := Lib.hid hH.2.2
  clear hH
  rcases HK.out with ⟨k1, k2, k3⟩ | ⟨k1, k2⟩
  ·have q1 : ¬ 0 < cmpI p m := by omega
   have HR := Lib.hid k2
   have HL := Lib.hid k3
   clear k1 k2 k3 HK
   go_wp2
   exact bodyPost_ret (v := .tuple #[.int .u64 (lo p), .int .i64 0]) (by simp only [results, Tryz.results23]; simp [go_sem]) rfl ⟨by rw [HR.out]; exact congrArg (fun x => Ending.returned (.tuple #[.int .u64 x, .int .i64 0])) HL.out, HB.out⟩
  ·have q1 : 0 < cmpI p m := by omega
   have HR := Lib.hid k2
   clear k1 k2 HK
   go_wp2
   exact bodyPost_ret (v := .tuple #[.int .u64 0, .int .i64 11]) (by simp only [results, Tryz.results23]; simp [go_sem]) rfl ⟨by rw [HR.out], HB.out⟩
 ·have HR := Lib.hid (HN.out.2.2.1 he)
  have he' : (er == 0) = false := by simp [he]
  have hbn : Below w.heap.size w (w1.alloc (.cells #[.int .u64 (hi p), .int .u64 (lo p)] 73)) := below_step hb ((Below.refl _ _).alloc (Nat.le_refl _) _)
  have HB := Lib.hid hbn
  clear hbn hb HN
  go_wp2
  exact bodyPost_ret (v := .tuple #[.int .u64 0, .int .i64 er]) (by simp only [results, Tryz.results23]; simp [go_sem]) rfl ⟨by rw [HR.out], HB.out⟩
end Go.Proofs.YtboinifeemghaaaGreatDoor
namespace Go.Proofs.YtboinifeemghaaaGreatDoor
theorem valT_snoc (l : List UInt8) (c : UInt8) : valT (l ++ [c]) = 10 * valT l + (c.toNat - 48) := valA_append l [c] 0
theorem valT_dec (n : Nat) : valT (decN n) = n := by
 induction n using Nat.strongRecOn with
 | _ n ih =>
  by_cases h : n < 10
  ·rw [decN_small h]
   show 10 * 0 + ((dg n).toNat - 48) = n
   rw [dg_toNat]; omega
  ·rw [decN_big h, valT_snoc, ih (n / 10) (by omega), dg_toNat]; omega
theorem dec_allN (n : Nat) : (decN n).all dgB = true := by
 induction n using Nat.strongRecOn with
 | _ n ih =>
  have hd : dgB (dg n) = true := by unfold dgB; rw [dg_toNat]; simp; omega
  by_cases h : n < 10
  ·rw [decN_small h]; simp [hd]
  ·rw [decN_big h, List.all_append, ih (n / 10) (by omega)]; simp [hd]
theorem dec_head (n : Nat) (h0 : n ≠ 0) : (decN n).head? ≠ some 48 := by
 induction n using Nat.strongRecOn with
 | _ n ih =>
  by_cases h : n < 10
  ·rw [decN_small h]
   intro e
   have h2 := dg_ne (n := n) (by omega)
   simp only [List.head?_cons, Option.some.injEq] at e
   rw [e] at h2
   simp at h2
  ·rw [decN_big h]
   have hne := decN_ne (n / 10)
   have := ih (n / 10) (by omega) (by omega)
   cases hq : decN (n / 10) with
   | nil => exact absurd hq hne
   | cons a b => rw [hq] at this; simpa using this
theorem dec_tx (n : Nat) : txB (decN n) = true := by
 unfold txB
 rw [dec_allN]
 by_cases h : n = 0
 ·subst h; rw [decN_small (by omega)]; decide
 ·have h1 := decN_ne n
  have h2 := dec_head n h
  have e1 : (decN n).isEmpty = false := by simpa using h1
  have e2 : ((decN n).head? != some 48) = true := by simpa [bne_iff_ne] using h2
  rw [e1, e2]; simp
theorem dec_zero : decN 0 = [48] := by rw [decN_small (by omega)]; decide
theorem dec_val_aux : ∀ (k : Nat) (l : List UInt8), l.length = k → l ≠ [] → l.all dgB = true → l.head? ≠ some 48 → decN (valT l) = l := by
 intro k
 induction k with
 | zero => intro l h hn; exact absurd (List.length_eq_zero_iff.1 h) hn
 | succ k ih =>
  intro l hl hn ha hh
  have hsp := List.dropLast_concat_getLast hn
  generalize l.dropLast = m at hsp
  generalize l.getLast hn = c at hsp
  subst hsp
  have hm : m.length = k := by simpa using hl
  rw [List.all_append, Bool.and_eq_true] at ha
  obtain ⟨ha1, ha2⟩ := ha
  have hc : 48 ≤ c.toNat ∧ c.toNat ≤ 57 := by simpa [dgB] using ha2
  rw [valT_snoc]
  have hdg : ∀ v, dg (10 * v + (c.toNat - 48)) = c := fun v => by
   apply UInt8.toNat_inj.1
   rw [dg_toNat]; omega
  by_cases hm0 : m = []
  ·subst hm0
   have e := hdg 0
   rw [show valT [] = 0 from rfl, decN_small (by omega), e]; rfl
  ·have hh2 : m.head? ≠ some 48 := by
    cases m with
    | nil => exact absurd rfl hm0
    | cons a b => simpa using hh
   have e := ih m hm hm0 ha1 hh2
   have hv : valT m ≠ 0 := by
    intro h0
    rw [h0, dec_zero] at e
    rw [← e] at hh2
    exact hh2 rfl
   rw [decN_big (by omega), hdg, show (10 * valT m + (c.toNat - 48)) / 10 = valT m by omega, e]
theorem dec_val {l : List UInt8} (h : txB l = true) : decN (valT l) = l := by
 unfold txB at h
 rw [Bool.and_eq_true, Bool.or_eq_true] at h
 obtain ⟨h1, h2⟩ := h
 rcases h2 with h2 | h2
 ·have e : l = [48] := by simpa using h2
  subst e
  exact dec_zero
 ·rw [Bool.and_eq_true] at h2
  have a : l ≠ [] := by simpa using h2.1
  have b : l.head? ≠ some 48 := by simpa [bne_iff_ne] using h2.2
  exact dec_val_aux _ l rfl a h1 b
theorem dec_len_pos (n : Nat) : 1 ≤ (decN n).length := by
 have := decN_ne n
 cases h : decN n with
 | nil => exact absurd h this
 | cons a b => simp
theorem dec_len_ge (n : Nat) (h0 : n ≠ 0) : 10 ^ ((decN n).length - 1) ≤ n := by
 induction n using Nat.strongRecOn with
 | _ n ih =>
  by_cases h : n < 10
  ·rw [decN_small h]; simp; omega
  ·rw [decN_big h, List.length_append]
   have h1 := ih (n / 10) (by omega) (by omega)
   have h2 := dec_len_pos (n / 10)
   show 10 ^ ((decN (n / 10)).length + 1 - 1) ≤ n
   rw [Nat.add_sub_cancel]
   obtain ⟨k, hk⟩ : ∃ k, (decN (n / 10)).length = k + 1 := ⟨(decN (n / 10)).length - 1, by omega⟩
   rw [hk] at h1 ⊢
   rw [Nat.add_sub_cancel] at h1
   rw [Nat.pow_succ]; omega
theorem dec_len_39 (n : Nat) (h : n < 10 ^ 39) : (decN n).length ≤ 39 := by
 by_cases h0 : n = 0
 ·subst h0; rw [dec_zero]; decide
 ·have := dec_len_ge n h0
  have h2 : 10 ^ ((decN n).length - 1) < 10 ^ 39 := by omega
  have h3 := (Nat.pow_lt_pow_iff_right (by decide : 1 < 10)).1 h2
  omega
def digs (l : List UInt8) : Prop := ∀ c ∈ l, 48 ≤ c.toNat ∧ c.toNat ≤ 57
theorem dec_digs (n : Nat) : digs (decN n) := by
 intro c hc
 have := List.all_eq_true.1 (dec_allN n) c hc
 simpa [dgB] using this
theorem lt39 {n : Nat} (hn : (n : Int) < MM) : n < 10 ^ 39 := by
 have h : (MM : Int) = 340282366920938463463374607431768211456 := rfl
 have h2 : (10 : Nat) ^ 39 = 1000000000000000000000000000000000000000 := by rfl
 omega
end Go.Proofs.YtboinifeemghaaaGreatDoor
namespace Go.Proofs.YtboinifeemghaaaGreatDoor
open Go.RowKit
theorem bs_size (l : List UInt8) : (⟨l.toArray⟩ : ByteArray).size = l.length := by simp [ByteArray.size]
def memB (c : UInt8) : Bool := (decide (97 ≤ c.toNat) && decide (c.toNat ≤ 122)) || (decide (48 ≤ c.toNat) && decide (c.toNat ≤ 57)) || decide (c.toNat = 95)
def labB (l : List UInt8) : Bool := l.all memB && decide (l ≠ []) && decide (l.length ≤ 16)
theorem member_t (c : UInt8) (w : World) : Calls Tryz.prog 140 #[.int .u8 c.toNat] w fun e w' => e = .returned (.bool (memB c)) ∧ w = w' := by
 unfold memB
 have hc : c.toNat < 256 := c.toNat_lt
 generalize c.toNat = n at *
 go_enter Tryz.func140, Tryz.ntmps140
 by_cases h1 : 97 ≤ n
 ·by_cases h2 : n ≤ 122
  ·have h1' : (97 : Int) ≤ n := by omega
   have h2' : (n : Int) ≤ 122 := by omega
   go_wp2
   go_ret
   exact ⟨by simp [h1, h2], rfl⟩
  ·have h1' : (97 : Int) ≤ n := by omega
   have h2' : ¬ (n : Int) ≤ 122 := by omega
   have h3' : (48 : Int) ≤ n := by omega
   have h4' : ¬ (n : Int) ≤ 57 := by omega
   have h5' : ((n : Int) == 95) = false := by simp; omega
   have h5 : ¬ (n : Int) = 95 := by omega
   go_wp2
   go_ret
   exact ⟨by simp <;> omega, rfl⟩
 ·have h1' : ¬ (97 : Int) ≤ n := by omega
  by_cases h3 : 48 ≤ n
  ·have h3' : (48 : Int) ≤ n := by omega
   by_cases h4 : n ≤ 57
   ·have h4' : (n : Int) ≤ 57 := by omega
    go_wp2
    go_ret
    exact ⟨by simp [h3, h4], rfl⟩
   ·have h4' : ¬ (n : Int) ≤ 57 := by omega
    by_cases h5 : n = 95
    ·subst h5
     go_wp2
     go_ret
     exact ⟨rfl, rfl⟩
    ·have h5' : ((n : Int) == 95) = false := by simp; omega
     have h5'' : ¬ (n : Int) = 95 := by omega
     go_wp2
     go_ret
     exact ⟨by simp <;> omega, rfl⟩
  ·have h3' : ¬ (48 : Int) ≤ n := by omega
   have h5' : ((n : Int) == 95) = false := by simp; omega
   have h5 : ¬ (n : Int) = 95 := by omega
   go_wp2
   go_ret
   exact ⟨by simp <;> omega, rfl⟩
theorem labB_bad {l : List UInt8} {j : Nat} (hj : j < l.length) (h : j = 16 ∨ memB l[j] = false) : labB l = false := by
 unfold labB
 rcases h with rfl | h
 ·have : ¬ l.length ≤ 16 := by omega
  simp [this]
 ·have : l.all memB = false := by rw [List.all_eq_false]; exact ⟨l[j], List.getElem_mem hj, by simp [h]⟩
  simp [this]
theorem labB_ok {l : List UInt8} (h : ∀ i (hi : i < l.length), memB l[i] = true) (hl : l.length ≤ 16) : labB l = decide (l ≠ []) := by
 unfold labB
 have : l.all memB = true := by rw [List.all_eq_true]; intro x hx; obtain ⟨i, hi, rfl⟩ := List.getElem_of_mem hx; exact h i hi
 simp [this, hl]
theorem ne_empty (l : List UInt8) : (⟨l.toArray⟩ : ByteArray) = ⟨#[]⟩ ↔ l = [] := by
 constructor
 ·intro h
  have := congrArg (fun b : ByteArray => b.data.toList) h
  simpa using this
 ·rintro rfl; rfl
theorem isLabel_t (l : List UInt8) (hl : l.length ≤ 140737488355328) (w : World) : Calls Tryz.prog 115 #[.string ⟨l.toArray⟩] w fun e w' => e = .returned (.bool (labB l)) ∧ w = w' := by
 have hsz := bs_size l
 go_enter Tryz.func115, Tryz.ntmps115
 go_wp2_with fail
 go_loopw [6] (fun i wr => ∃ (j : Nat), j ≤ l.length ∧ i = .int .i64 j ∧ j ≤ 16 ∧ Hid (∀ i (hi : i < j) (hl : i < l.length), memB l[i] = true) ∧ wr = w) (fun i _ => l.length - (intOf i).toNat)
 case atStart => exact ⟨0, by omega, rfl, by omega, Lib.hid (fun i hi => by omega), rfl⟩
 case round =>
  obtain ⟨j, hj, rfl, h16, hm, rfl⟩ := hrel
  by_cases hlt : j < l.length
  ·obtain ⟨c, hlj⟩ : ∃ c, l[j] = c := ⟨_, rfl⟩
   have hsp : j < (⟨l.toArray⟩ : ByteArray).size := by rw [hsz]; exact hlt
   have hch : (⟨l.toArray⟩ : ByteArray)[j]'hsp = c := hlj
   have HJ := Lib.hid hlj
   clear hlj
   by_cases h : j = 16
   ·have HB := Lib.hid (labB_bad hlt (.inl h))
    subst h
    go_wp2
    go_ret
    exact ⟨by rw [HB.out]; rfl, rfl⟩
   ·have e16 : ((j : Int) == 16) = false := by simp; omega
    have e16' : ¬ (j : Int) = 16 := by omega
    cases hmb : memB c with
    | false =>
     have HB := Lib.hid (labB_bad hlt (.inr (by rw [HJ.out]; exact hmb)))
     go_wp2_with fail
     refine (member_t c wr).mono ?_
     rintro e w1 ⟨rfl, rfl⟩
     rw [hmb]
     clear hmb
     go_wp2
     go_ret
     exact ⟨by rw [HB.out]; rfl, rfl⟩
    | true =>
     have HM := Lib.hid (show ∀ i (hi : i < j + 1) (hl : i < l.length), memB l[i] = true from fun i hi hl => by
      by_cases e : i = j
      ·subst e; rw [HJ.out]; exact hmb
      ·exact hm.out i (by omega) hl)
     go_wp2_with fail
     refine (member_t c wr).mono ?_
     rintro e w1 ⟨rfl, rfl⟩
     rw [hmb]
     clear hmb hm
     go_wp2
     exact ⟨⟨j + 1, by omega, by go_num, by omega, HM, trivial⟩, by simp [intOf]; omega⟩
  ·have hjl : j = l.length := by omega
   have HB := Lib.hid (labB_ok (l := l) (fun i hi => hm.out i (by omega) hi) (by omega))
   clear hm
   by_cases h0 : l = []
   ·subst h0
    go_wp2
    go_ret
    exact ⟨by rw [HB.out]; rfl, rfl⟩
   ·have hne : ¬ (⟨l.toArray⟩ : ByteArray) = ⟨#[]⟩ := fun h => h0 ((ne_empty l).1 h)
    subst hjl
    go_wp2
    go_ret
    exact ⟨by rw [HB.out]; simp [hne, h0], rfl⟩
def SeqN (F : Fence) (n : Nat) (P : Program) (g : Nat) (lb : Array Value) (f : Nat → Array Value) (Kp : World → World → Prop) (N : Nat) (w : World) : Prop :=
 ∀ (l : Nat) (J Jx : Nat → World → Prop) (W : World), Below w.heap.size w W → AbidesFrom W.heap.size J → AbidesFrom W.heap.size Jx →
  (∀ k V, k < N → J k V → YieldAt F (n - 1) P l (f k) V fun e V' => (e = .returned (.bool true) ∧ J (k + 1) V' ∧ Kp V V') ∨ (e = .returned (.bool false) ∧ Jx (k + 1) V')) →
  J 0 W → CallsIn F n P g (#[.func (.yield l) #[] #[]] ++ lb) W fun e W' => (∃ v, e = .returned v) ∧ (J N W' ∨ ∃ k, k ≤ N ∧ Jx k W')
def roundQ (B : Nat) (Kp : World → World → Prop) (I : Nat → World → Prop) (Ix : Code → Nat → World → Prop) (k : Nat) (W : World) : Exit → Act → World → Prop
 | .normal, _, W' => KeepsFrom B W W' ∧ Kp W W' ∧ I (k + 1) W'
 | .ret, _, W' => KeepsFrom B W W' ∧ Ix .ret (k + 1) W'
 | .exit id, _, W' => KeepsFrom B W W' ∧ Ix (.exit id) (k + 1) W'
 | .goto t, _, W' => KeepsFrom B W W' ∧ Ix (.goto t) (k + 1) W'
 | .panic _, _, _ => False
 | .outgrown, _, _ => False
theorem wpIn_rangeN {F : Fence} {n : Nat} {P : Program} {g : Operand} {ps : Array Tmp} {assign body : Code} {Q : Exit → Act → World → Prop} {a : Act} {w : World}
  (hro : F.round = none) (h1 : 1 ≤ n) {gf : Nat} {lb : Array Value} (hg : a.eval g = .func (.func gf) #[] lb) (hFg : F.fn gf) (eg : ∀ args w, (callFunc gf args).run P w = .ok (.enter gf args) w)
  {f : Nat → Array Value} {Kp : World → World → Prop} {N : Nat} {w0 : World} (hseq : SeqN F (n - 1) P gf lb f Kp N w0)
  (hKt : ∀ {A B C : World}, Kp A B → Kp B C → Kp A C) (hKb : ∀ (W : World) (l : Nat) (o o' : Obj), w.heap.size ≤ l → W.heap[l]? = some o → o.isCells = false → o.isWalk = false → Kp W (W.putObj l o')) (hb0 : Below w0.heap.size w0 w) (hps : ∀ k, (f k).size = ps.size)
  (I : Nat → World → Prop) (Ix : Code → Nat → World → Prop) (hI : OwnFrom w.heap.size I) (hIx : ∀ c, OwnFrom w.heap.size (Ix c)) (h0 : I 0 w) (a1 : Nat → Act)
  (hassign : ∀ (l k : Nat) (W : World) (K : Act → World → Prop), K (a1 k) W →
   assign.wpIn (F.inRound l) (n - 1 - 1) P (Exit.then K (fun _ _ _ => False)) { tmps := (ps.zip (f k)).foldl (fun t (p, v) => t.setIfInBounds p v) a.tmps, defers := [] } W)
  (hbody : ∀ (l k : Nat) (W : World), k < N → I k W → body.wpIn (F.inRound l) (n - 1 - 1) P (roundQ w.heap.size Kp I Ix k W) (a1 k) W)
  (hdone : ∀ (D : Nat) (W : World), w.heap.size ≤ D → I N W → W.heap[D]? = some (.deferred (some [])) → Q .normal { a with defers := { target := .collected D, args := #[] } :: a.defers } W)
  (hstop : ∀ (D : Nat) (c : Code) (k : Nat) (W : World), w.heap.size ≤ D → k ≤ N → Ix c k W → W.heap[D]? = some (.deferred (some [])) → c.wpIn F n P Q { a with defers := { target := .collected D, args := #[] } :: a.defers } W) :
  (Code.rangeFunc g ps assign body).wpIn F n P Q a w := by
 refine wpIn_rangeFunc fun fn hfn => ?_
 rw [hro]
 -- the loop's record, the block for deferred calls below it
 obtain ⟨rec, hrec⟩ : ∃ rec : LoopState → Option Code → Loop, rec = fun st pe => { state := st, pending := pe, fn, tmps := a.tmps, params := ps, assign, body, defers := w.heap.size } := ⟨_, rfl⟩
 obtain ⟨V, hV⟩ : ∃ V, (w.alloc (.deferred (some []))).alloc (.loop (rec .ready none)) = V := ⟨_, rfl⟩
 have rec1 : V.heap[w.heap.size + 1]? = some (.loop (rec .ready none)) := by
  rw [← hV]; have := World.alloc_heap_new (w.alloc (.deferred (some []))) (.loop (rec .ready none)); rwa [World.size_alloc] at this
 have def1 : V.heap[w.heap.size]? = some (.deferred (some [])) := by
  rw [← hV]; exact (Below.heap_alloc _ _ _ (by simp)).trans (World.alloc_heap_new w _)
 have I1 : I 0 V := by rw [← hV]; exact hI.alloc _ (hI.alloc _ h0)
 have B1 : Below w0.heap.size w0 V := by
  rw [← hV]; exact hb0.trans ((((Below.refl _ w).alloc (Nat.le_refl _) _).alloc (by simp) _).mono hb0.size)
 have away : ∀ {A : World} {row : Option Nat}, (∀ r, row = some r → V.heap.size ≤ r ∧ ∃ o : Obj, A.heap[r]? = some o ∧ o.isWalk = true) → (∀ r, row = some r → w.heap.size ≤ r ∧ ∃ o : Obj, A.heap[r]? = some o ∧ o.isCells = false) :=
  fun hr r e => by obtain ⟨hB, o, ho, hw⟩ := hr r e; exact ⟨by rw [← hV] at hB; simp at hB; omega, o, ho, Obj.not_cells_of_walk hw⟩
 refine ⟨w.heap.size + 1, [{ target := .collected w.heap.size, args := #[] }], V, { target := .fn (.func gf) lb, args := #[.func (.yield (w.heap.size + 1)) #[] #[]] }, V, gf,
  #[.func (.yield (w.heap.size + 1)) #[] #[]] ++ lb, V, ?_, ?_, ?_, ?_, fun _ => h1, ?_⟩
 ·rw [← hV, hrec]; exact run_enterLoop_outer _ _ _ _ _
 ·simp only [resolve, hg]; simp [go_sem]
 ·intro f' hf'; simp [Target.leads] at hf'; subst hf'; exact hFg
 ·simp [invoke, go_sem, eg]
 refine (hseq (w.heap.size + 1)
  (fun k W => I k W ∧ W.heap[w.heap.size + 1]? = some (.loop (rec .ready none)) ∧ W.heap[w.heap.size]? = some (.deferred (some [])))
  (fun k W => ∃ c, Ix c k W ∧ W.heap[w.heap.size + 1]? = some (.loop (rec .done (some c))) ∧ W.heap[w.heap.size]? = some (.deferred (some [])))
  V B1
  (fun s A B row hs hg' hr => ⟨hI s A B row hs.1 hg' (away hr), (grownBy_keeps hg' (fun r e => (hr r e).2) hs.2.1 rfl).trans hs.2.1, (grownBy_keeps hg' (fun r e => (hr r e).2) hs.2.2 rfl).trans hs.2.2⟩)
  (fun s A B row hs hg' hr => hs.elim fun c hc => ⟨c, hIx c s A B row hc.1 hg' (away hr), (grownBy_keeps hg' (fun r e => (hr r e).2) hc.2.1 rfl).trans hc.2.1, (grownBy_keeps hg' (fun r e => (hr r e).2) hc.2.2 rfl).trans hc.2.2⟩)
  ?_ ⟨I1, rec1, def1⟩).mono ?_
 ·rintro k W hk ⟨hi, hl, hd⟩
  have hlt : w.heap.size + 1 < W.heap.size := (Array.getElem?_eq_some_iff.1 hl).1
  have hy := run_yield (P := P) (args := f k) hl (by rw [hrec]; exact hps k)
  rw [hrec] at hy
  refine ⟨fn, _, assign, body, hy, roundIn_of_wpIn hfn (hassign _ k W _ ⟨_, run_beginRound hl (by rw [hrec]), ?_⟩)⟩
  obtain ⟨U, hU⟩ : ∃ U, W.putObj (w.heap.size + 1) (.loop { rec .ready none with state := .busy }) = U := ⟨_, rfl⟩
  have l2 : U.heap[w.heap.size + 1]? = some (.loop { rec .ready none with state := .busy }) := by rw [← hU]; exact World.putObj_heap_same hlt
  have d2 : U.heap[w.heap.size]? = some (.deferred (some [])) := by rw [← hU]; exact (World.putObj_heap_other (by omega)).trans hd
  have k2 : Kp W U := by rw [← hU]; exact hKb _ _ _ _ (by omega) hl rfl rfl
  have i2 : I k U := by rw [← hU]; exact hI.putObj _ hi (by omega) hl rfl
  rw [hU]
  refine wpIn_mono (hbody _ k U hk i2) ?_
  have fin : ∀ (jump : Option Code) (X : World), KeepsFrom w.heap.size U X →
    (Instr.endRound (w.heap.size + 1) jump).run P X = .ok (.bool jump.isNone) (X.putObj (w.heap.size + 1) (.loop (rec (if jump.isNone then .ready else .done) jump))) ∧
    X.heap[w.heap.size + 1]? = some (.loop { rec .ready none with state := .busy }) ∧
    (X.putObj (w.heap.size + 1) (.loop (rec (if jump.isNone then .ready else .done) jump))).heap[w.heap.size + 1]? = some (.loop (rec (if jump.isNone then .ready else .done) jump)) ∧
    (X.putObj (w.heap.size + 1) (.loop (rec (if jump.isNone then .ready else .done) jump))).heap[w.heap.size]? = some (.deferred (some [])) := fun jump X hX => by
   have l3 := hX.same _ _ (by omega) l2 rfl
   have := run_endRound (P := P) jump l3
   rw [hrec] at this ⊢
   exact ⟨this, by rw [hrec] at l3; exact l3, World.putObj_heap_same (Array.getElem?_eq_some_iff.1 l3).1, (World.putObj_heap_other (by omega)).trans (hX.same _ _ (Nat.le_refl _) d2 rfl)⟩
  rintro e b X hp
  cases e with
  | normal =>
   obtain ⟨r, l3, l4, d4⟩ := fin none X hp.1
   exact ⟨_, _, r, .inl ⟨rfl, ⟨hI.putObj _ hp.2.2 (by omega) l3 rfl, l4, d4⟩, hKt (hKt k2 hp.2.1) (hKb _ _ _ _ (by omega) l3 rfl rfl)⟩⟩
  | ret =>
   obtain ⟨r, l3, l4, d4⟩ := fin (some .ret) X hp.1
   exact ⟨_, _, r, .inr ⟨rfl, .ret, (hIx _).putObj _ hp.2 (by omega) l3 rfl, l4, d4⟩⟩
  | exit id =>
   obtain ⟨r, l3, l4, d4⟩ := fin (some (.exit id)) X hp.1
   exact ⟨_, _, r, .inr ⟨rfl, .exit id, (hIx _).putObj _ hp.2 (by omega) l3 rfl, l4, d4⟩⟩
  | goto t =>
   obtain ⟨r, l3, l4, d4⟩ := fin (some (.goto t)) X hp.1
   exact ⟨_, _, r, .inr ⟨rfl, .goto t, (hIx _).putObj _ hp.2 (by omega) l3 rfl, l4, d4⟩⟩
  | panic ch => exact hp.elim
  | outgrown => exact hp.elim
 ·rintro e X ⟨⟨v, rfl⟩, (⟨hi, hl, hd⟩ | ⟨k, hk, c, hi, hl, hd⟩)⟩
  ·exact ⟨none, _, by have := run_endLoop (P := P) hl (by rw [hrec]; simp); rw [hrec] at this; exact this, hdone _ _ (Nat.le_refl _) (hI.putObj _ hi (by omega) hl rfl) ((World.putObj_heap_other (by omega)).trans hd)⟩
  ·exact ⟨some c, _, by have := run_endLoop (P := P) hl (by rw [hrec]; simp); rw [hrec] at this; exact this, hstop _ c k _ (Nat.le_refl _) hk ((hIx c).putObj _ hi (by omega) hl rfl) ((World.putObj_heap_other (by omega)).trans hd)⟩
theorem idx_at (c : UInt8) (r : List UInt8) : ∀ (p : List UInt8), c ∉ p → Lib.indexByte (p ++ c :: r) c = p.length
 | [], _ => by simp [Lib.indexByte]
 | x :: p, h => by
  have hx : ¬ x = c := fun e => h (by rw [e]; simp)
  have ih := idx_at c r p (fun hm => h (List.mem_cons_of_mem _ hm))
  rw [List.cons_append, Lib.indexByte, ih, if_neg (by simpa using hx), if_neg (by simp)]
  simp
theorem idx_no (c : UInt8) : ∀ (p : List UInt8), c ∉ p → Lib.indexByte p c = -1
 | [], _ => rfl
 | x :: p, h => by
  have hx : ¬ x = c := fun e => h (by rw [e]; simp)
  rw [Lib.indexByte, idx_no c p (fun hm => h (List.mem_cons_of_mem _ hm)), if_neg (by simpa using hx), if_pos (by simp)]
theorem ext_l (l : List UInt8) (a b : Nat) : (⟨l.toArray⟩ : ByteArray).extract a b = ⟨((l.take b).drop a).toArray⟩ := by
 apply ByteArray.ext
 simp [ByteArray.extract, ByteArray.copySlice]
 rw [List.drop_take]
theorem liteAt_t (p r : List UInt8) (c : UInt8) (hp : c ∉ p) (hl : (p ++ c :: r).length ≤ 140737488355328) (w : World) : Calls Tryz.prog 52 #[.string ⟨(p ++ c :: r).toArray⟩, .string ⟨#[c]⟩] w fun e w' => e = .returned (.tuple #[.string ⟨p.toArray⟩, .string ⟨r.toArray⟩, .bool true]) ∧ ∃ n, w' = w.drewN n := by
 have hi := idx_at c r p hp
 have hsz := bs_size (p ++ c :: r)
 have hlen : (p ++ c :: r).length = p.length + 1 + r.length := by simp; omega
 have x0 := ext_l (p ++ c :: r) 0 p.length
 have x1 := ext_l (p ++ c :: r) (p.length + 1) (p ++ c :: r).length
 rw [List.take_left, List.drop_zero] at x0
 rw [List.take_length, show (p ++ c :: r).drop (p.length + 1) = r by rw [List.drop_append, List.drop_eq_nil_of_le (by omega)]; simp] at x1
 have hx := Tryz.stringslite_Index_one ⟨(p ++ c :: r).toArray⟩ c w
 rw [show (⟨(p ++ c :: r).toArray⟩ : ByteArray).data.toList = p ++ c :: r by simp, hi] at hx
 generalize p ++ c :: r = l at *
 generalize p.length = k at *
 rw [← hsz] at hlen
 go_enter Tryz.func52, Tryz.ntmps52
 go_wp2_with fail
 refine hx.mono ?_
 rintro e w1 ⟨rfl, rfl⟩
 clear hx hi
 have h0 : (0 : Int) ≤ (k : Int) := by omega
 have z1 : (⟨#[c]⟩ : ByteArray).size = 1 := rfl
 have t1 : ((k : Int) + 1).toNat = k + 1 := by omega
 go_wp2_with fail
 go_region
 go_wp2
 exact bodyPost_ret (v := .tuple #[.string ⟨p.toArray⟩, .string ⟨r.toArray⟩, .bool true]) (by simp [results, Tryz.results52, go_sem]) rfl ⟨rfl, 1, rfl⟩
theorem liteNo_t (l : List UInt8) (c : UInt8) (hp : c ∉ l) (w : World) : Calls Tryz.prog 52 #[.string ⟨l.toArray⟩, .string ⟨#[c]⟩] w fun e w' => e = .returned (.tuple #[.string ⟨l.toArray⟩, .string ⟨#[]⟩, .bool false]) ∧ w' = w := by
 have hx := Tryz.stringslite_Index_one ⟨l.toArray⟩ c w
 rw [show (⟨l.toArray⟩ : ByteArray).data.toList = l by simp, idx_no c l hp] at hx
 go_enter Tryz.func52, Tryz.ntmps52
 go_wp2_with fail
 refine hx.mono ?_
 rintro e w1 ⟨rfl, rfl⟩
 clear hx
 go_wp2
 exact bodyPost_ret (v := .tuple #[.string ⟨l.toArray⟩, .string ⟨#[]⟩, .bool false]) (by simp [results, Tryz.results52, go_sem]) rfl ⟨rfl, rfl⟩
theorem cutAt_t (p r : List UInt8) (c : UInt8) (hp : c ∉ p) (hl : (p ++ c :: r).length ≤ 140737488355328) (w : World) : Calls Tryz.prog 21 #[.string ⟨(p ++ c :: r).toArray⟩, .string ⟨#[c]⟩] w fun e w' => e = .returned (.tuple #[.string ⟨p.toArray⟩, .string ⟨r.toArray⟩, .bool true]) ∧ ∃ n, w' = w.drewN n := by
 have hx := liteAt_t p r c hp hl w
 generalize p ++ c :: r = l at *
 go_enter Tryz.func21, Tryz.ntmps21
 go_wp2_with fail
 refine hx.mono ?_
 rintro e w1 ⟨rfl, n, rfl⟩
 clear hx
 go_wp2
 exact bodyPost_ret (v := .tuple #[.string ⟨p.toArray⟩, .string ⟨r.toArray⟩, .bool true]) (by simp [results, Tryz.results21, go_sem]) rfl ⟨rfl, n, rfl⟩
theorem cutNo_t (l : List UInt8) (c : UInt8) (hp : c ∉ l) (w : World) : Calls Tryz.prog 21 #[.string ⟨l.toArray⟩, .string ⟨#[c]⟩] w fun e w' => e = .returned (.tuple #[.string ⟨l.toArray⟩, .string ⟨#[]⟩, .bool false]) ∧ w' = w := by
 have hx := liteNo_t l c hp w
 go_enter Tryz.func21, Tryz.ntmps21
 go_wp2_with fail
 refine hx.mono ?_
 rintro e w1 ⟨rfl, rfl⟩
 clear hx
 go_wp2
 exact bodyPost_ret (v := .tuple #[.string ⟨l.toArray⟩, .string ⟨#[]⟩, .bool false]) (by simp [results, Tryz.results21, go_sem]) rfl ⟨rfl, rfl⟩
def splitD : List UInt8 → List (List UInt8)
 | [] => [[]]
 | c :: r => if c = 46 then [] :: splitD r else match splitD r with
  | h :: t => (c :: h) :: t
  | [] => [[c]]
def partsL (l : List UInt8) : List (List UInt8) := if l = [] then [] else splitD l
theorem splitD_no : ∀ (p : List UInt8), (46 : UInt8) ∉ p → splitD p = [p]
 | [], _ => rfl
 | c :: p, h => by
  have hc : ¬ c = 46 := fun e => h (by rw [e]; simp)
  rw [splitD, if_neg hc, splitD_no p (fun hm => h (List.mem_cons_of_mem _ hm))]
theorem splitD_at : ∀ (p r : List UInt8), (46 : UInt8) ∉ p → splitD (p ++ 46 :: r) = p :: splitD r
 | [], r, _ => by rw [List.nil_append, splitD, if_pos rfl]
 | c :: p, r, h => by
  have hc : ¬ c = 46 := fun e => h (by rw [e]; simp)
  rw [List.cons_append, splitD, if_neg hc, splitD_at p r (fun hm => h (List.mem_cons_of_mem _ hm))]
theorem splitD_ne (l : List UInt8) : splitD l ≠ [] := by
 cases l with
 | nil => simp [splitD]
 | cons c r =>
  rw [splitD]
  split
  ·simp
  ·split <;> simp
theorem splitD_cases (l : List UInt8) : (∃ p r, (46 : UInt8) ∉ p ∧ l = p ++ 46 :: r ∧ splitD l = p :: splitD r) ∨ ((46 : UInt8) ∉ l ∧ splitD l = [l]) := by
 by_cases h : (46 : UInt8) ∈ l
 ·obtain ⟨p, r, rfl, hp⟩ := List.eq_append_cons_of_mem h
  exact Or.inl ⟨p, r, hp, rfl, splitD_at p r hp⟩
 ·exact Or.inr ⟨h, splitD_no l h⟩
theorem splitD_len (l : List UInt8) : (splitD l).length ≤ l.length + 1 := by
 induction l with
 | nil => simp [splitD]
 | cons c r ih =>
  rw [splitD]
  split
  ·simp; omega
  ·cases hs : splitD r with
   | nil => simp
   | cons h t => rw [hs] at ih; simp at ih ⊢; omega
theorem partsL_len (l : List UInt8) : (partsL l).length ≤ l.length + 1 := by
 unfold partsL
 split
 ·simp
 ·exact splitD_len l
def partF (l : List UInt8) (k : Nat) : Array Value := #[.int .i64 k, .string ⟨((partsL l)[k]?.getD []).toArray⟩]
attribute [local go_sem] Oper.semAt_some
theorem abides_drewN {β : Type} {B : Nat} {J : β → World → Prop} (h : AbidesFrom B J) {s : β} {W : World} (hs : J s W) (n : Nat) : J s (W.drewN n) :=
 h s W (W.drewN n) none hs ⟨rfl, rfl, rfl, Nat.le_refl _, fun _ _ _ => rfl⟩ (fun r e => by cases e)
def mLen (s m : Value) : Nat := match m, s with
 | .bool true, .string b => b.size + 1
 | _, _ => 0
theorem parts1_in (l : List UInt8) (hl : l.length ≤ 140737488355328) (n g : Nat) (w : World) (hg : w.cell? ⟨g, 0, none⟩ = some (.string ⟨l.toArray⟩)) (hgw : g < w.heap.size) :
  SeqN Fence.wide n Tryz.prog 139 #[.pointer (some ⟨g, 0, none⟩)] (partF l) (fun _ _ => True) (partsL l).length w := by
 intro i J Jx W hb hJ hJx hY h0
 have hc := (hb.cell (p := ⟨g, 0, none⟩) hgw).trans hg
 clear hb
 refine callsIn_of_wp Tryz.func139 rfl trivial ?_ rfl
 simp only [Tryz.ntmps139, List.size_toArray, List.length_cons, List.length_nil, Nat.reduceAdd, Nat.reduceSub, Array.replicate_succ, Array.replicate_zero, List.push_toArray, List.append_toArray, List.nil_append, List.cons_append]
 gi_wp2
 gi_region
 have h1 : J 0 W.drew := abides_drewN hJ h0 1
 have hrel0 : if (!l.isEmpty) = true then (partsL l).drop 0 = splitD l else (partsL l).length = 0 := by
  unfold partsL
  by_cases h : l = []
  ·subst h; simp
  ·have : l.isEmpty = false := by cases l <;> simp_all
   rw [if_neg h, this]; simp
 have HJ := Lib.hid (And.intro hJ hJx)
 have HR0 := Lib.hid hrel0
 have hY' := Lib.hid hY
 clear hrel0 hJ hJx h0 hc hY
 generalize W.drew = W1 at *
 gi_wp2
 gi_loopw [3, 4, 5] (fun s m iv wr => ∃ (b : Bool) (rest : List UInt8) (k : Nat), s = .string ⟨rest.toArray⟩ ∧ m = .bool b ∧ iv = .int .i64 k ∧ rest.length ≤ 140737488355328 ∧ k ≤ l.length + 1 ∧ J k wr ∧ Hid (if b = true then (partsL l).drop k = splitD rest else (partsL l).length = k)) (fun s m _ _ => mLen s m)
 case atStart => exact ⟨_, l, 0, rfl, rfl, rfl, hl, by omega, h1, HR0⟩
 case round =>
  clear h1 HR0
  obtain ⟨b, rest, k, rfl, rfl, rfl, hrl, hk, hJk, hr⟩ := hrel
  cases b with
  | false =>
   have hN := hr.out
   rw [if_neg (by simp)] at hN
   gi_wp2
   go_end0
   exact ⟨⟨_, rfl⟩, .inl (by rw [hN]; exact hJk)⟩
  | true =>
   have hN := hr.out
   rw [if_pos rfl] at hN
   clear hr
   have hkN : k < (partsL l).length := by
    by_cases h : k < (partsL l).length
    ·exact h
    ·rw [List.drop_eq_nil_of_le (by omega)] at hN; exact absurd hN.symm (splitD_ne rest)
   have hNl := partsL_len l
   rcases splitD_cases rest with ⟨p, r, hp, hre, hsp⟩ | ⟨hp, hsp⟩
   ·rw [hsp] at hN
    have hcut := cutAt_t p r 46 hp (by rw [← hre]; exact hrl) wr
    rw [← hre] at hcut
    have hget : (partsL l)[k]? = some p := by
     have := congrArg (·[0]?) hN
     simpa using this
    have hnx : (partsL l).drop (k + 1) = splitD r := by
     rw [← List.drop_drop, hN]; rfl
    have hrlen : r.length ≤ 140737488355328 := by rw [hre] at hrl; simp at hrl; omega
    have HD := Lib.hid (show r.length + 1 < rest.length + 1 by rw [hre]; simp; omega)
    have HNX := Lib.hid hnx
    have HC := Lib.hid hcut
    clear hN hsp hp hre hcut hnx
    gi_wp2
    refine ⟨trivial, fun h => (by cases h), (callsIn_wide.2 HC.out).mono ?_⟩
    rintro e w1 ⟨rfl, m, rfl⟩
    have hJ1 := abides_drewN HJ.out.1 hJk m
    generalize wr.drewN m = W2 at *
    obtain ⟨fn, tmps, assign, body, hy, hR⟩ := hY'.out k W2 hkN hJ1
    have hpf : partF l k = #[.int .i64 k, .string ⟨p.toArray⟩] := by unfold partF; rw [hget]; rfl
    rw [hpf] at hy
    clear hJk hget hpf
    gi_wp2
    refine ⟨fun h => (by cases h), hR.mono ?_⟩
    rintro e W3 (⟨rfl, hJ3, _⟩ | ⟨rfl, hJx3⟩)
    ·gi_wp2
     exact ⟨⟨true, r, k + 1, rfl, rfl, by go_num, hrlen, by omega, hJ3, Lib.hid (by rw [if_pos rfl]; exact HNX.out)⟩, by have := HD.out; simpa [mLen, bs_size] using this⟩
    ·gi_wp2
     refine bodyPost_ret (results_none rfl _ _ _) rfl ?_
     exact ⟨⟨_, rfl⟩, .inr ⟨_, by omega, hJx3⟩⟩
   ·rw [hsp] at hN
    have hcut := cutNo_t rest 46 hp wr
    have hget : (partsL l)[k]? = some rest := by
     have := congrArg (·[0]?) hN
     simpa using this
    have hend : (partsL l).length = k + 1 := by
     have := congrArg List.length hN
     simp at this; omega
    have HEN := Lib.hid hend
    have HC := Lib.hid hcut
    clear hN hsp hp hcut hend
    gi_wp2
    refine ⟨trivial, fun h => (by cases h), (callsIn_wide.2 HC.out).mono ?_⟩
    rintro e w1 ⟨rfl, rfl⟩
    obtain ⟨fn, tmps, assign, body, hy, hR⟩ := hY'.out k w1 hkN hJk
    have hpf : partF l k = #[.int .i64 k, .string ⟨rest.toArray⟩] := by unfold partF; rw [hget]; rfl
    rw [hpf] at hy
    clear hJk hget hpf HC
    gi_wp2
    refine ⟨fun h => (by cases h), hR.mono ?_⟩
    rintro e W3 (⟨rfl, hJ3, _⟩ | ⟨rfl, hJx3⟩)
    ·gi_wp2
     exact ⟨⟨false, [], k + 1, rfl, rfl, by go_num, by simp, by omega, hJ3, Lib.hid (by rw [if_neg (by simp)]; exact HEN.out)⟩, by simp [mLen]⟩
    ·gi_wp2
     refine bodyPost_ret (results_none rfl _ _ _) rfl ?_
     exact ⟨⟨_, rfl⟩, .inr ⟨_, by omega, hJx3⟩⟩
theorem parts_t (b : ByteArray) (w : World) : Calls Tryz.prog 114 #[.string b] w fun e w' => e = .returned (.func (.func 139) #[] #[.pointer (some ⟨w.heap.size, 0, none⟩)]) ∧ w' = w.alloc (.cells #[.string b] 9) := by
 have hmf : ∀ (fn : Fn) (first cap : Array Value) (w : World), (Instr.makeFunc fn first cap).run Tryz.prog w = .ok (.func fn first cap) w := fun _ _ _ _ => rfl
 go_enter Tryz.func114, Tryz.ntmps114
 go_wp2
 go_ret
 exact ⟨rfl, rfl⟩
end Go.Proofs.YtboinifeemghaaaGreatDoor
