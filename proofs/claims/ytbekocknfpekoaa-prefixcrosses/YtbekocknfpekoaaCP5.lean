/- P5: what the theorem needs of these texts. No conditions beyond those that are written. -/
import Derived.Test.YtbekocknfpekoaaCP3
namespace Go.Proofs.Ytbekocknfpekoaa
set_option linter.unusedVariables false
set_option maxHeartbeats 16000000
set_option linter.unusedSimpArgs false
open Go.RowKit
def upB (s : Sp) (p : Px) (b0 b1 : Int) : Bool := rightP s p && (decide (p.a0 ≤ b0) && (decide (b0 ≤ depthD s.d0) && (decide (p.a1 ≤ b1) && decide (b1 ≤ depthD s.d1))))
def upX (s : Sp) (p : Px) (b0 b1 : Int) : Px := ⟨b0, b1, cutD s.d0 b0 p.k0, cutD s.d1 b1 p.k1⟩
def upP (s : Sp) (p : Px) (b0 b1 : Int) : Px := if upB s p b0 b1 = true then upX s p b0 b1 else pz
set_option maxRecDepth 100000 in
theorem up_bad (s : Sp) (p : Px) (b0 b1 : Int) (HR : ∀ w, Calls Try.prog 20 #[sv s, pv p] w fun e w' => e = .returned (.bool false) ∧ Below w.heap.size w w') (w : World) : Calls Try.prog 26 #[sv s, pv p, .agg #[.int .i64 b0, .int .i64 b1]] w fun e w' => e = .returned (.agg #[.int .i64 0, .int .i64 0, .int .i64 0, .int .i64 0, .int .u64 0, .int .u64 0, .string ⟨#[]⟩, .int .i64 0, .int .i64 0, .int .u64 0, .int .u64 0, .string ⟨#[]⟩]) ∧ Below w.heap.size w w' := by
  have i0 := ixd0
  have i1 := ixd1
  unfold sv pv at *
  (try unfold dv at *)
  (try unfold kv at *)
  obtain ⟨Rc, Rd, Ry, Rr, hb0⟩ := four_rows w #[.int .i64 s.n, .int .i64 s.d0.kind, .int .i64 s.d0.side, .int .i64 s.d0.step, .int .i64 s.d1.kind, .int .i64 s.d1.side, .int .i64 s.d1.step] #[.int .i64 p.a0, .int .i64 p.a1, .int .i64 p.k0.kind, .int .i64 p.k0.len, .int .u64 p.k0.h, .int .u64 p.k0.l, .string ⟨p.k0.path.toArray⟩, .int .i64 p.k1.kind, .int .i64 p.k1.len, .int .u64 p.k1.h, .int .u64 p.k1.l, .string ⟨p.k1.path.toArray⟩] #[.int .i64 b0, .int .i64 b1] #[.int .i64 0, .int .i64 0, .int .i64 0, .int .i64 0, .int .u64 0, .int .u64 0, .string ⟨#[]⟩, .int .i64 0, .int .i64 0, .int .u64 0, .int .u64 0, .string ⟨#[]⟩] 26 33 27 33
  (try clear c0 c1 c2 c3 c4 c5 c6); obtain ⟨c0, c1, c2, c3, c4, c5, c6⟩ := row7 Rc
  (try clear d0 d1 d2 d3 d4 d5 d6 d7 d8 d9 d10 d11); obtain ⟨d0, d1, d2, d3, d4, d5, d6, d7, d8, d9, d10, d11⟩ := row12 Rd
  (try clear y0 y1); obtain ⟨y0, y1⟩ := row2 Ry
  (try clear r0 r1 r2 r3 r4 r5 r6 r7 r8 r9 r10 r11); obtain ⟨r0, r1, r2, r3, r4, r5, r6, r7, r8, r9, r10, r11⟩ := row12 Rr
  go_enter Try.func26, Try.ntmps26
  go_wp2_with fail
  refine (HR _).mono ?_
  rintro e w1 ⟨rfl, hb⟩
  replace Rc := Rc.later hb
  replace Rd := Rd.later hb
  replace Ry := Ry.later hb
  replace Rr := Rr.later hb
  replace hb0 := below_step hb0 hb
  clear hb
  have lc := Rc.lt
  have ld := Rd.lt
  have ly := Ry.lt
  have lr := Rr.lt
  (try clear c0 c1 c2 c3 c4 c5 c6); obtain ⟨c0, c1, c2, c3, c4, c5, c6⟩ := row7 Rc
  (try clear d0 d1 d2 d3 d4 d5 d6 d7 d8 d9 d10 d11); obtain ⟨d0, d1, d2, d3, d4, d5, d6, d7, d8, d9, d10, d11⟩ := row12 Rd
  (try clear y0 y1); obtain ⟨y0, y1⟩ := row2 Ry
  (try clear r0 r1 r2 r3 r4 r5 r6 r7 r8 r9 r10 r11); obtain ⟨r0, r1, r2, r3, r4, r5, r6, r7, r8, r9, r10, r11⟩ := row12 Rr
  have rf0 := Rr.frozen 0
  have rf1 := Rr.frozen 1
  have rf2 := Rr.frozen 2
  have rf3 := Rr.frozen 3
  have rf4 := Rr.frozen 4
  have rf5 := Rr.frozen 5
  have rf6 := Rr.frozen 6
  have rf7 := Rr.frozen 7
  have rf8 := Rr.frozen 8
  have rf9 := Rr.frozen 9
  have rf10 := Rr.frozen 10
  have rf11 := Rr.frozen 11
  go_wp2
  clear c0 c1 c2 c3 c4 c5 c6
  clear d0 d1 d2 d3 d4 d5 d6 d7 d8 d9 d10 d11
  clear y0 y1
  obtain ⟨w2, hwn⟩ : ∃ wz, wz = (World.setCell (World.setCell (World.setCell (World.setCell (World.setCell (World.setCell (World.setCell (World.setCell (World.setCell (World.setCell (World.setCell (World.setCell w1 ⟨(w.heap.size + 1 + 1 + 1), 0, none⟩ (.int .i64 0)) ⟨(w.heap.size + 1 + 1 + 1), 1, none⟩ (.int .i64 0)) ⟨(w.heap.size + 1 + 1 + 1), 2, none⟩ (.int .i64 0)) ⟨(w.heap.size + 1 + 1 + 1), 3, none⟩ (.int .i64 0)) ⟨(w.heap.size + 1 + 1 + 1), 4, none⟩ (.int .u64 0)) ⟨(w.heap.size + 1 + 1 + 1), 5, none⟩ (.int .u64 0)) ⟨(w.heap.size + 1 + 1 + 1), 6, none⟩ (.string ⟨#[]⟩)) ⟨(w.heap.size + 1 + 1 + 1), 7, none⟩ (.int .i64 0)) ⟨(w.heap.size + 1 + 1 + 1), 8, none⟩ (.int .i64 0)) ⟨(w.heap.size + 1 + 1 + 1), 9, none⟩ (.int .u64 0)) ⟨(w.heap.size + 1 + 1 + 1), 10, none⟩ (.int .u64 0)) ⟨(w.heap.size + 1 + 1 + 1), 11, none⟩ (.string ⟨#[]⟩)) := ⟨_, rfl⟩
  rw [← hwn]
  replace hwn : w2 = World.setCells w1 (w.heap.size + 1 + 1 + 1) 0 [.int .i64 0, .int .i64 0, .int .i64 0, .int .i64 0, .int .u64 0, .int .u64 0, .string ⟨#[]⟩, .int .i64 0, .int .i64 0, .int .u64 0, .int .u64 0, .string ⟨#[]⟩] := hwn
  replace Rr : Row w2 (w.heap.size + 1 + 1 + 1) #[.int .i64 0, .int .i64 0, .int .i64 0, .int .i64 0, .int .u64 0, .int .u64 0, .string ⟨#[]⟩, .int .i64 0, .int .i64 0, .int .u64 0, .int .u64 0, .string ⟨#[]⟩] 33 := psm hwn Rr (by simp [setL])
  replace Rc := prf hwn Rc
  replace Rd := prf hwn Rd
  replace Ry := prf hwn Ry
  replace hb0 := pbl hwn hb0
  clear hwn r0 r1 r2 r3 r4 r5 r6 r7 r8 r9 r10 r11
  (try clear rf0 rf1 rf2 rf3 rf4 rf5 rf6 rf7 rf8 rf9 rf10 rf11)
  (try clear r0 r1 r2 r3 r4 r5 r6 r7 r8 r9 r10 r11); obtain ⟨r0, r1, r2, r3, r4, r5, r6, r7, r8, r9, r10, r11⟩ := row12 Rr
  refine bodyPost_ret (v := .agg #[.int .i64 0, .int .i64 0, .int .i64 0, .int .i64 0, .int .u64 0, .int .u64 0, .string ⟨#[]⟩, .int .i64 0, .int .i64 0, .int .u64 0, .int .u64 0, .string ⟨#[]⟩]) (by simp [results, Try.results26, go_sem, r0, r1, r2, r3, r4, r5, r6, r7, r8, r9, r10, r11]) rfl ⟨rfl, hb0⟩
set_option maxRecDepth 100000 in
theorem up_lo0 (s : Sp) (p : Px) (b0 b1 : Int) (HR : ∀ w, Calls Try.prog 20 #[sv s, pv p] w fun e w' => e = .returned (.bool true) ∧ Below w.heap.size w w') (g0 : b0 < p.a0) (w : World) : Calls Try.prog 26 #[sv s, pv p, .agg #[.int .i64 b0, .int .i64 b1]] w fun e w' => e = .returned (.agg #[.int .i64 0, .int .i64 0, .int .i64 0, .int .i64 0, .int .u64 0, .int .u64 0, .string ⟨#[]⟩, .int .i64 0, .int .i64 0, .int .u64 0, .int .u64 0, .string ⟨#[]⟩]) ∧ Below w.heap.size w w' := by
  have i0 := ixd0
  have i1 := ixd1
  have t0 : decide (b0 < p.a0) = true := decide_eq_true g0
  unfold sv pv at *
  (try unfold dv at *)
  (try unfold kv at *)
  obtain ⟨Rc, Rd, Ry, Rr, hb0⟩ := four_rows w #[.int .i64 s.n, .int .i64 s.d0.kind, .int .i64 s.d0.side, .int .i64 s.d0.step, .int .i64 s.d1.kind, .int .i64 s.d1.side, .int .i64 s.d1.step] #[.int .i64 p.a0, .int .i64 p.a1, .int .i64 p.k0.kind, .int .i64 p.k0.len, .int .u64 p.k0.h, .int .u64 p.k0.l, .string ⟨p.k0.path.toArray⟩, .int .i64 p.k1.kind, .int .i64 p.k1.len, .int .u64 p.k1.h, .int .u64 p.k1.l, .string ⟨p.k1.path.toArray⟩] #[.int .i64 b0, .int .i64 b1] #[.int .i64 0, .int .i64 0, .int .i64 0, .int .i64 0, .int .u64 0, .int .u64 0, .string ⟨#[]⟩, .int .i64 0, .int .i64 0, .int .u64 0, .int .u64 0, .string ⟨#[]⟩] 26 33 27 33
  (try clear c0 c1 c2 c3 c4 c5 c6); obtain ⟨c0, c1, c2, c3, c4, c5, c6⟩ := row7 Rc
  (try clear d0 d1 d2 d3 d4 d5 d6 d7 d8 d9 d10 d11); obtain ⟨d0, d1, d2, d3, d4, d5, d6, d7, d8, d9, d10, d11⟩ := row12 Rd
  (try clear y0 y1); obtain ⟨y0, y1⟩ := row2 Ry
  (try clear r0 r1 r2 r3 r4 r5 r6 r7 r8 r9 r10 r11); obtain ⟨r0, r1, r2, r3, r4, r5, r6, r7, r8, r9, r10, r11⟩ := row12 Rr
  go_enter Try.func26, Try.ntmps26
  go_wp2_with fail
  refine (HR _).mono ?_
  rintro e w1 ⟨rfl, hb⟩
  replace Rc := Rc.later hb
  replace Rd := Rd.later hb
  replace Ry := Ry.later hb
  replace Rr := Rr.later hb
  replace hb0 := below_step hb0 hb
  clear hb
  have lc := Rc.lt
  have ld := Rd.lt
  have ly := Ry.lt
  have lr := Rr.lt
  (try clear c0 c1 c2 c3 c4 c5 c6); obtain ⟨c0, c1, c2, c3, c4, c5, c6⟩ := row7 Rc
  (try clear d0 d1 d2 d3 d4 d5 d6 d7 d8 d9 d10 d11); obtain ⟨d0, d1, d2, d3, d4, d5, d6, d7, d8, d9, d10, d11⟩ := row12 Rd
  (try clear y0 y1); obtain ⟨y0, y1⟩ := row2 Ry
  (try clear r0 r1 r2 r3 r4 r5 r6 r7 r8 r9 r10 r11); obtain ⟨r0, r1, r2, r3, r4, r5, r6, r7, r8, r9, r10, r11⟩ := row12 Rr
  go_wp2_with fail
  refine wp_loop_rounds 3 ?_
  replace Rc := Rc.alloc (.cells #[Value.int .i64 b0, Value.int .i64 b1, Value.int .i64 0, Value.int .i64 0, Value.int .u64 0, Value.int .u64 0, Value.string ⟨#[]⟩, Value.int .i64 0, Value.int .i64 0, Value.int .u64 0, Value.int .u64 0, Value.string ⟨#[]⟩] 33)
  replace Rd := Rd.alloc (.cells #[Value.int .i64 b0, Value.int .i64 b1, Value.int .i64 0, Value.int .i64 0, Value.int .u64 0, Value.int .u64 0, Value.string ⟨#[]⟩, Value.int .i64 0, Value.int .i64 0, Value.int .u64 0, Value.int .u64 0, Value.string ⟨#[]⟩] 33)
  replace Ry := Ry.alloc (.cells #[Value.int .i64 b0, Value.int .i64 b1, Value.int .i64 0, Value.int .i64 0, Value.int .u64 0, Value.int .u64 0, Value.string ⟨#[]⟩, Value.int .i64 0, Value.int .i64 0, Value.int .u64 0, Value.int .u64 0, Value.string ⟨#[]⟩] 33)
  replace Rr := Rr.alloc (.cells #[Value.int .i64 b0, Value.int .i64 b1, Value.int .i64 0, Value.int .i64 0, Value.int .u64 0, Value.int .u64 0, Value.string ⟨#[]⟩, Value.int .i64 0, Value.int .i64 0, Value.int .u64 0, Value.int .u64 0, Value.string ⟨#[]⟩] 33)
  have Rup := Row.new w1 #[Value.int .i64 b0, Value.int .i64 b1, Value.int .i64 0, Value.int .i64 0, Value.int .u64 0, Value.int .u64 0, Value.string ⟨#[]⟩, Value.int .i64 0, Value.int .i64 0, Value.int .u64 0, Value.int .u64 0, Value.string ⟨#[]⟩] 33
  have mup := hb0.size
  replace hb0 := hb0.alloc hb0.size (.cells #[Value.int .i64 b0, Value.int .i64 b1, Value.int .i64 0, Value.int .i64 0, Value.int .u64 0, Value.int .u64 0, Value.string ⟨#[]⟩, Value.int .i64 0, Value.int .i64 0, Value.int .u64 0, Value.int .u64 0, Value.string ⟨#[]⟩] 33)
  (try clear c0 c1 c2 c3 c4 c5 c6); obtain ⟨c0, c1, c2, c3, c4, c5, c6⟩ := row7 Rc
  (try clear d0 d1 d2 d3 d4 d5 d6 d7 d8 d9 d10 d11); obtain ⟨d0, d1, d2, d3, d4, d5, d6, d7, d8, d9, d10, d11⟩ := row12 Rd
  (try clear y0 y1); obtain ⟨y0, y1⟩ := row2 Ry
  (try clear r0 r1 r2 r3 r4 r5 r6 r7 r8 r9 r10 r11); obtain ⟨r0, r1, r2, r3, r4, r5, r6, r7, r8, r9, r10, r11⟩ := row12 Rr
  (try clear up0 up1 up2 up3 up4 up5 up6 up7 up8 up9 up10 up11); obtain ⟨up0, up1, up2, up3, up4, up5, up6, up7, up8, up9, up10, up11⟩ := row12 Rup
  rw [rounds_succ]
  go_wp2_with fail
  replace Rc := Rc.alloc (.cells #[Value.int .i64 s.d0.kind, Value.int .i64 s.d0.side, Value.int .i64 s.d0.step] 23)
  replace Rd := Rd.alloc (.cells #[Value.int .i64 s.d0.kind, Value.int .i64 s.d0.side, Value.int .i64 s.d0.step] 23)
  replace Ry := Ry.alloc (.cells #[Value.int .i64 s.d0.kind, Value.int .i64 s.d0.side, Value.int .i64 s.d0.step] 23)
  replace Rr := Rr.alloc (.cells #[Value.int .i64 s.d0.kind, Value.int .i64 s.d0.side, Value.int .i64 s.d0.step] 23)
  replace Rup := Rup.alloc (.cells #[Value.int .i64 s.d0.kind, Value.int .i64 s.d0.side, Value.int .i64 s.d0.step] 23)
  have Rf0x := Row.new (World.alloc w1 (.cells #[Value.int .i64 b0, Value.int .i64 b1, Value.int .i64 0, Value.int .i64 0, Value.int .u64 0, Value.int .u64 0, Value.string ⟨#[]⟩, Value.int .i64 0, Value.int .i64 0, Value.int .u64 0, Value.int .u64 0, Value.string ⟨#[]⟩] 33)) #[Value.int .i64 s.d0.kind, Value.int .i64 s.d0.side, Value.int .i64 s.d0.step] 23
  simp only [World.size_alloc] at Rf0x
  have mf0x := hb0.size
  replace hb0 := hb0.alloc hb0.size (.cells #[Value.int .i64 s.d0.kind, Value.int .i64 s.d0.side, Value.int .i64 s.d0.step] 23)
  (try clear c0 c1 c2 c3 c4 c5 c6); obtain ⟨c0, c1, c2, c3, c4, c5, c6⟩ := row7 Rc
  (try clear d0 d1 d2 d3 d4 d5 d6 d7 d8 d9 d10 d11); obtain ⟨d0, d1, d2, d3, d4, d5, d6, d7, d8, d9, d10, d11⟩ := row12 Rd
  (try clear y0 y1); obtain ⟨y0, y1⟩ := row2 Ry
  (try clear r0 r1 r2 r3 r4 r5 r6 r7 r8 r9 r10 r11); obtain ⟨r0, r1, r2, r3, r4, r5, r6, r7, r8, r9, r10, r11⟩ := row12 Rr
  (try clear up0 up1 up2 up3 up4 up5 up6 up7 up8 up9 up10 up11); obtain ⟨up0, up1, up2, up3, up4, up5, up6, up7, up8, up9, up10, up11⟩ := row12 Rup
  (try clear f0x0 f0x1 f0x2); obtain ⟨f0x0, f0x1, f0x2⟩ := row3 Rf0x
  refine wp_region_held_drew (S := (fun w' => w'.cell? ⟨w.heap.size + 1, 0, none⟩ = some (Value.int .i64 p.a0) ∧ w'.cell? ⟨w.heap.size + 1, 1, none⟩ = some (Value.int .i64 p.a1) ∧ w'.cell? ⟨w.heap.size + 1 + 1, 0, none⟩ = some (Value.int .i64 b0) ∧ w'.cell? ⟨w.heap.size + 1 + 1, 1, none⟩ = some (Value.int .i64 b1) ∧ w'.cell? ⟨w1.heap.size + 1, 0, none⟩ = some (Value.int .i64 s.d0.kind) ∧ w'.cell? ⟨w1.heap.size + 1, 1, none⟩ = some (Value.int .i64 s.d0.side) ∧ w'.cell? ⟨w1.heap.size + 1, 2, none⟩ = some (Value.int .i64 s.d0.step))) (by kernel_rfl) ?hSr32_ (fun hHeld => ?_)
  case hSr32_ => (exact ⟨d0, d1, y0, y1, f0x0, f0x1, f0x2⟩)
  (clear c0 c1 c2 c3 c4 c5 c6 d0 d1 d2 d3 d4 d5 d6 d7 d8 d9 d10 d11 y0 y1 r0 r1 r2 r3 r4 r5 r6 r7 r8 r9 r10 r11 up0 up1 up2 up3 up4 up5 up6 up7 up8 up9 up10 up11 f0x0 f0x1 f0x2; (replace Rc := Rc.drew); (replace Rd := Rd.drew); (replace Ry := Ry.drew); (replace Rr := Rr.drew); (replace Rup := Rup.drew); (replace Rf0x := Rf0x.drew); (replace hb0 := hb0.drew); (generalize World.drew (World.alloc (World.alloc w1 (.cells #[Value.int .i64 b0, Value.int .i64 b1, Value.int .i64 0, Value.int .i64 0, Value.int .u64 0, Value.int .u64 0, Value.string ⟨#[]⟩, Value.int .i64 0, Value.int .i64 0, Value.int .u64 0, Value.int .u64 0, Value.string ⟨#[]⟩] 33)) (.cells #[Value.int .i64 s.d0.kind, Value.int .i64 s.d0.side, Value.int .i64 s.d0.step] 23)) = wq at *))
  refine tk 0 ⟨some 23, .move (.tmp 8), 3, _, _, _⟩ hHeld ?_
  (try simp only [Act.put, nz1, nz2, nz3])
  refine tk 1 ⟨some 24, .indexAddr 27 (.tmp 5) (.tmp 23), 0, _, _, _⟩ hHeld ?_
  (try simp only [Act.put, nz1, nz2, nz3])
  refine tk 2 ⟨some 25, .load 3 (.tmp 24), 3, _, _, _⟩ hHeld ?_
  (try simp only [Act.put, nz1, nz2, nz3])
  refine tk 3 ⟨some 26, .move (.tmp 8), 3, _, _, _⟩ hHeld ?_
  (try simp only [Act.put, nz1, nz2, nz3])
  refine tk 4 ⟨some 27, .fieldAddr 33 (.tmp 4) 0, 0, _, _, _⟩ hHeld ?_
  (try simp only [Act.put, nz1, nz2, nz3])
  refine tk 5 ⟨some 28, .indexAddr 27 (.tmp 27) (.tmp 26), 0, _, _, _⟩ hHeld ?_
  (try simp only [Act.put, nz1, nz2, nz3])
  refine tk 6 ⟨some 29, .load 3 (.tmp 28), 3, _, _, _⟩ hHeld ?_
  (try simp only [Act.put, nz1, nz2, nz3])
  refine tk 7 ⟨some 30, .binOp .lss 3 (.tmp 25) (.tmp 29) 3, 4, _, _, _⟩ hHeld ?_
  (try simp only [Act.put, nz1, nz2, nz3])
  refine tk 8 ⟨some 31, .move (.tmp 30), 4, _, _, _⟩ hHeld ?_
  (try simp only [Act.put, nz1, nz2, nz3])
  refine ts 9 ⟨some 32, .move (.tmp 8), 3, _, _, _⟩ hHeld ?_
  (try simp only [Act.put, nz1, nz2, nz3])
  refine ts 10 ⟨some 33, .indexAddr 27 (.tmp 5) (.tmp 32), 0, _, _, _⟩ hHeld ?_
  (try simp only [Act.put, nz1, nz2, nz3])
  refine ts 11 ⟨some 34, .load 3 (.tmp 33), 3, _, _, _⟩ hHeld ?_
  (try simp only [Act.put, nz1, nz2, nz3])
  refine ts 12 ⟨some 35, .load 23 (.tmp 9), 23, _, _, _⟩ hHeld ?_
  (try simp only [Act.put, nz1, nz2, nz3])
  refine ts 13 ⟨some 36, .call { callee := .value (.func 55), args := #[.tmp 35], argTypes := #[23] }, 3, _, _, _⟩ hHeld ?_
  (try simp only [Act.put, nz1, nz2, nz3])
  refine ts 14 ⟨some 37, .binOp .gtr 3 (.tmp 34) (.tmp 36) 3, 4, _, _, _⟩ hHeld ?_
  (try simp only [Act.put, nz1, nz2, nz3])
  refine tk 15 ⟨some 38, .pick (.tmp 31) (.const (.bool true)) (.tmp 37), 4, _, _, _⟩ hHeld ?_
  (try simp only [Act.put, nz1, nz2, nz3])
  refine wpAnyH_done (by kernel_rfl) ?_ _
  clear hHeld
  rename World => w2
  have lc := Rc.lt
  have ld := Rd.lt
  have ly := Ry.lt
  have lr := Rr.lt
  have lup := Rup.lt
  have lf0x := Rf0x.lt
  (try clear c0 c1 c2 c3 c4 c5 c6); obtain ⟨c0, c1, c2, c3, c4, c5, c6⟩ := row7 Rc
  (try clear d0 d1 d2 d3 d4 d5 d6 d7 d8 d9 d10 d11); obtain ⟨d0, d1, d2, d3, d4, d5, d6, d7, d8, d9, d10, d11⟩ := row12 Rd
  (try clear y0 y1); obtain ⟨y0, y1⟩ := row2 Ry
  (try clear r0 r1 r2 r3 r4 r5 r6 r7 r8 r9 r10 r11); obtain ⟨r0, r1, r2, r3, r4, r5, r6, r7, r8, r9, r10, r11⟩ := row12 Rr
  (try clear up0 up1 up2 up3 up4 up5 up6 up7 up8 up9 up10 up11); obtain ⟨up0, up1, up2, up3, up4, up5, up6, up7, up8, up9, up10, up11⟩ := row12 Rup
  (try clear f0x0 f0x1 f0x2); obtain ⟨f0x0, f0x1, f0x2⟩ := row3 Rf0x
  have rf0 := Rr.frozen 0
  have rf1 := Rr.frozen 1
  have rf2 := Rr.frozen 2
  have rf3 := Rr.frozen 3
  have rf4 := Rr.frozen 4
  have rf5 := Rr.frozen 5
  have rf6 := Rr.frozen 6
  have rf7 := Rr.frozen 7
  have rf8 := Rr.frozen 8
  have rf9 := Rr.frozen 9
  have rf10 := Rr.frozen 10
  have rf11 := Rr.frozen 11
  go_wp2
  clear c0 c1 c2 c3 c4 c5 c6
  clear d0 d1 d2 d3 d4 d5 d6 d7 d8 d9 d10 d11
  clear y0 y1
  obtain ⟨w3, hwn⟩ : ∃ wz, wz = (World.setCell (World.setCell (World.setCell (World.setCell (World.setCell (World.setCell (World.setCell (World.setCell (World.setCell (World.setCell (World.setCell (World.setCell w2 ⟨(w.heap.size + 1 + 1 + 1), 0, none⟩ (.int .i64 0)) ⟨(w.heap.size + 1 + 1 + 1), 1, none⟩ (.int .i64 0)) ⟨(w.heap.size + 1 + 1 + 1), 2, none⟩ (.int .i64 0)) ⟨(w.heap.size + 1 + 1 + 1), 3, none⟩ (.int .i64 0)) ⟨(w.heap.size + 1 + 1 + 1), 4, none⟩ (.int .u64 0)) ⟨(w.heap.size + 1 + 1 + 1), 5, none⟩ (.int .u64 0)) ⟨(w.heap.size + 1 + 1 + 1), 6, none⟩ (.string ⟨#[]⟩)) ⟨(w.heap.size + 1 + 1 + 1), 7, none⟩ (.int .i64 0)) ⟨(w.heap.size + 1 + 1 + 1), 8, none⟩ (.int .i64 0)) ⟨(w.heap.size + 1 + 1 + 1), 9, none⟩ (.int .u64 0)) ⟨(w.heap.size + 1 + 1 + 1), 10, none⟩ (.int .u64 0)) ⟨(w.heap.size + 1 + 1 + 1), 11, none⟩ (.string ⟨#[]⟩)) := ⟨_, rfl⟩
  rw [← hwn]
  replace hwn : w3 = World.setCells w2 (w.heap.size + 1 + 1 + 1) 0 [.int .i64 0, .int .i64 0, .int .i64 0, .int .i64 0, .int .u64 0, .int .u64 0, .string ⟨#[]⟩, .int .i64 0, .int .i64 0, .int .u64 0, .int .u64 0, .string ⟨#[]⟩] := hwn
  replace Rr : Row w3 (w.heap.size + 1 + 1 + 1) #[.int .i64 0, .int .i64 0, .int .i64 0, .int .i64 0, .int .u64 0, .int .u64 0, .string ⟨#[]⟩, .int .i64 0, .int .i64 0, .int .u64 0, .int .u64 0, .string ⟨#[]⟩] 33 := psm hwn Rr (by simp [setL])
  replace Rc := prf hwn Rc
  replace Rd := prf hwn Rd
  replace Ry := prf hwn Ry
  replace Rup := prf hwn Rup
  replace Rf0x := prf hwn Rf0x
  replace hb0 := pbl hwn hb0
  clear hwn r0 r1 r2 r3 r4 r5 r6 r7 r8 r9 r10 r11 up0 up1 up2 up3 up4 up5 up6 up7 up8 up9 up10 up11 f0x0 f0x1 f0x2
  (try clear rf0 rf1 rf2 rf3 rf4 rf5 rf6 rf7 rf8 rf9 rf10 rf11)
  (try clear r0 r1 r2 r3 r4 r5 r6 r7 r8 r9 r10 r11); obtain ⟨r0, r1, r2, r3, r4, r5, r6, r7, r8, r9, r10, r11⟩ := row12 Rr
  (try clear up0 up1 up2 up3 up4 up5 up6 up7 up8 up9 up10 up11); obtain ⟨up0, up1, up2, up3, up4, up5, up6, up7, up8, up9, up10, up11⟩ := row12 Rup
  (try clear f0x0 f0x1 f0x2); obtain ⟨f0x0, f0x1, f0x2⟩ := row3 Rf0x
  refine bodyPost_ret (v := .agg #[.int .i64 0, .int .i64 0, .int .i64 0, .int .i64 0, .int .u64 0, .int .u64 0, .string ⟨#[]⟩, .int .i64 0, .int .i64 0, .int .u64 0, .int .u64 0, .string ⟨#[]⟩]) (by simp [results, Try.results26, go_sem, r0, r1, r2, r3, r4, r5, r6, r7, r8, r9, r10, r11]) rfl ⟨rfl, hb0⟩
set_option maxRecDepth 100000 in
theorem up_hi0 (s : Sp) (p : Px) (b0 b1 : Int) (HR : ∀ w, Calls Try.prog 20 #[sv s, pv p] w fun e w' => e = .returned (.bool true) ∧ Below w.heap.size w w') (D0 : Int) (HD0 : ∀ w, Calls Try.prog 55 #[dv s.d0] w fun e w' => e = .returned (.int .i64 D0) ∧ Below w.heap.size w w') (g0 : ¬ b0 < p.a0) (h0 : D0 < b0) (w : World) : Calls Try.prog 26 #[sv s, pv p, .agg #[.int .i64 b0, .int .i64 b1]] w fun e w' => e = .returned (.agg #[.int .i64 0, .int .i64 0, .int .i64 0, .int .i64 0, .int .u64 0, .int .u64 0, .string ⟨#[]⟩, .int .i64 0, .int .i64 0, .int .u64 0, .int .u64 0, .string ⟨#[]⟩]) ∧ Below w.heap.size w w' := by
  have i0 := ixd0
  have i1 := ixd1
  have t0 : decide (b0 < p.a0) = false := decide_eq_false g0
  have e0 : decide (D0 < b0) = true := decide_eq_true h0
  unfold sv pv at *
  (try unfold dv at *)
  (try unfold kv at *)
  obtain ⟨Rc, Rd, Ry, Rr, hb0⟩ := four_rows w #[.int .i64 s.n, .int .i64 s.d0.kind, .int .i64 s.d0.side, .int .i64 s.d0.step, .int .i64 s.d1.kind, .int .i64 s.d1.side, .int .i64 s.d1.step] #[.int .i64 p.a0, .int .i64 p.a1, .int .i64 p.k0.kind, .int .i64 p.k0.len, .int .u64 p.k0.h, .int .u64 p.k0.l, .string ⟨p.k0.path.toArray⟩, .int .i64 p.k1.kind, .int .i64 p.k1.len, .int .u64 p.k1.h, .int .u64 p.k1.l, .string ⟨p.k1.path.toArray⟩] #[.int .i64 b0, .int .i64 b1] #[.int .i64 0, .int .i64 0, .int .i64 0, .int .i64 0, .int .u64 0, .int .u64 0, .string ⟨#[]⟩, .int .i64 0, .int .i64 0, .int .u64 0, .int .u64 0, .string ⟨#[]⟩] 26 33 27 33
  (try clear c0 c1 c2 c3 c4 c5 c6); obtain ⟨c0, c1, c2, c3, c4, c5, c6⟩ := row7 Rc
  (try clear d0 d1 d2 d3 d4 d5 d6 d7 d8 d9 d10 d11); obtain ⟨d0, d1, d2, d3, d4, d5, d6, d7, d8, d9, d10, d11⟩ := row12 Rd
  (try clear y0 y1); obtain ⟨y0, y1⟩ := row2 Ry
  (try clear r0 r1 r2 r3 r4 r5 r6 r7 r8 r9 r10 r11); obtain ⟨r0, r1, r2, r3, r4, r5, r6, r7, r8, r9, r10, r11⟩ := row12 Rr
  go_enter Try.func26, Try.ntmps26
  go_wp2_with fail
  refine (HR _).mono ?_
  rintro e w1 ⟨rfl, hb⟩
  replace Rc := Rc.later hb
  replace Rd := Rd.later hb
  replace Ry := Ry.later hb
  replace Rr := Rr.later hb
  replace hb0 := below_step hb0 hb
  clear hb
  have lc := Rc.lt
  have ld := Rd.lt
  have ly := Ry.lt
  have lr := Rr.lt
  (try clear c0 c1 c2 c3 c4 c5 c6); obtain ⟨c0, c1, c2, c3, c4, c5, c6⟩ := row7 Rc
  (try clear d0 d1 d2 d3 d4 d5 d6 d7 d8 d9 d10 d11); obtain ⟨d0, d1, d2, d3, d4, d5, d6, d7, d8, d9, d10, d11⟩ := row12 Rd
  (try clear y0 y1); obtain ⟨y0, y1⟩ := row2 Ry
  (try clear r0 r1 r2 r3 r4 r5 r6 r7 r8 r9 r10 r11); obtain ⟨r0, r1, r2, r3, r4, r5, r6, r7, r8, r9, r10, r11⟩ := row12 Rr
  go_wp2_with fail
  refine wp_loop_rounds 3 ?_
  replace Rc := Rc.alloc (.cells #[Value.int .i64 b0, Value.int .i64 b1, Value.int .i64 0, Value.int .i64 0, Value.int .u64 0, Value.int .u64 0, Value.string ⟨#[]⟩, Value.int .i64 0, Value.int .i64 0, Value.int .u64 0, Value.int .u64 0, Value.string ⟨#[]⟩] 33)
  replace Rd := Rd.alloc (.cells #[Value.int .i64 b0, Value.int .i64 b1, Value.int .i64 0, Value.int .i64 0, Value.int .u64 0, Value.int .u64 0, Value.string ⟨#[]⟩, Value.int .i64 0, Value.int .i64 0, Value.int .u64 0, Value.int .u64 0, Value.string ⟨#[]⟩] 33)
  replace Ry := Ry.alloc (.cells #[Value.int .i64 b0, Value.int .i64 b1, Value.int .i64 0, Value.int .i64 0, Value.int .u64 0, Value.int .u64 0, Value.string ⟨#[]⟩, Value.int .i64 0, Value.int .i64 0, Value.int .u64 0, Value.int .u64 0, Value.string ⟨#[]⟩] 33)
  replace Rr := Rr.alloc (.cells #[Value.int .i64 b0, Value.int .i64 b1, Value.int .i64 0, Value.int .i64 0, Value.int .u64 0, Value.int .u64 0, Value.string ⟨#[]⟩, Value.int .i64 0, Value.int .i64 0, Value.int .u64 0, Value.int .u64 0, Value.string ⟨#[]⟩] 33)
  have Rup := Row.new w1 #[Value.int .i64 b0, Value.int .i64 b1, Value.int .i64 0, Value.int .i64 0, Value.int .u64 0, Value.int .u64 0, Value.string ⟨#[]⟩, Value.int .i64 0, Value.int .i64 0, Value.int .u64 0, Value.int .u64 0, Value.string ⟨#[]⟩] 33
  have mup := hb0.size
  replace hb0 := hb0.alloc hb0.size (.cells #[Value.int .i64 b0, Value.int .i64 b1, Value.int .i64 0, Value.int .i64 0, Value.int .u64 0, Value.int .u64 0, Value.string ⟨#[]⟩, Value.int .i64 0, Value.int .i64 0, Value.int .u64 0, Value.int .u64 0, Value.string ⟨#[]⟩] 33)
  (try clear c0 c1 c2 c3 c4 c5 c6); obtain ⟨c0, c1, c2, c3, c4, c5, c6⟩ := row7 Rc
  (try clear d0 d1 d2 d3 d4 d5 d6 d7 d8 d9 d10 d11); obtain ⟨d0, d1, d2, d3, d4, d5, d6, d7, d8, d9, d10, d11⟩ := row12 Rd
  (try clear y0 y1); obtain ⟨y0, y1⟩ := row2 Ry
  (try clear r0 r1 r2 r3 r4 r5 r6 r7 r8 r9 r10 r11); obtain ⟨r0, r1, r2, r3, r4, r5, r6, r7, r8, r9, r10, r11⟩ := row12 Rr
  (try clear up0 up1 up2 up3 up4 up5 up6 up7 up8 up9 up10 up11); obtain ⟨up0, up1, up2, up3, up4, up5, up6, up7, up8, up9, up10, up11⟩ := row12 Rup
  rw [rounds_succ]
  go_wp2_with fail
  replace Rc := Rc.alloc (.cells #[Value.int .i64 s.d0.kind, Value.int .i64 s.d0.side, Value.int .i64 s.d0.step] 23)
  replace Rd := Rd.alloc (.cells #[Value.int .i64 s.d0.kind, Value.int .i64 s.d0.side, Value.int .i64 s.d0.step] 23)
  replace Ry := Ry.alloc (.cells #[Value.int .i64 s.d0.kind, Value.int .i64 s.d0.side, Value.int .i64 s.d0.step] 23)
  replace Rr := Rr.alloc (.cells #[Value.int .i64 s.d0.kind, Value.int .i64 s.d0.side, Value.int .i64 s.d0.step] 23)
  replace Rup := Rup.alloc (.cells #[Value.int .i64 s.d0.kind, Value.int .i64 s.d0.side, Value.int .i64 s.d0.step] 23)
  have Rf0x := Row.new (World.alloc w1 (.cells #[Value.int .i64 b0, Value.int .i64 b1, Value.int .i64 0, Value.int .i64 0, Value.int .u64 0, Value.int .u64 0, Value.string ⟨#[]⟩, Value.int .i64 0, Value.int .i64 0, Value.int .u64 0, Value.int .u64 0, Value.string ⟨#[]⟩] 33)) #[Value.int .i64 s.d0.kind, Value.int .i64 s.d0.side, Value.int .i64 s.d0.step] 23
  simp only [World.size_alloc] at Rf0x
  have mf0x := hb0.size
  replace hb0 := hb0.alloc hb0.size (.cells #[Value.int .i64 s.d0.kind, Value.int .i64 s.d0.side, Value.int .i64 s.d0.step] 23)
  (try clear c0 c1 c2 c3 c4 c5 c6); obtain ⟨c0, c1, c2, c3, c4, c5, c6⟩ := row7 Rc
  (try clear d0 d1 d2 d3 d4 d5 d6 d7 d8 d9 d10 d11); obtain ⟨d0, d1, d2, d3, d4, d5, d6, d7, d8, d9, d10, d11⟩ := row12 Rd
  (try clear y0 y1); obtain ⟨y0, y1⟩ := row2 Ry
  (try clear r0 r1 r2 r3 r4 r5 r6 r7 r8 r9 r10 r11); obtain ⟨r0, r1, r2, r3, r4, r5, r6, r7, r8, r9, r10, r11⟩ := row12 Rr
  (try clear up0 up1 up2 up3 up4 up5 up6 up7 up8 up9 up10 up11); obtain ⟨up0, up1, up2, up3, up4, up5, up6, up7, up8, up9, up10, up11⟩ := row12 Rup
  (try clear f0x0 f0x1 f0x2); obtain ⟨f0x0, f0x1, f0x2⟩ := row3 Rf0x
  refine wp_region_held_drew (S := (fun w' => w'.cell? ⟨w.heap.size + 1, 0, none⟩ = some (Value.int .i64 p.a0) ∧ w'.cell? ⟨w.heap.size + 1, 1, none⟩ = some (Value.int .i64 p.a1) ∧ w'.cell? ⟨w.heap.size + 1 + 1, 0, none⟩ = some (Value.int .i64 b0) ∧ w'.cell? ⟨w.heap.size + 1 + 1, 1, none⟩ = some (Value.int .i64 b1) ∧ w'.cell? ⟨w1.heap.size + 1, 0, none⟩ = some (Value.int .i64 s.d0.kind) ∧ w'.cell? ⟨w1.heap.size + 1, 1, none⟩ = some (Value.int .i64 s.d0.side) ∧ w'.cell? ⟨w1.heap.size + 1, 2, none⟩ = some (Value.int .i64 s.d0.step))) (by kernel_rfl) ?hSr33_ (fun hHeld => ?_)
  case hSr33_ => (exact ⟨d0, d1, y0, y1, f0x0, f0x1, f0x2⟩)
  (clear c0 c1 c2 c3 c4 c5 c6 d0 d1 d2 d3 d4 d5 d6 d7 d8 d9 d10 d11 y0 y1 r0 r1 r2 r3 r4 r5 r6 r7 r8 r9 r10 r11 up0 up1 up2 up3 up4 up5 up6 up7 up8 up9 up10 up11 f0x0 f0x1 f0x2; (replace Rc := Rc.drew); (replace Rd := Rd.drew); (replace Ry := Ry.drew); (replace Rr := Rr.drew); (replace Rup := Rup.drew); (replace Rf0x := Rf0x.drew); (replace hb0 := hb0.drew); (generalize World.drew (World.alloc (World.alloc w1 (.cells #[Value.int .i64 b0, Value.int .i64 b1, Value.int .i64 0, Value.int .i64 0, Value.int .u64 0, Value.int .u64 0, Value.string ⟨#[]⟩, Value.int .i64 0, Value.int .i64 0, Value.int .u64 0, Value.int .u64 0, Value.string ⟨#[]⟩] 33)) (.cells #[Value.int .i64 s.d0.kind, Value.int .i64 s.d0.side, Value.int .i64 s.d0.step] 23)) = wq at *))
  refine tk 0 ⟨some 23, .move (.tmp 8), 3, _, _, _⟩ hHeld ?_
  (try simp only [Act.put, nz1, nz2, nz3])
  refine tk 1 ⟨some 24, .indexAddr 27 (.tmp 5) (.tmp 23), 0, _, _, _⟩ hHeld ?_
  (try simp only [Act.put, nz1, nz2, nz3])
  refine tk 2 ⟨some 25, .load 3 (.tmp 24), 3, _, _, _⟩ hHeld ?_
  (try simp only [Act.put, nz1, nz2, nz3])
  refine tk 3 ⟨some 26, .move (.tmp 8), 3, _, _, _⟩ hHeld ?_
  (try simp only [Act.put, nz1, nz2, nz3])
  refine tk 4 ⟨some 27, .fieldAddr 33 (.tmp 4) 0, 0, _, _, _⟩ hHeld ?_
  (try simp only [Act.put, nz1, nz2, nz3])
  refine tk 5 ⟨some 28, .indexAddr 27 (.tmp 27) (.tmp 26), 0, _, _, _⟩ hHeld ?_
  (try simp only [Act.put, nz1, nz2, nz3])
  refine tk 6 ⟨some 29, .load 3 (.tmp 28), 3, _, _, _⟩ hHeld ?_
  (try simp only [Act.put, nz1, nz2, nz3])
  refine tk 7 ⟨some 30, .binOp .lss 3 (.tmp 25) (.tmp 29) 3, 4, _, _, _⟩ hHeld ?_
  (try simp only [Act.put, nz1, nz2, nz3])
  refine tk 8 ⟨some 31, .move (.tmp 30), 4, _, _, _⟩ hHeld ?_
  (try simp only [Act.put, nz1, nz2, nz3])
  refine tk 9 ⟨some 32, .move (.tmp 8), 3, _, _, _⟩ hHeld ?_
  (try simp only [Act.put, nz1, nz2, nz3])
  refine tk 10 ⟨some 33, .indexAddr 27 (.tmp 5) (.tmp 32), 0, _, _, _⟩ hHeld ?_
  (try simp only [Act.put, nz1, nz2, nz3])
  refine tk 11 ⟨some 34, .load 3 (.tmp 33), 3, _, _, _⟩ hHeld ?_
  (try simp only [Act.put, nz1, nz2, nz3])
  refine tk 12 ⟨some 35, .load 23 (.tmp 9), 23, _, _, _⟩ hHeld ?_
  (try simp only [Act.put, nz1, nz2, nz3])
  refine wpAnyH_ready (rs := [13]) (by kernel_rfl) (by simp) ?_
  refine AllReadyH.cons (o := ⟨some 36, .call { callee := .value (.func 55), args := #[.tmp 35], argTypes := #[23] }, 3, _, _, _⟩) rfl (fun K hK => ?_) AllReadyH.nil
  (go_simp; (refine (HD0 _).mono ?_); (rintro e wz ⟨rfl, hb⟩); (replace Rc := Rc.later hb); (replace Rd := Rd.later hb); (replace Ry := Ry.later hb); (replace Rr := Rr.later hb); (replace Rup := Rup.later hb); (replace Rf0x := Rf0x.later hb); (replace hb0 := below_step hb0 hb); go_wp2_with fail)
  refine hK.out _ _ ?hSr33_14_13 (fun hHeld2 => ?_)
  case hSr33_14_13 => (obtain ⟨d0, d1, y0, y1, f0x0, f0x1, f0x2⟩ := hHeld; exact ⟨cell_later hb d0, cell_later hb d1, cell_later hb y0, cell_later hb y1, cell_later hb f0x0, cell_later hb f0x1, cell_later hb f0x2⟩)
  clear hK K hHeld
  have hHeld := hHeld2
  clear hHeld2
  rename World => wq
  (try simp only [Act.put, nz1, nz2, nz3])
  refine tk 14 ⟨some 37, .binOp .gtr 3 (.tmp 34) (.tmp 36) 3, 4, _, _, _⟩ hHeld ?_
  (try simp only [Act.put, nz1, nz2, nz3])
  refine tk 15 ⟨some 38, .pick (.tmp 31) (.const (.bool true)) (.tmp 37), 4, _, _, _⟩ hHeld ?_
  (try simp only [Act.put, nz1, nz2, nz3])
  refine wpAnyH_done (by kernel_rfl) ?_ _
  clear hHeld
  rename World => w2
  have lc := Rc.lt
  have ld := Rd.lt
  have ly := Ry.lt
  have lr := Rr.lt
  have lup := Rup.lt
  have lf0x := Rf0x.lt
  (try clear c0 c1 c2 c3 c4 c5 c6); obtain ⟨c0, c1, c2, c3, c4, c5, c6⟩ := row7 Rc
  (try clear d0 d1 d2 d3 d4 d5 d6 d7 d8 d9 d10 d11); obtain ⟨d0, d1, d2, d3, d4, d5, d6, d7, d8, d9, d10, d11⟩ := row12 Rd
  (try clear y0 y1); obtain ⟨y0, y1⟩ := row2 Ry
  (try clear r0 r1 r2 r3 r4 r5 r6 r7 r8 r9 r10 r11); obtain ⟨r0, r1, r2, r3, r4, r5, r6, r7, r8, r9, r10, r11⟩ := row12 Rr
  (try clear up0 up1 up2 up3 up4 up5 up6 up7 up8 up9 up10 up11); obtain ⟨up0, up1, up2, up3, up4, up5, up6, up7, up8, up9, up10, up11⟩ := row12 Rup
  (try clear f0x0 f0x1 f0x2); obtain ⟨f0x0, f0x1, f0x2⟩ := row3 Rf0x
  have rf0 := Rr.frozen 0
  have rf1 := Rr.frozen 1
  have rf2 := Rr.frozen 2
  have rf3 := Rr.frozen 3
  have rf4 := Rr.frozen 4
  have rf5 := Rr.frozen 5
  have rf6 := Rr.frozen 6
  have rf7 := Rr.frozen 7
  have rf8 := Rr.frozen 8
  have rf9 := Rr.frozen 9
  have rf10 := Rr.frozen 10
  have rf11 := Rr.frozen 11
  go_wp2
  clear c0 c1 c2 c3 c4 c5 c6
  clear d0 d1 d2 d3 d4 d5 d6 d7 d8 d9 d10 d11
  clear y0 y1
  obtain ⟨w3, hwn⟩ : ∃ wz, wz = (World.setCell (World.setCell (World.setCell (World.setCell (World.setCell (World.setCell (World.setCell (World.setCell (World.setCell (World.setCell (World.setCell (World.setCell w2 ⟨(w.heap.size + 1 + 1 + 1), 0, none⟩ (.int .i64 0)) ⟨(w.heap.size + 1 + 1 + 1), 1, none⟩ (.int .i64 0)) ⟨(w.heap.size + 1 + 1 + 1), 2, none⟩ (.int .i64 0)) ⟨(w.heap.size + 1 + 1 + 1), 3, none⟩ (.int .i64 0)) ⟨(w.heap.size + 1 + 1 + 1), 4, none⟩ (.int .u64 0)) ⟨(w.heap.size + 1 + 1 + 1), 5, none⟩ (.int .u64 0)) ⟨(w.heap.size + 1 + 1 + 1), 6, none⟩ (.string ⟨#[]⟩)) ⟨(w.heap.size + 1 + 1 + 1), 7, none⟩ (.int .i64 0)) ⟨(w.heap.size + 1 + 1 + 1), 8, none⟩ (.int .i64 0)) ⟨(w.heap.size + 1 + 1 + 1), 9, none⟩ (.int .u64 0)) ⟨(w.heap.size + 1 + 1 + 1), 10, none⟩ (.int .u64 0)) ⟨(w.heap.size + 1 + 1 + 1), 11, none⟩ (.string ⟨#[]⟩)) := ⟨_, rfl⟩
  rw [← hwn]
  replace hwn : w3 = World.setCells w2 (w.heap.size + 1 + 1 + 1) 0 [.int .i64 0, .int .i64 0, .int .i64 0, .int .i64 0, .int .u64 0, .int .u64 0, .string ⟨#[]⟩, .int .i64 0, .int .i64 0, .int .u64 0, .int .u64 0, .string ⟨#[]⟩] := hwn
  replace Rr : Row w3 (w.heap.size + 1 + 1 + 1) #[.int .i64 0, .int .i64 0, .int .i64 0, .int .i64 0, .int .u64 0, .int .u64 0, .string ⟨#[]⟩, .int .i64 0, .int .i64 0, .int .u64 0, .int .u64 0, .string ⟨#[]⟩] 33 := psm hwn Rr (by simp [setL])
  replace Rc := prf hwn Rc
  replace Rd := prf hwn Rd
  replace Ry := prf hwn Ry
  replace Rup := prf hwn Rup
  replace Rf0x := prf hwn Rf0x
  replace hb0 := pbl hwn hb0
  clear hwn r0 r1 r2 r3 r4 r5 r6 r7 r8 r9 r10 r11 up0 up1 up2 up3 up4 up5 up6 up7 up8 up9 up10 up11 f0x0 f0x1 f0x2
  (try clear rf0 rf1 rf2 rf3 rf4 rf5 rf6 rf7 rf8 rf9 rf10 rf11)
  (try clear r0 r1 r2 r3 r4 r5 r6 r7 r8 r9 r10 r11); obtain ⟨r0, r1, r2, r3, r4, r5, r6, r7, r8, r9, r10, r11⟩ := row12 Rr
  (try clear up0 up1 up2 up3 up4 up5 up6 up7 up8 up9 up10 up11); obtain ⟨up0, up1, up2, up3, up4, up5, up6, up7, up8, up9, up10, up11⟩ := row12 Rup
  (try clear f0x0 f0x1 f0x2); obtain ⟨f0x0, f0x1, f0x2⟩ := row3 Rf0x
  refine bodyPost_ret (v := .agg #[.int .i64 0, .int .i64 0, .int .i64 0, .int .i64 0, .int .u64 0, .int .u64 0, .string ⟨#[]⟩, .int .i64 0, .int .i64 0, .int .u64 0, .int .u64 0, .string ⟨#[]⟩]) (by simp [results, Try.results26, go_sem, r0, r1, r2, r3, r4, r5, r6, r7, r8, r9, r10, r11]) rfl ⟨rfl, hb0⟩
set_option maxRecDepth 100000 in
theorem up_lo1 (s : Sp) (p : Px) (b0 b1 : Int) (HR : ∀ w, Calls Try.prog 20 #[sv s, pv p] w fun e w' => e = .returned (.bool true) ∧ Below w.heap.size w w') (D0 : Int) (HD0 : ∀ w, Calls Try.prog 55 #[dv s.d0] w fun e w' => e = .returned (.int .i64 D0) ∧ Below w.heap.size w w') (u0 : Ke) (HC0 : ∀ w, Calls Try.prog 61 #[dv s.d0, .int .i64 b0, kv p.k0] w fun e w' => e = .returned (kv u0) ∧ Below w.heap.size w w') (g0 : ¬ b0 < p.a0) (h0 : ¬ D0 < b0) (g1 : b1 < p.a1) (w : World) : Calls Try.prog 26 #[sv s, pv p, .agg #[.int .i64 b0, .int .i64 b1]] w fun e w' => e = .returned (.agg #[.int .i64 0, .int .i64 0, .int .i64 0, .int .i64 0, .int .u64 0, .int .u64 0, .string ⟨#[]⟩, .int .i64 0, .int .i64 0, .int .u64 0, .int .u64 0, .string ⟨#[]⟩]) ∧ Below w.heap.size w w' := by
  have i0 := ixd0
  have i1 := ixd1
  have t0 : decide (b0 < p.a0) = false := decide_eq_false g0
  have e0 : decide (D0 < b0) = false := decide_eq_false h0
  have t1 : decide (b1 < p.a1) = true := decide_eq_true g1
  unfold sv pv at *
  (try unfold dv at *)
  (try unfold kv at *)
  obtain ⟨Rc, Rd, Ry, Rr, hb0⟩ := four_rows w #[.int .i64 s.n, .int .i64 s.d0.kind, .int .i64 s.d0.side, .int .i64 s.d0.step, .int .i64 s.d1.kind, .int .i64 s.d1.side, .int .i64 s.d1.step] #[.int .i64 p.a0, .int .i64 p.a1, .int .i64 p.k0.kind, .int .i64 p.k0.len, .int .u64 p.k0.h, .int .u64 p.k0.l, .string ⟨p.k0.path.toArray⟩, .int .i64 p.k1.kind, .int .i64 p.k1.len, .int .u64 p.k1.h, .int .u64 p.k1.l, .string ⟨p.k1.path.toArray⟩] #[.int .i64 b0, .int .i64 b1] #[.int .i64 0, .int .i64 0, .int .i64 0, .int .i64 0, .int .u64 0, .int .u64 0, .string ⟨#[]⟩, .int .i64 0, .int .i64 0, .int .u64 0, .int .u64 0, .string ⟨#[]⟩] 26 33 27 33
  (try clear c0 c1 c2 c3 c4 c5 c6); obtain ⟨c0, c1, c2, c3, c4, c5, c6⟩ := row7 Rc
  (try clear d0 d1 d2 d3 d4 d5 d6 d7 d8 d9 d10 d11); obtain ⟨d0, d1, d2, d3, d4, d5, d6, d7, d8, d9, d10, d11⟩ := row12 Rd
  (try clear y0 y1); obtain ⟨y0, y1⟩ := row2 Ry
  (try clear r0 r1 r2 r3 r4 r5 r6 r7 r8 r9 r10 r11); obtain ⟨r0, r1, r2, r3, r4, r5, r6, r7, r8, r9, r10, r11⟩ := row12 Rr
  go_enter Try.func26, Try.ntmps26
  go_wp2_with fail
  refine (HR _).mono ?_
  rintro e w1 ⟨rfl, hb⟩
  replace Rc := Rc.later hb
  replace Rd := Rd.later hb
  replace Ry := Ry.later hb
  replace Rr := Rr.later hb
  replace hb0 := below_step hb0 hb
  clear hb
  have lc := Rc.lt
  have ld := Rd.lt
  have ly := Ry.lt
  have lr := Rr.lt
  (try clear c0 c1 c2 c3 c4 c5 c6); obtain ⟨c0, c1, c2, c3, c4, c5, c6⟩ := row7 Rc
  (try clear d0 d1 d2 d3 d4 d5 d6 d7 d8 d9 d10 d11); obtain ⟨d0, d1, d2, d3, d4, d5, d6, d7, d8, d9, d10, d11⟩ := row12 Rd
  (try clear y0 y1); obtain ⟨y0, y1⟩ := row2 Ry
  (try clear r0 r1 r2 r3 r4 r5 r6 r7 r8 r9 r10 r11); obtain ⟨r0, r1, r2, r3, r4, r5, r6, r7, r8, r9, r10, r11⟩ := row12 Rr
  go_wp2_with fail
  refine wp_loop_rounds 3 ?_
  replace Rc := Rc.alloc (.cells #[Value.int .i64 b0, Value.int .i64 b1, Value.int .i64 0, Value.int .i64 0, Value.int .u64 0, Value.int .u64 0, Value.string ⟨#[]⟩, Value.int .i64 0, Value.int .i64 0, Value.int .u64 0, Value.int .u64 0, Value.string ⟨#[]⟩] 33)
  replace Rd := Rd.alloc (.cells #[Value.int .i64 b0, Value.int .i64 b1, Value.int .i64 0, Value.int .i64 0, Value.int .u64 0, Value.int .u64 0, Value.string ⟨#[]⟩, Value.int .i64 0, Value.int .i64 0, Value.int .u64 0, Value.int .u64 0, Value.string ⟨#[]⟩] 33)
  replace Ry := Ry.alloc (.cells #[Value.int .i64 b0, Value.int .i64 b1, Value.int .i64 0, Value.int .i64 0, Value.int .u64 0, Value.int .u64 0, Value.string ⟨#[]⟩, Value.int .i64 0, Value.int .i64 0, Value.int .u64 0, Value.int .u64 0, Value.string ⟨#[]⟩] 33)
  replace Rr := Rr.alloc (.cells #[Value.int .i64 b0, Value.int .i64 b1, Value.int .i64 0, Value.int .i64 0, Value.int .u64 0, Value.int .u64 0, Value.string ⟨#[]⟩, Value.int .i64 0, Value.int .i64 0, Value.int .u64 0, Value.int .u64 0, Value.string ⟨#[]⟩] 33)
  have Rup := Row.new w1 #[Value.int .i64 b0, Value.int .i64 b1, Value.int .i64 0, Value.int .i64 0, Value.int .u64 0, Value.int .u64 0, Value.string ⟨#[]⟩, Value.int .i64 0, Value.int .i64 0, Value.int .u64 0, Value.int .u64 0, Value.string ⟨#[]⟩] 33
  have mup := hb0.size
  replace hb0 := hb0.alloc hb0.size (.cells #[Value.int .i64 b0, Value.int .i64 b1, Value.int .i64 0, Value.int .i64 0, Value.int .u64 0, Value.int .u64 0, Value.string ⟨#[]⟩, Value.int .i64 0, Value.int .i64 0, Value.int .u64 0, Value.int .u64 0, Value.string ⟨#[]⟩] 33)
  (try clear c0 c1 c2 c3 c4 c5 c6); obtain ⟨c0, c1, c2, c3, c4, c5, c6⟩ := row7 Rc
  (try clear d0 d1 d2 d3 d4 d5 d6 d7 d8 d9 d10 d11); obtain ⟨d0, d1, d2, d3, d4, d5, d6, d7, d8, d9, d10, d11⟩ := row12 Rd
  (try clear y0 y1); obtain ⟨y0, y1⟩ := row2 Ry
  (try clear r0 r1 r2 r3 r4 r5 r6 r7 r8 r9 r10 r11); obtain ⟨r0, r1, r2, r3, r4, r5, r6, r7, r8, r9, r10, r11⟩ := row12 Rr
  (try clear up0 up1 up2 up3 up4 up5 up6 up7 up8 up9 up10 up11); obtain ⟨up0, up1, up2, up3, up4, up5, up6, up7, up8, up9, up10, up11⟩ := row12 Rup
  rw [rounds_succ]
  go_wp2_with fail
  replace Rc := Rc.alloc (.cells #[Value.int .i64 s.d0.kind, Value.int .i64 s.d0.side, Value.int .i64 s.d0.step] 23)
  replace Rd := Rd.alloc (.cells #[Value.int .i64 s.d0.kind, Value.int .i64 s.d0.side, Value.int .i64 s.d0.step] 23)
  replace Ry := Ry.alloc (.cells #[Value.int .i64 s.d0.kind, Value.int .i64 s.d0.side, Value.int .i64 s.d0.step] 23)
  replace Rr := Rr.alloc (.cells #[Value.int .i64 s.d0.kind, Value.int .i64 s.d0.side, Value.int .i64 s.d0.step] 23)
  replace Rup := Rup.alloc (.cells #[Value.int .i64 s.d0.kind, Value.int .i64 s.d0.side, Value.int .i64 s.d0.step] 23)
  have Rf0x := Row.new (World.alloc w1 (.cells #[Value.int .i64 b0, Value.int .i64 b1, Value.int .i64 0, Value.int .i64 0, Value.int .u64 0, Value.int .u64 0, Value.string ⟨#[]⟩, Value.int .i64 0, Value.int .i64 0, Value.int .u64 0, Value.int .u64 0, Value.string ⟨#[]⟩] 33)) #[Value.int .i64 s.d0.kind, Value.int .i64 s.d0.side, Value.int .i64 s.d0.step] 23
  simp only [World.size_alloc] at Rf0x
  have mf0x := hb0.size
  replace hb0 := hb0.alloc hb0.size (.cells #[Value.int .i64 s.d0.kind, Value.int .i64 s.d0.side, Value.int .i64 s.d0.step] 23)
  (try clear c0 c1 c2 c3 c4 c5 c6); obtain ⟨c0, c1, c2, c3, c4, c5, c6⟩ := row7 Rc
  (try clear d0 d1 d2 d3 d4 d5 d6 d7 d8 d9 d10 d11); obtain ⟨d0, d1, d2, d3, d4, d5, d6, d7, d8, d9, d10, d11⟩ := row12 Rd
  (try clear y0 y1); obtain ⟨y0, y1⟩ := row2 Ry
  (try clear r0 r1 r2 r3 r4 r5 r6 r7 r8 r9 r10 r11); obtain ⟨r0, r1, r2, r3, r4, r5, r6, r7, r8, r9, r10, r11⟩ := row12 Rr
  (try clear up0 up1 up2 up3 up4 up5 up6 up7 up8 up9 up10 up11); obtain ⟨up0, up1, up2, up3, up4, up5, up6, up7, up8, up9, up10, up11⟩ := row12 Rup
  (try clear f0x0 f0x1 f0x2); obtain ⟨f0x0, f0x1, f0x2⟩ := row3 Rf0x
  refine wp_region_held_drew (S := (fun w' => w'.cell? ⟨w.heap.size + 1, 0, none⟩ = some (Value.int .i64 p.a0) ∧ w'.cell? ⟨w.heap.size + 1, 1, none⟩ = some (Value.int .i64 p.a1) ∧ w'.cell? ⟨w.heap.size + 1 + 1, 0, none⟩ = some (Value.int .i64 b0) ∧ w'.cell? ⟨w.heap.size + 1 + 1, 1, none⟩ = some (Value.int .i64 b1) ∧ w'.cell? ⟨w1.heap.size + 1, 0, none⟩ = some (Value.int .i64 s.d0.kind) ∧ w'.cell? ⟨w1.heap.size + 1, 1, none⟩ = some (Value.int .i64 s.d0.side) ∧ w'.cell? ⟨w1.heap.size + 1, 2, none⟩ = some (Value.int .i64 s.d0.step))) (by kernel_rfl) ?hSr34_ (fun hHeld => ?_)
  case hSr34_ => (exact ⟨d0, d1, y0, y1, f0x0, f0x1, f0x2⟩)
  (clear c0 c1 c2 c3 c4 c5 c6 d0 d1 d2 d3 d4 d5 d6 d7 d8 d9 d10 d11 y0 y1 r0 r1 r2 r3 r4 r5 r6 r7 r8 r9 r10 r11 up0 up1 up2 up3 up4 up5 up6 up7 up8 up9 up10 up11 f0x0 f0x1 f0x2; (replace Rc := Rc.drew); (replace Rd := Rd.drew); (replace Ry := Ry.drew); (replace Rr := Rr.drew); (replace Rup := Rup.drew); (replace Rf0x := Rf0x.drew); (replace hb0 := hb0.drew); (generalize World.drew (World.alloc (World.alloc w1 (.cells #[Value.int .i64 b0, Value.int .i64 b1, Value.int .i64 0, Value.int .i64 0, Value.int .u64 0, Value.int .u64 0, Value.string ⟨#[]⟩, Value.int .i64 0, Value.int .i64 0, Value.int .u64 0, Value.int .u64 0, Value.string ⟨#[]⟩] 33)) (.cells #[Value.int .i64 s.d0.kind, Value.int .i64 s.d0.side, Value.int .i64 s.d0.step] 23)) = wq at *))
  refine tk 0 ⟨some 23, .move (.tmp 8), 3, _, _, _⟩ hHeld ?_
  (try simp only [Act.put, nz1, nz2, nz3])
  refine tk 1 ⟨some 24, .indexAddr 27 (.tmp 5) (.tmp 23), 0, _, _, _⟩ hHeld ?_
  (try simp only [Act.put, nz1, nz2, nz3])
  refine tk 2 ⟨some 25, .load 3 (.tmp 24), 3, _, _, _⟩ hHeld ?_
  (try simp only [Act.put, nz1, nz2, nz3])
  refine tk 3 ⟨some 26, .move (.tmp 8), 3, _, _, _⟩ hHeld ?_
  (try simp only [Act.put, nz1, nz2, nz3])
  refine tk 4 ⟨some 27, .fieldAddr 33 (.tmp 4) 0, 0, _, _, _⟩ hHeld ?_
  (try simp only [Act.put, nz1, nz2, nz3])
  refine tk 5 ⟨some 28, .indexAddr 27 (.tmp 27) (.tmp 26), 0, _, _, _⟩ hHeld ?_
  (try simp only [Act.put, nz1, nz2, nz3])
  refine tk 6 ⟨some 29, .load 3 (.tmp 28), 3, _, _, _⟩ hHeld ?_
  (try simp only [Act.put, nz1, nz2, nz3])
  refine tk 7 ⟨some 30, .binOp .lss 3 (.tmp 25) (.tmp 29) 3, 4, _, _, _⟩ hHeld ?_
  (try simp only [Act.put, nz1, nz2, nz3])
  refine tk 8 ⟨some 31, .move (.tmp 30), 4, _, _, _⟩ hHeld ?_
  (try simp only [Act.put, nz1, nz2, nz3])
  refine tk 9 ⟨some 32, .move (.tmp 8), 3, _, _, _⟩ hHeld ?_
  (try simp only [Act.put, nz1, nz2, nz3])
  refine tk 10 ⟨some 33, .indexAddr 27 (.tmp 5) (.tmp 32), 0, _, _, _⟩ hHeld ?_
  (try simp only [Act.put, nz1, nz2, nz3])
  refine tk 11 ⟨some 34, .load 3 (.tmp 33), 3, _, _, _⟩ hHeld ?_
  (try simp only [Act.put, nz1, nz2, nz3])
  refine tk 12 ⟨some 35, .load 23 (.tmp 9), 23, _, _, _⟩ hHeld ?_
  (try simp only [Act.put, nz1, nz2, nz3])
  refine wpAnyH_ready (rs := [13]) (by kernel_rfl) (by simp) ?_
  refine AllReadyH.cons (o := ⟨some 36, .call { callee := .value (.func 55), args := #[.tmp 35], argTypes := #[23] }, 3, _, _, _⟩) rfl (fun K hK => ?_) AllReadyH.nil
  (go_simp; (refine (HD0 _).mono ?_); (rintro e wz ⟨rfl, hb⟩); (replace Rc := Rc.later hb); (replace Rd := Rd.later hb); (replace Ry := Ry.later hb); (replace Rr := Rr.later hb); (replace Rup := Rup.later hb); (replace Rf0x := Rf0x.later hb); (replace hb0 := below_step hb0 hb); go_wp2_with fail)
  refine hK.out _ _ ?hSr34_14_13 (fun hHeld2 => ?_)
  case hSr34_14_13 => (obtain ⟨d0, d1, y0, y1, f0x0, f0x1, f0x2⟩ := hHeld; exact ⟨cell_later hb d0, cell_later hb d1, cell_later hb y0, cell_later hb y1, cell_later hb f0x0, cell_later hb f0x1, cell_later hb f0x2⟩)
  clear hK K hHeld
  have hHeld := hHeld2
  clear hHeld2
  rename World => wq
  (try simp only [Act.put, nz1, nz2, nz3])
  refine tk 14 ⟨some 37, .binOp .gtr 3 (.tmp 34) (.tmp 36) 3, 4, _, _, _⟩ hHeld ?_
  (try simp only [Act.put, nz1, nz2, nz3])
  refine tk 15 ⟨some 38, .pick (.tmp 31) (.const (.bool true)) (.tmp 37), 4, _, _, _⟩ hHeld ?_
  (try simp only [Act.put, nz1, nz2, nz3])
  refine wpAnyH_done (by kernel_rfl) ?_ _
  clear hHeld
  rename World => w2
  have lc := Rc.lt
  have ld := Rd.lt
  have ly := Ry.lt
  have lr := Rr.lt
  have lup := Rup.lt
  have lf0x := Rf0x.lt
  (try clear c0 c1 c2 c3 c4 c5 c6); obtain ⟨c0, c1, c2, c3, c4, c5, c6⟩ := row7 Rc
  (try clear d0 d1 d2 d3 d4 d5 d6 d7 d8 d9 d10 d11); obtain ⟨d0, d1, d2, d3, d4, d5, d6, d7, d8, d9, d10, d11⟩ := row12 Rd
  (try clear y0 y1); obtain ⟨y0, y1⟩ := row2 Ry
  (try clear r0 r1 r2 r3 r4 r5 r6 r7 r8 r9 r10 r11); obtain ⟨r0, r1, r2, r3, r4, r5, r6, r7, r8, r9, r10, r11⟩ := row12 Rr
  (try clear up0 up1 up2 up3 up4 up5 up6 up7 up8 up9 up10 up11); obtain ⟨up0, up1, up2, up3, up4, up5, up6, up7, up8, up9, up10, up11⟩ := row12 Rup
  (try clear f0x0 f0x1 f0x2); obtain ⟨f0x0, f0x1, f0x2⟩ := row3 Rf0x
  go_wp2_with fail
  refine wp_region_held_drew (S := (fun w' => w'.cell? ⟨w.heap.size + 1, 2, none⟩ = some (Value.int .i64 p.k0.kind) ∧ w'.cell? ⟨w.heap.size + 1, 3, none⟩ = some (Value.int .i64 p.k0.len) ∧ w'.cell? ⟨w.heap.size + 1, 4, none⟩ = some (Value.int .u64 p.k0.h) ∧ w'.cell? ⟨w.heap.size + 1, 5, none⟩ = some (Value.int .u64 p.k0.l) ∧ w'.cell? ⟨w.heap.size + 1, 6, none⟩ = some (Value.string ⟨p.k0.path.toArray⟩) ∧ w'.cell? ⟨w.heap.size + 1 + 1, 0, none⟩ = some (Value.int .i64 b0) ∧ w'.cell? ⟨w.heap.size + 1 + 1, 1, none⟩ = some (Value.int .i64 b1) ∧ w'.cell? ⟨w1.heap.size + 1, 0, none⟩ = some (Value.int .i64 s.d0.kind) ∧ w'.cell? ⟨w1.heap.size + 1, 1, none⟩ = some (Value.int .i64 s.d0.side) ∧ w'.cell? ⟨w1.heap.size + 1, 2, none⟩ = some (Value.int .i64 s.d0.step))) (by kernel_rfl) ?hSr35_ (fun hHeld => ?_)
  case hSr35_ => (exact ⟨d2, d3, d4, d5, d6, y0, y1, f0x0, f0x1, f0x2⟩)
  (clear c0 c1 c2 c3 c4 c5 c6 d0 d1 d2 d3 d4 d5 d6 d7 d8 d9 d10 d11 y0 y1 r0 r1 r2 r3 r4 r5 r6 r7 r8 r9 r10 r11 up0 up1 up2 up3 up4 up5 up6 up7 up8 up9 up10 up11 f0x0 f0x1 f0x2; (replace Rc := Rc.drew); (replace Rd := Rd.drew); (replace Ry := Ry.drew); (replace Rr := Rr.drew); (replace Rup := Rup.drew); (replace Rf0x := Rf0x.drew); (replace hb0 := hb0.drew); (generalize World.drew w2 = wq at *))
  refine tk 0 ⟨some 40, .move (.tmp 8), 3, _, _, _⟩ hHeld ?_
  (try simp only [Act.put, nz1, nz2, nz3])
  refine tk 1 ⟨some 41, .load 23 (.tmp 9), 23, _, _, _⟩ hHeld ?_
  (try simp only [Act.put, nz1, nz2, nz3])
  refine tk 2 ⟨some 42, .move (.tmp 8), 3, _, _, _⟩ hHeld ?_
  (try simp only [Act.put, nz1, nz2, nz3])
  refine tk 3 ⟨some 43, .indexAddr 27 (.tmp 5) (.tmp 42), 0, _, _, _⟩ hHeld ?_
  (try simp only [Act.put, nz1, nz2, nz3])
  refine tk 4 ⟨some 44, .load 3 (.tmp 43), 3, _, _, _⟩ hHeld ?_
  (try simp only [Act.put, nz1, nz2, nz3])
  refine tk 5 ⟨some 45, .move (.tmp 8), 3, _, _, _⟩ hHeld ?_
  (try simp only [Act.put, nz1, nz2, nz3])
  refine tk 6 ⟨some 46, .fieldAddr 33 (.tmp 4) 1, 0, _, _, _⟩ hHeld ?_
  (try simp only [Act.put, nz1, nz2, nz3])
  refine tk 7 ⟨some 47, .indexAddr 31 (.tmp 46) (.tmp 45), 0, _, _, _⟩ hHeld ?_
  (try simp only [Act.put, nz1, nz2, nz3])
  refine tk 8 ⟨some 48, .load 30 (.tmp 47), 30, _, _, _⟩ hHeld ?_
  (try simp only [Act.put, nz1, nz2, nz3])
  refine tk 10 ⟨some 50, .fieldAddr 33 (.tmp 7) 1, 0, _, _, _⟩ hHeld ?_
  (try simp only [Act.put, nz1, nz2, nz3])
  refine wpAnyH_ready (rs := [9]) (by kernel_rfl) (by simp) ?_
  refine AllReadyH.cons (o := ⟨some 49, .call { callee := .value (.func 61), args := #[.tmp 41, .tmp 44, .tmp 48], argTypes := #[23, 3, 30] }, 30, _, _, _⟩) rfl (fun K hK => ?_) AllReadyH.nil
  (go_simp; (refine (HC0 _).mono ?_); (rintro e wz ⟨rfl, hb⟩); (replace Rc := Rc.later hb); (replace Rd := Rd.later hb); (replace Ry := Ry.later hb); (replace Rr := Rr.later hb); (replace Rup := Rup.later hb); (replace Rf0x := Rf0x.later hb); (replace hb0 := below_step hb0 hb); go_wp2_with fail)
  refine hK.out _ _ ?hSr35_11_9 (fun hHeld2 => ?_)
  case hSr35_11_9 => (obtain ⟨d2, d3, d4, d5, d6, y0, y1, f0x0, f0x1, f0x2⟩ := hHeld; exact ⟨cell_later hb d2, cell_later hb d3, cell_later hb d4, cell_later hb d5, cell_later hb d6, cell_later hb y0, cell_later hb y1, cell_later hb f0x0, cell_later hb f0x1, cell_later hb f0x2⟩)
  clear hK K hHeld
  have hHeld := hHeld2
  clear hHeld2
  rename World => wq
  (try simp only [Act.put, nz1, nz2, nz3])
  refine tk 11 ⟨some 51, .indexAddr 31 (.tmp 50) (.tmp 40), 0, _, _, _⟩ hHeld ?_
  (try simp only [Act.put, nz1, nz2, nz3])
  refine wpAnyH_ready (rs := [12]) (by kernel_rfl) (by simp) ?_
  refine AllReadyH.cons (o := ⟨none, .store 30 (.tmp 51) (.tmp 49), 0, _, _, _⟩) rfl (fun K hK => ?_) AllReadyH.nil
  ((obtain ⟨zd0, zd1, zc0, zc1, zc2, zc3, zc4, zd7, zd8, zd9, zd10, zd11⟩ := row12 Rup); (have zf0 := Rup.frozen 2); (have zf1 := Rup.frozen 3); (have zf2 := Rup.frozen 4); (have zf3 := Rup.frozen 5); (have zf4 := Rup.frozen 6); (have hHq := hHeld); (obtain ⟨d2, d3, d4, d5, d6, y0, y1, f0x0, f0x1, f0x2⟩ := hHq); go_simp; clear zc0 zf0 zc1 zf1 zc2 zf2 zc3 zf3 zc4 zf4 zd0 zd1 zd7 zd8 zd9 zd10 zd11; (replace d2 := pcell_far (g := w1.heap.size) (o := 2) (vs := [Value.int .i64 u0.kind, Value.int .i64 u0.len, Value.int .u64 u0.h, Value.int .u64 u0.l, Value.string ⟨u0.path.toArray⟩]) d2 (by first | omega | (simp; done) | (simp; omega) | omega)); (replace d3 := pcell_far (g := w1.heap.size) (o := 2) (vs := [Value.int .i64 u0.kind, Value.int .i64 u0.len, Value.int .u64 u0.h, Value.int .u64 u0.l, Value.string ⟨u0.path.toArray⟩]) d3 (by first | omega | (simp; done) | (simp; omega) | omega)); (replace d4 := pcell_far (g := w1.heap.size) (o := 2) (vs := [Value.int .i64 u0.kind, Value.int .i64 u0.len, Value.int .u64 u0.h, Value.int .u64 u0.l, Value.string ⟨u0.path.toArray⟩]) d4 (by first | omega | (simp; done) | (simp; omega) | omega)); (replace d5 := pcell_far (g := w1.heap.size) (o := 2) (vs := [Value.int .i64 u0.kind, Value.int .i64 u0.len, Value.int .u64 u0.h, Value.int .u64 u0.l, Value.string ⟨u0.path.toArray⟩]) d5 (by first | omega | (simp; done) | (simp; omega) | omega)); (replace d6 := pcell_far (g := w1.heap.size) (o := 2) (vs := [Value.int .i64 u0.kind, Value.int .i64 u0.len, Value.int .u64 u0.h, Value.int .u64 u0.l, Value.string ⟨u0.path.toArray⟩]) d6 (by first | omega | (simp; done) | (simp; omega) | omega)); (replace y0 := pcell_far (g := w1.heap.size) (o := 2) (vs := [Value.int .i64 u0.kind, Value.int .i64 u0.len, Value.int .u64 u0.h, Value.int .u64 u0.l, Value.string ⟨u0.path.toArray⟩]) y0 (by first | omega | (simp; done) | (simp; omega) | omega)); (replace y1 := pcell_far (g := w1.heap.size) (o := 2) (vs := [Value.int .i64 u0.kind, Value.int .i64 u0.len, Value.int .u64 u0.h, Value.int .u64 u0.l, Value.string ⟨u0.path.toArray⟩]) y1 (by first | omega | (simp; done) | (simp; omega) | omega)); (replace f0x0 := pcell_far (g := w1.heap.size) (o := 2) (vs := [Value.int .i64 u0.kind, Value.int .i64 u0.len, Value.int .u64 u0.h, Value.int .u64 u0.l, Value.string ⟨u0.path.toArray⟩]) f0x0 (by first | omega | (simp; done) | (simp; omega) | omega)); (replace f0x1 := pcell_far (g := w1.heap.size) (o := 2) (vs := [Value.int .i64 u0.kind, Value.int .i64 u0.len, Value.int .u64 u0.h, Value.int .u64 u0.l, Value.string ⟨u0.path.toArray⟩]) f0x1 (by first | omega | (simp; done) | (simp; omega) | omega)); (replace f0x2 := pcell_far (g := w1.heap.size) (o := 2) (vs := [Value.int .i64 u0.kind, Value.int .i64 u0.len, Value.int .u64 u0.h, Value.int .u64 u0.l, Value.string ⟨u0.path.toArray⟩]) f0x2 (by first | omega | (simp; done) | (simp; omega) | omega)); (replace Rc := prow_far (g := w1.heap.size) (o := 2) (vs := [Value.int .i64 u0.kind, Value.int .i64 u0.len, Value.int .u64 u0.h, Value.int .u64 u0.l, Value.string ⟨u0.path.toArray⟩]) Rc (by first | omega | (simp; done) | (simp; omega) | omega)); (replace Rd := prow_far (g := w1.heap.size) (o := 2) (vs := [Value.int .i64 u0.kind, Value.int .i64 u0.len, Value.int .u64 u0.h, Value.int .u64 u0.l, Value.string ⟨u0.path.toArray⟩]) Rd (by first | omega | (simp; done) | (simp; omega) | omega)); (replace Ry := prow_far (g := w1.heap.size) (o := 2) (vs := [Value.int .i64 u0.kind, Value.int .i64 u0.len, Value.int .u64 u0.h, Value.int .u64 u0.l, Value.string ⟨u0.path.toArray⟩]) Ry (by first | omega | (simp; done) | (simp; omega) | omega)); (replace Rr := prow_far (g := w1.heap.size) (o := 2) (vs := [Value.int .i64 u0.kind, Value.int .i64 u0.len, Value.int .u64 u0.h, Value.int .u64 u0.l, Value.string ⟨u0.path.toArray⟩]) Rr (by first | omega | (simp; done) | (simp; omega) | omega)); (replace Rf0x := prow_far (g := w1.heap.size) (o := 2) (vs := [Value.int .i64 u0.kind, Value.int .i64 u0.len, Value.int .u64 u0.h, Value.int .u64 u0.l, Value.string ⟨u0.path.toArray⟩]) Rf0x (by first | omega | (simp; done) | (simp; omega) | omega)); (replace hb0 := below_setCells (g := w1.heap.size) (by omega) [Value.int .i64 u0.kind, Value.int .i64 u0.len, Value.int .u64 u0.h, Value.int .u64 u0.l, Value.string ⟨u0.path.toArray⟩] 2 _ hb0); (replace Rup : Row (World.setCells wq w1.heap.size 2 [Value.int .i64 u0.kind, Value.int .i64 u0.len, Value.int .u64 u0.h, Value.int .u64 u0.l, Value.string ⟨u0.path.toArray⟩]) w1.heap.size #[.int .i64 b0, .int .i64 b1, .int .i64 u0.kind, .int .i64 u0.len, .int .u64 u0.h, .int .u64 u0.l, .string ⟨u0.path.toArray⟩, .int .i64 0, .int .i64 0, .int .u64 0, .int .u64 0, .string ⟨#[]⟩] 33 := Row.setMany Rup 2 [Value.int .i64 u0.kind, Value.int .i64 u0.len, Value.int .u64 u0.h, Value.int .u64 u0.l, Value.string ⟨u0.path.toArray⟩] (by simp [setL])); (simp only [World.setCells] at Rc Rd Ry Rr Rup Rf0x d2 d3 d4 d5 d6 y0 y1 f0x0 f0x1 f0x2 hb0); generalize (World.setCell (World.setCell (World.setCell (World.setCell (World.setCell wq ⟨w1.heap.size, 2, none⟩ (Value.int .i64 u0.kind)) ⟨w1.heap.size, 3, none⟩ (Value.int .i64 u0.len)) ⟨w1.heap.size, 4, none⟩ (Value.int .u64 u0.h)) ⟨w1.heap.size, 5, none⟩ (Value.int .u64 u0.l)) ⟨w1.heap.size, 6, none⟩ (Value.string ⟨u0.path.toArray⟩)) = wz at *)
  refine hK.out _ _ ?hSr35_13_12 (fun hHeld2 => ?_)
  case hSr35_13_12 => (exact ⟨d2, d3, d4, d5, d6, y0, y1, f0x0, f0x1, f0x2⟩)
  clear hK K hHeld
  have hHeld := hHeld2
  clear hHeld2
  rename World => wq
  (try simp only [Act.put, nz1, nz2, nz3])
  refine wpAnyH_done (by kernel_rfl) ?_ _
  clear hHeld
  rename World => w3
  have lc := Rc.lt
  have ld := Rd.lt
  have ly := Ry.lt
  have lr := Rr.lt
  have lup := Rup.lt
  have lf0x := Rf0x.lt
  (try clear c0 c1 c2 c3 c4 c5 c6); obtain ⟨c0, c1, c2, c3, c4, c5, c6⟩ := row7 Rc
  (try clear d0 d1 d2 d3 d4 d5 d6 d7 d8 d9 d10 d11); obtain ⟨d0, d1, d2, d3, d4, d5, d6, d7, d8, d9, d10, d11⟩ := row12 Rd
  (try clear y0 y1); obtain ⟨y0, y1⟩ := row2 Ry
  (try clear r0 r1 r2 r3 r4 r5 r6 r7 r8 r9 r10 r11); obtain ⟨r0, r1, r2, r3, r4, r5, r6, r7, r8, r9, r10, r11⟩ := row12 Rr
  (try clear up0 up1 up2 up3 up4 up5 up6 up7 up8 up9 up10 up11); obtain ⟨up0, up1, up2, up3, up4, up5, up6, up7, up8, up9, up10, up11⟩ := row12 Rup
  (try clear f0x0 f0x1 f0x2); obtain ⟨f0x0, f0x1, f0x2⟩ := row3 Rf0x
  go_wp2_with fail
  rw [rounds_succ]
  go_wp2_with fail
  replace Rc := Rc.alloc (.cells #[Value.int .i64 s.d1.kind, Value.int .i64 s.d1.side, Value.int .i64 s.d1.step] 23)
  replace Rd := Rd.alloc (.cells #[Value.int .i64 s.d1.kind, Value.int .i64 s.d1.side, Value.int .i64 s.d1.step] 23)
  replace Ry := Ry.alloc (.cells #[Value.int .i64 s.d1.kind, Value.int .i64 s.d1.side, Value.int .i64 s.d1.step] 23)
  replace Rr := Rr.alloc (.cells #[Value.int .i64 s.d1.kind, Value.int .i64 s.d1.side, Value.int .i64 s.d1.step] 23)
  replace Rup := Rup.alloc (.cells #[Value.int .i64 s.d1.kind, Value.int .i64 s.d1.side, Value.int .i64 s.d1.step] 23)
  replace Rf0x := Rf0x.alloc (.cells #[Value.int .i64 s.d1.kind, Value.int .i64 s.d1.side, Value.int .i64 s.d1.step] 23)
  have Rf1x := Row.new w3 #[Value.int .i64 s.d1.kind, Value.int .i64 s.d1.side, Value.int .i64 s.d1.step] 23
  have mf1x := hb0.size
  replace hb0 := hb0.alloc hb0.size (.cells #[Value.int .i64 s.d1.kind, Value.int .i64 s.d1.side, Value.int .i64 s.d1.step] 23)
  (try clear c0 c1 c2 c3 c4 c5 c6); obtain ⟨c0, c1, c2, c3, c4, c5, c6⟩ := row7 Rc
  (try clear d0 d1 d2 d3 d4 d5 d6 d7 d8 d9 d10 d11); obtain ⟨d0, d1, d2, d3, d4, d5, d6, d7, d8, d9, d10, d11⟩ := row12 Rd
  (try clear y0 y1); obtain ⟨y0, y1⟩ := row2 Ry
  (try clear r0 r1 r2 r3 r4 r5 r6 r7 r8 r9 r10 r11); obtain ⟨r0, r1, r2, r3, r4, r5, r6, r7, r8, r9, r10, r11⟩ := row12 Rr
  (try clear up0 up1 up2 up3 up4 up5 up6 up7 up8 up9 up10 up11); obtain ⟨up0, up1, up2, up3, up4, up5, up6, up7, up8, up9, up10, up11⟩ := row12 Rup
  (try clear f0x0 f0x1 f0x2); obtain ⟨f0x0, f0x1, f0x2⟩ := row3 Rf0x
  (try clear f1x0 f1x1 f1x2); obtain ⟨f1x0, f1x1, f1x2⟩ := row3 Rf1x
  refine wp_region_held_drew (S := (fun w' => w'.cell? ⟨w.heap.size + 1, 0, none⟩ = some (Value.int .i64 p.a0) ∧ w'.cell? ⟨w.heap.size + 1, 1, none⟩ = some (Value.int .i64 p.a1) ∧ w'.cell? ⟨w.heap.size + 1 + 1, 0, none⟩ = some (Value.int .i64 b0) ∧ w'.cell? ⟨w.heap.size + 1 + 1, 1, none⟩ = some (Value.int .i64 b1) ∧ w'.cell? ⟨w3.heap.size, 0, none⟩ = some (Value.int .i64 s.d1.kind) ∧ w'.cell? ⟨w3.heap.size, 1, none⟩ = some (Value.int .i64 s.d1.side) ∧ w'.cell? ⟨w3.heap.size, 2, none⟩ = some (Value.int .i64 s.d1.step))) (by kernel_rfl) ?hSr36_ (fun hHeld => ?_)
  case hSr36_ => (exact ⟨d0, d1, y0, y1, f1x0, f1x1, f1x2⟩)
  (clear c0 c1 c2 c3 c4 c5 c6 d0 d1 d2 d3 d4 d5 d6 d7 d8 d9 d10 d11 y0 y1 r0 r1 r2 r3 r4 r5 r6 r7 r8 r9 r10 r11 up0 up1 up2 up3 up4 up5 up6 up7 up8 up9 up10 up11 f0x0 f0x1 f0x2 f1x0 f1x1 f1x2; (replace Rc := Rc.drew); (replace Rd := Rd.drew); (replace Ry := Ry.drew); (replace Rr := Rr.drew); (replace Rup := Rup.drew); (replace Rf0x := Rf0x.drew); (replace Rf1x := Rf1x.drew); (replace hb0 := hb0.drew); (generalize World.drew (World.alloc w3 (.cells #[Value.int .i64 s.d1.kind, Value.int .i64 s.d1.side, Value.int .i64 s.d1.step] 23)) = wq at *))
  refine tk 0 ⟨some 23, .move (.tmp 8), 3, _, _, _⟩ hHeld ?_
  (try simp only [Act.put, nz1, nz2, nz3])
  refine tk 1 ⟨some 24, .indexAddr 27 (.tmp 5) (.tmp 23), 0, _, _, _⟩ hHeld ?_
  (try simp only [Act.put, nz1, nz2, nz3])
  refine tk 2 ⟨some 25, .load 3 (.tmp 24), 3, _, _, _⟩ hHeld ?_
  (try simp only [Act.put, nz1, nz2, nz3])
  refine tk 3 ⟨some 26, .move (.tmp 8), 3, _, _, _⟩ hHeld ?_
  (try simp only [Act.put, nz1, nz2, nz3])
  refine tk 4 ⟨some 27, .fieldAddr 33 (.tmp 4) 0, 0, _, _, _⟩ hHeld ?_
  (try simp only [Act.put, nz1, nz2, nz3])
  refine tk 5 ⟨some 28, .indexAddr 27 (.tmp 27) (.tmp 26), 0, _, _, _⟩ hHeld ?_
  (try simp only [Act.put, nz1, nz2, nz3])
  refine tk 6 ⟨some 29, .load 3 (.tmp 28), 3, _, _, _⟩ hHeld ?_
  (try simp only [Act.put, nz1, nz2, nz3])
  refine tk 7 ⟨some 30, .binOp .lss 3 (.tmp 25) (.tmp 29) 3, 4, _, _, _⟩ hHeld ?_
  (try simp only [Act.put, nz1, nz2, nz3])
  refine tk 8 ⟨some 31, .move (.tmp 30), 4, _, _, _⟩ hHeld ?_
  (try simp only [Act.put, nz1, nz2, nz3])
  refine ts 9 ⟨some 32, .move (.tmp 8), 3, _, _, _⟩ hHeld ?_
  (try simp only [Act.put, nz1, nz2, nz3])
  refine ts 10 ⟨some 33, .indexAddr 27 (.tmp 5) (.tmp 32), 0, _, _, _⟩ hHeld ?_
  (try simp only [Act.put, nz1, nz2, nz3])
  refine ts 11 ⟨some 34, .load 3 (.tmp 33), 3, _, _, _⟩ hHeld ?_
  (try simp only [Act.put, nz1, nz2, nz3])
  refine ts 12 ⟨some 35, .load 23 (.tmp 9), 23, _, _, _⟩ hHeld ?_
  (try simp only [Act.put, nz1, nz2, nz3])
  refine ts 13 ⟨some 36, .call { callee := .value (.func 55), args := #[.tmp 35], argTypes := #[23] }, 3, _, _, _⟩ hHeld ?_
  (try simp only [Act.put, nz1, nz2, nz3])
  refine ts 14 ⟨some 37, .binOp .gtr 3 (.tmp 34) (.tmp 36) 3, 4, _, _, _⟩ hHeld ?_
  (try simp only [Act.put, nz1, nz2, nz3])
  refine tk 15 ⟨some 38, .pick (.tmp 31) (.const (.bool true)) (.tmp 37), 4, _, _, _⟩ hHeld ?_
  (try simp only [Act.put, nz1, nz2, nz3])
  refine wpAnyH_done (by kernel_rfl) ?_ _
  clear hHeld
  rename World => w4
  have lc := Rc.lt
  have ld := Rd.lt
  have ly := Ry.lt
  have lr := Rr.lt
  have lup := Rup.lt
  have lf0x := Rf0x.lt
  have lf1x := Rf1x.lt
  (try clear c0 c1 c2 c3 c4 c5 c6); obtain ⟨c0, c1, c2, c3, c4, c5, c6⟩ := row7 Rc
  (try clear d0 d1 d2 d3 d4 d5 d6 d7 d8 d9 d10 d11); obtain ⟨d0, d1, d2, d3, d4, d5, d6, d7, d8, d9, d10, d11⟩ := row12 Rd
  (try clear y0 y1); obtain ⟨y0, y1⟩ := row2 Ry
  (try clear r0 r1 r2 r3 r4 r5 r6 r7 r8 r9 r10 r11); obtain ⟨r0, r1, r2, r3, r4, r5, r6, r7, r8, r9, r10, r11⟩ := row12 Rr
  (try clear up0 up1 up2 up3 up4 up5 up6 up7 up8 up9 up10 up11); obtain ⟨up0, up1, up2, up3, up4, up5, up6, up7, up8, up9, up10, up11⟩ := row12 Rup
  (try clear f0x0 f0x1 f0x2); obtain ⟨f0x0, f0x1, f0x2⟩ := row3 Rf0x
  (try clear f1x0 f1x1 f1x2); obtain ⟨f1x0, f1x1, f1x2⟩ := row3 Rf1x
  have rf0 := Rr.frozen 0
  have rf1 := Rr.frozen 1
  have rf2 := Rr.frozen 2
  have rf3 := Rr.frozen 3
  have rf4 := Rr.frozen 4
  have rf5 := Rr.frozen 5
  have rf6 := Rr.frozen 6
  have rf7 := Rr.frozen 7
  have rf8 := Rr.frozen 8
  have rf9 := Rr.frozen 9
  have rf10 := Rr.frozen 10
  have rf11 := Rr.frozen 11
  go_wp2
  clear c0 c1 c2 c3 c4 c5 c6
  clear d0 d1 d2 d3 d4 d5 d6 d7 d8 d9 d10 d11
  clear y0 y1
  obtain ⟨w5, hwn⟩ : ∃ wz, wz = (World.setCell (World.setCell (World.setCell (World.setCell (World.setCell (World.setCell (World.setCell (World.setCell (World.setCell (World.setCell (World.setCell (World.setCell w4 ⟨(w.heap.size + 1 + 1 + 1), 0, none⟩ (.int .i64 0)) ⟨(w.heap.size + 1 + 1 + 1), 1, none⟩ (.int .i64 0)) ⟨(w.heap.size + 1 + 1 + 1), 2, none⟩ (.int .i64 0)) ⟨(w.heap.size + 1 + 1 + 1), 3, none⟩ (.int .i64 0)) ⟨(w.heap.size + 1 + 1 + 1), 4, none⟩ (.int .u64 0)) ⟨(w.heap.size + 1 + 1 + 1), 5, none⟩ (.int .u64 0)) ⟨(w.heap.size + 1 + 1 + 1), 6, none⟩ (.string ⟨#[]⟩)) ⟨(w.heap.size + 1 + 1 + 1), 7, none⟩ (.int .i64 0)) ⟨(w.heap.size + 1 + 1 + 1), 8, none⟩ (.int .i64 0)) ⟨(w.heap.size + 1 + 1 + 1), 9, none⟩ (.int .u64 0)) ⟨(w.heap.size + 1 + 1 + 1), 10, none⟩ (.int .u64 0)) ⟨(w.heap.size + 1 + 1 + 1), 11, none⟩ (.string ⟨#[]⟩)) := ⟨_, rfl⟩
  rw [← hwn]
  replace hwn : w5 = World.setCells w4 (w.heap.size + 1 + 1 + 1) 0 [.int .i64 0, .int .i64 0, .int .i64 0, .int .i64 0, .int .u64 0, .int .u64 0, .string ⟨#[]⟩, .int .i64 0, .int .i64 0, .int .u64 0, .int .u64 0, .string ⟨#[]⟩] := hwn
  replace Rr : Row w5 (w.heap.size + 1 + 1 + 1) #[.int .i64 0, .int .i64 0, .int .i64 0, .int .i64 0, .int .u64 0, .int .u64 0, .string ⟨#[]⟩, .int .i64 0, .int .i64 0, .int .u64 0, .int .u64 0, .string ⟨#[]⟩] 33 := psm hwn Rr (by simp [setL])
  replace Rc := prf hwn Rc
  replace Rd := prf hwn Rd
  replace Ry := prf hwn Ry
  replace Rup := prf hwn Rup
  replace Rf0x := prf hwn Rf0x
  replace Rf1x := prf hwn Rf1x
  replace hb0 := pbl hwn hb0
  clear hwn r0 r1 r2 r3 r4 r5 r6 r7 r8 r9 r10 r11 up0 up1 up2 up3 up4 up5 up6 up7 up8 up9 up10 up11 f0x0 f0x1 f0x2 f1x0 f1x1 f1x2
  (try clear rf0 rf1 rf2 rf3 rf4 rf5 rf6 rf7 rf8 rf9 rf10 rf11)
  (try clear r0 r1 r2 r3 r4 r5 r6 r7 r8 r9 r10 r11); obtain ⟨r0, r1, r2, r3, r4, r5, r6, r7, r8, r9, r10, r11⟩ := row12 Rr
  (try clear up0 up1 up2 up3 up4 up5 up6 up7 up8 up9 up10 up11); obtain ⟨up0, up1, up2, up3, up4, up5, up6, up7, up8, up9, up10, up11⟩ := row12 Rup
  (try clear f0x0 f0x1 f0x2); obtain ⟨f0x0, f0x1, f0x2⟩ := row3 Rf0x
  (try clear f1x0 f1x1 f1x2); obtain ⟨f1x0, f1x1, f1x2⟩ := row3 Rf1x
  refine bodyPost_ret (v := .agg #[.int .i64 0, .int .i64 0, .int .i64 0, .int .i64 0, .int .u64 0, .int .u64 0, .string ⟨#[]⟩, .int .i64 0, .int .i64 0, .int .u64 0, .int .u64 0, .string ⟨#[]⟩]) (by simp [results, Try.results26, go_sem, r0, r1, r2, r3, r4, r5, r6, r7, r8, r9, r10, r11]) rfl ⟨rfl, hb0⟩
set_option maxRecDepth 100000 in
theorem up_hi1 (s : Sp) (p : Px) (b0 b1 : Int) (HR : ∀ w, Calls Try.prog 20 #[sv s, pv p] w fun e w' => e = .returned (.bool true) ∧ Below w.heap.size w w') (D0 : Int) (HD0 : ∀ w, Calls Try.prog 55 #[dv s.d0] w fun e w' => e = .returned (.int .i64 D0) ∧ Below w.heap.size w w') (u0 : Ke) (HC0 : ∀ w, Calls Try.prog 61 #[dv s.d0, .int .i64 b0, kv p.k0] w fun e w' => e = .returned (kv u0) ∧ Below w.heap.size w w') (g0 : ¬ b0 < p.a0) (h0 : ¬ D0 < b0) (D1 : Int) (HD1 : ∀ w, Calls Try.prog 55 #[dv s.d1] w fun e w' => e = .returned (.int .i64 D1) ∧ Below w.heap.size w w') (g1 : ¬ b1 < p.a1) (h1 : D1 < b1) (w : World) : Calls Try.prog 26 #[sv s, pv p, .agg #[.int .i64 b0, .int .i64 b1]] w fun e w' => e = .returned (.agg #[.int .i64 0, .int .i64 0, .int .i64 0, .int .i64 0, .int .u64 0, .int .u64 0, .string ⟨#[]⟩, .int .i64 0, .int .i64 0, .int .u64 0, .int .u64 0, .string ⟨#[]⟩]) ∧ Below w.heap.size w w' := by
  have i0 := ixd0
  have i1 := ixd1
  have t0 : decide (b0 < p.a0) = false := decide_eq_false g0
  have e0 : decide (D0 < b0) = false := decide_eq_false h0
  have t1 : decide (b1 < p.a1) = false := decide_eq_false g1
  have e1 : decide (D1 < b1) = true := decide_eq_true h1
  unfold sv pv at *
  (try unfold dv at *)
  (try unfold kv at *)
  obtain ⟨Rc, Rd, Ry, Rr, hb0⟩ := four_rows w #[.int .i64 s.n, .int .i64 s.d0.kind, .int .i64 s.d0.side, .int .i64 s.d0.step, .int .i64 s.d1.kind, .int .i64 s.d1.side, .int .i64 s.d1.step] #[.int .i64 p.a0, .int .i64 p.a1, .int .i64 p.k0.kind, .int .i64 p.k0.len, .int .u64 p.k0.h, .int .u64 p.k0.l, .string ⟨p.k0.path.toArray⟩, .int .i64 p.k1.kind, .int .i64 p.k1.len, .int .u64 p.k1.h, .int .u64 p.k1.l, .string ⟨p.k1.path.toArray⟩] #[.int .i64 b0, .int .i64 b1] #[.int .i64 0, .int .i64 0, .int .i64 0, .int .i64 0, .int .u64 0, .int .u64 0, .string ⟨#[]⟩, .int .i64 0, .int .i64 0, .int .u64 0, .int .u64 0, .string ⟨#[]⟩] 26 33 27 33
  (try clear c0 c1 c2 c3 c4 c5 c6); obtain ⟨c0, c1, c2, c3, c4, c5, c6⟩ := row7 Rc
  (try clear d0 d1 d2 d3 d4 d5 d6 d7 d8 d9 d10 d11); obtain ⟨d0, d1, d2, d3, d4, d5, d6, d7, d8, d9, d10, d11⟩ := row12 Rd
  (try clear y0 y1); obtain ⟨y0, y1⟩ := row2 Ry
  (try clear r0 r1 r2 r3 r4 r5 r6 r7 r8 r9 r10 r11); obtain ⟨r0, r1, r2, r3, r4, r5, r6, r7, r8, r9, r10, r11⟩ := row12 Rr
  go_enter Try.func26, Try.ntmps26
  go_wp2_with fail
  refine (HR _).mono ?_
  rintro e w1 ⟨rfl, hb⟩
  replace Rc := Rc.later hb
  replace Rd := Rd.later hb
  replace Ry := Ry.later hb
  replace Rr := Rr.later hb
  replace hb0 := below_step hb0 hb
  clear hb
  have lc := Rc.lt
  have ld := Rd.lt
  have ly := Ry.lt
  have lr := Rr.lt
  (try clear c0 c1 c2 c3 c4 c5 c6); obtain ⟨c0, c1, c2, c3, c4, c5, c6⟩ := row7 Rc
  (try clear d0 d1 d2 d3 d4 d5 d6 d7 d8 d9 d10 d11); obtain ⟨d0, d1, d2, d3, d4, d5, d6, d7, d8, d9, d10, d11⟩ := row12 Rd
  (try clear y0 y1); obtain ⟨y0, y1⟩ := row2 Ry
  (try clear r0 r1 r2 r3 r4 r5 r6 r7 r8 r9 r10 r11); obtain ⟨r0, r1, r2, r3, r4, r5, r6, r7, r8, r9, r10, r11⟩ := row12 Rr
  go_wp2_with fail
  refine wp_loop_rounds 3 ?_
  replace Rc := Rc.alloc (.cells #[Value.int .i64 b0, Value.int .i64 b1, Value.int .i64 0, Value.int .i64 0, Value.int .u64 0, Value.int .u64 0, Value.string ⟨#[]⟩, Value.int .i64 0, Value.int .i64 0, Value.int .u64 0, Value.int .u64 0, Value.string ⟨#[]⟩] 33)
  replace Rd := Rd.alloc (.cells #[Value.int .i64 b0, Value.int .i64 b1, Value.int .i64 0, Value.int .i64 0, Value.int .u64 0, Value.int .u64 0, Value.string ⟨#[]⟩, Value.int .i64 0, Value.int .i64 0, Value.int .u64 0, Value.int .u64 0, Value.string ⟨#[]⟩] 33)
  replace Ry := Ry.alloc (.cells #[Value.int .i64 b0, Value.int .i64 b1, Value.int .i64 0, Value.int .i64 0, Value.int .u64 0, Value.int .u64 0, Value.string ⟨#[]⟩, Value.int .i64 0, Value.int .i64 0, Value.int .u64 0, Value.int .u64 0, Value.string ⟨#[]⟩] 33)
  replace Rr := Rr.alloc (.cells #[Value.int .i64 b0, Value.int .i64 b1, Value.int .i64 0, Value.int .i64 0, Value.int .u64 0, Value.int .u64 0, Value.string ⟨#[]⟩, Value.int .i64 0, Value.int .i64 0, Value.int .u64 0, Value.int .u64 0, Value.string ⟨#[]⟩] 33)
  have Rup := Row.new w1 #[Value.int .i64 b0, Value.int .i64 b1, Value.int .i64 0, Value.int .i64 0, Value.int .u64 0, Value.int .u64 0, Value.string ⟨#[]⟩, Value.int .i64 0, Value.int .i64 0, Value.int .u64 0, Value.int .u64 0, Value.string ⟨#[]⟩] 33
  have mup := hb0.size
  replace hb0 := hb0.alloc hb0.size (.cells #[Value.int .i64 b0, Value.int .i64 b1, Value.int .i64 0, Value.int .i64 0, Value.int .u64 0, Value.int .u64 0, Value.string ⟨#[]⟩, Value.int .i64 0, Value.int .i64 0, Value.int .u64 0, Value.int .u64 0, Value.string ⟨#[]⟩] 33)
  (try clear c0 c1 c2 c3 c4 c5 c6); obtain ⟨c0, c1, c2, c3, c4, c5, c6⟩ := row7 Rc
  (try clear d0 d1 d2 d3 d4 d5 d6 d7 d8 d9 d10 d11); obtain ⟨d0, d1, d2, d3, d4, d5, d6, d7, d8, d9, d10, d11⟩ := row12 Rd
  (try clear y0 y1); obtain ⟨y0, y1⟩ := row2 Ry
  (try clear r0 r1 r2 r3 r4 r5 r6 r7 r8 r9 r10 r11); obtain ⟨r0, r1, r2, r3, r4, r5, r6, r7, r8, r9, r10, r11⟩ := row12 Rr
  (try clear up0 up1 up2 up3 up4 up5 up6 up7 up8 up9 up10 up11); obtain ⟨up0, up1, up2, up3, up4, up5, up6, up7, up8, up9, up10, up11⟩ := row12 Rup
  rw [rounds_succ]
  go_wp2_with fail
  replace Rc := Rc.alloc (.cells #[Value.int .i64 s.d0.kind, Value.int .i64 s.d0.side, Value.int .i64 s.d0.step] 23)
  replace Rd := Rd.alloc (.cells #[Value.int .i64 s.d0.kind, Value.int .i64 s.d0.side, Value.int .i64 s.d0.step] 23)
  replace Ry := Ry.alloc (.cells #[Value.int .i64 s.d0.kind, Value.int .i64 s.d0.side, Value.int .i64 s.d0.step] 23)
  replace Rr := Rr.alloc (.cells #[Value.int .i64 s.d0.kind, Value.int .i64 s.d0.side, Value.int .i64 s.d0.step] 23)
  replace Rup := Rup.alloc (.cells #[Value.int .i64 s.d0.kind, Value.int .i64 s.d0.side, Value.int .i64 s.d0.step] 23)
  have Rf0x := Row.new (World.alloc w1 (.cells #[Value.int .i64 b0, Value.int .i64 b1, Value.int .i64 0, Value.int .i64 0, Value.int .u64 0, Value.int .u64 0, Value.string ⟨#[]⟩, Value.int .i64 0, Value.int .i64 0, Value.int .u64 0, Value.int .u64 0, Value.string ⟨#[]⟩] 33)) #[Value.int .i64 s.d0.kind, Value.int .i64 s.d0.side, Value.int .i64 s.d0.step] 23
  simp only [World.size_alloc] at Rf0x
  have mf0x := hb0.size
  replace hb0 := hb0.alloc hb0.size (.cells #[Value.int .i64 s.d0.kind, Value.int .i64 s.d0.side, Value.int .i64 s.d0.step] 23)
  (try clear c0 c1 c2 c3 c4 c5 c6); obtain ⟨c0, c1, c2, c3, c4, c5, c6⟩ := row7 Rc
  (try clear d0 d1 d2 d3 d4 d5 d6 d7 d8 d9 d10 d11); obtain ⟨d0, d1, d2, d3, d4, d5, d6, d7, d8, d9, d10, d11⟩ := row12 Rd
  (try clear y0 y1); obtain ⟨y0, y1⟩ := row2 Ry
  (try clear r0 r1 r2 r3 r4 r5 r6 r7 r8 r9 r10 r11); obtain ⟨r0, r1, r2, r3, r4, r5, r6, r7, r8, r9, r10, r11⟩ := row12 Rr
  (try clear up0 up1 up2 up3 up4 up5 up6 up7 up8 up9 up10 up11); obtain ⟨up0, up1, up2, up3, up4, up5, up6, up7, up8, up9, up10, up11⟩ := row12 Rup
  (try clear f0x0 f0x1 f0x2); obtain ⟨f0x0, f0x1, f0x2⟩ := row3 Rf0x
  refine wp_region_held_drew (S := (fun w' => w'.cell? ⟨w.heap.size + 1, 0, none⟩ = some (Value.int .i64 p.a0) ∧ w'.cell? ⟨w.heap.size + 1, 1, none⟩ = some (Value.int .i64 p.a1) ∧ w'.cell? ⟨w.heap.size + 1 + 1, 0, none⟩ = some (Value.int .i64 b0) ∧ w'.cell? ⟨w.heap.size + 1 + 1, 1, none⟩ = some (Value.int .i64 b1) ∧ w'.cell? ⟨w1.heap.size + 1, 0, none⟩ = some (Value.int .i64 s.d0.kind) ∧ w'.cell? ⟨w1.heap.size + 1, 1, none⟩ = some (Value.int .i64 s.d0.side) ∧ w'.cell? ⟨w1.heap.size + 1, 2, none⟩ = some (Value.int .i64 s.d0.step))) (by kernel_rfl) ?hSr37_ (fun hHeld => ?_)
  case hSr37_ => (exact ⟨d0, d1, y0, y1, f0x0, f0x1, f0x2⟩)
  (clear c0 c1 c2 c3 c4 c5 c6 d0 d1 d2 d3 d4 d5 d6 d7 d8 d9 d10 d11 y0 y1 r0 r1 r2 r3 r4 r5 r6 r7 r8 r9 r10 r11 up0 up1 up2 up3 up4 up5 up6 up7 up8 up9 up10 up11 f0x0 f0x1 f0x2; (replace Rc := Rc.drew); (replace Rd := Rd.drew); (replace Ry := Ry.drew); (replace Rr := Rr.drew); (replace Rup := Rup.drew); (replace Rf0x := Rf0x.drew); (replace hb0 := hb0.drew); (generalize World.drew (World.alloc (World.alloc w1 (.cells #[Value.int .i64 b0, Value.int .i64 b1, Value.int .i64 0, Value.int .i64 0, Value.int .u64 0, Value.int .u64 0, Value.string ⟨#[]⟩, Value.int .i64 0, Value.int .i64 0, Value.int .u64 0, Value.int .u64 0, Value.string ⟨#[]⟩] 33)) (.cells #[Value.int .i64 s.d0.kind, Value.int .i64 s.d0.side, Value.int .i64 s.d0.step] 23)) = wq at *))
  refine tk 0 ⟨some 23, .move (.tmp 8), 3, _, _, _⟩ hHeld ?_
  (try simp only [Act.put, nz1, nz2, nz3])
  refine tk 1 ⟨some 24, .indexAddr 27 (.tmp 5) (.tmp 23), 0, _, _, _⟩ hHeld ?_
  (try simp only [Act.put, nz1, nz2, nz3])
  refine tk 2 ⟨some 25, .load 3 (.tmp 24), 3, _, _, _⟩ hHeld ?_
  (try simp only [Act.put, nz1, nz2, nz3])
  refine tk 3 ⟨some 26, .move (.tmp 8), 3, _, _, _⟩ hHeld ?_
  (try simp only [Act.put, nz1, nz2, nz3])
  refine tk 4 ⟨some 27, .fieldAddr 33 (.tmp 4) 0, 0, _, _, _⟩ hHeld ?_
  (try simp only [Act.put, nz1, nz2, nz3])
  refine tk 5 ⟨some 28, .indexAddr 27 (.tmp 27) (.tmp 26), 0, _, _, _⟩ hHeld ?_
  (try simp only [Act.put, nz1, nz2, nz3])
  refine tk 6 ⟨some 29, .load 3 (.tmp 28), 3, _, _, _⟩ hHeld ?_
  (try simp only [Act.put, nz1, nz2, nz3])
  refine tk 7 ⟨some 30, .binOp .lss 3 (.tmp 25) (.tmp 29) 3, 4, _, _, _⟩ hHeld ?_
  (try simp only [Act.put, nz1, nz2, nz3])
  refine tk 8 ⟨some 31, .move (.tmp 30), 4, _, _, _⟩ hHeld ?_
  (try simp only [Act.put, nz1, nz2, nz3])
  refine tk 9 ⟨some 32, .move (.tmp 8), 3, _, _, _⟩ hHeld ?_
  (try simp only [Act.put, nz1, nz2, nz3])
  refine tk 10 ⟨some 33, .indexAddr 27 (.tmp 5) (.tmp 32), 0, _, _, _⟩ hHeld ?_
  (try simp only [Act.put, nz1, nz2, nz3])
  refine tk 11 ⟨some 34, .load 3 (.tmp 33), 3, _, _, _⟩ hHeld ?_
  (try simp only [Act.put, nz1, nz2, nz3])
  refine tk 12 ⟨some 35, .load 23 (.tmp 9), 23, _, _, _⟩ hHeld ?_
  (try simp only [Act.put, nz1, nz2, nz3])
  refine wpAnyH_ready (rs := [13]) (by kernel_rfl) (by simp) ?_
  refine AllReadyH.cons (o := ⟨some 36, .call { callee := .value (.func 55), args := #[.tmp 35], argTypes := #[23] }, 3, _, _, _⟩) rfl (fun K hK => ?_) AllReadyH.nil
  (go_simp; (refine (HD0 _).mono ?_); (rintro e wz ⟨rfl, hb⟩); (replace Rc := Rc.later hb); (replace Rd := Rd.later hb); (replace Ry := Ry.later hb); (replace Rr := Rr.later hb); (replace Rup := Rup.later hb); (replace Rf0x := Rf0x.later hb); (replace hb0 := below_step hb0 hb); go_wp2_with fail)
  refine hK.out _ _ ?hSr37_14_13 (fun hHeld2 => ?_)
  case hSr37_14_13 => (obtain ⟨d0, d1, y0, y1, f0x0, f0x1, f0x2⟩ := hHeld; exact ⟨cell_later hb d0, cell_later hb d1, cell_later hb y0, cell_later hb y1, cell_later hb f0x0, cell_later hb f0x1, cell_later hb f0x2⟩)
  clear hK K hHeld
  have hHeld := hHeld2
  clear hHeld2
  rename World => wq
  (try simp only [Act.put, nz1, nz2, nz3])
  refine tk 14 ⟨some 37, .binOp .gtr 3 (.tmp 34) (.tmp 36) 3, 4, _, _, _⟩ hHeld ?_
  (try simp only [Act.put, nz1, nz2, nz3])
  refine tk 15 ⟨some 38, .pick (.tmp 31) (.const (.bool true)) (.tmp 37), 4, _, _, _⟩ hHeld ?_
  (try simp only [Act.put, nz1, nz2, nz3])
  refine wpAnyH_done (by kernel_rfl) ?_ _
  clear hHeld
  rename World => w2
  have lc := Rc.lt
  have ld := Rd.lt
  have ly := Ry.lt
  have lr := Rr.lt
  have lup := Rup.lt
  have lf0x := Rf0x.lt
  (try clear c0 c1 c2 c3 c4 c5 c6); obtain ⟨c0, c1, c2, c3, c4, c5, c6⟩ := row7 Rc
  (try clear d0 d1 d2 d3 d4 d5 d6 d7 d8 d9 d10 d11); obtain ⟨d0, d1, d2, d3, d4, d5, d6, d7, d8, d9, d10, d11⟩ := row12 Rd
  (try clear y0 y1); obtain ⟨y0, y1⟩ := row2 Ry
  (try clear r0 r1 r2 r3 r4 r5 r6 r7 r8 r9 r10 r11); obtain ⟨r0, r1, r2, r3, r4, r5, r6, r7, r8, r9, r10, r11⟩ := row12 Rr
  (try clear up0 up1 up2 up3 up4 up5 up6 up7 up8 up9 up10 up11); obtain ⟨up0, up1, up2, up3, up4, up5, up6, up7, up8, up9, up10, up11⟩ := row12 Rup
  (try clear f0x0 f0x1 f0x2); obtain ⟨f0x0, f0x1, f0x2⟩ := row3 Rf0x
  go_wp2_with fail
  refine wp_region_held_drew (S := (fun w' => w'.cell? ⟨w.heap.size + 1, 2, none⟩ = some (Value.int .i64 p.k0.kind) ∧ w'.cell? ⟨w.heap.size + 1, 3, none⟩ = some (Value.int .i64 p.k0.len) ∧ w'.cell? ⟨w.heap.size + 1, 4, none⟩ = some (Value.int .u64 p.k0.h) ∧ w'.cell? ⟨w.heap.size + 1, 5, none⟩ = some (Value.int .u64 p.k0.l) ∧ w'.cell? ⟨w.heap.size + 1, 6, none⟩ = some (Value.string ⟨p.k0.path.toArray⟩) ∧ w'.cell? ⟨w.heap.size + 1 + 1, 0, none⟩ = some (Value.int .i64 b0) ∧ w'.cell? ⟨w.heap.size + 1 + 1, 1, none⟩ = some (Value.int .i64 b1) ∧ w'.cell? ⟨w1.heap.size + 1, 0, none⟩ = some (Value.int .i64 s.d0.kind) ∧ w'.cell? ⟨w1.heap.size + 1, 1, none⟩ = some (Value.int .i64 s.d0.side) ∧ w'.cell? ⟨w1.heap.size + 1, 2, none⟩ = some (Value.int .i64 s.d0.step))) (by kernel_rfl) ?hSr38_ (fun hHeld => ?_)
  case hSr38_ => (exact ⟨d2, d3, d4, d5, d6, y0, y1, f0x0, f0x1, f0x2⟩)
  (clear c0 c1 c2 c3 c4 c5 c6 d0 d1 d2 d3 d4 d5 d6 d7 d8 d9 d10 d11 y0 y1 r0 r1 r2 r3 r4 r5 r6 r7 r8 r9 r10 r11 up0 up1 up2 up3 up4 up5 up6 up7 up8 up9 up10 up11 f0x0 f0x1 f0x2; (replace Rc := Rc.drew); (replace Rd := Rd.drew); (replace Ry := Ry.drew); (replace Rr := Rr.drew); (replace Rup := Rup.drew); (replace Rf0x := Rf0x.drew); (replace hb0 := hb0.drew); (generalize World.drew w2 = wq at *))
  refine tk 0 ⟨some 40, .move (.tmp 8), 3, _, _, _⟩ hHeld ?_
  (try simp only [Act.put, nz1, nz2, nz3])
  refine tk 1 ⟨some 41, .load 23 (.tmp 9), 23, _, _, _⟩ hHeld ?_
  (try simp only [Act.put, nz1, nz2, nz3])
  refine tk 2 ⟨some 42, .move (.tmp 8), 3, _, _, _⟩ hHeld ?_
  (try simp only [Act.put, nz1, nz2, nz3])
  refine tk 3 ⟨some 43, .indexAddr 27 (.tmp 5) (.tmp 42), 0, _, _, _⟩ hHeld ?_
  (try simp only [Act.put, nz1, nz2, nz3])
  refine tk 4 ⟨some 44, .load 3 (.tmp 43), 3, _, _, _⟩ hHeld ?_
  (try simp only [Act.put, nz1, nz2, nz3])
  refine tk 5 ⟨some 45, .move (.tmp 8), 3, _, _, _⟩ hHeld ?_
  (try simp only [Act.put, nz1, nz2, nz3])
  refine tk 6 ⟨some 46, .fieldAddr 33 (.tmp 4) 1, 0, _, _, _⟩ hHeld ?_
  (try simp only [Act.put, nz1, nz2, nz3])
  refine tk 7 ⟨some 47, .indexAddr 31 (.tmp 46) (.tmp 45), 0, _, _, _⟩ hHeld ?_
  (try simp only [Act.put, nz1, nz2, nz3])
  refine tk 8 ⟨some 48, .load 30 (.tmp 47), 30, _, _, _⟩ hHeld ?_
  (try simp only [Act.put, nz1, nz2, nz3])
  refine tk 10 ⟨some 50, .fieldAddr 33 (.tmp 7) 1, 0, _, _, _⟩ hHeld ?_
  (try simp only [Act.put, nz1, nz2, nz3])
  refine wpAnyH_ready (rs := [9]) (by kernel_rfl) (by simp) ?_
  refine AllReadyH.cons (o := ⟨some 49, .call { callee := .value (.func 61), args := #[.tmp 41, .tmp 44, .tmp 48], argTypes := #[23, 3, 30] }, 30, _, _, _⟩) rfl (fun K hK => ?_) AllReadyH.nil
  (go_simp; (refine (HC0 _).mono ?_); (rintro e wz ⟨rfl, hb⟩); (replace Rc := Rc.later hb); (replace Rd := Rd.later hb); (replace Ry := Ry.later hb); (replace Rr := Rr.later hb); (replace Rup := Rup.later hb); (replace Rf0x := Rf0x.later hb); (replace hb0 := below_step hb0 hb); go_wp2_with fail)
  refine hK.out _ _ ?hSr38_11_9 (fun hHeld2 => ?_)
  case hSr38_11_9 => (obtain ⟨d2, d3, d4, d5, d6, y0, y1, f0x0, f0x1, f0x2⟩ := hHeld; exact ⟨cell_later hb d2, cell_later hb d3, cell_later hb d4, cell_later hb d5, cell_later hb d6, cell_later hb y0, cell_later hb y1, cell_later hb f0x0, cell_later hb f0x1, cell_later hb f0x2⟩)
  clear hK K hHeld
  have hHeld := hHeld2
  clear hHeld2
  rename World => wq
  (try simp only [Act.put, nz1, nz2, nz3])
  refine tk 11 ⟨some 51, .indexAddr 31 (.tmp 50) (.tmp 40), 0, _, _, _⟩ hHeld ?_
  (try simp only [Act.put, nz1, nz2, nz3])
  refine wpAnyH_ready (rs := [12]) (by kernel_rfl) (by simp) ?_
  refine AllReadyH.cons (o := ⟨none, .store 30 (.tmp 51) (.tmp 49), 0, _, _, _⟩) rfl (fun K hK => ?_) AllReadyH.nil
  ((obtain ⟨zd0, zd1, zc0, zc1, zc2, zc3, zc4, zd7, zd8, zd9, zd10, zd11⟩ := row12 Rup); (have zf0 := Rup.frozen 2); (have zf1 := Rup.frozen 3); (have zf2 := Rup.frozen 4); (have zf3 := Rup.frozen 5); (have zf4 := Rup.frozen 6); (have hHq := hHeld); (obtain ⟨d2, d3, d4, d5, d6, y0, y1, f0x0, f0x1, f0x2⟩ := hHq); go_simp; clear zc0 zf0 zc1 zf1 zc2 zf2 zc3 zf3 zc4 zf4 zd0 zd1 zd7 zd8 zd9 zd10 zd11; (replace d2 := pcell_far (g := w1.heap.size) (o := 2) (vs := [Value.int .i64 u0.kind, Value.int .i64 u0.len, Value.int .u64 u0.h, Value.int .u64 u0.l, Value.string ⟨u0.path.toArray⟩]) d2 (by first | omega | (simp; done) | (simp; omega) | omega)); (replace d3 := pcell_far (g := w1.heap.size) (o := 2) (vs := [Value.int .i64 u0.kind, Value.int .i64 u0.len, Value.int .u64 u0.h, Value.int .u64 u0.l, Value.string ⟨u0.path.toArray⟩]) d3 (by first | omega | (simp; done) | (simp; omega) | omega)); (replace d4 := pcell_far (g := w1.heap.size) (o := 2) (vs := [Value.int .i64 u0.kind, Value.int .i64 u0.len, Value.int .u64 u0.h, Value.int .u64 u0.l, Value.string ⟨u0.path.toArray⟩]) d4 (by first | omega | (simp; done) | (simp; omega) | omega)); (replace d5 := pcell_far (g := w1.heap.size) (o := 2) (vs := [Value.int .i64 u0.kind, Value.int .i64 u0.len, Value.int .u64 u0.h, Value.int .u64 u0.l, Value.string ⟨u0.path.toArray⟩]) d5 (by first | omega | (simp; done) | (simp; omega) | omega)); (replace d6 := pcell_far (g := w1.heap.size) (o := 2) (vs := [Value.int .i64 u0.kind, Value.int .i64 u0.len, Value.int .u64 u0.h, Value.int .u64 u0.l, Value.string ⟨u0.path.toArray⟩]) d6 (by first | omega | (simp; done) | (simp; omega) | omega)); (replace y0 := pcell_far (g := w1.heap.size) (o := 2) (vs := [Value.int .i64 u0.kind, Value.int .i64 u0.len, Value.int .u64 u0.h, Value.int .u64 u0.l, Value.string ⟨u0.path.toArray⟩]) y0 (by first | omega | (simp; done) | (simp; omega) | omega)); (replace y1 := pcell_far (g := w1.heap.size) (o := 2) (vs := [Value.int .i64 u0.kind, Value.int .i64 u0.len, Value.int .u64 u0.h, Value.int .u64 u0.l, Value.string ⟨u0.path.toArray⟩]) y1 (by first | omega | (simp; done) | (simp; omega) | omega)); (replace f0x0 := pcell_far (g := w1.heap.size) (o := 2) (vs := [Value.int .i64 u0.kind, Value.int .i64 u0.len, Value.int .u64 u0.h, Value.int .u64 u0.l, Value.string ⟨u0.path.toArray⟩]) f0x0 (by first | omega | (simp; done) | (simp; omega) | omega)); (replace f0x1 := pcell_far (g := w1.heap.size) (o := 2) (vs := [Value.int .i64 u0.kind, Value.int .i64 u0.len, Value.int .u64 u0.h, Value.int .u64 u0.l, Value.string ⟨u0.path.toArray⟩]) f0x1 (by first | omega | (simp; done) | (simp; omega) | omega)); (replace f0x2 := pcell_far (g := w1.heap.size) (o := 2) (vs := [Value.int .i64 u0.kind, Value.int .i64 u0.len, Value.int .u64 u0.h, Value.int .u64 u0.l, Value.string ⟨u0.path.toArray⟩]) f0x2 (by first | omega | (simp; done) | (simp; omega) | omega)); (replace Rc := prow_far (g := w1.heap.size) (o := 2) (vs := [Value.int .i64 u0.kind, Value.int .i64 u0.len, Value.int .u64 u0.h, Value.int .u64 u0.l, Value.string ⟨u0.path.toArray⟩]) Rc (by first | omega | (simp; done) | (simp; omega) | omega)); (replace Rd := prow_far (g := w1.heap.size) (o := 2) (vs := [Value.int .i64 u0.kind, Value.int .i64 u0.len, Value.int .u64 u0.h, Value.int .u64 u0.l, Value.string ⟨u0.path.toArray⟩]) Rd (by first | omega | (simp; done) | (simp; omega) | omega)); (replace Ry := prow_far (g := w1.heap.size) (o := 2) (vs := [Value.int .i64 u0.kind, Value.int .i64 u0.len, Value.int .u64 u0.h, Value.int .u64 u0.l, Value.string ⟨u0.path.toArray⟩]) Ry (by first | omega | (simp; done) | (simp; omega) | omega)); (replace Rr := prow_far (g := w1.heap.size) (o := 2) (vs := [Value.int .i64 u0.kind, Value.int .i64 u0.len, Value.int .u64 u0.h, Value.int .u64 u0.l, Value.string ⟨u0.path.toArray⟩]) Rr (by first | omega | (simp; done) | (simp; omega) | omega)); (replace Rf0x := prow_far (g := w1.heap.size) (o := 2) (vs := [Value.int .i64 u0.kind, Value.int .i64 u0.len, Value.int .u64 u0.h, Value.int .u64 u0.l, Value.string ⟨u0.path.toArray⟩]) Rf0x (by first | omega | (simp; done) | (simp; omega) | omega)); (replace hb0 := below_setCells (g := w1.heap.size) (by omega) [Value.int .i64 u0.kind, Value.int .i64 u0.len, Value.int .u64 u0.h, Value.int .u64 u0.l, Value.string ⟨u0.path.toArray⟩] 2 _ hb0); (replace Rup : Row (World.setCells wq w1.heap.size 2 [Value.int .i64 u0.kind, Value.int .i64 u0.len, Value.int .u64 u0.h, Value.int .u64 u0.l, Value.string ⟨u0.path.toArray⟩]) w1.heap.size #[.int .i64 b0, .int .i64 b1, .int .i64 u0.kind, .int .i64 u0.len, .int .u64 u0.h, .int .u64 u0.l, .string ⟨u0.path.toArray⟩, .int .i64 0, .int .i64 0, .int .u64 0, .int .u64 0, .string ⟨#[]⟩] 33 := Row.setMany Rup 2 [Value.int .i64 u0.kind, Value.int .i64 u0.len, Value.int .u64 u0.h, Value.int .u64 u0.l, Value.string ⟨u0.path.toArray⟩] (by simp [setL])); (simp only [World.setCells] at Rc Rd Ry Rr Rup Rf0x d2 d3 d4 d5 d6 y0 y1 f0x0 f0x1 f0x2 hb0); generalize (World.setCell (World.setCell (World.setCell (World.setCell (World.setCell wq ⟨w1.heap.size, 2, none⟩ (Value.int .i64 u0.kind)) ⟨w1.heap.size, 3, none⟩ (Value.int .i64 u0.len)) ⟨w1.heap.size, 4, none⟩ (Value.int .u64 u0.h)) ⟨w1.heap.size, 5, none⟩ (Value.int .u64 u0.l)) ⟨w1.heap.size, 6, none⟩ (Value.string ⟨u0.path.toArray⟩)) = wz at *)
  refine hK.out _ _ ?hSr38_13_12 (fun hHeld2 => ?_)
  case hSr38_13_12 => (exact ⟨d2, d3, d4, d5, d6, y0, y1, f0x0, f0x1, f0x2⟩)
  clear hK K hHeld
  have hHeld := hHeld2
  clear hHeld2
  rename World => wq
  (try simp only [Act.put, nz1, nz2, nz3])
  refine wpAnyH_done (by kernel_rfl) ?_ _
  clear hHeld
  rename World => w3
  have lc := Rc.lt
  have ld := Rd.lt
  have ly := Ry.lt
  have lr := Rr.lt
  have lup := Rup.lt
  have lf0x := Rf0x.lt
  (try clear c0 c1 c2 c3 c4 c5 c6); obtain ⟨c0, c1, c2, c3, c4, c5, c6⟩ := row7 Rc
  (try clear d0 d1 d2 d3 d4 d5 d6 d7 d8 d9 d10 d11); obtain ⟨d0, d1, d2, d3, d4, d5, d6, d7, d8, d9, d10, d11⟩ := row12 Rd
  (try clear y0 y1); obtain ⟨y0, y1⟩ := row2 Ry
  (try clear r0 r1 r2 r3 r4 r5 r6 r7 r8 r9 r10 r11); obtain ⟨r0, r1, r2, r3, r4, r5, r6, r7, r8, r9, r10, r11⟩ := row12 Rr
  (try clear up0 up1 up2 up3 up4 up5 up6 up7 up8 up9 up10 up11); obtain ⟨up0, up1, up2, up3, up4, up5, up6, up7, up8, up9, up10, up11⟩ := row12 Rup
  (try clear f0x0 f0x1 f0x2); obtain ⟨f0x0, f0x1, f0x2⟩ := row3 Rf0x
  go_wp2_with fail
  rw [rounds_succ]
  go_wp2_with fail
  replace Rc := Rc.alloc (.cells #[Value.int .i64 s.d1.kind, Value.int .i64 s.d1.side, Value.int .i64 s.d1.step] 23)
  replace Rd := Rd.alloc (.cells #[Value.int .i64 s.d1.kind, Value.int .i64 s.d1.side, Value.int .i64 s.d1.step] 23)
  replace Ry := Ry.alloc (.cells #[Value.int .i64 s.d1.kind, Value.int .i64 s.d1.side, Value.int .i64 s.d1.step] 23)
  replace Rr := Rr.alloc (.cells #[Value.int .i64 s.d1.kind, Value.int .i64 s.d1.side, Value.int .i64 s.d1.step] 23)
  replace Rup := Rup.alloc (.cells #[Value.int .i64 s.d1.kind, Value.int .i64 s.d1.side, Value.int .i64 s.d1.step] 23)
  replace Rf0x := Rf0x.alloc (.cells #[Value.int .i64 s.d1.kind, Value.int .i64 s.d1.side, Value.int .i64 s.d1.step] 23)
  have Rf1x := Row.new w3 #[Value.int .i64 s.d1.kind, Value.int .i64 s.d1.side, Value.int .i64 s.d1.step] 23
  have mf1x := hb0.size
  replace hb0 := hb0.alloc hb0.size (.cells #[Value.int .i64 s.d1.kind, Value.int .i64 s.d1.side, Value.int .i64 s.d1.step] 23)
  (try clear c0 c1 c2 c3 c4 c5 c6); obtain ⟨c0, c1, c2, c3, c4, c5, c6⟩ := row7 Rc
  (try clear d0 d1 d2 d3 d4 d5 d6 d7 d8 d9 d10 d11); obtain ⟨d0, d1, d2, d3, d4, d5, d6, d7, d8, d9, d10, d11⟩ := row12 Rd
  (try clear y0 y1); obtain ⟨y0, y1⟩ := row2 Ry
  (try clear r0 r1 r2 r3 r4 r5 r6 r7 r8 r9 r10 r11); obtain ⟨r0, r1, r2, r3, r4, r5, r6, r7, r8, r9, r10, r11⟩ := row12 Rr
  (try clear up0 up1 up2 up3 up4 up5 up6 up7 up8 up9 up10 up11); obtain ⟨up0, up1, up2, up3, up4, up5, up6, up7, up8, up9, up10, up11⟩ := row12 Rup
  (try clear f0x0 f0x1 f0x2); obtain ⟨f0x0, f0x1, f0x2⟩ := row3 Rf0x
  (try clear f1x0 f1x1 f1x2); obtain ⟨f1x0, f1x1, f1x2⟩ := row3 Rf1x
  refine wp_region_held_drew (S := (fun w' => w'.cell? ⟨w.heap.size + 1, 0, none⟩ = some (Value.int .i64 p.a0) ∧ w'.cell? ⟨w.heap.size + 1, 1, none⟩ = some (Value.int .i64 p.a1) ∧ w'.cell? ⟨w.heap.size + 1 + 1, 0, none⟩ = some (Value.int .i64 b0) ∧ w'.cell? ⟨w.heap.size + 1 + 1, 1, none⟩ = some (Value.int .i64 b1) ∧ w'.cell? ⟨w3.heap.size, 0, none⟩ = some (Value.int .i64 s.d1.kind) ∧ w'.cell? ⟨w3.heap.size, 1, none⟩ = some (Value.int .i64 s.d1.side) ∧ w'.cell? ⟨w3.heap.size, 2, none⟩ = some (Value.int .i64 s.d1.step))) (by kernel_rfl) ?hSr39_ (fun hHeld => ?_)
  case hSr39_ => (exact ⟨d0, d1, y0, y1, f1x0, f1x1, f1x2⟩)
  (clear c0 c1 c2 c3 c4 c5 c6 d0 d1 d2 d3 d4 d5 d6 d7 d8 d9 d10 d11 y0 y1 r0 r1 r2 r3 r4 r5 r6 r7 r8 r9 r10 r11 up0 up1 up2 up3 up4 up5 up6 up7 up8 up9 up10 up11 f0x0 f0x1 f0x2 f1x0 f1x1 f1x2; (replace Rc := Rc.drew); (replace Rd := Rd.drew); (replace Ry := Ry.drew); (replace Rr := Rr.drew); (replace Rup := Rup.drew); (replace Rf0x := Rf0x.drew); (replace Rf1x := Rf1x.drew); (replace hb0 := hb0.drew); (generalize World.drew (World.alloc w3 (.cells #[Value.int .i64 s.d1.kind, Value.int .i64 s.d1.side, Value.int .i64 s.d1.step] 23)) = wq at *))
  refine tk 0 ⟨some 23, .move (.tmp 8), 3, _, _, _⟩ hHeld ?_
  (try simp only [Act.put, nz1, nz2, nz3])
  refine tk 1 ⟨some 24, .indexAddr 27 (.tmp 5) (.tmp 23), 0, _, _, _⟩ hHeld ?_
  (try simp only [Act.put, nz1, nz2, nz3])
  refine tk 2 ⟨some 25, .load 3 (.tmp 24), 3, _, _, _⟩ hHeld ?_
  (try simp only [Act.put, nz1, nz2, nz3])
  refine tk 3 ⟨some 26, .move (.tmp 8), 3, _, _, _⟩ hHeld ?_
  (try simp only [Act.put, nz1, nz2, nz3])
  refine tk 4 ⟨some 27, .fieldAddr 33 (.tmp 4) 0, 0, _, _, _⟩ hHeld ?_
  (try simp only [Act.put, nz1, nz2, nz3])
  refine tk 5 ⟨some 28, .indexAddr 27 (.tmp 27) (.tmp 26), 0, _, _, _⟩ hHeld ?_
  (try simp only [Act.put, nz1, nz2, nz3])
  refine tk 6 ⟨some 29, .load 3 (.tmp 28), 3, _, _, _⟩ hHeld ?_
  (try simp only [Act.put, nz1, nz2, nz3])
  refine tk 7 ⟨some 30, .binOp .lss 3 (.tmp 25) (.tmp 29) 3, 4, _, _, _⟩ hHeld ?_
  (try simp only [Act.put, nz1, nz2, nz3])
  refine tk 8 ⟨some 31, .move (.tmp 30), 4, _, _, _⟩ hHeld ?_
  (try simp only [Act.put, nz1, nz2, nz3])
  refine tk 9 ⟨some 32, .move (.tmp 8), 3, _, _, _⟩ hHeld ?_
  (try simp only [Act.put, nz1, nz2, nz3])
  refine tk 10 ⟨some 33, .indexAddr 27 (.tmp 5) (.tmp 32), 0, _, _, _⟩ hHeld ?_
  (try simp only [Act.put, nz1, nz2, nz3])
  refine tk 11 ⟨some 34, .load 3 (.tmp 33), 3, _, _, _⟩ hHeld ?_
  (try simp only [Act.put, nz1, nz2, nz3])
  refine tk 12 ⟨some 35, .load 23 (.tmp 9), 23, _, _, _⟩ hHeld ?_
  (try simp only [Act.put, nz1, nz2, nz3])
  refine wpAnyH_ready (rs := [13]) (by kernel_rfl) (by simp) ?_
  refine AllReadyH.cons (o := ⟨some 36, .call { callee := .value (.func 55), args := #[.tmp 35], argTypes := #[23] }, 3, _, _, _⟩) rfl (fun K hK => ?_) AllReadyH.nil
  (go_simp; (refine (HD1 _).mono ?_); (rintro e wz ⟨rfl, hb⟩); (replace Rc := Rc.later hb); (replace Rd := Rd.later hb); (replace Ry := Ry.later hb); (replace Rr := Rr.later hb); (replace Rup := Rup.later hb); (replace Rf0x := Rf0x.later hb); (replace Rf1x := Rf1x.later hb); (replace hb0 := below_step hb0 hb); go_wp2_with fail)
  refine hK.out _ _ ?hSr39_14_13 (fun hHeld2 => ?_)
  case hSr39_14_13 => (obtain ⟨d0, d1, y0, y1, f1x0, f1x1, f1x2⟩ := hHeld; exact ⟨cell_later hb d0, cell_later hb d1, cell_later hb y0, cell_later hb y1, cell_later hb f1x0, cell_later hb f1x1, cell_later hb f1x2⟩)
  clear hK K hHeld
  have hHeld := hHeld2
  clear hHeld2
  rename World => wq
  (try simp only [Act.put, nz1, nz2, nz3])
  refine tk 14 ⟨some 37, .binOp .gtr 3 (.tmp 34) (.tmp 36) 3, 4, _, _, _⟩ hHeld ?_
  (try simp only [Act.put, nz1, nz2, nz3])
  refine tk 15 ⟨some 38, .pick (.tmp 31) (.const (.bool true)) (.tmp 37), 4, _, _, _⟩ hHeld ?_
  (try simp only [Act.put, nz1, nz2, nz3])
  refine wpAnyH_done (by kernel_rfl) ?_ _
  clear hHeld
  rename World => w4
  have lc := Rc.lt
  have ld := Rd.lt
  have ly := Ry.lt
  have lr := Rr.lt
  have lup := Rup.lt
  have lf0x := Rf0x.lt
  have lf1x := Rf1x.lt
  (try clear c0 c1 c2 c3 c4 c5 c6); obtain ⟨c0, c1, c2, c3, c4, c5, c6⟩ := row7 Rc
  (try clear d0 d1 d2 d3 d4 d5 d6 d7 d8 d9 d10 d11); obtain ⟨d0, d1, d2, d3, d4, d5, d6, d7, d8, d9, d10, d11⟩ := row12 Rd
  (try clear y0 y1); obtain ⟨y0, y1⟩ := row2 Ry
  (try clear r0 r1 r2 r3 r4 r5 r6 r7 r8 r9 r10 r11); obtain ⟨r0, r1, r2, r3, r4, r5, r6, r7, r8, r9, r10, r11⟩ := row12 Rr
  (try clear up0 up1 up2 up3 up4 up5 up6 up7 up8 up9 up10 up11); obtain ⟨up0, up1, up2, up3, up4, up5, up6, up7, up8, up9, up10, up11⟩ := row12 Rup
  (try clear f0x0 f0x1 f0x2); obtain ⟨f0x0, f0x1, f0x2⟩ := row3 Rf0x
  (try clear f1x0 f1x1 f1x2); obtain ⟨f1x0, f1x1, f1x2⟩ := row3 Rf1x
  have rf0 := Rr.frozen 0
  have rf1 := Rr.frozen 1
  have rf2 := Rr.frozen 2
  have rf3 := Rr.frozen 3
  have rf4 := Rr.frozen 4
  have rf5 := Rr.frozen 5
  have rf6 := Rr.frozen 6
  have rf7 := Rr.frozen 7
  have rf8 := Rr.frozen 8
  have rf9 := Rr.frozen 9
  have rf10 := Rr.frozen 10
  have rf11 := Rr.frozen 11
  go_wp2
  clear c0 c1 c2 c3 c4 c5 c6
  clear d0 d1 d2 d3 d4 d5 d6 d7 d8 d9 d10 d11
  clear y0 y1
  obtain ⟨w5, hwn⟩ : ∃ wz, wz = (World.setCell (World.setCell (World.setCell (World.setCell (World.setCell (World.setCell (World.setCell (World.setCell (World.setCell (World.setCell (World.setCell (World.setCell w4 ⟨(w.heap.size + 1 + 1 + 1), 0, none⟩ (.int .i64 0)) ⟨(w.heap.size + 1 + 1 + 1), 1, none⟩ (.int .i64 0)) ⟨(w.heap.size + 1 + 1 + 1), 2, none⟩ (.int .i64 0)) ⟨(w.heap.size + 1 + 1 + 1), 3, none⟩ (.int .i64 0)) ⟨(w.heap.size + 1 + 1 + 1), 4, none⟩ (.int .u64 0)) ⟨(w.heap.size + 1 + 1 + 1), 5, none⟩ (.int .u64 0)) ⟨(w.heap.size + 1 + 1 + 1), 6, none⟩ (.string ⟨#[]⟩)) ⟨(w.heap.size + 1 + 1 + 1), 7, none⟩ (.int .i64 0)) ⟨(w.heap.size + 1 + 1 + 1), 8, none⟩ (.int .i64 0)) ⟨(w.heap.size + 1 + 1 + 1), 9, none⟩ (.int .u64 0)) ⟨(w.heap.size + 1 + 1 + 1), 10, none⟩ (.int .u64 0)) ⟨(w.heap.size + 1 + 1 + 1), 11, none⟩ (.string ⟨#[]⟩)) := ⟨_, rfl⟩
  rw [← hwn]
  replace hwn : w5 = World.setCells w4 (w.heap.size + 1 + 1 + 1) 0 [.int .i64 0, .int .i64 0, .int .i64 0, .int .i64 0, .int .u64 0, .int .u64 0, .string ⟨#[]⟩, .int .i64 0, .int .i64 0, .int .u64 0, .int .u64 0, .string ⟨#[]⟩] := hwn
  replace Rr : Row w5 (w.heap.size + 1 + 1 + 1) #[.int .i64 0, .int .i64 0, .int .i64 0, .int .i64 0, .int .u64 0, .int .u64 0, .string ⟨#[]⟩, .int .i64 0, .int .i64 0, .int .u64 0, .int .u64 0, .string ⟨#[]⟩] 33 := psm hwn Rr (by simp [setL])
  replace Rc := prf hwn Rc
  replace Rd := prf hwn Rd
  replace Ry := prf hwn Ry
  replace Rup := prf hwn Rup
  replace Rf0x := prf hwn Rf0x
  replace Rf1x := prf hwn Rf1x
  replace hb0 := pbl hwn hb0
  clear hwn r0 r1 r2 r3 r4 r5 r6 r7 r8 r9 r10 r11 up0 up1 up2 up3 up4 up5 up6 up7 up8 up9 up10 up11 f0x0 f0x1 f0x2 f1x0 f1x1 f1x2
  (try clear rf0 rf1 rf2 rf3 rf4 rf5 rf6 rf7 rf8 rf9 rf10 rf11)
  (try clear r0 r1 r2 r3 r4 r5 r6 r7 r8 r9 r10 r11); obtain ⟨r0, r1, r2, r3, r4, r5, r6, r7, r8, r9, r10, r11⟩ := row12 Rr
  (try clear up0 up1 up2 up3 up4 up5 up6 up7 up8 up9 up10 up11); obtain ⟨up0, up1, up2, up3, up4, up5, up6, up7, up8, up9, up10, up11⟩ := row12 Rup
  (try clear f0x0 f0x1 f0x2); obtain ⟨f0x0, f0x1, f0x2⟩ := row3 Rf0x
  (try clear f1x0 f1x1 f1x2); obtain ⟨f1x0, f1x1, f1x2⟩ := row3 Rf1x
  refine bodyPost_ret (v := .agg #[.int .i64 0, .int .i64 0, .int .i64 0, .int .i64 0, .int .u64 0, .int .u64 0, .string ⟨#[]⟩, .int .i64 0, .int .i64 0, .int .u64 0, .int .u64 0, .string ⟨#[]⟩]) (by simp [results, Try.results26, go_sem, r0, r1, r2, r3, r4, r5, r6, r7, r8, r9, r10, r11]) rfl ⟨rfl, hb0⟩
set_option maxRecDepth 100000 in
theorem up_ok (s : Sp) (p : Px) (b0 b1 : Int) (HR : ∀ w, Calls Try.prog 20 #[sv s, pv p] w fun e w' => e = .returned (.bool true) ∧ Below w.heap.size w w') (D0 : Int) (HD0 : ∀ w, Calls Try.prog 55 #[dv s.d0] w fun e w' => e = .returned (.int .i64 D0) ∧ Below w.heap.size w w') (u0 : Ke) (HC0 : ∀ w, Calls Try.prog 61 #[dv s.d0, .int .i64 b0, kv p.k0] w fun e w' => e = .returned (kv u0) ∧ Below w.heap.size w w') (g0 : ¬ b0 < p.a0) (h0 : ¬ D0 < b0) (D1 : Int) (HD1 : ∀ w, Calls Try.prog 55 #[dv s.d1] w fun e w' => e = .returned (.int .i64 D1) ∧ Below w.heap.size w w') (u1 : Ke) (HC1 : ∀ w, Calls Try.prog 61 #[dv s.d1, .int .i64 b1, kv p.k1] w fun e w' => e = .returned (kv u1) ∧ Below w.heap.size w w') (g1 : ¬ b1 < p.a1) (h1 : ¬ D1 < b1) (w : World) : Calls Try.prog 26 #[sv s, pv p, .agg #[.int .i64 b0, .int .i64 b1]] w fun e w' => e = .returned (.agg #[.int .i64 b0, .int .i64 b1, .int .i64 u0.kind, .int .i64 u0.len, .int .u64 u0.h, .int .u64 u0.l, .string ⟨u0.path.toArray⟩, .int .i64 u1.kind, .int .i64 u1.len, .int .u64 u1.h, .int .u64 u1.l, .string ⟨u1.path.toArray⟩]) ∧ Below w.heap.size w w' := by
  have i0 := ixd0
  have i1 := ixd1
  have t0 : decide (b0 < p.a0) = false := decide_eq_false g0
  have e0 : decide (D0 < b0) = false := decide_eq_false h0
  have t1 : decide (b1 < p.a1) = false := decide_eq_false g1
  have e1 : decide (D1 < b1) = false := decide_eq_false h1
  unfold sv pv at *
  (try unfold dv at *)
  (try unfold kv at *)
  obtain ⟨Rc, Rd, Ry, Rr, hb0⟩ := four_rows w #[.int .i64 s.n, .int .i64 s.d0.kind, .int .i64 s.d0.side, .int .i64 s.d0.step, .int .i64 s.d1.kind, .int .i64 s.d1.side, .int .i64 s.d1.step] #[.int .i64 p.a0, .int .i64 p.a1, .int .i64 p.k0.kind, .int .i64 p.k0.len, .int .u64 p.k0.h, .int .u64 p.k0.l, .string ⟨p.k0.path.toArray⟩, .int .i64 p.k1.kind, .int .i64 p.k1.len, .int .u64 p.k1.h, .int .u64 p.k1.l, .string ⟨p.k1.path.toArray⟩] #[.int .i64 b0, .int .i64 b1] #[.int .i64 0, .int .i64 0, .int .i64 0, .int .i64 0, .int .u64 0, .int .u64 0, .string ⟨#[]⟩, .int .i64 0, .int .i64 0, .int .u64 0, .int .u64 0, .string ⟨#[]⟩] 26 33 27 33
  (try clear c0 c1 c2 c3 c4 c5 c6); obtain ⟨c0, c1, c2, c3, c4, c5, c6⟩ := row7 Rc
  (try clear d0 d1 d2 d3 d4 d5 d6 d7 d8 d9 d10 d11); obtain ⟨d0, d1, d2, d3, d4, d5, d6, d7, d8, d9, d10, d11⟩ := row12 Rd
  (try clear y0 y1); obtain ⟨y0, y1⟩ := row2 Ry
  (try clear r0 r1 r2 r3 r4 r5 r6 r7 r8 r9 r10 r11); obtain ⟨r0, r1, r2, r3, r4, r5, r6, r7, r8, r9, r10, r11⟩ := row12 Rr
  go_enter Try.func26, Try.ntmps26
  go_wp2_with fail
  refine (HR _).mono ?_
  rintro e w1 ⟨rfl, hb⟩
  replace Rc := Rc.later hb
  replace Rd := Rd.later hb
  replace Ry := Ry.later hb
  replace Rr := Rr.later hb
  replace hb0 := below_step hb0 hb
  clear hb
  have lc := Rc.lt
  have ld := Rd.lt
  have ly := Ry.lt
  have lr := Rr.lt
  (try clear c0 c1 c2 c3 c4 c5 c6); obtain ⟨c0, c1, c2, c3, c4, c5, c6⟩ := row7 Rc
  (try clear d0 d1 d2 d3 d4 d5 d6 d7 d8 d9 d10 d11); obtain ⟨d0, d1, d2, d3, d4, d5, d6, d7, d8, d9, d10, d11⟩ := row12 Rd
  (try clear y0 y1); obtain ⟨y0, y1⟩ := row2 Ry
  (try clear r0 r1 r2 r3 r4 r5 r6 r7 r8 r9 r10 r11); obtain ⟨r0, r1, r2, r3, r4, r5, r6, r7, r8, r9, r10, r11⟩ := row12 Rr
  go_wp2_with fail
  refine wp_loop_rounds 3 ?_
  replace Rc := Rc.alloc (.cells #[Value.int .i64 b0, Value.int .i64 b1, Value.int .i64 0, Value.int .i64 0, Value.int .u64 0, Value.int .u64 0, Value.string ⟨#[]⟩, Value.int .i64 0, Value.int .i64 0, Value.int .u64 0, Value.int .u64 0, Value.string ⟨#[]⟩] 33)
  replace Rd := Rd.alloc (.cells #[Value.int .i64 b0, Value.int .i64 b1, Value.int .i64 0, Value.int .i64 0, Value.int .u64 0, Value.int .u64 0, Value.string ⟨#[]⟩, Value.int .i64 0, Value.int .i64 0, Value.int .u64 0, Value.int .u64 0, Value.string ⟨#[]⟩] 33)
  replace Ry := Ry.alloc (.cells #[Value.int .i64 b0, Value.int .i64 b1, Value.int .i64 0, Value.int .i64 0, Value.int .u64 0, Value.int .u64 0, Value.string ⟨#[]⟩, Value.int .i64 0, Value.int .i64 0, Value.int .u64 0, Value.int .u64 0, Value.string ⟨#[]⟩] 33)
  replace Rr := Rr.alloc (.cells #[Value.int .i64 b0, Value.int .i64 b1, Value.int .i64 0, Value.int .i64 0, Value.int .u64 0, Value.int .u64 0, Value.string ⟨#[]⟩, Value.int .i64 0, Value.int .i64 0, Value.int .u64 0, Value.int .u64 0, Value.string ⟨#[]⟩] 33)
  have Rup := Row.new w1 #[Value.int .i64 b0, Value.int .i64 b1, Value.int .i64 0, Value.int .i64 0, Value.int .u64 0, Value.int .u64 0, Value.string ⟨#[]⟩, Value.int .i64 0, Value.int .i64 0, Value.int .u64 0, Value.int .u64 0, Value.string ⟨#[]⟩] 33
  have mup := hb0.size
  replace hb0 := hb0.alloc hb0.size (.cells #[Value.int .i64 b0, Value.int .i64 b1, Value.int .i64 0, Value.int .i64 0, Value.int .u64 0, Value.int .u64 0, Value.string ⟨#[]⟩, Value.int .i64 0, Value.int .i64 0, Value.int .u64 0, Value.int .u64 0, Value.string ⟨#[]⟩] 33)
  (try clear c0 c1 c2 c3 c4 c5 c6); obtain ⟨c0, c1, c2, c3, c4, c5, c6⟩ := row7 Rc
  (try clear d0 d1 d2 d3 d4 d5 d6 d7 d8 d9 d10 d11); obtain ⟨d0, d1, d2, d3, d4, d5, d6, d7, d8, d9, d10, d11⟩ := row12 Rd
  (try clear y0 y1); obtain ⟨y0, y1⟩ := row2 Ry
  (try clear r0 r1 r2 r3 r4 r5 r6 r7 r8 r9 r10 r11); obtain ⟨r0, r1, r2, r3, r4, r5, r6, r7, r8, r9, r10, r11⟩ := row12 Rr
  (try clear up0 up1 up2 up3 up4 up5 up6 up7 up8 up9 up10 up11); obtain ⟨up0, up1, up2, up3, up4, up5, up6, up7, up8, up9, up10, up11⟩ := row12 Rup
  rw [rounds_succ]
  go_wp2_with fail
  replace Rc := Rc.alloc (.cells #[Value.int .i64 s.d0.kind, Value.int .i64 s.d0.side, Value.int .i64 s.d0.step] 23)
  replace Rd := Rd.alloc (.cells #[Value.int .i64 s.d0.kind, Value.int .i64 s.d0.side, Value.int .i64 s.d0.step] 23)
  replace Ry := Ry.alloc (.cells #[Value.int .i64 s.d0.kind, Value.int .i64 s.d0.side, Value.int .i64 s.d0.step] 23)
  replace Rr := Rr.alloc (.cells #[Value.int .i64 s.d0.kind, Value.int .i64 s.d0.side, Value.int .i64 s.d0.step] 23)
  replace Rup := Rup.alloc (.cells #[Value.int .i64 s.d0.kind, Value.int .i64 s.d0.side, Value.int .i64 s.d0.step] 23)
  have Rf0x := Row.new (World.alloc w1 (.cells #[Value.int .i64 b0, Value.int .i64 b1, Value.int .i64 0, Value.int .i64 0, Value.int .u64 0, Value.int .u64 0, Value.string ⟨#[]⟩, Value.int .i64 0, Value.int .i64 0, Value.int .u64 0, Value.int .u64 0, Value.string ⟨#[]⟩] 33)) #[Value.int .i64 s.d0.kind, Value.int .i64 s.d0.side, Value.int .i64 s.d0.step] 23
  simp only [World.size_alloc] at Rf0x
  have mf0x := hb0.size
  replace hb0 := hb0.alloc hb0.size (.cells #[Value.int .i64 s.d0.kind, Value.int .i64 s.d0.side, Value.int .i64 s.d0.step] 23)
  (try clear c0 c1 c2 c3 c4 c5 c6); obtain ⟨c0, c1, c2, c3, c4, c5, c6⟩ := row7 Rc
  (try clear d0 d1 d2 d3 d4 d5 d6 d7 d8 d9 d10 d11); obtain ⟨d0, d1, d2, d3, d4, d5, d6, d7, d8, d9, d10, d11⟩ := row12 Rd
  (try clear y0 y1); obtain ⟨y0, y1⟩ := row2 Ry
  (try clear r0 r1 r2 r3 r4 r5 r6 r7 r8 r9 r10 r11); obtain ⟨r0, r1, r2, r3, r4, r5, r6, r7, r8, r9, r10, r11⟩ := row12 Rr
  (try clear up0 up1 up2 up3 up4 up5 up6 up7 up8 up9 up10 up11); obtain ⟨up0, up1, up2, up3, up4, up5, up6, up7, up8, up9, up10, up11⟩ := row12 Rup
  (try clear f0x0 f0x1 f0x2); obtain ⟨f0x0, f0x1, f0x2⟩ := row3 Rf0x
  refine wp_region_held_drew (S := (fun w' => w'.cell? ⟨w.heap.size + 1, 0, none⟩ = some (Value.int .i64 p.a0) ∧ w'.cell? ⟨w.heap.size + 1, 1, none⟩ = some (Value.int .i64 p.a1) ∧ w'.cell? ⟨w.heap.size + 1 + 1, 0, none⟩ = some (Value.int .i64 b0) ∧ w'.cell? ⟨w.heap.size + 1 + 1, 1, none⟩ = some (Value.int .i64 b1) ∧ w'.cell? ⟨w1.heap.size + 1, 0, none⟩ = some (Value.int .i64 s.d0.kind) ∧ w'.cell? ⟨w1.heap.size + 1, 1, none⟩ = some (Value.int .i64 s.d0.side) ∧ w'.cell? ⟨w1.heap.size + 1, 2, none⟩ = some (Value.int .i64 s.d0.step))) (by kernel_rfl) ?hSr40_ (fun hHeld => ?_)
  case hSr40_ => (exact ⟨d0, d1, y0, y1, f0x0, f0x1, f0x2⟩)
  (clear c0 c1 c2 c3 c4 c5 c6 d0 d1 d2 d3 d4 d5 d6 d7 d8 d9 d10 d11 y0 y1 r0 r1 r2 r3 r4 r5 r6 r7 r8 r9 r10 r11 up0 up1 up2 up3 up4 up5 up6 up7 up8 up9 up10 up11 f0x0 f0x1 f0x2; (replace Rc := Rc.drew); (replace Rd := Rd.drew); (replace Ry := Ry.drew); (replace Rr := Rr.drew); (replace Rup := Rup.drew); (replace Rf0x := Rf0x.drew); (replace hb0 := hb0.drew); (generalize World.drew (World.alloc (World.alloc w1 (.cells #[Value.int .i64 b0, Value.int .i64 b1, Value.int .i64 0, Value.int .i64 0, Value.int .u64 0, Value.int .u64 0, Value.string ⟨#[]⟩, Value.int .i64 0, Value.int .i64 0, Value.int .u64 0, Value.int .u64 0, Value.string ⟨#[]⟩] 33)) (.cells #[Value.int .i64 s.d0.kind, Value.int .i64 s.d0.side, Value.int .i64 s.d0.step] 23)) = wq at *))
  refine tk 0 ⟨some 23, .move (.tmp 8), 3, _, _, _⟩ hHeld ?_
  (try simp only [Act.put, nz1, nz2, nz3])
  refine tk 1 ⟨some 24, .indexAddr 27 (.tmp 5) (.tmp 23), 0, _, _, _⟩ hHeld ?_
  (try simp only [Act.put, nz1, nz2, nz3])
  refine tk 2 ⟨some 25, .load 3 (.tmp 24), 3, _, _, _⟩ hHeld ?_
  (try simp only [Act.put, nz1, nz2, nz3])
  refine tk 3 ⟨some 26, .move (.tmp 8), 3, _, _, _⟩ hHeld ?_
  (try simp only [Act.put, nz1, nz2, nz3])
  refine tk 4 ⟨some 27, .fieldAddr 33 (.tmp 4) 0, 0, _, _, _⟩ hHeld ?_
  (try simp only [Act.put, nz1, nz2, nz3])
  refine tk 5 ⟨some 28, .indexAddr 27 (.tmp 27) (.tmp 26), 0, _, _, _⟩ hHeld ?_
  (try simp only [Act.put, nz1, nz2, nz3])
  refine tk 6 ⟨some 29, .load 3 (.tmp 28), 3, _, _, _⟩ hHeld ?_
  (try simp only [Act.put, nz1, nz2, nz3])
  refine tk 7 ⟨some 30, .binOp .lss 3 (.tmp 25) (.tmp 29) 3, 4, _, _, _⟩ hHeld ?_
  (try simp only [Act.put, nz1, nz2, nz3])
  refine tk 8 ⟨some 31, .move (.tmp 30), 4, _, _, _⟩ hHeld ?_
  (try simp only [Act.put, nz1, nz2, nz3])
  refine tk 9 ⟨some 32, .move (.tmp 8), 3, _, _, _⟩ hHeld ?_
  (try simp only [Act.put, nz1, nz2, nz3])
  refine tk 10 ⟨some 33, .indexAddr 27 (.tmp 5) (.tmp 32), 0, _, _, _⟩ hHeld ?_
  (try simp only [Act.put, nz1, nz2, nz3])
  refine tk 11 ⟨some 34, .load 3 (.tmp 33), 3, _, _, _⟩ hHeld ?_
  (try simp only [Act.put, nz1, nz2, nz3])
  refine tk 12 ⟨some 35, .load 23 (.tmp 9), 23, _, _, _⟩ hHeld ?_
  (try simp only [Act.put, nz1, nz2, nz3])
  refine wpAnyH_ready (rs := [13]) (by kernel_rfl) (by simp) ?_
  refine AllReadyH.cons (o := ⟨some 36, .call { callee := .value (.func 55), args := #[.tmp 35], argTypes := #[23] }, 3, _, _, _⟩) rfl (fun K hK => ?_) AllReadyH.nil
  (go_simp; (refine (HD0 _).mono ?_); (rintro e wz ⟨rfl, hb⟩); (replace Rc := Rc.later hb); (replace Rd := Rd.later hb); (replace Ry := Ry.later hb); (replace Rr := Rr.later hb); (replace Rup := Rup.later hb); (replace Rf0x := Rf0x.later hb); (replace hb0 := below_step hb0 hb); go_wp2_with fail)
  refine hK.out _ _ ?hSr40_14_13 (fun hHeld2 => ?_)
  case hSr40_14_13 => (obtain ⟨d0, d1, y0, y1, f0x0, f0x1, f0x2⟩ := hHeld; exact ⟨cell_later hb d0, cell_later hb d1, cell_later hb y0, cell_later hb y1, cell_later hb f0x0, cell_later hb f0x1, cell_later hb f0x2⟩)
  clear hK K hHeld
  have hHeld := hHeld2
  clear hHeld2
  rename World => wq
  (try simp only [Act.put, nz1, nz2, nz3])
  refine tk 14 ⟨some 37, .binOp .gtr 3 (.tmp 34) (.tmp 36) 3, 4, _, _, _⟩ hHeld ?_
  (try simp only [Act.put, nz1, nz2, nz3])
  refine tk 15 ⟨some 38, .pick (.tmp 31) (.const (.bool true)) (.tmp 37), 4, _, _, _⟩ hHeld ?_
  (try simp only [Act.put, nz1, nz2, nz3])
  refine wpAnyH_done (by kernel_rfl) ?_ _
  clear hHeld
  rename World => w2
  have lc := Rc.lt
  have ld := Rd.lt
  have ly := Ry.lt
  have lr := Rr.lt
  have lup := Rup.lt
  have lf0x := Rf0x.lt
  (try clear c0 c1 c2 c3 c4 c5 c6); obtain ⟨c0, c1, c2, c3, c4, c5, c6⟩ := row7 Rc
  (try clear d0 d1 d2 d3 d4 d5 d6 d7 d8 d9 d10 d11); obtain ⟨d0, d1, d2, d3, d4, d5, d6, d7, d8, d9, d10, d11⟩ := row12 Rd
  (try clear y0 y1); obtain ⟨y0, y1⟩ := row2 Ry
  (try clear r0 r1 r2 r3 r4 r5 r6 r7 r8 r9 r10 r11); obtain ⟨r0, r1, r2, r3, r4, r5, r6, r7, r8, r9, r10, r11⟩ := row12 Rr
  (try clear up0 up1 up2 up3 up4 up5 up6 up7 up8 up9 up10 up11); obtain ⟨up0, up1, up2, up3, up4, up5, up6, up7, up8, up9, up10, up11⟩ := row12 Rup
  (try clear f0x0 f0x1 f0x2); obtain ⟨f0x0, f0x1, f0x2⟩ := row3 Rf0x
  go_wp2_with fail
  refine wp_region_held_drew (S := (fun w' => w'.cell? ⟨w.heap.size + 1, 2, none⟩ = some (Value.int .i64 p.k0.kind) ∧ w'.cell? ⟨w.heap.size + 1, 3, none⟩ = some (Value.int .i64 p.k0.len) ∧ w'.cell? ⟨w.heap.size + 1, 4, none⟩ = some (Value.int .u64 p.k0.h) ∧ w'.cell? ⟨w.heap.size + 1, 5, none⟩ = some (Value.int .u64 p.k0.l) ∧ w'.cell? ⟨w.heap.size + 1, 6, none⟩ = some (Value.string ⟨p.k0.path.toArray⟩) ∧ w'.cell? ⟨w.heap.size + 1 + 1, 0, none⟩ = some (Value.int .i64 b0) ∧ w'.cell? ⟨w.heap.size + 1 + 1, 1, none⟩ = some (Value.int .i64 b1) ∧ w'.cell? ⟨w1.heap.size + 1, 0, none⟩ = some (Value.int .i64 s.d0.kind) ∧ w'.cell? ⟨w1.heap.size + 1, 1, none⟩ = some (Value.int .i64 s.d0.side) ∧ w'.cell? ⟨w1.heap.size + 1, 2, none⟩ = some (Value.int .i64 s.d0.step))) (by kernel_rfl) ?hSr41_ (fun hHeld => ?_)
  case hSr41_ => (exact ⟨d2, d3, d4, d5, d6, y0, y1, f0x0, f0x1, f0x2⟩)
  (clear c0 c1 c2 c3 c4 c5 c6 d0 d1 d2 d3 d4 d5 d6 d7 d8 d9 d10 d11 y0 y1 r0 r1 r2 r3 r4 r5 r6 r7 r8 r9 r10 r11 up0 up1 up2 up3 up4 up5 up6 up7 up8 up9 up10 up11 f0x0 f0x1 f0x2; (replace Rc := Rc.drew); (replace Rd := Rd.drew); (replace Ry := Ry.drew); (replace Rr := Rr.drew); (replace Rup := Rup.drew); (replace Rf0x := Rf0x.drew); (replace hb0 := hb0.drew); (generalize World.drew w2 = wq at *))
  refine tk 0 ⟨some 40, .move (.tmp 8), 3, _, _, _⟩ hHeld ?_
  (try simp only [Act.put, nz1, nz2, nz3])
  refine tk 1 ⟨some 41, .load 23 (.tmp 9), 23, _, _, _⟩ hHeld ?_
  (try simp only [Act.put, nz1, nz2, nz3])
  refine tk 2 ⟨some 42, .move (.tmp 8), 3, _, _, _⟩ hHeld ?_
  (try simp only [Act.put, nz1, nz2, nz3])
  refine tk 3 ⟨some 43, .indexAddr 27 (.tmp 5) (.tmp 42), 0, _, _, _⟩ hHeld ?_
  (try simp only [Act.put, nz1, nz2, nz3])
  refine tk 4 ⟨some 44, .load 3 (.tmp 43), 3, _, _, _⟩ hHeld ?_
  (try simp only [Act.put, nz1, nz2, nz3])
  refine tk 5 ⟨some 45, .move (.tmp 8), 3, _, _, _⟩ hHeld ?_
  (try simp only [Act.put, nz1, nz2, nz3])
  refine tk 6 ⟨some 46, .fieldAddr 33 (.tmp 4) 1, 0, _, _, _⟩ hHeld ?_
  (try simp only [Act.put, nz1, nz2, nz3])
  refine tk 7 ⟨some 47, .indexAddr 31 (.tmp 46) (.tmp 45), 0, _, _, _⟩ hHeld ?_
  (try simp only [Act.put, nz1, nz2, nz3])
  refine tk 8 ⟨some 48, .load 30 (.tmp 47), 30, _, _, _⟩ hHeld ?_
  (try simp only [Act.put, nz1, nz2, nz3])
  refine tk 10 ⟨some 50, .fieldAddr 33 (.tmp 7) 1, 0, _, _, _⟩ hHeld ?_
  (try simp only [Act.put, nz1, nz2, nz3])
  refine wpAnyH_ready (rs := [9]) (by kernel_rfl) (by simp) ?_
  refine AllReadyH.cons (o := ⟨some 49, .call { callee := .value (.func 61), args := #[.tmp 41, .tmp 44, .tmp 48], argTypes := #[23, 3, 30] }, 30, _, _, _⟩) rfl (fun K hK => ?_) AllReadyH.nil
  (go_simp; (refine (HC0 _).mono ?_); (rintro e wz ⟨rfl, hb⟩); (replace Rc := Rc.later hb); (replace Rd := Rd.later hb); (replace Ry := Ry.later hb); (replace Rr := Rr.later hb); (replace Rup := Rup.later hb); (replace Rf0x := Rf0x.later hb); (replace hb0 := below_step hb0 hb); go_wp2_with fail)
  refine hK.out _ _ ?hSr41_11_9 (fun hHeld2 => ?_)
  case hSr41_11_9 => (obtain ⟨d2, d3, d4, d5, d6, y0, y1, f0x0, f0x1, f0x2⟩ := hHeld; exact ⟨cell_later hb d2, cell_later hb d3, cell_later hb d4, cell_later hb d5, cell_later hb d6, cell_later hb y0, cell_later hb y1, cell_later hb f0x0, cell_later hb f0x1, cell_later hb f0x2⟩)
  clear hK K hHeld
  have hHeld := hHeld2
  clear hHeld2
  rename World => wq
  (try simp only [Act.put, nz1, nz2, nz3])
  refine tk 11 ⟨some 51, .indexAddr 31 (.tmp 50) (.tmp 40), 0, _, _, _⟩ hHeld ?_
  (try simp only [Act.put, nz1, nz2, nz3])
  refine wpAnyH_ready (rs := [12]) (by kernel_rfl) (by simp) ?_
  refine AllReadyH.cons (o := ⟨none, .store 30 (.tmp 51) (.tmp 49), 0, _, _, _⟩) rfl (fun K hK => ?_) AllReadyH.nil
  ((obtain ⟨zd0, zd1, zc0, zc1, zc2, zc3, zc4, zd7, zd8, zd9, zd10, zd11⟩ := row12 Rup); (have zf0 := Rup.frozen 2); (have zf1 := Rup.frozen 3); (have zf2 := Rup.frozen 4); (have zf3 := Rup.frozen 5); (have zf4 := Rup.frozen 6); (have hHq := hHeld); (obtain ⟨d2, d3, d4, d5, d6, y0, y1, f0x0, f0x1, f0x2⟩ := hHq); go_simp; clear zc0 zf0 zc1 zf1 zc2 zf2 zc3 zf3 zc4 zf4 zd0 zd1 zd7 zd8 zd9 zd10 zd11; (replace d2 := pcell_far (g := w1.heap.size) (o := 2) (vs := [Value.int .i64 u0.kind, Value.int .i64 u0.len, Value.int .u64 u0.h, Value.int .u64 u0.l, Value.string ⟨u0.path.toArray⟩]) d2 (by first | omega | (simp; done) | (simp; omega) | omega)); (replace d3 := pcell_far (g := w1.heap.size) (o := 2) (vs := [Value.int .i64 u0.kind, Value.int .i64 u0.len, Value.int .u64 u0.h, Value.int .u64 u0.l, Value.string ⟨u0.path.toArray⟩]) d3 (by first | omega | (simp; done) | (simp; omega) | omega)); (replace d4 := pcell_far (g := w1.heap.size) (o := 2) (vs := [Value.int .i64 u0.kind, Value.int .i64 u0.len, Value.int .u64 u0.h, Value.int .u64 u0.l, Value.string ⟨u0.path.toArray⟩]) d4 (by first | omega | (simp; done) | (simp; omega) | omega)); (replace d5 := pcell_far (g := w1.heap.size) (o := 2) (vs := [Value.int .i64 u0.kind, Value.int .i64 u0.len, Value.int .u64 u0.h, Value.int .u64 u0.l, Value.string ⟨u0.path.toArray⟩]) d5 (by first | omega | (simp; done) | (simp; omega) | omega)); (replace d6 := pcell_far (g := w1.heap.size) (o := 2) (vs := [Value.int .i64 u0.kind, Value.int .i64 u0.len, Value.int .u64 u0.h, Value.int .u64 u0.l, Value.string ⟨u0.path.toArray⟩]) d6 (by first | omega | (simp; done) | (simp; omega) | omega)); (replace y0 := pcell_far (g := w1.heap.size) (o := 2) (vs := [Value.int .i64 u0.kind, Value.int .i64 u0.len, Value.int .u64 u0.h, Value.int .u64 u0.l, Value.string ⟨u0.path.toArray⟩]) y0 (by first | omega | (simp; done) | (simp; omega) | omega)); (replace y1 := pcell_far (g := w1.heap.size) (o := 2) (vs := [Value.int .i64 u0.kind, Value.int .i64 u0.len, Value.int .u64 u0.h, Value.int .u64 u0.l, Value.string ⟨u0.path.toArray⟩]) y1 (by first | omega | (simp; done) | (simp; omega) | omega)); (replace f0x0 := pcell_far (g := w1.heap.size) (o := 2) (vs := [Value.int .i64 u0.kind, Value.int .i64 u0.len, Value.int .u64 u0.h, Value.int .u64 u0.l, Value.string ⟨u0.path.toArray⟩]) f0x0 (by first | omega | (simp; done) | (simp; omega) | omega)); (replace f0x1 := pcell_far (g := w1.heap.size) (o := 2) (vs := [Value.int .i64 u0.kind, Value.int .i64 u0.len, Value.int .u64 u0.h, Value.int .u64 u0.l, Value.string ⟨u0.path.toArray⟩]) f0x1 (by first | omega | (simp; done) | (simp; omega) | omega)); (replace f0x2 := pcell_far (g := w1.heap.size) (o := 2) (vs := [Value.int .i64 u0.kind, Value.int .i64 u0.len, Value.int .u64 u0.h, Value.int .u64 u0.l, Value.string ⟨u0.path.toArray⟩]) f0x2 (by first | omega | (simp; done) | (simp; omega) | omega)); (replace Rc := prow_far (g := w1.heap.size) (o := 2) (vs := [Value.int .i64 u0.kind, Value.int .i64 u0.len, Value.int .u64 u0.h, Value.int .u64 u0.l, Value.string ⟨u0.path.toArray⟩]) Rc (by first | omega | (simp; done) | (simp; omega) | omega)); (replace Rd := prow_far (g := w1.heap.size) (o := 2) (vs := [Value.int .i64 u0.kind, Value.int .i64 u0.len, Value.int .u64 u0.h, Value.int .u64 u0.l, Value.string ⟨u0.path.toArray⟩]) Rd (by first | omega | (simp; done) | (simp; omega) | omega)); (replace Ry := prow_far (g := w1.heap.size) (o := 2) (vs := [Value.int .i64 u0.kind, Value.int .i64 u0.len, Value.int .u64 u0.h, Value.int .u64 u0.l, Value.string ⟨u0.path.toArray⟩]) Ry (by first | omega | (simp; done) | (simp; omega) | omega)); (replace Rr := prow_far (g := w1.heap.size) (o := 2) (vs := [Value.int .i64 u0.kind, Value.int .i64 u0.len, Value.int .u64 u0.h, Value.int .u64 u0.l, Value.string ⟨u0.path.toArray⟩]) Rr (by first | omega | (simp; done) | (simp; omega) | omega)); (replace Rf0x := prow_far (g := w1.heap.size) (o := 2) (vs := [Value.int .i64 u0.kind, Value.int .i64 u0.len, Value.int .u64 u0.h, Value.int .u64 u0.l, Value.string ⟨u0.path.toArray⟩]) Rf0x (by first | omega | (simp; done) | (simp; omega) | omega)); (replace hb0 := below_setCells (g := w1.heap.size) (by omega) [Value.int .i64 u0.kind, Value.int .i64 u0.len, Value.int .u64 u0.h, Value.int .u64 u0.l, Value.string ⟨u0.path.toArray⟩] 2 _ hb0); (replace Rup : Row (World.setCells wq w1.heap.size 2 [Value.int .i64 u0.kind, Value.int .i64 u0.len, Value.int .u64 u0.h, Value.int .u64 u0.l, Value.string ⟨u0.path.toArray⟩]) w1.heap.size #[.int .i64 b0, .int .i64 b1, .int .i64 u0.kind, .int .i64 u0.len, .int .u64 u0.h, .int .u64 u0.l, .string ⟨u0.path.toArray⟩, .int .i64 0, .int .i64 0, .int .u64 0, .int .u64 0, .string ⟨#[]⟩] 33 := Row.setMany Rup 2 [Value.int .i64 u0.kind, Value.int .i64 u0.len, Value.int .u64 u0.h, Value.int .u64 u0.l, Value.string ⟨u0.path.toArray⟩] (by simp [setL])); (simp only [World.setCells] at Rc Rd Ry Rr Rup Rf0x d2 d3 d4 d5 d6 y0 y1 f0x0 f0x1 f0x2 hb0); generalize (World.setCell (World.setCell (World.setCell (World.setCell (World.setCell wq ⟨w1.heap.size, 2, none⟩ (Value.int .i64 u0.kind)) ⟨w1.heap.size, 3, none⟩ (Value.int .i64 u0.len)) ⟨w1.heap.size, 4, none⟩ (Value.int .u64 u0.h)) ⟨w1.heap.size, 5, none⟩ (Value.int .u64 u0.l)) ⟨w1.heap.size, 6, none⟩ (Value.string ⟨u0.path.toArray⟩)) = wz at *)
  refine hK.out _ _ ?hSr41_13_12 (fun hHeld2 => ?_)
  case hSr41_13_12 => (exact ⟨d2, d3, d4, d5, d6, y0, y1, f0x0, f0x1, f0x2⟩)
  clear hK K hHeld
  have hHeld := hHeld2
  clear hHeld2
  rename World => wq
  (try simp only [Act.put, nz1, nz2, nz3])
  refine wpAnyH_done (by kernel_rfl) ?_ _
  clear hHeld
  rename World => w3
  have lc := Rc.lt
  have ld := Rd.lt
  have ly := Ry.lt
  have lr := Rr.lt
  have lup := Rup.lt
  have lf0x := Rf0x.lt
  (try clear c0 c1 c2 c3 c4 c5 c6); obtain ⟨c0, c1, c2, c3, c4, c5, c6⟩ := row7 Rc
  (try clear d0 d1 d2 d3 d4 d5 d6 d7 d8 d9 d10 d11); obtain ⟨d0, d1, d2, d3, d4, d5, d6, d7, d8, d9, d10, d11⟩ := row12 Rd
  (try clear y0 y1); obtain ⟨y0, y1⟩ := row2 Ry
  (try clear r0 r1 r2 r3 r4 r5 r6 r7 r8 r9 r10 r11); obtain ⟨r0, r1, r2, r3, r4, r5, r6, r7, r8, r9, r10, r11⟩ := row12 Rr
  (try clear up0 up1 up2 up3 up4 up5 up6 up7 up8 up9 up10 up11); obtain ⟨up0, up1, up2, up3, up4, up5, up6, up7, up8, up9, up10, up11⟩ := row12 Rup
  (try clear f0x0 f0x1 f0x2); obtain ⟨f0x0, f0x1, f0x2⟩ := row3 Rf0x
  go_wp2_with fail
  rw [rounds_succ]
  go_wp2_with fail
  replace Rc := Rc.alloc (.cells #[Value.int .i64 s.d1.kind, Value.int .i64 s.d1.side, Value.int .i64 s.d1.step] 23)
  replace Rd := Rd.alloc (.cells #[Value.int .i64 s.d1.kind, Value.int .i64 s.d1.side, Value.int .i64 s.d1.step] 23)
  replace Ry := Ry.alloc (.cells #[Value.int .i64 s.d1.kind, Value.int .i64 s.d1.side, Value.int .i64 s.d1.step] 23)
  replace Rr := Rr.alloc (.cells #[Value.int .i64 s.d1.kind, Value.int .i64 s.d1.side, Value.int .i64 s.d1.step] 23)
  replace Rup := Rup.alloc (.cells #[Value.int .i64 s.d1.kind, Value.int .i64 s.d1.side, Value.int .i64 s.d1.step] 23)
  replace Rf0x := Rf0x.alloc (.cells #[Value.int .i64 s.d1.kind, Value.int .i64 s.d1.side, Value.int .i64 s.d1.step] 23)
  have Rf1x := Row.new w3 #[Value.int .i64 s.d1.kind, Value.int .i64 s.d1.side, Value.int .i64 s.d1.step] 23
  have mf1x := hb0.size
  replace hb0 := hb0.alloc hb0.size (.cells #[Value.int .i64 s.d1.kind, Value.int .i64 s.d1.side, Value.int .i64 s.d1.step] 23)
  (try clear c0 c1 c2 c3 c4 c5 c6); obtain ⟨c0, c1, c2, c3, c4, c5, c6⟩ := row7 Rc
  (try clear d0 d1 d2 d3 d4 d5 d6 d7 d8 d9 d10 d11); obtain ⟨d0, d1, d2, d3, d4, d5, d6, d7, d8, d9, d10, d11⟩ := row12 Rd
  (try clear y0 y1); obtain ⟨y0, y1⟩ := row2 Ry
  (try clear r0 r1 r2 r3 r4 r5 r6 r7 r8 r9 r10 r11); obtain ⟨r0, r1, r2, r3, r4, r5, r6, r7, r8, r9, r10, r11⟩ := row12 Rr
  (try clear up0 up1 up2 up3 up4 up5 up6 up7 up8 up9 up10 up11); obtain ⟨up0, up1, up2, up3, up4, up5, up6, up7, up8, up9, up10, up11⟩ := row12 Rup
  (try clear f0x0 f0x1 f0x2); obtain ⟨f0x0, f0x1, f0x2⟩ := row3 Rf0x
  (try clear f1x0 f1x1 f1x2); obtain ⟨f1x0, f1x1, f1x2⟩ := row3 Rf1x
  refine wp_region_held_drew (S := (fun w' => w'.cell? ⟨w.heap.size + 1, 0, none⟩ = some (Value.int .i64 p.a0) ∧ w'.cell? ⟨w.heap.size + 1, 1, none⟩ = some (Value.int .i64 p.a1) ∧ w'.cell? ⟨w.heap.size + 1 + 1, 0, none⟩ = some (Value.int .i64 b0) ∧ w'.cell? ⟨w.heap.size + 1 + 1, 1, none⟩ = some (Value.int .i64 b1) ∧ w'.cell? ⟨w3.heap.size, 0, none⟩ = some (Value.int .i64 s.d1.kind) ∧ w'.cell? ⟨w3.heap.size, 1, none⟩ = some (Value.int .i64 s.d1.side) ∧ w'.cell? ⟨w3.heap.size, 2, none⟩ = some (Value.int .i64 s.d1.step))) (by kernel_rfl) ?hSr42_ (fun hHeld => ?_)
  case hSr42_ => (exact ⟨d0, d1, y0, y1, f1x0, f1x1, f1x2⟩)
  (clear c0 c1 c2 c3 c4 c5 c6 d0 d1 d2 d3 d4 d5 d6 d7 d8 d9 d10 d11 y0 y1 r0 r1 r2 r3 r4 r5 r6 r7 r8 r9 r10 r11 up0 up1 up2 up3 up4 up5 up6 up7 up8 up9 up10 up11 f0x0 f0x1 f0x2 f1x0 f1x1 f1x2; (replace Rc := Rc.drew); (replace Rd := Rd.drew); (replace Ry := Ry.drew); (replace Rr := Rr.drew); (replace Rup := Rup.drew); (replace Rf0x := Rf0x.drew); (replace Rf1x := Rf1x.drew); (replace hb0 := hb0.drew); (generalize World.drew (World.alloc w3 (.cells #[Value.int .i64 s.d1.kind, Value.int .i64 s.d1.side, Value.int .i64 s.d1.step] 23)) = wq at *))
  refine tk 0 ⟨some 23, .move (.tmp 8), 3, _, _, _⟩ hHeld ?_
  (try simp only [Act.put, nz1, nz2, nz3])
  refine tk 1 ⟨some 24, .indexAddr 27 (.tmp 5) (.tmp 23), 0, _, _, _⟩ hHeld ?_
  (try simp only [Act.put, nz1, nz2, nz3])
  refine tk 2 ⟨some 25, .load 3 (.tmp 24), 3, _, _, _⟩ hHeld ?_
  (try simp only [Act.put, nz1, nz2, nz3])
  refine tk 3 ⟨some 26, .move (.tmp 8), 3, _, _, _⟩ hHeld ?_
  (try simp only [Act.put, nz1, nz2, nz3])
  refine tk 4 ⟨some 27, .fieldAddr 33 (.tmp 4) 0, 0, _, _, _⟩ hHeld ?_
  (try simp only [Act.put, nz1, nz2, nz3])
  refine tk 5 ⟨some 28, .indexAddr 27 (.tmp 27) (.tmp 26), 0, _, _, _⟩ hHeld ?_
  (try simp only [Act.put, nz1, nz2, nz3])
  refine tk 6 ⟨some 29, .load 3 (.tmp 28), 3, _, _, _⟩ hHeld ?_
  (try simp only [Act.put, nz1, nz2, nz3])
  refine tk 7 ⟨some 30, .binOp .lss 3 (.tmp 25) (.tmp 29) 3, 4, _, _, _⟩ hHeld ?_
  (try simp only [Act.put, nz1, nz2, nz3])
  refine tk 8 ⟨some 31, .move (.tmp 30), 4, _, _, _⟩ hHeld ?_
  (try simp only [Act.put, nz1, nz2, nz3])
  refine tk 9 ⟨some 32, .move (.tmp 8), 3, _, _, _⟩ hHeld ?_
  (try simp only [Act.put, nz1, nz2, nz3])
  refine tk 10 ⟨some 33, .indexAddr 27 (.tmp 5) (.tmp 32), 0, _, _, _⟩ hHeld ?_
  (try simp only [Act.put, nz1, nz2, nz3])
  refine tk 11 ⟨some 34, .load 3 (.tmp 33), 3, _, _, _⟩ hHeld ?_
  (try simp only [Act.put, nz1, nz2, nz3])
  refine tk 12 ⟨some 35, .load 23 (.tmp 9), 23, _, _, _⟩ hHeld ?_
  (try simp only [Act.put, nz1, nz2, nz3])
  refine wpAnyH_ready (rs := [13]) (by kernel_rfl) (by simp) ?_
  refine AllReadyH.cons (o := ⟨some 36, .call { callee := .value (.func 55), args := #[.tmp 35], argTypes := #[23] }, 3, _, _, _⟩) rfl (fun K hK => ?_) AllReadyH.nil
  (go_simp; (refine (HD1 _).mono ?_); (rintro e wz ⟨rfl, hb⟩); (replace Rc := Rc.later hb); (replace Rd := Rd.later hb); (replace Ry := Ry.later hb); (replace Rr := Rr.later hb); (replace Rup := Rup.later hb); (replace Rf0x := Rf0x.later hb); (replace Rf1x := Rf1x.later hb); (replace hb0 := below_step hb0 hb); go_wp2_with fail)
  refine hK.out _ _ ?hSr42_14_13 (fun hHeld2 => ?_)
  case hSr42_14_13 => (obtain ⟨d0, d1, y0, y1, f1x0, f1x1, f1x2⟩ := hHeld; exact ⟨cell_later hb d0, cell_later hb d1, cell_later hb y0, cell_later hb y1, cell_later hb f1x0, cell_later hb f1x1, cell_later hb f1x2⟩)
  clear hK K hHeld
  have hHeld := hHeld2
  clear hHeld2
  rename World => wq
  (try simp only [Act.put, nz1, nz2, nz3])
  refine tk 14 ⟨some 37, .binOp .gtr 3 (.tmp 34) (.tmp 36) 3, 4, _, _, _⟩ hHeld ?_
  (try simp only [Act.put, nz1, nz2, nz3])
  refine tk 15 ⟨some 38, .pick (.tmp 31) (.const (.bool true)) (.tmp 37), 4, _, _, _⟩ hHeld ?_
  (try simp only [Act.put, nz1, nz2, nz3])
  refine wpAnyH_done (by kernel_rfl) ?_ _
  clear hHeld
  rename World => w4
  have lc := Rc.lt
  have ld := Rd.lt
  have ly := Ry.lt
  have lr := Rr.lt
  have lup := Rup.lt
  have lf0x := Rf0x.lt
  have lf1x := Rf1x.lt
  (try clear c0 c1 c2 c3 c4 c5 c6); obtain ⟨c0, c1, c2, c3, c4, c5, c6⟩ := row7 Rc
  (try clear d0 d1 d2 d3 d4 d5 d6 d7 d8 d9 d10 d11); obtain ⟨d0, d1, d2, d3, d4, d5, d6, d7, d8, d9, d10, d11⟩ := row12 Rd
  (try clear y0 y1); obtain ⟨y0, y1⟩ := row2 Ry
  (try clear r0 r1 r2 r3 r4 r5 r6 r7 r8 r9 r10 r11); obtain ⟨r0, r1, r2, r3, r4, r5, r6, r7, r8, r9, r10, r11⟩ := row12 Rr
  (try clear up0 up1 up2 up3 up4 up5 up6 up7 up8 up9 up10 up11); obtain ⟨up0, up1, up2, up3, up4, up5, up6, up7, up8, up9, up10, up11⟩ := row12 Rup
  (try clear f0x0 f0x1 f0x2); obtain ⟨f0x0, f0x1, f0x2⟩ := row3 Rf0x
  (try clear f1x0 f1x1 f1x2); obtain ⟨f1x0, f1x1, f1x2⟩ := row3 Rf1x
  go_wp2_with fail
  refine wp_region_held_drew (S := (fun w' => w'.cell? ⟨w.heap.size + 1, 7, none⟩ = some (Value.int .i64 p.k1.kind) ∧ w'.cell? ⟨w.heap.size + 1, 8, none⟩ = some (Value.int .i64 p.k1.len) ∧ w'.cell? ⟨w.heap.size + 1, 9, none⟩ = some (Value.int .u64 p.k1.h) ∧ w'.cell? ⟨w.heap.size + 1, 10, none⟩ = some (Value.int .u64 p.k1.l) ∧ w'.cell? ⟨w.heap.size + 1, 11, none⟩ = some (Value.string ⟨p.k1.path.toArray⟩) ∧ w'.cell? ⟨w.heap.size + 1 + 1, 0, none⟩ = some (Value.int .i64 b0) ∧ w'.cell? ⟨w.heap.size + 1 + 1, 1, none⟩ = some (Value.int .i64 b1) ∧ w'.cell? ⟨w3.heap.size, 0, none⟩ = some (Value.int .i64 s.d1.kind) ∧ w'.cell? ⟨w3.heap.size, 1, none⟩ = some (Value.int .i64 s.d1.side) ∧ w'.cell? ⟨w3.heap.size, 2, none⟩ = some (Value.int .i64 s.d1.step))) (by kernel_rfl) ?hSr43_ (fun hHeld => ?_)
  case hSr43_ => (exact ⟨d7, d8, d9, d10, d11, y0, y1, f1x0, f1x1, f1x2⟩)
  (clear c0 c1 c2 c3 c4 c5 c6 d0 d1 d2 d3 d4 d5 d6 d7 d8 d9 d10 d11 y0 y1 r0 r1 r2 r3 r4 r5 r6 r7 r8 r9 r10 r11 up0 up1 up2 up3 up4 up5 up6 up7 up8 up9 up10 up11 f0x0 f0x1 f0x2 f1x0 f1x1 f1x2; (replace Rc := Rc.drew); (replace Rd := Rd.drew); (replace Ry := Ry.drew); (replace Rr := Rr.drew); (replace Rup := Rup.drew); (replace Rf0x := Rf0x.drew); (replace Rf1x := Rf1x.drew); (replace hb0 := hb0.drew); (generalize World.drew w4 = wq at *))
  refine tk 0 ⟨some 40, .move (.tmp 8), 3, _, _, _⟩ hHeld ?_
  (try simp only [Act.put, nz1, nz2, nz3])
  refine tk 1 ⟨some 41, .load 23 (.tmp 9), 23, _, _, _⟩ hHeld ?_
  (try simp only [Act.put, nz1, nz2, nz3])
  refine tk 2 ⟨some 42, .move (.tmp 8), 3, _, _, _⟩ hHeld ?_
  (try simp only [Act.put, nz1, nz2, nz3])
  refine tk 3 ⟨some 43, .indexAddr 27 (.tmp 5) (.tmp 42), 0, _, _, _⟩ hHeld ?_
  (try simp only [Act.put, nz1, nz2, nz3])
  refine tk 4 ⟨some 44, .load 3 (.tmp 43), 3, _, _, _⟩ hHeld ?_
  (try simp only [Act.put, nz1, nz2, nz3])
  refine tk 5 ⟨some 45, .move (.tmp 8), 3, _, _, _⟩ hHeld ?_
  (try simp only [Act.put, nz1, nz2, nz3])
  refine tk 6 ⟨some 46, .fieldAddr 33 (.tmp 4) 1, 0, _, _, _⟩ hHeld ?_
  (try simp only [Act.put, nz1, nz2, nz3])
  refine tk 7 ⟨some 47, .indexAddr 31 (.tmp 46) (.tmp 45), 0, _, _, _⟩ hHeld ?_
  (try simp only [Act.put, nz1, nz2, nz3])
  refine tk 8 ⟨some 48, .load 30 (.tmp 47), 30, _, _, _⟩ hHeld ?_
  (try simp only [Act.put, nz1, nz2, nz3])
  refine tk 10 ⟨some 50, .fieldAddr 33 (.tmp 7) 1, 0, _, _, _⟩ hHeld ?_
  (try simp only [Act.put, nz1, nz2, nz3])
  refine wpAnyH_ready (rs := [9]) (by kernel_rfl) (by simp) ?_
  refine AllReadyH.cons (o := ⟨some 49, .call { callee := .value (.func 61), args := #[.tmp 41, .tmp 44, .tmp 48], argTypes := #[23, 3, 30] }, 30, _, _, _⟩) rfl (fun K hK => ?_) AllReadyH.nil
  (go_simp; (refine (HC1 _).mono ?_); (rintro e wz ⟨rfl, hb⟩); (replace Rc := Rc.later hb); (replace Rd := Rd.later hb); (replace Ry := Ry.later hb); (replace Rr := Rr.later hb); (replace Rup := Rup.later hb); (replace Rf0x := Rf0x.later hb); (replace Rf1x := Rf1x.later hb); (replace hb0 := below_step hb0 hb); go_wp2_with fail)
  refine hK.out _ _ ?hSr43_11_9 (fun hHeld2 => ?_)
  case hSr43_11_9 => (obtain ⟨d7, d8, d9, d10, d11, y0, y1, f1x0, f1x1, f1x2⟩ := hHeld; exact ⟨cell_later hb d7, cell_later hb d8, cell_later hb d9, cell_later hb d10, cell_later hb d11, cell_later hb y0, cell_later hb y1, cell_later hb f1x0, cell_later hb f1x1, cell_later hb f1x2⟩)
  clear hK K hHeld
  have hHeld := hHeld2
  clear hHeld2
  rename World => wq
  (try simp only [Act.put, nz1, nz2, nz3])
  refine tk 11 ⟨some 51, .indexAddr 31 (.tmp 50) (.tmp 40), 0, _, _, _⟩ hHeld ?_
  (try simp only [Act.put, nz1, nz2, nz3])
  refine wpAnyH_ready (rs := [12]) (by kernel_rfl) (by simp) ?_
  refine AllReadyH.cons (o := ⟨none, .store 30 (.tmp 51) (.tmp 49), 0, _, _, _⟩) rfl (fun K hK => ?_) AllReadyH.nil
  ((obtain ⟨zd0, zd1, zd2, zd3, zd4, zd5, zd6, zc0, zc1, zc2, zc3, zc4⟩ := row12 Rup); (have zf0 := Rup.frozen 7); (have zf1 := Rup.frozen 8); (have zf2 := Rup.frozen 9); (have zf3 := Rup.frozen 10); (have zf4 := Rup.frozen 11); (have hHq := hHeld); (obtain ⟨d7, d8, d9, d10, d11, y0, y1, f1x0, f1x1, f1x2⟩ := hHq); go_simp; clear zc0 zf0 zc1 zf1 zc2 zf2 zc3 zf3 zc4 zf4 zd0 zd1 zd2 zd3 zd4 zd5 zd6; (replace d7 := pcell_far (g := w1.heap.size) (o := 7) (vs := [Value.int .i64 u1.kind, Value.int .i64 u1.len, Value.int .u64 u1.h, Value.int .u64 u1.l, Value.string ⟨u1.path.toArray⟩]) d7 (by first | omega | (simp; done) | (simp; omega) | omega)); (replace d8 := pcell_far (g := w1.heap.size) (o := 7) (vs := [Value.int .i64 u1.kind, Value.int .i64 u1.len, Value.int .u64 u1.h, Value.int .u64 u1.l, Value.string ⟨u1.path.toArray⟩]) d8 (by first | omega | (simp; done) | (simp; omega) | omega)); (replace d9 := pcell_far (g := w1.heap.size) (o := 7) (vs := [Value.int .i64 u1.kind, Value.int .i64 u1.len, Value.int .u64 u1.h, Value.int .u64 u1.l, Value.string ⟨u1.path.toArray⟩]) d9 (by first | omega | (simp; done) | (simp; omega) | omega)); (replace d10 := pcell_far (g := w1.heap.size) (o := 7) (vs := [Value.int .i64 u1.kind, Value.int .i64 u1.len, Value.int .u64 u1.h, Value.int .u64 u1.l, Value.string ⟨u1.path.toArray⟩]) d10 (by first | omega | (simp; done) | (simp; omega) | omega)); (replace d11 := pcell_far (g := w1.heap.size) (o := 7) (vs := [Value.int .i64 u1.kind, Value.int .i64 u1.len, Value.int .u64 u1.h, Value.int .u64 u1.l, Value.string ⟨u1.path.toArray⟩]) d11 (by first | omega | (simp; done) | (simp; omega) | omega)); (replace y0 := pcell_far (g := w1.heap.size) (o := 7) (vs := [Value.int .i64 u1.kind, Value.int .i64 u1.len, Value.int .u64 u1.h, Value.int .u64 u1.l, Value.string ⟨u1.path.toArray⟩]) y0 (by first | omega | (simp; done) | (simp; omega) | omega)); (replace y1 := pcell_far (g := w1.heap.size) (o := 7) (vs := [Value.int .i64 u1.kind, Value.int .i64 u1.len, Value.int .u64 u1.h, Value.int .u64 u1.l, Value.string ⟨u1.path.toArray⟩]) y1 (by first | omega | (simp; done) | (simp; omega) | omega)); (replace f1x0 := pcell_far (g := w1.heap.size) (o := 7) (vs := [Value.int .i64 u1.kind, Value.int .i64 u1.len, Value.int .u64 u1.h, Value.int .u64 u1.l, Value.string ⟨u1.path.toArray⟩]) f1x0 (by first | omega | (simp; done) | (simp; omega) | omega)); (replace f1x1 := pcell_far (g := w1.heap.size) (o := 7) (vs := [Value.int .i64 u1.kind, Value.int .i64 u1.len, Value.int .u64 u1.h, Value.int .u64 u1.l, Value.string ⟨u1.path.toArray⟩]) f1x1 (by first | omega | (simp; done) | (simp; omega) | omega)); (replace f1x2 := pcell_far (g := w1.heap.size) (o := 7) (vs := [Value.int .i64 u1.kind, Value.int .i64 u1.len, Value.int .u64 u1.h, Value.int .u64 u1.l, Value.string ⟨u1.path.toArray⟩]) f1x2 (by first | omega | (simp; done) | (simp; omega) | omega)); (replace Rc := prow_far (g := w1.heap.size) (o := 7) (vs := [Value.int .i64 u1.kind, Value.int .i64 u1.len, Value.int .u64 u1.h, Value.int .u64 u1.l, Value.string ⟨u1.path.toArray⟩]) Rc (by first | omega | (simp; done) | (simp; omega) | omega)); (replace Rd := prow_far (g := w1.heap.size) (o := 7) (vs := [Value.int .i64 u1.kind, Value.int .i64 u1.len, Value.int .u64 u1.h, Value.int .u64 u1.l, Value.string ⟨u1.path.toArray⟩]) Rd (by first | omega | (simp; done) | (simp; omega) | omega)); (replace Ry := prow_far (g := w1.heap.size) (o := 7) (vs := [Value.int .i64 u1.kind, Value.int .i64 u1.len, Value.int .u64 u1.h, Value.int .u64 u1.l, Value.string ⟨u1.path.toArray⟩]) Ry (by first | omega | (simp; done) | (simp; omega) | omega)); (replace Rr := prow_far (g := w1.heap.size) (o := 7) (vs := [Value.int .i64 u1.kind, Value.int .i64 u1.len, Value.int .u64 u1.h, Value.int .u64 u1.l, Value.string ⟨u1.path.toArray⟩]) Rr (by first | omega | (simp; done) | (simp; omega) | omega)); (replace Rf0x := prow_far (g := w1.heap.size) (o := 7) (vs := [Value.int .i64 u1.kind, Value.int .i64 u1.len, Value.int .u64 u1.h, Value.int .u64 u1.l, Value.string ⟨u1.path.toArray⟩]) Rf0x (by first | omega | (simp; done) | (simp; omega) | omega)); (replace Rf1x := prow_far (g := w1.heap.size) (o := 7) (vs := [Value.int .i64 u1.kind, Value.int .i64 u1.len, Value.int .u64 u1.h, Value.int .u64 u1.l, Value.string ⟨u1.path.toArray⟩]) Rf1x (by first | omega | (simp; done) | (simp; omega) | omega)); (replace hb0 := below_setCells (g := w1.heap.size) (by omega) [Value.int .i64 u1.kind, Value.int .i64 u1.len, Value.int .u64 u1.h, Value.int .u64 u1.l, Value.string ⟨u1.path.toArray⟩] 7 _ hb0); (replace Rup : Row (World.setCells wq w1.heap.size 7 [Value.int .i64 u1.kind, Value.int .i64 u1.len, Value.int .u64 u1.h, Value.int .u64 u1.l, Value.string ⟨u1.path.toArray⟩]) w1.heap.size #[.int .i64 b0, .int .i64 b1, .int .i64 u0.kind, .int .i64 u0.len, .int .u64 u0.h, .int .u64 u0.l, .string ⟨u0.path.toArray⟩, .int .i64 u1.kind, .int .i64 u1.len, .int .u64 u1.h, .int .u64 u1.l, .string ⟨u1.path.toArray⟩] 33 := Row.setMany Rup 7 [Value.int .i64 u1.kind, Value.int .i64 u1.len, Value.int .u64 u1.h, Value.int .u64 u1.l, Value.string ⟨u1.path.toArray⟩] (by simp [setL])); (simp only [World.setCells] at Rc Rd Ry Rr Rup Rf0x Rf1x d7 d8 d9 d10 d11 y0 y1 f1x0 f1x1 f1x2 hb0); generalize (World.setCell (World.setCell (World.setCell (World.setCell (World.setCell wq ⟨w1.heap.size, 7, none⟩ (Value.int .i64 u1.kind)) ⟨w1.heap.size, 8, none⟩ (Value.int .i64 u1.len)) ⟨w1.heap.size, 9, none⟩ (Value.int .u64 u1.h)) ⟨w1.heap.size, 10, none⟩ (Value.int .u64 u1.l)) ⟨w1.heap.size, 11, none⟩ (Value.string ⟨u1.path.toArray⟩)) = wz at *)
  refine hK.out _ _ ?hSr43_13_12 (fun hHeld2 => ?_)
  case hSr43_13_12 => (exact ⟨d7, d8, d9, d10, d11, y0, y1, f1x0, f1x1, f1x2⟩)
  clear hK K hHeld
  have hHeld := hHeld2
  clear hHeld2
  rename World => wq
  (try simp only [Act.put, nz1, nz2, nz3])
  refine wpAnyH_done (by kernel_rfl) ?_ _
  clear hHeld
  rename World => w5
  have lc := Rc.lt
  have ld := Rd.lt
  have ly := Ry.lt
  have lr := Rr.lt
  have lup := Rup.lt
  have lf0x := Rf0x.lt
  have lf1x := Rf1x.lt
  (try clear c0 c1 c2 c3 c4 c5 c6); obtain ⟨c0, c1, c2, c3, c4, c5, c6⟩ := row7 Rc
  (try clear d0 d1 d2 d3 d4 d5 d6 d7 d8 d9 d10 d11); obtain ⟨d0, d1, d2, d3, d4, d5, d6, d7, d8, d9, d10, d11⟩ := row12 Rd
  (try clear y0 y1); obtain ⟨y0, y1⟩ := row2 Ry
  (try clear r0 r1 r2 r3 r4 r5 r6 r7 r8 r9 r10 r11); obtain ⟨r0, r1, r2, r3, r4, r5, r6, r7, r8, r9, r10, r11⟩ := row12 Rr
  (try clear up0 up1 up2 up3 up4 up5 up6 up7 up8 up9 up10 up11); obtain ⟨up0, up1, up2, up3, up4, up5, up6, up7, up8, up9, up10, up11⟩ := row12 Rup
  (try clear f0x0 f0x1 f0x2); obtain ⟨f0x0, f0x1, f0x2⟩ := row3 Rf0x
  (try clear f1x0 f1x1 f1x2); obtain ⟨f1x0, f1x1, f1x2⟩ := row3 Rf1x
  go_wp2_with fail
  rw [rounds_succ]
  have rf0 := Rr.frozen 0
  have rf1 := Rr.frozen 1
  have rf2 := Rr.frozen 2
  have rf3 := Rr.frozen 3
  have rf4 := Rr.frozen 4
  have rf5 := Rr.frozen 5
  have rf6 := Rr.frozen 6
  have rf7 := Rr.frozen 7
  have rf8 := Rr.frozen 8
  have rf9 := Rr.frozen 9
  have rf10 := Rr.frozen 10
  have rf11 := Rr.frozen 11
  go_wp2
  clear c0 c1 c2 c3 c4 c5 c6
  clear d0 d1 d2 d3 d4 d5 d6 d7 d8 d9 d10 d11
  clear y0 y1
  obtain ⟨w6, hwn⟩ : ∃ wz, wz = (World.setCell (World.setCell (World.setCell (World.setCell (World.setCell (World.setCell (World.setCell (World.setCell (World.setCell (World.setCell (World.setCell (World.setCell w5 ⟨(w.heap.size + 1 + 1 + 1), 0, none⟩ (.int .i64 b0)) ⟨(w.heap.size + 1 + 1 + 1), 1, none⟩ (.int .i64 b1)) ⟨(w.heap.size + 1 + 1 + 1), 2, none⟩ (.int .i64 u0.kind)) ⟨(w.heap.size + 1 + 1 + 1), 3, none⟩ (.int .i64 u0.len)) ⟨(w.heap.size + 1 + 1 + 1), 4, none⟩ (.int .u64 u0.h)) ⟨(w.heap.size + 1 + 1 + 1), 5, none⟩ (.int .u64 u0.l)) ⟨(w.heap.size + 1 + 1 + 1), 6, none⟩ (.string ⟨u0.path.toArray⟩)) ⟨(w.heap.size + 1 + 1 + 1), 7, none⟩ (.int .i64 u1.kind)) ⟨(w.heap.size + 1 + 1 + 1), 8, none⟩ (.int .i64 u1.len)) ⟨(w.heap.size + 1 + 1 + 1), 9, none⟩ (.int .u64 u1.h)) ⟨(w.heap.size + 1 + 1 + 1), 10, none⟩ (.int .u64 u1.l)) ⟨(w.heap.size + 1 + 1 + 1), 11, none⟩ (.string ⟨u1.path.toArray⟩)) := ⟨_, rfl⟩
  rw [← hwn]
  replace hwn : w6 = World.setCells w5 (w.heap.size + 1 + 1 + 1) 0 [.int .i64 b0, .int .i64 b1, .int .i64 u0.kind, .int .i64 u0.len, .int .u64 u0.h, .int .u64 u0.l, .string ⟨u0.path.toArray⟩, .int .i64 u1.kind, .int .i64 u1.len, .int .u64 u1.h, .int .u64 u1.l, .string ⟨u1.path.toArray⟩] := hwn
  replace Rr : Row w6 (w.heap.size + 1 + 1 + 1) #[.int .i64 b0, .int .i64 b1, .int .i64 u0.kind, .int .i64 u0.len, .int .u64 u0.h, .int .u64 u0.l, .string ⟨u0.path.toArray⟩, .int .i64 u1.kind, .int .i64 u1.len, .int .u64 u1.h, .int .u64 u1.l, .string ⟨u1.path.toArray⟩] 33 := psm hwn Rr (by simp [setL])
  replace Rc := prf hwn Rc
  replace Rd := prf hwn Rd
  replace Ry := prf hwn Ry
  replace Rup := prf hwn Rup
  replace Rf0x := prf hwn Rf0x
  replace Rf1x := prf hwn Rf1x
  replace hb0 := pbl hwn hb0
  clear hwn r0 r1 r2 r3 r4 r5 r6 r7 r8 r9 r10 r11 up0 up1 up2 up3 up4 up5 up6 up7 up8 up9 up10 up11 f0x0 f0x1 f0x2 f1x0 f1x1 f1x2
  (try clear rf0 rf1 rf2 rf3 rf4 rf5 rf6 rf7 rf8 rf9 rf10 rf11)
  (try clear r0 r1 r2 r3 r4 r5 r6 r7 r8 r9 r10 r11); obtain ⟨r0, r1, r2, r3, r4, r5, r6, r7, r8, r9, r10, r11⟩ := row12 Rr
  (try clear up0 up1 up2 up3 up4 up5 up6 up7 up8 up9 up10 up11); obtain ⟨up0, up1, up2, up3, up4, up5, up6, up7, up8, up9, up10, up11⟩ := row12 Rup
  (try clear f0x0 f0x1 f0x2); obtain ⟨f0x0, f0x1, f0x2⟩ := row3 Rf0x
  (try clear f1x0 f1x1 f1x2); obtain ⟨f1x0, f1x1, f1x2⟩ := row3 Rf1x
  refine bodyPost_ret (v := .agg #[.int .i64 b0, .int .i64 b1, .int .i64 u0.kind, .int .i64 u0.len, .int .u64 u0.h, .int .u64 u0.l, .string ⟨u0.path.toArray⟩, .int .i64 u1.kind, .int .i64 u1.len, .int .u64 u1.h, .int .u64 u1.l, .string ⟨u1.path.toArray⟩]) (by simp [results, Try.results26, go_sem, r0, r1, r2, r3, r4, r5, r6, r7, r8, r9, r10, r11]) rfl ⟨rfl, hb0⟩
end Go.Proofs.Ytbekocknfpekoaa
