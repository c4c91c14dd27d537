/- G10: what the theorem needs of these texts. No conditions beyond those that are written. -/
import Derived.Test.YtbekocknfpekoaaBJP6
namespace Go.Proofs.Ytbekocknfpekoaa
set_option linter.unusedVariables false
set_option linter.unusedSimpArgs false
open Go.RowKit
set_option maxRecDepth 100000 in
set_option maxHeartbeats 32000000 in
theorem parents_no (s : Sp) (p : Px)
    (HR : ∀ w, Calls Try.prog 20 #[sv s, pv p] w fun e w' => e = .returned (.bool false) ∧ Below w.heap.size w w') (w : World) :
    Calls Try.prog 49 #[sv s, pv p] w fun e w' => ∃ v, e = .returned v ∧ XS w' v [] ∧ Below w.heap.size w w' := by
  unfold sv pv at *
  obtain ⟨Rc, Rd, hb0⟩ := two_rows w #[.int .i64 s.n, .int .i64 s.d0.kind, .int .i64 s.d0.side, .int .i64 s.d0.step, .int .i64 s.d1.kind, .int .i64 s.d1.side, .int .i64 s.d1.step] #[.int .i64 p.a0, .int .i64 p.a1, .int .i64 p.k0.kind, .int .i64 p.k0.len, .int .u64 p.k0.h, .int .u64 p.k0.l, .string ⟨p.k0.path.toArray⟩, .int .i64 p.k1.kind, .int .i64 p.k1.len, .int .u64 p.k1.h, .int .u64 p.k1.l, .string ⟨p.k1.path.toArray⟩] 26 33
  (try clear c0 c1 c2 c3 c4 c5 c6); obtain ⟨c0, c1, c2, c3, c4, c5, c6⟩ := row7 Rc
  (try clear d0 d1 d2 d3 d4 d5 d6 d7 d8 d9 d10 d11); obtain ⟨d0, d1, d2, d3, d4, d5, d6, d7, d8, d9, d10, d11⟩ := row12 Rd
  go_enter Try.func49, Try.ntmps49
  go_wp2_with fail
  refine (HR _).mono ?_
  rintro e w1 ⟨rfl, hb⟩
  replace Rc := Rc.later hb
  replace Rd := Rd.later hb
  replace hb0 := below_step hb0 hb
  clear hb
  have lc := Rc.lt
  have ld := Rd.lt
  (try clear c0 c1 c2 c3 c4 c5 c6); obtain ⟨c0, c1, c2, c3, c4, c5, c6⟩ := row7 Rc
  (try clear d0 d1 d2 d3 d4 d5 d6 d7 d8 d9 d10 d11); obtain ⟨d0, d1, d2, d3, d4, d5, d6, d7, d8, d9, d10, d11⟩ := row12 Rd
  go_wp2
  go_ret
  exact ⟨_, rfl, XS.nil _, hb0⟩
set_option maxRecDepth 100000 in
set_option maxHeartbeats 32000000 in
theorem parents_00 (s : Sp) (p x0 x1 : Px)
    (HR : ∀ w, Calls Try.prog 20 #[sv s, pv p] w fun e w' => e = .returned (.bool true) ∧ Below w.heap.size w w')
    (HU0 : ∀ w, Calls Try.prog 26 #[sv s, pv p, .agg #[.int .i64 (p.a0 + 1), .int .i64 p.a1]] w fun e w' => e = .returned (pv x0) ∧ Below w.heap.size w w')
    (HU1 : ∀ w, Calls Try.prog 26 #[sv s, pv p, .agg #[.int .i64 p.a0, .int .i64 (p.a1 + 1)]] w fun e w' => e = .returned (pv x1) ∧ Below w.heap.size w w')
    (w0 : IntKind.i64.wrap (p.a0 + 1) = p.a0 + 1) (w1 : IntKind.i64.wrap (p.a1 + 1) = p.a1 + 1)
    (hn0 : decide (x0 = pz) = true)
    (hn1 : decide (x1 = pz) = true) (w : World) :
    Calls Try.prog 49 #[sv s, pv p] w fun e w' => ∃ v, e = .returned v ∧ XS w' v [] ∧ Below w.heap.size w w' := by
  have nq0 := neq_px x0 pz
  rw [hn0] at nq0
  have nq1 := neq_px x1 pz
  rw [hn1] at nq1
  clear hn0 hn1
  have e0 : pv pz = .agg #[.int .i64 0, .int .i64 0, .int .i64 0, .int .i64 0, .int .u64 0, .int .u64 0, .string ⟨#[]⟩, .int .i64 0, .int .i64 0, .int .u64 0, .int .u64 0, .string ⟨#[]⟩] := rfl
  unfold pz kz at *
  unfold sv pv at *
  (try unfold kv at *)
  (try dsimp only at *)
  obtain ⟨Rc, Rd, hb0⟩ := two_rows w #[.int .i64 s.n, .int .i64 s.d0.kind, .int .i64 s.d0.side, .int .i64 s.d0.step, .int .i64 s.d1.kind, .int .i64 s.d1.side, .int .i64 s.d1.step] #[.int .i64 p.a0, .int .i64 p.a1, .int .i64 p.k0.kind, .int .i64 p.k0.len, .int .u64 p.k0.h, .int .u64 p.k0.l, .string ⟨p.k0.path.toArray⟩, .int .i64 p.k1.kind, .int .i64 p.k1.len, .int .u64 p.k1.h, .int .u64 p.k1.l, .string ⟨p.k1.path.toArray⟩] 26 33
  (try clear c0 c1 c2 c3 c4 c5 c6); obtain ⟨c0, c1, c2, c3, c4, c5, c6⟩ := row7 Rc
  (try clear d0 d1 d2 d3 d4 d5 d6 d7 d8 d9 d10 d11); obtain ⟨d0, d1, d2, d3, d4, d5, d6, d7, d8, d9, d10, d11⟩ := row12 Rd
  go_enter Try.func49, Try.ntmps49
  clear e0
  go_wp2_with fail
  refine (HR _).mono ?_
  rintro e w1 ⟨rfl, hb⟩
  replace Rc := Rc.later hb
  replace Rd := Rd.later hb
  replace hb0 := below_step hb0 hb
  clear hb
  have lc := Rc.lt
  have ld := Rd.lt
  (try clear c0 c1 c2 c3 c4 c5 c6); obtain ⟨c0, c1, c2, c3, c4, c5, c6⟩ := row7 Rc
  (try clear d0 d1 d2 d3 d4 d5 d6 d7 d8 d9 d10 d11); obtain ⟨d0, d1, d2, d3, d4, d5, d6, d7, d8, d9, d10, d11⟩ := row12 Rd
  go_wp2_with fail
  refine wp_loop_rounds 3 ?_
  rw [rounds_succ]
  go_upto_region 8 with fail
  have na0c := Rc.lt
  have na0d := Rd.lt
  replace Rc := Rc.alloc (.cells #[Value.int .i64 p.a0, Value.int .i64 p.a1] 27)
  replace Rd := Rd.alloc (.cells #[Value.int .i64 p.a0, Value.int .i64 p.a1] 27)
  have Ra0 := Row.new w1 #[Value.int .i64 p.a0, Value.int .i64 p.a1] 27
  have ma0 := hb0.size
  replace hb0 := hb0.alloc hb0.size (.cells #[Value.int .i64 p.a0, Value.int .i64 p.a1] 27)
  (try clear c0 c1 c2 c3 c4 c5 c6); obtain ⟨c0, c1, c2, c3, c4, c5, c6⟩ := row7 Rc
  (try clear d0 d1 d2 d3 d4 d5 d6 d7 d8 d9 d10 d11); obtain ⟨d0, d1, d2, d3, d4, d5, d6, d7, d8, d9, d10, d11⟩ := row12 Rd
  (try clear a00 a01); obtain ⟨a00, a01⟩ := row2 Ra0
  generalize (World.alloc w1 (.cells #[Value.int .i64 p.a0, Value.int .i64 p.a1] 27)) = w2 at *
  have a0f0 := Ra0.frozen 0
  have a0f1 := Ra0.frozen 1
  go_upto_region 9 with fail
  obtain ⟨w3, hwn⟩ : ∃ wz, wz = (World.setCell w2 ⟨w1.heap.size, 0, none⟩ (.int .i64 (p.a0 + 1))) := ⟨_, rfl⟩
  rw [← hwn]
  replace hwn : w3 = World.setCells w2 w1.heap.size 0 [.int .i64 (p.a0 + 1)] := hwn
  replace Ra0 : Row w3 w1.heap.size #[.int .i64 (p.a0 + 1), .int .i64 p.a1] 27 := psm hwn Ra0 (by simp [setL])
  replace Rc := prf hwn Rc
  replace Rd := prf hwn Rd
  replace hb0 := pbl hwn hb0
  clear hwn c0 c1 c2 c3 c4 c5 c6 d0 d1 d2 d3 d4 d5 d6 d7 d8 d9 d10 d11 a00 a01
  (try clear a0f0 a0f1)
  (try clear c0 c1 c2 c3 c4 c5 c6); obtain ⟨c0, c1, c2, c3, c4, c5, c6⟩ := row7 Rc
  (try clear d0 d1 d2 d3 d4 d5 d6 d7 d8 d9 d10 d11); obtain ⟨d0, d1, d2, d3, d4, d5, d6, d7, d8, d9, d10, d11⟩ := row12 Rd
  (try clear a00 a01); obtain ⟨a00, a01⟩ := row2 Ra0
  go_wp2_with fail
  refine (HU0 _).mono ?_
  rintro e w4 ⟨rfl, hb⟩
  replace Rc := Rc.later hb
  replace Rd := Rd.later hb
  replace Ra0 := Ra0.later hb
  replace hb0 := below_step hb0 hb
  clear hb
  have lc := Rc.lt
  have ld := Rd.lt
  have la0 := Ra0.lt
  (try clear c0 c1 c2 c3 c4 c5 c6); obtain ⟨c0, c1, c2, c3, c4, c5, c6⟩ := row7 Rc
  (try clear d0 d1 d2 d3 d4 d5 d6 d7 d8 d9 d10 d11); obtain ⟨d0, d1, d2, d3, d4, d5, d6, d7, d8, d9, d10, d11⟩ := row12 Rd
  (try clear a00 a01); obtain ⟨a00, a01⟩ := row2 Ra0
  go_wp2_with fail
  have ny0c := Rc.lt
  have ny0d := Rd.lt
  have ny0a0 := Ra0.lt
  replace Rc := Rc.alloc (.cells #[Value.int .i64 x0.a0, Value.int .i64 x0.a1, Value.int .i64 x0.k0.kind, Value.int .i64 x0.k0.len, Value.int .u64 x0.k0.h, Value.int .u64 x0.k0.l, Value.string ⟨x0.k0.path.toArray⟩, Value.int .i64 x0.k1.kind, Value.int .i64 x0.k1.len, Value.int .u64 x0.k1.h, Value.int .u64 x0.k1.l, Value.string ⟨x0.k1.path.toArray⟩] 33)
  replace Rd := Rd.alloc (.cells #[Value.int .i64 x0.a0, Value.int .i64 x0.a1, Value.int .i64 x0.k0.kind, Value.int .i64 x0.k0.len, Value.int .u64 x0.k0.h, Value.int .u64 x0.k0.l, Value.string ⟨x0.k0.path.toArray⟩, Value.int .i64 x0.k1.kind, Value.int .i64 x0.k1.len, Value.int .u64 x0.k1.h, Value.int .u64 x0.k1.l, Value.string ⟨x0.k1.path.toArray⟩] 33)
  replace Ra0 := Ra0.alloc (.cells #[Value.int .i64 x0.a0, Value.int .i64 x0.a1, Value.int .i64 x0.k0.kind, Value.int .i64 x0.k0.len, Value.int .u64 x0.k0.h, Value.int .u64 x0.k0.l, Value.string ⟨x0.k0.path.toArray⟩, Value.int .i64 x0.k1.kind, Value.int .i64 x0.k1.len, Value.int .u64 x0.k1.h, Value.int .u64 x0.k1.l, Value.string ⟨x0.k1.path.toArray⟩] 33)
  have Ry0 := Row.new w4 #[Value.int .i64 x0.a0, Value.int .i64 x0.a1, Value.int .i64 x0.k0.kind, Value.int .i64 x0.k0.len, Value.int .u64 x0.k0.h, Value.int .u64 x0.k0.l, Value.string ⟨x0.k0.path.toArray⟩, Value.int .i64 x0.k1.kind, Value.int .i64 x0.k1.len, Value.int .u64 x0.k1.h, Value.int .u64 x0.k1.l, Value.string ⟨x0.k1.path.toArray⟩] 33
  have my0 := hb0.size
  replace hb0 := hb0.alloc hb0.size (.cells #[Value.int .i64 x0.a0, Value.int .i64 x0.a1, Value.int .i64 x0.k0.kind, Value.int .i64 x0.k0.len, Value.int .u64 x0.k0.h, Value.int .u64 x0.k0.l, Value.string ⟨x0.k0.path.toArray⟩, Value.int .i64 x0.k1.kind, Value.int .i64 x0.k1.len, Value.int .u64 x0.k1.h, Value.int .u64 x0.k1.l, Value.string ⟨x0.k1.path.toArray⟩] 33)
  (try clear c0 c1 c2 c3 c4 c5 c6); obtain ⟨c0, c1, c2, c3, c4, c5, c6⟩ := row7 Rc
  (try clear d0 d1 d2 d3 d4 d5 d6 d7 d8 d9 d10 d11); obtain ⟨d0, d1, d2, d3, d4, d5, d6, d7, d8, d9, d10, d11⟩ := row12 Rd
  (try clear a00 a01); obtain ⟨a00, a01⟩ := row2 Ra0
  (try clear y00 y01 y02 y03 y04 y05 y06 y07 y08 y09 y010 y011); obtain ⟨y00, y01, y02, y03, y04, y05, y06, y07, y08, y09, y010, y011⟩ := row12 Ry0
  generalize (World.alloc w4 (.cells #[Value.int .i64 x0.a0, Value.int .i64 x0.a1, Value.int .i64 x0.k0.kind, Value.int .i64 x0.k0.len, Value.int .u64 x0.k0.h, Value.int .u64 x0.k0.l, Value.string ⟨x0.k0.path.toArray⟩, Value.int .i64 x0.k1.kind, Value.int .i64 x0.k1.len, Value.int .u64 x0.k1.h, Value.int .u64 x0.k1.l, Value.string ⟨x0.k1.path.toArray⟩] 33)) = w5 at *
  rw [rounds_succ]
  go_upto_region 8 with fail
  have na1c := Rc.lt
  have na1d := Rd.lt
  have na1a0 := Ra0.lt
  have na1y0 := Ry0.lt
  replace Rc := Rc.alloc (.cells #[Value.int .i64 p.a0, Value.int .i64 p.a1] 27)
  replace Rd := Rd.alloc (.cells #[Value.int .i64 p.a0, Value.int .i64 p.a1] 27)
  replace Ra0 := Ra0.alloc (.cells #[Value.int .i64 p.a0, Value.int .i64 p.a1] 27)
  replace Ry0 := Ry0.alloc (.cells #[Value.int .i64 p.a0, Value.int .i64 p.a1] 27)
  have Ra1 := Row.new w5 #[Value.int .i64 p.a0, Value.int .i64 p.a1] 27
  have ma1 := hb0.size
  replace hb0 := hb0.alloc hb0.size (.cells #[Value.int .i64 p.a0, Value.int .i64 p.a1] 27)
  (try clear c0 c1 c2 c3 c4 c5 c6); obtain ⟨c0, c1, c2, c3, c4, c5, c6⟩ := row7 Rc
  (try clear d0 d1 d2 d3 d4 d5 d6 d7 d8 d9 d10 d11); obtain ⟨d0, d1, d2, d3, d4, d5, d6, d7, d8, d9, d10, d11⟩ := row12 Rd
  (try clear a00 a01); obtain ⟨a00, a01⟩ := row2 Ra0
  (try clear y00 y01 y02 y03 y04 y05 y06 y07 y08 y09 y010 y011); obtain ⟨y00, y01, y02, y03, y04, y05, y06, y07, y08, y09, y010, y011⟩ := row12 Ry0
  (try clear a10 a11); obtain ⟨a10, a11⟩ := row2 Ra1
  generalize (World.alloc w5 (.cells #[Value.int .i64 p.a0, Value.int .i64 p.a1] 27)) = w6 at *
  have a1f0 := Ra1.frozen 0
  have a1f1 := Ra1.frozen 1
  go_upto_region 9 with fail
  obtain ⟨w7, hwn⟩ : ∃ wz, wz = (World.setCell w6 ⟨w5.heap.size, 1, none⟩ (.int .i64 (p.a1 + 1))) := ⟨_, rfl⟩
  rw [← hwn]
  replace hwn : w7 = World.setCells w6 w5.heap.size 1 [.int .i64 (p.a1 + 1)] := hwn
  replace Ra1 : Row w7 w5.heap.size #[.int .i64 p.a0, .int .i64 (p.a1 + 1)] 27 := psm hwn Ra1 (by simp [setL])
  replace Rc := prf hwn Rc
  replace Rd := prf hwn Rd
  replace Ra0 := prf hwn Ra0
  replace Ry0 := prf hwn Ry0
  replace hb0 := pbl hwn hb0
  clear hwn c0 c1 c2 c3 c4 c5 c6 d0 d1 d2 d3 d4 d5 d6 d7 d8 d9 d10 d11 a00 a01 y00 y01 y02 y03 y04 y05 y06 y07 y08 y09 y010 y011 a10 a11
  (try clear a1f0 a1f1)
  (try clear c0 c1 c2 c3 c4 c5 c6); obtain ⟨c0, c1, c2, c3, c4, c5, c6⟩ := row7 Rc
  (try clear d0 d1 d2 d3 d4 d5 d6 d7 d8 d9 d10 d11); obtain ⟨d0, d1, d2, d3, d4, d5, d6, d7, d8, d9, d10, d11⟩ := row12 Rd
  (try clear a00 a01); obtain ⟨a00, a01⟩ := row2 Ra0
  (try clear y00 y01 y02 y03 y04 y05 y06 y07 y08 y09 y010 y011); obtain ⟨y00, y01, y02, y03, y04, y05, y06, y07, y08, y09, y010, y011⟩ := row12 Ry0
  (try clear a10 a11); obtain ⟨a10, a11⟩ := row2 Ra1
  go_wp2_with fail
  refine (HU1 _).mono ?_
  rintro e w8 ⟨rfl, hb⟩
  replace Rc := Rc.later hb
  replace Rd := Rd.later hb
  replace Ra0 := Ra0.later hb
  replace Ry0 := Ry0.later hb
  replace Ra1 := Ra1.later hb
  replace hb0 := below_step hb0 hb
  clear hb
  have lc := Rc.lt
  have ld := Rd.lt
  have la0 := Ra0.lt
  have ly0 := Ry0.lt
  have la1 := Ra1.lt
  (try clear c0 c1 c2 c3 c4 c5 c6); obtain ⟨c0, c1, c2, c3, c4, c5, c6⟩ := row7 Rc
  (try clear d0 d1 d2 d3 d4 d5 d6 d7 d8 d9 d10 d11); obtain ⟨d0, d1, d2, d3, d4, d5, d6, d7, d8, d9, d10, d11⟩ := row12 Rd
  (try clear a00 a01); obtain ⟨a00, a01⟩ := row2 Ra0
  (try clear y00 y01 y02 y03 y04 y05 y06 y07 y08 y09 y010 y011); obtain ⟨y00, y01, y02, y03, y04, y05, y06, y07, y08, y09, y010, y011⟩ := row12 Ry0
  (try clear a10 a11); obtain ⟨a10, a11⟩ := row2 Ra1
  go_wp2_with fail
  have ny1c := Rc.lt
  have ny1d := Rd.lt
  have ny1a0 := Ra0.lt
  have ny1y0 := Ry0.lt
  have ny1a1 := Ra1.lt
  replace Rc := Rc.alloc (.cells #[Value.int .i64 x1.a0, Value.int .i64 x1.a1, Value.int .i64 x1.k0.kind, Value.int .i64 x1.k0.len, Value.int .u64 x1.k0.h, Value.int .u64 x1.k0.l, Value.string ⟨x1.k0.path.toArray⟩, Value.int .i64 x1.k1.kind, Value.int .i64 x1.k1.len, Value.int .u64 x1.k1.h, Value.int .u64 x1.k1.l, Value.string ⟨x1.k1.path.toArray⟩] 33)
  replace Rd := Rd.alloc (.cells #[Value.int .i64 x1.a0, Value.int .i64 x1.a1, Value.int .i64 x1.k0.kind, Value.int .i64 x1.k0.len, Value.int .u64 x1.k0.h, Value.int .u64 x1.k0.l, Value.string ⟨x1.k0.path.toArray⟩, Value.int .i64 x1.k1.kind, Value.int .i64 x1.k1.len, Value.int .u64 x1.k1.h, Value.int .u64 x1.k1.l, Value.string ⟨x1.k1.path.toArray⟩] 33)
  replace Ra0 := Ra0.alloc (.cells #[Value.int .i64 x1.a0, Value.int .i64 x1.a1, Value.int .i64 x1.k0.kind, Value.int .i64 x1.k0.len, Value.int .u64 x1.k0.h, Value.int .u64 x1.k0.l, Value.string ⟨x1.k0.path.toArray⟩, Value.int .i64 x1.k1.kind, Value.int .i64 x1.k1.len, Value.int .u64 x1.k1.h, Value.int .u64 x1.k1.l, Value.string ⟨x1.k1.path.toArray⟩] 33)
  replace Ry0 := Ry0.alloc (.cells #[Value.int .i64 x1.a0, Value.int .i64 x1.a1, Value.int .i64 x1.k0.kind, Value.int .i64 x1.k0.len, Value.int .u64 x1.k0.h, Value.int .u64 x1.k0.l, Value.string ⟨x1.k0.path.toArray⟩, Value.int .i64 x1.k1.kind, Value.int .i64 x1.k1.len, Value.int .u64 x1.k1.h, Value.int .u64 x1.k1.l, Value.string ⟨x1.k1.path.toArray⟩] 33)
  replace Ra1 := Ra1.alloc (.cells #[Value.int .i64 x1.a0, Value.int .i64 x1.a1, Value.int .i64 x1.k0.kind, Value.int .i64 x1.k0.len, Value.int .u64 x1.k0.h, Value.int .u64 x1.k0.l, Value.string ⟨x1.k0.path.toArray⟩, Value.int .i64 x1.k1.kind, Value.int .i64 x1.k1.len, Value.int .u64 x1.k1.h, Value.int .u64 x1.k1.l, Value.string ⟨x1.k1.path.toArray⟩] 33)
  have Ry1 := Row.new w8 #[Value.int .i64 x1.a0, Value.int .i64 x1.a1, Value.int .i64 x1.k0.kind, Value.int .i64 x1.k0.len, Value.int .u64 x1.k0.h, Value.int .u64 x1.k0.l, Value.string ⟨x1.k0.path.toArray⟩, Value.int .i64 x1.k1.kind, Value.int .i64 x1.k1.len, Value.int .u64 x1.k1.h, Value.int .u64 x1.k1.l, Value.string ⟨x1.k1.path.toArray⟩] 33
  have my1 := hb0.size
  replace hb0 := hb0.alloc hb0.size (.cells #[Value.int .i64 x1.a0, Value.int .i64 x1.a1, Value.int .i64 x1.k0.kind, Value.int .i64 x1.k0.len, Value.int .u64 x1.k0.h, Value.int .u64 x1.k0.l, Value.string ⟨x1.k0.path.toArray⟩, Value.int .i64 x1.k1.kind, Value.int .i64 x1.k1.len, Value.int .u64 x1.k1.h, Value.int .u64 x1.k1.l, Value.string ⟨x1.k1.path.toArray⟩] 33)
  (try clear c0 c1 c2 c3 c4 c5 c6); obtain ⟨c0, c1, c2, c3, c4, c5, c6⟩ := row7 Rc
  (try clear d0 d1 d2 d3 d4 d5 d6 d7 d8 d9 d10 d11); obtain ⟨d0, d1, d2, d3, d4, d5, d6, d7, d8, d9, d10, d11⟩ := row12 Rd
  (try clear a00 a01); obtain ⟨a00, a01⟩ := row2 Ra0
  (try clear y00 y01 y02 y03 y04 y05 y06 y07 y08 y09 y010 y011); obtain ⟨y00, y01, y02, y03, y04, y05, y06, y07, y08, y09, y010, y011⟩ := row12 Ry0
  (try clear a10 a11); obtain ⟨a10, a11⟩ := row2 Ra1
  (try clear y10 y11 y12 y13 y14 y15 y16 y17 y18 y19 y110 y111); obtain ⟨y10, y11, y12, y13, y14, y15, y16, y17, y18, y19, y110, y111⟩ := row12 Ry1
  generalize (World.alloc w8 (.cells #[Value.int .i64 x1.a0, Value.int .i64 x1.a1, Value.int .i64 x1.k0.kind, Value.int .i64 x1.k0.len, Value.int .u64 x1.k0.h, Value.int .u64 x1.k0.l, Value.string ⟨x1.k0.path.toArray⟩, Value.int .i64 x1.k1.kind, Value.int .i64 x1.k1.len, Value.int .u64 x1.k1.h, Value.int .u64 x1.k1.l, Value.string ⟨x1.k1.path.toArray⟩] 33)) = w9 at *
  rw [rounds_succ]
  go_wp2
  go_ret
  exact ⟨_, rfl, XS.nil _, hb0⟩
set_option maxRecDepth 100000 in
set_option maxHeartbeats 32000000 in
theorem parents_01 (s : Sp) (p x0 x1 : Px)
    (HR : ∀ w, Calls Try.prog 20 #[sv s, pv p] w fun e w' => e = .returned (.bool true) ∧ Below w.heap.size w w')
    (HU0 : ∀ w, Calls Try.prog 26 #[sv s, pv p, .agg #[.int .i64 (p.a0 + 1), .int .i64 p.a1]] w fun e w' => e = .returned (pv x0) ∧ Below w.heap.size w w')
    (HU1 : ∀ w, Calls Try.prog 26 #[sv s, pv p, .agg #[.int .i64 p.a0, .int .i64 (p.a1 + 1)]] w fun e w' => e = .returned (pv x1) ∧ Below w.heap.size w w')
    (w0 : IntKind.i64.wrap (p.a0 + 1) = p.a0 + 1) (w1 : IntKind.i64.wrap (p.a1 + 1) = p.a1 + 1)
    (hn0 : decide (x0 = pz) = true)
    (hn1 : decide (x1 = pz) = false) (w : World) :
    Calls Try.prog 49 #[sv s, pv p] w fun e w' => ∃ v, e = .returned v ∧ XS w' v [x1] ∧ Below w.heap.size w w' := by
  have nq0 := neq_px x0 pz
  rw [hn0] at nq0
  have nq1 := neq_px x1 pz
  rw [hn1] at nq1
  clear hn0 hn1
  have e0 : pv pz = .agg #[.int .i64 0, .int .i64 0, .int .i64 0, .int .i64 0, .int .u64 0, .int .u64 0, .string ⟨#[]⟩, .int .i64 0, .int .i64 0, .int .u64 0, .int .u64 0, .string ⟨#[]⟩] := rfl
  unfold pz kz at *
  unfold sv pv at *
  (try unfold kv at *)
  (try dsimp only at *)
  obtain ⟨Rc, Rd, hb0⟩ := two_rows w #[.int .i64 s.n, .int .i64 s.d0.kind, .int .i64 s.d0.side, .int .i64 s.d0.step, .int .i64 s.d1.kind, .int .i64 s.d1.side, .int .i64 s.d1.step] #[.int .i64 p.a0, .int .i64 p.a1, .int .i64 p.k0.kind, .int .i64 p.k0.len, .int .u64 p.k0.h, .int .u64 p.k0.l, .string ⟨p.k0.path.toArray⟩, .int .i64 p.k1.kind, .int .i64 p.k1.len, .int .u64 p.k1.h, .int .u64 p.k1.l, .string ⟨p.k1.path.toArray⟩] 26 33
  (try clear c0 c1 c2 c3 c4 c5 c6); obtain ⟨c0, c1, c2, c3, c4, c5, c6⟩ := row7 Rc
  (try clear d0 d1 d2 d3 d4 d5 d6 d7 d8 d9 d10 d11); obtain ⟨d0, d1, d2, d3, d4, d5, d6, d7, d8, d9, d10, d11⟩ := row12 Rd
  go_enter Try.func49, Try.ntmps49
  clear e0
  go_wp2_with fail
  refine (HR _).mono ?_
  rintro e w1 ⟨rfl, hb⟩
  replace Rc := Rc.later hb
  replace Rd := Rd.later hb
  replace hb0 := below_step hb0 hb
  clear hb
  have lc := Rc.lt
  have ld := Rd.lt
  (try clear c0 c1 c2 c3 c4 c5 c6); obtain ⟨c0, c1, c2, c3, c4, c5, c6⟩ := row7 Rc
  (try clear d0 d1 d2 d3 d4 d5 d6 d7 d8 d9 d10 d11); obtain ⟨d0, d1, d2, d3, d4, d5, d6, d7, d8, d9, d10, d11⟩ := row12 Rd
  go_wp2_with fail
  refine wp_loop_rounds 3 ?_
  rw [rounds_succ]
  go_upto_region 8 with fail
  have na0c := Rc.lt
  have na0d := Rd.lt
  replace Rc := Rc.alloc (.cells #[Value.int .i64 p.a0, Value.int .i64 p.a1] 27)
  replace Rd := Rd.alloc (.cells #[Value.int .i64 p.a0, Value.int .i64 p.a1] 27)
  have Ra0 := Row.new w1 #[Value.int .i64 p.a0, Value.int .i64 p.a1] 27
  have ma0 := hb0.size
  replace hb0 := hb0.alloc hb0.size (.cells #[Value.int .i64 p.a0, Value.int .i64 p.a1] 27)
  (try clear c0 c1 c2 c3 c4 c5 c6); obtain ⟨c0, c1, c2, c3, c4, c5, c6⟩ := row7 Rc
  (try clear d0 d1 d2 d3 d4 d5 d6 d7 d8 d9 d10 d11); obtain ⟨d0, d1, d2, d3, d4, d5, d6, d7, d8, d9, d10, d11⟩ := row12 Rd
  (try clear a00 a01); obtain ⟨a00, a01⟩ := row2 Ra0
  generalize (World.alloc w1 (.cells #[Value.int .i64 p.a0, Value.int .i64 p.a1] 27)) = w2 at *
  have a0f0 := Ra0.frozen 0
  have a0f1 := Ra0.frozen 1
  go_upto_region 9 with fail
  obtain ⟨w3, hwn⟩ : ∃ wz, wz = (World.setCell w2 ⟨w1.heap.size, 0, none⟩ (.int .i64 (p.a0 + 1))) := ⟨_, rfl⟩
  rw [← hwn]
  replace hwn : w3 = World.setCells w2 w1.heap.size 0 [.int .i64 (p.a0 + 1)] := hwn
  replace Ra0 : Row w3 w1.heap.size #[.int .i64 (p.a0 + 1), .int .i64 p.a1] 27 := psm hwn Ra0 (by simp [setL])
  replace Rc := prf hwn Rc
  replace Rd := prf hwn Rd
  replace hb0 := pbl hwn hb0
  clear hwn c0 c1 c2 c3 c4 c5 c6 d0 d1 d2 d3 d4 d5 d6 d7 d8 d9 d10 d11 a00 a01
  (try clear a0f0 a0f1)
  (try clear c0 c1 c2 c3 c4 c5 c6); obtain ⟨c0, c1, c2, c3, c4, c5, c6⟩ := row7 Rc
  (try clear d0 d1 d2 d3 d4 d5 d6 d7 d8 d9 d10 d11); obtain ⟨d0, d1, d2, d3, d4, d5, d6, d7, d8, d9, d10, d11⟩ := row12 Rd
  (try clear a00 a01); obtain ⟨a00, a01⟩ := row2 Ra0
  go_wp2_with fail
  refine (HU0 _).mono ?_
  rintro e w4 ⟨rfl, hb⟩
  replace Rc := Rc.later hb
  replace Rd := Rd.later hb
  replace Ra0 := Ra0.later hb
  replace hb0 := below_step hb0 hb
  clear hb
  have lc := Rc.lt
  have ld := Rd.lt
  have la0 := Ra0.lt
  (try clear c0 c1 c2 c3 c4 c5 c6); obtain ⟨c0, c1, c2, c3, c4, c5, c6⟩ := row7 Rc
  (try clear d0 d1 d2 d3 d4 d5 d6 d7 d8 d9 d10 d11); obtain ⟨d0, d1, d2, d3, d4, d5, d6, d7, d8, d9, d10, d11⟩ := row12 Rd
  (try clear a00 a01); obtain ⟨a00, a01⟩ := row2 Ra0
  go_wp2_with fail
  have ny0c := Rc.lt
  have ny0d := Rd.lt
  have ny0a0 := Ra0.lt
  replace Rc := Rc.alloc (.cells #[Value.int .i64 x0.a0, Value.int .i64 x0.a1, Value.int .i64 x0.k0.kind, Value.int .i64 x0.k0.len, Value.int .u64 x0.k0.h, Value.int .u64 x0.k0.l, Value.string ⟨x0.k0.path.toArray⟩, Value.int .i64 x0.k1.kind, Value.int .i64 x0.k1.len, Value.int .u64 x0.k1.h, Value.int .u64 x0.k1.l, Value.string ⟨x0.k1.path.toArray⟩] 33)
  replace Rd := Rd.alloc (.cells #[Value.int .i64 x0.a0, Value.int .i64 x0.a1, Value.int .i64 x0.k0.kind, Value.int .i64 x0.k0.len, Value.int .u64 x0.k0.h, Value.int .u64 x0.k0.l, Value.string ⟨x0.k0.path.toArray⟩, Value.int .i64 x0.k1.kind, Value.int .i64 x0.k1.len, Value.int .u64 x0.k1.h, Value.int .u64 x0.k1.l, Value.string ⟨x0.k1.path.toArray⟩] 33)
  replace Ra0 := Ra0.alloc (.cells #[Value.int .i64 x0.a0, Value.int .i64 x0.a1, Value.int .i64 x0.k0.kind, Value.int .i64 x0.k0.len, Value.int .u64 x0.k0.h, Value.int .u64 x0.k0.l, Value.string ⟨x0.k0.path.toArray⟩, Value.int .i64 x0.k1.kind, Value.int .i64 x0.k1.len, Value.int .u64 x0.k1.h, Value.int .u64 x0.k1.l, Value.string ⟨x0.k1.path.toArray⟩] 33)
  have Ry0 := Row.new w4 #[Value.int .i64 x0.a0, Value.int .i64 x0.a1, Value.int .i64 x0.k0.kind, Value.int .i64 x0.k0.len, Value.int .u64 x0.k0.h, Value.int .u64 x0.k0.l, Value.string ⟨x0.k0.path.toArray⟩, Value.int .i64 x0.k1.kind, Value.int .i64 x0.k1.len, Value.int .u64 x0.k1.h, Value.int .u64 x0.k1.l, Value.string ⟨x0.k1.path.toArray⟩] 33
  have my0 := hb0.size
  replace hb0 := hb0.alloc hb0.size (.cells #[Value.int .i64 x0.a0, Value.int .i64 x0.a1, Value.int .i64 x0.k0.kind, Value.int .i64 x0.k0.len, Value.int .u64 x0.k0.h, Value.int .u64 x0.k0.l, Value.string ⟨x0.k0.path.toArray⟩, Value.int .i64 x0.k1.kind, Value.int .i64 x0.k1.len, Value.int .u64 x0.k1.h, Value.int .u64 x0.k1.l, Value.string ⟨x0.k1.path.toArray⟩] 33)
  (try clear c0 c1 c2 c3 c4 c5 c6); obtain ⟨c0, c1, c2, c3, c4, c5, c6⟩ := row7 Rc
  (try clear d0 d1 d2 d3 d4 d5 d6 d7 d8 d9 d10 d11); obtain ⟨d0, d1, d2, d3, d4, d5, d6, d7, d8, d9, d10, d11⟩ := row12 Rd
  (try clear a00 a01); obtain ⟨a00, a01⟩ := row2 Ra0
  (try clear y00 y01 y02 y03 y04 y05 y06 y07 y08 y09 y010 y011); obtain ⟨y00, y01, y02, y03, y04, y05, y06, y07, y08, y09, y010, y011⟩ := row12 Ry0
  generalize (World.alloc w4 (.cells #[Value.int .i64 x0.a0, Value.int .i64 x0.a1, Value.int .i64 x0.k0.kind, Value.int .i64 x0.k0.len, Value.int .u64 x0.k0.h, Value.int .u64 x0.k0.l, Value.string ⟨x0.k0.path.toArray⟩, Value.int .i64 x0.k1.kind, Value.int .i64 x0.k1.len, Value.int .u64 x0.k1.h, Value.int .u64 x0.k1.l, Value.string ⟨x0.k1.path.toArray⟩] 33)) = w5 at *
  rw [rounds_succ]
  go_upto_region 8 with fail
  have na1c := Rc.lt
  have na1d := Rd.lt
  have na1a0 := Ra0.lt
  have na1y0 := Ry0.lt
  replace Rc := Rc.alloc (.cells #[Value.int .i64 p.a0, Value.int .i64 p.a1] 27)
  replace Rd := Rd.alloc (.cells #[Value.int .i64 p.a0, Value.int .i64 p.a1] 27)
  replace Ra0 := Ra0.alloc (.cells #[Value.int .i64 p.a0, Value.int .i64 p.a1] 27)
  replace Ry0 := Ry0.alloc (.cells #[Value.int .i64 p.a0, Value.int .i64 p.a1] 27)
  have Ra1 := Row.new w5 #[Value.int .i64 p.a0, Value.int .i64 p.a1] 27
  have ma1 := hb0.size
  replace hb0 := hb0.alloc hb0.size (.cells #[Value.int .i64 p.a0, Value.int .i64 p.a1] 27)
  (try clear c0 c1 c2 c3 c4 c5 c6); obtain ⟨c0, c1, c2, c3, c4, c5, c6⟩ := row7 Rc
  (try clear d0 d1 d2 d3 d4 d5 d6 d7 d8 d9 d10 d11); obtain ⟨d0, d1, d2, d3, d4, d5, d6, d7, d8, d9, d10, d11⟩ := row12 Rd
  (try clear a00 a01); obtain ⟨a00, a01⟩ := row2 Ra0
  (try clear y00 y01 y02 y03 y04 y05 y06 y07 y08 y09 y010 y011); obtain ⟨y00, y01, y02, y03, y04, y05, y06, y07, y08, y09, y010, y011⟩ := row12 Ry0
  (try clear a10 a11); obtain ⟨a10, a11⟩ := row2 Ra1
  generalize (World.alloc w5 (.cells #[Value.int .i64 p.a0, Value.int .i64 p.a1] 27)) = w6 at *
  have a1f0 := Ra1.frozen 0
  have a1f1 := Ra1.frozen 1
  go_upto_region 9 with fail
  obtain ⟨w7, hwn⟩ : ∃ wz, wz = (World.setCell w6 ⟨w5.heap.size, 1, none⟩ (.int .i64 (p.a1 + 1))) := ⟨_, rfl⟩
  rw [← hwn]
  replace hwn : w7 = World.setCells w6 w5.heap.size 1 [.int .i64 (p.a1 + 1)] := hwn
  replace Ra1 : Row w7 w5.heap.size #[.int .i64 p.a0, .int .i64 (p.a1 + 1)] 27 := psm hwn Ra1 (by simp [setL])
  replace Rc := prf hwn Rc
  replace Rd := prf hwn Rd
  replace Ra0 := prf hwn Ra0
  replace Ry0 := prf hwn Ry0
  replace hb0 := pbl hwn hb0
  clear hwn c0 c1 c2 c3 c4 c5 c6 d0 d1 d2 d3 d4 d5 d6 d7 d8 d9 d10 d11 a00 a01 y00 y01 y02 y03 y04 y05 y06 y07 y08 y09 y010 y011 a10 a11
  (try clear a1f0 a1f1)
  (try clear c0 c1 c2 c3 c4 c5 c6); obtain ⟨c0, c1, c2, c3, c4, c5, c6⟩ := row7 Rc
  (try clear d0 d1 d2 d3 d4 d5 d6 d7 d8 d9 d10 d11); obtain ⟨d0, d1, d2, d3, d4, d5, d6, d7, d8, d9, d10, d11⟩ := row12 Rd
  (try clear a00 a01); obtain ⟨a00, a01⟩ := row2 Ra0
  (try clear y00 y01 y02 y03 y04 y05 y06 y07 y08 y09 y010 y011); obtain ⟨y00, y01, y02, y03, y04, y05, y06, y07, y08, y09, y010, y011⟩ := row12 Ry0
  (try clear a10 a11); obtain ⟨a10, a11⟩ := row2 Ra1
  go_wp2_with fail
  refine (HU1 _).mono ?_
  rintro e w8 ⟨rfl, hb⟩
  replace Rc := Rc.later hb
  replace Rd := Rd.later hb
  replace Ra0 := Ra0.later hb
  replace Ry0 := Ry0.later hb
  replace Ra1 := Ra1.later hb
  replace hb0 := below_step hb0 hb
  clear hb
  have lc := Rc.lt
  have ld := Rd.lt
  have la0 := Ra0.lt
  have ly0 := Ry0.lt
  have la1 := Ra1.lt
  (try clear c0 c1 c2 c3 c4 c5 c6); obtain ⟨c0, c1, c2, c3, c4, c5, c6⟩ := row7 Rc
  (try clear d0 d1 d2 d3 d4 d5 d6 d7 d8 d9 d10 d11); obtain ⟨d0, d1, d2, d3, d4, d5, d6, d7, d8, d9, d10, d11⟩ := row12 Rd
  (try clear a00 a01); obtain ⟨a00, a01⟩ := row2 Ra0
  (try clear y00 y01 y02 y03 y04 y05 y06 y07 y08 y09 y010 y011); obtain ⟨y00, y01, y02, y03, y04, y05, y06, y07, y08, y09, y010, y011⟩ := row12 Ry0
  (try clear a10 a11); obtain ⟨a10, a11⟩ := row2 Ra1
  go_upto_region 11 with fail
  have ny1c := Rc.lt
  have ny1d := Rd.lt
  have ny1a0 := Ra0.lt
  have ny1y0 := Ry0.lt
  have ny1a1 := Ra1.lt
  replace Rc := Rc.alloc (.cells #[Value.int .i64 x1.a0, Value.int .i64 x1.a1, Value.int .i64 x1.k0.kind, Value.int .i64 x1.k0.len, Value.int .u64 x1.k0.h, Value.int .u64 x1.k0.l, Value.string ⟨x1.k0.path.toArray⟩, Value.int .i64 x1.k1.kind, Value.int .i64 x1.k1.len, Value.int .u64 x1.k1.h, Value.int .u64 x1.k1.l, Value.string ⟨x1.k1.path.toArray⟩] 33)
  replace Rd := Rd.alloc (.cells #[Value.int .i64 x1.a0, Value.int .i64 x1.a1, Value.int .i64 x1.k0.kind, Value.int .i64 x1.k0.len, Value.int .u64 x1.k0.h, Value.int .u64 x1.k0.l, Value.string ⟨x1.k0.path.toArray⟩, Value.int .i64 x1.k1.kind, Value.int .i64 x1.k1.len, Value.int .u64 x1.k1.h, Value.int .u64 x1.k1.l, Value.string ⟨x1.k1.path.toArray⟩] 33)
  replace Ra0 := Ra0.alloc (.cells #[Value.int .i64 x1.a0, Value.int .i64 x1.a1, Value.int .i64 x1.k0.kind, Value.int .i64 x1.k0.len, Value.int .u64 x1.k0.h, Value.int .u64 x1.k0.l, Value.string ⟨x1.k0.path.toArray⟩, Value.int .i64 x1.k1.kind, Value.int .i64 x1.k1.len, Value.int .u64 x1.k1.h, Value.int .u64 x1.k1.l, Value.string ⟨x1.k1.path.toArray⟩] 33)
  replace Ry0 := Ry0.alloc (.cells #[Value.int .i64 x1.a0, Value.int .i64 x1.a1, Value.int .i64 x1.k0.kind, Value.int .i64 x1.k0.len, Value.int .u64 x1.k0.h, Value.int .u64 x1.k0.l, Value.string ⟨x1.k0.path.toArray⟩, Value.int .i64 x1.k1.kind, Value.int .i64 x1.k1.len, Value.int .u64 x1.k1.h, Value.int .u64 x1.k1.l, Value.string ⟨x1.k1.path.toArray⟩] 33)
  replace Ra1 := Ra1.alloc (.cells #[Value.int .i64 x1.a0, Value.int .i64 x1.a1, Value.int .i64 x1.k0.kind, Value.int .i64 x1.k0.len, Value.int .u64 x1.k0.h, Value.int .u64 x1.k0.l, Value.string ⟨x1.k0.path.toArray⟩, Value.int .i64 x1.k1.kind, Value.int .i64 x1.k1.len, Value.int .u64 x1.k1.h, Value.int .u64 x1.k1.l, Value.string ⟨x1.k1.path.toArray⟩] 33)
  have Ry1 := Row.new w8 #[Value.int .i64 x1.a0, Value.int .i64 x1.a1, Value.int .i64 x1.k0.kind, Value.int .i64 x1.k0.len, Value.int .u64 x1.k0.h, Value.int .u64 x1.k0.l, Value.string ⟨x1.k0.path.toArray⟩, Value.int .i64 x1.k1.kind, Value.int .i64 x1.k1.len, Value.int .u64 x1.k1.h, Value.int .u64 x1.k1.l, Value.string ⟨x1.k1.path.toArray⟩] 33
  have my1 := hb0.size
  replace hb0 := hb0.alloc hb0.size (.cells #[Value.int .i64 x1.a0, Value.int .i64 x1.a1, Value.int .i64 x1.k0.kind, Value.int .i64 x1.k0.len, Value.int .u64 x1.k0.h, Value.int .u64 x1.k0.l, Value.string ⟨x1.k0.path.toArray⟩, Value.int .i64 x1.k1.kind, Value.int .i64 x1.k1.len, Value.int .u64 x1.k1.h, Value.int .u64 x1.k1.l, Value.string ⟨x1.k1.path.toArray⟩] 33)
  (try clear c0 c1 c2 c3 c4 c5 c6); obtain ⟨c0, c1, c2, c3, c4, c5, c6⟩ := row7 Rc
  (try clear d0 d1 d2 d3 d4 d5 d6 d7 d8 d9 d10 d11); obtain ⟨d0, d1, d2, d3, d4, d5, d6, d7, d8, d9, d10, d11⟩ := row12 Rd
  (try clear a00 a01); obtain ⟨a00, a01⟩ := row2 Ra0
  (try clear y00 y01 y02 y03 y04 y05 y06 y07 y08 y09 y010 y011); obtain ⟨y00, y01, y02, y03, y04, y05, y06, y07, y08, y09, y010, y011⟩ := row12 Ry0
  (try clear a10 a11); obtain ⟨a10, a11⟩ := row2 Ra1
  (try clear y10 y11 y12 y13 y14 y15 y16 y17 y18 y19 y110 y111); obtain ⟨y10, y11, y12, y13, y14, y15, y16, y17, y18, y19, y110, y111⟩ := row12 Ry1
  generalize (World.alloc w8 (.cells #[Value.int .i64 x1.a0, Value.int .i64 x1.a1, Value.int .i64 x1.k0.kind, Value.int .i64 x1.k0.len, Value.int .u64 x1.k0.h, Value.int .u64 x1.k0.l, Value.string ⟨x1.k0.path.toArray⟩, Value.int .i64 x1.k1.kind, Value.int .i64 x1.k1.len, Value.int .u64 x1.k1.h, Value.int .u64 x1.k1.l, Value.string ⟨x1.k1.path.toArray⟩] 33)) = w9 at *
  have HO := OwnX.nil (w.heap.size + 2) w9
  have lcz := Rc.lt
  have ldz := Rd.lt
  have hszz := hb0.size
  obtain ⟨v', wA, hrun, hown, hgrow⟩ := appX_one x1 HO (by simp) (by omega)
  obtain ⟨_, hown⟩ := hown
  replace hown : (v' = .slice none 0 0 ∧ 1 = 0) ∨ ∃ g cap cur, v' = .slice (some ⟨g, 0, none⟩) 1 cap ∧ w.heap.size + 2 ≤ g ∧ wA.heap[g]? = some (.cells cur 33 (0, 0)) ∧ 1 ≤ cap ∧ cap ≤ maxLen ∧ cur.size = cap * 12 ∧ cur.toList.take (1 * 12) = valsX [x1] := hown
  replace hb0 := hb0.trans ((appX_below HO (Below.refl (w.heap.size + 2) _) (by omega) hgrow).mono (by omega))
  replace Rc := rowX_app2 HO hgrow Rc (by decide)
  replace Rd := rowX_app3 HO hgrow Rd (by omega)
  have HRUN := Lib.hid hrun
  clear c0 c1 c2 c3 c4 c5 c6 d0 d1 d2 d3 d4 d5 d6 d7 d8 d9 d10 d11 a00 a01 y00 y01 y02 y03 y04 y05 y06 y07 y08 y09 y010 y011 a10 a11 Ra0 Ry0 Ra1 Ry1 HO hrun hgrow
  obtain ⟨_, hbad⟩ | ⟨go, co, cuo, rfl, o1, Ro, o2, o3, o4, o5⟩ := hown
  · cases hbad
  replace Ro : Row _ go cuo 33 := Ro
  have tok : True := trivial
  go_wp2_with (have _t := tok; at_builtin; refine wpList_appS rfl (.tmp 30) (.tmp 32) 60 rfl rfl rfl HRUN.out ?_; clear tok HRUN)
  (try clear y10 y11 y12 y13 y14 y15 y16 y17 y18 y19 y110 y111)
  rename World => w10
  have lc := Rc.lt
  have ld := Rd.lt
  have lo := Ro.lt
  (try clear c0 c1 c2 c3 c4 c5 c6); obtain ⟨c0, c1, c2, c3, c4, c5, c6⟩ := row7 Rc
  (try clear d0 d1 d2 d3 d4 d5 d6 d7 d8 d9 d10 d11); obtain ⟨d0, d1, d2, d3, d4, d5, d6, d7, d8, d9, d10, d11⟩ := row12 Rd
  rw [rounds_succ]
  have HFX := Lib.hid (OwnX.read (show OwnX (w.heap.size + 2) _ (.slice (some ⟨go, 0, none⟩) 1 co) [x1] from ⟨rfl, .inr ⟨go, co, cuo, rfl, o1, Ro, o2, o3, o4, o5⟩⟩))
  go_wp2
  go_ret
  exact ⟨_, rfl, HFX.out, hb0⟩
set_option maxRecDepth 100000 in
set_option maxHeartbeats 32000000 in
theorem parents_10 (s : Sp) (p x0 x1 : Px)
    (HR : ∀ w, Calls Try.prog 20 #[sv s, pv p] w fun e w' => e = .returned (.bool true) ∧ Below w.heap.size w w')
    (HU0 : ∀ w, Calls Try.prog 26 #[sv s, pv p, .agg #[.int .i64 (p.a0 + 1), .int .i64 p.a1]] w fun e w' => e = .returned (pv x0) ∧ Below w.heap.size w w')
    (HU1 : ∀ w, Calls Try.prog 26 #[sv s, pv p, .agg #[.int .i64 p.a0, .int .i64 (p.a1 + 1)]] w fun e w' => e = .returned (pv x1) ∧ Below w.heap.size w w')
    (w0 : IntKind.i64.wrap (p.a0 + 1) = p.a0 + 1) (w1 : IntKind.i64.wrap (p.a1 + 1) = p.a1 + 1)
    (hn0 : decide (x0 = pz) = false)
    (hn1 : decide (x1 = pz) = true) (w : World) :
    Calls Try.prog 49 #[sv s, pv p] w fun e w' => ∃ v, e = .returned v ∧ XS w' v [x0] ∧ Below w.heap.size w w' := by
  have nq0 := neq_px x0 pz
  rw [hn0] at nq0
  have nq1 := neq_px x1 pz
  rw [hn1] at nq1
  clear hn0 hn1
  have e0 : pv pz = .agg #[.int .i64 0, .int .i64 0, .int .i64 0, .int .i64 0, .int .u64 0, .int .u64 0, .string ⟨#[]⟩, .int .i64 0, .int .i64 0, .int .u64 0, .int .u64 0, .string ⟨#[]⟩] := rfl
  unfold pz kz at *
  unfold sv pv at *
  (try unfold kv at *)
  (try dsimp only at *)
  obtain ⟨Rc, Rd, hb0⟩ := two_rows w #[.int .i64 s.n, .int .i64 s.d0.kind, .int .i64 s.d0.side, .int .i64 s.d0.step, .int .i64 s.d1.kind, .int .i64 s.d1.side, .int .i64 s.d1.step] #[.int .i64 p.a0, .int .i64 p.a1, .int .i64 p.k0.kind, .int .i64 p.k0.len, .int .u64 p.k0.h, .int .u64 p.k0.l, .string ⟨p.k0.path.toArray⟩, .int .i64 p.k1.kind, .int .i64 p.k1.len, .int .u64 p.k1.h, .int .u64 p.k1.l, .string ⟨p.k1.path.toArray⟩] 26 33
  (try clear c0 c1 c2 c3 c4 c5 c6); obtain ⟨c0, c1, c2, c3, c4, c5, c6⟩ := row7 Rc
  (try clear d0 d1 d2 d3 d4 d5 d6 d7 d8 d9 d10 d11); obtain ⟨d0, d1, d2, d3, d4, d5, d6, d7, d8, d9, d10, d11⟩ := row12 Rd
  go_enter Try.func49, Try.ntmps49
  clear e0
  go_wp2_with fail
  refine (HR _).mono ?_
  rintro e w1 ⟨rfl, hb⟩
  replace Rc := Rc.later hb
  replace Rd := Rd.later hb
  replace hb0 := below_step hb0 hb
  clear hb
  have lc := Rc.lt
  have ld := Rd.lt
  (try clear c0 c1 c2 c3 c4 c5 c6); obtain ⟨c0, c1, c2, c3, c4, c5, c6⟩ := row7 Rc
  (try clear d0 d1 d2 d3 d4 d5 d6 d7 d8 d9 d10 d11); obtain ⟨d0, d1, d2, d3, d4, d5, d6, d7, d8, d9, d10, d11⟩ := row12 Rd
  go_wp2_with fail
  refine wp_loop_rounds 3 ?_
  rw [rounds_succ]
  go_upto_region 8 with fail
  have na0c := Rc.lt
  have na0d := Rd.lt
  replace Rc := Rc.alloc (.cells #[Value.int .i64 p.a0, Value.int .i64 p.a1] 27)
  replace Rd := Rd.alloc (.cells #[Value.int .i64 p.a0, Value.int .i64 p.a1] 27)
  have Ra0 := Row.new w1 #[Value.int .i64 p.a0, Value.int .i64 p.a1] 27
  have ma0 := hb0.size
  replace hb0 := hb0.alloc hb0.size (.cells #[Value.int .i64 p.a0, Value.int .i64 p.a1] 27)
  (try clear c0 c1 c2 c3 c4 c5 c6); obtain ⟨c0, c1, c2, c3, c4, c5, c6⟩ := row7 Rc
  (try clear d0 d1 d2 d3 d4 d5 d6 d7 d8 d9 d10 d11); obtain ⟨d0, d1, d2, d3, d4, d5, d6, d7, d8, d9, d10, d11⟩ := row12 Rd
  (try clear a00 a01); obtain ⟨a00, a01⟩ := row2 Ra0
  generalize (World.alloc w1 (.cells #[Value.int .i64 p.a0, Value.int .i64 p.a1] 27)) = w2 at *
  have a0f0 := Ra0.frozen 0
  have a0f1 := Ra0.frozen 1
  go_upto_region 9 with fail
  obtain ⟨w3, hwn⟩ : ∃ wz, wz = (World.setCell w2 ⟨w1.heap.size, 0, none⟩ (.int .i64 (p.a0 + 1))) := ⟨_, rfl⟩
  rw [← hwn]
  replace hwn : w3 = World.setCells w2 w1.heap.size 0 [.int .i64 (p.a0 + 1)] := hwn
  replace Ra0 : Row w3 w1.heap.size #[.int .i64 (p.a0 + 1), .int .i64 p.a1] 27 := psm hwn Ra0 (by simp [setL])
  replace Rc := prf hwn Rc
  replace Rd := prf hwn Rd
  replace hb0 := pbl hwn hb0
  clear hwn c0 c1 c2 c3 c4 c5 c6 d0 d1 d2 d3 d4 d5 d6 d7 d8 d9 d10 d11 a00 a01
  (try clear a0f0 a0f1)
  (try clear c0 c1 c2 c3 c4 c5 c6); obtain ⟨c0, c1, c2, c3, c4, c5, c6⟩ := row7 Rc
  (try clear d0 d1 d2 d3 d4 d5 d6 d7 d8 d9 d10 d11); obtain ⟨d0, d1, d2, d3, d4, d5, d6, d7, d8, d9, d10, d11⟩ := row12 Rd
  (try clear a00 a01); obtain ⟨a00, a01⟩ := row2 Ra0
  go_wp2_with fail
  refine (HU0 _).mono ?_
  rintro e w4 ⟨rfl, hb⟩
  replace Rc := Rc.later hb
  replace Rd := Rd.later hb
  replace Ra0 := Ra0.later hb
  replace hb0 := below_step hb0 hb
  clear hb
  have lc := Rc.lt
  have ld := Rd.lt
  have la0 := Ra0.lt
  (try clear c0 c1 c2 c3 c4 c5 c6); obtain ⟨c0, c1, c2, c3, c4, c5, c6⟩ := row7 Rc
  (try clear d0 d1 d2 d3 d4 d5 d6 d7 d8 d9 d10 d11); obtain ⟨d0, d1, d2, d3, d4, d5, d6, d7, d8, d9, d10, d11⟩ := row12 Rd
  (try clear a00 a01); obtain ⟨a00, a01⟩ := row2 Ra0
  go_upto_region 11 with fail
  have ny0c := Rc.lt
  have ny0d := Rd.lt
  have ny0a0 := Ra0.lt
  replace Rc := Rc.alloc (.cells #[Value.int .i64 x0.a0, Value.int .i64 x0.a1, Value.int .i64 x0.k0.kind, Value.int .i64 x0.k0.len, Value.int .u64 x0.k0.h, Value.int .u64 x0.k0.l, Value.string ⟨x0.k0.path.toArray⟩, Value.int .i64 x0.k1.kind, Value.int .i64 x0.k1.len, Value.int .u64 x0.k1.h, Value.int .u64 x0.k1.l, Value.string ⟨x0.k1.path.toArray⟩] 33)
  replace Rd := Rd.alloc (.cells #[Value.int .i64 x0.a0, Value.int .i64 x0.a1, Value.int .i64 x0.k0.kind, Value.int .i64 x0.k0.len, Value.int .u64 x0.k0.h, Value.int .u64 x0.k0.l, Value.string ⟨x0.k0.path.toArray⟩, Value.int .i64 x0.k1.kind, Value.int .i64 x0.k1.len, Value.int .u64 x0.k1.h, Value.int .u64 x0.k1.l, Value.string ⟨x0.k1.path.toArray⟩] 33)
  replace Ra0 := Ra0.alloc (.cells #[Value.int .i64 x0.a0, Value.int .i64 x0.a1, Value.int .i64 x0.k0.kind, Value.int .i64 x0.k0.len, Value.int .u64 x0.k0.h, Value.int .u64 x0.k0.l, Value.string ⟨x0.k0.path.toArray⟩, Value.int .i64 x0.k1.kind, Value.int .i64 x0.k1.len, Value.int .u64 x0.k1.h, Value.int .u64 x0.k1.l, Value.string ⟨x0.k1.path.toArray⟩] 33)
  have Ry0 := Row.new w4 #[Value.int .i64 x0.a0, Value.int .i64 x0.a1, Value.int .i64 x0.k0.kind, Value.int .i64 x0.k0.len, Value.int .u64 x0.k0.h, Value.int .u64 x0.k0.l, Value.string ⟨x0.k0.path.toArray⟩, Value.int .i64 x0.k1.kind, Value.int .i64 x0.k1.len, Value.int .u64 x0.k1.h, Value.int .u64 x0.k1.l, Value.string ⟨x0.k1.path.toArray⟩] 33
  have my0 := hb0.size
  replace hb0 := hb0.alloc hb0.size (.cells #[Value.int .i64 x0.a0, Value.int .i64 x0.a1, Value.int .i64 x0.k0.kind, Value.int .i64 x0.k0.len, Value.int .u64 x0.k0.h, Value.int .u64 x0.k0.l, Value.string ⟨x0.k0.path.toArray⟩, Value.int .i64 x0.k1.kind, Value.int .i64 x0.k1.len, Value.int .u64 x0.k1.h, Value.int .u64 x0.k1.l, Value.string ⟨x0.k1.path.toArray⟩] 33)
  (try clear c0 c1 c2 c3 c4 c5 c6); obtain ⟨c0, c1, c2, c3, c4, c5, c6⟩ := row7 Rc
  (try clear d0 d1 d2 d3 d4 d5 d6 d7 d8 d9 d10 d11); obtain ⟨d0, d1, d2, d3, d4, d5, d6, d7, d8, d9, d10, d11⟩ := row12 Rd
  (try clear a00 a01); obtain ⟨a00, a01⟩ := row2 Ra0
  (try clear y00 y01 y02 y03 y04 y05 y06 y07 y08 y09 y010 y011); obtain ⟨y00, y01, y02, y03, y04, y05, y06, y07, y08, y09, y010, y011⟩ := row12 Ry0
  generalize (World.alloc w4 (.cells #[Value.int .i64 x0.a0, Value.int .i64 x0.a1, Value.int .i64 x0.k0.kind, Value.int .i64 x0.k0.len, Value.int .u64 x0.k0.h, Value.int .u64 x0.k0.l, Value.string ⟨x0.k0.path.toArray⟩, Value.int .i64 x0.k1.kind, Value.int .i64 x0.k1.len, Value.int .u64 x0.k1.h, Value.int .u64 x0.k1.l, Value.string ⟨x0.k1.path.toArray⟩] 33)) = w5 at *
  have HO := OwnX.nil (w.heap.size + 2) w5
  have lcz := Rc.lt
  have ldz := Rd.lt
  have hszz := hb0.size
  obtain ⟨v', wA, hrun, hown, hgrow⟩ := appX_one x0 HO (by simp) (by omega)
  obtain ⟨_, hown⟩ := hown
  replace hown : (v' = .slice none 0 0 ∧ 1 = 0) ∨ ∃ g cap cur, v' = .slice (some ⟨g, 0, none⟩) 1 cap ∧ w.heap.size + 2 ≤ g ∧ wA.heap[g]? = some (.cells cur 33 (0, 0)) ∧ 1 ≤ cap ∧ cap ≤ maxLen ∧ cur.size = cap * 12 ∧ cur.toList.take (1 * 12) = valsX [x0] := hown
  replace hb0 := hb0.trans ((appX_below HO (Below.refl (w.heap.size + 2) _) (by omega) hgrow).mono (by omega))
  replace Rc := rowX_app2 HO hgrow Rc (by decide)
  replace Rd := rowX_app3 HO hgrow Rd (by omega)
  have HRUN := Lib.hid hrun
  clear c0 c1 c2 c3 c4 c5 c6 d0 d1 d2 d3 d4 d5 d6 d7 d8 d9 d10 d11 a00 a01 Ra0 Ry0 HO hrun hgrow
  obtain ⟨_, hbad⟩ | ⟨go, co, cuo, rfl, o1, Ro, o2, o3, o4, o5⟩ := hown
  · cases hbad
  replace Ro : Row _ go cuo 33 := Ro
  have tok : True := trivial
  go_wp2_with (have _t := tok; at_builtin; refine wpList_appS rfl (.tmp 30) (.tmp 32) 60 rfl rfl rfl HRUN.out ?_; clear tok HRUN)
  (try clear y00 y01 y02 y03 y04 y05 y06 y07 y08 y09 y010 y011)
  rename World => w6
  have lc := Rc.lt
  have ld := Rd.lt
  have lo := Ro.lt
  (try clear c0 c1 c2 c3 c4 c5 c6); obtain ⟨c0, c1, c2, c3, c4, c5, c6⟩ := row7 Rc
  (try clear d0 d1 d2 d3 d4 d5 d6 d7 d8 d9 d10 d11); obtain ⟨d0, d1, d2, d3, d4, d5, d6, d7, d8, d9, d10, d11⟩ := row12 Rd
  rw [rounds_succ]
  go_upto_region 8 with fail
  have na1c := Rc.lt
  have na1d := Rd.lt
  have na1o := Ro.lt
  replace Rc := Rc.alloc (.cells #[Value.int .i64 p.a0, Value.int .i64 p.a1] 27)
  replace Rd := Rd.alloc (.cells #[Value.int .i64 p.a0, Value.int .i64 p.a1] 27)
  replace Ro := Ro.alloc (.cells #[Value.int .i64 p.a0, Value.int .i64 p.a1] 27)
  have Ra1 := Row.new w6 #[Value.int .i64 p.a0, Value.int .i64 p.a1] 27
  have ma1 := hb0.size
  replace hb0 := hb0.alloc hb0.size (.cells #[Value.int .i64 p.a0, Value.int .i64 p.a1] 27)
  (try clear c0 c1 c2 c3 c4 c5 c6); obtain ⟨c0, c1, c2, c3, c4, c5, c6⟩ := row7 Rc
  (try clear d0 d1 d2 d3 d4 d5 d6 d7 d8 d9 d10 d11); obtain ⟨d0, d1, d2, d3, d4, d5, d6, d7, d8, d9, d10, d11⟩ := row12 Rd
  (try clear a10 a11); obtain ⟨a10, a11⟩ := row2 Ra1
  generalize (World.alloc w6 (.cells #[Value.int .i64 p.a0, Value.int .i64 p.a1] 27)) = w7 at *
  have a1f0 := Ra1.frozen 0
  have a1f1 := Ra1.frozen 1
  go_upto_region 9 with fail
  obtain ⟨w8, hwn⟩ : ∃ wz, wz = (World.setCell w7 ⟨w6.heap.size, 1, none⟩ (.int .i64 (p.a1 + 1))) := ⟨_, rfl⟩
  rw [← hwn]
  replace hwn : w8 = World.setCells w7 w6.heap.size 1 [.int .i64 (p.a1 + 1)] := hwn
  replace Ra1 : Row w8 w6.heap.size #[.int .i64 p.a0, .int .i64 (p.a1 + 1)] 27 := psm hwn Ra1 (by simp [setL])
  replace Rc := prf hwn Rc
  replace Rd := prf hwn Rd
  replace Ro := prf hwn Ro
  replace hb0 := pbl hwn hb0
  clear hwn c0 c1 c2 c3 c4 c5 c6 d0 d1 d2 d3 d4 d5 d6 d7 d8 d9 d10 d11 a10 a11
  (try clear a1f0 a1f1)
  (try clear c0 c1 c2 c3 c4 c5 c6); obtain ⟨c0, c1, c2, c3, c4, c5, c6⟩ := row7 Rc
  (try clear d0 d1 d2 d3 d4 d5 d6 d7 d8 d9 d10 d11); obtain ⟨d0, d1, d2, d3, d4, d5, d6, d7, d8, d9, d10, d11⟩ := row12 Rd
  (try clear a10 a11); obtain ⟨a10, a11⟩ := row2 Ra1
  go_wp2_with fail
  refine (HU1 _).mono ?_
  rintro e w9 ⟨rfl, hb⟩
  replace Rc := Rc.later hb
  replace Rd := Rd.later hb
  replace Ro := Ro.later hb
  replace Ra1 := Ra1.later hb
  replace hb0 := below_step hb0 hb
  clear hb
  have lc := Rc.lt
  have ld := Rd.lt
  have lo := Ro.lt
  have la1 := Ra1.lt
  (try clear c0 c1 c2 c3 c4 c5 c6); obtain ⟨c0, c1, c2, c3, c4, c5, c6⟩ := row7 Rc
  (try clear d0 d1 d2 d3 d4 d5 d6 d7 d8 d9 d10 d11); obtain ⟨d0, d1, d2, d3, d4, d5, d6, d7, d8, d9, d10, d11⟩ := row12 Rd
  (try clear a10 a11); obtain ⟨a10, a11⟩ := row2 Ra1
  go_wp2_with fail
  have ny1c := Rc.lt
  have ny1d := Rd.lt
  have ny1o := Ro.lt
  have ny1a1 := Ra1.lt
  replace Rc := Rc.alloc (.cells #[Value.int .i64 x1.a0, Value.int .i64 x1.a1, Value.int .i64 x1.k0.kind, Value.int .i64 x1.k0.len, Value.int .u64 x1.k0.h, Value.int .u64 x1.k0.l, Value.string ⟨x1.k0.path.toArray⟩, Value.int .i64 x1.k1.kind, Value.int .i64 x1.k1.len, Value.int .u64 x1.k1.h, Value.int .u64 x1.k1.l, Value.string ⟨x1.k1.path.toArray⟩] 33)
  replace Rd := Rd.alloc (.cells #[Value.int .i64 x1.a0, Value.int .i64 x1.a1, Value.int .i64 x1.k0.kind, Value.int .i64 x1.k0.len, Value.int .u64 x1.k0.h, Value.int .u64 x1.k0.l, Value.string ⟨x1.k0.path.toArray⟩, Value.int .i64 x1.k1.kind, Value.int .i64 x1.k1.len, Value.int .u64 x1.k1.h, Value.int .u64 x1.k1.l, Value.string ⟨x1.k1.path.toArray⟩] 33)
  replace Ro := Ro.alloc (.cells #[Value.int .i64 x1.a0, Value.int .i64 x1.a1, Value.int .i64 x1.k0.kind, Value.int .i64 x1.k0.len, Value.int .u64 x1.k0.h, Value.int .u64 x1.k0.l, Value.string ⟨x1.k0.path.toArray⟩, Value.int .i64 x1.k1.kind, Value.int .i64 x1.k1.len, Value.int .u64 x1.k1.h, Value.int .u64 x1.k1.l, Value.string ⟨x1.k1.path.toArray⟩] 33)
  replace Ra1 := Ra1.alloc (.cells #[Value.int .i64 x1.a0, Value.int .i64 x1.a1, Value.int .i64 x1.k0.kind, Value.int .i64 x1.k0.len, Value.int .u64 x1.k0.h, Value.int .u64 x1.k0.l, Value.string ⟨x1.k0.path.toArray⟩, Value.int .i64 x1.k1.kind, Value.int .i64 x1.k1.len, Value.int .u64 x1.k1.h, Value.int .u64 x1.k1.l, Value.string ⟨x1.k1.path.toArray⟩] 33)
  have Ry1 := Row.new w9 #[Value.int .i64 x1.a0, Value.int .i64 x1.a1, Value.int .i64 x1.k0.kind, Value.int .i64 x1.k0.len, Value.int .u64 x1.k0.h, Value.int .u64 x1.k0.l, Value.string ⟨x1.k0.path.toArray⟩, Value.int .i64 x1.k1.kind, Value.int .i64 x1.k1.len, Value.int .u64 x1.k1.h, Value.int .u64 x1.k1.l, Value.string ⟨x1.k1.path.toArray⟩] 33
  have my1 := hb0.size
  replace hb0 := hb0.alloc hb0.size (.cells #[Value.int .i64 x1.a0, Value.int .i64 x1.a1, Value.int .i64 x1.k0.kind, Value.int .i64 x1.k0.len, Value.int .u64 x1.k0.h, Value.int .u64 x1.k0.l, Value.string ⟨x1.k0.path.toArray⟩, Value.int .i64 x1.k1.kind, Value.int .i64 x1.k1.len, Value.int .u64 x1.k1.h, Value.int .u64 x1.k1.l, Value.string ⟨x1.k1.path.toArray⟩] 33)
  (try clear c0 c1 c2 c3 c4 c5 c6); obtain ⟨c0, c1, c2, c3, c4, c5, c6⟩ := row7 Rc
  (try clear d0 d1 d2 d3 d4 d5 d6 d7 d8 d9 d10 d11); obtain ⟨d0, d1, d2, d3, d4, d5, d6, d7, d8, d9, d10, d11⟩ := row12 Rd
  (try clear a10 a11); obtain ⟨a10, a11⟩ := row2 Ra1
  (try clear y10 y11 y12 y13 y14 y15 y16 y17 y18 y19 y110 y111); obtain ⟨y10, y11, y12, y13, y14, y15, y16, y17, y18, y19, y110, y111⟩ := row12 Ry1
  generalize (World.alloc w9 (.cells #[Value.int .i64 x1.a0, Value.int .i64 x1.a1, Value.int .i64 x1.k0.kind, Value.int .i64 x1.k0.len, Value.int .u64 x1.k0.h, Value.int .u64 x1.k0.l, Value.string ⟨x1.k0.path.toArray⟩, Value.int .i64 x1.k1.kind, Value.int .i64 x1.k1.len, Value.int .u64 x1.k1.h, Value.int .u64 x1.k1.l, Value.string ⟨x1.k1.path.toArray⟩] 33)) = w10 at *
  rw [rounds_succ]
  have HFX := Lib.hid (OwnX.read (show OwnX (w.heap.size + 2) _ (.slice (some ⟨go, 0, none⟩) 1 co) [x0] from ⟨rfl, .inr ⟨go, co, cuo, rfl, o1, Ro, o2, o3, o4, o5⟩⟩))
  go_wp2
  go_ret
  exact ⟨_, rfl, HFX.out, hb0⟩
set_option maxRecDepth 100000 in
set_option maxHeartbeats 32000000 in
theorem parents_11 (s : Sp) (p x0 x1 : Px)
    (HR : ∀ w, Calls Try.prog 20 #[sv s, pv p] w fun e w' => e = .returned (.bool true) ∧ Below w.heap.size w w')
    (HU0 : ∀ w, Calls Try.prog 26 #[sv s, pv p, .agg #[.int .i64 (p.a0 + 1), .int .i64 p.a1]] w fun e w' => e = .returned (pv x0) ∧ Below w.heap.size w w')
    (HU1 : ∀ w, Calls Try.prog 26 #[sv s, pv p, .agg #[.int .i64 p.a0, .int .i64 (p.a1 + 1)]] w fun e w' => e = .returned (pv x1) ∧ Below w.heap.size w w')
    (w0 : IntKind.i64.wrap (p.a0 + 1) = p.a0 + 1) (w1 : IntKind.i64.wrap (p.a1 + 1) = p.a1 + 1)
    (hn0 : decide (x0 = pz) = false)
    (hn1 : decide (x1 = pz) = false) (w : World) :
    Calls Try.prog 49 #[sv s, pv p] w fun e w' => ∃ v, e = .returned v ∧ XS w' v [x0, x1] ∧ Below w.heap.size w w' := by
  have nq0 := neq_px x0 pz
  rw [hn0] at nq0
  have nq1 := neq_px x1 pz
  rw [hn1] at nq1
  clear hn0 hn1
  have e0 : pv pz = .agg #[.int .i64 0, .int .i64 0, .int .i64 0, .int .i64 0, .int .u64 0, .int .u64 0, .string ⟨#[]⟩, .int .i64 0, .int .i64 0, .int .u64 0, .int .u64 0, .string ⟨#[]⟩] := rfl
  unfold pz kz at *
  unfold sv pv at *
  (try unfold kv at *)
  (try dsimp only at *)
  obtain ⟨Rc, Rd, hb0⟩ := two_rows w #[.int .i64 s.n, .int .i64 s.d0.kind, .int .i64 s.d0.side, .int .i64 s.d0.step, .int .i64 s.d1.kind, .int .i64 s.d1.side, .int .i64 s.d1.step] #[.int .i64 p.a0, .int .i64 p.a1, .int .i64 p.k0.kind, .int .i64 p.k0.len, .int .u64 p.k0.h, .int .u64 p.k0.l, .string ⟨p.k0.path.toArray⟩, .int .i64 p.k1.kind, .int .i64 p.k1.len, .int .u64 p.k1.h, .int .u64 p.k1.l, .string ⟨p.k1.path.toArray⟩] 26 33
  (try clear c0 c1 c2 c3 c4 c5 c6); obtain ⟨c0, c1, c2, c3, c4, c5, c6⟩ := row7 Rc
  (try clear d0 d1 d2 d3 d4 d5 d6 d7 d8 d9 d10 d11); obtain ⟨d0, d1, d2, d3, d4, d5, d6, d7, d8, d9, d10, d11⟩ := row12 Rd
  go_enter Try.func49, Try.ntmps49
  clear e0
  go_wp2_with fail
  refine (HR _).mono ?_
  rintro e w1 ⟨rfl, hb⟩
  replace Rc := Rc.later hb
  replace Rd := Rd.later hb
  replace hb0 := below_step hb0 hb
  clear hb
  have lc := Rc.lt
  have ld := Rd.lt
  (try clear c0 c1 c2 c3 c4 c5 c6); obtain ⟨c0, c1, c2, c3, c4, c5, c6⟩ := row7 Rc
  (try clear d0 d1 d2 d3 d4 d5 d6 d7 d8 d9 d10 d11); obtain ⟨d0, d1, d2, d3, d4, d5, d6, d7, d8, d9, d10, d11⟩ := row12 Rd
  go_wp2_with fail
  refine wp_loop_rounds 3 ?_
  rw [rounds_succ]
  go_upto_region 8 with fail
  have na0c := Rc.lt
  have na0d := Rd.lt
  replace Rc := Rc.alloc (.cells #[Value.int .i64 p.a0, Value.int .i64 p.a1] 27)
  replace Rd := Rd.alloc (.cells #[Value.int .i64 p.a0, Value.int .i64 p.a1] 27)
  have Ra0 := Row.new w1 #[Value.int .i64 p.a0, Value.int .i64 p.a1] 27
  have ma0 := hb0.size
  replace hb0 := hb0.alloc hb0.size (.cells #[Value.int .i64 p.a0, Value.int .i64 p.a1] 27)
  (try clear c0 c1 c2 c3 c4 c5 c6); obtain ⟨c0, c1, c2, c3, c4, c5, c6⟩ := row7 Rc
  (try clear d0 d1 d2 d3 d4 d5 d6 d7 d8 d9 d10 d11); obtain ⟨d0, d1, d2, d3, d4, d5, d6, d7, d8, d9, d10, d11⟩ := row12 Rd
  (try clear a00 a01); obtain ⟨a00, a01⟩ := row2 Ra0
  generalize (World.alloc w1 (.cells #[Value.int .i64 p.a0, Value.int .i64 p.a1] 27)) = w2 at *
  have a0f0 := Ra0.frozen 0
  have a0f1 := Ra0.frozen 1
  go_upto_region 9 with fail
  obtain ⟨w3, hwn⟩ : ∃ wz, wz = (World.setCell w2 ⟨w1.heap.size, 0, none⟩ (.int .i64 (p.a0 + 1))) := ⟨_, rfl⟩
  rw [← hwn]
  replace hwn : w3 = World.setCells w2 w1.heap.size 0 [.int .i64 (p.a0 + 1)] := hwn
  replace Ra0 : Row w3 w1.heap.size #[.int .i64 (p.a0 + 1), .int .i64 p.a1] 27 := psm hwn Ra0 (by simp [setL])
  replace Rc := prf hwn Rc
  replace Rd := prf hwn Rd
  replace hb0 := pbl hwn hb0
  clear hwn c0 c1 c2 c3 c4 c5 c6 d0 d1 d2 d3 d4 d5 d6 d7 d8 d9 d10 d11 a00 a01
  (try clear a0f0 a0f1)
  (try clear c0 c1 c2 c3 c4 c5 c6); obtain ⟨c0, c1, c2, c3, c4, c5, c6⟩ := row7 Rc
  (try clear d0 d1 d2 d3 d4 d5 d6 d7 d8 d9 d10 d11); obtain ⟨d0, d1, d2, d3, d4, d5, d6, d7, d8, d9, d10, d11⟩ := row12 Rd
  (try clear a00 a01); obtain ⟨a00, a01⟩ := row2 Ra0
  go_wp2_with fail
  refine (HU0 _).mono ?_
  rintro e w4 ⟨rfl, hb⟩
  replace Rc := Rc.later hb
  replace Rd := Rd.later hb
  replace Ra0 := Ra0.later hb
  replace hb0 := below_step hb0 hb
  clear hb
  have lc := Rc.lt
  have ld := Rd.lt
  have la0 := Ra0.lt
  (try clear c0 c1 c2 c3 c4 c5 c6); obtain ⟨c0, c1, c2, c3, c4, c5, c6⟩ := row7 Rc
  (try clear d0 d1 d2 d3 d4 d5 d6 d7 d8 d9 d10 d11); obtain ⟨d0, d1, d2, d3, d4, d5, d6, d7, d8, d9, d10, d11⟩ := row12 Rd
  (try clear a00 a01); obtain ⟨a00, a01⟩ := row2 Ra0
  go_upto_region 11 with fail
  have ny0c := Rc.lt
  have ny0d := Rd.lt
  have ny0a0 := Ra0.lt
  replace Rc := Rc.alloc (.cells #[Value.int .i64 x0.a0, Value.int .i64 x0.a1, Value.int .i64 x0.k0.kind, Value.int .i64 x0.k0.len, Value.int .u64 x0.k0.h, Value.int .u64 x0.k0.l, Value.string ⟨x0.k0.path.toArray⟩, Value.int .i64 x0.k1.kind, Value.int .i64 x0.k1.len, Value.int .u64 x0.k1.h, Value.int .u64 x0.k1.l, Value.string ⟨x0.k1.path.toArray⟩] 33)
  replace Rd := Rd.alloc (.cells #[Value.int .i64 x0.a0, Value.int .i64 x0.a1, Value.int .i64 x0.k0.kind, Value.int .i64 x0.k0.len, Value.int .u64 x0.k0.h, Value.int .u64 x0.k0.l, Value.string ⟨x0.k0.path.toArray⟩, Value.int .i64 x0.k1.kind, Value.int .i64 x0.k1.len, Value.int .u64 x0.k1.h, Value.int .u64 x0.k1.l, Value.string ⟨x0.k1.path.toArray⟩] 33)
  replace Ra0 := Ra0.alloc (.cells #[Value.int .i64 x0.a0, Value.int .i64 x0.a1, Value.int .i64 x0.k0.kind, Value.int .i64 x0.k0.len, Value.int .u64 x0.k0.h, Value.int .u64 x0.k0.l, Value.string ⟨x0.k0.path.toArray⟩, Value.int .i64 x0.k1.kind, Value.int .i64 x0.k1.len, Value.int .u64 x0.k1.h, Value.int .u64 x0.k1.l, Value.string ⟨x0.k1.path.toArray⟩] 33)
  have Ry0 := Row.new w4 #[Value.int .i64 x0.a0, Value.int .i64 x0.a1, Value.int .i64 x0.k0.kind, Value.int .i64 x0.k0.len, Value.int .u64 x0.k0.h, Value.int .u64 x0.k0.l, Value.string ⟨x0.k0.path.toArray⟩, Value.int .i64 x0.k1.kind, Value.int .i64 x0.k1.len, Value.int .u64 x0.k1.h, Value.int .u64 x0.k1.l, Value.string ⟨x0.k1.path.toArray⟩] 33
  have my0 := hb0.size
  replace hb0 := hb0.alloc hb0.size (.cells #[Value.int .i64 x0.a0, Value.int .i64 x0.a1, Value.int .i64 x0.k0.kind, Value.int .i64 x0.k0.len, Value.int .u64 x0.k0.h, Value.int .u64 x0.k0.l, Value.string ⟨x0.k0.path.toArray⟩, Value.int .i64 x0.k1.kind, Value.int .i64 x0.k1.len, Value.int .u64 x0.k1.h, Value.int .u64 x0.k1.l, Value.string ⟨x0.k1.path.toArray⟩] 33)
  (try clear c0 c1 c2 c3 c4 c5 c6); obtain ⟨c0, c1, c2, c3, c4, c5, c6⟩ := row7 Rc
  (try clear d0 d1 d2 d3 d4 d5 d6 d7 d8 d9 d10 d11); obtain ⟨d0, d1, d2, d3, d4, d5, d6, d7, d8, d9, d10, d11⟩ := row12 Rd
  (try clear a00 a01); obtain ⟨a00, a01⟩ := row2 Ra0
  (try clear y00 y01 y02 y03 y04 y05 y06 y07 y08 y09 y010 y011); obtain ⟨y00, y01, y02, y03, y04, y05, y06, y07, y08, y09, y010, y011⟩ := row12 Ry0
  generalize (World.alloc w4 (.cells #[Value.int .i64 x0.a0, Value.int .i64 x0.a1, Value.int .i64 x0.k0.kind, Value.int .i64 x0.k0.len, Value.int .u64 x0.k0.h, Value.int .u64 x0.k0.l, Value.string ⟨x0.k0.path.toArray⟩, Value.int .i64 x0.k1.kind, Value.int .i64 x0.k1.len, Value.int .u64 x0.k1.h, Value.int .u64 x0.k1.l, Value.string ⟨x0.k1.path.toArray⟩] 33)) = w5 at *
  have HO := OwnX.nil (w.heap.size + 2) w5
  have lcz := Rc.lt
  have ldz := Rd.lt
  have hszz := hb0.size
  obtain ⟨v', wA, hrun, hown, hgrow⟩ := appX_one x0 HO (by simp) (by omega)
  obtain ⟨_, hown⟩ := hown
  replace hown : (v' = .slice none 0 0 ∧ 1 = 0) ∨ ∃ g cap cur, v' = .slice (some ⟨g, 0, none⟩) 1 cap ∧ w.heap.size + 2 ≤ g ∧ wA.heap[g]? = some (.cells cur 33 (0, 0)) ∧ 1 ≤ cap ∧ cap ≤ maxLen ∧ cur.size = cap * 12 ∧ cur.toList.take (1 * 12) = valsX [x0] := hown
  replace hb0 := hb0.trans ((appX_below HO (Below.refl (w.heap.size + 2) _) (by omega) hgrow).mono (by omega))
  replace Rc := rowX_app2 HO hgrow Rc (by decide)
  replace Rd := rowX_app3 HO hgrow Rd (by omega)
  have HRUN := Lib.hid hrun
  clear c0 c1 c2 c3 c4 c5 c6 d0 d1 d2 d3 d4 d5 d6 d7 d8 d9 d10 d11 a00 a01 Ra0 Ry0 HO hrun hgrow
  obtain ⟨_, hbad⟩ | ⟨go, co, cuo, rfl, o1, Ro, o2, o3, o4, o5⟩ := hown
  · cases hbad
  replace Ro : Row _ go cuo 33 := Ro
  have tok : True := trivial
  go_wp2_with (have _t := tok; at_builtin; refine wpList_appS rfl (.tmp 30) (.tmp 32) 60 rfl rfl rfl HRUN.out ?_; clear tok HRUN)
  (try clear y00 y01 y02 y03 y04 y05 y06 y07 y08 y09 y010 y011)
  rename World => w6
  have lc := Rc.lt
  have ld := Rd.lt
  have lo := Ro.lt
  (try clear c0 c1 c2 c3 c4 c5 c6); obtain ⟨c0, c1, c2, c3, c4, c5, c6⟩ := row7 Rc
  (try clear d0 d1 d2 d3 d4 d5 d6 d7 d8 d9 d10 d11); obtain ⟨d0, d1, d2, d3, d4, d5, d6, d7, d8, d9, d10, d11⟩ := row12 Rd
  rw [rounds_succ]
  go_upto_region 8 with fail
  have na1c := Rc.lt
  have na1d := Rd.lt
  have na1o := Ro.lt
  replace Rc := Rc.alloc (.cells #[Value.int .i64 p.a0, Value.int .i64 p.a1] 27)
  replace Rd := Rd.alloc (.cells #[Value.int .i64 p.a0, Value.int .i64 p.a1] 27)
  replace Ro := Ro.alloc (.cells #[Value.int .i64 p.a0, Value.int .i64 p.a1] 27)
  have Ra1 := Row.new w6 #[Value.int .i64 p.a0, Value.int .i64 p.a1] 27
  have ma1 := hb0.size
  replace hb0 := hb0.alloc hb0.size (.cells #[Value.int .i64 p.a0, Value.int .i64 p.a1] 27)
  (try clear c0 c1 c2 c3 c4 c5 c6); obtain ⟨c0, c1, c2, c3, c4, c5, c6⟩ := row7 Rc
  (try clear d0 d1 d2 d3 d4 d5 d6 d7 d8 d9 d10 d11); obtain ⟨d0, d1, d2, d3, d4, d5, d6, d7, d8, d9, d10, d11⟩ := row12 Rd
  (try clear a10 a11); obtain ⟨a10, a11⟩ := row2 Ra1
  generalize (World.alloc w6 (.cells #[Value.int .i64 p.a0, Value.int .i64 p.a1] 27)) = w7 at *
  have a1f0 := Ra1.frozen 0
  have a1f1 := Ra1.frozen 1
  go_upto_region 9 with fail
  obtain ⟨w8, hwn⟩ : ∃ wz, wz = (World.setCell w7 ⟨w6.heap.size, 1, none⟩ (.int .i64 (p.a1 + 1))) := ⟨_, rfl⟩
  rw [← hwn]
  replace hwn : w8 = World.setCells w7 w6.heap.size 1 [.int .i64 (p.a1 + 1)] := hwn
  replace Ra1 : Row w8 w6.heap.size #[.int .i64 p.a0, .int .i64 (p.a1 + 1)] 27 := psm hwn Ra1 (by simp [setL])
  replace Rc := prf hwn Rc
  replace Rd := prf hwn Rd
  replace Ro := prf hwn Ro
  replace hb0 := pbl hwn hb0
  clear hwn c0 c1 c2 c3 c4 c5 c6 d0 d1 d2 d3 d4 d5 d6 d7 d8 d9 d10 d11 a10 a11
  (try clear a1f0 a1f1)
  (try clear c0 c1 c2 c3 c4 c5 c6); obtain ⟨c0, c1, c2, c3, c4, c5, c6⟩ := row7 Rc
  (try clear d0 d1 d2 d3 d4 d5 d6 d7 d8 d9 d10 d11); obtain ⟨d0, d1, d2, d3, d4, d5, d6, d7, d8, d9, d10, d11⟩ := row12 Rd
  (try clear a10 a11); obtain ⟨a10, a11⟩ := row2 Ra1
  go_wp2_with fail
  refine (HU1 _).mono ?_
  rintro e w9 ⟨rfl, hb⟩
  replace Rc := Rc.later hb
  replace Rd := Rd.later hb
  replace Ro := Ro.later hb
  replace Ra1 := Ra1.later hb
  replace hb0 := below_step hb0 hb
  clear hb
  have lc := Rc.lt
  have ld := Rd.lt
  have lo := Ro.lt
  have la1 := Ra1.lt
  (try clear c0 c1 c2 c3 c4 c5 c6); obtain ⟨c0, c1, c2, c3, c4, c5, c6⟩ := row7 Rc
  (try clear d0 d1 d2 d3 d4 d5 d6 d7 d8 d9 d10 d11); obtain ⟨d0, d1, d2, d3, d4, d5, d6, d7, d8, d9, d10, d11⟩ := row12 Rd
  (try clear a10 a11); obtain ⟨a10, a11⟩ := row2 Ra1
  go_upto_region 11 with fail
  have ny1c := Rc.lt
  have ny1d := Rd.lt
  have ny1o := Ro.lt
  have ny1a1 := Ra1.lt
  replace Rc := Rc.alloc (.cells #[Value.int .i64 x1.a0, Value.int .i64 x1.a1, Value.int .i64 x1.k0.kind, Value.int .i64 x1.k0.len, Value.int .u64 x1.k0.h, Value.int .u64 x1.k0.l, Value.string ⟨x1.k0.path.toArray⟩, Value.int .i64 x1.k1.kind, Value.int .i64 x1.k1.len, Value.int .u64 x1.k1.h, Value.int .u64 x1.k1.l, Value.string ⟨x1.k1.path.toArray⟩] 33)
  replace Rd := Rd.alloc (.cells #[Value.int .i64 x1.a0, Value.int .i64 x1.a1, Value.int .i64 x1.k0.kind, Value.int .i64 x1.k0.len, Value.int .u64 x1.k0.h, Value.int .u64 x1.k0.l, Value.string ⟨x1.k0.path.toArray⟩, Value.int .i64 x1.k1.kind, Value.int .i64 x1.k1.len, Value.int .u64 x1.k1.h, Value.int .u64 x1.k1.l, Value.string ⟨x1.k1.path.toArray⟩] 33)
  replace Ro := Ro.alloc (.cells #[Value.int .i64 x1.a0, Value.int .i64 x1.a1, Value.int .i64 x1.k0.kind, Value.int .i64 x1.k0.len, Value.int .u64 x1.k0.h, Value.int .u64 x1.k0.l, Value.string ⟨x1.k0.path.toArray⟩, Value.int .i64 x1.k1.kind, Value.int .i64 x1.k1.len, Value.int .u64 x1.k1.h, Value.int .u64 x1.k1.l, Value.string ⟨x1.k1.path.toArray⟩] 33)
  replace Ra1 := Ra1.alloc (.cells #[Value.int .i64 x1.a0, Value.int .i64 x1.a1, Value.int .i64 x1.k0.kind, Value.int .i64 x1.k0.len, Value.int .u64 x1.k0.h, Value.int .u64 x1.k0.l, Value.string ⟨x1.k0.path.toArray⟩, Value.int .i64 x1.k1.kind, Value.int .i64 x1.k1.len, Value.int .u64 x1.k1.h, Value.int .u64 x1.k1.l, Value.string ⟨x1.k1.path.toArray⟩] 33)
  have Ry1 := Row.new w9 #[Value.int .i64 x1.a0, Value.int .i64 x1.a1, Value.int .i64 x1.k0.kind, Value.int .i64 x1.k0.len, Value.int .u64 x1.k0.h, Value.int .u64 x1.k0.l, Value.string ⟨x1.k0.path.toArray⟩, Value.int .i64 x1.k1.kind, Value.int .i64 x1.k1.len, Value.int .u64 x1.k1.h, Value.int .u64 x1.k1.l, Value.string ⟨x1.k1.path.toArray⟩] 33
  have my1 := hb0.size
  replace hb0 := hb0.alloc hb0.size (.cells #[Value.int .i64 x1.a0, Value.int .i64 x1.a1, Value.int .i64 x1.k0.kind, Value.int .i64 x1.k0.len, Value.int .u64 x1.k0.h, Value.int .u64 x1.k0.l, Value.string ⟨x1.k0.path.toArray⟩, Value.int .i64 x1.k1.kind, Value.int .i64 x1.k1.len, Value.int .u64 x1.k1.h, Value.int .u64 x1.k1.l, Value.string ⟨x1.k1.path.toArray⟩] 33)
  (try clear c0 c1 c2 c3 c4 c5 c6); obtain ⟨c0, c1, c2, c3, c4, c5, c6⟩ := row7 Rc
  (try clear d0 d1 d2 d3 d4 d5 d6 d7 d8 d9 d10 d11); obtain ⟨d0, d1, d2, d3, d4, d5, d6, d7, d8, d9, d10, d11⟩ := row12 Rd
  (try clear a10 a11); obtain ⟨a10, a11⟩ := row2 Ra1
  (try clear y10 y11 y12 y13 y14 y15 y16 y17 y18 y19 y110 y111); obtain ⟨y10, y11, y12, y13, y14, y15, y16, y17, y18, y19, y110, y111⟩ := row12 Ry1
  generalize (World.alloc w9 (.cells #[Value.int .i64 x1.a0, Value.int .i64 x1.a1, Value.int .i64 x1.k0.kind, Value.int .i64 x1.k0.len, Value.int .u64 x1.k0.h, Value.int .u64 x1.k0.l, Value.string ⟨x1.k0.path.toArray⟩, Value.int .i64 x1.k1.kind, Value.int .i64 x1.k1.len, Value.int .u64 x1.k1.h, Value.int .u64 x1.k1.l, Value.string ⟨x1.k1.path.toArray⟩] 33)) = w10 at *
  have HO : OwnX (w.heap.size + 2) w10 (.slice (some ⟨go, 0, none⟩) 1 co) [x0] := ⟨rfl, .inr ⟨go, co, cuo, rfl, o1, Ro, o2, o3, o4, o5⟩⟩
  have lcz := Rc.lt
  have ldz := Rd.lt
  have hszz := hb0.size
  obtain ⟨v', wA, hrun, hown, hgrow⟩ := appX_one x1 HO (by simp) (by omega)
  obtain ⟨_, hown⟩ := hown
  replace hown : (v' = .slice none 0 0 ∧ 2 = 0) ∨ ∃ g cap cur, v' = .slice (some ⟨g, 0, none⟩) 2 cap ∧ w.heap.size + 2 ≤ g ∧ wA.heap[g]? = some (.cells cur 33 (0, 0)) ∧ 2 ≤ cap ∧ cap ≤ maxLen ∧ cur.size = cap * 12 ∧ cur.toList.take (2 * 12) = valsX [x0, x1] := hown
  replace hb0 := hb0.trans ((appX_below HO (Below.refl (w.heap.size + 2) _) (by omega) hgrow).mono (by omega))
  replace Rc := rowX_app2 HO hgrow Rc (by decide)
  replace Rd := rowX_app3 HO hgrow Rd (by omega)
  have HRUN := Lib.hid hrun
  clear c0 c1 c2 c3 c4 c5 c6 d0 d1 d2 d3 d4 d5 d6 d7 d8 d9 d10 d11 a10 a11 Ro Ra1 Ry1 HO hrun hgrow o1 o2 o3 o4 o5
  obtain ⟨_, hbad⟩ | ⟨go, co, cuo, rfl, o1, Ro, o2, o3, o4, o5⟩ := hown
  · cases hbad
  replace Ro : Row _ go cuo 33 := Ro
  have tok : True := trivial
  go_wp2_with (have _t := tok; at_builtin; refine wpList_appS rfl (.tmp 30) (.tmp 32) 60 rfl rfl rfl HRUN.out ?_; clear tok HRUN)
  (try clear y10 y11 y12 y13 y14 y15 y16 y17 y18 y19 y110 y111)
  rename World => w11
  have lc := Rc.lt
  have ld := Rd.lt
  have lo := Ro.lt
  (try clear c0 c1 c2 c3 c4 c5 c6); obtain ⟨c0, c1, c2, c3, c4, c5, c6⟩ := row7 Rc
  (try clear d0 d1 d2 d3 d4 d5 d6 d7 d8 d9 d10 d11); obtain ⟨d0, d1, d2, d3, d4, d5, d6, d7, d8, d9, d10, d11⟩ := row12 Rd
  rw [rounds_succ]
  have HFX := Lib.hid (OwnX.read (show OwnX (w.heap.size + 2) _ (.slice (some ⟨go, 0, none⟩) 2 co) [x0, x1] from ⟨rfl, .inr ⟨go, co, cuo, rfl, o1, Ro, o2, o3, o4, o5⟩⟩))
  go_wp2
  go_ret
  exact ⟨_, rfl, HFX.out, hb0⟩
def parP (s : Sp) (p : Px) : List Px := if rightP s p = true then [upP s p (p.a0 + 1) p.a1, upP s p p.a0 (p.a1 + 1)].filter (fun u => !decide (u = pz)) else []
theorem parents_t (s : Sp) (p : Px) (op : p.ok) (w : World) : Calls Try.prog 49 #[sv s, pv p] w fun e w' => ∃ v, e = .returned v ∧ XS w' v (parP s p) ∧ Below w.heap.size w w' := by
  have HR := right9_t s p op
  have HU0 := up9_t s p op (p.a0 + 1) p.a1
  have HU1 := up9_t s p op p.a0 (p.a1 + 1)
  have hi := right_iff s p
  unfold parP
  cases h : rightP s p with
  | false => rw [h] at HR; exact parents_no s p HR w
  | true =>
    rw [h] at HR
    rw [if_pos rfl]
    obtain ⟨_, n0, n1⟩ := hi.1 h
    have q0 := onE_range n0
    have q1 := onE_range n1
    have d0 := depthD_range s.d0
    have d1 := depthD_range s.d1
    have w0 : IntKind.i64.wrap (p.a0 + 1) = p.a0 + 1 := IntWalk.i64_in _ (by omega)
    have w1 : IntKind.i64.wrap (p.a1 + 1) = p.a1 + 1 := IntWalk.i64_in _ (by omega)
    generalize upP s p (p.a0 + 1) p.a1 = x0 at *
    generalize upP s p p.a0 (p.a1 + 1) = x1 at *
    cases e0 : decide (x0 = pz) with
    | false =>
      cases e1 : decide (x1 = pz) with
      | false => rw [List.filter_cons, e0, List.filter_cons, e1]; exact parents_11 s p x0 x1 HR HU0 HU1 w0 w1 e0 e1 w
      | true => rw [List.filter_cons, e0, List.filter_cons, e1]; exact parents_10 s p x0 x1 HR HU0 HU1 w0 w1 e0 e1 w
    | true =>
      cases e1 : decide (x1 = pz) with
      | false => rw [List.filter_cons, e0, List.filter_cons, e1]; exact parents_01 s p x0 x1 HR HU0 HU1 w0 w1 e0 e1 w
      | true => rw [List.filter_cons, e0, List.filter_cons, e1]; exact parents_00 s p x0 x1 HR HU0 HU1 w0 w1 e0 e1 w
end Go.Proofs.Ytbekocknfpekoaa
