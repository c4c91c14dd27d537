/- R9b: what the theorem needs of these texts. No conditions beyond those that are written. -/
import Derived.Test.YtbekocknfpekoaaJF0
import Derived.Test.YtbekocknfpekoaaJD9
import Derived.Test.YtbekocknfpekoaaJP11
import Derived.LoopN
namespace Go.Proofs.Ytbekocknfpekoaa
set_option linter.unusedVariables false
set_option linter.unusedSimpArgs false
open Go.RowKit
set_option maxRecDepth 100000 in
set_option maxHeartbeats 32000000 in
theorem rleaf_false (s : Sp) (a b : Ke)
    (HR : ∀ w, Calls Try.prog 21 #[sv s, pv ⟨0, 0, a, b⟩] w fun e w' => e = .returned (.bool false) ∧ Below w.heap.size w w') (w : World) :
    Calls Try.prog 17 #[sv s, kv a, kv b] w fun e w' => e = .returned (.tuple #[.agg #[.int .i64 0, .int .i64 0, .int .i64 0, .int .i64 0, .int .u64 0, .int .u64 0, .string ⟨#[]⟩, .int .i64 0, .int .i64 0, .int .u64 0, .int .u64 0, .string ⟨#[]⟩], .bool false]) ∧ Below w.heap.size w w' := by
  unfold sv pv at *
  unfold kv
  (try dsimp only at *)
  obtain ⟨Rc, Rd, Re, Rr, hb0⟩ := four_rows w #[.int .i64 s.n, .int .i64 s.d0.kind, .int .i64 s.d0.side, .int .i64 s.d0.step, .int .i64 s.d1.kind, .int .i64 s.d1.side, .int .i64 s.d1.step] #[.int .i64 a.kind, .int .i64 a.len, .int .u64 a.h, .int .u64 a.l, .string ⟨a.path.toArray⟩] #[.int .i64 b.kind, .int .i64 b.len, .int .u64 b.h, .int .u64 b.l, .string ⟨b.path.toArray⟩] #[.int .i64 0, .int .i64 0, .int .i64 0, .int .i64 0, .int .u64 0, .int .u64 0, .string ⟨#[]⟩, .int .i64 0, .int .i64 0, .int .u64 0, .int .u64 0, .string ⟨#[]⟩] 26 30 30 33
  (try clear c0 c1 c2 c3 c4 c5 c6); obtain ⟨c0, c1, c2, c3, c4, c5, c6⟩ := row7 Rc
  (try clear d0 d1 d2 d3 d4); obtain ⟨d0, d1, d2, d3, d4⟩ := row5 Rd
  (try clear e0 e1 e2 e3 e4); obtain ⟨e0, e1, e2, e3, e4⟩ := row5 Re
  (try clear r0 r1 r2 r3 r4 r5 r6 r7 r8 r9 r10 r11); obtain ⟨r0, r1, r2, r3, r4, r5, r6, r7, r8, r9, r10, r11⟩ := row12 Rr
  go_enter Try.func17, Try.ntmps17
  go_wp2_with fail
  refine (HR _).mono ?_
  rintro e w1 ⟨rfl, hb⟩
  replace Rc := (Rc.alloc _).later hb
  replace Rd := (Rd.alloc _).later hb
  replace Re := (Re.alloc _).later hb
  replace Rr := (Rr.alloc _).later hb
  have Rp := Row.later (Row.new _ _ _) hb
  simp only [World.size_alloc] at Rp
  replace hb0 := below_step (hb0.alloc hb0.size _) hb
  clear hb
  have lc := Rc.lt
  have ld := Rd.lt
  have le := Re.lt
  have lr := Rr.lt
  have lp := Rp.lt
  (try clear c0 c1 c2 c3 c4 c5 c6); obtain ⟨c0, c1, c2, c3, c4, c5, c6⟩ := row7 Rc
  (try clear d0 d1 d2 d3 d4); obtain ⟨d0, d1, d2, d3, d4⟩ := row5 Rd
  (try clear e0 e1 e2 e3 e4); obtain ⟨e0, e1, e2, e3, e4⟩ := row5 Re
  (try clear r0 r1 r2 r3 r4 r5 r6 r7 r8 r9 r10 r11); obtain ⟨r0, r1, r2, r3, r4, r5, r6, r7, r8, r9, r10, r11⟩ := row12 Rr
  (try clear p0 p1 p2 p3 p4 p5 p6 p7 p8 p9 p10 p11); obtain ⟨p0, p1, p2, p3, p4, p5, p6, p7, p8, p9, p10, p11⟩ := row12 Rp
  have rf0 := Rr.frozen 0
  have rf1 := Rr.frozen 1
  have rf2 := Rr.frozen 2
  have rf3 := Rr.frozen 3
  have rf4 := Rr.frozen 4
  have rf5 := Rr.frozen 5
  have rf6 := Rr.frozen 6
  have rf7 := Rr.frozen 7
  have rf8 := Rr.frozen 8
  have rf9 := Rr.frozen 9
  have rf10 := Rr.frozen 10
  have rf11 := Rr.frozen 11
  go_wp2
  obtain ⟨w2, hwn⟩ : ∃ wz, wz = (World.setCell (World.setCell (World.setCell (World.setCell (World.setCell (World.setCell (World.setCell (World.setCell (World.setCell (World.setCell (World.setCell (World.setCell w1 ⟨(w.heap.size + 1 + 1 + 1), 0, none⟩ (.int .i64 0)) ⟨(w.heap.size + 1 + 1 + 1), 1, none⟩ (.int .i64 0)) ⟨(w.heap.size + 1 + 1 + 1), 2, none⟩ (.int .i64 0)) ⟨(w.heap.size + 1 + 1 + 1), 3, none⟩ (.int .i64 0)) ⟨(w.heap.size + 1 + 1 + 1), 4, none⟩ (.int .u64 0)) ⟨(w.heap.size + 1 + 1 + 1), 5, none⟩ (.int .u64 0)) ⟨(w.heap.size + 1 + 1 + 1), 6, none⟩ (.string ⟨#[]⟩)) ⟨(w.heap.size + 1 + 1 + 1), 7, none⟩ (.int .i64 0)) ⟨(w.heap.size + 1 + 1 + 1), 8, none⟩ (.int .i64 0)) ⟨(w.heap.size + 1 + 1 + 1), 9, none⟩ (.int .u64 0)) ⟨(w.heap.size + 1 + 1 + 1), 10, none⟩ (.int .u64 0)) ⟨(w.heap.size + 1 + 1 + 1), 11, none⟩ (.string ⟨#[]⟩)) := ⟨_, rfl⟩
  rw [← hwn]
  replace hwn : w2 = World.setCells w1 (w.heap.size + 1 + 1 + 1) 0 [.int .i64 0, .int .i64 0, .int .i64 0, .int .i64 0, .int .u64 0, .int .u64 0, .string ⟨#[]⟩, .int .i64 0, .int .i64 0, .int .u64 0, .int .u64 0, .string ⟨#[]⟩] := hwn
  replace Rr : Row w2 (w.heap.size + 1 + 1 + 1) #[.int .i64 0, .int .i64 0, .int .i64 0, .int .i64 0, .int .u64 0, .int .u64 0, .string ⟨#[]⟩, .int .i64 0, .int .i64 0, .int .u64 0, .int .u64 0, .string ⟨#[]⟩] 33 := psm hwn Rr (by simp [setL])
  replace Rc := prf hwn Rc
  replace Rd := prf hwn Rd
  replace Re := prf hwn Re
  replace Rp := prf hwn Rp
  replace hb0 := pbl hwn hb0
  clear hwn c0 c1 c2 c3 c4 c5 c6 d0 d1 d2 d3 d4 e0 e1 e2 e3 e4 r0 r1 r2 r3 r4 r5 r6 r7 r8 r9 r10 r11 p0 p1 p2 p3 p4 p5 p6 p7 p8 p9 p10 p11
  (try clear rf0 rf1 rf2 rf3 rf4 rf5 rf6 rf7 rf8 rf9 rf10 rf11)
  (try clear c0 c1 c2 c3 c4 c5 c6); obtain ⟨c0, c1, c2, c3, c4, c5, c6⟩ := row7 Rc
  (try clear d0 d1 d2 d3 d4); obtain ⟨d0, d1, d2, d3, d4⟩ := row5 Rd
  (try clear e0 e1 e2 e3 e4); obtain ⟨e0, e1, e2, e3, e4⟩ := row5 Re
  (try clear r0 r1 r2 r3 r4 r5 r6 r7 r8 r9 r10 r11); obtain ⟨r0, r1, r2, r3, r4, r5, r6, r7, r8, r9, r10, r11⟩ := row12 Rr
  (try clear p0 p1 p2 p3 p4 p5 p6 p7 p8 p9 p10 p11); obtain ⟨p0, p1, p2, p3, p4, p5, p6, p7, p8, p9, p10, p11⟩ := row12 Rp
  refine bodyPost_ret (v := .tuple #[.agg #[.int .i64 0, .int .i64 0, .int .i64 0, .int .i64 0, .int .u64 0, .int .u64 0, .string ⟨#[]⟩, .int .i64 0, .int .i64 0, .int .u64 0, .int .u64 0, .string ⟨#[]⟩], .bool false]) (by simp [results, Try.results17, go_sem, r0, r1, r2, r3, r4, r5, r6, r7, r8, r9, r10, r11]) rfl ⟨rfl, hb0⟩
set_option maxRecDepth 100000 in
set_option maxHeartbeats 32000000 in
theorem rleaf_true (s : Sp) (a b : Ke)
    (HR : ∀ w, Calls Try.prog 21 #[sv s, pv ⟨0, 0, a, b⟩] w fun e w' => e = .returned (.bool true) ∧ Below w.heap.size w w') (w : World) :
    Calls Try.prog 17 #[sv s, kv a, kv b] w fun e w' => e = .returned (.tuple #[.agg #[.int .i64 0, .int .i64 0, .int .i64 a.kind, .int .i64 a.len, .int .u64 a.h, .int .u64 a.l, .string ⟨a.path.toArray⟩, .int .i64 b.kind, .int .i64 b.len, .int .u64 b.h, .int .u64 b.l, .string ⟨b.path.toArray⟩], .bool true]) ∧ Below w.heap.size w w' := by
  unfold sv pv at *
  unfold kv
  (try dsimp only at *)
  obtain ⟨Rc, Rd, Re, Rr, hb0⟩ := four_rows w #[.int .i64 s.n, .int .i64 s.d0.kind, .int .i64 s.d0.side, .int .i64 s.d0.step, .int .i64 s.d1.kind, .int .i64 s.d1.side, .int .i64 s.d1.step] #[.int .i64 a.kind, .int .i64 a.len, .int .u64 a.h, .int .u64 a.l, .string ⟨a.path.toArray⟩] #[.int .i64 b.kind, .int .i64 b.len, .int .u64 b.h, .int .u64 b.l, .string ⟨b.path.toArray⟩] #[.int .i64 0, .int .i64 0, .int .i64 0, .int .i64 0, .int .u64 0, .int .u64 0, .string ⟨#[]⟩, .int .i64 0, .int .i64 0, .int .u64 0, .int .u64 0, .string ⟨#[]⟩] 26 30 30 33
  (try clear c0 c1 c2 c3 c4 c5 c6); obtain ⟨c0, c1, c2, c3, c4, c5, c6⟩ := row7 Rc
  (try clear d0 d1 d2 d3 d4); obtain ⟨d0, d1, d2, d3, d4⟩ := row5 Rd
  (try clear e0 e1 e2 e3 e4); obtain ⟨e0, e1, e2, e3, e4⟩ := row5 Re
  (try clear r0 r1 r2 r3 r4 r5 r6 r7 r8 r9 r10 r11); obtain ⟨r0, r1, r2, r3, r4, r5, r6, r7, r8, r9, r10, r11⟩ := row12 Rr
  go_enter Try.func17, Try.ntmps17
  go_wp2_with fail
  refine (HR _).mono ?_
  rintro e w1 ⟨rfl, hb⟩
  replace Rc := (Rc.alloc _).later hb
  replace Rd := (Rd.alloc _).later hb
  replace Re := (Re.alloc _).later hb
  replace Rr := (Rr.alloc _).later hb
  have Rp := Row.later (Row.new _ _ _) hb
  simp only [World.size_alloc] at Rp
  replace hb0 := below_step (hb0.alloc hb0.size _) hb
  clear hb
  have lc := Rc.lt
  have ld := Rd.lt
  have le := Re.lt
  have lr := Rr.lt
  have lp := Rp.lt
  (try clear c0 c1 c2 c3 c4 c5 c6); obtain ⟨c0, c1, c2, c3, c4, c5, c6⟩ := row7 Rc
  (try clear d0 d1 d2 d3 d4); obtain ⟨d0, d1, d2, d3, d4⟩ := row5 Rd
  (try clear e0 e1 e2 e3 e4); obtain ⟨e0, e1, e2, e3, e4⟩ := row5 Re
  (try clear r0 r1 r2 r3 r4 r5 r6 r7 r8 r9 r10 r11); obtain ⟨r0, r1, r2, r3, r4, r5, r6, r7, r8, r9, r10, r11⟩ := row12 Rr
  (try clear p0 p1 p2 p3 p4 p5 p6 p7 p8 p9 p10 p11); obtain ⟨p0, p1, p2, p3, p4, p5, p6, p7, p8, p9, p10, p11⟩ := row12 Rp
  have rf0 := Rr.frozen 0
  have rf1 := Rr.frozen 1
  have rf2 := Rr.frozen 2
  have rf3 := Rr.frozen 3
  have rf4 := Rr.frozen 4
  have rf5 := Rr.frozen 5
  have rf6 := Rr.frozen 6
  have rf7 := Rr.frozen 7
  have rf8 := Rr.frozen 8
  have rf9 := Rr.frozen 9
  have rf10 := Rr.frozen 10
  have rf11 := Rr.frozen 11
  go_wp2
  obtain ⟨w2, hwn⟩ : ∃ wz, wz = (World.setCell (World.setCell (World.setCell (World.setCell (World.setCell (World.setCell (World.setCell (World.setCell (World.setCell (World.setCell (World.setCell (World.setCell w1 ⟨(w.heap.size + 1 + 1 + 1), 0, none⟩ (.int .i64 0)) ⟨(w.heap.size + 1 + 1 + 1), 1, none⟩ (.int .i64 0)) ⟨(w.heap.size + 1 + 1 + 1), 2, none⟩ (.int .i64 a.kind)) ⟨(w.heap.size + 1 + 1 + 1), 3, none⟩ (.int .i64 a.len)) ⟨(w.heap.size + 1 + 1 + 1), 4, none⟩ (.int .u64 a.h)) ⟨(w.heap.size + 1 + 1 + 1), 5, none⟩ (.int .u64 a.l)) ⟨(w.heap.size + 1 + 1 + 1), 6, none⟩ (.string ⟨a.path.toArray⟩)) ⟨(w.heap.size + 1 + 1 + 1), 7, none⟩ (.int .i64 b.kind)) ⟨(w.heap.size + 1 + 1 + 1), 8, none⟩ (.int .i64 b.len)) ⟨(w.heap.size + 1 + 1 + 1), 9, none⟩ (.int .u64 b.h)) ⟨(w.heap.size + 1 + 1 + 1), 10, none⟩ (.int .u64 b.l)) ⟨(w.heap.size + 1 + 1 + 1), 11, none⟩ (.string ⟨b.path.toArray⟩)) := ⟨_, rfl⟩
  rw [← hwn]
  replace hwn : w2 = World.setCells w1 (w.heap.size + 1 + 1 + 1) 0 [.int .i64 0, .int .i64 0, .int .i64 a.kind, .int .i64 a.len, .int .u64 a.h, .int .u64 a.l, .string ⟨a.path.toArray⟩, .int .i64 b.kind, .int .i64 b.len, .int .u64 b.h, .int .u64 b.l, .string ⟨b.path.toArray⟩] := hwn
  replace Rr : Row w2 (w.heap.size + 1 + 1 + 1) #[.int .i64 0, .int .i64 0, .int .i64 a.kind, .int .i64 a.len, .int .u64 a.h, .int .u64 a.l, .string ⟨a.path.toArray⟩, .int .i64 b.kind, .int .i64 b.len, .int .u64 b.h, .int .u64 b.l, .string ⟨b.path.toArray⟩] 33 := psm hwn Rr (by simp [setL])
  replace Rc := prf hwn Rc
  replace Rd := prf hwn Rd
  replace Re := prf hwn Re
  replace Rp := prf hwn Rp
  replace hb0 := pbl hwn hb0
  clear hwn c0 c1 c2 c3 c4 c5 c6 d0 d1 d2 d3 d4 e0 e1 e2 e3 e4 r0 r1 r2 r3 r4 r5 r6 r7 r8 r9 r10 r11 p0 p1 p2 p3 p4 p5 p6 p7 p8 p9 p10 p11
  (try clear rf0 rf1 rf2 rf3 rf4 rf5 rf6 rf7 rf8 rf9 rf10 rf11)
  (try clear c0 c1 c2 c3 c4 c5 c6); obtain ⟨c0, c1, c2, c3, c4, c5, c6⟩ := row7 Rc
  (try clear d0 d1 d2 d3 d4); obtain ⟨d0, d1, d2, d3, d4⟩ := row5 Rd
  (try clear e0 e1 e2 e3 e4); obtain ⟨e0, e1, e2, e3, e4⟩ := row5 Re
  (try clear r0 r1 r2 r3 r4 r5 r6 r7 r8 r9 r10 r11); obtain ⟨r0, r1, r2, r3, r4, r5, r6, r7, r8, r9, r10, r11⟩ := row12 Rr
  (try clear p0 p1 p2 p3 p4 p5 p6 p7 p8 p9 p10 p11); obtain ⟨p0, p1, p2, p3, p4, p5, p6, p7, p8, p9, p10, p11⟩ := row12 Rp
  refine bodyPost_ret (v := .tuple #[.agg #[.int .i64 0, .int .i64 0, .int .i64 a.kind, .int .i64 a.len, .int .u64 a.h, .int .u64 a.l, .string ⟨a.path.toArray⟩, .int .i64 b.kind, .int .i64 b.len, .int .u64 b.h, .int .u64 b.l, .string ⟨b.path.toArray⟩], .bool true]) (by simp [results, Try.results17, go_sem, r0, r1, r2, r3, r4, r5, r6, r7, r8, r9, r10, r11]) rfl ⟨rfl, hb0⟩
theorem rleaf_t (s : Sp) (a b : Ke) (oa : a.ok) (ob : b.ok) (w : World) : Calls Try.prog 17 #[sv s, kv a, kv b] w fun e w' => e = .returned (.tuple #[pv (leafP s a b), .bool (rightP s ⟨0, 0, a, b⟩)]) ∧ Below w.heap.size w w' := by
  have HR := rright9_t s ⟨0, 0, a, b⟩ ⟨oa, ob, (by dsimp only; omega), (by dsimp only; omega), (by dsimp only; omega), (by dsimp only; omega)⟩
  unfold leafP
  cases h : rightP s ⟨0, 0, a, b⟩ with
  | false => rw [h] at HR; exact rleaf_false s a b HR w
  | true => rw [h] at HR; exact rleaf_true s a b HR w
set_option maxRecDepth 100000 in
set_option maxHeartbeats 32000000 in
theorem rtop_a (n : Int) (d0 d1 : Dm) (D0 D1 : Int) (u0 u1 : Ke)
    (hn : n ≤ 0) (w : World) :
    Calls Try.prog 23 #[sv ⟨n, d0, d1⟩] w fun e w' => e = .returned (.agg #[.int .i64 0, .int .i64 0, .int .i64 0, .int .i64 0, .int .u64 0, .int .u64 0, .string ⟨#[]⟩, .int .i64 0, .int .i64 0, .int .u64 0, .int .u64 0, .string ⟨#[]⟩]) ∧ Below w.heap.size w w' := by
  have hn' : decide (0 < n) = false := decide_eq_false (by omega)
  unfold sv at *
  (try unfold dv kv at *)
  (try dsimp only at *)
  obtain ⟨Rc, Rr, hb0⟩ := two_rows w #[.int .i64 n, .int .i64 d0.kind, .int .i64 d0.side, .int .i64 d0.step, .int .i64 d1.kind, .int .i64 d1.side, .int .i64 d1.step] #[.int .i64 0, .int .i64 0, .int .i64 0, .int .i64 0, .int .u64 0, .int .u64 0, .string ⟨#[]⟩, .int .i64 0, .int .i64 0, .int .u64 0, .int .u64 0, .string ⟨#[]⟩] 26 33
  (try clear c0 c1 c2 c3 c4 c5 c6); obtain ⟨c0, c1, c2, c3, c4, c5, c6⟩ := row7 Rc
  (try clear r0 r1 r2 r3 r4 r5 r6 r7 r8 r9 r10 r11); obtain ⟨r0, r1, r2, r3, r4, r5, r6, r7, r8, r9, r10, r11⟩ := row12 Rr
  go_enter Try.func23, Try.ntmps23
  go_wp2_with fail
  replace Rc := Rc.alloc (.cells #[Value.int .i64 0, Value.int .i64 0, Value.int .i64 0, Value.int .i64 0, Value.int .u64 0, Value.int .u64 0, Value.string ⟨#[]⟩, Value.int .i64 0, Value.int .i64 0, Value.int .u64 0, Value.int .u64 0, Value.string ⟨#[]⟩] 33)
  replace Rr := Rr.alloc (.cells #[Value.int .i64 0, Value.int .i64 0, Value.int .i64 0, Value.int .i64 0, Value.int .u64 0, Value.int .u64 0, Value.string ⟨#[]⟩, Value.int .i64 0, Value.int .i64 0, Value.int .u64 0, Value.int .u64 0, Value.string ⟨#[]⟩] 33)
  have Rp := Row.new (World.alloc (World.alloc w (.cells #[.int .i64 n, .int .i64 d0.kind, .int .i64 d0.side, .int .i64 d0.step, .int .i64 d1.kind, .int .i64 d1.side, .int .i64 d1.step] 26)) (.cells #[.int .i64 0, .int .i64 0, .int .i64 0, .int .i64 0, .int .u64 0, .int .u64 0, .string ⟨#[]⟩, .int .i64 0, .int .i64 0, .int .u64 0, .int .u64 0, .string ⟨#[]⟩] 33)) #[Value.int .i64 0, Value.int .i64 0, Value.int .i64 0, Value.int .i64 0, Value.int .u64 0, Value.int .u64 0, Value.string ⟨#[]⟩, Value.int .i64 0, Value.int .i64 0, Value.int .u64 0, Value.int .u64 0, Value.string ⟨#[]⟩] 33
  simp only [World.size_alloc] at Rp
  have mp := hb0.size
  replace hb0 := hb0.alloc hb0.size (.cells #[Value.int .i64 0, Value.int .i64 0, Value.int .i64 0, Value.int .i64 0, Value.int .u64 0, Value.int .u64 0, Value.string ⟨#[]⟩, Value.int .i64 0, Value.int .i64 0, Value.int .u64 0, Value.int .u64 0, Value.string ⟨#[]⟩] 33)
  (try clear c0 c1 c2 c3 c4 c5 c6); obtain ⟨c0, c1, c2, c3, c4, c5, c6⟩ := row7 Rc
  (try clear r0 r1 r2 r3 r4 r5 r6 r7 r8 r9 r10 r11); obtain ⟨r0, r1, r2, r3, r4, r5, r6, r7, r8, r9, r10, r11⟩ := row12 Rr
  (try clear p0 p1 p2 p3 p4 p5 p6 p7 p8 p9 p10 p11); obtain ⟨p0, p1, p2, p3, p4, p5, p6, p7, p8, p9, p10, p11⟩ := row12 Rp
  generalize (World.alloc (World.alloc (World.alloc w (.cells #[.int .i64 n, .int .i64 d0.kind, .int .i64 d0.side, .int .i64 d0.step, .int .i64 d1.kind, .int .i64 d1.side, .int .i64 d1.step] 26)) (.cells #[.int .i64 0, .int .i64 0, .int .i64 0, .int .i64 0, .int .u64 0, .int .u64 0, .string ⟨#[]⟩, .int .i64 0, .int .i64 0, .int .u64 0, .int .u64 0, .string ⟨#[]⟩] 33)) (.cells #[Value.int .i64 0, Value.int .i64 0, Value.int .i64 0, Value.int .i64 0, Value.int .u64 0, Value.int .u64 0, Value.string ⟨#[]⟩, Value.int .i64 0, Value.int .i64 0, Value.int .u64 0, Value.int .u64 0, Value.string ⟨#[]⟩] 33)) = w1 at *
  refine wp_loop_rounds 3 ?_
  rw [rounds_succ]
  have rf0 := Rr.frozen 0
  have rf1 := Rr.frozen 1
  have rf2 := Rr.frozen 2
  have rf3 := Rr.frozen 3
  have rf4 := Rr.frozen 4
  have rf5 := Rr.frozen 5
  have rf6 := Rr.frozen 6
  have rf7 := Rr.frozen 7
  have rf8 := Rr.frozen 8
  have rf9 := Rr.frozen 9
  have rf10 := Rr.frozen 10
  have rf11 := Rr.frozen 11
  go_wp2
  obtain ⟨w2, hwn⟩ : ∃ wz, wz = (World.setCell (World.setCell (World.setCell (World.setCell (World.setCell (World.setCell (World.setCell (World.setCell (World.setCell (World.setCell (World.setCell (World.setCell w1 ⟨(w.heap.size + 1), 0, none⟩ (.int .i64 0)) ⟨(w.heap.size + 1), 1, none⟩ (.int .i64 0)) ⟨(w.heap.size + 1), 2, none⟩ (.int .i64 0)) ⟨(w.heap.size + 1), 3, none⟩ (.int .i64 0)) ⟨(w.heap.size + 1), 4, none⟩ (.int .u64 0)) ⟨(w.heap.size + 1), 5, none⟩ (.int .u64 0)) ⟨(w.heap.size + 1), 6, none⟩ (.string ⟨#[]⟩)) ⟨(w.heap.size + 1), 7, none⟩ (.int .i64 0)) ⟨(w.heap.size + 1), 8, none⟩ (.int .i64 0)) ⟨(w.heap.size + 1), 9, none⟩ (.int .u64 0)) ⟨(w.heap.size + 1), 10, none⟩ (.int .u64 0)) ⟨(w.heap.size + 1), 11, none⟩ (.string ⟨#[]⟩)) := ⟨_, rfl⟩
  rw [← hwn]
  replace hwn : w2 = World.setCells w1 (w.heap.size + 1) 0 [.int .i64 0, .int .i64 0, .int .i64 0, .int .i64 0, .int .u64 0, .int .u64 0, .string ⟨#[]⟩, .int .i64 0, .int .i64 0, .int .u64 0, .int .u64 0, .string ⟨#[]⟩] := hwn
  replace Rr : Row w2 (w.heap.size + 1) #[.int .i64 0, .int .i64 0, .int .i64 0, .int .i64 0, .int .u64 0, .int .u64 0, .string ⟨#[]⟩, .int .i64 0, .int .i64 0, .int .u64 0, .int .u64 0, .string ⟨#[]⟩] 33 := psm hwn Rr (by simp [setL])
  replace Rc := prf hwn Rc
  replace Rp := prf hwn Rp
  replace hb0 := pbl hwn hb0
  clear hwn c0 c1 c2 c3 c4 c5 c6 r0 r1 r2 r3 r4 r5 r6 r7 r8 r9 r10 r11 p0 p1 p2 p3 p4 p5 p6 p7 p8 p9 p10 p11
  (try clear rf0 rf1 rf2 rf3 rf4 rf5 rf6 rf7 rf8 rf9 rf10 rf11)
  (try clear c0 c1 c2 c3 c4 c5 c6); obtain ⟨c0, c1, c2, c3, c4, c5, c6⟩ := row7 Rc
  (try clear r0 r1 r2 r3 r4 r5 r6 r7 r8 r9 r10 r11); obtain ⟨r0, r1, r2, r3, r4, r5, r6, r7, r8, r9, r10, r11⟩ := row12 Rr
  (try clear p0 p1 p2 p3 p4 p5 p6 p7 p8 p9 p10 p11); obtain ⟨p0, p1, p2, p3, p4, p5, p6, p7, p8, p9, p10, p11⟩ := row12 Rp
  refine bodyPost_ret (v := .agg #[.int .i64 0, .int .i64 0, .int .i64 0, .int .i64 0, .int .u64 0, .int .u64 0, .string ⟨#[]⟩, .int .i64 0, .int .i64 0, .int .u64 0, .int .u64 0, .string ⟨#[]⟩]) (by simp [results, Try.results23, go_sem, r0, r1, r2, r3, r4, r5, r6, r7, r8, r9, r10, r11]) rfl ⟨rfl, hb0⟩
set_option maxRecDepth 100000 in
set_option maxHeartbeats 32000000 in
theorem rtop_b (n : Int) (d0 d1 : Dm) (D0 D1 : Int) (u0 u1 : Ke)
    (HS : ∀ w, Calls Try.prog 19 #[sv ⟨n, d0, d1⟩] w fun e w' => e = .returned (.bool false) ∧ Below w.heap.size w w')
    (hn : 0 < n) (w : World) :
    Calls Try.prog 23 #[sv ⟨n, d0, d1⟩] w fun e w' => e = .returned (.agg #[.int .i64 0, .int .i64 0, .int .i64 0, .int .i64 0, .int .u64 0, .int .u64 0, .string ⟨#[]⟩, .int .i64 0, .int .i64 0, .int .u64 0, .int .u64 0, .string ⟨#[]⟩]) ∧ Below w.heap.size w w' := by
  have hn' : decide (0 < n) = true := decide_eq_true hn
  unfold sv at *
  (try unfold dv kv at *)
  (try dsimp only at *)
  obtain ⟨Rc, Rr, hb0⟩ := two_rows w #[.int .i64 n, .int .i64 d0.kind, .int .i64 d0.side, .int .i64 d0.step, .int .i64 d1.kind, .int .i64 d1.side, .int .i64 d1.step] #[.int .i64 0, .int .i64 0, .int .i64 0, .int .i64 0, .int .u64 0, .int .u64 0, .string ⟨#[]⟩, .int .i64 0, .int .i64 0, .int .u64 0, .int .u64 0, .string ⟨#[]⟩] 26 33
  (try clear c0 c1 c2 c3 c4 c5 c6); obtain ⟨c0, c1, c2, c3, c4, c5, c6⟩ := row7 Rc
  (try clear r0 r1 r2 r3 r4 r5 r6 r7 r8 r9 r10 r11); obtain ⟨r0, r1, r2, r3, r4, r5, r6, r7, r8, r9, r10, r11⟩ := row12 Rr
  go_enter Try.func23, Try.ntmps23
  go_wp2_with fail
  replace Rc := Rc.alloc (.cells #[Value.int .i64 0, Value.int .i64 0, Value.int .i64 0, Value.int .i64 0, Value.int .u64 0, Value.int .u64 0, Value.string ⟨#[]⟩, Value.int .i64 0, Value.int .i64 0, Value.int .u64 0, Value.int .u64 0, Value.string ⟨#[]⟩] 33)
  replace Rr := Rr.alloc (.cells #[Value.int .i64 0, Value.int .i64 0, Value.int .i64 0, Value.int .i64 0, Value.int .u64 0, Value.int .u64 0, Value.string ⟨#[]⟩, Value.int .i64 0, Value.int .i64 0, Value.int .u64 0, Value.int .u64 0, Value.string ⟨#[]⟩] 33)
  have Rp := Row.new (World.alloc (World.alloc w (.cells #[.int .i64 n, .int .i64 d0.kind, .int .i64 d0.side, .int .i64 d0.step, .int .i64 d1.kind, .int .i64 d1.side, .int .i64 d1.step] 26)) (.cells #[.int .i64 0, .int .i64 0, .int .i64 0, .int .i64 0, .int .u64 0, .int .u64 0, .string ⟨#[]⟩, .int .i64 0, .int .i64 0, .int .u64 0, .int .u64 0, .string ⟨#[]⟩] 33)) #[Value.int .i64 0, Value.int .i64 0, Value.int .i64 0, Value.int .i64 0, Value.int .u64 0, Value.int .u64 0, Value.string ⟨#[]⟩, Value.int .i64 0, Value.int .i64 0, Value.int .u64 0, Value.int .u64 0, Value.string ⟨#[]⟩] 33
  simp only [World.size_alloc] at Rp
  have mp := hb0.size
  replace hb0 := hb0.alloc hb0.size (.cells #[Value.int .i64 0, Value.int .i64 0, Value.int .i64 0, Value.int .i64 0, Value.int .u64 0, Value.int .u64 0, Value.string ⟨#[]⟩, Value.int .i64 0, Value.int .i64 0, Value.int .u64 0, Value.int .u64 0, Value.string ⟨#[]⟩] 33)
  (try clear c0 c1 c2 c3 c4 c5 c6); obtain ⟨c0, c1, c2, c3, c4, c5, c6⟩ := row7 Rc
  (try clear r0 r1 r2 r3 r4 r5 r6 r7 r8 r9 r10 r11); obtain ⟨r0, r1, r2, r3, r4, r5, r6, r7, r8, r9, r10, r11⟩ := row12 Rr
  (try clear p0 p1 p2 p3 p4 p5 p6 p7 p8 p9 p10 p11); obtain ⟨p0, p1, p2, p3, p4, p5, p6, p7, p8, p9, p10, p11⟩ := row12 Rp
  generalize (World.alloc (World.alloc (World.alloc w (.cells #[.int .i64 n, .int .i64 d0.kind, .int .i64 d0.side, .int .i64 d0.step, .int .i64 d1.kind, .int .i64 d1.side, .int .i64 d1.step] 26)) (.cells #[.int .i64 0, .int .i64 0, .int .i64 0, .int .i64 0, .int .u64 0, .int .u64 0, .string ⟨#[]⟩, .int .i64 0, .int .i64 0, .int .u64 0, .int .u64 0, .string ⟨#[]⟩] 33)) (.cells #[Value.int .i64 0, Value.int .i64 0, Value.int .i64 0, Value.int .i64 0, Value.int .u64 0, Value.int .u64 0, Value.string ⟨#[]⟩, Value.int .i64 0, Value.int .i64 0, Value.int .u64 0, Value.int .u64 0, Value.string ⟨#[]⟩] 33)) = w1 at *
  refine wp_loop_rounds 3 ?_
  rw [rounds_succ]
  go_wp2_with fail
  refine (HS _).mono ?_
  rintro e w2 ⟨rfl, hb⟩
  replace Rc := Rc.later hb
  replace Rr := Rr.later hb
  replace Rp := Rp.later hb
  replace hb0 := below_step hb0 hb
  clear hb
  have lc := Rc.lt
  have lr := Rr.lt
  have lp := Rp.lt
  (try clear c0 c1 c2 c3 c4 c5 c6); obtain ⟨c0, c1, c2, c3, c4, c5, c6⟩ := row7 Rc
  (try clear r0 r1 r2 r3 r4 r5 r6 r7 r8 r9 r10 r11); obtain ⟨r0, r1, r2, r3, r4, r5, r6, r7, r8, r9, r10, r11⟩ := row12 Rr
  (try clear p0 p1 p2 p3 p4 p5 p6 p7 p8 p9 p10 p11); obtain ⟨p0, p1, p2, p3, p4, p5, p6, p7, p8, p9, p10, p11⟩ := row12 Rp
  have rf0 := Rr.frozen 0
  have rf1 := Rr.frozen 1
  have rf2 := Rr.frozen 2
  have rf3 := Rr.frozen 3
  have rf4 := Rr.frozen 4
  have rf5 := Rr.frozen 5
  have rf6 := Rr.frozen 6
  have rf7 := Rr.frozen 7
  have rf8 := Rr.frozen 8
  have rf9 := Rr.frozen 9
  have rf10 := Rr.frozen 10
  have rf11 := Rr.frozen 11
  go_wp2
  obtain ⟨w3, hwn⟩ : ∃ wz, wz = (World.setCell (World.setCell (World.setCell (World.setCell (World.setCell (World.setCell (World.setCell (World.setCell (World.setCell (World.setCell (World.setCell (World.setCell w2 ⟨(w.heap.size + 1), 0, none⟩ (.int .i64 0)) ⟨(w.heap.size + 1), 1, none⟩ (.int .i64 0)) ⟨(w.heap.size + 1), 2, none⟩ (.int .i64 0)) ⟨(w.heap.size + 1), 3, none⟩ (.int .i64 0)) ⟨(w.heap.size + 1), 4, none⟩ (.int .u64 0)) ⟨(w.heap.size + 1), 5, none⟩ (.int .u64 0)) ⟨(w.heap.size + 1), 6, none⟩ (.string ⟨#[]⟩)) ⟨(w.heap.size + 1), 7, none⟩ (.int .i64 0)) ⟨(w.heap.size + 1), 8, none⟩ (.int .i64 0)) ⟨(w.heap.size + 1), 9, none⟩ (.int .u64 0)) ⟨(w.heap.size + 1), 10, none⟩ (.int .u64 0)) ⟨(w.heap.size + 1), 11, none⟩ (.string ⟨#[]⟩)) := ⟨_, rfl⟩
  rw [← hwn]
  replace hwn : w3 = World.setCells w2 (w.heap.size + 1) 0 [.int .i64 0, .int .i64 0, .int .i64 0, .int .i64 0, .int .u64 0, .int .u64 0, .string ⟨#[]⟩, .int .i64 0, .int .i64 0, .int .u64 0, .int .u64 0, .string ⟨#[]⟩] := hwn
  replace Rr : Row w3 (w.heap.size + 1) #[.int .i64 0, .int .i64 0, .int .i64 0, .int .i64 0, .int .u64 0, .int .u64 0, .string ⟨#[]⟩, .int .i64 0, .int .i64 0, .int .u64 0, .int .u64 0, .string ⟨#[]⟩] 33 := psm hwn Rr (by simp [setL])
  replace Rc := prf hwn Rc
  replace Rp := prf hwn Rp
  replace hb0 := pbl hwn hb0
  clear hwn c0 c1 c2 c3 c4 c5 c6 r0 r1 r2 r3 r4 r5 r6 r7 r8 r9 r10 r11 p0 p1 p2 p3 p4 p5 p6 p7 p8 p9 p10 p11
  (try clear rf0 rf1 rf2 rf3 rf4 rf5 rf6 rf7 rf8 rf9 rf10 rf11)
  (try clear c0 c1 c2 c3 c4 c5 c6); obtain ⟨c0, c1, c2, c3, c4, c5, c6⟩ := row7 Rc
  (try clear r0 r1 r2 r3 r4 r5 r6 r7 r8 r9 r10 r11); obtain ⟨r0, r1, r2, r3, r4, r5, r6, r7, r8, r9, r10, r11⟩ := row12 Rr
  (try clear p0 p1 p2 p3 p4 p5 p6 p7 p8 p9 p10 p11); obtain ⟨p0, p1, p2, p3, p4, p5, p6, p7, p8, p9, p10, p11⟩ := row12 Rp
  refine bodyPost_ret (v := .agg #[.int .i64 0, .int .i64 0, .int .i64 0, .int .i64 0, .int .u64 0, .int .u64 0, .string ⟨#[]⟩, .int .i64 0, .int .i64 0, .int .u64 0, .int .u64 0, .string ⟨#[]⟩]) (by simp [results, Try.results23, go_sem, r0, r1, r2, r3, r4, r5, r6, r7, r8, r9, r10, r11]) rfl ⟨rfl, hb0⟩
set_option maxRecDepth 100000 in
set_option maxHeartbeats 32000000 in
theorem rtop_c (n : Int) (d0 d1 : Dm) (D0 D1 : Int) (u0 u1 : Ke)
    (HS : ∀ w, Calls Try.prog 19 #[sv ⟨1, d0, d1⟩] w fun e w' => e = .returned (.bool true) ∧ Below w.heap.size w w')
    (HD0 : ∀ w, Calls Try.prog 57 #[dv d0] w fun e w' => e = .returned (.int .i64 D0) ∧ Below w.heap.size w w')
    (HK0 : ∀ w, Calls Try.prog 58 #[.int .i64 d0.kind] w fun e w' => e = .returned (kv u0) ∧ Below w.heap.size w w') (w : World) :
    Calls Try.prog 23 #[sv ⟨1, d0, d1⟩] w fun e w' => e = .returned (.agg #[.int .i64 D0, .int .i64 0, .int .i64 u0.kind, .int .i64 u0.len, .int .u64 u0.h, .int .u64 u0.l, .string ⟨u0.path.toArray⟩, .int .i64 0, .int .i64 0, .int .u64 0, .int .u64 0, .string ⟨#[]⟩]) ∧ Below w.heap.size w w' := by
  unfold sv at *
  (try unfold dv kv at *)
  (try dsimp only at *)
  obtain ⟨Rc, Rr, hb0⟩ := two_rows w #[.int .i64 1, .int .i64 d0.kind, .int .i64 d0.side, .int .i64 d0.step, .int .i64 d1.kind, .int .i64 d1.side, .int .i64 d1.step] #[.int .i64 0, .int .i64 0, .int .i64 0, .int .i64 0, .int .u64 0, .int .u64 0, .string ⟨#[]⟩, .int .i64 0, .int .i64 0, .int .u64 0, .int .u64 0, .string ⟨#[]⟩] 26 33
  (try clear c0 c1 c2 c3 c4 c5 c6); obtain ⟨c0, c1, c2, c3, c4, c5, c6⟩ := row7 Rc
  (try clear r0 r1 r2 r3 r4 r5 r6 r7 r8 r9 r10 r11); obtain ⟨r0, r1, r2, r3, r4, r5, r6, r7, r8, r9, r10, r11⟩ := row12 Rr
  go_enter Try.func23, Try.ntmps23
  go_wp2_with fail
  replace Rc := Rc.alloc (.cells #[Value.int .i64 0, Value.int .i64 0, Value.int .i64 0, Value.int .i64 0, Value.int .u64 0, Value.int .u64 0, Value.string ⟨#[]⟩, Value.int .i64 0, Value.int .i64 0, Value.int .u64 0, Value.int .u64 0, Value.string ⟨#[]⟩] 33)
  replace Rr := Rr.alloc (.cells #[Value.int .i64 0, Value.int .i64 0, Value.int .i64 0, Value.int .i64 0, Value.int .u64 0, Value.int .u64 0, Value.string ⟨#[]⟩, Value.int .i64 0, Value.int .i64 0, Value.int .u64 0, Value.int .u64 0, Value.string ⟨#[]⟩] 33)
  have Rp := Row.new (World.alloc (World.alloc w (.cells #[.int .i64 1, .int .i64 d0.kind, .int .i64 d0.side, .int .i64 d0.step, .int .i64 d1.kind, .int .i64 d1.side, .int .i64 d1.step] 26)) (.cells #[.int .i64 0, .int .i64 0, .int .i64 0, .int .i64 0, .int .u64 0, .int .u64 0, .string ⟨#[]⟩, .int .i64 0, .int .i64 0, .int .u64 0, .int .u64 0, .string ⟨#[]⟩] 33)) #[Value.int .i64 0, Value.int .i64 0, Value.int .i64 0, Value.int .i64 0, Value.int .u64 0, Value.int .u64 0, Value.string ⟨#[]⟩, Value.int .i64 0, Value.int .i64 0, Value.int .u64 0, Value.int .u64 0, Value.string ⟨#[]⟩] 33
  simp only [World.size_alloc] at Rp
  have mp := hb0.size
  replace hb0 := hb0.alloc hb0.size (.cells #[Value.int .i64 0, Value.int .i64 0, Value.int .i64 0, Value.int .i64 0, Value.int .u64 0, Value.int .u64 0, Value.string ⟨#[]⟩, Value.int .i64 0, Value.int .i64 0, Value.int .u64 0, Value.int .u64 0, Value.string ⟨#[]⟩] 33)
  (try clear c0 c1 c2 c3 c4 c5 c6); obtain ⟨c0, c1, c2, c3, c4, c5, c6⟩ := row7 Rc
  (try clear r0 r1 r2 r3 r4 r5 r6 r7 r8 r9 r10 r11); obtain ⟨r0, r1, r2, r3, r4, r5, r6, r7, r8, r9, r10, r11⟩ := row12 Rr
  (try clear p0 p1 p2 p3 p4 p5 p6 p7 p8 p9 p10 p11); obtain ⟨p0, p1, p2, p3, p4, p5, p6, p7, p8, p9, p10, p11⟩ := row12 Rp
  generalize (World.alloc (World.alloc (World.alloc w (.cells #[.int .i64 1, .int .i64 d0.kind, .int .i64 d0.side, .int .i64 d0.step, .int .i64 d1.kind, .int .i64 d1.side, .int .i64 d1.step] 26)) (.cells #[.int .i64 0, .int .i64 0, .int .i64 0, .int .i64 0, .int .u64 0, .int .u64 0, .string ⟨#[]⟩, .int .i64 0, .int .i64 0, .int .u64 0, .int .u64 0, .string ⟨#[]⟩] 33)) (.cells #[Value.int .i64 0, Value.int .i64 0, Value.int .i64 0, Value.int .i64 0, Value.int .u64 0, Value.int .u64 0, Value.string ⟨#[]⟩, Value.int .i64 0, Value.int .i64 0, Value.int .u64 0, Value.int .u64 0, Value.string ⟨#[]⟩] 33)) = w1 at *
  refine wp_loop_rounds 3 ?_
  rw [rounds_succ]
  go_wp2_with fail
  refine (HS _).mono ?_
  rintro e w2 ⟨rfl, hb⟩
  replace Rc := Rc.later hb
  replace Rr := Rr.later hb
  replace Rp := Rp.later hb
  replace hb0 := below_step hb0 hb
  clear hb
  have lc := Rc.lt
  have lr := Rr.lt
  have lp := Rp.lt
  (try clear c0 c1 c2 c3 c4 c5 c6); obtain ⟨c0, c1, c2, c3, c4, c5, c6⟩ := row7 Rc
  (try clear r0 r1 r2 r3 r4 r5 r6 r7 r8 r9 r10 r11); obtain ⟨r0, r1, r2, r3, r4, r5, r6, r7, r8, r9, r10, r11⟩ := row12 Rr
  (try clear p0 p1 p2 p3 p4 p5 p6 p7 p8 p9 p10 p11); obtain ⟨p0, p1, p2, p3, p4, p5, p6, p7, p8, p9, p10, p11⟩ := row12 Rp
  go_wp2_with fail
  refine (HD0 _).mono ?_
  rintro e w3 ⟨rfl, hb⟩
  replace Rc := Rc.later hb
  replace Rr := Rr.later hb
  replace Rp := Rp.later hb
  replace hb0 := below_step hb0 hb
  clear hb
  have lc := Rc.lt
  have lr := Rr.lt
  have lp := Rp.lt
  (try clear c0 c1 c2 c3 c4 c5 c6); obtain ⟨c0, c1, c2, c3, c4, c5, c6⟩ := row7 Rc
  (try clear r0 r1 r2 r3 r4 r5 r6 r7 r8 r9 r10 r11); obtain ⟨r0, r1, r2, r3, r4, r5, r6, r7, r8, r9, r10, r11⟩ := row12 Rr
  (try clear p0 p1 p2 p3 p4 p5 p6 p7 p8 p9 p10 p11); obtain ⟨p0, p1, p2, p3, p4, p5, p6, p7, p8, p9, p10, p11⟩ := row12 Rp
  have pf0 := Rp.frozen 0
  have pf1 := Rp.frozen 1
  have pf2 := Rp.frozen 2
  have pf3 := Rp.frozen 3
  have pf4 := Rp.frozen 4
  have pf5 := Rp.frozen 5
  have pf6 := Rp.frozen 6
  have pf7 := Rp.frozen 7
  have pf8 := Rp.frozen 8
  have pf9 := Rp.frozen 9
  have pf10 := Rp.frozen 10
  have pf11 := Rp.frozen 11
  go_wp2_with fail
  obtain ⟨w4, hwn⟩ : ∃ wz, wz = (World.setCell w3 ⟨(w.heap.size + 1 + 1), 0, none⟩ (.int .i64 D0)) := ⟨_, rfl⟩
  rw [← hwn]
  replace hwn : w4 = World.setCells w3 (w.heap.size + 1 + 1) 0 [.int .i64 D0] := hwn
  replace Rp : Row w4 (w.heap.size + 1 + 1) #[.int .i64 D0, .int .i64 0, .int .i64 0, .int .i64 0, .int .u64 0, .int .u64 0, .string ⟨#[]⟩, .int .i64 0, .int .i64 0, .int .u64 0, .int .u64 0, .string ⟨#[]⟩] 33 := psm hwn Rp (by simp [setL])
  replace Rc := prf hwn Rc
  replace Rr := prf hwn Rr
  replace hb0 := pbl hwn hb0
  clear hwn c0 c1 c2 c3 c4 c5 c6 r0 r1 r2 r3 r4 r5 r6 r7 r8 r9 r10 r11 p0 p1 p2 p3 p4 p5 p6 p7 p8 p9 p10 p11
  (try clear pf0 pf1 pf2 pf3 pf4 pf5 pf6 pf7 pf8 pf9 pf10 pf11)
  (try clear c0 c1 c2 c3 c4 c5 c6); obtain ⟨c0, c1, c2, c3, c4, c5, c6⟩ := row7 Rc
  (try clear r0 r1 r2 r3 r4 r5 r6 r7 r8 r9 r10 r11); obtain ⟨r0, r1, r2, r3, r4, r5, r6, r7, r8, r9, r10, r11⟩ := row12 Rr
  (try clear p0 p1 p2 p3 p4 p5 p6 p7 p8 p9 p10 p11); obtain ⟨p0, p1, p2, p3, p4, p5, p6, p7, p8, p9, p10, p11⟩ := row12 Rp
  go_wp2_with fail
  refine (HK0 _).mono ?_
  rintro e w5 ⟨rfl, hb⟩
  replace Rc := Rc.later hb
  replace Rr := Rr.later hb
  replace Rp := Rp.later hb
  replace hb0 := below_step hb0 hb
  clear hb
  have lc := Rc.lt
  have lr := Rr.lt
  have lp := Rp.lt
  (try clear c0 c1 c2 c3 c4 c5 c6); obtain ⟨c0, c1, c2, c3, c4, c5, c6⟩ := row7 Rc
  (try clear r0 r1 r2 r3 r4 r5 r6 r7 r8 r9 r10 r11); obtain ⟨r0, r1, r2, r3, r4, r5, r6, r7, r8, r9, r10, r11⟩ := row12 Rr
  (try clear p0 p1 p2 p3 p4 p5 p6 p7 p8 p9 p10 p11); obtain ⟨p0, p1, p2, p3, p4, p5, p6, p7, p8, p9, p10, p11⟩ := row12 Rp
  have pf0 := Rp.frozen 0
  have pf1 := Rp.frozen 1
  have pf2 := Rp.frozen 2
  have pf3 := Rp.frozen 3
  have pf4 := Rp.frozen 4
  have pf5 := Rp.frozen 5
  have pf6 := Rp.frozen 6
  have pf7 := Rp.frozen 7
  have pf8 := Rp.frozen 8
  have pf9 := Rp.frozen 9
  have pf10 := Rp.frozen 10
  have pf11 := Rp.frozen 11
  go_wp2_with fail
  obtain ⟨w6, hwn⟩ : ∃ wz, wz = (World.setCell (World.setCell (World.setCell (World.setCell (World.setCell w5 ⟨(w.heap.size + 1 + 1), 2, none⟩ (.int .i64 u0.kind)) ⟨(w.heap.size + 1 + 1), 3, none⟩ (.int .i64 u0.len)) ⟨(w.heap.size + 1 + 1), 4, none⟩ (.int .u64 u0.h)) ⟨(w.heap.size + 1 + 1), 5, none⟩ (.int .u64 u0.l)) ⟨(w.heap.size + 1 + 1), 6, none⟩ (.string ⟨u0.path.toArray⟩)) := ⟨_, rfl⟩
  rw [← hwn]
  replace hwn : w6 = World.setCells w5 (w.heap.size + 1 + 1) 2 [.int .i64 u0.kind, .int .i64 u0.len, .int .u64 u0.h, .int .u64 u0.l, .string ⟨u0.path.toArray⟩] := hwn
  replace Rp : Row w6 (w.heap.size + 1 + 1) #[.int .i64 D0, .int .i64 0, .int .i64 u0.kind, .int .i64 u0.len, .int .u64 u0.h, .int .u64 u0.l, .string ⟨u0.path.toArray⟩, .int .i64 0, .int .i64 0, .int .u64 0, .int .u64 0, .string ⟨#[]⟩] 33 := psm hwn Rp (by simp [setL])
  replace Rc := prf hwn Rc
  replace Rr := prf hwn Rr
  replace hb0 := pbl hwn hb0
  clear hwn c0 c1 c2 c3 c4 c5 c6 r0 r1 r2 r3 r4 r5 r6 r7 r8 r9 r10 r11 p0 p1 p2 p3 p4 p5 p6 p7 p8 p9 p10 p11
  (try clear pf0 pf1 pf2 pf3 pf4 pf5 pf6 pf7 pf8 pf9 pf10 pf11)
  (try clear c0 c1 c2 c3 c4 c5 c6); obtain ⟨c0, c1, c2, c3, c4, c5, c6⟩ := row7 Rc
  (try clear r0 r1 r2 r3 r4 r5 r6 r7 r8 r9 r10 r11); obtain ⟨r0, r1, r2, r3, r4, r5, r6, r7, r8, r9, r10, r11⟩ := row12 Rr
  (try clear p0 p1 p2 p3 p4 p5 p6 p7 p8 p9 p10 p11); obtain ⟨p0, p1, p2, p3, p4, p5, p6, p7, p8, p9, p10, p11⟩ := row12 Rp
  rw [rounds_succ]
  have rf0 := Rr.frozen 0
  have rf1 := Rr.frozen 1
  have rf2 := Rr.frozen 2
  have rf3 := Rr.frozen 3
  have rf4 := Rr.frozen 4
  have rf5 := Rr.frozen 5
  have rf6 := Rr.frozen 6
  have rf7 := Rr.frozen 7
  have rf8 := Rr.frozen 8
  have rf9 := Rr.frozen 9
  have rf10 := Rr.frozen 10
  have rf11 := Rr.frozen 11
  go_wp2
  obtain ⟨w7, hwn⟩ : ∃ wz, wz = (World.setCell (World.setCell (World.setCell (World.setCell (World.setCell (World.setCell (World.setCell (World.setCell (World.setCell (World.setCell (World.setCell (World.setCell w6 ⟨(w.heap.size + 1), 0, none⟩ (.int .i64 D0)) ⟨(w.heap.size + 1), 1, none⟩ (.int .i64 0)) ⟨(w.heap.size + 1), 2, none⟩ (.int .i64 u0.kind)) ⟨(w.heap.size + 1), 3, none⟩ (.int .i64 u0.len)) ⟨(w.heap.size + 1), 4, none⟩ (.int .u64 u0.h)) ⟨(w.heap.size + 1), 5, none⟩ (.int .u64 u0.l)) ⟨(w.heap.size + 1), 6, none⟩ (.string ⟨u0.path.toArray⟩)) ⟨(w.heap.size + 1), 7, none⟩ (.int .i64 0)) ⟨(w.heap.size + 1), 8, none⟩ (.int .i64 0)) ⟨(w.heap.size + 1), 9, none⟩ (.int .u64 0)) ⟨(w.heap.size + 1), 10, none⟩ (.int .u64 0)) ⟨(w.heap.size + 1), 11, none⟩ (.string ⟨#[]⟩)) := ⟨_, rfl⟩
  rw [← hwn]
  replace hwn : w7 = World.setCells w6 (w.heap.size + 1) 0 [.int .i64 D0, .int .i64 0, .int .i64 u0.kind, .int .i64 u0.len, .int .u64 u0.h, .int .u64 u0.l, .string ⟨u0.path.toArray⟩, .int .i64 0, .int .i64 0, .int .u64 0, .int .u64 0, .string ⟨#[]⟩] := hwn
  replace Rr : Row w7 (w.heap.size + 1) #[.int .i64 D0, .int .i64 0, .int .i64 u0.kind, .int .i64 u0.len, .int .u64 u0.h, .int .u64 u0.l, .string ⟨u0.path.toArray⟩, .int .i64 0, .int .i64 0, .int .u64 0, .int .u64 0, .string ⟨#[]⟩] 33 := psm hwn Rr (by simp [setL])
  replace Rc := prf hwn Rc
  replace Rp := prf hwn Rp
  replace hb0 := pbl hwn hb0
  clear hwn c0 c1 c2 c3 c4 c5 c6 r0 r1 r2 r3 r4 r5 r6 r7 r8 r9 r10 r11 p0 p1 p2 p3 p4 p5 p6 p7 p8 p9 p10 p11
  (try clear rf0 rf1 rf2 rf3 rf4 rf5 rf6 rf7 rf8 rf9 rf10 rf11)
  (try clear c0 c1 c2 c3 c4 c5 c6); obtain ⟨c0, c1, c2, c3, c4, c5, c6⟩ := row7 Rc
  (try clear r0 r1 r2 r3 r4 r5 r6 r7 r8 r9 r10 r11); obtain ⟨r0, r1, r2, r3, r4, r5, r6, r7, r8, r9, r10, r11⟩ := row12 Rr
  (try clear p0 p1 p2 p3 p4 p5 p6 p7 p8 p9 p10 p11); obtain ⟨p0, p1, p2, p3, p4, p5, p6, p7, p8, p9, p10, p11⟩ := row12 Rp
  refine bodyPost_ret (v := .agg #[.int .i64 D0, .int .i64 0, .int .i64 u0.kind, .int .i64 u0.len, .int .u64 u0.h, .int .u64 u0.l, .string ⟨u0.path.toArray⟩, .int .i64 0, .int .i64 0, .int .u64 0, .int .u64 0, .string ⟨#[]⟩]) (by simp [results, Try.results23, go_sem, r0, r1, r2, r3, r4, r5, r6, r7, r8, r9, r10, r11]) rfl ⟨rfl, hb0⟩
set_option maxRecDepth 100000 in
set_option maxHeartbeats 32000000 in
theorem rtop_d (n : Int) (d0 d1 : Dm) (D0 D1 : Int) (u0 u1 : Ke)
    (HS : ∀ w, Calls Try.prog 19 #[sv ⟨2, d0, d1⟩] w fun e w' => e = .returned (.bool true) ∧ Below w.heap.size w w')
    (HD0 : ∀ w, Calls Try.prog 57 #[dv d0] w fun e w' => e = .returned (.int .i64 D0) ∧ Below w.heap.size w w')
    (HK0 : ∀ w, Calls Try.prog 58 #[.int .i64 d0.kind] w fun e w' => e = .returned (kv u0) ∧ Below w.heap.size w w')
    (HD1 : ∀ w, Calls Try.prog 57 #[dv d1] w fun e w' => e = .returned (.int .i64 D1) ∧ Below w.heap.size w w')
    (HK1 : ∀ w, Calls Try.prog 58 #[.int .i64 d1.kind] w fun e w' => e = .returned (kv u1) ∧ Below w.heap.size w w') (w : World) :
    Calls Try.prog 23 #[sv ⟨2, d0, d1⟩] w fun e w' => e = .returned (.agg #[.int .i64 D0, .int .i64 D1, .int .i64 u0.kind, .int .i64 u0.len, .int .u64 u0.h, .int .u64 u0.l, .string ⟨u0.path.toArray⟩, .int .i64 u1.kind, .int .i64 u1.len, .int .u64 u1.h, .int .u64 u1.l, .string ⟨u1.path.toArray⟩]) ∧ Below w.heap.size w w' := by
  unfold sv at *
  (try unfold dv kv at *)
  (try dsimp only at *)
  obtain ⟨Rc, Rr, hb0⟩ := two_rows w #[.int .i64 2, .int .i64 d0.kind, .int .i64 d0.side, .int .i64 d0.step, .int .i64 d1.kind, .int .i64 d1.side, .int .i64 d1.step] #[.int .i64 0, .int .i64 0, .int .i64 0, .int .i64 0, .int .u64 0, .int .u64 0, .string ⟨#[]⟩, .int .i64 0, .int .i64 0, .int .u64 0, .int .u64 0, .string ⟨#[]⟩] 26 33
  (try clear c0 c1 c2 c3 c4 c5 c6); obtain ⟨c0, c1, c2, c3, c4, c5, c6⟩ := row7 Rc
  (try clear r0 r1 r2 r3 r4 r5 r6 r7 r8 r9 r10 r11); obtain ⟨r0, r1, r2, r3, r4, r5, r6, r7, r8, r9, r10, r11⟩ := row12 Rr
  go_enter Try.func23, Try.ntmps23
  go_wp2_with fail
  replace Rc := Rc.alloc (.cells #[Value.int .i64 0, Value.int .i64 0, Value.int .i64 0, Value.int .i64 0, Value.int .u64 0, Value.int .u64 0, Value.string ⟨#[]⟩, Value.int .i64 0, Value.int .i64 0, Value.int .u64 0, Value.int .u64 0, Value.string ⟨#[]⟩] 33)
  replace Rr := Rr.alloc (.cells #[Value.int .i64 0, Value.int .i64 0, Value.int .i64 0, Value.int .i64 0, Value.int .u64 0, Value.int .u64 0, Value.string ⟨#[]⟩, Value.int .i64 0, Value.int .i64 0, Value.int .u64 0, Value.int .u64 0, Value.string ⟨#[]⟩] 33)
  have Rp := Row.new (World.alloc (World.alloc w (.cells #[.int .i64 2, .int .i64 d0.kind, .int .i64 d0.side, .int .i64 d0.step, .int .i64 d1.kind, .int .i64 d1.side, .int .i64 d1.step] 26)) (.cells #[.int .i64 0, .int .i64 0, .int .i64 0, .int .i64 0, .int .u64 0, .int .u64 0, .string ⟨#[]⟩, .int .i64 0, .int .i64 0, .int .u64 0, .int .u64 0, .string ⟨#[]⟩] 33)) #[Value.int .i64 0, Value.int .i64 0, Value.int .i64 0, Value.int .i64 0, Value.int .u64 0, Value.int .u64 0, Value.string ⟨#[]⟩, Value.int .i64 0, Value.int .i64 0, Value.int .u64 0, Value.int .u64 0, Value.string ⟨#[]⟩] 33
  simp only [World.size_alloc] at Rp
  have mp := hb0.size
  replace hb0 := hb0.alloc hb0.size (.cells #[Value.int .i64 0, Value.int .i64 0, Value.int .i64 0, Value.int .i64 0, Value.int .u64 0, Value.int .u64 0, Value.string ⟨#[]⟩, Value.int .i64 0, Value.int .i64 0, Value.int .u64 0, Value.int .u64 0, Value.string ⟨#[]⟩] 33)
  (try clear c0 c1 c2 c3 c4 c5 c6); obtain ⟨c0, c1, c2, c3, c4, c5, c6⟩ := row7 Rc
  (try clear r0 r1 r2 r3 r4 r5 r6 r7 r8 r9 r10 r11); obtain ⟨r0, r1, r2, r3, r4, r5, r6, r7, r8, r9, r10, r11⟩ := row12 Rr
  (try clear p0 p1 p2 p3 p4 p5 p6 p7 p8 p9 p10 p11); obtain ⟨p0, p1, p2, p3, p4, p5, p6, p7, p8, p9, p10, p11⟩ := row12 Rp
  generalize (World.alloc (World.alloc (World.alloc w (.cells #[.int .i64 2, .int .i64 d0.kind, .int .i64 d0.side, .int .i64 d0.step, .int .i64 d1.kind, .int .i64 d1.side, .int .i64 d1.step] 26)) (.cells #[.int .i64 0, .int .i64 0, .int .i64 0, .int .i64 0, .int .u64 0, .int .u64 0, .string ⟨#[]⟩, .int .i64 0, .int .i64 0, .int .u64 0, .int .u64 0, .string ⟨#[]⟩] 33)) (.cells #[Value.int .i64 0, Value.int .i64 0, Value.int .i64 0, Value.int .i64 0, Value.int .u64 0, Value.int .u64 0, Value.string ⟨#[]⟩, Value.int .i64 0, Value.int .i64 0, Value.int .u64 0, Value.int .u64 0, Value.string ⟨#[]⟩] 33)) = w1 at *
  refine wp_loop_rounds 3 ?_
  rw [rounds_succ]
  go_wp2_with fail
  refine (HS _).mono ?_
  rintro e w2 ⟨rfl, hb⟩
  replace Rc := Rc.later hb
  replace Rr := Rr.later hb
  replace Rp := Rp.later hb
  replace hb0 := below_step hb0 hb
  clear hb
  have lc := Rc.lt
  have lr := Rr.lt
  have lp := Rp.lt
  (try clear c0 c1 c2 c3 c4 c5 c6); obtain ⟨c0, c1, c2, c3, c4, c5, c6⟩ := row7 Rc
  (try clear r0 r1 r2 r3 r4 r5 r6 r7 r8 r9 r10 r11); obtain ⟨r0, r1, r2, r3, r4, r5, r6, r7, r8, r9, r10, r11⟩ := row12 Rr
  (try clear p0 p1 p2 p3 p4 p5 p6 p7 p8 p9 p10 p11); obtain ⟨p0, p1, p2, p3, p4, p5, p6, p7, p8, p9, p10, p11⟩ := row12 Rp
  go_wp2_with fail
  refine (HD0 _).mono ?_
  rintro e w3 ⟨rfl, hb⟩
  replace Rc := Rc.later hb
  replace Rr := Rr.later hb
  replace Rp := Rp.later hb
  replace hb0 := below_step hb0 hb
  clear hb
  have lc := Rc.lt
  have lr := Rr.lt
  have lp := Rp.lt
  (try clear c0 c1 c2 c3 c4 c5 c6); obtain ⟨c0, c1, c2, c3, c4, c5, c6⟩ := row7 Rc
  (try clear r0 r1 r2 r3 r4 r5 r6 r7 r8 r9 r10 r11); obtain ⟨r0, r1, r2, r3, r4, r5, r6, r7, r8, r9, r10, r11⟩ := row12 Rr
  (try clear p0 p1 p2 p3 p4 p5 p6 p7 p8 p9 p10 p11); obtain ⟨p0, p1, p2, p3, p4, p5, p6, p7, p8, p9, p10, p11⟩ := row12 Rp
  have pf0 := Rp.frozen 0
  have pf1 := Rp.frozen 1
  have pf2 := Rp.frozen 2
  have pf3 := Rp.frozen 3
  have pf4 := Rp.frozen 4
  have pf5 := Rp.frozen 5
  have pf6 := Rp.frozen 6
  have pf7 := Rp.frozen 7
  have pf8 := Rp.frozen 8
  have pf9 := Rp.frozen 9
  have pf10 := Rp.frozen 10
  have pf11 := Rp.frozen 11
  go_wp2_with fail
  obtain ⟨w4, hwn⟩ : ∃ wz, wz = (World.setCell w3 ⟨(w.heap.size + 1 + 1), 0, none⟩ (.int .i64 D0)) := ⟨_, rfl⟩
  rw [← hwn]
  replace hwn : w4 = World.setCells w3 (w.heap.size + 1 + 1) 0 [.int .i64 D0] := hwn
  replace Rp : Row w4 (w.heap.size + 1 + 1) #[.int .i64 D0, .int .i64 0, .int .i64 0, .int .i64 0, .int .u64 0, .int .u64 0, .string ⟨#[]⟩, .int .i64 0, .int .i64 0, .int .u64 0, .int .u64 0, .string ⟨#[]⟩] 33 := psm hwn Rp (by simp [setL])
  replace Rc := prf hwn Rc
  replace Rr := prf hwn Rr
  replace hb0 := pbl hwn hb0
  clear hwn c0 c1 c2 c3 c4 c5 c6 r0 r1 r2 r3 r4 r5 r6 r7 r8 r9 r10 r11 p0 p1 p2 p3 p4 p5 p6 p7 p8 p9 p10 p11
  (try clear pf0 pf1 pf2 pf3 pf4 pf5 pf6 pf7 pf8 pf9 pf10 pf11)
  (try clear c0 c1 c2 c3 c4 c5 c6); obtain ⟨c0, c1, c2, c3, c4, c5, c6⟩ := row7 Rc
  (try clear r0 r1 r2 r3 r4 r5 r6 r7 r8 r9 r10 r11); obtain ⟨r0, r1, r2, r3, r4, r5, r6, r7, r8, r9, r10, r11⟩ := row12 Rr
  (try clear p0 p1 p2 p3 p4 p5 p6 p7 p8 p9 p10 p11); obtain ⟨p0, p1, p2, p3, p4, p5, p6, p7, p8, p9, p10, p11⟩ := row12 Rp
  go_wp2_with fail
  refine (HK0 _).mono ?_
  rintro e w5 ⟨rfl, hb⟩
  replace Rc := Rc.later hb
  replace Rr := Rr.later hb
  replace Rp := Rp.later hb
  replace hb0 := below_step hb0 hb
  clear hb
  have lc := Rc.lt
  have lr := Rr.lt
  have lp := Rp.lt
  (try clear c0 c1 c2 c3 c4 c5 c6); obtain ⟨c0, c1, c2, c3, c4, c5, c6⟩ := row7 Rc
  (try clear r0 r1 r2 r3 r4 r5 r6 r7 r8 r9 r10 r11); obtain ⟨r0, r1, r2, r3, r4, r5, r6, r7, r8, r9, r10, r11⟩ := row12 Rr
  (try clear p0 p1 p2 p3 p4 p5 p6 p7 p8 p9 p10 p11); obtain ⟨p0, p1, p2, p3, p4, p5, p6, p7, p8, p9, p10, p11⟩ := row12 Rp
  have pf0 := Rp.frozen 0
  have pf1 := Rp.frozen 1
  have pf2 := Rp.frozen 2
  have pf3 := Rp.frozen 3
  have pf4 := Rp.frozen 4
  have pf5 := Rp.frozen 5
  have pf6 := Rp.frozen 6
  have pf7 := Rp.frozen 7
  have pf8 := Rp.frozen 8
  have pf9 := Rp.frozen 9
  have pf10 := Rp.frozen 10
  have pf11 := Rp.frozen 11
  go_wp2_with fail
  obtain ⟨w6, hwn⟩ : ∃ wz, wz = (World.setCell (World.setCell (World.setCell (World.setCell (World.setCell w5 ⟨(w.heap.size + 1 + 1), 2, none⟩ (.int .i64 u0.kind)) ⟨(w.heap.size + 1 + 1), 3, none⟩ (.int .i64 u0.len)) ⟨(w.heap.size + 1 + 1), 4, none⟩ (.int .u64 u0.h)) ⟨(w.heap.size + 1 + 1), 5, none⟩ (.int .u64 u0.l)) ⟨(w.heap.size + 1 + 1), 6, none⟩ (.string ⟨u0.path.toArray⟩)) := ⟨_, rfl⟩
  rw [← hwn]
  replace hwn : w6 = World.setCells w5 (w.heap.size + 1 + 1) 2 [.int .i64 u0.kind, .int .i64 u0.len, .int .u64 u0.h, .int .u64 u0.l, .string ⟨u0.path.toArray⟩] := hwn
  replace Rp : Row w6 (w.heap.size + 1 + 1) #[.int .i64 D0, .int .i64 0, .int .i64 u0.kind, .int .i64 u0.len, .int .u64 u0.h, .int .u64 u0.l, .string ⟨u0.path.toArray⟩, .int .i64 0, .int .i64 0, .int .u64 0, .int .u64 0, .string ⟨#[]⟩] 33 := psm hwn Rp (by simp [setL])
  replace Rc := prf hwn Rc
  replace Rr := prf hwn Rr
  replace hb0 := pbl hwn hb0
  clear hwn c0 c1 c2 c3 c4 c5 c6 r0 r1 r2 r3 r4 r5 r6 r7 r8 r9 r10 r11 p0 p1 p2 p3 p4 p5 p6 p7 p8 p9 p10 p11
  (try clear pf0 pf1 pf2 pf3 pf4 pf5 pf6 pf7 pf8 pf9 pf10 pf11)
  (try clear c0 c1 c2 c3 c4 c5 c6); obtain ⟨c0, c1, c2, c3, c4, c5, c6⟩ := row7 Rc
  (try clear r0 r1 r2 r3 r4 r5 r6 r7 r8 r9 r10 r11); obtain ⟨r0, r1, r2, r3, r4, r5, r6, r7, r8, r9, r10, r11⟩ := row12 Rr
  (try clear p0 p1 p2 p3 p4 p5 p6 p7 p8 p9 p10 p11); obtain ⟨p0, p1, p2, p3, p4, p5, p6, p7, p8, p9, p10, p11⟩ := row12 Rp
  rw [rounds_succ]
  go_wp2_with fail
  refine (HS _).mono ?_
  rintro e w7 ⟨rfl, hb⟩
  replace Rc := Rc.later hb
  replace Rr := Rr.later hb
  replace Rp := Rp.later hb
  replace hb0 := below_step hb0 hb
  clear hb
  have lc := Rc.lt
  have lr := Rr.lt
  have lp := Rp.lt
  (try clear c0 c1 c2 c3 c4 c5 c6); obtain ⟨c0, c1, c2, c3, c4, c5, c6⟩ := row7 Rc
  (try clear r0 r1 r2 r3 r4 r5 r6 r7 r8 r9 r10 r11); obtain ⟨r0, r1, r2, r3, r4, r5, r6, r7, r8, r9, r10, r11⟩ := row12 Rr
  (try clear p0 p1 p2 p3 p4 p5 p6 p7 p8 p9 p10 p11); obtain ⟨p0, p1, p2, p3, p4, p5, p6, p7, p8, p9, p10, p11⟩ := row12 Rp
  go_wp2_with fail
  refine (HD1 _).mono ?_
  rintro e w8 ⟨rfl, hb⟩
  replace Rc := Rc.later hb
  replace Rr := Rr.later hb
  replace Rp := Rp.later hb
  replace hb0 := below_step hb0 hb
  clear hb
  have lc := Rc.lt
  have lr := Rr.lt
  have lp := Rp.lt
  (try clear c0 c1 c2 c3 c4 c5 c6); obtain ⟨c0, c1, c2, c3, c4, c5, c6⟩ := row7 Rc
  (try clear r0 r1 r2 r3 r4 r5 r6 r7 r8 r9 r10 r11); obtain ⟨r0, r1, r2, r3, r4, r5, r6, r7, r8, r9, r10, r11⟩ := row12 Rr
  (try clear p0 p1 p2 p3 p4 p5 p6 p7 p8 p9 p10 p11); obtain ⟨p0, p1, p2, p3, p4, p5, p6, p7, p8, p9, p10, p11⟩ := row12 Rp
  have pf0 := Rp.frozen 0
  have pf1 := Rp.frozen 1
  have pf2 := Rp.frozen 2
  have pf3 := Rp.frozen 3
  have pf4 := Rp.frozen 4
  have pf5 := Rp.frozen 5
  have pf6 := Rp.frozen 6
  have pf7 := Rp.frozen 7
  have pf8 := Rp.frozen 8
  have pf9 := Rp.frozen 9
  have pf10 := Rp.frozen 10
  have pf11 := Rp.frozen 11
  go_wp2_with fail
  obtain ⟨w9, hwn⟩ : ∃ wz, wz = (World.setCell w8 ⟨(w.heap.size + 1 + 1), 1, none⟩ (.int .i64 D1)) := ⟨_, rfl⟩
  rw [← hwn]
  replace hwn : w9 = World.setCells w8 (w.heap.size + 1 + 1) 1 [.int .i64 D1] := hwn
  replace Rp : Row w9 (w.heap.size + 1 + 1) #[.int .i64 D0, .int .i64 D1, .int .i64 u0.kind, .int .i64 u0.len, .int .u64 u0.h, .int .u64 u0.l, .string ⟨u0.path.toArray⟩, .int .i64 0, .int .i64 0, .int .u64 0, .int .u64 0, .string ⟨#[]⟩] 33 := psm hwn Rp (by simp [setL])
  replace Rc := prf hwn Rc
  replace Rr := prf hwn Rr
  replace hb0 := pbl hwn hb0
  clear hwn c0 c1 c2 c3 c4 c5 c6 r0 r1 r2 r3 r4 r5 r6 r7 r8 r9 r10 r11 p0 p1 p2 p3 p4 p5 p6 p7 p8 p9 p10 p11
  (try clear pf0 pf1 pf2 pf3 pf4 pf5 pf6 pf7 pf8 pf9 pf10 pf11)
  (try clear c0 c1 c2 c3 c4 c5 c6); obtain ⟨c0, c1, c2, c3, c4, c5, c6⟩ := row7 Rc
  (try clear r0 r1 r2 r3 r4 r5 r6 r7 r8 r9 r10 r11); obtain ⟨r0, r1, r2, r3, r4, r5, r6, r7, r8, r9, r10, r11⟩ := row12 Rr
  (try clear p0 p1 p2 p3 p4 p5 p6 p7 p8 p9 p10 p11); obtain ⟨p0, p1, p2, p3, p4, p5, p6, p7, p8, p9, p10, p11⟩ := row12 Rp
  go_wp2_with fail
  refine (HK1 _).mono ?_
  rintro e w10 ⟨rfl, hb⟩
  replace Rc := Rc.later hb
  replace Rr := Rr.later hb
  replace Rp := Rp.later hb
  replace hb0 := below_step hb0 hb
  clear hb
  have lc := Rc.lt
  have lr := Rr.lt
  have lp := Rp.lt
  (try clear c0 c1 c2 c3 c4 c5 c6); obtain ⟨c0, c1, c2, c3, c4, c5, c6⟩ := row7 Rc
  (try clear r0 r1 r2 r3 r4 r5 r6 r7 r8 r9 r10 r11); obtain ⟨r0, r1, r2, r3, r4, r5, r6, r7, r8, r9, r10, r11⟩ := row12 Rr
  (try clear p0 p1 p2 p3 p4 p5 p6 p7 p8 p9 p10 p11); obtain ⟨p0, p1, p2, p3, p4, p5, p6, p7, p8, p9, p10, p11⟩ := row12 Rp
  have pf0 := Rp.frozen 0
  have pf1 := Rp.frozen 1
  have pf2 := Rp.frozen 2
  have pf3 := Rp.frozen 3
  have pf4 := Rp.frozen 4
  have pf5 := Rp.frozen 5
  have pf6 := Rp.frozen 6
  have pf7 := Rp.frozen 7
  have pf8 := Rp.frozen 8
  have pf9 := Rp.frozen 9
  have pf10 := Rp.frozen 10
  have pf11 := Rp.frozen 11
  go_wp2_with fail
  obtain ⟨w11, hwn⟩ : ∃ wz, wz = (World.setCell (World.setCell (World.setCell (World.setCell (World.setCell w10 ⟨(w.heap.size + 1 + 1), 7, none⟩ (.int .i64 u1.kind)) ⟨(w.heap.size + 1 + 1), 8, none⟩ (.int .i64 u1.len)) ⟨(w.heap.size + 1 + 1), 9, none⟩ (.int .u64 u1.h)) ⟨(w.heap.size + 1 + 1), 10, none⟩ (.int .u64 u1.l)) ⟨(w.heap.size + 1 + 1), 11, none⟩ (.string ⟨u1.path.toArray⟩)) := ⟨_, rfl⟩
  rw [← hwn]
  replace hwn : w11 = World.setCells w10 (w.heap.size + 1 + 1) 7 [.int .i64 u1.kind, .int .i64 u1.len, .int .u64 u1.h, .int .u64 u1.l, .string ⟨u1.path.toArray⟩] := hwn
  replace Rp : Row w11 (w.heap.size + 1 + 1) #[.int .i64 D0, .int .i64 D1, .int .i64 u0.kind, .int .i64 u0.len, .int .u64 u0.h, .int .u64 u0.l, .string ⟨u0.path.toArray⟩, .int .i64 u1.kind, .int .i64 u1.len, .int .u64 u1.h, .int .u64 u1.l, .string ⟨u1.path.toArray⟩] 33 := psm hwn Rp (by simp [setL])
  replace Rc := prf hwn Rc
  replace Rr := prf hwn Rr
  replace hb0 := pbl hwn hb0
  clear hwn c0 c1 c2 c3 c4 c5 c6 r0 r1 r2 r3 r4 r5 r6 r7 r8 r9 r10 r11 p0 p1 p2 p3 p4 p5 p6 p7 p8 p9 p10 p11
  (try clear pf0 pf1 pf2 pf3 pf4 pf5 pf6 pf7 pf8 pf9 pf10 pf11)
  (try clear c0 c1 c2 c3 c4 c5 c6); obtain ⟨c0, c1, c2, c3, c4, c5, c6⟩ := row7 Rc
  (try clear r0 r1 r2 r3 r4 r5 r6 r7 r8 r9 r10 r11); obtain ⟨r0, r1, r2, r3, r4, r5, r6, r7, r8, r9, r10, r11⟩ := row12 Rr
  (try clear p0 p1 p2 p3 p4 p5 p6 p7 p8 p9 p10 p11); obtain ⟨p0, p1, p2, p3, p4, p5, p6, p7, p8, p9, p10, p11⟩ := row12 Rp
  rw [rounds_succ]
  have rf0 := Rr.frozen 0
  have rf1 := Rr.frozen 1
  have rf2 := Rr.frozen 2
  have rf3 := Rr.frozen 3
  have rf4 := Rr.frozen 4
  have rf5 := Rr.frozen 5
  have rf6 := Rr.frozen 6
  have rf7 := Rr.frozen 7
  have rf8 := Rr.frozen 8
  have rf9 := Rr.frozen 9
  have rf10 := Rr.frozen 10
  have rf11 := Rr.frozen 11
  go_wp2
  obtain ⟨w12, hwn⟩ : ∃ wz, wz = (World.setCell (World.setCell (World.setCell (World.setCell (World.setCell (World.setCell (World.setCell (World.setCell (World.setCell (World.setCell (World.setCell (World.setCell w11 ⟨(w.heap.size + 1), 0, none⟩ (.int .i64 D0)) ⟨(w.heap.size + 1), 1, none⟩ (.int .i64 D1)) ⟨(w.heap.size + 1), 2, none⟩ (.int .i64 u0.kind)) ⟨(w.heap.size + 1), 3, none⟩ (.int .i64 u0.len)) ⟨(w.heap.size + 1), 4, none⟩ (.int .u64 u0.h)) ⟨(w.heap.size + 1), 5, none⟩ (.int .u64 u0.l)) ⟨(w.heap.size + 1), 6, none⟩ (.string ⟨u0.path.toArray⟩)) ⟨(w.heap.size + 1), 7, none⟩ (.int .i64 u1.kind)) ⟨(w.heap.size + 1), 8, none⟩ (.int .i64 u1.len)) ⟨(w.heap.size + 1), 9, none⟩ (.int .u64 u1.h)) ⟨(w.heap.size + 1), 10, none⟩ (.int .u64 u1.l)) ⟨(w.heap.size + 1), 11, none⟩ (.string ⟨u1.path.toArray⟩)) := ⟨_, rfl⟩
  rw [← hwn]
  replace hwn : w12 = World.setCells w11 (w.heap.size + 1) 0 [.int .i64 D0, .int .i64 D1, .int .i64 u0.kind, .int .i64 u0.len, .int .u64 u0.h, .int .u64 u0.l, .string ⟨u0.path.toArray⟩, .int .i64 u1.kind, .int .i64 u1.len, .int .u64 u1.h, .int .u64 u1.l, .string ⟨u1.path.toArray⟩] := hwn
  replace Rr : Row w12 (w.heap.size + 1) #[.int .i64 D0, .int .i64 D1, .int .i64 u0.kind, .int .i64 u0.len, .int .u64 u0.h, .int .u64 u0.l, .string ⟨u0.path.toArray⟩, .int .i64 u1.kind, .int .i64 u1.len, .int .u64 u1.h, .int .u64 u1.l, .string ⟨u1.path.toArray⟩] 33 := psm hwn Rr (by simp [setL])
  replace Rc := prf hwn Rc
  replace Rp := prf hwn Rp
  replace hb0 := pbl hwn hb0
  clear hwn c0 c1 c2 c3 c4 c5 c6 r0 r1 r2 r3 r4 r5 r6 r7 r8 r9 r10 r11 p0 p1 p2 p3 p4 p5 p6 p7 p8 p9 p10 p11
  (try clear rf0 rf1 rf2 rf3 rf4 rf5 rf6 rf7 rf8 rf9 rf10 rf11)
  (try clear c0 c1 c2 c3 c4 c5 c6); obtain ⟨c0, c1, c2, c3, c4, c5, c6⟩ := row7 Rc
  (try clear r0 r1 r2 r3 r4 r5 r6 r7 r8 r9 r10 r11); obtain ⟨r0, r1, r2, r3, r4, r5, r6, r7, r8, r9, r10, r11⟩ := row12 Rr
  (try clear p0 p1 p2 p3 p4 p5 p6 p7 p8 p9 p10 p11); obtain ⟨p0, p1, p2, p3, p4, p5, p6, p7, p8, p9, p10, p11⟩ := row12 Rp
  refine bodyPost_ret (v := .agg #[.int .i64 D0, .int .i64 D1, .int .i64 u0.kind, .int .i64 u0.len, .int .u64 u0.h, .int .u64 u0.l, .string ⟨u0.path.toArray⟩, .int .i64 u1.kind, .int .i64 u1.len, .int .u64 u1.h, .int .u64 u1.l, .string ⟨u1.path.toArray⟩]) (by simp [results, Try.results23, go_sem, r0, r1, r2, r3, r4, r5, r6, r7, r8, r9, r10, r11]) rfl ⟨rfl, hb0⟩
theorem rtop_t (s : Sp) (w : World) : Calls Try.prog 23 #[sv s] w fun e w' => e = .returned (pv (topP s)) ∧ Below w.heap.size w w' := by
  have HS := rsound_t s
  have HD0 := r8depth_t s.d0
  have HD1 := r8depth_t s.d1
  have HK0 := rroot_t s.d0.kind
  have HK1 := rroot_t s.d1.kind
  have hd := @sound_dims s
  unfold topP
  cases hs : soundS s with
  | false =>
    rw [hs] at HS
    rw [if_neg (by simp)]
    by_cases hn : s.n ≤ 0
    · exact rtop_a s.n s.d0 s.d1 0 0 kz kz hn w
    · exact rtop_b s.n s.d0 s.d1 0 0 kz kz HS (by omega) w
  | true =>
    rw [hs] at HS
    rw [if_pos rfl]
    obtain ⟨_, _, h⟩ := hd hs
    obtain ⟨n, d0, d1⟩ := s
    dsimp only at *
    rcases h with ⟨rfl, rfl⟩ | ⟨rfl, _⟩
    · rw [show depthD dz = 0 from depth_dz, show rootK dz.kind = kz by decide +kernel]
      exact rtop_c 1 d0 dz _ 0 _ kz HS HD0 HK0 w
    · exact rtop_d 2 d0 d1 _ _ _ _ HS HD0 HK0 HD1 HK1 w
end Go.Proofs.Ytbekocknfpekoaa
