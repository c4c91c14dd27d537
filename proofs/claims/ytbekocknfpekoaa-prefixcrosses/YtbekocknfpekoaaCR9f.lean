/- R9f: what the theorem needs of these texts. No conditions beyond those that are written. -/
import Derived.Test.YtbekocknfpekoaaCR9c
namespace Go.Proofs.Ytbekocknfpekoaa
set_option linter.unusedVariables false
set_option linter.unusedSimpArgs false
open Go.RowKit
def cxP (p q : Px) (i j : Bool) : Px := ⟨(crossX p q).a0, (crossX p q).a1, bif i then q.k0 else p.k0, bif j then q.k1 else p.k1⟩
theorem cross_only {s : Sp} {p q x : Px} (h : overP s p x = true) (h' : overP s q x = true) (e0 : x.a0 = (crossX p q).a0) (e1 : x.a1 = (crossX p q).a1) : x = crossX p q := by
  obtain ⟨p1, x1, ⟨p2, p3⟩, p4, p5⟩ := (overP_iff s p x).1 h
  obtain ⟨q1, _, ⟨q2, q3⟩, q4, q5⟩ := (overP_iff s q x).1 h'
  obtain ⟨_, n0, n1⟩ := (right_iff s x).1 x1
  have k0 := onE_cut n0
  have k1 := onE_cut n1
  unfold crossX at *
  dsimp only at *
  refine px_ext ?_ ?_ ?_ ?_ <;> dsimp only
  · exact e0
  · exact e1
  · by_cases g : q.a0 < p.a0
    · rw [if_pos g] at e0 ⊢; rw [q3, ← e0, k0]
    · rw [if_neg g] at e0 ⊢; rw [p3, ← e0, k0]
  · by_cases g : q.a1 < p.a1
    · rw [if_pos g] at e1 ⊢; rw [q5, ← e1, k1]
    · rw [if_neg g] at e1 ⊢; rw [p5, ← e1, k1]
set_option maxRecDepth 100000 in
set_option maxHeartbeats 32000000 in
theorem rcross_w (s : Sp) (p q : Px) (u00 u01 u10 u11 v00 v01 v10 v11 t00 t01 t10 t11 : Bool)
    (m0 m1 : Int) (b0 b1 : Bool) (hb0' : decide (q.a0 < p.a0) = b0) (hb1' : decide (q.a1 < p.a1) = b1) (hm0 : m0 = bif b0 then q.a0 else p.a0) (hm1 : m1 = bif b1 then q.a1 else p.a1)
    (U00 : ∀ w, Calls Try.prog 29 #[sv s, pv p, pv ⟨m0, m1, p.k0, p.k1⟩] w fun e w' => e = .returned (.bool u00) ∧ Below w.heap.size w w')
    (V00 : ∀ w, Calls Try.prog 29 #[sv s, pv q, pv ⟨m0, m1, p.k0, p.k1⟩] w fun e w' => e = .returned (.bool v00) ∧ Below w.heap.size w w')
    (U01 : ∀ w, Calls Try.prog 29 #[sv s, pv p, pv ⟨m0, m1, p.k0, q.k1⟩] w fun e w' => e = .returned (.bool u01) ∧ Below w.heap.size w w')
    (V01 : ∀ w, Calls Try.prog 29 #[sv s, pv q, pv ⟨m0, m1, p.k0, q.k1⟩] w fun e w' => e = .returned (.bool v01) ∧ Below w.heap.size w w')
    (U10 : ∀ w, Calls Try.prog 29 #[sv s, pv p, pv ⟨m0, m1, q.k0, p.k1⟩] w fun e w' => e = .returned (.bool u10) ∧ Below w.heap.size w w')
    (V10 : ∀ w, Calls Try.prog 29 #[sv s, pv q, pv ⟨m0, m1, q.k0, p.k1⟩] w fun e w' => e = .returned (.bool v10) ∧ Below w.heap.size w w')
    (U11 : ∀ w, Calls Try.prog 29 #[sv s, pv p, pv ⟨m0, m1, q.k0, q.k1⟩] w fun e w' => e = .returned (.bool u11) ∧ Below w.heap.size w w')
    (V11 : ∀ w, Calls Try.prog 29 #[sv s, pv q, pv ⟨m0, m1, q.k0, q.k1⟩] w fun e w' => e = .returned (.bool v11) ∧ Below w.heap.size w w')
    (T00 : Hid ((u00 && v00) = t00))
    (T01 : Hid ((u01 && v01) = t01))
    (T10 : Hid ((u10 && v10) = t10))
    (T11 : Hid ((u11 && v11) = t11)) (w : World) :
    Calls Try.prog 31 #[sv s, pv p, pv q] w fun e w' => e = .returned (bif t00 then .tuple #[pv ⟨m0, m1, p.k0, p.k1⟩, .bool true] else bif t01 then .tuple #[pv ⟨m0, m1, p.k0, q.k1⟩, .bool true] else bif t10 then .tuple #[pv ⟨m0, m1, q.k0, p.k1⟩, .bool true] else bif t11 then .tuple #[pv ⟨m0, m1, q.k0, q.k1⟩, .bool true] else .tuple #[pv pz, .bool false]) ∧ Below w.heap.size w w' := by
  unfold pz kz
  unfold sv pv at *
  (try dsimp only at *)
  (try unfold dv kv at *)
  (try dsimp only at *)
  have HM := Lib.hid (And.intro (And.intro hb0' hb1') (And.intro hm0 hm1))
  clear hb0' hb1' hm0 hm1
  obtain ⟨Rc, Rd, Ry, Rr, hb0⟩ := four_rows w #[.int .i64 s.n, .int .i64 s.d0.kind, .int .i64 s.d0.side, .int .i64 s.d0.step, .int .i64 s.d1.kind, .int .i64 s.d1.side, .int .i64 s.d1.step] #[.int .i64 p.a0, .int .i64 p.a1, .int .i64 p.k0.kind, .int .i64 p.k0.len, .int .u64 p.k0.h, .int .u64 p.k0.l, .string ⟨p.k0.path.toArray⟩, .int .i64 p.k1.kind, .int .i64 p.k1.len, .int .u64 p.k1.h, .int .u64 p.k1.l, .string ⟨p.k1.path.toArray⟩] #[.int .i64 q.a0, .int .i64 q.a1, .int .i64 q.k0.kind, .int .i64 q.k0.len, .int .u64 q.k0.h, .int .u64 q.k0.l, .string ⟨q.k0.path.toArray⟩, .int .i64 q.k1.kind, .int .i64 q.k1.len, .int .u64 q.k1.h, .int .u64 q.k1.l, .string ⟨q.k1.path.toArray⟩] #[.int .i64 0, .int .i64 0, .int .i64 0, .int .i64 0, .int .u64 0, .int .u64 0, .string ⟨#[]⟩, .int .i64 0, .int .i64 0, .int .u64 0, .int .u64 0, .string ⟨#[]⟩] 26 33 33 33
  (try clear c0 c1 c2 c3 c4 c5 c6); obtain ⟨c0, c1, c2, c3, c4, c5, c6⟩ := row7 Rc
  (try clear d0 d1 d2 d3 d4 d5 d6 d7 d8 d9 d10 d11); obtain ⟨d0, d1, d2, d3, d4, d5, d6, d7, d8, d9, d10, d11⟩ := row12 Rd
  (try clear y0 y1 y2 y3 y4 y5 y6 y7 y8 y9 y10 y11); obtain ⟨y0, y1, y2, y3, y4, y5, y6, y7, y8, y9, y10, y11⟩ := row12 Ry
  (try clear r0 r1 r2 r3 r4 r5 r6 r7 r8 r9 r10 r11); obtain ⟨r0, r1, r2, r3, r4, r5, r6, r7, r8, r9, r10, r11⟩ := row12 Rr
  go_enter Try.func31, Try.ntmps31
  go_upto_block 0 with fail
  replace Rc := Rc.alloc (.cells #[Value.int .i64 0, Value.int .i64 0, Value.int .i64 0, Value.int .i64 0, Value.int .u64 0, Value.int .u64 0, Value.string ⟨#[]⟩, Value.int .i64 0, Value.int .i64 0, Value.int .u64 0, Value.int .u64 0, Value.string ⟨#[]⟩] 33)
  replace Rd := Rd.alloc (.cells #[Value.int .i64 0, Value.int .i64 0, Value.int .i64 0, Value.int .i64 0, Value.int .u64 0, Value.int .u64 0, Value.string ⟨#[]⟩, Value.int .i64 0, Value.int .i64 0, Value.int .u64 0, Value.int .u64 0, Value.string ⟨#[]⟩] 33)
  replace Ry := Ry.alloc (.cells #[Value.int .i64 0, Value.int .i64 0, Value.int .i64 0, Value.int .i64 0, Value.int .u64 0, Value.int .u64 0, Value.string ⟨#[]⟩, Value.int .i64 0, Value.int .i64 0, Value.int .u64 0, Value.int .u64 0, Value.string ⟨#[]⟩] 33)
  replace Rr := Rr.alloc (.cells #[Value.int .i64 0, Value.int .i64 0, Value.int .i64 0, Value.int .i64 0, Value.int .u64 0, Value.int .u64 0, Value.string ⟨#[]⟩, Value.int .i64 0, Value.int .i64 0, Value.int .u64 0, Value.int .u64 0, Value.string ⟨#[]⟩] 33)
  have Rx := Row.new (World.alloc (World.alloc (World.alloc (World.alloc w (.cells #[.int .i64 s.n, .int .i64 s.d0.kind, .int .i64 s.d0.side, .int .i64 s.d0.step, .int .i64 s.d1.kind, .int .i64 s.d1.side, .int .i64 s.d1.step] 26)) (.cells #[.int .i64 p.a0, .int .i64 p.a1, .int .i64 p.k0.kind, .int .i64 p.k0.len, .int .u64 p.k0.h, .int .u64 p.k0.l, .string ⟨p.k0.path.toArray⟩, .int .i64 p.k1.kind, .int .i64 p.k1.len, .int .u64 p.k1.h, .int .u64 p.k1.l, .string ⟨p.k1.path.toArray⟩] 33)) (.cells #[.int .i64 q.a0, .int .i64 q.a1, .int .i64 q.k0.kind, .int .i64 q.k0.len, .int .u64 q.k0.h, .int .u64 q.k0.l, .string ⟨q.k0.path.toArray⟩, .int .i64 q.k1.kind, .int .i64 q.k1.len, .int .u64 q.k1.h, .int .u64 q.k1.l, .string ⟨q.k1.path.toArray⟩] 33)) (.cells #[.int .i64 0, .int .i64 0, .int .i64 0, .int .i64 0, .int .u64 0, .int .u64 0, .string ⟨#[]⟩, .int .i64 0, .int .i64 0, .int .u64 0, .int .u64 0, .string ⟨#[]⟩] 33)) #[Value.int .i64 0, Value.int .i64 0, Value.int .i64 0, Value.int .i64 0, Value.int .u64 0, Value.int .u64 0, Value.string ⟨#[]⟩, Value.int .i64 0, Value.int .i64 0, Value.int .u64 0, Value.int .u64 0, Value.string ⟨#[]⟩] 33
  simp only [World.size_alloc] at Rx
  have mx := hb0.size
  replace hb0 := hb0.alloc hb0.size (.cells #[Value.int .i64 0, Value.int .i64 0, Value.int .i64 0, Value.int .i64 0, Value.int .u64 0, Value.int .u64 0, Value.string ⟨#[]⟩, Value.int .i64 0, Value.int .i64 0, Value.int .u64 0, Value.int .u64 0, Value.string ⟨#[]⟩] 33)
  (try clear c0 c1 c2 c3 c4 c5 c6); obtain ⟨c0, c1, c2, c3, c4, c5, c6⟩ := row7 Rc
  (try clear d0 d1 d2 d3 d4 d5 d6 d7 d8 d9 d10 d11); obtain ⟨d0, d1, d2, d3, d4, d5, d6, d7, d8, d9, d10, d11⟩ := row12 Rd
  (try clear y0 y1 y2 y3 y4 y5 y6 y7 y8 y9 y10 y11); obtain ⟨y0, y1, y2, y3, y4, y5, y6, y7, y8, y9, y10, y11⟩ := row12 Ry
  (try clear r0 r1 r2 r3 r4 r5 r6 r7 r8 r9 r10 r11); obtain ⟨r0, r1, r2, r3, r4, r5, r6, r7, r8, r9, r10, r11⟩ := row12 Rr
  (try clear x0 x1 x2 x3 x4 x5 x6 x7 x8 x9 x10 x11); obtain ⟨x0, x1, x2, x3, x4, x5, x6, x7, x8, x9, x10, x11⟩ := row12 Rx
  have lx := Rx.lt
  simp only [World.size_alloc] at lx
  generalize (World.alloc (World.alloc (World.alloc (World.alloc (World.alloc w (.cells #[.int .i64 s.n, .int .i64 s.d0.kind, .int .i64 s.d0.side, .int .i64 s.d0.step, .int .i64 s.d1.kind, .int .i64 s.d1.side, .int .i64 s.d1.step] 26)) (.cells #[.int .i64 p.a0, .int .i64 p.a1, .int .i64 p.k0.kind, .int .i64 p.k0.len, .int .u64 p.k0.h, .int .u64 p.k0.l, .string ⟨p.k0.path.toArray⟩, .int .i64 p.k1.kind, .int .i64 p.k1.len, .int .u64 p.k1.h, .int .u64 p.k1.l, .string ⟨p.k1.path.toArray⟩] 33)) (.cells #[.int .i64 q.a0, .int .i64 q.a1, .int .i64 q.k0.kind, .int .i64 q.k0.len, .int .u64 q.k0.h, .int .u64 q.k0.l, .string ⟨q.k0.path.toArray⟩, .int .i64 q.k1.kind, .int .i64 q.k1.len, .int .u64 q.k1.h, .int .u64 q.k1.l, .string ⟨q.k1.path.toArray⟩] 33)) (.cells #[.int .i64 0, .int .i64 0, .int .i64 0, .int .i64 0, .int .u64 0, .int .u64 0, .string ⟨#[]⟩, .int .i64 0, .int .i64 0, .int .u64 0, .int .u64 0, .string ⟨#[]⟩] 33)) (.cells #[Value.int .i64 0, Value.int .i64 0, Value.int .i64 0, Value.int .i64 0, Value.int .u64 0, Value.int .u64 0, Value.string ⟨#[]⟩, Value.int .i64 0, Value.int .i64 0, Value.int .u64 0, Value.int .u64 0, Value.string ⟨#[]⟩] 33)) = w1 at *
  go_cut [9] (fun s9 wx => Row wx w.heap.size #[.int .i64 s.n, .int .i64 s.d0.kind, .int .i64 s.d0.side, .int .i64 s.d0.step, .int .i64 s.d1.kind, .int .i64 s.d1.side, .int .i64 s.d1.step] 26 ∧ Row wx (w.heap.size + 1) #[.int .i64 p.a0, .int .i64 p.a1, .int .i64 p.k0.kind, .int .i64 p.k0.len, .int .u64 p.k0.h, .int .u64 p.k0.l, .string ⟨p.k0.path.toArray⟩, .int .i64 p.k1.kind, .int .i64 p.k1.len, .int .u64 p.k1.h, .int .u64 p.k1.l, .string ⟨p.k1.path.toArray⟩] 33 ∧ Row wx (w.heap.size + 1 + 1) #[.int .i64 q.a0, .int .i64 q.a1, .int .i64 q.k0.kind, .int .i64 q.k0.len, .int .u64 q.k0.h, .int .u64 q.k0.l, .string ⟨q.k0.path.toArray⟩, .int .i64 q.k1.kind, .int .i64 q.k1.len, .int .u64 q.k1.h, .int .u64 q.k1.l, .string ⟨q.k1.path.toArray⟩] 33 ∧ Row wx (w.heap.size + 1 + 1 + 1) #[.int .i64 0, .int .i64 0, .int .i64 0, .int .i64 0, .int .u64 0, .int .u64 0, .string ⟨#[]⟩, .int .i64 0, .int .i64 0, .int .u64 0, .int .u64 0, .string ⟨#[]⟩] 33 ∧ Row wx (w.heap.size + 1 + 1 + 1 + 1) #[Value.int .i64 m0, Value.int .i64 m1, Value.int .i64 0, Value.int .i64 0, Value.int .u64 0, Value.int .u64 0, Value.string ⟨#[]⟩, Value.int .i64 0, Value.int .i64 0, Value.int .u64 0, Value.int .u64 0, Value.string ⟨#[]⟩] 33 ∧ Below w.heap.size w wx)
  case first =>
    obtain ⟨⟨hb0', hb1'⟩, hm0, hm1⟩ := HM.out
    cases b0 with
    | false =>
      cases b1 with
      | false =>
        dsimp only [cond] at hm0 hm1
        subst hm0 hm1
        go_wp2_with fail
        refine wp_loop_rounds 3 ?_
        rw [rounds_succ]
        have xf0 := Rx.frozen 0
        have xf1 := Rx.frozen 1
        have xf2 := Rx.frozen 2
        have xf3 := Rx.frozen 3
        have xf4 := Rx.frozen 4
        have xf5 := Rx.frozen 5
        have xf6 := Rx.frozen 6
        have xf7 := Rx.frozen 7
        have xf8 := Rx.frozen 8
        have xf9 := Rx.frozen 9
        have xf10 := Rx.frozen 10
        have xf11 := Rx.frozen 11
        go_wp2_with fail
        obtain ⟨w2, hwn⟩ : ∃ wz, wz = (World.setCell w1 ⟨(w.heap.size + 1 + 1 + 1 + 1), 0, none⟩ (.int .i64 p.a0)) := ⟨_, rfl⟩
        rw [← hwn]
        replace hwn : w2 = World.setCells w1 (w.heap.size + 1 + 1 + 1 + 1) 0 [.int .i64 p.a0] := hwn
        replace Rx : Row w2 (w.heap.size + 1 + 1 + 1 + 1) #[.int .i64 p.a0, .int .i64 0, .int .i64 0, .int .i64 0, .int .u64 0, .int .u64 0, .string ⟨#[]⟩, .int .i64 0, .int .i64 0, .int .u64 0, .int .u64 0, .string ⟨#[]⟩] 33 := psm hwn Rx (by simp [setL])
        replace Rc := prf hwn Rc
        replace Rd := prf hwn Rd
        replace Ry := prf hwn Ry
        replace Rr := prf hwn Rr
        replace hb0 := pbl hwn hb0
        clear hwn c0 c1 c2 c3 c4 c5 c6 d0 d1 d2 d3 d4 d5 d6 d7 d8 d9 d10 d11 y0 y1 y2 y3 y4 y5 y6 y7 y8 y9 y10 y11 r0 r1 r2 r3 r4 r5 r6 r7 r8 r9 r10 r11 x0 x1 x2 x3 x4 x5 x6 x7 x8 x9 x10 x11
        (try clear xf0 xf1 xf2 xf3 xf4 xf5 xf6 xf7 xf8 xf9 xf10 xf11)
        (try clear c0 c1 c2 c3 c4 c5 c6); obtain ⟨c0, c1, c2, c3, c4, c5, c6⟩ := row7 Rc
        (try clear d0 d1 d2 d3 d4 d5 d6 d7 d8 d9 d10 d11); obtain ⟨d0, d1, d2, d3, d4, d5, d6, d7, d8, d9, d10, d11⟩ := row12 Rd
        (try clear y0 y1 y2 y3 y4 y5 y6 y7 y8 y9 y10 y11); obtain ⟨y0, y1, y2, y3, y4, y5, y6, y7, y8, y9, y10, y11⟩ := row12 Ry
        (try clear r0 r1 r2 r3 r4 r5 r6 r7 r8 r9 r10 r11); obtain ⟨r0, r1, r2, r3, r4, r5, r6, r7, r8, r9, r10, r11⟩ := row12 Rr
        (try clear x0 x1 x2 x3 x4 x5 x6 x7 x8 x9 x10 x11); obtain ⟨x0, x1, x2, x3, x4, x5, x6, x7, x8, x9, x10, x11⟩ := row12 Rx
        refine wp_region_held_drew (S := (fun w' => w'.cell? ⟨w.heap.size + 1, 0, none⟩ = some (Value.int .i64 p.a0) ∧ w'.cell? ⟨w.heap.size + 1 + 1, 0, none⟩ = some (Value.int .i64 q.a0))) (by kernel_rfl) ?hSr77_ (fun hHeld => ?_)
        case hSr77_ => (exact ⟨d0, y0⟩)
        (clear c0 c1 c2 c3 c4 c5 c6 d0 d1 d2 d3 d4 d5 d6 d7 d8 d9 d10 d11 y0 y1 y2 y3 y4 y5 y6 y7 y8 y9 y10 y11 r0 r1 r2 r3 r4 r5 r6 r7 r8 r9 r10 r11 x0 x1 x2 x3 x4 x5 x6 x7 x8 x9 x10 x11; (replace Rc := Rc.drew); (replace Rd := Rd.drew); (replace Ry := Ry.drew); (replace Rr := Rr.drew); (replace Rx := Rx.drew); (replace hb0 := hb0.drew); (generalize World.drew w2 = wq at *))
        refine tk 0 ⟨some 26, .move (.tmp 9), 3, _, _, _⟩ hHeld ?_
        (try simp only [Act.put, nz1, nz2, nz3])
        refine tk 1 ⟨some 27, .fieldAddr 33 (.tmp 5) 0, 0, _, _, _⟩ hHeld ?_
        (try simp only [Act.put, nz1, nz2, nz3])
        refine tk 2 ⟨some 28, .indexAddr 27 (.tmp 27) (.tmp 26), 0, _, _, _⟩ hHeld ?_
        (try simp only [Act.put, nz1, nz2, nz3])
        refine tk 3 ⟨some 29, .load 3 (.tmp 28), 3, _, _, _⟩ hHeld ?_
        (try simp only [Act.put, nz1, nz2, nz3])
        refine tk 4 ⟨some 30, .move (.tmp 9), 3, _, _, _⟩ hHeld ?_
        (try simp only [Act.put, nz1, nz2, nz3])
        refine tk 5 ⟨some 31, .fieldAddr 33 (.tmp 4) 0, 0, _, _, _⟩ hHeld ?_
        (try simp only [Act.put, nz1, nz2, nz3])
        refine tk 6 ⟨some 32, .indexAddr 27 (.tmp 31) (.tmp 30), 0, _, _, _⟩ hHeld ?_
        (try simp only [Act.put, nz1, nz2, nz3])
        refine tk 7 ⟨some 33, .load 3 (.tmp 32), 3, _, _, _⟩ hHeld ?_
        (try simp only [Act.put, nz1, nz2, nz3])
        refine tk 8 ⟨some 34, .binOp .lss 3 (.tmp 29) (.tmp 33) 3, 4, _, _, _⟩ hHeld ?_
        (try simp only [Act.put, nz1, nz2, nz3])
        refine wpAnyH_done (by kernel_rfl) ?_ _
        clear hHeld
        rename World => w3
        have lc := Rc.lt
        have ld := Rd.lt
        have ly := Ry.lt
        have lr := Rr.lt
        have lx := Rx.lt
        (try clear c0 c1 c2 c3 c4 c5 c6); obtain ⟨c0, c1, c2, c3, c4, c5, c6⟩ := row7 Rc
        (try clear d0 d1 d2 d3 d4 d5 d6 d7 d8 d9 d10 d11); obtain ⟨d0, d1, d2, d3, d4, d5, d6, d7, d8, d9, d10, d11⟩ := row12 Rd
        (try clear y0 y1 y2 y3 y4 y5 y6 y7 y8 y9 y10 y11); obtain ⟨y0, y1, y2, y3, y4, y5, y6, y7, y8, y9, y10, y11⟩ := row12 Ry
        (try clear r0 r1 r2 r3 r4 r5 r6 r7 r8 r9 r10 r11); obtain ⟨r0, r1, r2, r3, r4, r5, r6, r7, r8, r9, r10, r11⟩ := row12 Rr
        (try clear x0 x1 x2 x3 x4 x5 x6 x7 x8 x9 x10 x11); obtain ⟨x0, x1, x2, x3, x4, x5, x6, x7, x8, x9, x10, x11⟩ := row12 Rx
        go_wp2_with fail
        rw [rounds_succ]
        have xf0 := Rx.frozen 0
        have xf1 := Rx.frozen 1
        have xf2 := Rx.frozen 2
        have xf3 := Rx.frozen 3
        have xf4 := Rx.frozen 4
        have xf5 := Rx.frozen 5
        have xf6 := Rx.frozen 6
        have xf7 := Rx.frozen 7
        have xf8 := Rx.frozen 8
        have xf9 := Rx.frozen 9
        have xf10 := Rx.frozen 10
        have xf11 := Rx.frozen 11
        go_wp2_with fail
        obtain ⟨w4, hwn⟩ : ∃ wz, wz = (World.setCell w3 ⟨(w.heap.size + 1 + 1 + 1 + 1), 1, none⟩ (.int .i64 p.a1)) := ⟨_, rfl⟩
        rw [← hwn]
        replace hwn : w4 = World.setCells w3 (w.heap.size + 1 + 1 + 1 + 1) 1 [.int .i64 p.a1] := hwn
        replace Rx : Row w4 (w.heap.size + 1 + 1 + 1 + 1) #[.int .i64 p.a0, .int .i64 p.a1, .int .i64 0, .int .i64 0, .int .u64 0, .int .u64 0, .string ⟨#[]⟩, .int .i64 0, .int .i64 0, .int .u64 0, .int .u64 0, .string ⟨#[]⟩] 33 := psm hwn Rx (by simp [setL])
        replace Rc := prf hwn Rc
        replace Rd := prf hwn Rd
        replace Ry := prf hwn Ry
        replace Rr := prf hwn Rr
        replace hb0 := pbl hwn hb0
        clear hwn c0 c1 c2 c3 c4 c5 c6 d0 d1 d2 d3 d4 d5 d6 d7 d8 d9 d10 d11 y0 y1 y2 y3 y4 y5 y6 y7 y8 y9 y10 y11 r0 r1 r2 r3 r4 r5 r6 r7 r8 r9 r10 r11 x0 x1 x2 x3 x4 x5 x6 x7 x8 x9 x10 x11
        (try clear xf0 xf1 xf2 xf3 xf4 xf5 xf6 xf7 xf8 xf9 xf10 xf11)
        (try clear c0 c1 c2 c3 c4 c5 c6); obtain ⟨c0, c1, c2, c3, c4, c5, c6⟩ := row7 Rc
        (try clear d0 d1 d2 d3 d4 d5 d6 d7 d8 d9 d10 d11); obtain ⟨d0, d1, d2, d3, d4, d5, d6, d7, d8, d9, d10, d11⟩ := row12 Rd
        (try clear y0 y1 y2 y3 y4 y5 y6 y7 y8 y9 y10 y11); obtain ⟨y0, y1, y2, y3, y4, y5, y6, y7, y8, y9, y10, y11⟩ := row12 Ry
        (try clear r0 r1 r2 r3 r4 r5 r6 r7 r8 r9 r10 r11); obtain ⟨r0, r1, r2, r3, r4, r5, r6, r7, r8, r9, r10, r11⟩ := row12 Rr
        (try clear x0 x1 x2 x3 x4 x5 x6 x7 x8 x9 x10 x11); obtain ⟨x0, x1, x2, x3, x4, x5, x6, x7, x8, x9, x10, x11⟩ := row12 Rx
        refine wp_region_held_drew (S := (fun w' => w'.cell? ⟨w.heap.size + 1, 1, none⟩ = some (Value.int .i64 p.a1) ∧ w'.cell? ⟨w.heap.size + 1 + 1, 1, none⟩ = some (Value.int .i64 q.a1))) (by kernel_rfl) ?hSr78_ (fun hHeld => ?_)
        case hSr78_ => (exact ⟨d1, y1⟩)
        (clear c0 c1 c2 c3 c4 c5 c6 d0 d1 d2 d3 d4 d5 d6 d7 d8 d9 d10 d11 y0 y1 y2 y3 y4 y5 y6 y7 y8 y9 y10 y11 r0 r1 r2 r3 r4 r5 r6 r7 r8 r9 r10 r11 x0 x1 x2 x3 x4 x5 x6 x7 x8 x9 x10 x11; (replace Rc := Rc.drew); (replace Rd := Rd.drew); (replace Ry := Ry.drew); (replace Rr := Rr.drew); (replace Rx := Rx.drew); (replace hb0 := hb0.drew); (generalize World.drew w4 = wq at *))
        refine tk 0 ⟨some 26, .move (.tmp 9), 3, _, _, _⟩ hHeld ?_
        (try simp only [Act.put, nz1, nz2, nz3])
        refine tk 1 ⟨some 27, .fieldAddr 33 (.tmp 5) 0, 0, _, _, _⟩ hHeld ?_
        (try simp only [Act.put, nz1, nz2, nz3])
        refine tk 2 ⟨some 28, .indexAddr 27 (.tmp 27) (.tmp 26), 0, _, _, _⟩ hHeld ?_
        (try simp only [Act.put, nz1, nz2, nz3])
        refine tk 3 ⟨some 29, .load 3 (.tmp 28), 3, _, _, _⟩ hHeld ?_
        (try simp only [Act.put, nz1, nz2, nz3])
        refine tk 4 ⟨some 30, .move (.tmp 9), 3, _, _, _⟩ hHeld ?_
        (try simp only [Act.put, nz1, nz2, nz3])
        refine tk 5 ⟨some 31, .fieldAddr 33 (.tmp 4) 0, 0, _, _, _⟩ hHeld ?_
        (try simp only [Act.put, nz1, nz2, nz3])
        refine tk 6 ⟨some 32, .indexAddr 27 (.tmp 31) (.tmp 30), 0, _, _, _⟩ hHeld ?_
        (try simp only [Act.put, nz1, nz2, nz3])
        refine tk 7 ⟨some 33, .load 3 (.tmp 32), 3, _, _, _⟩ hHeld ?_
        (try simp only [Act.put, nz1, nz2, nz3])
        refine tk 8 ⟨some 34, .binOp .lss 3 (.tmp 29) (.tmp 33) 3, 4, _, _, _⟩ hHeld ?_
        (try simp only [Act.put, nz1, nz2, nz3])
        refine wpAnyH_done (by kernel_rfl) ?_ _
        clear hHeld
        rename World => w5
        have lc := Rc.lt
        have ld := Rd.lt
        have ly := Ry.lt
        have lr := Rr.lt
        have lx := Rx.lt
        (try clear c0 c1 c2 c3 c4 c5 c6); obtain ⟨c0, c1, c2, c3, c4, c5, c6⟩ := row7 Rc
        (try clear d0 d1 d2 d3 d4 d5 d6 d7 d8 d9 d10 d11); obtain ⟨d0, d1, d2, d3, d4, d5, d6, d7, d8, d9, d10, d11⟩ := row12 Rd
        (try clear y0 y1 y2 y3 y4 y5 y6 y7 y8 y9 y10 y11); obtain ⟨y0, y1, y2, y3, y4, y5, y6, y7, y8, y9, y10, y11⟩ := row12 Ry
        (try clear r0 r1 r2 r3 r4 r5 r6 r7 r8 r9 r10 r11); obtain ⟨r0, r1, r2, r3, r4, r5, r6, r7, r8, r9, r10, r11⟩ := row12 Rr
        (try clear x0 x1 x2 x3 x4 x5 x6 x7 x8 x9 x10 x11); obtain ⟨x0, x1, x2, x3, x4, x5, x6, x7, x8, x9, x10, x11⟩ := row12 Rx
        go_wp2_with fail
        rw [rounds_succ]
        go_wp2_with fail
        go_meet
        exact ⟨Rc, Rd, Ry, Rr, Rx, hb0⟩
      | true =>
        dsimp only [cond] at hm0 hm1
        subst hm0 hm1
        go_wp2_with fail
        refine wp_loop_rounds 3 ?_
        rw [rounds_succ]
        have xf0 := Rx.frozen 0
        have xf1 := Rx.frozen 1
        have xf2 := Rx.frozen 2
        have xf3 := Rx.frozen 3
        have xf4 := Rx.frozen 4
        have xf5 := Rx.frozen 5
        have xf6 := Rx.frozen 6
        have xf7 := Rx.frozen 7
        have xf8 := Rx.frozen 8
        have xf9 := Rx.frozen 9
        have xf10 := Rx.frozen 10
        have xf11 := Rx.frozen 11
        go_wp2_with fail
        obtain ⟨w2, hwn⟩ : ∃ wz, wz = (World.setCell w1 ⟨(w.heap.size + 1 + 1 + 1 + 1), 0, none⟩ (.int .i64 p.a0)) := ⟨_, rfl⟩
        rw [← hwn]
        replace hwn : w2 = World.setCells w1 (w.heap.size + 1 + 1 + 1 + 1) 0 [.int .i64 p.a0] := hwn
        replace Rx : Row w2 (w.heap.size + 1 + 1 + 1 + 1) #[.int .i64 p.a0, .int .i64 0, .int .i64 0, .int .i64 0, .int .u64 0, .int .u64 0, .string ⟨#[]⟩, .int .i64 0, .int .i64 0, .int .u64 0, .int .u64 0, .string ⟨#[]⟩] 33 := psm hwn Rx (by simp [setL])
        replace Rc := prf hwn Rc
        replace Rd := prf hwn Rd
        replace Ry := prf hwn Ry
        replace Rr := prf hwn Rr
        replace hb0 := pbl hwn hb0
        clear hwn c0 c1 c2 c3 c4 c5 c6 d0 d1 d2 d3 d4 d5 d6 d7 d8 d9 d10 d11 y0 y1 y2 y3 y4 y5 y6 y7 y8 y9 y10 y11 r0 r1 r2 r3 r4 r5 r6 r7 r8 r9 r10 r11 x0 x1 x2 x3 x4 x5 x6 x7 x8 x9 x10 x11
        (try clear xf0 xf1 xf2 xf3 xf4 xf5 xf6 xf7 xf8 xf9 xf10 xf11)
        (try clear c0 c1 c2 c3 c4 c5 c6); obtain ⟨c0, c1, c2, c3, c4, c5, c6⟩ := row7 Rc
        (try clear d0 d1 d2 d3 d4 d5 d6 d7 d8 d9 d10 d11); obtain ⟨d0, d1, d2, d3, d4, d5, d6, d7, d8, d9, d10, d11⟩ := row12 Rd
        (try clear y0 y1 y2 y3 y4 y5 y6 y7 y8 y9 y10 y11); obtain ⟨y0, y1, y2, y3, y4, y5, y6, y7, y8, y9, y10, y11⟩ := row12 Ry
        (try clear r0 r1 r2 r3 r4 r5 r6 r7 r8 r9 r10 r11); obtain ⟨r0, r1, r2, r3, r4, r5, r6, r7, r8, r9, r10, r11⟩ := row12 Rr
        (try clear x0 x1 x2 x3 x4 x5 x6 x7 x8 x9 x10 x11); obtain ⟨x0, x1, x2, x3, x4, x5, x6, x7, x8, x9, x10, x11⟩ := row12 Rx
        refine wp_region_held_drew (S := (fun w' => w'.cell? ⟨w.heap.size + 1, 0, none⟩ = some (Value.int .i64 p.a0) ∧ w'.cell? ⟨w.heap.size + 1 + 1, 0, none⟩ = some (Value.int .i64 q.a0))) (by kernel_rfl) ?hSr79_ (fun hHeld => ?_)
        case hSr79_ => (exact ⟨d0, y0⟩)
        (clear c0 c1 c2 c3 c4 c5 c6 d0 d1 d2 d3 d4 d5 d6 d7 d8 d9 d10 d11 y0 y1 y2 y3 y4 y5 y6 y7 y8 y9 y10 y11 r0 r1 r2 r3 r4 r5 r6 r7 r8 r9 r10 r11 x0 x1 x2 x3 x4 x5 x6 x7 x8 x9 x10 x11; (replace Rc := Rc.drew); (replace Rd := Rd.drew); (replace Ry := Ry.drew); (replace Rr := Rr.drew); (replace Rx := Rx.drew); (replace hb0 := hb0.drew); (generalize World.drew w2 = wq at *))
        refine tk 0 ⟨some 26, .move (.tmp 9), 3, _, _, _⟩ hHeld ?_
        (try simp only [Act.put, nz1, nz2, nz3])
        refine tk 1 ⟨some 27, .fieldAddr 33 (.tmp 5) 0, 0, _, _, _⟩ hHeld ?_
        (try simp only [Act.put, nz1, nz2, nz3])
        refine tk 2 ⟨some 28, .indexAddr 27 (.tmp 27) (.tmp 26), 0, _, _, _⟩ hHeld ?_
        (try simp only [Act.put, nz1, nz2, nz3])
        refine tk 3 ⟨some 29, .load 3 (.tmp 28), 3, _, _, _⟩ hHeld ?_
        (try simp only [Act.put, nz1, nz2, nz3])
        refine tk 4 ⟨some 30, .move (.tmp 9), 3, _, _, _⟩ hHeld ?_
        (try simp only [Act.put, nz1, nz2, nz3])
        refine tk 5 ⟨some 31, .fieldAddr 33 (.tmp 4) 0, 0, _, _, _⟩ hHeld ?_
        (try simp only [Act.put, nz1, nz2, nz3])
        refine tk 6 ⟨some 32, .indexAddr 27 (.tmp 31) (.tmp 30), 0, _, _, _⟩ hHeld ?_
        (try simp only [Act.put, nz1, nz2, nz3])
        refine tk 7 ⟨some 33, .load 3 (.tmp 32), 3, _, _, _⟩ hHeld ?_
        (try simp only [Act.put, nz1, nz2, nz3])
        refine tk 8 ⟨some 34, .binOp .lss 3 (.tmp 29) (.tmp 33) 3, 4, _, _, _⟩ hHeld ?_
        (try simp only [Act.put, nz1, nz2, nz3])
        refine wpAnyH_done (by kernel_rfl) ?_ _
        clear hHeld
        rename World => w3
        have lc := Rc.lt
        have ld := Rd.lt
        have ly := Ry.lt
        have lr := Rr.lt
        have lx := Rx.lt
        (try clear c0 c1 c2 c3 c4 c5 c6); obtain ⟨c0, c1, c2, c3, c4, c5, c6⟩ := row7 Rc
        (try clear d0 d1 d2 d3 d4 d5 d6 d7 d8 d9 d10 d11); obtain ⟨d0, d1, d2, d3, d4, d5, d6, d7, d8, d9, d10, d11⟩ := row12 Rd
        (try clear y0 y1 y2 y3 y4 y5 y6 y7 y8 y9 y10 y11); obtain ⟨y0, y1, y2, y3, y4, y5, y6, y7, y8, y9, y10, y11⟩ := row12 Ry
        (try clear r0 r1 r2 r3 r4 r5 r6 r7 r8 r9 r10 r11); obtain ⟨r0, r1, r2, r3, r4, r5, r6, r7, r8, r9, r10, r11⟩ := row12 Rr
        (try clear x0 x1 x2 x3 x4 x5 x6 x7 x8 x9 x10 x11); obtain ⟨x0, x1, x2, x3, x4, x5, x6, x7, x8, x9, x10, x11⟩ := row12 Rx
        go_wp2_with fail
        rw [rounds_succ]
        have xf0 := Rx.frozen 0
        have xf1 := Rx.frozen 1
        have xf2 := Rx.frozen 2
        have xf3 := Rx.frozen 3
        have xf4 := Rx.frozen 4
        have xf5 := Rx.frozen 5
        have xf6 := Rx.frozen 6
        have xf7 := Rx.frozen 7
        have xf8 := Rx.frozen 8
        have xf9 := Rx.frozen 9
        have xf10 := Rx.frozen 10
        have xf11 := Rx.frozen 11
        go_wp2_with fail
        obtain ⟨w4, hwn⟩ : ∃ wz, wz = (World.setCell w3 ⟨(w.heap.size + 1 + 1 + 1 + 1), 1, none⟩ (.int .i64 p.a1)) := ⟨_, rfl⟩
        rw [← hwn]
        replace hwn : w4 = World.setCells w3 (w.heap.size + 1 + 1 + 1 + 1) 1 [.int .i64 p.a1] := hwn
        replace Rx : Row w4 (w.heap.size + 1 + 1 + 1 + 1) #[.int .i64 p.a0, .int .i64 p.a1, .int .i64 0, .int .i64 0, .int .u64 0, .int .u64 0, .string ⟨#[]⟩, .int .i64 0, .int .i64 0, .int .u64 0, .int .u64 0, .string ⟨#[]⟩] 33 := psm hwn Rx (by simp [setL])
        replace Rc := prf hwn Rc
        replace Rd := prf hwn Rd
        replace Ry := prf hwn Ry
        replace Rr := prf hwn Rr
        replace hb0 := pbl hwn hb0
        clear hwn c0 c1 c2 c3 c4 c5 c6 d0 d1 d2 d3 d4 d5 d6 d7 d8 d9 d10 d11 y0 y1 y2 y3 y4 y5 y6 y7 y8 y9 y10 y11 r0 r1 r2 r3 r4 r5 r6 r7 r8 r9 r10 r11 x0 x1 x2 x3 x4 x5 x6 x7 x8 x9 x10 x11
        (try clear xf0 xf1 xf2 xf3 xf4 xf5 xf6 xf7 xf8 xf9 xf10 xf11)
        (try clear c0 c1 c2 c3 c4 c5 c6); obtain ⟨c0, c1, c2, c3, c4, c5, c6⟩ := row7 Rc
        (try clear d0 d1 d2 d3 d4 d5 d6 d7 d8 d9 d10 d11); obtain ⟨d0, d1, d2, d3, d4, d5, d6, d7, d8, d9, d10, d11⟩ := row12 Rd
        (try clear y0 y1 y2 y3 y4 y5 y6 y7 y8 y9 y10 y11); obtain ⟨y0, y1, y2, y3, y4, y5, y6, y7, y8, y9, y10, y11⟩ := row12 Ry
        (try clear r0 r1 r2 r3 r4 r5 r6 r7 r8 r9 r10 r11); obtain ⟨r0, r1, r2, r3, r4, r5, r6, r7, r8, r9, r10, r11⟩ := row12 Rr
        (try clear x0 x1 x2 x3 x4 x5 x6 x7 x8 x9 x10 x11); obtain ⟨x0, x1, x2, x3, x4, x5, x6, x7, x8, x9, x10, x11⟩ := row12 Rx
        refine wp_region_held_drew (S := (fun w' => w'.cell? ⟨w.heap.size + 1, 1, none⟩ = some (Value.int .i64 p.a1) ∧ w'.cell? ⟨w.heap.size + 1 + 1, 1, none⟩ = some (Value.int .i64 q.a1))) (by kernel_rfl) ?hSr80_ (fun hHeld => ?_)
        case hSr80_ => (exact ⟨d1, y1⟩)
        (clear c0 c1 c2 c3 c4 c5 c6 d0 d1 d2 d3 d4 d5 d6 d7 d8 d9 d10 d11 y0 y1 y2 y3 y4 y5 y6 y7 y8 y9 y10 y11 r0 r1 r2 r3 r4 r5 r6 r7 r8 r9 r10 r11 x0 x1 x2 x3 x4 x5 x6 x7 x8 x9 x10 x11; (replace Rc := Rc.drew); (replace Rd := Rd.drew); (replace Ry := Ry.drew); (replace Rr := Rr.drew); (replace Rx := Rx.drew); (replace hb0 := hb0.drew); (generalize World.drew w4 = wq at *))
        refine tk 0 ⟨some 26, .move (.tmp 9), 3, _, _, _⟩ hHeld ?_
        (try simp only [Act.put, nz1, nz2, nz3])
        refine tk 1 ⟨some 27, .fieldAddr 33 (.tmp 5) 0, 0, _, _, _⟩ hHeld ?_
        (try simp only [Act.put, nz1, nz2, nz3])
        refine tk 2 ⟨some 28, .indexAddr 27 (.tmp 27) (.tmp 26), 0, _, _, _⟩ hHeld ?_
        (try simp only [Act.put, nz1, nz2, nz3])
        refine tk 3 ⟨some 29, .load 3 (.tmp 28), 3, _, _, _⟩ hHeld ?_
        (try simp only [Act.put, nz1, nz2, nz3])
        refine tk 4 ⟨some 30, .move (.tmp 9), 3, _, _, _⟩ hHeld ?_
        (try simp only [Act.put, nz1, nz2, nz3])
        refine tk 5 ⟨some 31, .fieldAddr 33 (.tmp 4) 0, 0, _, _, _⟩ hHeld ?_
        (try simp only [Act.put, nz1, nz2, nz3])
        refine tk 6 ⟨some 32, .indexAddr 27 (.tmp 31) (.tmp 30), 0, _, _, _⟩ hHeld ?_
        (try simp only [Act.put, nz1, nz2, nz3])
        refine tk 7 ⟨some 33, .load 3 (.tmp 32), 3, _, _, _⟩ hHeld ?_
        (try simp only [Act.put, nz1, nz2, nz3])
        refine tk 8 ⟨some 34, .binOp .lss 3 (.tmp 29) (.tmp 33) 3, 4, _, _, _⟩ hHeld ?_
        (try simp only [Act.put, nz1, nz2, nz3])
        refine wpAnyH_done (by kernel_rfl) ?_ _
        clear hHeld
        rename World => w5
        have lc := Rc.lt
        have ld := Rd.lt
        have ly := Ry.lt
        have lr := Rr.lt
        have lx := Rx.lt
        (try clear c0 c1 c2 c3 c4 c5 c6); obtain ⟨c0, c1, c2, c3, c4, c5, c6⟩ := row7 Rc
        (try clear d0 d1 d2 d3 d4 d5 d6 d7 d8 d9 d10 d11); obtain ⟨d0, d1, d2, d3, d4, d5, d6, d7, d8, d9, d10, d11⟩ := row12 Rd
        (try clear y0 y1 y2 y3 y4 y5 y6 y7 y8 y9 y10 y11); obtain ⟨y0, y1, y2, y3, y4, y5, y6, y7, y8, y9, y10, y11⟩ := row12 Ry
        (try clear r0 r1 r2 r3 r4 r5 r6 r7 r8 r9 r10 r11); obtain ⟨r0, r1, r2, r3, r4, r5, r6, r7, r8, r9, r10, r11⟩ := row12 Rr
        (try clear x0 x1 x2 x3 x4 x5 x6 x7 x8 x9 x10 x11); obtain ⟨x0, x1, x2, x3, x4, x5, x6, x7, x8, x9, x10, x11⟩ := row12 Rx
        have xf0 := Rx.frozen 0
        have xf1 := Rx.frozen 1
        have xf2 := Rx.frozen 2
        have xf3 := Rx.frozen 3
        have xf4 := Rx.frozen 4
        have xf5 := Rx.frozen 5
        have xf6 := Rx.frozen 6
        have xf7 := Rx.frozen 7
        have xf8 := Rx.frozen 8
        have xf9 := Rx.frozen 9
        have xf10 := Rx.frozen 10
        have xf11 := Rx.frozen 11
        go_wp2_with fail
        obtain ⟨w6, hwn⟩ : ∃ wz, wz = (World.setCell w5 ⟨(w.heap.size + 1 + 1 + 1 + 1), 1, none⟩ (.int .i64 q.a1)) := ⟨_, rfl⟩
        rw [← hwn]
        replace hwn : w6 = World.setCells w5 (w.heap.size + 1 + 1 + 1 + 1) 1 [.int .i64 q.a1] := hwn
        replace Rx : Row w6 (w.heap.size + 1 + 1 + 1 + 1) #[.int .i64 p.a0, .int .i64 q.a1, .int .i64 0, .int .i64 0, .int .u64 0, .int .u64 0, .string ⟨#[]⟩, .int .i64 0, .int .i64 0, .int .u64 0, .int .u64 0, .string ⟨#[]⟩] 33 := psm hwn Rx (by simp [setL])
        replace Rc := prf hwn Rc
        replace Rd := prf hwn Rd
        replace Ry := prf hwn Ry
        replace Rr := prf hwn Rr
        replace hb0 := pbl hwn hb0
        clear hwn c0 c1 c2 c3 c4 c5 c6 d0 d1 d2 d3 d4 d5 d6 d7 d8 d9 d10 d11 y0 y1 y2 y3 y4 y5 y6 y7 y8 y9 y10 y11 r0 r1 r2 r3 r4 r5 r6 r7 r8 r9 r10 r11 x0 x1 x2 x3 x4 x5 x6 x7 x8 x9 x10 x11
        (try clear xf0 xf1 xf2 xf3 xf4 xf5 xf6 xf7 xf8 xf9 xf10 xf11)
        (try clear c0 c1 c2 c3 c4 c5 c6); obtain ⟨c0, c1, c2, c3, c4, c5, c6⟩ := row7 Rc
        (try clear d0 d1 d2 d3 d4 d5 d6 d7 d8 d9 d10 d11); obtain ⟨d0, d1, d2, d3, d4, d5, d6, d7, d8, d9, d10, d11⟩ := row12 Rd
        (try clear y0 y1 y2 y3 y4 y5 y6 y7 y8 y9 y10 y11); obtain ⟨y0, y1, y2, y3, y4, y5, y6, y7, y8, y9, y10, y11⟩ := row12 Ry
        (try clear r0 r1 r2 r3 r4 r5 r6 r7 r8 r9 r10 r11); obtain ⟨r0, r1, r2, r3, r4, r5, r6, r7, r8, r9, r10, r11⟩ := row12 Rr
        (try clear x0 x1 x2 x3 x4 x5 x6 x7 x8 x9 x10 x11); obtain ⟨x0, x1, x2, x3, x4, x5, x6, x7, x8, x9, x10, x11⟩ := row12 Rx
        rw [rounds_succ]
        go_wp2_with fail
        go_meet
        exact ⟨Rc, Rd, Ry, Rr, Rx, hb0⟩
    | true =>
      cases b1 with
      | false =>
        dsimp only [cond] at hm0 hm1
        subst hm0 hm1
        go_wp2_with fail
        refine wp_loop_rounds 3 ?_
        rw [rounds_succ]
        have xf0 := Rx.frozen 0
        have xf1 := Rx.frozen 1
        have xf2 := Rx.frozen 2
        have xf3 := Rx.frozen 3
        have xf4 := Rx.frozen 4
        have xf5 := Rx.frozen 5
        have xf6 := Rx.frozen 6
        have xf7 := Rx.frozen 7
        have xf8 := Rx.frozen 8
        have xf9 := Rx.frozen 9
        have xf10 := Rx.frozen 10
        have xf11 := Rx.frozen 11
        go_wp2_with fail
        obtain ⟨w2, hwn⟩ : ∃ wz, wz = (World.setCell w1 ⟨(w.heap.size + 1 + 1 + 1 + 1), 0, none⟩ (.int .i64 p.a0)) := ⟨_, rfl⟩
        rw [← hwn]
        replace hwn : w2 = World.setCells w1 (w.heap.size + 1 + 1 + 1 + 1) 0 [.int .i64 p.a0] := hwn
        replace Rx : Row w2 (w.heap.size + 1 + 1 + 1 + 1) #[.int .i64 p.a0, .int .i64 0, .int .i64 0, .int .i64 0, .int .u64 0, .int .u64 0, .string ⟨#[]⟩, .int .i64 0, .int .i64 0, .int .u64 0, .int .u64 0, .string ⟨#[]⟩] 33 := psm hwn Rx (by simp [setL])
        replace Rc := prf hwn Rc
        replace Rd := prf hwn Rd
        replace Ry := prf hwn Ry
        replace Rr := prf hwn Rr
        replace hb0 := pbl hwn hb0
        clear hwn c0 c1 c2 c3 c4 c5 c6 d0 d1 d2 d3 d4 d5 d6 d7 d8 d9 d10 d11 y0 y1 y2 y3 y4 y5 y6 y7 y8 y9 y10 y11 r0 r1 r2 r3 r4 r5 r6 r7 r8 r9 r10 r11 x0 x1 x2 x3 x4 x5 x6 x7 x8 x9 x10 x11
        (try clear xf0 xf1 xf2 xf3 xf4 xf5 xf6 xf7 xf8 xf9 xf10 xf11)
        (try clear c0 c1 c2 c3 c4 c5 c6); obtain ⟨c0, c1, c2, c3, c4, c5, c6⟩ := row7 Rc
        (try clear d0 d1 d2 d3 d4 d5 d6 d7 d8 d9 d10 d11); obtain ⟨d0, d1, d2, d3, d4, d5, d6, d7, d8, d9, d10, d11⟩ := row12 Rd
        (try clear y0 y1 y2 y3 y4 y5 y6 y7 y8 y9 y10 y11); obtain ⟨y0, y1, y2, y3, y4, y5, y6, y7, y8, y9, y10, y11⟩ := row12 Ry
        (try clear r0 r1 r2 r3 r4 r5 r6 r7 r8 r9 r10 r11); obtain ⟨r0, r1, r2, r3, r4, r5, r6, r7, r8, r9, r10, r11⟩ := row12 Rr
        (try clear x0 x1 x2 x3 x4 x5 x6 x7 x8 x9 x10 x11); obtain ⟨x0, x1, x2, x3, x4, x5, x6, x7, x8, x9, x10, x11⟩ := row12 Rx
        refine wp_region_held_drew (S := (fun w' => w'.cell? ⟨w.heap.size + 1, 0, none⟩ = some (Value.int .i64 p.a0) ∧ w'.cell? ⟨w.heap.size + 1 + 1, 0, none⟩ = some (Value.int .i64 q.a0))) (by kernel_rfl) ?hSr81_ (fun hHeld => ?_)
        case hSr81_ => (exact ⟨d0, y0⟩)
        (clear c0 c1 c2 c3 c4 c5 c6 d0 d1 d2 d3 d4 d5 d6 d7 d8 d9 d10 d11 y0 y1 y2 y3 y4 y5 y6 y7 y8 y9 y10 y11 r0 r1 r2 r3 r4 r5 r6 r7 r8 r9 r10 r11 x0 x1 x2 x3 x4 x5 x6 x7 x8 x9 x10 x11; (replace Rc := Rc.drew); (replace Rd := Rd.drew); (replace Ry := Ry.drew); (replace Rr := Rr.drew); (replace Rx := Rx.drew); (replace hb0 := hb0.drew); (generalize World.drew w2 = wq at *))
        refine tk 0 ⟨some 26, .move (.tmp 9), 3, _, _, _⟩ hHeld ?_
        (try simp only [Act.put, nz1, nz2, nz3])
        refine tk 1 ⟨some 27, .fieldAddr 33 (.tmp 5) 0, 0, _, _, _⟩ hHeld ?_
        (try simp only [Act.put, nz1, nz2, nz3])
        refine tk 2 ⟨some 28, .indexAddr 27 (.tmp 27) (.tmp 26), 0, _, _, _⟩ hHeld ?_
        (try simp only [Act.put, nz1, nz2, nz3])
        refine tk 3 ⟨some 29, .load 3 (.tmp 28), 3, _, _, _⟩ hHeld ?_
        (try simp only [Act.put, nz1, nz2, nz3])
        refine tk 4 ⟨some 30, .move (.tmp 9), 3, _, _, _⟩ hHeld ?_
        (try simp only [Act.put, nz1, nz2, nz3])
        refine tk 5 ⟨some 31, .fieldAddr 33 (.tmp 4) 0, 0, _, _, _⟩ hHeld ?_
        (try simp only [Act.put, nz1, nz2, nz3])
        refine tk 6 ⟨some 32, .indexAddr 27 (.tmp 31) (.tmp 30), 0, _, _, _⟩ hHeld ?_
        (try simp only [Act.put, nz1, nz2, nz3])
        refine tk 7 ⟨some 33, .load 3 (.tmp 32), 3, _, _, _⟩ hHeld ?_
        (try simp only [Act.put, nz1, nz2, nz3])
        refine tk 8 ⟨some 34, .binOp .lss 3 (.tmp 29) (.tmp 33) 3, 4, _, _, _⟩ hHeld ?_
        (try simp only [Act.put, nz1, nz2, nz3])
        refine wpAnyH_done (by kernel_rfl) ?_ _
        clear hHeld
        rename World => w3
        have lc := Rc.lt
        have ld := Rd.lt
        have ly := Ry.lt
        have lr := Rr.lt
        have lx := Rx.lt
        (try clear c0 c1 c2 c3 c4 c5 c6); obtain ⟨c0, c1, c2, c3, c4, c5, c6⟩ := row7 Rc
        (try clear d0 d1 d2 d3 d4 d5 d6 d7 d8 d9 d10 d11); obtain ⟨d0, d1, d2, d3, d4, d5, d6, d7, d8, d9, d10, d11⟩ := row12 Rd
        (try clear y0 y1 y2 y3 y4 y5 y6 y7 y8 y9 y10 y11); obtain ⟨y0, y1, y2, y3, y4, y5, y6, y7, y8, y9, y10, y11⟩ := row12 Ry
        (try clear r0 r1 r2 r3 r4 r5 r6 r7 r8 r9 r10 r11); obtain ⟨r0, r1, r2, r3, r4, r5, r6, r7, r8, r9, r10, r11⟩ := row12 Rr
        (try clear x0 x1 x2 x3 x4 x5 x6 x7 x8 x9 x10 x11); obtain ⟨x0, x1, x2, x3, x4, x5, x6, x7, x8, x9, x10, x11⟩ := row12 Rx
        have xf0 := Rx.frozen 0
        have xf1 := Rx.frozen 1
        have xf2 := Rx.frozen 2
        have xf3 := Rx.frozen 3
        have xf4 := Rx.frozen 4
        have xf5 := Rx.frozen 5
        have xf6 := Rx.frozen 6
        have xf7 := Rx.frozen 7
        have xf8 := Rx.frozen 8
        have xf9 := Rx.frozen 9
        have xf10 := Rx.frozen 10
        have xf11 := Rx.frozen 11
        go_wp2_with fail
        obtain ⟨w4, hwn⟩ : ∃ wz, wz = (World.setCell w3 ⟨(w.heap.size + 1 + 1 + 1 + 1), 0, none⟩ (.int .i64 q.a0)) := ⟨_, rfl⟩
        rw [← hwn]
        replace hwn : w4 = World.setCells w3 (w.heap.size + 1 + 1 + 1 + 1) 0 [.int .i64 q.a0] := hwn
        replace Rx : Row w4 (w.heap.size + 1 + 1 + 1 + 1) #[.int .i64 q.a0, .int .i64 0, .int .i64 0, .int .i64 0, .int .u64 0, .int .u64 0, .string ⟨#[]⟩, .int .i64 0, .int .i64 0, .int .u64 0, .int .u64 0, .string ⟨#[]⟩] 33 := psm hwn Rx (by simp [setL])
        replace Rc := prf hwn Rc
        replace Rd := prf hwn Rd
        replace Ry := prf hwn Ry
        replace Rr := prf hwn Rr
        replace hb0 := pbl hwn hb0
        clear hwn c0 c1 c2 c3 c4 c5 c6 d0 d1 d2 d3 d4 d5 d6 d7 d8 d9 d10 d11 y0 y1 y2 y3 y4 y5 y6 y7 y8 y9 y10 y11 r0 r1 r2 r3 r4 r5 r6 r7 r8 r9 r10 r11 x0 x1 x2 x3 x4 x5 x6 x7 x8 x9 x10 x11
        (try clear xf0 xf1 xf2 xf3 xf4 xf5 xf6 xf7 xf8 xf9 xf10 xf11)
        (try clear c0 c1 c2 c3 c4 c5 c6); obtain ⟨c0, c1, c2, c3, c4, c5, c6⟩ := row7 Rc
        (try clear d0 d1 d2 d3 d4 d5 d6 d7 d8 d9 d10 d11); obtain ⟨d0, d1, d2, d3, d4, d5, d6, d7, d8, d9, d10, d11⟩ := row12 Rd
        (try clear y0 y1 y2 y3 y4 y5 y6 y7 y8 y9 y10 y11); obtain ⟨y0, y1, y2, y3, y4, y5, y6, y7, y8, y9, y10, y11⟩ := row12 Ry
        (try clear r0 r1 r2 r3 r4 r5 r6 r7 r8 r9 r10 r11); obtain ⟨r0, r1, r2, r3, r4, r5, r6, r7, r8, r9, r10, r11⟩ := row12 Rr
        (try clear x0 x1 x2 x3 x4 x5 x6 x7 x8 x9 x10 x11); obtain ⟨x0, x1, x2, x3, x4, x5, x6, x7, x8, x9, x10, x11⟩ := row12 Rx
        rw [rounds_succ]
        have xf0 := Rx.frozen 0
        have xf1 := Rx.frozen 1
        have xf2 := Rx.frozen 2
        have xf3 := Rx.frozen 3
        have xf4 := Rx.frozen 4
        have xf5 := Rx.frozen 5
        have xf6 := Rx.frozen 6
        have xf7 := Rx.frozen 7
        have xf8 := Rx.frozen 8
        have xf9 := Rx.frozen 9
        have xf10 := Rx.frozen 10
        have xf11 := Rx.frozen 11
        go_wp2_with fail
        obtain ⟨w5, hwn⟩ : ∃ wz, wz = (World.setCell w4 ⟨(w.heap.size + 1 + 1 + 1 + 1), 1, none⟩ (.int .i64 p.a1)) := ⟨_, rfl⟩
        rw [← hwn]
        replace hwn : w5 = World.setCells w4 (w.heap.size + 1 + 1 + 1 + 1) 1 [.int .i64 p.a1] := hwn
        replace Rx : Row w5 (w.heap.size + 1 + 1 + 1 + 1) #[.int .i64 q.a0, .int .i64 p.a1, .int .i64 0, .int .i64 0, .int .u64 0, .int .u64 0, .string ⟨#[]⟩, .int .i64 0, .int .i64 0, .int .u64 0, .int .u64 0, .string ⟨#[]⟩] 33 := psm hwn Rx (by simp [setL])
        replace Rc := prf hwn Rc
        replace Rd := prf hwn Rd
        replace Ry := prf hwn Ry
        replace Rr := prf hwn Rr
        replace hb0 := pbl hwn hb0
        clear hwn c0 c1 c2 c3 c4 c5 c6 d0 d1 d2 d3 d4 d5 d6 d7 d8 d9 d10 d11 y0 y1 y2 y3 y4 y5 y6 y7 y8 y9 y10 y11 r0 r1 r2 r3 r4 r5 r6 r7 r8 r9 r10 r11 x0 x1 x2 x3 x4 x5 x6 x7 x8 x9 x10 x11
        (try clear xf0 xf1 xf2 xf3 xf4 xf5 xf6 xf7 xf8 xf9 xf10 xf11)
        (try clear c0 c1 c2 c3 c4 c5 c6); obtain ⟨c0, c1, c2, c3, c4, c5, c6⟩ := row7 Rc
        (try clear d0 d1 d2 d3 d4 d5 d6 d7 d8 d9 d10 d11); obtain ⟨d0, d1, d2, d3, d4, d5, d6, d7, d8, d9, d10, d11⟩ := row12 Rd
        (try clear y0 y1 y2 y3 y4 y5 y6 y7 y8 y9 y10 y11); obtain ⟨y0, y1, y2, y3, y4, y5, y6, y7, y8, y9, y10, y11⟩ := row12 Ry
        (try clear r0 r1 r2 r3 r4 r5 r6 r7 r8 r9 r10 r11); obtain ⟨r0, r1, r2, r3, r4, r5, r6, r7, r8, r9, r10, r11⟩ := row12 Rr
        (try clear x0 x1 x2 x3 x4 x5 x6 x7 x8 x9 x10 x11); obtain ⟨x0, x1, x2, x3, x4, x5, x6, x7, x8, x9, x10, x11⟩ := row12 Rx
        refine wp_region_held_drew (S := (fun w' => w'.cell? ⟨w.heap.size + 1, 1, none⟩ = some (Value.int .i64 p.a1) ∧ w'.cell? ⟨w.heap.size + 1 + 1, 1, none⟩ = some (Value.int .i64 q.a1))) (by kernel_rfl) ?hSr82_ (fun hHeld => ?_)
        case hSr82_ => (exact ⟨d1, y1⟩)
        (clear c0 c1 c2 c3 c4 c5 c6 d0 d1 d2 d3 d4 d5 d6 d7 d8 d9 d10 d11 y0 y1 y2 y3 y4 y5 y6 y7 y8 y9 y10 y11 r0 r1 r2 r3 r4 r5 r6 r7 r8 r9 r10 r11 x0 x1 x2 x3 x4 x5 x6 x7 x8 x9 x10 x11; (replace Rc := Rc.drew); (replace Rd := Rd.drew); (replace Ry := Ry.drew); (replace Rr := Rr.drew); (replace Rx := Rx.drew); (replace hb0 := hb0.drew); (generalize World.drew w5 = wq at *))
        refine tk 0 ⟨some 26, .move (.tmp 9), 3, _, _, _⟩ hHeld ?_
        (try simp only [Act.put, nz1, nz2, nz3])
        refine tk 1 ⟨some 27, .fieldAddr 33 (.tmp 5) 0, 0, _, _, _⟩ hHeld ?_
        (try simp only [Act.put, nz1, nz2, nz3])
        refine tk 2 ⟨some 28, .indexAddr 27 (.tmp 27) (.tmp 26), 0, _, _, _⟩ hHeld ?_
        (try simp only [Act.put, nz1, nz2, nz3])
        refine tk 3 ⟨some 29, .load 3 (.tmp 28), 3, _, _, _⟩ hHeld ?_
        (try simp only [Act.put, nz1, nz2, nz3])
        refine tk 4 ⟨some 30, .move (.tmp 9), 3, _, _, _⟩ hHeld ?_
        (try simp only [Act.put, nz1, nz2, nz3])
        refine tk 5 ⟨some 31, .fieldAddr 33 (.tmp 4) 0, 0, _, _, _⟩ hHeld ?_
        (try simp only [Act.put, nz1, nz2, nz3])
        refine tk 6 ⟨some 32, .indexAddr 27 (.tmp 31) (.tmp 30), 0, _, _, _⟩ hHeld ?_
        (try simp only [Act.put, nz1, nz2, nz3])
        refine tk 7 ⟨some 33, .load 3 (.tmp 32), 3, _, _, _⟩ hHeld ?_
        (try simp only [Act.put, nz1, nz2, nz3])
        refine tk 8 ⟨some 34, .binOp .lss 3 (.tmp 29) (.tmp 33) 3, 4, _, _, _⟩ hHeld ?_
        (try simp only [Act.put, nz1, nz2, nz3])
        refine wpAnyH_done (by kernel_rfl) ?_ _
        clear hHeld
        rename World => w6
        have lc := Rc.lt
        have ld := Rd.lt
        have ly := Ry.lt
        have lr := Rr.lt
        have lx := Rx.lt
        (try clear c0 c1 c2 c3 c4 c5 c6); obtain ⟨c0, c1, c2, c3, c4, c5, c6⟩ := row7 Rc
        (try clear d0 d1 d2 d3 d4 d5 d6 d7 d8 d9 d10 d11); obtain ⟨d0, d1, d2, d3, d4, d5, d6, d7, d8, d9, d10, d11⟩ := row12 Rd
        (try clear y0 y1 y2 y3 y4 y5 y6 y7 y8 y9 y10 y11); obtain ⟨y0, y1, y2, y3, y4, y5, y6, y7, y8, y9, y10, y11⟩ := row12 Ry
        (try clear r0 r1 r2 r3 r4 r5 r6 r7 r8 r9 r10 r11); obtain ⟨r0, r1, r2, r3, r4, r5, r6, r7, r8, r9, r10, r11⟩ := row12 Rr
        (try clear x0 x1 x2 x3 x4 x5 x6 x7 x8 x9 x10 x11); obtain ⟨x0, x1, x2, x3, x4, x5, x6, x7, x8, x9, x10, x11⟩ := row12 Rx
        go_wp2_with fail
        rw [rounds_succ]
        go_wp2_with fail
        go_meet
        exact ⟨Rc, Rd, Ry, Rr, Rx, hb0⟩
      | true =>
        dsimp only [cond] at hm0 hm1
        subst hm0 hm1
        go_wp2_with fail
        refine wp_loop_rounds 3 ?_
        rw [rounds_succ]
        have xf0 := Rx.frozen 0
        have xf1 := Rx.frozen 1
        have xf2 := Rx.frozen 2
        have xf3 := Rx.frozen 3
        have xf4 := Rx.frozen 4
        have xf5 := Rx.frozen 5
        have xf6 := Rx.frozen 6
        have xf7 := Rx.frozen 7
        have xf8 := Rx.frozen 8
        have xf9 := Rx.frozen 9
        have xf10 := Rx.frozen 10
        have xf11 := Rx.frozen 11
        go_wp2_with fail
        obtain ⟨w2, hwn⟩ : ∃ wz, wz = (World.setCell w1 ⟨(w.heap.size + 1 + 1 + 1 + 1), 0, none⟩ (.int .i64 p.a0)) := ⟨_, rfl⟩
        rw [← hwn]
        replace hwn : w2 = World.setCells w1 (w.heap.size + 1 + 1 + 1 + 1) 0 [.int .i64 p.a0] := hwn
        replace Rx : Row w2 (w.heap.size + 1 + 1 + 1 + 1) #[.int .i64 p.a0, .int .i64 0, .int .i64 0, .int .i64 0, .int .u64 0, .int .u64 0, .string ⟨#[]⟩, .int .i64 0, .int .i64 0, .int .u64 0, .int .u64 0, .string ⟨#[]⟩] 33 := psm hwn Rx (by simp [setL])
        replace Rc := prf hwn Rc
        replace Rd := prf hwn Rd
        replace Ry := prf hwn Ry
        replace Rr := prf hwn Rr
        replace hb0 := pbl hwn hb0
        clear hwn c0 c1 c2 c3 c4 c5 c6 d0 d1 d2 d3 d4 d5 d6 d7 d8 d9 d10 d11 y0 y1 y2 y3 y4 y5 y6 y7 y8 y9 y10 y11 r0 r1 r2 r3 r4 r5 r6 r7 r8 r9 r10 r11 x0 x1 x2 x3 x4 x5 x6 x7 x8 x9 x10 x11
        (try clear xf0 xf1 xf2 xf3 xf4 xf5 xf6 xf7 xf8 xf9 xf10 xf11)
        (try clear c0 c1 c2 c3 c4 c5 c6); obtain ⟨c0, c1, c2, c3, c4, c5, c6⟩ := row7 Rc
        (try clear d0 d1 d2 d3 d4 d5 d6 d7 d8 d9 d10 d11); obtain ⟨d0, d1, d2, d3, d4, d5, d6, d7, d8, d9, d10, d11⟩ := row12 Rd
        (try clear y0 y1 y2 y3 y4 y5 y6 y7 y8 y9 y10 y11); obtain ⟨y0, y1, y2, y3, y4, y5, y6, y7, y8, y9, y10, y11⟩ := row12 Ry
        (try clear r0 r1 r2 r3 r4 r5 r6 r7 r8 r9 r10 r11); obtain ⟨r0, r1, r2, r3, r4, r5, r6, r7, r8, r9, r10, r11⟩ := row12 Rr
        (try clear x0 x1 x2 x3 x4 x5 x6 x7 x8 x9 x10 x11); obtain ⟨x0, x1, x2, x3, x4, x5, x6, x7, x8, x9, x10, x11⟩ := row12 Rx
        refine wp_region_held_drew (S := (fun w' => w'.cell? ⟨w.heap.size + 1, 0, none⟩ = some (Value.int .i64 p.a0) ∧ w'.cell? ⟨w.heap.size + 1 + 1, 0, none⟩ = some (Value.int .i64 q.a0))) (by kernel_rfl) ?hSr83_ (fun hHeld => ?_)
        case hSr83_ => (exact ⟨d0, y0⟩)
        (clear c0 c1 c2 c3 c4 c5 c6 d0 d1 d2 d3 d4 d5 d6 d7 d8 d9 d10 d11 y0 y1 y2 y3 y4 y5 y6 y7 y8 y9 y10 y11 r0 r1 r2 r3 r4 r5 r6 r7 r8 r9 r10 r11 x0 x1 x2 x3 x4 x5 x6 x7 x8 x9 x10 x11; (replace Rc := Rc.drew); (replace Rd := Rd.drew); (replace Ry := Ry.drew); (replace Rr := Rr.drew); (replace Rx := Rx.drew); (replace hb0 := hb0.drew); (generalize World.drew w2 = wq at *))
        refine tk 0 ⟨some 26, .move (.tmp 9), 3, _, _, _⟩ hHeld ?_
        (try simp only [Act.put, nz1, nz2, nz3])
        refine tk 1 ⟨some 27, .fieldAddr 33 (.tmp 5) 0, 0, _, _, _⟩ hHeld ?_
        (try simp only [Act.put, nz1, nz2, nz3])
        refine tk 2 ⟨some 28, .indexAddr 27 (.tmp 27) (.tmp 26), 0, _, _, _⟩ hHeld ?_
        (try simp only [Act.put, nz1, nz2, nz3])
        refine tk 3 ⟨some 29, .load 3 (.tmp 28), 3, _, _, _⟩ hHeld ?_
        (try simp only [Act.put, nz1, nz2, nz3])
        refine tk 4 ⟨some 30, .move (.tmp 9), 3, _, _, _⟩ hHeld ?_
        (try simp only [Act.put, nz1, nz2, nz3])
        refine tk 5 ⟨some 31, .fieldAddr 33 (.tmp 4) 0, 0, _, _, _⟩ hHeld ?_
        (try simp only [Act.put, nz1, nz2, nz3])
        refine tk 6 ⟨some 32, .indexAddr 27 (.tmp 31) (.tmp 30), 0, _, _, _⟩ hHeld ?_
        (try simp only [Act.put, nz1, nz2, nz3])
        refine tk 7 ⟨some 33, .load 3 (.tmp 32), 3, _, _, _⟩ hHeld ?_
        (try simp only [Act.put, nz1, nz2, nz3])
        refine tk 8 ⟨some 34, .binOp .lss 3 (.tmp 29) (.tmp 33) 3, 4, _, _, _⟩ hHeld ?_
        (try simp only [Act.put, nz1, nz2, nz3])
        refine wpAnyH_done (by kernel_rfl) ?_ _
        clear hHeld
        rename World => w3
        have lc := Rc.lt
        have ld := Rd.lt
        have ly := Ry.lt
        have lr := Rr.lt
        have lx := Rx.lt
        (try clear c0 c1 c2 c3 c4 c5 c6); obtain ⟨c0, c1, c2, c3, c4, c5, c6⟩ := row7 Rc
        (try clear d0 d1 d2 d3 d4 d5 d6 d7 d8 d9 d10 d11); obtain ⟨d0, d1, d2, d3, d4, d5, d6, d7, d8, d9, d10, d11⟩ := row12 Rd
        (try clear y0 y1 y2 y3 y4 y5 y6 y7 y8 y9 y10 y11); obtain ⟨y0, y1, y2, y3, y4, y5, y6, y7, y8, y9, y10, y11⟩ := row12 Ry
        (try clear r0 r1 r2 r3 r4 r5 r6 r7 r8 r9 r10 r11); obtain ⟨r0, r1, r2, r3, r4, r5, r6, r7, r8, r9, r10, r11⟩ := row12 Rr
        (try clear x0 x1 x2 x3 x4 x5 x6 x7 x8 x9 x10 x11); obtain ⟨x0, x1, x2, x3, x4, x5, x6, x7, x8, x9, x10, x11⟩ := row12 Rx
        have xf0 := Rx.frozen 0
        have xf1 := Rx.frozen 1
        have xf2 := Rx.frozen 2
        have xf3 := Rx.frozen 3
        have xf4 := Rx.frozen 4
        have xf5 := Rx.frozen 5
        have xf6 := Rx.frozen 6
        have xf7 := Rx.frozen 7
        have xf8 := Rx.frozen 8
        have xf9 := Rx.frozen 9
        have xf10 := Rx.frozen 10
        have xf11 := Rx.frozen 11
        go_wp2_with fail
        obtain ⟨w4, hwn⟩ : ∃ wz, wz = (World.setCell w3 ⟨(w.heap.size + 1 + 1 + 1 + 1), 0, none⟩ (.int .i64 q.a0)) := ⟨_, rfl⟩
        rw [← hwn]
        replace hwn : w4 = World.setCells w3 (w.heap.size + 1 + 1 + 1 + 1) 0 [.int .i64 q.a0] := hwn
        replace Rx : Row w4 (w.heap.size + 1 + 1 + 1 + 1) #[.int .i64 q.a0, .int .i64 0, .int .i64 0, .int .i64 0, .int .u64 0, .int .u64 0, .string ⟨#[]⟩, .int .i64 0, .int .i64 0, .int .u64 0, .int .u64 0, .string ⟨#[]⟩] 33 := psm hwn Rx (by simp [setL])
        replace Rc := prf hwn Rc
        replace Rd := prf hwn Rd
        replace Ry := prf hwn Ry
        replace Rr := prf hwn Rr
        replace hb0 := pbl hwn hb0
        clear hwn c0 c1 c2 c3 c4 c5 c6 d0 d1 d2 d3 d4 d5 d6 d7 d8 d9 d10 d11 y0 y1 y2 y3 y4 y5 y6 y7 y8 y9 y10 y11 r0 r1 r2 r3 r4 r5 r6 r7 r8 r9 r10 r11 x0 x1 x2 x3 x4 x5 x6 x7 x8 x9 x10 x11
        (try clear xf0 xf1 xf2 xf3 xf4 xf5 xf6 xf7 xf8 xf9 xf10 xf11)
        (try clear c0 c1 c2 c3 c4 c5 c6); obtain ⟨c0, c1, c2, c3, c4, c5, c6⟩ := row7 Rc
        (try clear d0 d1 d2 d3 d4 d5 d6 d7 d8 d9 d10 d11); obtain ⟨d0, d1, d2, d3, d4, d5, d6, d7, d8, d9, d10, d11⟩ := row12 Rd
        (try clear y0 y1 y2 y3 y4 y5 y6 y7 y8 y9 y10 y11); obtain ⟨y0, y1, y2, y3, y4, y5, y6, y7, y8, y9, y10, y11⟩ := row12 Ry
        (try clear r0 r1 r2 r3 r4 r5 r6 r7 r8 r9 r10 r11); obtain ⟨r0, r1, r2, r3, r4, r5, r6, r7, r8, r9, r10, r11⟩ := row12 Rr
        (try clear x0 x1 x2 x3 x4 x5 x6 x7 x8 x9 x10 x11); obtain ⟨x0, x1, x2, x3, x4, x5, x6, x7, x8, x9, x10, x11⟩ := row12 Rx
        rw [rounds_succ]
        have xf0 := Rx.frozen 0
        have xf1 := Rx.frozen 1
        have xf2 := Rx.frozen 2
        have xf3 := Rx.frozen 3
        have xf4 := Rx.frozen 4
        have xf5 := Rx.frozen 5
        have xf6 := Rx.frozen 6
        have xf7 := Rx.frozen 7
        have xf8 := Rx.frozen 8
        have xf9 := Rx.frozen 9
        have xf10 := Rx.frozen 10
        have xf11 := Rx.frozen 11
        go_wp2_with fail
        obtain ⟨w5, hwn⟩ : ∃ wz, wz = (World.setCell w4 ⟨(w.heap.size + 1 + 1 + 1 + 1), 1, none⟩ (.int .i64 p.a1)) := ⟨_, rfl⟩
        rw [← hwn]
        replace hwn : w5 = World.setCells w4 (w.heap.size + 1 + 1 + 1 + 1) 1 [.int .i64 p.a1] := hwn
        replace Rx : Row w5 (w.heap.size + 1 + 1 + 1 + 1) #[.int .i64 q.a0, .int .i64 p.a1, .int .i64 0, .int .i64 0, .int .u64 0, .int .u64 0, .string ⟨#[]⟩, .int .i64 0, .int .i64 0, .int .u64 0, .int .u64 0, .string ⟨#[]⟩] 33 := psm hwn Rx (by simp [setL])
        replace Rc := prf hwn Rc
        replace Rd := prf hwn Rd
        replace Ry := prf hwn Ry
        replace Rr := prf hwn Rr
        replace hb0 := pbl hwn hb0
        clear hwn c0 c1 c2 c3 c4 c5 c6 d0 d1 d2 d3 d4 d5 d6 d7 d8 d9 d10 d11 y0 y1 y2 y3 y4 y5 y6 y7 y8 y9 y10 y11 r0 r1 r2 r3 r4 r5 r6 r7 r8 r9 r10 r11 x0 x1 x2 x3 x4 x5 x6 x7 x8 x9 x10 x11
        (try clear xf0 xf1 xf2 xf3 xf4 xf5 xf6 xf7 xf8 xf9 xf10 xf11)
        (try clear c0 c1 c2 c3 c4 c5 c6); obtain ⟨c0, c1, c2, c3, c4, c5, c6⟩ := row7 Rc
        (try clear d0 d1 d2 d3 d4 d5 d6 d7 d8 d9 d10 d11); obtain ⟨d0, d1, d2, d3, d4, d5, d6, d7, d8, d9, d10, d11⟩ := row12 Rd
        (try clear y0 y1 y2 y3 y4 y5 y6 y7 y8 y9 y10 y11); obtain ⟨y0, y1, y2, y3, y4, y5, y6, y7, y8, y9, y10, y11⟩ := row12 Ry
        (try clear r0 r1 r2 r3 r4 r5 r6 r7 r8 r9 r10 r11); obtain ⟨r0, r1, r2, r3, r4, r5, r6, r7, r8, r9, r10, r11⟩ := row12 Rr
        (try clear x0 x1 x2 x3 x4 x5 x6 x7 x8 x9 x10 x11); obtain ⟨x0, x1, x2, x3, x4, x5, x6, x7, x8, x9, x10, x11⟩ := row12 Rx
        refine wp_region_held_drew (S := (fun w' => w'.cell? ⟨w.heap.size + 1, 1, none⟩ = some (Value.int .i64 p.a1) ∧ w'.cell? ⟨w.heap.size + 1 + 1, 1, none⟩ = some (Value.int .i64 q.a1))) (by kernel_rfl) ?hSr84_ (fun hHeld => ?_)
        case hSr84_ => (exact ⟨d1, y1⟩)
        (clear c0 c1 c2 c3 c4 c5 c6 d0 d1 d2 d3 d4 d5 d6 d7 d8 d9 d10 d11 y0 y1 y2 y3 y4 y5 y6 y7 y8 y9 y10 y11 r0 r1 r2 r3 r4 r5 r6 r7 r8 r9 r10 r11 x0 x1 x2 x3 x4 x5 x6 x7 x8 x9 x10 x11; (replace Rc := Rc.drew); (replace Rd := Rd.drew); (replace Ry := Ry.drew); (replace Rr := Rr.drew); (replace Rx := Rx.drew); (replace hb0 := hb0.drew); (generalize World.drew w5 = wq at *))
        refine tk 0 ⟨some 26, .move (.tmp 9), 3, _, _, _⟩ hHeld ?_
        (try simp only [Act.put, nz1, nz2, nz3])
        refine tk 1 ⟨some 27, .fieldAddr 33 (.tmp 5) 0, 0, _, _, _⟩ hHeld ?_
        (try simp only [Act.put, nz1, nz2, nz3])
        refine tk 2 ⟨some 28, .indexAddr 27 (.tmp 27) (.tmp 26), 0, _, _, _⟩ hHeld ?_
        (try simp only [Act.put, nz1, nz2, nz3])
        refine tk 3 ⟨some 29, .load 3 (.tmp 28), 3, _, _, _⟩ hHeld ?_
        (try simp only [Act.put, nz1, nz2, nz3])
        refine tk 4 ⟨some 30, .move (.tmp 9), 3, _, _, _⟩ hHeld ?_
        (try simp only [Act.put, nz1, nz2, nz3])
        refine tk 5 ⟨some 31, .fieldAddr 33 (.tmp 4) 0, 0, _, _, _⟩ hHeld ?_
        (try simp only [Act.put, nz1, nz2, nz3])
        refine tk 6 ⟨some 32, .indexAddr 27 (.tmp 31) (.tmp 30), 0, _, _, _⟩ hHeld ?_
        (try simp only [Act.put, nz1, nz2, nz3])
        refine tk 7 ⟨some 33, .load 3 (.tmp 32), 3, _, _, _⟩ hHeld ?_
        (try simp only [Act.put, nz1, nz2, nz3])
        refine tk 8 ⟨some 34, .binOp .lss 3 (.tmp 29) (.tmp 33) 3, 4, _, _, _⟩ hHeld ?_
        (try simp only [Act.put, nz1, nz2, nz3])
        refine wpAnyH_done (by kernel_rfl) ?_ _
        clear hHeld
        rename World => w6
        have lc := Rc.lt
        have ld := Rd.lt
        have ly := Ry.lt
        have lr := Rr.lt
        have lx := Rx.lt
        (try clear c0 c1 c2 c3 c4 c5 c6); obtain ⟨c0, c1, c2, c3, c4, c5, c6⟩ := row7 Rc
        (try clear d0 d1 d2 d3 d4 d5 d6 d7 d8 d9 d10 d11); obtain ⟨d0, d1, d2, d3, d4, d5, d6, d7, d8, d9, d10, d11⟩ := row12 Rd
        (try clear y0 y1 y2 y3 y4 y5 y6 y7 y8 y9 y10 y11); obtain ⟨y0, y1, y2, y3, y4, y5, y6, y7, y8, y9, y10, y11⟩ := row12 Ry
        (try clear r0 r1 r2 r3 r4 r5 r6 r7 r8 r9 r10 r11); obtain ⟨r0, r1, r2, r3, r4, r5, r6, r7, r8, r9, r10, r11⟩ := row12 Rr
        (try clear x0 x1 x2 x3 x4 x5 x6 x7 x8 x9 x10 x11); obtain ⟨x0, x1, x2, x3, x4, x5, x6, x7, x8, x9, x10, x11⟩ := row12 Rx
        have xf0 := Rx.frozen 0
        have xf1 := Rx.frozen 1
        have xf2 := Rx.frozen 2
        have xf3 := Rx.frozen 3
        have xf4 := Rx.frozen 4
        have xf5 := Rx.frozen 5
        have xf6 := Rx.frozen 6
        have xf7 := Rx.frozen 7
        have xf8 := Rx.frozen 8
        have xf9 := Rx.frozen 9
        have xf10 := Rx.frozen 10
        have xf11 := Rx.frozen 11
        go_wp2_with fail
        obtain ⟨w7, hwn⟩ : ∃ wz, wz = (World.setCell w6 ⟨(w.heap.size + 1 + 1 + 1 + 1), 1, none⟩ (.int .i64 q.a1)) := ⟨_, rfl⟩
        rw [← hwn]
        replace hwn : w7 = World.setCells w6 (w.heap.size + 1 + 1 + 1 + 1) 1 [.int .i64 q.a1] := hwn
        replace Rx : Row w7 (w.heap.size + 1 + 1 + 1 + 1) #[.int .i64 q.a0, .int .i64 q.a1, .int .i64 0, .int .i64 0, .int .u64 0, .int .u64 0, .string ⟨#[]⟩, .int .i64 0, .int .i64 0, .int .u64 0, .int .u64 0, .string ⟨#[]⟩] 33 := psm hwn Rx (by simp [setL])
        replace Rc := prf hwn Rc
        replace Rd := prf hwn Rd
        replace Ry := prf hwn Ry
        replace Rr := prf hwn Rr
        replace hb0 := pbl hwn hb0
        clear hwn c0 c1 c2 c3 c4 c5 c6 d0 d1 d2 d3 d4 d5 d6 d7 d8 d9 d10 d11 y0 y1 y2 y3 y4 y5 y6 y7 y8 y9 y10 y11 r0 r1 r2 r3 r4 r5 r6 r7 r8 r9 r10 r11 x0 x1 x2 x3 x4 x5 x6 x7 x8 x9 x10 x11
        (try clear xf0 xf1 xf2 xf3 xf4 xf5 xf6 xf7 xf8 xf9 xf10 xf11)
        (try clear c0 c1 c2 c3 c4 c5 c6); obtain ⟨c0, c1, c2, c3, c4, c5, c6⟩ := row7 Rc
        (try clear d0 d1 d2 d3 d4 d5 d6 d7 d8 d9 d10 d11); obtain ⟨d0, d1, d2, d3, d4, d5, d6, d7, d8, d9, d10, d11⟩ := row12 Rd
        (try clear y0 y1 y2 y3 y4 y5 y6 y7 y8 y9 y10 y11); obtain ⟨y0, y1, y2, y3, y4, y5, y6, y7, y8, y9, y10, y11⟩ := row12 Ry
        (try clear r0 r1 r2 r3 r4 r5 r6 r7 r8 r9 r10 r11); obtain ⟨r0, r1, r2, r3, r4, r5, r6, r7, r8, r9, r10, r11⟩ := row12 Rr
        (try clear x0 x1 x2 x3 x4 x5 x6 x7 x8 x9 x10 x11); obtain ⟨x0, x1, x2, x3, x4, x5, x6, x7, x8, x9, x10, x11⟩ := row12 Rx
        rw [rounds_succ]
        go_wp2_with fail
        go_meet
        exact ⟨Rc, Rd, Ry, Rr, Rx, hb0⟩
  case rest =>
    clear c0 c1 c2 c3 c4 c5 c6 d0 d1 d2 d3 d4 d5 d6 d7 d8 d9 d10 d11 y0 y1 y2 y3 y4 y5 y6 y7 y8 y9 y10 y11 r0 r1 r2 r3 r4 r5 r6 r7 r8 r9 r10 r11 x0 x1 x2 x3 x4 x5 x6 x7 x8 x9 x10 x11 Rc Rd Ry Rr Rx hb0
    obtain ⟨Rc, Rd, Ry, Rr, Rx, hb0⟩ := hcut
    rename World => w2
    have lc := Rc.lt
    have ld := Rd.lt
    have ly := Ry.lt
    have lr := Rr.lt
    have lx := Rx.lt
    (try clear c0 c1 c2 c3 c4 c5 c6); obtain ⟨c0, c1, c2, c3, c4, c5, c6⟩ := row7 Rc
    (try clear d0 d1 d2 d3 d4 d5 d6 d7 d8 d9 d10 d11); obtain ⟨d0, d1, d2, d3, d4, d5, d6, d7, d8, d9, d10, d11⟩ := row12 Rd
    (try clear y0 y1 y2 y3 y4 y5 y6 y7 y8 y9 y10 y11); obtain ⟨y0, y1, y2, y3, y4, y5, y6, y7, y8, y9, y10, y11⟩ := row12 Ry
    (try clear r0 r1 r2 r3 r4 r5 r6 r7 r8 r9 r10 r11); obtain ⟨r0, r1, r2, r3, r4, r5, r6, r7, r8, r9, r10, r11⟩ := row12 Rr
    (try clear x0 x1 x2 x3 x4 x5 x6 x7 x8 x9 x10 x11); obtain ⟨x0, x1, x2, x3, x4, x5, x6, x7, x8, x9, x10, x11⟩ := row12 Rx
    clear r0 r1 r2 r3 r4 r5 r6 r7 r8 r9 r10 r11
    go_wp2_with fail
    replace Rc := Rc.alloc (.cells #[Value.int .i64 p.k0.kind, Value.int .i64 p.k0.len, Value.int .u64 p.k0.h, Value.int .u64 p.k0.l, Value.string ⟨p.k0.path.toArray⟩, Value.int .i64 q.k0.kind, Value.int .i64 q.k0.len, Value.int .u64 q.k0.h, Value.int .u64 q.k0.l, Value.string ⟨q.k0.path.toArray⟩] 30)
    replace Rd := Rd.alloc (.cells #[Value.int .i64 p.k0.kind, Value.int .i64 p.k0.len, Value.int .u64 p.k0.h, Value.int .u64 p.k0.l, Value.string ⟨p.k0.path.toArray⟩, Value.int .i64 q.k0.kind, Value.int .i64 q.k0.len, Value.int .u64 q.k0.h, Value.int .u64 q.k0.l, Value.string ⟨q.k0.path.toArray⟩] 30)
    replace Ry := Ry.alloc (.cells #[Value.int .i64 p.k0.kind, Value.int .i64 p.k0.len, Value.int .u64 p.k0.h, Value.int .u64 p.k0.l, Value.string ⟨p.k0.path.toArray⟩, Value.int .i64 q.k0.kind, Value.int .i64 q.k0.len, Value.int .u64 q.k0.h, Value.int .u64 q.k0.l, Value.string ⟨q.k0.path.toArray⟩] 30)
    replace Rr := Rr.alloc (.cells #[Value.int .i64 p.k0.kind, Value.int .i64 p.k0.len, Value.int .u64 p.k0.h, Value.int .u64 p.k0.l, Value.string ⟨p.k0.path.toArray⟩, Value.int .i64 q.k0.kind, Value.int .i64 q.k0.len, Value.int .u64 q.k0.h, Value.int .u64 q.k0.l, Value.string ⟨q.k0.path.toArray⟩] 30)
    replace Rx := Rx.alloc (.cells #[Value.int .i64 p.k0.kind, Value.int .i64 p.k0.len, Value.int .u64 p.k0.h, Value.int .u64 p.k0.l, Value.string ⟨p.k0.path.toArray⟩, Value.int .i64 q.k0.kind, Value.int .i64 q.k0.len, Value.int .u64 q.k0.h, Value.int .u64 q.k0.l, Value.string ⟨q.k0.path.toArray⟩] 30)
    have Ra := Row.new w2 #[Value.int .i64 p.k0.kind, Value.int .i64 p.k0.len, Value.int .u64 p.k0.h, Value.int .u64 p.k0.l, Value.string ⟨p.k0.path.toArray⟩, Value.int .i64 q.k0.kind, Value.int .i64 q.k0.len, Value.int .u64 q.k0.h, Value.int .u64 q.k0.l, Value.string ⟨q.k0.path.toArray⟩] 30
    have ma := hb0.size
    replace hb0 := hb0.alloc hb0.size (.cells #[Value.int .i64 p.k0.kind, Value.int .i64 p.k0.len, Value.int .u64 p.k0.h, Value.int .u64 p.k0.l, Value.string ⟨p.k0.path.toArray⟩, Value.int .i64 q.k0.kind, Value.int .i64 q.k0.len, Value.int .u64 q.k0.h, Value.int .u64 q.k0.l, Value.string ⟨q.k0.path.toArray⟩] 30)
    (try clear c0 c1 c2 c3 c4 c5 c6); obtain ⟨c0, c1, c2, c3, c4, c5, c6⟩ := row7 Rc
    (try clear d0 d1 d2 d3 d4 d5 d6 d7 d8 d9 d10 d11); obtain ⟨d0, d1, d2, d3, d4, d5, d6, d7, d8, d9, d10, d11⟩ := row12 Rd
    (try clear y0 y1 y2 y3 y4 y5 y6 y7 y8 y9 y10 y11); obtain ⟨y0, y1, y2, y3, y4, y5, y6, y7, y8, y9, y10, y11⟩ := row12 Ry
    (try clear x0 x1 x2 x3 x4 x5 x6 x7 x8 x9 x10 x11); obtain ⟨x0, x1, x2, x3, x4, x5, x6, x7, x8, x9, x10, x11⟩ := row12 Rx
    (try clear a0 a1 a2 a3 a4 a5 a6 a7 a8 a9); obtain ⟨a0, a1, a2, a3, a4, a5, a6, a7, a8, a9⟩ := row10 Ra
    have la := Ra.lt
    replace Rc := Rc.alloc (.cells #[Value.int .i64 p.k1.kind, Value.int .i64 p.k1.len, Value.int .u64 p.k1.h, Value.int .u64 p.k1.l, Value.string ⟨p.k1.path.toArray⟩, Value.int .i64 q.k1.kind, Value.int .i64 q.k1.len, Value.int .u64 q.k1.h, Value.int .u64 q.k1.l, Value.string ⟨q.k1.path.toArray⟩] 30)
    replace Rd := Rd.alloc (.cells #[Value.int .i64 p.k1.kind, Value.int .i64 p.k1.len, Value.int .u64 p.k1.h, Value.int .u64 p.k1.l, Value.string ⟨p.k1.path.toArray⟩, Value.int .i64 q.k1.kind, Value.int .i64 q.k1.len, Value.int .u64 q.k1.h, Value.int .u64 q.k1.l, Value.string ⟨q.k1.path.toArray⟩] 30)
    replace Ry := Ry.alloc (.cells #[Value.int .i64 p.k1.kind, Value.int .i64 p.k1.len, Value.int .u64 p.k1.h, Value.int .u64 p.k1.l, Value.string ⟨p.k1.path.toArray⟩, Value.int .i64 q.k1.kind, Value.int .i64 q.k1.len, Value.int .u64 q.k1.h, Value.int .u64 q.k1.l, Value.string ⟨q.k1.path.toArray⟩] 30)
    replace Rr := Rr.alloc (.cells #[Value.int .i64 p.k1.kind, Value.int .i64 p.k1.len, Value.int .u64 p.k1.h, Value.int .u64 p.k1.l, Value.string ⟨p.k1.path.toArray⟩, Value.int .i64 q.k1.kind, Value.int .i64 q.k1.len, Value.int .u64 q.k1.h, Value.int .u64 q.k1.l, Value.string ⟨q.k1.path.toArray⟩] 30)
    replace Rx := Rx.alloc (.cells #[Value.int .i64 p.k1.kind, Value.int .i64 p.k1.len, Value.int .u64 p.k1.h, Value.int .u64 p.k1.l, Value.string ⟨p.k1.path.toArray⟩, Value.int .i64 q.k1.kind, Value.int .i64 q.k1.len, Value.int .u64 q.k1.h, Value.int .u64 q.k1.l, Value.string ⟨q.k1.path.toArray⟩] 30)
    replace Ra := Ra.alloc (.cells #[Value.int .i64 p.k1.kind, Value.int .i64 p.k1.len, Value.int .u64 p.k1.h, Value.int .u64 p.k1.l, Value.string ⟨p.k1.path.toArray⟩, Value.int .i64 q.k1.kind, Value.int .i64 q.k1.len, Value.int .u64 q.k1.h, Value.int .u64 q.k1.l, Value.string ⟨q.k1.path.toArray⟩] 30)
    have Rb := Row.new (World.alloc w2 (.cells #[Value.int .i64 p.k0.kind, Value.int .i64 p.k0.len, Value.int .u64 p.k0.h, Value.int .u64 p.k0.l, Value.string ⟨p.k0.path.toArray⟩, Value.int .i64 q.k0.kind, Value.int .i64 q.k0.len, Value.int .u64 q.k0.h, Value.int .u64 q.k0.l, Value.string ⟨q.k0.path.toArray⟩] 30)) #[Value.int .i64 p.k1.kind, Value.int .i64 p.k1.len, Value.int .u64 p.k1.h, Value.int .u64 p.k1.l, Value.string ⟨p.k1.path.toArray⟩, Value.int .i64 q.k1.kind, Value.int .i64 q.k1.len, Value.int .u64 q.k1.h, Value.int .u64 q.k1.l, Value.string ⟨q.k1.path.toArray⟩] 30
    simp only [World.size_alloc] at Rb
    have mb := hb0.size
    replace hb0 := hb0.alloc hb0.size (.cells #[Value.int .i64 p.k1.kind, Value.int .i64 p.k1.len, Value.int .u64 p.k1.h, Value.int .u64 p.k1.l, Value.string ⟨p.k1.path.toArray⟩, Value.int .i64 q.k1.kind, Value.int .i64 q.k1.len, Value.int .u64 q.k1.h, Value.int .u64 q.k1.l, Value.string ⟨q.k1.path.toArray⟩] 30)
    (try clear c0 c1 c2 c3 c4 c5 c6); obtain ⟨c0, c1, c2, c3, c4, c5, c6⟩ := row7 Rc
    (try clear d0 d1 d2 d3 d4 d5 d6 d7 d8 d9 d10 d11); obtain ⟨d0, d1, d2, d3, d4, d5, d6, d7, d8, d9, d10, d11⟩ := row12 Rd
    (try clear y0 y1 y2 y3 y4 y5 y6 y7 y8 y9 y10 y11); obtain ⟨y0, y1, y2, y3, y4, y5, y6, y7, y8, y9, y10, y11⟩ := row12 Ry
    (try clear x0 x1 x2 x3 x4 x5 x6 x7 x8 x9 x10 x11); obtain ⟨x0, x1, x2, x3, x4, x5, x6, x7, x8, x9, x10, x11⟩ := row12 Rx
    (try clear a0 a1 a2 a3 a4 a5 a6 a7 a8 a9); obtain ⟨a0, a1, a2, a3, a4, a5, a6, a7, a8, a9⟩ := row10 Ra
    (try clear b0 b1 b2 b3 b4 b5 b6 b7 b8 b9); obtain ⟨b0, b1, b2, b3, b4, b5, b6, b7, b8, b9⟩ := row10 Rb
    have lb := Rb.lt
    simp only [World.size_alloc] at la lb
    generalize (World.alloc (World.alloc w2 (.cells #[Value.int .i64 p.k0.kind, Value.int .i64 p.k0.len, Value.int .u64 p.k0.h, Value.int .u64 p.k0.l, Value.string ⟨p.k0.path.toArray⟩, Value.int .i64 q.k0.kind, Value.int .i64 q.k0.len, Value.int .u64 q.k0.h, Value.int .u64 q.k0.l, Value.string ⟨q.k0.path.toArray⟩] 30)) (.cells #[Value.int .i64 p.k1.kind, Value.int .i64 p.k1.len, Value.int .u64 p.k1.h, Value.int .u64 p.k1.l, Value.string ⟨p.k1.path.toArray⟩, Value.int .i64 q.k1.kind, Value.int .i64 q.k1.len, Value.int .u64 q.k1.h, Value.int .u64 q.k1.l, Value.string ⟨q.k1.path.toArray⟩] 30)) = w3 at *
    refine wp_loop_rounds 3 ?_
    rw [rounds_succ]
    go_wp2_with fail
    refine wp_loop_rounds 3 ?_
    rw [rounds_succ]
    have xf0 := Rx.frozen 0
    have xf1 := Rx.frozen 1
    have xf2 := Rx.frozen 2
    have xf3 := Rx.frozen 3
    have xf4 := Rx.frozen 4
    have xf5 := Rx.frozen 5
    have xf6 := Rx.frozen 6
    have xf7 := Rx.frozen 7
    have xf8 := Rx.frozen 8
    have xf9 := Rx.frozen 9
    have xf10 := Rx.frozen 10
    have xf11 := Rx.frozen 11
    go_upto_region 18 with fail
    obtain ⟨w4, hwn⟩ : ∃ wz, wz = (World.setCell (World.setCell (World.setCell (World.setCell (World.setCell (World.setCell (World.setCell (World.setCell (World.setCell (World.setCell w3 ⟨(w.heap.size + 1 + 1 + 1 + 1), 2, none⟩ (.int .i64 p.k0.kind)) ⟨(w.heap.size + 1 + 1 + 1 + 1), 3, none⟩ (.int .i64 p.k0.len)) ⟨(w.heap.size + 1 + 1 + 1 + 1), 4, none⟩ (.int .u64 p.k0.h)) ⟨(w.heap.size + 1 + 1 + 1 + 1), 5, none⟩ (.int .u64 p.k0.l)) ⟨(w.heap.size + 1 + 1 + 1 + 1), 6, none⟩ (.string ⟨p.k0.path.toArray⟩)) ⟨(w.heap.size + 1 + 1 + 1 + 1), 7, none⟩ (.int .i64 p.k1.kind)) ⟨(w.heap.size + 1 + 1 + 1 + 1), 8, none⟩ (.int .i64 p.k1.len)) ⟨(w.heap.size + 1 + 1 + 1 + 1), 9, none⟩ (.int .u64 p.k1.h)) ⟨(w.heap.size + 1 + 1 + 1 + 1), 10, none⟩ (.int .u64 p.k1.l)) ⟨(w.heap.size + 1 + 1 + 1 + 1), 11, none⟩ (.string ⟨p.k1.path.toArray⟩)) := ⟨_, rfl⟩
    rw [← hwn]
    replace hwn : w4 = World.setCells w3 (w.heap.size + 1 + 1 + 1 + 1) 2 [.int .i64 p.k0.kind, .int .i64 p.k0.len, .int .u64 p.k0.h, .int .u64 p.k0.l, .string ⟨p.k0.path.toArray⟩, .int .i64 p.k1.kind, .int .i64 p.k1.len, .int .u64 p.k1.h, .int .u64 p.k1.l, .string ⟨p.k1.path.toArray⟩] := hwn
    replace Rx : Row w4 (w.heap.size + 1 + 1 + 1 + 1) #[.int .i64 m0, .int .i64 m1, .int .i64 p.k0.kind, .int .i64 p.k0.len, .int .u64 p.k0.h, .int .u64 p.k0.l, .string ⟨p.k0.path.toArray⟩, .int .i64 p.k1.kind, .int .i64 p.k1.len, .int .u64 p.k1.h, .int .u64 p.k1.l, .string ⟨p.k1.path.toArray⟩] 33 := psm hwn Rx (by simp [setL])
    replace Rc := prf hwn Rc
    replace Rd := prf hwn Rd
    replace Ry := prf hwn Ry
    replace Rr := prf hwn Rr
    replace Ra := prf hwn Ra
    replace Rb := prf hwn Rb
    replace hb0 := pbl hwn hb0
    clear hwn c0 c1 c2 c3 c4 c5 c6 d0 d1 d2 d3 d4 d5 d6 d7 d8 d9 d10 d11 y0 y1 y2 y3 y4 y5 y6 y7 y8 y9 y10 y11 x0 x1 x2 x3 x4 x5 x6 x7 x8 x9 x10 x11 a0 a1 a2 a3 a4 a5 a6 a7 a8 a9 b0 b1 b2 b3 b4 b5 b6 b7 b8 b9
    (try clear xf0 xf1 xf2 xf3 xf4 xf5 xf6 xf7 xf8 xf9 xf10 xf11)
    (try clear c0 c1 c2 c3 c4 c5 c6); obtain ⟨c0, c1, c2, c3, c4, c5, c6⟩ := row7 Rc
    (try clear d0 d1 d2 d3 d4 d5 d6 d7 d8 d9 d10 d11); obtain ⟨d0, d1, d2, d3, d4, d5, d6, d7, d8, d9, d10, d11⟩ := row12 Rd
    (try clear y0 y1 y2 y3 y4 y5 y6 y7 y8 y9 y10 y11); obtain ⟨y0, y1, y2, y3, y4, y5, y6, y7, y8, y9, y10, y11⟩ := row12 Ry
    (try clear x0 x1 x2 x3 x4 x5 x6 x7 x8 x9 x10 x11); obtain ⟨x0, x1, x2, x3, x4, x5, x6, x7, x8, x9, x10, x11⟩ := row12 Rx
    (try clear a0 a1 a2 a3 a4 a5 a6 a7 a8 a9); obtain ⟨a0, a1, a2, a3, a4, a5, a6, a7, a8, a9⟩ := row10 Ra
    (try clear b0 b1 b2 b3 b4 b5 b6 b7 b8 b9); obtain ⟨b0, b1, b2, b3, b4, b5, b6, b7, b8, b9⟩ := row10 Rb
    clear a0 a1 a2 a3 a4 a5 a6 a7 a8 a9
    clear b0 b1 b2 b3 b4 b5 b6 b7 b8 b9
    go_cut [85] (fun s85 wx => s85 = .bool t00 ∧ Row wx w.heap.size #[.int .i64 s.n, .int .i64 s.d0.kind, .int .i64 s.d0.side, .int .i64 s.d0.step, .int .i64 s.d1.kind, .int .i64 s.d1.side, .int .i64 s.d1.step] 26 ∧ Row wx (w.heap.size + 1) #[.int .i64 p.a0, .int .i64 p.a1, .int .i64 p.k0.kind, .int .i64 p.k0.len, .int .u64 p.k0.h, .int .u64 p.k0.l, .string ⟨p.k0.path.toArray⟩, .int .i64 p.k1.kind, .int .i64 p.k1.len, .int .u64 p.k1.h, .int .u64 p.k1.l, .string ⟨p.k1.path.toArray⟩] 33 ∧ Row wx (w.heap.size + 1 + 1) #[.int .i64 q.a0, .int .i64 q.a1, .int .i64 q.k0.kind, .int .i64 q.k0.len, .int .u64 q.k0.h, .int .u64 q.k0.l, .string ⟨q.k0.path.toArray⟩, .int .i64 q.k1.kind, .int .i64 q.k1.len, .int .u64 q.k1.h, .int .u64 q.k1.l, .string ⟨q.k1.path.toArray⟩] 33 ∧ Row wx (w.heap.size + 1 + 1 + 1) #[.int .i64 0, .int .i64 0, .int .i64 0, .int .i64 0, .int .u64 0, .int .u64 0, .string ⟨#[]⟩, .int .i64 0, .int .i64 0, .int .u64 0, .int .u64 0, .string ⟨#[]⟩] 33 ∧ Row wx (w.heap.size + 1 + 1 + 1 + 1) #[.int .i64 m0, .int .i64 m1, .int .i64 p.k0.kind, .int .i64 p.k0.len, .int .u64 p.k0.h, .int .u64 p.k0.l, .string ⟨p.k0.path.toArray⟩, .int .i64 p.k1.kind, .int .i64 p.k1.len, .int .u64 p.k1.h, .int .u64 p.k1.l, .string ⟨p.k1.path.toArray⟩] 33 ∧ Row wx w2.heap.size #[.int .i64 p.k0.kind, .int .i64 p.k0.len, .int .u64 p.k0.h, .int .u64 p.k0.l, .string ⟨p.k0.path.toArray⟩, .int .i64 q.k0.kind, .int .i64 q.k0.len, .int .u64 q.k0.h, .int .u64 q.k0.l, .string ⟨q.k0.path.toArray⟩] 30 ∧ Row wx (w2.heap.size + 1) #[.int .i64 p.k1.kind, .int .i64 p.k1.len, .int .u64 p.k1.h, .int .u64 p.k1.l, .string ⟨p.k1.path.toArray⟩, .int .i64 q.k1.kind, .int .i64 q.k1.len, .int .u64 q.k1.h, .int .u64 q.k1.l, .string ⟨q.k1.path.toArray⟩] 30 ∧ Below w.heap.size w wx)
    case first =>
      cases u00 with
      | false =>
        obtain rfl : false = t00 := T00.out
        go_wp2_with fail
        refine (U00 _).mono ?_
        rintro e w5 ⟨rfl, hb⟩
        replace Rc := Rc.later hb
        replace Rd := Rd.later hb
        replace Ry := Ry.later hb
        replace Rr := Rr.later hb
        replace Rx := Rx.later hb
        replace Ra := Ra.later hb
        replace Rb := Rb.later hb
        replace hb0 := below_step hb0 hb
        clear hb
        have lc := Rc.lt
        have ld := Rd.lt
        have ly := Ry.lt
        have lr := Rr.lt
        have lx := Rx.lt
        have la := Ra.lt
        have lb := Rb.lt
        (try clear c0 c1 c2 c3 c4 c5 c6); obtain ⟨c0, c1, c2, c3, c4, c5, c6⟩ := row7 Rc
        (try clear d0 d1 d2 d3 d4 d5 d6 d7 d8 d9 d10 d11); obtain ⟨d0, d1, d2, d3, d4, d5, d6, d7, d8, d9, d10, d11⟩ := row12 Rd
        (try clear y0 y1 y2 y3 y4 y5 y6 y7 y8 y9 y10 y11); obtain ⟨y0, y1, y2, y3, y4, y5, y6, y7, y8, y9, y10, y11⟩ := row12 Ry
        (try clear x0 x1 x2 x3 x4 x5 x6 x7 x8 x9 x10 x11); obtain ⟨x0, x1, x2, x3, x4, x5, x6, x7, x8, x9, x10, x11⟩ := row12 Rx
        go_wp2_with fail
        go_meet
        exact ⟨rfl, Rc, Rd, Ry, Rr, Rx, Ra, Rb, hb0⟩
      | true =>
        obtain rfl : v00 = t00 := T00.out
        go_wp2_with fail
        refine (U00 _).mono ?_
        rintro e w5 ⟨rfl, hb⟩
        replace Rc := Rc.later hb
        replace Rd := Rd.later hb
        replace Ry := Ry.later hb
        replace Rr := Rr.later hb
        replace Rx := Rx.later hb
        replace Ra := Ra.later hb
        replace Rb := Rb.later hb
        replace hb0 := below_step hb0 hb
        clear hb
        have lc := Rc.lt
        have ld := Rd.lt
        have ly := Ry.lt
        have lr := Rr.lt
        have lx := Rx.lt
        have la := Ra.lt
        have lb := Rb.lt
        (try clear c0 c1 c2 c3 c4 c5 c6); obtain ⟨c0, c1, c2, c3, c4, c5, c6⟩ := row7 Rc
        (try clear d0 d1 d2 d3 d4 d5 d6 d7 d8 d9 d10 d11); obtain ⟨d0, d1, d2, d3, d4, d5, d6, d7, d8, d9, d10, d11⟩ := row12 Rd
        (try clear y0 y1 y2 y3 y4 y5 y6 y7 y8 y9 y10 y11); obtain ⟨y0, y1, y2, y3, y4, y5, y6, y7, y8, y9, y10, y11⟩ := row12 Ry
        (try clear x0 x1 x2 x3 x4 x5 x6 x7 x8 x9 x10 x11); obtain ⟨x0, x1, x2, x3, x4, x5, x6, x7, x8, x9, x10, x11⟩ := row12 Rx
        go_wp2_with fail
        refine (V00 _).mono ?_
        rintro e w6 ⟨rfl, hb⟩
        replace Rc := Rc.later hb
        replace Rd := Rd.later hb
        replace Ry := Ry.later hb
        replace Rr := Rr.later hb
        replace Rx := Rx.later hb
        replace Ra := Ra.later hb
        replace Rb := Rb.later hb
        replace hb0 := below_step hb0 hb
        clear hb
        have lc := Rc.lt
        have ld := Rd.lt
        have ly := Ry.lt
        have lr := Rr.lt
        have lx := Rx.lt
        have la := Ra.lt
        have lb := Rb.lt
        (try clear c0 c1 c2 c3 c4 c5 c6); obtain ⟨c0, c1, c2, c3, c4, c5, c6⟩ := row7 Rc
        (try clear d0 d1 d2 d3 d4 d5 d6 d7 d8 d9 d10 d11); obtain ⟨d0, d1, d2, d3, d4, d5, d6, d7, d8, d9, d10, d11⟩ := row12 Rd
        (try clear y0 y1 y2 y3 y4 y5 y6 y7 y8 y9 y10 y11); obtain ⟨y0, y1, y2, y3, y4, y5, y6, y7, y8, y9, y10, y11⟩ := row12 Ry
        (try clear x0 x1 x2 x3 x4 x5 x6 x7 x8 x9 x10 x11); obtain ⟨x0, x1, x2, x3, x4, x5, x6, x7, x8, x9, x10, x11⟩ := row12 Rx
        go_wp2_with fail
        go_meet
        exact ⟨rfl, Rc, Rd, Ry, Rr, Rx, Ra, Rb, hb0⟩
    case rest =>
      clear c0 c1 c2 c3 c4 c5 c6 d0 d1 d2 d3 d4 d5 d6 d7 d8 d9 d10 d11 y0 y1 y2 y3 y4 y5 y6 y7 y8 y9 y10 y11 x0 x1 x2 x3 x4 x5 x6 x7 x8 x9 x10 x11 Rc Rd Ry Rr Rx Ra Rb hb0
      obtain ⟨rfl, Rc, Rd, Ry, Rr, Rx, Ra, Rb, hb0⟩ := hcut
      rename World => w5
      have lc := Rc.lt
      have ld := Rd.lt
      have ly := Ry.lt
      have lr := Rr.lt
      have lx := Rx.lt
      have la := Ra.lt
      have lb := Rb.lt
      (try clear c0 c1 c2 c3 c4 c5 c6); obtain ⟨c0, c1, c2, c3, c4, c5, c6⟩ := row7 Rc
      (try clear d0 d1 d2 d3 d4 d5 d6 d7 d8 d9 d10 d11); obtain ⟨d0, d1, d2, d3, d4, d5, d6, d7, d8, d9, d10, d11⟩ := row12 Rd
      (try clear y0 y1 y2 y3 y4 y5 y6 y7 y8 y9 y10 y11); obtain ⟨y0, y1, y2, y3, y4, y5, y6, y7, y8, y9, y10, y11⟩ := row12 Ry
      (try clear x0 x1 x2 x3 x4 x5 x6 x7 x8 x9 x10 x11); obtain ⟨x0, x1, x2, x3, x4, x5, x6, x7, x8, x9, x10, x11⟩ := row12 Rx
      clear U00 V00 T00
      cases t00 with
      | true =>
        (try clear r0 r1 r2 r3 r4 r5 r6 r7 r8 r9 r10 r11); obtain ⟨r0, r1, r2, r3, r4, r5, r6, r7, r8, r9, r10, r11⟩ := row12 Rr
        have rf0 := Rr.frozen 0
        have rf1 := Rr.frozen 1
        have rf2 := Rr.frozen 2
        have rf3 := Rr.frozen 3
        have rf4 := Rr.frozen 4
        have rf5 := Rr.frozen 5
        have rf6 := Rr.frozen 6
        have rf7 := Rr.frozen 7
        have rf8 := Rr.frozen 8
        have rf9 := Rr.frozen 9
        have rf10 := Rr.frozen 10
        have rf11 := Rr.frozen 11
        go_wp2
        obtain ⟨w6, hwn⟩ : ∃ wz, wz = (World.setCell (World.setCell (World.setCell (World.setCell (World.setCell (World.setCell (World.setCell (World.setCell (World.setCell (World.setCell (World.setCell (World.setCell w5 ⟨(w.heap.size + 1 + 1 + 1), 0, none⟩ (.int .i64 m0)) ⟨(w.heap.size + 1 + 1 + 1), 1, none⟩ (.int .i64 m1)) ⟨(w.heap.size + 1 + 1 + 1), 2, none⟩ (.int .i64 p.k0.kind)) ⟨(w.heap.size + 1 + 1 + 1), 3, none⟩ (.int .i64 p.k0.len)) ⟨(w.heap.size + 1 + 1 + 1), 4, none⟩ (.int .u64 p.k0.h)) ⟨(w.heap.size + 1 + 1 + 1), 5, none⟩ (.int .u64 p.k0.l)) ⟨(w.heap.size + 1 + 1 + 1), 6, none⟩ (.string ⟨p.k0.path.toArray⟩)) ⟨(w.heap.size + 1 + 1 + 1), 7, none⟩ (.int .i64 p.k1.kind)) ⟨(w.heap.size + 1 + 1 + 1), 8, none⟩ (.int .i64 p.k1.len)) ⟨(w.heap.size + 1 + 1 + 1), 9, none⟩ (.int .u64 p.k1.h)) ⟨(w.heap.size + 1 + 1 + 1), 10, none⟩ (.int .u64 p.k1.l)) ⟨(w.heap.size + 1 + 1 + 1), 11, none⟩ (.string ⟨p.k1.path.toArray⟩)) := ⟨_, rfl⟩
        rw [← hwn]
        replace hwn : w6 = World.setCells w5 (w.heap.size + 1 + 1 + 1) 0 [.int .i64 m0, .int .i64 m1, .int .i64 p.k0.kind, .int .i64 p.k0.len, .int .u64 p.k0.h, .int .u64 p.k0.l, .string ⟨p.k0.path.toArray⟩, .int .i64 p.k1.kind, .int .i64 p.k1.len, .int .u64 p.k1.h, .int .u64 p.k1.l, .string ⟨p.k1.path.toArray⟩] := hwn
        replace Rr : Row w6 (w.heap.size + 1 + 1 + 1) #[.int .i64 m0, .int .i64 m1, .int .i64 p.k0.kind, .int .i64 p.k0.len, .int .u64 p.k0.h, .int .u64 p.k0.l, .string ⟨p.k0.path.toArray⟩, .int .i64 p.k1.kind, .int .i64 p.k1.len, .int .u64 p.k1.h, .int .u64 p.k1.l, .string ⟨p.k1.path.toArray⟩] 33 := psm hwn Rr (by simp [setL])
        replace Rc := prf hwn Rc
        replace Rd := prf hwn Rd
        replace Ry := prf hwn Ry
        replace Rx := prf hwn Rx
        replace Ra := prf hwn Ra
        replace Rb := prf hwn Rb
        replace hb0 := pbl hwn hb0
        clear hwn c0 c1 c2 c3 c4 c5 c6 d0 d1 d2 d3 d4 d5 d6 d7 d8 d9 d10 d11 y0 y1 y2 y3 y4 y5 y6 y7 y8 y9 y10 y11 r0 r1 r2 r3 r4 r5 r6 r7 r8 r9 r10 r11 x0 x1 x2 x3 x4 x5 x6 x7 x8 x9 x10 x11
        (try clear rf0 rf1 rf2 rf3 rf4 rf5 rf6 rf7 rf8 rf9 rf10 rf11)
        (try clear c0 c1 c2 c3 c4 c5 c6); obtain ⟨c0, c1, c2, c3, c4, c5, c6⟩ := row7 Rc
        (try clear d0 d1 d2 d3 d4 d5 d6 d7 d8 d9 d10 d11); obtain ⟨d0, d1, d2, d3, d4, d5, d6, d7, d8, d9, d10, d11⟩ := row12 Rd
        (try clear y0 y1 y2 y3 y4 y5 y6 y7 y8 y9 y10 y11); obtain ⟨y0, y1, y2, y3, y4, y5, y6, y7, y8, y9, y10, y11⟩ := row12 Ry
        (try clear r0 r1 r2 r3 r4 r5 r6 r7 r8 r9 r10 r11); obtain ⟨r0, r1, r2, r3, r4, r5, r6, r7, r8, r9, r10, r11⟩ := row12 Rr
        (try clear x0 x1 x2 x3 x4 x5 x6 x7 x8 x9 x10 x11); obtain ⟨x0, x1, x2, x3, x4, x5, x6, x7, x8, x9, x10, x11⟩ := row12 Rx
        refine bodyPost_ret (v := .tuple #[.agg #[.int .i64 m0, .int .i64 m1, .int .i64 p.k0.kind, .int .i64 p.k0.len, .int .u64 p.k0.h, .int .u64 p.k0.l, .string ⟨p.k0.path.toArray⟩, .int .i64 p.k1.kind, .int .i64 p.k1.len, .int .u64 p.k1.h, .int .u64 p.k1.l, .string ⟨p.k1.path.toArray⟩], .bool true]) (by simp [results, Try.results31, go_sem, r0, r1, r2, r3, r4, r5, r6, r7, r8, r9, r10, r11]) rfl ⟨rfl, hb0⟩
      | false =>
        go_wp2_with fail
        rw [rounds_succ]
        (try clear a0 a1 a2 a3 a4 a5 a6 a7 a8 a9); obtain ⟨a0, a1, a2, a3, a4, a5, a6, a7, a8, a9⟩ := row10 Ra
        (try clear b0 b1 b2 b3 b4 b5 b6 b7 b8 b9); obtain ⟨b0, b1, b2, b3, b4, b5, b6, b7, b8, b9⟩ := row10 Rb
        have xf0 := Rx.frozen 0
        have xf1 := Rx.frozen 1
        have xf2 := Rx.frozen 2
        have xf3 := Rx.frozen 3
        have xf4 := Rx.frozen 4
        have xf5 := Rx.frozen 5
        have xf6 := Rx.frozen 6
        have xf7 := Rx.frozen 7
        have xf8 := Rx.frozen 8
        have xf9 := Rx.frozen 9
        have xf10 := Rx.frozen 10
        have xf11 := Rx.frozen 11
        go_upto_region 18 with fail
        obtain ⟨w6, hwn⟩ : ∃ wz, wz = (World.setCell (World.setCell (World.setCell (World.setCell (World.setCell (World.setCell (World.setCell (World.setCell (World.setCell (World.setCell w5 ⟨(w.heap.size + 1 + 1 + 1 + 1), 2, none⟩ (.int .i64 p.k0.kind)) ⟨(w.heap.size + 1 + 1 + 1 + 1), 3, none⟩ (.int .i64 p.k0.len)) ⟨(w.heap.size + 1 + 1 + 1 + 1), 4, none⟩ (.int .u64 p.k0.h)) ⟨(w.heap.size + 1 + 1 + 1 + 1), 5, none⟩ (.int .u64 p.k0.l)) ⟨(w.heap.size + 1 + 1 + 1 + 1), 6, none⟩ (.string ⟨p.k0.path.toArray⟩)) ⟨(w.heap.size + 1 + 1 + 1 + 1), 7, none⟩ (.int .i64 q.k1.kind)) ⟨(w.heap.size + 1 + 1 + 1 + 1), 8, none⟩ (.int .i64 q.k1.len)) ⟨(w.heap.size + 1 + 1 + 1 + 1), 9, none⟩ (.int .u64 q.k1.h)) ⟨(w.heap.size + 1 + 1 + 1 + 1), 10, none⟩ (.int .u64 q.k1.l)) ⟨(w.heap.size + 1 + 1 + 1 + 1), 11, none⟩ (.string ⟨q.k1.path.toArray⟩)) := ⟨_, rfl⟩
        rw [← hwn]
        replace hwn : w6 = World.setCells w5 (w.heap.size + 1 + 1 + 1 + 1) 2 [.int .i64 p.k0.kind, .int .i64 p.k0.len, .int .u64 p.k0.h, .int .u64 p.k0.l, .string ⟨p.k0.path.toArray⟩, .int .i64 q.k1.kind, .int .i64 q.k1.len, .int .u64 q.k1.h, .int .u64 q.k1.l, .string ⟨q.k1.path.toArray⟩] := hwn
        replace Rx : Row w6 (w.heap.size + 1 + 1 + 1 + 1) #[.int .i64 m0, .int .i64 m1, .int .i64 p.k0.kind, .int .i64 p.k0.len, .int .u64 p.k0.h, .int .u64 p.k0.l, .string ⟨p.k0.path.toArray⟩, .int .i64 q.k1.kind, .int .i64 q.k1.len, .int .u64 q.k1.h, .int .u64 q.k1.l, .string ⟨q.k1.path.toArray⟩] 33 := psm hwn Rx (by simp [setL])
        replace Rc := prf hwn Rc
        replace Rd := prf hwn Rd
        replace Ry := prf hwn Ry
        replace Rr := prf hwn Rr
        replace Ra := prf hwn Ra
        replace Rb := prf hwn Rb
        replace hb0 := pbl hwn hb0
        clear hwn c0 c1 c2 c3 c4 c5 c6 d0 d1 d2 d3 d4 d5 d6 d7 d8 d9 d10 d11 y0 y1 y2 y3 y4 y5 y6 y7 y8 y9 y10 y11 x0 x1 x2 x3 x4 x5 x6 x7 x8 x9 x10 x11 a0 a1 a2 a3 a4 a5 a6 a7 a8 a9 b0 b1 b2 b3 b4 b5 b6 b7 b8 b9
        (try clear xf0 xf1 xf2 xf3 xf4 xf5 xf6 xf7 xf8 xf9 xf10 xf11)
        (try clear c0 c1 c2 c3 c4 c5 c6); obtain ⟨c0, c1, c2, c3, c4, c5, c6⟩ := row7 Rc
        (try clear d0 d1 d2 d3 d4 d5 d6 d7 d8 d9 d10 d11); obtain ⟨d0, d1, d2, d3, d4, d5, d6, d7, d8, d9, d10, d11⟩ := row12 Rd
        (try clear y0 y1 y2 y3 y4 y5 y6 y7 y8 y9 y10 y11); obtain ⟨y0, y1, y2, y3, y4, y5, y6, y7, y8, y9, y10, y11⟩ := row12 Ry
        (try clear x0 x1 x2 x3 x4 x5 x6 x7 x8 x9 x10 x11); obtain ⟨x0, x1, x2, x3, x4, x5, x6, x7, x8, x9, x10, x11⟩ := row12 Rx
        (try clear a0 a1 a2 a3 a4 a5 a6 a7 a8 a9); obtain ⟨a0, a1, a2, a3, a4, a5, a6, a7, a8, a9⟩ := row10 Ra
        (try clear b0 b1 b2 b3 b4 b5 b6 b7 b8 b9); obtain ⟨b0, b1, b2, b3, b4, b5, b6, b7, b8, b9⟩ := row10 Rb
        clear a0 a1 a2 a3 a4 a5 a6 a7 a8 a9
        clear b0 b1 b2 b3 b4 b5 b6 b7 b8 b9
        go_cut [85] (fun s85 wx => s85 = .bool t01 ∧ Row wx w.heap.size #[.int .i64 s.n, .int .i64 s.d0.kind, .int .i64 s.d0.side, .int .i64 s.d0.step, .int .i64 s.d1.kind, .int .i64 s.d1.side, .int .i64 s.d1.step] 26 ∧ Row wx (w.heap.size + 1) #[.int .i64 p.a0, .int .i64 p.a1, .int .i64 p.k0.kind, .int .i64 p.k0.len, .int .u64 p.k0.h, .int .u64 p.k0.l, .string ⟨p.k0.path.toArray⟩, .int .i64 p.k1.kind, .int .i64 p.k1.len, .int .u64 p.k1.h, .int .u64 p.k1.l, .string ⟨p.k1.path.toArray⟩] 33 ∧ Row wx (w.heap.size + 1 + 1) #[.int .i64 q.a0, .int .i64 q.a1, .int .i64 q.k0.kind, .int .i64 q.k0.len, .int .u64 q.k0.h, .int .u64 q.k0.l, .string ⟨q.k0.path.toArray⟩, .int .i64 q.k1.kind, .int .i64 q.k1.len, .int .u64 q.k1.h, .int .u64 q.k1.l, .string ⟨q.k1.path.toArray⟩] 33 ∧ Row wx (w.heap.size + 1 + 1 + 1) #[.int .i64 0, .int .i64 0, .int .i64 0, .int .i64 0, .int .u64 0, .int .u64 0, .string ⟨#[]⟩, .int .i64 0, .int .i64 0, .int .u64 0, .int .u64 0, .string ⟨#[]⟩] 33 ∧ Row wx (w.heap.size + 1 + 1 + 1 + 1) #[.int .i64 m0, .int .i64 m1, .int .i64 p.k0.kind, .int .i64 p.k0.len, .int .u64 p.k0.h, .int .u64 p.k0.l, .string ⟨p.k0.path.toArray⟩, .int .i64 q.k1.kind, .int .i64 q.k1.len, .int .u64 q.k1.h, .int .u64 q.k1.l, .string ⟨q.k1.path.toArray⟩] 33 ∧ Row wx w2.heap.size #[.int .i64 p.k0.kind, .int .i64 p.k0.len, .int .u64 p.k0.h, .int .u64 p.k0.l, .string ⟨p.k0.path.toArray⟩, .int .i64 q.k0.kind, .int .i64 q.k0.len, .int .u64 q.k0.h, .int .u64 q.k0.l, .string ⟨q.k0.path.toArray⟩] 30 ∧ Row wx (w2.heap.size + 1) #[.int .i64 p.k1.kind, .int .i64 p.k1.len, .int .u64 p.k1.h, .int .u64 p.k1.l, .string ⟨p.k1.path.toArray⟩, .int .i64 q.k1.kind, .int .i64 q.k1.len, .int .u64 q.k1.h, .int .u64 q.k1.l, .string ⟨q.k1.path.toArray⟩] 30 ∧ Below w.heap.size w wx)
        case first =>
          cases u01 with
          | false =>
            obtain rfl : false = t01 := T01.out
            go_wp2_with fail
            refine (U01 _).mono ?_
            rintro e w7 ⟨rfl, hb⟩
            replace Rc := Rc.later hb
            replace Rd := Rd.later hb
            replace Ry := Ry.later hb
            replace Rr := Rr.later hb
            replace Rx := Rx.later hb
            replace Ra := Ra.later hb
            replace Rb := Rb.later hb
            replace hb0 := below_step hb0 hb
            clear hb
            have lc := Rc.lt
            have ld := Rd.lt
            have ly := Ry.lt
            have lr := Rr.lt
            have lx := Rx.lt
            have la := Ra.lt
            have lb := Rb.lt
            (try clear c0 c1 c2 c3 c4 c5 c6); obtain ⟨c0, c1, c2, c3, c4, c5, c6⟩ := row7 Rc
            (try clear d0 d1 d2 d3 d4 d5 d6 d7 d8 d9 d10 d11); obtain ⟨d0, d1, d2, d3, d4, d5, d6, d7, d8, d9, d10, d11⟩ := row12 Rd
            (try clear y0 y1 y2 y3 y4 y5 y6 y7 y8 y9 y10 y11); obtain ⟨y0, y1, y2, y3, y4, y5, y6, y7, y8, y9, y10, y11⟩ := row12 Ry
            (try clear x0 x1 x2 x3 x4 x5 x6 x7 x8 x9 x10 x11); obtain ⟨x0, x1, x2, x3, x4, x5, x6, x7, x8, x9, x10, x11⟩ := row12 Rx
            go_wp2_with fail
            go_meet
            exact ⟨rfl, Rc, Rd, Ry, Rr, Rx, Ra, Rb, hb0⟩
          | true =>
            obtain rfl : v01 = t01 := T01.out
            go_wp2_with fail
            refine (U01 _).mono ?_
            rintro e w7 ⟨rfl, hb⟩
            replace Rc := Rc.later hb
            replace Rd := Rd.later hb
            replace Ry := Ry.later hb
            replace Rr := Rr.later hb
            replace Rx := Rx.later hb
            replace Ra := Ra.later hb
            replace Rb := Rb.later hb
            replace hb0 := below_step hb0 hb
            clear hb
            have lc := Rc.lt
            have ld := Rd.lt
            have ly := Ry.lt
            have lr := Rr.lt
            have lx := Rx.lt
            have la := Ra.lt
            have lb := Rb.lt
            (try clear c0 c1 c2 c3 c4 c5 c6); obtain ⟨c0, c1, c2, c3, c4, c5, c6⟩ := row7 Rc
            (try clear d0 d1 d2 d3 d4 d5 d6 d7 d8 d9 d10 d11); obtain ⟨d0, d1, d2, d3, d4, d5, d6, d7, d8, d9, d10, d11⟩ := row12 Rd
            (try clear y0 y1 y2 y3 y4 y5 y6 y7 y8 y9 y10 y11); obtain ⟨y0, y1, y2, y3, y4, y5, y6, y7, y8, y9, y10, y11⟩ := row12 Ry
            (try clear x0 x1 x2 x3 x4 x5 x6 x7 x8 x9 x10 x11); obtain ⟨x0, x1, x2, x3, x4, x5, x6, x7, x8, x9, x10, x11⟩ := row12 Rx
            go_wp2_with fail
            refine (V01 _).mono ?_
            rintro e w8 ⟨rfl, hb⟩
            replace Rc := Rc.later hb
            replace Rd := Rd.later hb
            replace Ry := Ry.later hb
            replace Rr := Rr.later hb
            replace Rx := Rx.later hb
            replace Ra := Ra.later hb
            replace Rb := Rb.later hb
            replace hb0 := below_step hb0 hb
            clear hb
            have lc := Rc.lt
            have ld := Rd.lt
            have ly := Ry.lt
            have lr := Rr.lt
            have lx := Rx.lt
            have la := Ra.lt
            have lb := Rb.lt
            (try clear c0 c1 c2 c3 c4 c5 c6); obtain ⟨c0, c1, c2, c3, c4, c5, c6⟩ := row7 Rc
            (try clear d0 d1 d2 d3 d4 d5 d6 d7 d8 d9 d10 d11); obtain ⟨d0, d1, d2, d3, d4, d5, d6, d7, d8, d9, d10, d11⟩ := row12 Rd
            (try clear y0 y1 y2 y3 y4 y5 y6 y7 y8 y9 y10 y11); obtain ⟨y0, y1, y2, y3, y4, y5, y6, y7, y8, y9, y10, y11⟩ := row12 Ry
            (try clear x0 x1 x2 x3 x4 x5 x6 x7 x8 x9 x10 x11); obtain ⟨x0, x1, x2, x3, x4, x5, x6, x7, x8, x9, x10, x11⟩ := row12 Rx
            go_wp2_with fail
            go_meet
            exact ⟨rfl, Rc, Rd, Ry, Rr, Rx, Ra, Rb, hb0⟩
        case rest =>
          clear c0 c1 c2 c3 c4 c5 c6 d0 d1 d2 d3 d4 d5 d6 d7 d8 d9 d10 d11 y0 y1 y2 y3 y4 y5 y6 y7 y8 y9 y10 y11 x0 x1 x2 x3 x4 x5 x6 x7 x8 x9 x10 x11 Rc Rd Ry Rr Rx Ra Rb hb0
          obtain ⟨rfl, Rc, Rd, Ry, Rr, Rx, Ra, Rb, hb0⟩ := hcut
          rename World => w7
          have lc := Rc.lt
          have ld := Rd.lt
          have ly := Ry.lt
          have lr := Rr.lt
          have lx := Rx.lt
          have la := Ra.lt
          have lb := Rb.lt
          (try clear c0 c1 c2 c3 c4 c5 c6); obtain ⟨c0, c1, c2, c3, c4, c5, c6⟩ := row7 Rc
          (try clear d0 d1 d2 d3 d4 d5 d6 d7 d8 d9 d10 d11); obtain ⟨d0, d1, d2, d3, d4, d5, d6, d7, d8, d9, d10, d11⟩ := row12 Rd
          (try clear y0 y1 y2 y3 y4 y5 y6 y7 y8 y9 y10 y11); obtain ⟨y0, y1, y2, y3, y4, y5, y6, y7, y8, y9, y10, y11⟩ := row12 Ry
          (try clear x0 x1 x2 x3 x4 x5 x6 x7 x8 x9 x10 x11); obtain ⟨x0, x1, x2, x3, x4, x5, x6, x7, x8, x9, x10, x11⟩ := row12 Rx
          clear U01 V01 T01
          cases t01 with
          | true =>
            (try clear r0 r1 r2 r3 r4 r5 r6 r7 r8 r9 r10 r11); obtain ⟨r0, r1, r2, r3, r4, r5, r6, r7, r8, r9, r10, r11⟩ := row12 Rr
            have rf0 := Rr.frozen 0
            have rf1 := Rr.frozen 1
            have rf2 := Rr.frozen 2
            have rf3 := Rr.frozen 3
            have rf4 := Rr.frozen 4
            have rf5 := Rr.frozen 5
            have rf6 := Rr.frozen 6
            have rf7 := Rr.frozen 7
            have rf8 := Rr.frozen 8
            have rf9 := Rr.frozen 9
            have rf10 := Rr.frozen 10
            have rf11 := Rr.frozen 11
            go_wp2
            obtain ⟨w8, hwn⟩ : ∃ wz, wz = (World.setCell (World.setCell (World.setCell (World.setCell (World.setCell (World.setCell (World.setCell (World.setCell (World.setCell (World.setCell (World.setCell (World.setCell w7 ⟨(w.heap.size + 1 + 1 + 1), 0, none⟩ (.int .i64 m0)) ⟨(w.heap.size + 1 + 1 + 1), 1, none⟩ (.int .i64 m1)) ⟨(w.heap.size + 1 + 1 + 1), 2, none⟩ (.int .i64 p.k0.kind)) ⟨(w.heap.size + 1 + 1 + 1), 3, none⟩ (.int .i64 p.k0.len)) ⟨(w.heap.size + 1 + 1 + 1), 4, none⟩ (.int .u64 p.k0.h)) ⟨(w.heap.size + 1 + 1 + 1), 5, none⟩ (.int .u64 p.k0.l)) ⟨(w.heap.size + 1 + 1 + 1), 6, none⟩ (.string ⟨p.k0.path.toArray⟩)) ⟨(w.heap.size + 1 + 1 + 1), 7, none⟩ (.int .i64 q.k1.kind)) ⟨(w.heap.size + 1 + 1 + 1), 8, none⟩ (.int .i64 q.k1.len)) ⟨(w.heap.size + 1 + 1 + 1), 9, none⟩ (.int .u64 q.k1.h)) ⟨(w.heap.size + 1 + 1 + 1), 10, none⟩ (.int .u64 q.k1.l)) ⟨(w.heap.size + 1 + 1 + 1), 11, none⟩ (.string ⟨q.k1.path.toArray⟩)) := ⟨_, rfl⟩
            rw [← hwn]
            replace hwn : w8 = World.setCells w7 (w.heap.size + 1 + 1 + 1) 0 [.int .i64 m0, .int .i64 m1, .int .i64 p.k0.kind, .int .i64 p.k0.len, .int .u64 p.k0.h, .int .u64 p.k0.l, .string ⟨p.k0.path.toArray⟩, .int .i64 q.k1.kind, .int .i64 q.k1.len, .int .u64 q.k1.h, .int .u64 q.k1.l, .string ⟨q.k1.path.toArray⟩] := hwn
            replace Rr : Row w8 (w.heap.size + 1 + 1 + 1) #[.int .i64 m0, .int .i64 m1, .int .i64 p.k0.kind, .int .i64 p.k0.len, .int .u64 p.k0.h, .int .u64 p.k0.l, .string ⟨p.k0.path.toArray⟩, .int .i64 q.k1.kind, .int .i64 q.k1.len, .int .u64 q.k1.h, .int .u64 q.k1.l, .string ⟨q.k1.path.toArray⟩] 33 := psm hwn Rr (by simp [setL])
            replace Rc := prf hwn Rc
            replace Rd := prf hwn Rd
            replace Ry := prf hwn Ry
            replace Rx := prf hwn Rx
            replace Ra := prf hwn Ra
            replace Rb := prf hwn Rb
            replace hb0 := pbl hwn hb0
            clear hwn c0 c1 c2 c3 c4 c5 c6 d0 d1 d2 d3 d4 d5 d6 d7 d8 d9 d10 d11 y0 y1 y2 y3 y4 y5 y6 y7 y8 y9 y10 y11 r0 r1 r2 r3 r4 r5 r6 r7 r8 r9 r10 r11 x0 x1 x2 x3 x4 x5 x6 x7 x8 x9 x10 x11
            (try clear rf0 rf1 rf2 rf3 rf4 rf5 rf6 rf7 rf8 rf9 rf10 rf11)
            (try clear c0 c1 c2 c3 c4 c5 c6); obtain ⟨c0, c1, c2, c3, c4, c5, c6⟩ := row7 Rc
            (try clear d0 d1 d2 d3 d4 d5 d6 d7 d8 d9 d10 d11); obtain ⟨d0, d1, d2, d3, d4, d5, d6, d7, d8, d9, d10, d11⟩ := row12 Rd
            (try clear y0 y1 y2 y3 y4 y5 y6 y7 y8 y9 y10 y11); obtain ⟨y0, y1, y2, y3, y4, y5, y6, y7, y8, y9, y10, y11⟩ := row12 Ry
            (try clear r0 r1 r2 r3 r4 r5 r6 r7 r8 r9 r10 r11); obtain ⟨r0, r1, r2, r3, r4, r5, r6, r7, r8, r9, r10, r11⟩ := row12 Rr
            (try clear x0 x1 x2 x3 x4 x5 x6 x7 x8 x9 x10 x11); obtain ⟨x0, x1, x2, x3, x4, x5, x6, x7, x8, x9, x10, x11⟩ := row12 Rx
            refine bodyPost_ret (v := .tuple #[.agg #[.int .i64 m0, .int .i64 m1, .int .i64 p.k0.kind, .int .i64 p.k0.len, .int .u64 p.k0.h, .int .u64 p.k0.l, .string ⟨p.k0.path.toArray⟩, .int .i64 q.k1.kind, .int .i64 q.k1.len, .int .u64 q.k1.h, .int .u64 q.k1.l, .string ⟨q.k1.path.toArray⟩], .bool true]) (by simp [results, Try.results31, go_sem, r0, r1, r2, r3, r4, r5, r6, r7, r8, r9, r10, r11]) rfl ⟨rfl, hb0⟩
          | false =>
            go_wp2_with fail
            rw [rounds_succ]
            go_wp2_with fail
            rw [rounds_succ]
            go_wp2_with fail
            refine wp_loop_rounds 3 ?_
            rw [rounds_succ]
            (try clear a0 a1 a2 a3 a4 a5 a6 a7 a8 a9); obtain ⟨a0, a1, a2, a3, a4, a5, a6, a7, a8, a9⟩ := row10 Ra
            (try clear b0 b1 b2 b3 b4 b5 b6 b7 b8 b9); obtain ⟨b0, b1, b2, b3, b4, b5, b6, b7, b8, b9⟩ := row10 Rb
            have xf0 := Rx.frozen 0
            have xf1 := Rx.frozen 1
            have xf2 := Rx.frozen 2
            have xf3 := Rx.frozen 3
            have xf4 := Rx.frozen 4
            have xf5 := Rx.frozen 5
            have xf6 := Rx.frozen 6
            have xf7 := Rx.frozen 7
            have xf8 := Rx.frozen 8
            have xf9 := Rx.frozen 9
            have xf10 := Rx.frozen 10
            have xf11 := Rx.frozen 11
            go_upto_region 18 with fail
            obtain ⟨w8, hwn⟩ : ∃ wz, wz = (World.setCell (World.setCell (World.setCell (World.setCell (World.setCell (World.setCell (World.setCell (World.setCell (World.setCell (World.setCell w7 ⟨(w.heap.size + 1 + 1 + 1 + 1), 2, none⟩ (.int .i64 q.k0.kind)) ⟨(w.heap.size + 1 + 1 + 1 + 1), 3, none⟩ (.int .i64 q.k0.len)) ⟨(w.heap.size + 1 + 1 + 1 + 1), 4, none⟩ (.int .u64 q.k0.h)) ⟨(w.heap.size + 1 + 1 + 1 + 1), 5, none⟩ (.int .u64 q.k0.l)) ⟨(w.heap.size + 1 + 1 + 1 + 1), 6, none⟩ (.string ⟨q.k0.path.toArray⟩)) ⟨(w.heap.size + 1 + 1 + 1 + 1), 7, none⟩ (.int .i64 p.k1.kind)) ⟨(w.heap.size + 1 + 1 + 1 + 1), 8, none⟩ (.int .i64 p.k1.len)) ⟨(w.heap.size + 1 + 1 + 1 + 1), 9, none⟩ (.int .u64 p.k1.h)) ⟨(w.heap.size + 1 + 1 + 1 + 1), 10, none⟩ (.int .u64 p.k1.l)) ⟨(w.heap.size + 1 + 1 + 1 + 1), 11, none⟩ (.string ⟨p.k1.path.toArray⟩)) := ⟨_, rfl⟩
            rw [← hwn]
            replace hwn : w8 = World.setCells w7 (w.heap.size + 1 + 1 + 1 + 1) 2 [.int .i64 q.k0.kind, .int .i64 q.k0.len, .int .u64 q.k0.h, .int .u64 q.k0.l, .string ⟨q.k0.path.toArray⟩, .int .i64 p.k1.kind, .int .i64 p.k1.len, .int .u64 p.k1.h, .int .u64 p.k1.l, .string ⟨p.k1.path.toArray⟩] := hwn
            replace Rx : Row w8 (w.heap.size + 1 + 1 + 1 + 1) #[.int .i64 m0, .int .i64 m1, .int .i64 q.k0.kind, .int .i64 q.k0.len, .int .u64 q.k0.h, .int .u64 q.k0.l, .string ⟨q.k0.path.toArray⟩, .int .i64 p.k1.kind, .int .i64 p.k1.len, .int .u64 p.k1.h, .int .u64 p.k1.l, .string ⟨p.k1.path.toArray⟩] 33 := psm hwn Rx (by simp [setL])
            replace Rc := prf hwn Rc
            replace Rd := prf hwn Rd
            replace Ry := prf hwn Ry
            replace Rr := prf hwn Rr
            replace Ra := prf hwn Ra
            replace Rb := prf hwn Rb
            replace hb0 := pbl hwn hb0
            clear hwn c0 c1 c2 c3 c4 c5 c6 d0 d1 d2 d3 d4 d5 d6 d7 d8 d9 d10 d11 y0 y1 y2 y3 y4 y5 y6 y7 y8 y9 y10 y11 x0 x1 x2 x3 x4 x5 x6 x7 x8 x9 x10 x11 a0 a1 a2 a3 a4 a5 a6 a7 a8 a9 b0 b1 b2 b3 b4 b5 b6 b7 b8 b9
            (try clear xf0 xf1 xf2 xf3 xf4 xf5 xf6 xf7 xf8 xf9 xf10 xf11)
            (try clear c0 c1 c2 c3 c4 c5 c6); obtain ⟨c0, c1, c2, c3, c4, c5, c6⟩ := row7 Rc
            (try clear d0 d1 d2 d3 d4 d5 d6 d7 d8 d9 d10 d11); obtain ⟨d0, d1, d2, d3, d4, d5, d6, d7, d8, d9, d10, d11⟩ := row12 Rd
            (try clear y0 y1 y2 y3 y4 y5 y6 y7 y8 y9 y10 y11); obtain ⟨y0, y1, y2, y3, y4, y5, y6, y7, y8, y9, y10, y11⟩ := row12 Ry
            (try clear x0 x1 x2 x3 x4 x5 x6 x7 x8 x9 x10 x11); obtain ⟨x0, x1, x2, x3, x4, x5, x6, x7, x8, x9, x10, x11⟩ := row12 Rx
            (try clear a0 a1 a2 a3 a4 a5 a6 a7 a8 a9); obtain ⟨a0, a1, a2, a3, a4, a5, a6, a7, a8, a9⟩ := row10 Ra
            (try clear b0 b1 b2 b3 b4 b5 b6 b7 b8 b9); obtain ⟨b0, b1, b2, b3, b4, b5, b6, b7, b8, b9⟩ := row10 Rb
            clear a0 a1 a2 a3 a4 a5 a6 a7 a8 a9
            clear b0 b1 b2 b3 b4 b5 b6 b7 b8 b9
            go_cut [85] (fun s85 wx => s85 = .bool t10 ∧ Row wx w.heap.size #[.int .i64 s.n, .int .i64 s.d0.kind, .int .i64 s.d0.side, .int .i64 s.d0.step, .int .i64 s.d1.kind, .int .i64 s.d1.side, .int .i64 s.d1.step] 26 ∧ Row wx (w.heap.size + 1) #[.int .i64 p.a0, .int .i64 p.a1, .int .i64 p.k0.kind, .int .i64 p.k0.len, .int .u64 p.k0.h, .int .u64 p.k0.l, .string ⟨p.k0.path.toArray⟩, .int .i64 p.k1.kind, .int .i64 p.k1.len, .int .u64 p.k1.h, .int .u64 p.k1.l, .string ⟨p.k1.path.toArray⟩] 33 ∧ Row wx (w.heap.size + 1 + 1) #[.int .i64 q.a0, .int .i64 q.a1, .int .i64 q.k0.kind, .int .i64 q.k0.len, .int .u64 q.k0.h, .int .u64 q.k0.l, .string ⟨q.k0.path.toArray⟩, .int .i64 q.k1.kind, .int .i64 q.k1.len, .int .u64 q.k1.h, .int .u64 q.k1.l, .string ⟨q.k1.path.toArray⟩] 33 ∧ Row wx (w.heap.size + 1 + 1 + 1) #[.int .i64 0, .int .i64 0, .int .i64 0, .int .i64 0, .int .u64 0, .int .u64 0, .string ⟨#[]⟩, .int .i64 0, .int .i64 0, .int .u64 0, .int .u64 0, .string ⟨#[]⟩] 33 ∧ Row wx (w.heap.size + 1 + 1 + 1 + 1) #[.int .i64 m0, .int .i64 m1, .int .i64 q.k0.kind, .int .i64 q.k0.len, .int .u64 q.k0.h, .int .u64 q.k0.l, .string ⟨q.k0.path.toArray⟩, .int .i64 p.k1.kind, .int .i64 p.k1.len, .int .u64 p.k1.h, .int .u64 p.k1.l, .string ⟨p.k1.path.toArray⟩] 33 ∧ Row wx w2.heap.size #[.int .i64 p.k0.kind, .int .i64 p.k0.len, .int .u64 p.k0.h, .int .u64 p.k0.l, .string ⟨p.k0.path.toArray⟩, .int .i64 q.k0.kind, .int .i64 q.k0.len, .int .u64 q.k0.h, .int .u64 q.k0.l, .string ⟨q.k0.path.toArray⟩] 30 ∧ Row wx (w2.heap.size + 1) #[.int .i64 p.k1.kind, .int .i64 p.k1.len, .int .u64 p.k1.h, .int .u64 p.k1.l, .string ⟨p.k1.path.toArray⟩, .int .i64 q.k1.kind, .int .i64 q.k1.len, .int .u64 q.k1.h, .int .u64 q.k1.l, .string ⟨q.k1.path.toArray⟩] 30 ∧ Below w.heap.size w wx)
            case first =>
              cases u10 with
              | false =>
                obtain rfl : false = t10 := T10.out
                go_wp2_with fail
                refine (U10 _).mono ?_
                rintro e w9 ⟨rfl, hb⟩
                replace Rc := Rc.later hb
                replace Rd := Rd.later hb
                replace Ry := Ry.later hb
                replace Rr := Rr.later hb
                replace Rx := Rx.later hb
                replace Ra := Ra.later hb
                replace Rb := Rb.later hb
                replace hb0 := below_step hb0 hb
                clear hb
                have lc := Rc.lt
                have ld := Rd.lt
                have ly := Ry.lt
                have lr := Rr.lt
                have lx := Rx.lt
                have la := Ra.lt
                have lb := Rb.lt
                (try clear c0 c1 c2 c3 c4 c5 c6); obtain ⟨c0, c1, c2, c3, c4, c5, c6⟩ := row7 Rc
                (try clear d0 d1 d2 d3 d4 d5 d6 d7 d8 d9 d10 d11); obtain ⟨d0, d1, d2, d3, d4, d5, d6, d7, d8, d9, d10, d11⟩ := row12 Rd
                (try clear y0 y1 y2 y3 y4 y5 y6 y7 y8 y9 y10 y11); obtain ⟨y0, y1, y2, y3, y4, y5, y6, y7, y8, y9, y10, y11⟩ := row12 Ry
                (try clear x0 x1 x2 x3 x4 x5 x6 x7 x8 x9 x10 x11); obtain ⟨x0, x1, x2, x3, x4, x5, x6, x7, x8, x9, x10, x11⟩ := row12 Rx
                go_wp2_with fail
                go_meet
                exact ⟨rfl, Rc, Rd, Ry, Rr, Rx, Ra, Rb, hb0⟩
              | true =>
                obtain rfl : v10 = t10 := T10.out
                go_wp2_with fail
                refine (U10 _).mono ?_
                rintro e w9 ⟨rfl, hb⟩
                replace Rc := Rc.later hb
                replace Rd := Rd.later hb
                replace Ry := Ry.later hb
                replace Rr := Rr.later hb
                replace Rx := Rx.later hb
                replace Ra := Ra.later hb
                replace Rb := Rb.later hb
                replace hb0 := below_step hb0 hb
                clear hb
                have lc := Rc.lt
                have ld := Rd.lt
                have ly := Ry.lt
                have lr := Rr.lt
                have lx := Rx.lt
                have la := Ra.lt
                have lb := Rb.lt
                (try clear c0 c1 c2 c3 c4 c5 c6); obtain ⟨c0, c1, c2, c3, c4, c5, c6⟩ := row7 Rc
                (try clear d0 d1 d2 d3 d4 d5 d6 d7 d8 d9 d10 d11); obtain ⟨d0, d1, d2, d3, d4, d5, d6, d7, d8, d9, d10, d11⟩ := row12 Rd
                (try clear y0 y1 y2 y3 y4 y5 y6 y7 y8 y9 y10 y11); obtain ⟨y0, y1, y2, y3, y4, y5, y6, y7, y8, y9, y10, y11⟩ := row12 Ry
                (try clear x0 x1 x2 x3 x4 x5 x6 x7 x8 x9 x10 x11); obtain ⟨x0, x1, x2, x3, x4, x5, x6, x7, x8, x9, x10, x11⟩ := row12 Rx
                go_wp2_with fail
                refine (V10 _).mono ?_
                rintro e w10 ⟨rfl, hb⟩
                replace Rc := Rc.later hb
                replace Rd := Rd.later hb
                replace Ry := Ry.later hb
                replace Rr := Rr.later hb
                replace Rx := Rx.later hb
                replace Ra := Ra.later hb
                replace Rb := Rb.later hb
                replace hb0 := below_step hb0 hb
                clear hb
                have lc := Rc.lt
                have ld := Rd.lt
                have ly := Ry.lt
                have lr := Rr.lt
                have lx := Rx.lt
                have la := Ra.lt
                have lb := Rb.lt
                (try clear c0 c1 c2 c3 c4 c5 c6); obtain ⟨c0, c1, c2, c3, c4, c5, c6⟩ := row7 Rc
                (try clear d0 d1 d2 d3 d4 d5 d6 d7 d8 d9 d10 d11); obtain ⟨d0, d1, d2, d3, d4, d5, d6, d7, d8, d9, d10, d11⟩ := row12 Rd
                (try clear y0 y1 y2 y3 y4 y5 y6 y7 y8 y9 y10 y11); obtain ⟨y0, y1, y2, y3, y4, y5, y6, y7, y8, y9, y10, y11⟩ := row12 Ry
                (try clear x0 x1 x2 x3 x4 x5 x6 x7 x8 x9 x10 x11); obtain ⟨x0, x1, x2, x3, x4, x5, x6, x7, x8, x9, x10, x11⟩ := row12 Rx
                go_wp2_with fail
                go_meet
                exact ⟨rfl, Rc, Rd, Ry, Rr, Rx, Ra, Rb, hb0⟩
            case rest =>
              clear c0 c1 c2 c3 c4 c5 c6 d0 d1 d2 d3 d4 d5 d6 d7 d8 d9 d10 d11 y0 y1 y2 y3 y4 y5 y6 y7 y8 y9 y10 y11 x0 x1 x2 x3 x4 x5 x6 x7 x8 x9 x10 x11 Rc Rd Ry Rr Rx Ra Rb hb0
              obtain ⟨rfl, Rc, Rd, Ry, Rr, Rx, Ra, Rb, hb0⟩ := hcut
              rename World => w9
              have lc := Rc.lt
              have ld := Rd.lt
              have ly := Ry.lt
              have lr := Rr.lt
              have lx := Rx.lt
              have la := Ra.lt
              have lb := Rb.lt
              (try clear c0 c1 c2 c3 c4 c5 c6); obtain ⟨c0, c1, c2, c3, c4, c5, c6⟩ := row7 Rc
              (try clear d0 d1 d2 d3 d4 d5 d6 d7 d8 d9 d10 d11); obtain ⟨d0, d1, d2, d3, d4, d5, d6, d7, d8, d9, d10, d11⟩ := row12 Rd
              (try clear y0 y1 y2 y3 y4 y5 y6 y7 y8 y9 y10 y11); obtain ⟨y0, y1, y2, y3, y4, y5, y6, y7, y8, y9, y10, y11⟩ := row12 Ry
              (try clear x0 x1 x2 x3 x4 x5 x6 x7 x8 x9 x10 x11); obtain ⟨x0, x1, x2, x3, x4, x5, x6, x7, x8, x9, x10, x11⟩ := row12 Rx
              clear U10 V10 T10
              cases t10 with
              | true =>
                (try clear r0 r1 r2 r3 r4 r5 r6 r7 r8 r9 r10 r11); obtain ⟨r0, r1, r2, r3, r4, r5, r6, r7, r8, r9, r10, r11⟩ := row12 Rr
                have rf0 := Rr.frozen 0
                have rf1 := Rr.frozen 1
                have rf2 := Rr.frozen 2
                have rf3 := Rr.frozen 3
                have rf4 := Rr.frozen 4
                have rf5 := Rr.frozen 5
                have rf6 := Rr.frozen 6
                have rf7 := Rr.frozen 7
                have rf8 := Rr.frozen 8
                have rf9 := Rr.frozen 9
                have rf10 := Rr.frozen 10
                have rf11 := Rr.frozen 11
                go_wp2
                obtain ⟨w10, hwn⟩ : ∃ wz, wz = (World.setCell (World.setCell (World.setCell (World.setCell (World.setCell (World.setCell (World.setCell (World.setCell (World.setCell (World.setCell (World.setCell (World.setCell w9 ⟨(w.heap.size + 1 + 1 + 1), 0, none⟩ (.int .i64 m0)) ⟨(w.heap.size + 1 + 1 + 1), 1, none⟩ (.int .i64 m1)) ⟨(w.heap.size + 1 + 1 + 1), 2, none⟩ (.int .i64 q.k0.kind)) ⟨(w.heap.size + 1 + 1 + 1), 3, none⟩ (.int .i64 q.k0.len)) ⟨(w.heap.size + 1 + 1 + 1), 4, none⟩ (.int .u64 q.k0.h)) ⟨(w.heap.size + 1 + 1 + 1), 5, none⟩ (.int .u64 q.k0.l)) ⟨(w.heap.size + 1 + 1 + 1), 6, none⟩ (.string ⟨q.k0.path.toArray⟩)) ⟨(w.heap.size + 1 + 1 + 1), 7, none⟩ (.int .i64 p.k1.kind)) ⟨(w.heap.size + 1 + 1 + 1), 8, none⟩ (.int .i64 p.k1.len)) ⟨(w.heap.size + 1 + 1 + 1), 9, none⟩ (.int .u64 p.k1.h)) ⟨(w.heap.size + 1 + 1 + 1), 10, none⟩ (.int .u64 p.k1.l)) ⟨(w.heap.size + 1 + 1 + 1), 11, none⟩ (.string ⟨p.k1.path.toArray⟩)) := ⟨_, rfl⟩
                rw [← hwn]
                replace hwn : w10 = World.setCells w9 (w.heap.size + 1 + 1 + 1) 0 [.int .i64 m0, .int .i64 m1, .int .i64 q.k0.kind, .int .i64 q.k0.len, .int .u64 q.k0.h, .int .u64 q.k0.l, .string ⟨q.k0.path.toArray⟩, .int .i64 p.k1.kind, .int .i64 p.k1.len, .int .u64 p.k1.h, .int .u64 p.k1.l, .string ⟨p.k1.path.toArray⟩] := hwn
                replace Rr : Row w10 (w.heap.size + 1 + 1 + 1) #[.int .i64 m0, .int .i64 m1, .int .i64 q.k0.kind, .int .i64 q.k0.len, .int .u64 q.k0.h, .int .u64 q.k0.l, .string ⟨q.k0.path.toArray⟩, .int .i64 p.k1.kind, .int .i64 p.k1.len, .int .u64 p.k1.h, .int .u64 p.k1.l, .string ⟨p.k1.path.toArray⟩] 33 := psm hwn Rr (by simp [setL])
                replace Rc := prf hwn Rc
                replace Rd := prf hwn Rd
                replace Ry := prf hwn Ry
                replace Rx := prf hwn Rx
                replace Ra := prf hwn Ra
                replace Rb := prf hwn Rb
                replace hb0 := pbl hwn hb0
                clear hwn c0 c1 c2 c3 c4 c5 c6 d0 d1 d2 d3 d4 d5 d6 d7 d8 d9 d10 d11 y0 y1 y2 y3 y4 y5 y6 y7 y8 y9 y10 y11 r0 r1 r2 r3 r4 r5 r6 r7 r8 r9 r10 r11 x0 x1 x2 x3 x4 x5 x6 x7 x8 x9 x10 x11
                (try clear rf0 rf1 rf2 rf3 rf4 rf5 rf6 rf7 rf8 rf9 rf10 rf11)
                (try clear c0 c1 c2 c3 c4 c5 c6); obtain ⟨c0, c1, c2, c3, c4, c5, c6⟩ := row7 Rc
                (try clear d0 d1 d2 d3 d4 d5 d6 d7 d8 d9 d10 d11); obtain ⟨d0, d1, d2, d3, d4, d5, d6, d7, d8, d9, d10, d11⟩ := row12 Rd
                (try clear y0 y1 y2 y3 y4 y5 y6 y7 y8 y9 y10 y11); obtain ⟨y0, y1, y2, y3, y4, y5, y6, y7, y8, y9, y10, y11⟩ := row12 Ry
                (try clear r0 r1 r2 r3 r4 r5 r6 r7 r8 r9 r10 r11); obtain ⟨r0, r1, r2, r3, r4, r5, r6, r7, r8, r9, r10, r11⟩ := row12 Rr
                (try clear x0 x1 x2 x3 x4 x5 x6 x7 x8 x9 x10 x11); obtain ⟨x0, x1, x2, x3, x4, x5, x6, x7, x8, x9, x10, x11⟩ := row12 Rx
                refine bodyPost_ret (v := .tuple #[.agg #[.int .i64 m0, .int .i64 m1, .int .i64 q.k0.kind, .int .i64 q.k0.len, .int .u64 q.k0.h, .int .u64 q.k0.l, .string ⟨q.k0.path.toArray⟩, .int .i64 p.k1.kind, .int .i64 p.k1.len, .int .u64 p.k1.h, .int .u64 p.k1.l, .string ⟨p.k1.path.toArray⟩], .bool true]) (by simp [results, Try.results31, go_sem, r0, r1, r2, r3, r4, r5, r6, r7, r8, r9, r10, r11]) rfl ⟨rfl, hb0⟩
              | false =>
                go_wp2_with fail
                rw [rounds_succ]
                (try clear a0 a1 a2 a3 a4 a5 a6 a7 a8 a9); obtain ⟨a0, a1, a2, a3, a4, a5, a6, a7, a8, a9⟩ := row10 Ra
                (try clear b0 b1 b2 b3 b4 b5 b6 b7 b8 b9); obtain ⟨b0, b1, b2, b3, b4, b5, b6, b7, b8, b9⟩ := row10 Rb
                have xf0 := Rx.frozen 0
                have xf1 := Rx.frozen 1
                have xf2 := Rx.frozen 2
                have xf3 := Rx.frozen 3
                have xf4 := Rx.frozen 4
                have xf5 := Rx.frozen 5
                have xf6 := Rx.frozen 6
                have xf7 := Rx.frozen 7
                have xf8 := Rx.frozen 8
                have xf9 := Rx.frozen 9
                have xf10 := Rx.frozen 10
                have xf11 := Rx.frozen 11
                go_upto_region 18 with fail
                obtain ⟨w10, hwn⟩ : ∃ wz, wz = (World.setCell (World.setCell (World.setCell (World.setCell (World.setCell (World.setCell (World.setCell (World.setCell (World.setCell (World.setCell w9 ⟨(w.heap.size + 1 + 1 + 1 + 1), 2, none⟩ (.int .i64 q.k0.kind)) ⟨(w.heap.size + 1 + 1 + 1 + 1), 3, none⟩ (.int .i64 q.k0.len)) ⟨(w.heap.size + 1 + 1 + 1 + 1), 4, none⟩ (.int .u64 q.k0.h)) ⟨(w.heap.size + 1 + 1 + 1 + 1), 5, none⟩ (.int .u64 q.k0.l)) ⟨(w.heap.size + 1 + 1 + 1 + 1), 6, none⟩ (.string ⟨q.k0.path.toArray⟩)) ⟨(w.heap.size + 1 + 1 + 1 + 1), 7, none⟩ (.int .i64 q.k1.kind)) ⟨(w.heap.size + 1 + 1 + 1 + 1), 8, none⟩ (.int .i64 q.k1.len)) ⟨(w.heap.size + 1 + 1 + 1 + 1), 9, none⟩ (.int .u64 q.k1.h)) ⟨(w.heap.size + 1 + 1 + 1 + 1), 10, none⟩ (.int .u64 q.k1.l)) ⟨(w.heap.size + 1 + 1 + 1 + 1), 11, none⟩ (.string ⟨q.k1.path.toArray⟩)) := ⟨_, rfl⟩
                rw [← hwn]
                replace hwn : w10 = World.setCells w9 (w.heap.size + 1 + 1 + 1 + 1) 2 [.int .i64 q.k0.kind, .int .i64 q.k0.len, .int .u64 q.k0.h, .int .u64 q.k0.l, .string ⟨q.k0.path.toArray⟩, .int .i64 q.k1.kind, .int .i64 q.k1.len, .int .u64 q.k1.h, .int .u64 q.k1.l, .string ⟨q.k1.path.toArray⟩] := hwn
                replace Rx : Row w10 (w.heap.size + 1 + 1 + 1 + 1) #[.int .i64 m0, .int .i64 m1, .int .i64 q.k0.kind, .int .i64 q.k0.len, .int .u64 q.k0.h, .int .u64 q.k0.l, .string ⟨q.k0.path.toArray⟩, .int .i64 q.k1.kind, .int .i64 q.k1.len, .int .u64 q.k1.h, .int .u64 q.k1.l, .string ⟨q.k1.path.toArray⟩] 33 := psm hwn Rx (by simp [setL])
                replace Rc := prf hwn Rc
                replace Rd := prf hwn Rd
                replace Ry := prf hwn Ry
                replace Rr := prf hwn Rr
                replace Ra := prf hwn Ra
                replace Rb := prf hwn Rb
                replace hb0 := pbl hwn hb0
                clear hwn c0 c1 c2 c3 c4 c5 c6 d0 d1 d2 d3 d4 d5 d6 d7 d8 d9 d10 d11 y0 y1 y2 y3 y4 y5 y6 y7 y8 y9 y10 y11 x0 x1 x2 x3 x4 x5 x6 x7 x8 x9 x10 x11 a0 a1 a2 a3 a4 a5 a6 a7 a8 a9 b0 b1 b2 b3 b4 b5 b6 b7 b8 b9
                (try clear xf0 xf1 xf2 xf3 xf4 xf5 xf6 xf7 xf8 xf9 xf10 xf11)
                (try clear c0 c1 c2 c3 c4 c5 c6); obtain ⟨c0, c1, c2, c3, c4, c5, c6⟩ := row7 Rc
                (try clear d0 d1 d2 d3 d4 d5 d6 d7 d8 d9 d10 d11); obtain ⟨d0, d1, d2, d3, d4, d5, d6, d7, d8, d9, d10, d11⟩ := row12 Rd
                (try clear y0 y1 y2 y3 y4 y5 y6 y7 y8 y9 y10 y11); obtain ⟨y0, y1, y2, y3, y4, y5, y6, y7, y8, y9, y10, y11⟩ := row12 Ry
                (try clear x0 x1 x2 x3 x4 x5 x6 x7 x8 x9 x10 x11); obtain ⟨x0, x1, x2, x3, x4, x5, x6, x7, x8, x9, x10, x11⟩ := row12 Rx
                (try clear a0 a1 a2 a3 a4 a5 a6 a7 a8 a9); obtain ⟨a0, a1, a2, a3, a4, a5, a6, a7, a8, a9⟩ := row10 Ra
                (try clear b0 b1 b2 b3 b4 b5 b6 b7 b8 b9); obtain ⟨b0, b1, b2, b3, b4, b5, b6, b7, b8, b9⟩ := row10 Rb
                clear a0 a1 a2 a3 a4 a5 a6 a7 a8 a9
                clear b0 b1 b2 b3 b4 b5 b6 b7 b8 b9
                go_cut [85] (fun s85 wx => s85 = .bool t11 ∧ Row wx w.heap.size #[.int .i64 s.n, .int .i64 s.d0.kind, .int .i64 s.d0.side, .int .i64 s.d0.step, .int .i64 s.d1.kind, .int .i64 s.d1.side, .int .i64 s.d1.step] 26 ∧ Row wx (w.heap.size + 1) #[.int .i64 p.a0, .int .i64 p.a1, .int .i64 p.k0.kind, .int .i64 p.k0.len, .int .u64 p.k0.h, .int .u64 p.k0.l, .string ⟨p.k0.path.toArray⟩, .int .i64 p.k1.kind, .int .i64 p.k1.len, .int .u64 p.k1.h, .int .u64 p.k1.l, .string ⟨p.k1.path.toArray⟩] 33 ∧ Row wx (w.heap.size + 1 + 1) #[.int .i64 q.a0, .int .i64 q.a1, .int .i64 q.k0.kind, .int .i64 q.k0.len, .int .u64 q.k0.h, .int .u64 q.k0.l, .string ⟨q.k0.path.toArray⟩, .int .i64 q.k1.kind, .int .i64 q.k1.len, .int .u64 q.k1.h, .int .u64 q.k1.l, .string ⟨q.k1.path.toArray⟩] 33 ∧ Row wx (w.heap.size + 1 + 1 + 1) #[.int .i64 0, .int .i64 0, .int .i64 0, .int .i64 0, .int .u64 0, .int .u64 0, .string ⟨#[]⟩, .int .i64 0, .int .i64 0, .int .u64 0, .int .u64 0, .string ⟨#[]⟩] 33 ∧ Row wx (w.heap.size + 1 + 1 + 1 + 1) #[.int .i64 m0, .int .i64 m1, .int .i64 q.k0.kind, .int .i64 q.k0.len, .int .u64 q.k0.h, .int .u64 q.k0.l, .string ⟨q.k0.path.toArray⟩, .int .i64 q.k1.kind, .int .i64 q.k1.len, .int .u64 q.k1.h, .int .u64 q.k1.l, .string ⟨q.k1.path.toArray⟩] 33 ∧ Row wx w2.heap.size #[.int .i64 p.k0.kind, .int .i64 p.k0.len, .int .u64 p.k0.h, .int .u64 p.k0.l, .string ⟨p.k0.path.toArray⟩, .int .i64 q.k0.kind, .int .i64 q.k0.len, .int .u64 q.k0.h, .int .u64 q.k0.l, .string ⟨q.k0.path.toArray⟩] 30 ∧ Row wx (w2.heap.size + 1) #[.int .i64 p.k1.kind, .int .i64 p.k1.len, .int .u64 p.k1.h, .int .u64 p.k1.l, .string ⟨p.k1.path.toArray⟩, .int .i64 q.k1.kind, .int .i64 q.k1.len, .int .u64 q.k1.h, .int .u64 q.k1.l, .string ⟨q.k1.path.toArray⟩] 30 ∧ Below w.heap.size w wx)
                case first =>
                  cases u11 with
                  | false =>
                    obtain rfl : false = t11 := T11.out
                    go_wp2_with fail
                    refine (U11 _).mono ?_
                    rintro e w11 ⟨rfl, hb⟩
                    replace Rc := Rc.later hb
                    replace Rd := Rd.later hb
                    replace Ry := Ry.later hb
                    replace Rr := Rr.later hb
                    replace Rx := Rx.later hb
                    replace Ra := Ra.later hb
                    replace Rb := Rb.later hb
                    replace hb0 := below_step hb0 hb
                    clear hb
                    have lc := Rc.lt
                    have ld := Rd.lt
                    have ly := Ry.lt
                    have lr := Rr.lt
                    have lx := Rx.lt
                    have la := Ra.lt
                    have lb := Rb.lt
                    (try clear c0 c1 c2 c3 c4 c5 c6); obtain ⟨c0, c1, c2, c3, c4, c5, c6⟩ := row7 Rc
                    (try clear d0 d1 d2 d3 d4 d5 d6 d7 d8 d9 d10 d11); obtain ⟨d0, d1, d2, d3, d4, d5, d6, d7, d8, d9, d10, d11⟩ := row12 Rd
                    (try clear y0 y1 y2 y3 y4 y5 y6 y7 y8 y9 y10 y11); obtain ⟨y0, y1, y2, y3, y4, y5, y6, y7, y8, y9, y10, y11⟩ := row12 Ry
                    (try clear x0 x1 x2 x3 x4 x5 x6 x7 x8 x9 x10 x11); obtain ⟨x0, x1, x2, x3, x4, x5, x6, x7, x8, x9, x10, x11⟩ := row12 Rx
                    go_wp2_with fail
                    go_meet
                    exact ⟨rfl, Rc, Rd, Ry, Rr, Rx, Ra, Rb, hb0⟩
                  | true =>
                    obtain rfl : v11 = t11 := T11.out
                    go_wp2_with fail
                    refine (U11 _).mono ?_
                    rintro e w11 ⟨rfl, hb⟩
                    replace Rc := Rc.later hb
                    replace Rd := Rd.later hb
                    replace Ry := Ry.later hb
                    replace Rr := Rr.later hb
                    replace Rx := Rx.later hb
                    replace Ra := Ra.later hb
                    replace Rb := Rb.later hb
                    replace hb0 := below_step hb0 hb
                    clear hb
                    have lc := Rc.lt
                    have ld := Rd.lt
                    have ly := Ry.lt
                    have lr := Rr.lt
                    have lx := Rx.lt
                    have la := Ra.lt
                    have lb := Rb.lt
                    (try clear c0 c1 c2 c3 c4 c5 c6); obtain ⟨c0, c1, c2, c3, c4, c5, c6⟩ := row7 Rc
                    (try clear d0 d1 d2 d3 d4 d5 d6 d7 d8 d9 d10 d11); obtain ⟨d0, d1, d2, d3, d4, d5, d6, d7, d8, d9, d10, d11⟩ := row12 Rd
                    (try clear y0 y1 y2 y3 y4 y5 y6 y7 y8 y9 y10 y11); obtain ⟨y0, y1, y2, y3, y4, y5, y6, y7, y8, y9, y10, y11⟩ := row12 Ry
                    (try clear x0 x1 x2 x3 x4 x5 x6 x7 x8 x9 x10 x11); obtain ⟨x0, x1, x2, x3, x4, x5, x6, x7, x8, x9, x10, x11⟩ := row12 Rx
                    go_wp2_with fail
                    refine (V11 _).mono ?_
                    rintro e w12 ⟨rfl, hb⟩
                    replace Rc := Rc.later hb
                    replace Rd := Rd.later hb
                    replace Ry := Ry.later hb
                    replace Rr := Rr.later hb
                    replace Rx := Rx.later hb
                    replace Ra := Ra.later hb
                    replace Rb := Rb.later hb
                    replace hb0 := below_step hb0 hb
                    clear hb
                    have lc := Rc.lt
                    have ld := Rd.lt
                    have ly := Ry.lt
                    have lr := Rr.lt
                    have lx := Rx.lt
                    have la := Ra.lt
                    have lb := Rb.lt
                    (try clear c0 c1 c2 c3 c4 c5 c6); obtain ⟨c0, c1, c2, c3, c4, c5, c6⟩ := row7 Rc
                    (try clear d0 d1 d2 d3 d4 d5 d6 d7 d8 d9 d10 d11); obtain ⟨d0, d1, d2, d3, d4, d5, d6, d7, d8, d9, d10, d11⟩ := row12 Rd
                    (try clear y0 y1 y2 y3 y4 y5 y6 y7 y8 y9 y10 y11); obtain ⟨y0, y1, y2, y3, y4, y5, y6, y7, y8, y9, y10, y11⟩ := row12 Ry
                    (try clear x0 x1 x2 x3 x4 x5 x6 x7 x8 x9 x10 x11); obtain ⟨x0, x1, x2, x3, x4, x5, x6, x7, x8, x9, x10, x11⟩ := row12 Rx
                    go_wp2_with fail
                    go_meet
                    exact ⟨rfl, Rc, Rd, Ry, Rr, Rx, Ra, Rb, hb0⟩
                case rest =>
                  clear c0 c1 c2 c3 c4 c5 c6 d0 d1 d2 d3 d4 d5 d6 d7 d8 d9 d10 d11 y0 y1 y2 y3 y4 y5 y6 y7 y8 y9 y10 y11 x0 x1 x2 x3 x4 x5 x6 x7 x8 x9 x10 x11 Rc Rd Ry Rr Rx Ra Rb hb0
                  obtain ⟨rfl, Rc, Rd, Ry, Rr, Rx, Ra, Rb, hb0⟩ := hcut
                  rename World => w11
                  have lc := Rc.lt
                  have ld := Rd.lt
                  have ly := Ry.lt
                  have lr := Rr.lt
                  have lx := Rx.lt
                  have la := Ra.lt
                  have lb := Rb.lt
                  (try clear c0 c1 c2 c3 c4 c5 c6); obtain ⟨c0, c1, c2, c3, c4, c5, c6⟩ := row7 Rc
                  (try clear d0 d1 d2 d3 d4 d5 d6 d7 d8 d9 d10 d11); obtain ⟨d0, d1, d2, d3, d4, d5, d6, d7, d8, d9, d10, d11⟩ := row12 Rd
                  (try clear y0 y1 y2 y3 y4 y5 y6 y7 y8 y9 y10 y11); obtain ⟨y0, y1, y2, y3, y4, y5, y6, y7, y8, y9, y10, y11⟩ := row12 Ry
                  (try clear x0 x1 x2 x3 x4 x5 x6 x7 x8 x9 x10 x11); obtain ⟨x0, x1, x2, x3, x4, x5, x6, x7, x8, x9, x10, x11⟩ := row12 Rx
                  clear U11 V11 T11
                  cases t11 with
                  | true =>
                    (try clear r0 r1 r2 r3 r4 r5 r6 r7 r8 r9 r10 r11); obtain ⟨r0, r1, r2, r3, r4, r5, r6, r7, r8, r9, r10, r11⟩ := row12 Rr
                    have rf0 := Rr.frozen 0
                    have rf1 := Rr.frozen 1
                    have rf2 := Rr.frozen 2
                    have rf3 := Rr.frozen 3
                    have rf4 := Rr.frozen 4
                    have rf5 := Rr.frozen 5
                    have rf6 := Rr.frozen 6
                    have rf7 := Rr.frozen 7
                    have rf8 := Rr.frozen 8
                    have rf9 := Rr.frozen 9
                    have rf10 := Rr.frozen 10
                    have rf11 := Rr.frozen 11
                    go_wp2
                    obtain ⟨w12, hwn⟩ : ∃ wz, wz = (World.setCell (World.setCell (World.setCell (World.setCell (World.setCell (World.setCell (World.setCell (World.setCell (World.setCell (World.setCell (World.setCell (World.setCell w11 ⟨(w.heap.size + 1 + 1 + 1), 0, none⟩ (.int .i64 m0)) ⟨(w.heap.size + 1 + 1 + 1), 1, none⟩ (.int .i64 m1)) ⟨(w.heap.size + 1 + 1 + 1), 2, none⟩ (.int .i64 q.k0.kind)) ⟨(w.heap.size + 1 + 1 + 1), 3, none⟩ (.int .i64 q.k0.len)) ⟨(w.heap.size + 1 + 1 + 1), 4, none⟩ (.int .u64 q.k0.h)) ⟨(w.heap.size + 1 + 1 + 1), 5, none⟩ (.int .u64 q.k0.l)) ⟨(w.heap.size + 1 + 1 + 1), 6, none⟩ (.string ⟨q.k0.path.toArray⟩)) ⟨(w.heap.size + 1 + 1 + 1), 7, none⟩ (.int .i64 q.k1.kind)) ⟨(w.heap.size + 1 + 1 + 1), 8, none⟩ (.int .i64 q.k1.len)) ⟨(w.heap.size + 1 + 1 + 1), 9, none⟩ (.int .u64 q.k1.h)) ⟨(w.heap.size + 1 + 1 + 1), 10, none⟩ (.int .u64 q.k1.l)) ⟨(w.heap.size + 1 + 1 + 1), 11, none⟩ (.string ⟨q.k1.path.toArray⟩)) := ⟨_, rfl⟩
                    rw [← hwn]
                    replace hwn : w12 = World.setCells w11 (w.heap.size + 1 + 1 + 1) 0 [.int .i64 m0, .int .i64 m1, .int .i64 q.k0.kind, .int .i64 q.k0.len, .int .u64 q.k0.h, .int .u64 q.k0.l, .string ⟨q.k0.path.toArray⟩, .int .i64 q.k1.kind, .int .i64 q.k1.len, .int .u64 q.k1.h, .int .u64 q.k1.l, .string ⟨q.k1.path.toArray⟩] := hwn
                    replace Rr : Row w12 (w.heap.size + 1 + 1 + 1) #[.int .i64 m0, .int .i64 m1, .int .i64 q.k0.kind, .int .i64 q.k0.len, .int .u64 q.k0.h, .int .u64 q.k0.l, .string ⟨q.k0.path.toArray⟩, .int .i64 q.k1.kind, .int .i64 q.k1.len, .int .u64 q.k1.h, .int .u64 q.k1.l, .string ⟨q.k1.path.toArray⟩] 33 := psm hwn Rr (by simp [setL])
                    replace Rc := prf hwn Rc
                    replace Rd := prf hwn Rd
                    replace Ry := prf hwn Ry
                    replace Rx := prf hwn Rx
                    replace Ra := prf hwn Ra
                    replace Rb := prf hwn Rb
                    replace hb0 := pbl hwn hb0
                    clear hwn c0 c1 c2 c3 c4 c5 c6 d0 d1 d2 d3 d4 d5 d6 d7 d8 d9 d10 d11 y0 y1 y2 y3 y4 y5 y6 y7 y8 y9 y10 y11 r0 r1 r2 r3 r4 r5 r6 r7 r8 r9 r10 r11 x0 x1 x2 x3 x4 x5 x6 x7 x8 x9 x10 x11
                    (try clear rf0 rf1 rf2 rf3 rf4 rf5 rf6 rf7 rf8 rf9 rf10 rf11)
                    (try clear c0 c1 c2 c3 c4 c5 c6); obtain ⟨c0, c1, c2, c3, c4, c5, c6⟩ := row7 Rc
                    (try clear d0 d1 d2 d3 d4 d5 d6 d7 d8 d9 d10 d11); obtain ⟨d0, d1, d2, d3, d4, d5, d6, d7, d8, d9, d10, d11⟩ := row12 Rd
                    (try clear y0 y1 y2 y3 y4 y5 y6 y7 y8 y9 y10 y11); obtain ⟨y0, y1, y2, y3, y4, y5, y6, y7, y8, y9, y10, y11⟩ := row12 Ry
                    (try clear r0 r1 r2 r3 r4 r5 r6 r7 r8 r9 r10 r11); obtain ⟨r0, r1, r2, r3, r4, r5, r6, r7, r8, r9, r10, r11⟩ := row12 Rr
                    (try clear x0 x1 x2 x3 x4 x5 x6 x7 x8 x9 x10 x11); obtain ⟨x0, x1, x2, x3, x4, x5, x6, x7, x8, x9, x10, x11⟩ := row12 Rx
                    refine bodyPost_ret (v := .tuple #[.agg #[.int .i64 m0, .int .i64 m1, .int .i64 q.k0.kind, .int .i64 q.k0.len, .int .u64 q.k0.h, .int .u64 q.k0.l, .string ⟨q.k0.path.toArray⟩, .int .i64 q.k1.kind, .int .i64 q.k1.len, .int .u64 q.k1.h, .int .u64 q.k1.l, .string ⟨q.k1.path.toArray⟩], .bool true]) (by simp [results, Try.results31, go_sem, r0, r1, r2, r3, r4, r5, r6, r7, r8, r9, r10, r11]) rfl ⟨rfl, hb0⟩
                  | false =>
                    go_wp2_with fail
                    rw [rounds_succ]
                    go_wp2_with fail
                    rw [rounds_succ]
                    (try clear r0 r1 r2 r3 r4 r5 r6 r7 r8 r9 r10 r11); obtain ⟨r0, r1, r2, r3, r4, r5, r6, r7, r8, r9, r10, r11⟩ := row12 Rr
                    have rf0 := Rr.frozen 0
                    have rf1 := Rr.frozen 1
                    have rf2 := Rr.frozen 2
                    have rf3 := Rr.frozen 3
                    have rf4 := Rr.frozen 4
                    have rf5 := Rr.frozen 5
                    have rf6 := Rr.frozen 6
                    have rf7 := Rr.frozen 7
                    have rf8 := Rr.frozen 8
                    have rf9 := Rr.frozen 9
                    have rf10 := Rr.frozen 10
                    have rf11 := Rr.frozen 11
                    go_wp2
                    obtain ⟨w12, hwn⟩ : ∃ wz, wz = (World.setCell (World.setCell (World.setCell (World.setCell (World.setCell (World.setCell (World.setCell (World.setCell (World.setCell (World.setCell (World.setCell (World.setCell w11 ⟨(w.heap.size + 1 + 1 + 1), 0, none⟩ (.int .i64 0)) ⟨(w.heap.size + 1 + 1 + 1), 1, none⟩ (.int .i64 0)) ⟨(w.heap.size + 1 + 1 + 1), 2, none⟩ (.int .i64 0)) ⟨(w.heap.size + 1 + 1 + 1), 3, none⟩ (.int .i64 0)) ⟨(w.heap.size + 1 + 1 + 1), 4, none⟩ (.int .u64 0)) ⟨(w.heap.size + 1 + 1 + 1), 5, none⟩ (.int .u64 0)) ⟨(w.heap.size + 1 + 1 + 1), 6, none⟩ (.string ⟨#[]⟩)) ⟨(w.heap.size + 1 + 1 + 1), 7, none⟩ (.int .i64 0)) ⟨(w.heap.size + 1 + 1 + 1), 8, none⟩ (.int .i64 0)) ⟨(w.heap.size + 1 + 1 + 1), 9, none⟩ (.int .u64 0)) ⟨(w.heap.size + 1 + 1 + 1), 10, none⟩ (.int .u64 0)) ⟨(w.heap.size + 1 + 1 + 1), 11, none⟩ (.string ⟨#[]⟩)) := ⟨_, rfl⟩
                    rw [← hwn]
                    replace hwn : w12 = World.setCells w11 (w.heap.size + 1 + 1 + 1) 0 [.int .i64 0, .int .i64 0, .int .i64 0, .int .i64 0, .int .u64 0, .int .u64 0, .string ⟨#[]⟩, .int .i64 0, .int .i64 0, .int .u64 0, .int .u64 0, .string ⟨#[]⟩] := hwn
                    replace Rr : Row w12 (w.heap.size + 1 + 1 + 1) #[.int .i64 0, .int .i64 0, .int .i64 0, .int .i64 0, .int .u64 0, .int .u64 0, .string ⟨#[]⟩, .int .i64 0, .int .i64 0, .int .u64 0, .int .u64 0, .string ⟨#[]⟩] 33 := psm hwn Rr (by simp [setL])
                    replace Rc := prf hwn Rc
                    replace Rd := prf hwn Rd
                    replace Ry := prf hwn Ry
                    replace Rx := prf hwn Rx
                    replace Ra := prf hwn Ra
                    replace Rb := prf hwn Rb
                    replace hb0 := pbl hwn hb0
                    clear hwn c0 c1 c2 c3 c4 c5 c6 d0 d1 d2 d3 d4 d5 d6 d7 d8 d9 d10 d11 y0 y1 y2 y3 y4 y5 y6 y7 y8 y9 y10 y11 r0 r1 r2 r3 r4 r5 r6 r7 r8 r9 r10 r11 x0 x1 x2 x3 x4 x5 x6 x7 x8 x9 x10 x11
                    (try clear rf0 rf1 rf2 rf3 rf4 rf5 rf6 rf7 rf8 rf9 rf10 rf11)
                    (try clear c0 c1 c2 c3 c4 c5 c6); obtain ⟨c0, c1, c2, c3, c4, c5, c6⟩ := row7 Rc
                    (try clear d0 d1 d2 d3 d4 d5 d6 d7 d8 d9 d10 d11); obtain ⟨d0, d1, d2, d3, d4, d5, d6, d7, d8, d9, d10, d11⟩ := row12 Rd
                    (try clear y0 y1 y2 y3 y4 y5 y6 y7 y8 y9 y10 y11); obtain ⟨y0, y1, y2, y3, y4, y5, y6, y7, y8, y9, y10, y11⟩ := row12 Ry
                    (try clear r0 r1 r2 r3 r4 r5 r6 r7 r8 r9 r10 r11); obtain ⟨r0, r1, r2, r3, r4, r5, r6, r7, r8, r9, r10, r11⟩ := row12 Rr
                    (try clear x0 x1 x2 x3 x4 x5 x6 x7 x8 x9 x10 x11); obtain ⟨x0, x1, x2, x3, x4, x5, x6, x7, x8, x9, x10, x11⟩ := row12 Rx
                    refine bodyPost_ret (v := .tuple #[.agg #[.int .i64 0, .int .i64 0, .int .i64 0, .int .i64 0, .int .u64 0, .int .u64 0, .string ⟨#[]⟩, .int .i64 0, .int .i64 0, .int .u64 0, .int .u64 0, .string ⟨#[]⟩], .bool false]) (by simp [results, Try.results31, go_sem, r0, r1, r2, r3, r4, r5, r6, r7, r8, r9, r10, r11]) rfl ⟨rfl, hb0⟩
theorem cx_some (s : Sp) (p q : Px) : ∃ i j, cxP p q i j = crossX p q := by
  refine ⟨decide (q.a0 < p.a0), decide (q.a1 < p.a1), ?_⟩
  unfold cxP crossX
  refine px_ext rfl rfl ?_ ?_ <;> dsimp only
  · by_cases h : q.a0 < p.a0
    · rw [decide_eq_true h, if_pos h]; rfl
    · rw [decide_eq_false h, if_neg h]; rfl
  · by_cases h : q.a1 < p.a1
    · rw [decide_eq_true h, if_pos h]; rfl
    · rw [decide_eq_false h, if_neg h]; rfl
theorem cx_hit {s : Sp} {p q : Px} (i j : Bool) (h : (overP s p (cxP p q i j) && overP s q (cxP p q i j)) = true) : crossB s p q = true ∧ crossP s p q = cxP p q i j := by
  have h2 := h
  rw [Bool.and_eq_true] at h2
  have e := cross_only h2.1 h2.2 rfl rfl
  have hb : crossB s p q = true := by unfold crossB; rw [← e]; exact h
  exact ⟨hb, by unfold crossP; rw [if_pos hb, e]⟩
theorem cx_miss {s : Sp} {p q : Px} (h : ∀ i j, (overP s p (cxP p q i j) && overP s q (cxP p q i j)) = false) : crossB s p q = false ∧ crossP s p q = pz := by
  obtain ⟨i, j, e⟩ := cx_some s p q
  have h2 := h i j
  rw [e] at h2
  have hb : crossB s p q = false := h2
  exact ⟨hb, by unfold crossP; rw [hb]; rfl⟩
theorem rcross_t (s : Sp) (p q : Px) (op : p.ok) (oq : q.ok) (w : World) : Calls Try.prog 31 #[sv s, pv p, pv q] w fun e w' => e = .returned (.tuple #[pv (crossP s p q), .bool (crossB s p q)]) ∧ Below w.heap.size w w' := by
  have ox := px_lower_ok op oq
  have oc : ∀ i j, (cxP p q i j).ok := fun i j => by
    unfold cxP
    refine ⟨?_, ?_, ox.a00, ox.a01, ox.a10, ox.a11⟩ <;> dsimp only
    · cases i; exact op.k0; exact oq.k0
    · cases j; exact op.k1; exact oq.k1
  have U := fun i j => rover9_t s p (cxP p q i j) op (oc i j)
  have V := fun i j => rover9_t s q (cxP p q i j) oq (oc i j)
  have em0 : (crossX p q).a0 = bif decide (q.a0 < p.a0) then q.a0 else p.a0 := by
    unfold crossX; dsimp only
    by_cases h : q.a0 < p.a0
    · rw [decide_eq_true h, if_pos h]; rfl
    · rw [decide_eq_false h, if_neg h]; rfl
  have em1 : (crossX p q).a1 = bif decide (q.a1 < p.a1) then q.a1 else p.a1 := by
    unfold crossX; dsimp only
    by_cases h : q.a1 < p.a1
    · rw [decide_eq_true h, if_pos h]; rfl
    · rw [decide_eq_false h, if_neg h]; rfl
  have H := rcross_w s p q _ _ _ _ _ _ _ _ _ _ _ _ _ _ _ _ rfl rfl em0 em1 (U false false) (V false false) (U false true) (V false true) (U true false) (V true false) (U true true) (V true true) (Lib.hid rfl) (Lib.hid rfl) (Lib.hid rfl) (Lib.hid rfl) w
  refine H.mono ?_
  rintro e w' ⟨rfl, hb⟩
  refine ⟨?_, hb⟩
  have hit := @cx_hit s p q
  have miss := @cx_miss s p q
  have key : ∀ i j b, (overP s p (cxP p q i j) && overP s q (cxP p q i j)) = b → b = true → Ending.returned (.tuple #[pv (cxP p q i j), .bool true]) = .returned (.tuple #[pv (crossP s p q), .bool (crossB s p q)]) := fun i j b e1 e2 => by
    obtain ⟨h1, h2⟩ := hit i j (e1.trans e2)
    rw [h1, h2]
  cases e00 : (overP s p (cxP p q false false) && overP s q (cxP p q false false)) with
  | true => exact key false false _ e00 rfl
  | false =>
    cases e01 : (overP s p (cxP p q false true) && overP s q (cxP p q false true)) with
    | true => exact key false true _ e01 rfl
    | false =>
      cases e10 : (overP s p (cxP p q true false) && overP s q (cxP p q true false)) with
      | true => exact key true false _ e10 rfl
      | false =>
        cases e11 : (overP s p (cxP p q true true) && overP s q (cxP p q true true)) with
        | true => exact key true true _ e11 rfl
        | false =>
          obtain ⟨h1, h2⟩ := miss (fun i j => by cases i <;> cases j <;> assumption)
          rw [h1, h2]; rfl
end Go.Proofs.Ytbekocknfpekoaa
