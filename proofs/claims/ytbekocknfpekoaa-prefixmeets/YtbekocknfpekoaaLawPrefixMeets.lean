/- LawPrefixMeets: what the theorem needs of these texts. No conditions beyond those that are written. -/
import Derived.Test.YtbekocknfpekoaaJF0
import Derived.Test.YtbekocknfpekoaaJP11
namespace Go.Proofs.Ytbekocknfpekoaa
set_option linter.unusedVariables false
set_option linter.unusedSimpArgs false
open Go.RowKit
set_option maxRecDepth 100000 in
set_option maxHeartbeats 32000000 in
theorem meets_a (s : Sp) (p q x c : Px)
    (H1 : ∀ w, Calls Try.prog 30 #[sv s, pv p, pv q] w fun e w' => e = .returned (.tuple #[pv pz, .bool false]) ∧ Below w.heap.size w w')
    (H2 : ∀ w, Calls Try.prog 30 #[sv s, pv q, pv p] w fun e w' => e = .returned (.tuple #[pv pz, .bool false]) ∧ Below w.heap.size w w')
    (H3 : ∀ w, Calls Try.prog 28 #[sv s, pv p, pv x] w fun e w' => e = .returned (.bool false) ∧ Below w.heap.size w w') (w : World) :
    Calls Try.prog 8 #[sv s, pv p, pv q, pv x] w fun e w' => e = .returned (.bool true) ∧ Below w.heap.size w w' := by
  have HA := alive9_t
  have qn := neq_px pz pz
  have qe := eql_px pz pz
  rw [decide_eq_true rfl] at qn qe
  unfold pz kz at *
  unfold sv pv at *
  obtain ⟨Rg, Rd, Re, Rf, hb0⟩ := four_rows w #[.int .i64 s.n, .int .i64 s.d0.kind, .int .i64 s.d0.side, .int .i64 s.d0.step, .int .i64 s.d1.kind, .int .i64 s.d1.side, .int .i64 s.d1.step] #[.int .i64 p.a0, .int .i64 p.a1, .int .i64 p.k0.kind, .int .i64 p.k0.len, .int .u64 p.k0.h, .int .u64 p.k0.l, .string ⟨p.k0.path.toArray⟩, .int .i64 p.k1.kind, .int .i64 p.k1.len, .int .u64 p.k1.h, .int .u64 p.k1.l, .string ⟨p.k1.path.toArray⟩] #[.int .i64 q.a0, .int .i64 q.a1, .int .i64 q.k0.kind, .int .i64 q.k0.len, .int .u64 q.k0.h, .int .u64 q.k0.l, .string ⟨q.k0.path.toArray⟩, .int .i64 q.k1.kind, .int .i64 q.k1.len, .int .u64 q.k1.h, .int .u64 q.k1.l, .string ⟨q.k1.path.toArray⟩] #[.int .i64 x.a0, .int .i64 x.a1, .int .i64 x.k0.kind, .int .i64 x.k0.len, .int .u64 x.k0.h, .int .u64 x.k0.l, .string ⟨x.k0.path.toArray⟩, .int .i64 x.k1.kind, .int .i64 x.k1.len, .int .u64 x.k1.h, .int .u64 x.k1.l, .string ⟨x.k1.path.toArray⟩] 26 33 33 33
  (try clear g0 g1 g2 g3 g4 g5 g6); obtain ⟨g0, g1, g2, g3, g4, g5, g6⟩ := row7 Rg
  (try clear d0 d1 d2 d3 d4 d5 d6 d7 d8 d9 d10 d11); obtain ⟨d0, d1, d2, d3, d4, d5, d6, d7, d8, d9, d10, d11⟩ := row12 Rd
  (try clear e0 e1 e2 e3 e4 e5 e6 e7 e8 e9 e10 e11); obtain ⟨e0, e1, e2, e3, e4, e5, e6, e7, e8, e9, e10, e11⟩ := row12 Re
  (try clear f0 f1 f2 f3 f4 f5 f6 f7 f8 f9 f10 f11); obtain ⟨f0, f1, f2, f3, f4, f5, f6, f7, f8, f9, f10, f11⟩ := row12 Rf
  go_enter Try.func8, Try.ntmps8
  go_wp2_with fail
  refine (H1 _).mono ?_
  rintro e w1 ⟨rfl, hb⟩
  replace Rg := Rg.later hb
  replace Rd := Rd.later hb
  replace Re := Re.later hb
  replace Rf := Rf.later hb
  replace hb0 := below_step hb0 hb
  clear hb
  have lg := Rg.lt
  have ld := Rd.lt
  have le := Re.lt
  have lf := Rf.lt
  (try clear g0 g1 g2 g3 g4 g5 g6); obtain ⟨g0, g1, g2, g3, g4, g5, g6⟩ := row7 Rg
  (try clear d0 d1 d2 d3 d4 d5 d6 d7 d8 d9 d10 d11); obtain ⟨d0, d1, d2, d3, d4, d5, d6, d7, d8, d9, d10, d11⟩ := row12 Rd
  (try clear e0 e1 e2 e3 e4 e5 e6 e7 e8 e9 e10 e11); obtain ⟨e0, e1, e2, e3, e4, e5, e6, e7, e8, e9, e10, e11⟩ := row12 Re
  (try clear f0 f1 f2 f3 f4 f5 f6 f7 f8 f9 f10 f11); obtain ⟨f0, f1, f2, f3, f4, f5, f6, f7, f8, f9, f10, f11⟩ := row12 Rf
  go_wp2_with fail
  refine (H2 _).mono ?_
  rintro e w2 ⟨rfl, hb⟩
  have nmg := Rg.lt
  have nmd := Rd.lt
  have nme := Re.lt
  have nmf := Rf.lt
  replace Rg := (Rg.alloc _).later hb
  replace Rd := (Rd.alloc _).later hb
  replace Re := (Re.alloc _).later hb
  replace Rf := (Rf.alloc _).later hb
  have Rm := Row.later (Row.new _ _ _) hb
  have mm := hb0.size
  replace hb0 := below_step (hb0.alloc hb0.size _) hb
  clear hb
  generalize w1.heap.size = gm at *
  have lg := Rg.lt
  have ld := Rd.lt
  have le := Re.lt
  have lf := Rf.lt
  have lm := Rm.lt
  (try clear g0 g1 g2 g3 g4 g5 g6); obtain ⟨g0, g1, g2, g3, g4, g5, g6⟩ := row7 Rg
  (try clear d0 d1 d2 d3 d4 d5 d6 d7 d8 d9 d10 d11); obtain ⟨d0, d1, d2, d3, d4, d5, d6, d7, d8, d9, d10, d11⟩ := row12 Rd
  (try clear e0 e1 e2 e3 e4 e5 e6 e7 e8 e9 e10 e11); obtain ⟨e0, e1, e2, e3, e4, e5, e6, e7, e8, e9, e10, e11⟩ := row12 Re
  (try clear f0 f1 f2 f3 f4 f5 f6 f7 f8 f9 f10 f11); obtain ⟨f0, f1, f2, f3, f4, f5, f6, f7, f8, f9, f10, f11⟩ := row12 Rf
  (try clear m0 m1 m2 m3 m4 m5 m6 m7 m8 m9 m10 m11); obtain ⟨m0, m1, m2, m3, m4, m5, m6, m7, m8, m9, m10, m11⟩ := row12 Rm
  go_wp2_with fail
  refine (H3 _).mono ?_
  rintro e w3 ⟨rfl, hb⟩
  have nng := Rg.lt
  have nnd := Rd.lt
  have nne := Re.lt
  have nnf := Rf.lt
  have nnm := Rm.lt
  replace Rg := (Rg.alloc _).later hb
  replace Rd := (Rd.alloc _).later hb
  replace Re := (Re.alloc _).later hb
  replace Rf := (Rf.alloc _).later hb
  replace Rm := (Rm.alloc _).later hb
  have Rn := Row.later (Row.new _ _ _) hb
  have mn := hb0.size
  replace hb0 := below_step (hb0.alloc hb0.size _) hb
  clear hb
  generalize w2.heap.size = gn at *
  have lg := Rg.lt
  have ld := Rd.lt
  have le := Re.lt
  have lf := Rf.lt
  have lm := Rm.lt
  have ln := Rn.lt
  (try clear g0 g1 g2 g3 g4 g5 g6); obtain ⟨g0, g1, g2, g3, g4, g5, g6⟩ := row7 Rg
  (try clear d0 d1 d2 d3 d4 d5 d6 d7 d8 d9 d10 d11); obtain ⟨d0, d1, d2, d3, d4, d5, d6, d7, d8, d9, d10, d11⟩ := row12 Rd
  (try clear e0 e1 e2 e3 e4 e5 e6 e7 e8 e9 e10 e11); obtain ⟨e0, e1, e2, e3, e4, e5, e6, e7, e8, e9, e10, e11⟩ := row12 Re
  (try clear f0 f1 f2 f3 f4 f5 f6 f7 f8 f9 f10 f11); obtain ⟨f0, f1, f2, f3, f4, f5, f6, f7, f8, f9, f10, f11⟩ := row12 Rf
  (try clear m0 m1 m2 m3 m4 m5 m6 m7 m8 m9 m10 m11); obtain ⟨m0, m1, m2, m3, m4, m5, m6, m7, m8, m9, m10, m11⟩ := row12 Rm
  (try clear n0 n1 n2 n3 n4 n5 n6 n7 n8 n9 n10 n11); obtain ⟨n0, n1, n2, n3, n4, n5, n6, n7, n8, n9, n10, n11⟩ := row12 Rn
  go_wp2_with fail
  refine (HA _).mono ?_
  rintro e w4 ⟨rfl, hb⟩
  replace Rg := Rg.later hb
  replace Rd := Rd.later hb
  replace Re := Re.later hb
  replace Rf := Rf.later hb
  replace Rm := Rm.later hb
  replace Rn := Rn.later hb
  replace hb0 := below_step hb0 hb
  clear hb
  have lg := Rg.lt
  have ld := Rd.lt
  have le := Re.lt
  have lf := Rf.lt
  have lm := Rm.lt
  have ln := Rn.lt
  (try clear g0 g1 g2 g3 g4 g5 g6); obtain ⟨g0, g1, g2, g3, g4, g5, g6⟩ := row7 Rg
  (try clear d0 d1 d2 d3 d4 d5 d6 d7 d8 d9 d10 d11); obtain ⟨d0, d1, d2, d3, d4, d5, d6, d7, d8, d9, d10, d11⟩ := row12 Rd
  (try clear e0 e1 e2 e3 e4 e5 e6 e7 e8 e9 e10 e11); obtain ⟨e0, e1, e2, e3, e4, e5, e6, e7, e8, e9, e10, e11⟩ := row12 Re
  (try clear f0 f1 f2 f3 f4 f5 f6 f7 f8 f9 f10 f11); obtain ⟨f0, f1, f2, f3, f4, f5, f6, f7, f8, f9, f10, f11⟩ := row12 Rf
  (try clear m0 m1 m2 m3 m4 m5 m6 m7 m8 m9 m10 m11); obtain ⟨m0, m1, m2, m3, m4, m5, m6, m7, m8, m9, m10, m11⟩ := row12 Rm
  (try clear n0 n1 n2 n3 n4 n5 n6 n7 n8 n9 n10 n11); obtain ⟨n0, n1, n2, n3, n4, n5, n6, n7, n8, n9, n10, n11⟩ := row12 Rn
  go_wp2
  go_ret
  exact ⟨rfl, hb0⟩
set_option maxRecDepth 100000 in
set_option maxHeartbeats 32000000 in
theorem meets_b (s : Sp) (p q x c : Px)
    (H1 : ∀ w, Calls Try.prog 30 #[sv s, pv p, pv q] w fun e w' => e = .returned (.tuple #[pv pz, .bool false]) ∧ Below w.heap.size w w')
    (H2 : ∀ w, Calls Try.prog 30 #[sv s, pv q, pv p] w fun e w' => e = .returned (.tuple #[pv pz, .bool false]) ∧ Below w.heap.size w w')
    (H3 : ∀ w, Calls Try.prog 28 #[sv s, pv p, pv x] w fun e w' => e = .returned (.bool true) ∧ Below w.heap.size w w')
    (H4 : ∀ w, Calls Try.prog 28 #[sv s, pv q, pv x] w fun e w' => e = .returned (.bool false) ∧ Below w.heap.size w w') (w : World) :
    Calls Try.prog 8 #[sv s, pv p, pv q, pv x] w fun e w' => e = .returned (.bool true) ∧ Below w.heap.size w w' := by
  have HA := alive9_t
  have qn := neq_px pz pz
  have qe := eql_px pz pz
  rw [decide_eq_true rfl] at qn qe
  unfold pz kz at *
  unfold sv pv at *
  obtain ⟨Rg, Rd, Re, Rf, hb0⟩ := four_rows w #[.int .i64 s.n, .int .i64 s.d0.kind, .int .i64 s.d0.side, .int .i64 s.d0.step, .int .i64 s.d1.kind, .int .i64 s.d1.side, .int .i64 s.d1.step] #[.int .i64 p.a0, .int .i64 p.a1, .int .i64 p.k0.kind, .int .i64 p.k0.len, .int .u64 p.k0.h, .int .u64 p.k0.l, .string ⟨p.k0.path.toArray⟩, .int .i64 p.k1.kind, .int .i64 p.k1.len, .int .u64 p.k1.h, .int .u64 p.k1.l, .string ⟨p.k1.path.toArray⟩] #[.int .i64 q.a0, .int .i64 q.a1, .int .i64 q.k0.kind, .int .i64 q.k0.len, .int .u64 q.k0.h, .int .u64 q.k0.l, .string ⟨q.k0.path.toArray⟩, .int .i64 q.k1.kind, .int .i64 q.k1.len, .int .u64 q.k1.h, .int .u64 q.k1.l, .string ⟨q.k1.path.toArray⟩] #[.int .i64 x.a0, .int .i64 x.a1, .int .i64 x.k0.kind, .int .i64 x.k0.len, .int .u64 x.k0.h, .int .u64 x.k0.l, .string ⟨x.k0.path.toArray⟩, .int .i64 x.k1.kind, .int .i64 x.k1.len, .int .u64 x.k1.h, .int .u64 x.k1.l, .string ⟨x.k1.path.toArray⟩] 26 33 33 33
  (try clear g0 g1 g2 g3 g4 g5 g6); obtain ⟨g0, g1, g2, g3, g4, g5, g6⟩ := row7 Rg
  (try clear d0 d1 d2 d3 d4 d5 d6 d7 d8 d9 d10 d11); obtain ⟨d0, d1, d2, d3, d4, d5, d6, d7, d8, d9, d10, d11⟩ := row12 Rd
  (try clear e0 e1 e2 e3 e4 e5 e6 e7 e8 e9 e10 e11); obtain ⟨e0, e1, e2, e3, e4, e5, e6, e7, e8, e9, e10, e11⟩ := row12 Re
  (try clear f0 f1 f2 f3 f4 f5 f6 f7 f8 f9 f10 f11); obtain ⟨f0, f1, f2, f3, f4, f5, f6, f7, f8, f9, f10, f11⟩ := row12 Rf
  go_enter Try.func8, Try.ntmps8
  go_wp2_with fail
  refine (H1 _).mono ?_
  rintro e w1 ⟨rfl, hb⟩
  replace Rg := Rg.later hb
  replace Rd := Rd.later hb
  replace Re := Re.later hb
  replace Rf := Rf.later hb
  replace hb0 := below_step hb0 hb
  clear hb
  have lg := Rg.lt
  have ld := Rd.lt
  have le := Re.lt
  have lf := Rf.lt
  (try clear g0 g1 g2 g3 g4 g5 g6); obtain ⟨g0, g1, g2, g3, g4, g5, g6⟩ := row7 Rg
  (try clear d0 d1 d2 d3 d4 d5 d6 d7 d8 d9 d10 d11); obtain ⟨d0, d1, d2, d3, d4, d5, d6, d7, d8, d9, d10, d11⟩ := row12 Rd
  (try clear e0 e1 e2 e3 e4 e5 e6 e7 e8 e9 e10 e11); obtain ⟨e0, e1, e2, e3, e4, e5, e6, e7, e8, e9, e10, e11⟩ := row12 Re
  (try clear f0 f1 f2 f3 f4 f5 f6 f7 f8 f9 f10 f11); obtain ⟨f0, f1, f2, f3, f4, f5, f6, f7, f8, f9, f10, f11⟩ := row12 Rf
  go_wp2_with fail
  refine (H2 _).mono ?_
  rintro e w2 ⟨rfl, hb⟩
  have nmg := Rg.lt
  have nmd := Rd.lt
  have nme := Re.lt
  have nmf := Rf.lt
  replace Rg := (Rg.alloc _).later hb
  replace Rd := (Rd.alloc _).later hb
  replace Re := (Re.alloc _).later hb
  replace Rf := (Rf.alloc _).later hb
  have Rm := Row.later (Row.new _ _ _) hb
  have mm := hb0.size
  replace hb0 := below_step (hb0.alloc hb0.size _) hb
  clear hb
  generalize w1.heap.size = gm at *
  have lg := Rg.lt
  have ld := Rd.lt
  have le := Re.lt
  have lf := Rf.lt
  have lm := Rm.lt
  (try clear g0 g1 g2 g3 g4 g5 g6); obtain ⟨g0, g1, g2, g3, g4, g5, g6⟩ := row7 Rg
  (try clear d0 d1 d2 d3 d4 d5 d6 d7 d8 d9 d10 d11); obtain ⟨d0, d1, d2, d3, d4, d5, d6, d7, d8, d9, d10, d11⟩ := row12 Rd
  (try clear e0 e1 e2 e3 e4 e5 e6 e7 e8 e9 e10 e11); obtain ⟨e0, e1, e2, e3, e4, e5, e6, e7, e8, e9, e10, e11⟩ := row12 Re
  (try clear f0 f1 f2 f3 f4 f5 f6 f7 f8 f9 f10 f11); obtain ⟨f0, f1, f2, f3, f4, f5, f6, f7, f8, f9, f10, f11⟩ := row12 Rf
  (try clear m0 m1 m2 m3 m4 m5 m6 m7 m8 m9 m10 m11); obtain ⟨m0, m1, m2, m3, m4, m5, m6, m7, m8, m9, m10, m11⟩ := row12 Rm
  go_wp2_with fail
  refine (H3 _).mono ?_
  rintro e w3 ⟨rfl, hb⟩
  have nng := Rg.lt
  have nnd := Rd.lt
  have nne := Re.lt
  have nnf := Rf.lt
  have nnm := Rm.lt
  replace Rg := (Rg.alloc _).later hb
  replace Rd := (Rd.alloc _).later hb
  replace Re := (Re.alloc _).later hb
  replace Rf := (Rf.alloc _).later hb
  replace Rm := (Rm.alloc _).later hb
  have Rn := Row.later (Row.new _ _ _) hb
  have mn := hb0.size
  replace hb0 := below_step (hb0.alloc hb0.size _) hb
  clear hb
  generalize w2.heap.size = gn at *
  have lg := Rg.lt
  have ld := Rd.lt
  have le := Re.lt
  have lf := Rf.lt
  have lm := Rm.lt
  have ln := Rn.lt
  (try clear g0 g1 g2 g3 g4 g5 g6); obtain ⟨g0, g1, g2, g3, g4, g5, g6⟩ := row7 Rg
  (try clear d0 d1 d2 d3 d4 d5 d6 d7 d8 d9 d10 d11); obtain ⟨d0, d1, d2, d3, d4, d5, d6, d7, d8, d9, d10, d11⟩ := row12 Rd
  (try clear e0 e1 e2 e3 e4 e5 e6 e7 e8 e9 e10 e11); obtain ⟨e0, e1, e2, e3, e4, e5, e6, e7, e8, e9, e10, e11⟩ := row12 Re
  (try clear f0 f1 f2 f3 f4 f5 f6 f7 f8 f9 f10 f11); obtain ⟨f0, f1, f2, f3, f4, f5, f6, f7, f8, f9, f10, f11⟩ := row12 Rf
  (try clear m0 m1 m2 m3 m4 m5 m6 m7 m8 m9 m10 m11); obtain ⟨m0, m1, m2, m3, m4, m5, m6, m7, m8, m9, m10, m11⟩ := row12 Rm
  (try clear n0 n1 n2 n3 n4 n5 n6 n7 n8 n9 n10 n11); obtain ⟨n0, n1, n2, n3, n4, n5, n6, n7, n8, n9, n10, n11⟩ := row12 Rn
  go_wp2_with fail
  refine (H4 _).mono ?_
  rintro e w4 ⟨rfl, hb⟩
  replace Rg := Rg.later hb
  replace Rd := Rd.later hb
  replace Re := Re.later hb
  replace Rf := Rf.later hb
  replace Rm := Rm.later hb
  replace Rn := Rn.later hb
  replace hb0 := below_step hb0 hb
  clear hb
  have lg := Rg.lt
  have ld := Rd.lt
  have le := Re.lt
  have lf := Rf.lt
  have lm := Rm.lt
  have ln := Rn.lt
  (try clear g0 g1 g2 g3 g4 g5 g6); obtain ⟨g0, g1, g2, g3, g4, g5, g6⟩ := row7 Rg
  (try clear d0 d1 d2 d3 d4 d5 d6 d7 d8 d9 d10 d11); obtain ⟨d0, d1, d2, d3, d4, d5, d6, d7, d8, d9, d10, d11⟩ := row12 Rd
  (try clear e0 e1 e2 e3 e4 e5 e6 e7 e8 e9 e10 e11); obtain ⟨e0, e1, e2, e3, e4, e5, e6, e7, e8, e9, e10, e11⟩ := row12 Re
  (try clear f0 f1 f2 f3 f4 f5 f6 f7 f8 f9 f10 f11); obtain ⟨f0, f1, f2, f3, f4, f5, f6, f7, f8, f9, f10, f11⟩ := row12 Rf
  (try clear m0 m1 m2 m3 m4 m5 m6 m7 m8 m9 m10 m11); obtain ⟨m0, m1, m2, m3, m4, m5, m6, m7, m8, m9, m10, m11⟩ := row12 Rm
  (try clear n0 n1 n2 n3 n4 n5 n6 n7 n8 n9 n10 n11); obtain ⟨n0, n1, n2, n3, n4, n5, n6, n7, n8, n9, n10, n11⟩ := row12 Rn
  go_wp2_with fail
  refine (HA _).mono ?_
  rintro e w5 ⟨rfl, hb⟩
  replace Rg := Rg.later hb
  replace Rd := Rd.later hb
  replace Re := Re.later hb
  replace Rf := Rf.later hb
  replace Rm := Rm.later hb
  replace Rn := Rn.later hb
  replace hb0 := below_step hb0 hb
  clear hb
  have lg := Rg.lt
  have ld := Rd.lt
  have le := Re.lt
  have lf := Rf.lt
  have lm := Rm.lt
  have ln := Rn.lt
  (try clear g0 g1 g2 g3 g4 g5 g6); obtain ⟨g0, g1, g2, g3, g4, g5, g6⟩ := row7 Rg
  (try clear d0 d1 d2 d3 d4 d5 d6 d7 d8 d9 d10 d11); obtain ⟨d0, d1, d2, d3, d4, d5, d6, d7, d8, d9, d10, d11⟩ := row12 Rd
  (try clear e0 e1 e2 e3 e4 e5 e6 e7 e8 e9 e10 e11); obtain ⟨e0, e1, e2, e3, e4, e5, e6, e7, e8, e9, e10, e11⟩ := row12 Re
  (try clear f0 f1 f2 f3 f4 f5 f6 f7 f8 f9 f10 f11); obtain ⟨f0, f1, f2, f3, f4, f5, f6, f7, f8, f9, f10, f11⟩ := row12 Rf
  (try clear m0 m1 m2 m3 m4 m5 m6 m7 m8 m9 m10 m11); obtain ⟨m0, m1, m2, m3, m4, m5, m6, m7, m8, m9, m10, m11⟩ := row12 Rm
  (try clear n0 n1 n2 n3 n4 n5 n6 n7 n8 n9 n10 n11); obtain ⟨n0, n1, n2, n3, n4, n5, n6, n7, n8, n9, n10, n11⟩ := row12 Rn
  go_wp2
  go_ret
  exact ⟨rfl, hb0⟩
set_option maxRecDepth 100000 in
set_option maxHeartbeats 32000000 in
theorem meets_c (s : Sp) (p q x c : Px)
    (H1 : ∀ w, Calls Try.prog 30 #[sv s, pv p, pv q] w fun e w' => e = .returned (.tuple #[pv c, .bool true]) ∧ Below w.heap.size w w')
    (H2 : ∀ w, Calls Try.prog 30 #[sv s, pv q, pv p] w fun e w' => e = .returned (.tuple #[pv c, .bool true]) ∧ Below w.heap.size w w')
    (H3 : ∀ w, Calls Try.prog 28 #[sv s, pv p, pv x] w fun e w' => e = .returned (.bool false) ∧ Below w.heap.size w w')
    (H5 : ∀ w, Calls Try.prog 28 #[sv s, pv p, pv c] w fun e w' => e = .returned (.bool true) ∧ Below w.heap.size w w')
    (H6 : ∀ w, Calls Try.prog 28 #[sv s, pv q, pv c] w fun e w' => e = .returned (.bool true) ∧ Below w.heap.size w w')
    (H7 : ∀ w, Calls Try.prog 28 #[sv s, pv c, pv x] w fun e w' => e = .returned (.bool false) ∧ Below w.heap.size w w') (w : World) :
    Calls Try.prog 8 #[sv s, pv p, pv q, pv x] w fun e w' => e = .returned (.bool true) ∧ Below w.heap.size w w' := by
  have HA := alive9_t
  have qn := neq_px c c
  have qe := eql_px pz pz
  rw [decide_eq_true rfl] at qn qe
  unfold pz kz at *
  unfold sv pv at *
  obtain ⟨Rg, Rd, Re, Rf, hb0⟩ := four_rows w #[.int .i64 s.n, .int .i64 s.d0.kind, .int .i64 s.d0.side, .int .i64 s.d0.step, .int .i64 s.d1.kind, .int .i64 s.d1.side, .int .i64 s.d1.step] #[.int .i64 p.a0, .int .i64 p.a1, .int .i64 p.k0.kind, .int .i64 p.k0.len, .int .u64 p.k0.h, .int .u64 p.k0.l, .string ⟨p.k0.path.toArray⟩, .int .i64 p.k1.kind, .int .i64 p.k1.len, .int .u64 p.k1.h, .int .u64 p.k1.l, .string ⟨p.k1.path.toArray⟩] #[.int .i64 q.a0, .int .i64 q.a1, .int .i64 q.k0.kind, .int .i64 q.k0.len, .int .u64 q.k0.h, .int .u64 q.k0.l, .string ⟨q.k0.path.toArray⟩, .int .i64 q.k1.kind, .int .i64 q.k1.len, .int .u64 q.k1.h, .int .u64 q.k1.l, .string ⟨q.k1.path.toArray⟩] #[.int .i64 x.a0, .int .i64 x.a1, .int .i64 x.k0.kind, .int .i64 x.k0.len, .int .u64 x.k0.h, .int .u64 x.k0.l, .string ⟨x.k0.path.toArray⟩, .int .i64 x.k1.kind, .int .i64 x.k1.len, .int .u64 x.k1.h, .int .u64 x.k1.l, .string ⟨x.k1.path.toArray⟩] 26 33 33 33
  (try clear g0 g1 g2 g3 g4 g5 g6); obtain ⟨g0, g1, g2, g3, g4, g5, g6⟩ := row7 Rg
  (try clear d0 d1 d2 d3 d4 d5 d6 d7 d8 d9 d10 d11); obtain ⟨d0, d1, d2, d3, d4, d5, d6, d7, d8, d9, d10, d11⟩ := row12 Rd
  (try clear e0 e1 e2 e3 e4 e5 e6 e7 e8 e9 e10 e11); obtain ⟨e0, e1, e2, e3, e4, e5, e6, e7, e8, e9, e10, e11⟩ := row12 Re
  (try clear f0 f1 f2 f3 f4 f5 f6 f7 f8 f9 f10 f11); obtain ⟨f0, f1, f2, f3, f4, f5, f6, f7, f8, f9, f10, f11⟩ := row12 Rf
  go_enter Try.func8, Try.ntmps8
  go_wp2_with fail
  refine (H1 _).mono ?_
  rintro e w1 ⟨rfl, hb⟩
  replace Rg := Rg.later hb
  replace Rd := Rd.later hb
  replace Re := Re.later hb
  replace Rf := Rf.later hb
  replace hb0 := below_step hb0 hb
  clear hb
  have lg := Rg.lt
  have ld := Rd.lt
  have le := Re.lt
  have lf := Rf.lt
  (try clear g0 g1 g2 g3 g4 g5 g6); obtain ⟨g0, g1, g2, g3, g4, g5, g6⟩ := row7 Rg
  (try clear d0 d1 d2 d3 d4 d5 d6 d7 d8 d9 d10 d11); obtain ⟨d0, d1, d2, d3, d4, d5, d6, d7, d8, d9, d10, d11⟩ := row12 Rd
  (try clear e0 e1 e2 e3 e4 e5 e6 e7 e8 e9 e10 e11); obtain ⟨e0, e1, e2, e3, e4, e5, e6, e7, e8, e9, e10, e11⟩ := row12 Re
  (try clear f0 f1 f2 f3 f4 f5 f6 f7 f8 f9 f10 f11); obtain ⟨f0, f1, f2, f3, f4, f5, f6, f7, f8, f9, f10, f11⟩ := row12 Rf
  go_wp2_with fail
  refine (H2 _).mono ?_
  rintro e w2 ⟨rfl, hb⟩
  have nmg := Rg.lt
  have nmd := Rd.lt
  have nme := Re.lt
  have nmf := Rf.lt
  replace Rg := (Rg.alloc _).later hb
  replace Rd := (Rd.alloc _).later hb
  replace Re := (Re.alloc _).later hb
  replace Rf := (Rf.alloc _).later hb
  have Rm := Row.later (Row.new _ _ _) hb
  have mm := hb0.size
  replace hb0 := below_step (hb0.alloc hb0.size _) hb
  clear hb
  generalize w1.heap.size = gm at *
  have lg := Rg.lt
  have ld := Rd.lt
  have le := Re.lt
  have lf := Rf.lt
  have lm := Rm.lt
  (try clear g0 g1 g2 g3 g4 g5 g6); obtain ⟨g0, g1, g2, g3, g4, g5, g6⟩ := row7 Rg
  (try clear d0 d1 d2 d3 d4 d5 d6 d7 d8 d9 d10 d11); obtain ⟨d0, d1, d2, d3, d4, d5, d6, d7, d8, d9, d10, d11⟩ := row12 Rd
  (try clear e0 e1 e2 e3 e4 e5 e6 e7 e8 e9 e10 e11); obtain ⟨e0, e1, e2, e3, e4, e5, e6, e7, e8, e9, e10, e11⟩ := row12 Re
  (try clear f0 f1 f2 f3 f4 f5 f6 f7 f8 f9 f10 f11); obtain ⟨f0, f1, f2, f3, f4, f5, f6, f7, f8, f9, f10, f11⟩ := row12 Rf
  (try clear m0 m1 m2 m3 m4 m5 m6 m7 m8 m9 m10 m11); obtain ⟨m0, m1, m2, m3, m4, m5, m6, m7, m8, m9, m10, m11⟩ := row12 Rm
  go_wp2_with fail
  refine (H3 _).mono ?_
  rintro e w3 ⟨rfl, hb⟩
  have nng := Rg.lt
  have nnd := Rd.lt
  have nne := Re.lt
  have nnf := Rf.lt
  have nnm := Rm.lt
  replace Rg := (Rg.alloc _).later hb
  replace Rd := (Rd.alloc _).later hb
  replace Re := (Re.alloc _).later hb
  replace Rf := (Rf.alloc _).later hb
  replace Rm := (Rm.alloc _).later hb
  have Rn := Row.later (Row.new _ _ _) hb
  have mn := hb0.size
  replace hb0 := below_step (hb0.alloc hb0.size _) hb
  clear hb
  generalize w2.heap.size = gn at *
  have lg := Rg.lt
  have ld := Rd.lt
  have le := Re.lt
  have lf := Rf.lt
  have lm := Rm.lt
  have ln := Rn.lt
  (try clear g0 g1 g2 g3 g4 g5 g6); obtain ⟨g0, g1, g2, g3, g4, g5, g6⟩ := row7 Rg
  (try clear d0 d1 d2 d3 d4 d5 d6 d7 d8 d9 d10 d11); obtain ⟨d0, d1, d2, d3, d4, d5, d6, d7, d8, d9, d10, d11⟩ := row12 Rd
  (try clear e0 e1 e2 e3 e4 e5 e6 e7 e8 e9 e10 e11); obtain ⟨e0, e1, e2, e3, e4, e5, e6, e7, e8, e9, e10, e11⟩ := row12 Re
  (try clear f0 f1 f2 f3 f4 f5 f6 f7 f8 f9 f10 f11); obtain ⟨f0, f1, f2, f3, f4, f5, f6, f7, f8, f9, f10, f11⟩ := row12 Rf
  (try clear m0 m1 m2 m3 m4 m5 m6 m7 m8 m9 m10 m11); obtain ⟨m0, m1, m2, m3, m4, m5, m6, m7, m8, m9, m10, m11⟩ := row12 Rm
  (try clear n0 n1 n2 n3 n4 n5 n6 n7 n8 n9 n10 n11); obtain ⟨n0, n1, n2, n3, n4, n5, n6, n7, n8, n9, n10, n11⟩ := row12 Rn
  go_wp2_with fail
  refine (HA _).mono ?_
  rintro e w4 ⟨rfl, hb⟩
  replace Rg := Rg.later hb
  replace Rd := Rd.later hb
  replace Re := Re.later hb
  replace Rf := Rf.later hb
  replace Rm := Rm.later hb
  replace Rn := Rn.later hb
  replace hb0 := below_step hb0 hb
  clear hb
  have lg := Rg.lt
  have ld := Rd.lt
  have le := Re.lt
  have lf := Rf.lt
  have lm := Rm.lt
  have ln := Rn.lt
  (try clear g0 g1 g2 g3 g4 g5 g6); obtain ⟨g0, g1, g2, g3, g4, g5, g6⟩ := row7 Rg
  (try clear d0 d1 d2 d3 d4 d5 d6 d7 d8 d9 d10 d11); obtain ⟨d0, d1, d2, d3, d4, d5, d6, d7, d8, d9, d10, d11⟩ := row12 Rd
  (try clear e0 e1 e2 e3 e4 e5 e6 e7 e8 e9 e10 e11); obtain ⟨e0, e1, e2, e3, e4, e5, e6, e7, e8, e9, e10, e11⟩ := row12 Re
  (try clear f0 f1 f2 f3 f4 f5 f6 f7 f8 f9 f10 f11); obtain ⟨f0, f1, f2, f3, f4, f5, f6, f7, f8, f9, f10, f11⟩ := row12 Rf
  (try clear m0 m1 m2 m3 m4 m5 m6 m7 m8 m9 m10 m11); obtain ⟨m0, m1, m2, m3, m4, m5, m6, m7, m8, m9, m10, m11⟩ := row12 Rm
  (try clear n0 n1 n2 n3 n4 n5 n6 n7 n8 n9 n10 n11); obtain ⟨n0, n1, n2, n3, n4, n5, n6, n7, n8, n9, n10, n11⟩ := row12 Rn
  clear n0 n1 n2 n3 n4 n5 n6 n7 n8 n9 n10 n11
  go_wp2_with fail
  refine (H5 _).mono ?_
  rintro e w5 ⟨rfl, hb⟩
  replace Rg := Rg.later hb
  replace Rd := Rd.later hb
  replace Re := Re.later hb
  replace Rf := Rf.later hb
  replace Rm := Rm.later hb
  replace Rn := Rn.later hb
  replace hb0 := below_step hb0 hb
  clear hb
  have lg := Rg.lt
  have ld := Rd.lt
  have le := Re.lt
  have lf := Rf.lt
  have lm := Rm.lt
  have ln := Rn.lt
  (try clear g0 g1 g2 g3 g4 g5 g6); obtain ⟨g0, g1, g2, g3, g4, g5, g6⟩ := row7 Rg
  (try clear d0 d1 d2 d3 d4 d5 d6 d7 d8 d9 d10 d11); obtain ⟨d0, d1, d2, d3, d4, d5, d6, d7, d8, d9, d10, d11⟩ := row12 Rd
  (try clear e0 e1 e2 e3 e4 e5 e6 e7 e8 e9 e10 e11); obtain ⟨e0, e1, e2, e3, e4, e5, e6, e7, e8, e9, e10, e11⟩ := row12 Re
  (try clear f0 f1 f2 f3 f4 f5 f6 f7 f8 f9 f10 f11); obtain ⟨f0, f1, f2, f3, f4, f5, f6, f7, f8, f9, f10, f11⟩ := row12 Rf
  (try clear m0 m1 m2 m3 m4 m5 m6 m7 m8 m9 m10 m11); obtain ⟨m0, m1, m2, m3, m4, m5, m6, m7, m8, m9, m10, m11⟩ := row12 Rm
  go_wp2_with fail
  refine (H6 _).mono ?_
  rintro e w6 ⟨rfl, hb⟩
  replace Rg := Rg.later hb
  replace Rd := Rd.later hb
  replace Re := Re.later hb
  replace Rf := Rf.later hb
  replace Rm := Rm.later hb
  replace Rn := Rn.later hb
  replace hb0 := below_step hb0 hb
  clear hb
  have lg := Rg.lt
  have ld := Rd.lt
  have le := Re.lt
  have lf := Rf.lt
  have lm := Rm.lt
  have ln := Rn.lt
  (try clear g0 g1 g2 g3 g4 g5 g6); obtain ⟨g0, g1, g2, g3, g4, g5, g6⟩ := row7 Rg
  (try clear d0 d1 d2 d3 d4 d5 d6 d7 d8 d9 d10 d11); obtain ⟨d0, d1, d2, d3, d4, d5, d6, d7, d8, d9, d10, d11⟩ := row12 Rd
  (try clear e0 e1 e2 e3 e4 e5 e6 e7 e8 e9 e10 e11); obtain ⟨e0, e1, e2, e3, e4, e5, e6, e7, e8, e9, e10, e11⟩ := row12 Re
  (try clear f0 f1 f2 f3 f4 f5 f6 f7 f8 f9 f10 f11); obtain ⟨f0, f1, f2, f3, f4, f5, f6, f7, f8, f9, f10, f11⟩ := row12 Rf
  (try clear m0 m1 m2 m3 m4 m5 m6 m7 m8 m9 m10 m11); obtain ⟨m0, m1, m2, m3, m4, m5, m6, m7, m8, m9, m10, m11⟩ := row12 Rm
  go_wp2_with fail
  refine (H7 _).mono ?_
  rintro e w7 ⟨rfl, hb⟩
  replace Rg := Rg.later hb
  replace Rd := Rd.later hb
  replace Re := Re.later hb
  replace Rf := Rf.later hb
  replace Rm := Rm.later hb
  replace Rn := Rn.later hb
  replace hb0 := below_step hb0 hb
  clear hb
  have lg := Rg.lt
  have ld := Rd.lt
  have le := Re.lt
  have lf := Rf.lt
  have lm := Rm.lt
  have ln := Rn.lt
  (try clear g0 g1 g2 g3 g4 g5 g6); obtain ⟨g0, g1, g2, g3, g4, g5, g6⟩ := row7 Rg
  (try clear d0 d1 d2 d3 d4 d5 d6 d7 d8 d9 d10 d11); obtain ⟨d0, d1, d2, d3, d4, d5, d6, d7, d8, d9, d10, d11⟩ := row12 Rd
  (try clear e0 e1 e2 e3 e4 e5 e6 e7 e8 e9 e10 e11); obtain ⟨e0, e1, e2, e3, e4, e5, e6, e7, e8, e9, e10, e11⟩ := row12 Re
  (try clear f0 f1 f2 f3 f4 f5 f6 f7 f8 f9 f10 f11); obtain ⟨f0, f1, f2, f3, f4, f5, f6, f7, f8, f9, f10, f11⟩ := row12 Rf
  (try clear m0 m1 m2 m3 m4 m5 m6 m7 m8 m9 m10 m11); obtain ⟨m0, m1, m2, m3, m4, m5, m6, m7, m8, m9, m10, m11⟩ := row12 Rm
  go_wp2
  go_ret
  exact ⟨rfl, hb0⟩
set_option maxRecDepth 100000 in
set_option maxHeartbeats 32000000 in
theorem meets_d (s : Sp) (p q x c : Px)
    (H1 : ∀ w, Calls Try.prog 30 #[sv s, pv p, pv q] w fun e w' => e = .returned (.tuple #[pv c, .bool true]) ∧ Below w.heap.size w w')
    (H2 : ∀ w, Calls Try.prog 30 #[sv s, pv q, pv p] w fun e w' => e = .returned (.tuple #[pv c, .bool true]) ∧ Below w.heap.size w w')
    (H3 : ∀ w, Calls Try.prog 28 #[sv s, pv p, pv x] w fun e w' => e = .returned (.bool true) ∧ Below w.heap.size w w')
    (H4 : ∀ w, Calls Try.prog 28 #[sv s, pv q, pv x] w fun e w' => e = .returned (.bool false) ∧ Below w.heap.size w w')
    (H5 : ∀ w, Calls Try.prog 28 #[sv s, pv p, pv c] w fun e w' => e = .returned (.bool true) ∧ Below w.heap.size w w')
    (H6 : ∀ w, Calls Try.prog 28 #[sv s, pv q, pv c] w fun e w' => e = .returned (.bool true) ∧ Below w.heap.size w w')
    (H7 : ∀ w, Calls Try.prog 28 #[sv s, pv c, pv x] w fun e w' => e = .returned (.bool false) ∧ Below w.heap.size w w') (w : World) :
    Calls Try.prog 8 #[sv s, pv p, pv q, pv x] w fun e w' => e = .returned (.bool true) ∧ Below w.heap.size w w' := by
  have HA := alive9_t
  have qn := neq_px c c
  have qe := eql_px pz pz
  rw [decide_eq_true rfl] at qn qe
  unfold pz kz at *
  unfold sv pv at *
  obtain ⟨Rg, Rd, Re, Rf, hb0⟩ := four_rows w #[.int .i64 s.n, .int .i64 s.d0.kind, .int .i64 s.d0.side, .int .i64 s.d0.step, .int .i64 s.d1.kind, .int .i64 s.d1.side, .int .i64 s.d1.step] #[.int .i64 p.a0, .int .i64 p.a1, .int .i64 p.k0.kind, .int .i64 p.k0.len, .int .u64 p.k0.h, .int .u64 p.k0.l, .string ⟨p.k0.path.toArray⟩, .int .i64 p.k1.kind, .int .i64 p.k1.len, .int .u64 p.k1.h, .int .u64 p.k1.l, .string ⟨p.k1.path.toArray⟩] #[.int .i64 q.a0, .int .i64 q.a1, .int .i64 q.k0.kind, .int .i64 q.k0.len, .int .u64 q.k0.h, .int .u64 q.k0.l, .string ⟨q.k0.path.toArray⟩, .int .i64 q.k1.kind, .int .i64 q.k1.len, .int .u64 q.k1.h, .int .u64 q.k1.l, .string ⟨q.k1.path.toArray⟩] #[.int .i64 x.a0, .int .i64 x.a1, .int .i64 x.k0.kind, .int .i64 x.k0.len, .int .u64 x.k0.h, .int .u64 x.k0.l, .string ⟨x.k0.path.toArray⟩, .int .i64 x.k1.kind, .int .i64 x.k1.len, .int .u64 x.k1.h, .int .u64 x.k1.l, .string ⟨x.k1.path.toArray⟩] 26 33 33 33
  (try clear g0 g1 g2 g3 g4 g5 g6); obtain ⟨g0, g1, g2, g3, g4, g5, g6⟩ := row7 Rg
  (try clear d0 d1 d2 d3 d4 d5 d6 d7 d8 d9 d10 d11); obtain ⟨d0, d1, d2, d3, d4, d5, d6, d7, d8, d9, d10, d11⟩ := row12 Rd
  (try clear e0 e1 e2 e3 e4 e5 e6 e7 e8 e9 e10 e11); obtain ⟨e0, e1, e2, e3, e4, e5, e6, e7, e8, e9, e10, e11⟩ := row12 Re
  (try clear f0 f1 f2 f3 f4 f5 f6 f7 f8 f9 f10 f11); obtain ⟨f0, f1, f2, f3, f4, f5, f6, f7, f8, f9, f10, f11⟩ := row12 Rf
  go_enter Try.func8, Try.ntmps8
  go_wp2_with fail
  refine (H1 _).mono ?_
  rintro e w1 ⟨rfl, hb⟩
  replace Rg := Rg.later hb
  replace Rd := Rd.later hb
  replace Re := Re.later hb
  replace Rf := Rf.later hb
  replace hb0 := below_step hb0 hb
  clear hb
  have lg := Rg.lt
  have ld := Rd.lt
  have le := Re.lt
  have lf := Rf.lt
  (try clear g0 g1 g2 g3 g4 g5 g6); obtain ⟨g0, g1, g2, g3, g4, g5, g6⟩ := row7 Rg
  (try clear d0 d1 d2 d3 d4 d5 d6 d7 d8 d9 d10 d11); obtain ⟨d0, d1, d2, d3, d4, d5, d6, d7, d8, d9, d10, d11⟩ := row12 Rd
  (try clear e0 e1 e2 e3 e4 e5 e6 e7 e8 e9 e10 e11); obtain ⟨e0, e1, e2, e3, e4, e5, e6, e7, e8, e9, e10, e11⟩ := row12 Re
  (try clear f0 f1 f2 f3 f4 f5 f6 f7 f8 f9 f10 f11); obtain ⟨f0, f1, f2, f3, f4, f5, f6, f7, f8, f9, f10, f11⟩ := row12 Rf
  go_wp2_with fail
  refine (H2 _).mono ?_
  rintro e w2 ⟨rfl, hb⟩
  have nmg := Rg.lt
  have nmd := Rd.lt
  have nme := Re.lt
  have nmf := Rf.lt
  replace Rg := (Rg.alloc _).later hb
  replace Rd := (Rd.alloc _).later hb
  replace Re := (Re.alloc _).later hb
  replace Rf := (Rf.alloc _).later hb
  have Rm := Row.later (Row.new _ _ _) hb
  have mm := hb0.size
  replace hb0 := below_step (hb0.alloc hb0.size _) hb
  clear hb
  generalize w1.heap.size = gm at *
  have lg := Rg.lt
  have ld := Rd.lt
  have le := Re.lt
  have lf := Rf.lt
  have lm := Rm.lt
  (try clear g0 g1 g2 g3 g4 g5 g6); obtain ⟨g0, g1, g2, g3, g4, g5, g6⟩ := row7 Rg
  (try clear d0 d1 d2 d3 d4 d5 d6 d7 d8 d9 d10 d11); obtain ⟨d0, d1, d2, d3, d4, d5, d6, d7, d8, d9, d10, d11⟩ := row12 Rd
  (try clear e0 e1 e2 e3 e4 e5 e6 e7 e8 e9 e10 e11); obtain ⟨e0, e1, e2, e3, e4, e5, e6, e7, e8, e9, e10, e11⟩ := row12 Re
  (try clear f0 f1 f2 f3 f4 f5 f6 f7 f8 f9 f10 f11); obtain ⟨f0, f1, f2, f3, f4, f5, f6, f7, f8, f9, f10, f11⟩ := row12 Rf
  (try clear m0 m1 m2 m3 m4 m5 m6 m7 m8 m9 m10 m11); obtain ⟨m0, m1, m2, m3, m4, m5, m6, m7, m8, m9, m10, m11⟩ := row12 Rm
  go_wp2_with fail
  refine (H3 _).mono ?_
  rintro e w3 ⟨rfl, hb⟩
  have nng := Rg.lt
  have nnd := Rd.lt
  have nne := Re.lt
  have nnf := Rf.lt
  have nnm := Rm.lt
  replace Rg := (Rg.alloc _).later hb
  replace Rd := (Rd.alloc _).later hb
  replace Re := (Re.alloc _).later hb
  replace Rf := (Rf.alloc _).later hb
  replace Rm := (Rm.alloc _).later hb
  have Rn := Row.later (Row.new _ _ _) hb
  have mn := hb0.size
  replace hb0 := below_step (hb0.alloc hb0.size _) hb
  clear hb
  generalize w2.heap.size = gn at *
  have lg := Rg.lt
  have ld := Rd.lt
  have le := Re.lt
  have lf := Rf.lt
  have lm := Rm.lt
  have ln := Rn.lt
  (try clear g0 g1 g2 g3 g4 g5 g6); obtain ⟨g0, g1, g2, g3, g4, g5, g6⟩ := row7 Rg
  (try clear d0 d1 d2 d3 d4 d5 d6 d7 d8 d9 d10 d11); obtain ⟨d0, d1, d2, d3, d4, d5, d6, d7, d8, d9, d10, d11⟩ := row12 Rd
  (try clear e0 e1 e2 e3 e4 e5 e6 e7 e8 e9 e10 e11); obtain ⟨e0, e1, e2, e3, e4, e5, e6, e7, e8, e9, e10, e11⟩ := row12 Re
  (try clear f0 f1 f2 f3 f4 f5 f6 f7 f8 f9 f10 f11); obtain ⟨f0, f1, f2, f3, f4, f5, f6, f7, f8, f9, f10, f11⟩ := row12 Rf
  (try clear m0 m1 m2 m3 m4 m5 m6 m7 m8 m9 m10 m11); obtain ⟨m0, m1, m2, m3, m4, m5, m6, m7, m8, m9, m10, m11⟩ := row12 Rm
  (try clear n0 n1 n2 n3 n4 n5 n6 n7 n8 n9 n10 n11); obtain ⟨n0, n1, n2, n3, n4, n5, n6, n7, n8, n9, n10, n11⟩ := row12 Rn
  go_wp2_with fail
  refine (H4 _).mono ?_
  rintro e w4 ⟨rfl, hb⟩
  replace Rg := Rg.later hb
  replace Rd := Rd.later hb
  replace Re := Re.later hb
  replace Rf := Rf.later hb
  replace Rm := Rm.later hb
  replace Rn := Rn.later hb
  replace hb0 := below_step hb0 hb
  clear hb
  have lg := Rg.lt
  have ld := Rd.lt
  have le := Re.lt
  have lf := Rf.lt
  have lm := Rm.lt
  have ln := Rn.lt
  (try clear g0 g1 g2 g3 g4 g5 g6); obtain ⟨g0, g1, g2, g3, g4, g5, g6⟩ := row7 Rg
  (try clear d0 d1 d2 d3 d4 d5 d6 d7 d8 d9 d10 d11); obtain ⟨d0, d1, d2, d3, d4, d5, d6, d7, d8, d9, d10, d11⟩ := row12 Rd
  (try clear e0 e1 e2 e3 e4 e5 e6 e7 e8 e9 e10 e11); obtain ⟨e0, e1, e2, e3, e4, e5, e6, e7, e8, e9, e10, e11⟩ := row12 Re
  (try clear f0 f1 f2 f3 f4 f5 f6 f7 f8 f9 f10 f11); obtain ⟨f0, f1, f2, f3, f4, f5, f6, f7, f8, f9, f10, f11⟩ := row12 Rf
  (try clear m0 m1 m2 m3 m4 m5 m6 m7 m8 m9 m10 m11); obtain ⟨m0, m1, m2, m3, m4, m5, m6, m7, m8, m9, m10, m11⟩ := row12 Rm
  (try clear n0 n1 n2 n3 n4 n5 n6 n7 n8 n9 n10 n11); obtain ⟨n0, n1, n2, n3, n4, n5, n6, n7, n8, n9, n10, n11⟩ := row12 Rn
  go_wp2_with fail
  refine (HA _).mono ?_
  rintro e w5 ⟨rfl, hb⟩
  replace Rg := Rg.later hb
  replace Rd := Rd.later hb
  replace Re := Re.later hb
  replace Rf := Rf.later hb
  replace Rm := Rm.later hb
  replace Rn := Rn.later hb
  replace hb0 := below_step hb0 hb
  clear hb
  have lg := Rg.lt
  have ld := Rd.lt
  have le := Re.lt
  have lf := Rf.lt
  have lm := Rm.lt
  have ln := Rn.lt
  (try clear g0 g1 g2 g3 g4 g5 g6); obtain ⟨g0, g1, g2, g3, g4, g5, g6⟩ := row7 Rg
  (try clear d0 d1 d2 d3 d4 d5 d6 d7 d8 d9 d10 d11); obtain ⟨d0, d1, d2, d3, d4, d5, d6, d7, d8, d9, d10, d11⟩ := row12 Rd
  (try clear e0 e1 e2 e3 e4 e5 e6 e7 e8 e9 e10 e11); obtain ⟨e0, e1, e2, e3, e4, e5, e6, e7, e8, e9, e10, e11⟩ := row12 Re
  (try clear f0 f1 f2 f3 f4 f5 f6 f7 f8 f9 f10 f11); obtain ⟨f0, f1, f2, f3, f4, f5, f6, f7, f8, f9, f10, f11⟩ := row12 Rf
  (try clear m0 m1 m2 m3 m4 m5 m6 m7 m8 m9 m10 m11); obtain ⟨m0, m1, m2, m3, m4, m5, m6, m7, m8, m9, m10, m11⟩ := row12 Rm
  (try clear n0 n1 n2 n3 n4 n5 n6 n7 n8 n9 n10 n11); obtain ⟨n0, n1, n2, n3, n4, n5, n6, n7, n8, n9, n10, n11⟩ := row12 Rn
  clear n0 n1 n2 n3 n4 n5 n6 n7 n8 n9 n10 n11
  go_wp2_with fail
  refine (H5 _).mono ?_
  rintro e w6 ⟨rfl, hb⟩
  replace Rg := Rg.later hb
  replace Rd := Rd.later hb
  replace Re := Re.later hb
  replace Rf := Rf.later hb
  replace Rm := Rm.later hb
  replace Rn := Rn.later hb
  replace hb0 := below_step hb0 hb
  clear hb
  have lg := Rg.lt
  have ld := Rd.lt
  have le := Re.lt
  have lf := Rf.lt
  have lm := Rm.lt
  have ln := Rn.lt
  (try clear g0 g1 g2 g3 g4 g5 g6); obtain ⟨g0, g1, g2, g3, g4, g5, g6⟩ := row7 Rg
  (try clear d0 d1 d2 d3 d4 d5 d6 d7 d8 d9 d10 d11); obtain ⟨d0, d1, d2, d3, d4, d5, d6, d7, d8, d9, d10, d11⟩ := row12 Rd
  (try clear e0 e1 e2 e3 e4 e5 e6 e7 e8 e9 e10 e11); obtain ⟨e0, e1, e2, e3, e4, e5, e6, e7, e8, e9, e10, e11⟩ := row12 Re
  (try clear f0 f1 f2 f3 f4 f5 f6 f7 f8 f9 f10 f11); obtain ⟨f0, f1, f2, f3, f4, f5, f6, f7, f8, f9, f10, f11⟩ := row12 Rf
  (try clear m0 m1 m2 m3 m4 m5 m6 m7 m8 m9 m10 m11); obtain ⟨m0, m1, m2, m3, m4, m5, m6, m7, m8, m9, m10, m11⟩ := row12 Rm
  go_wp2_with fail
  refine (H6 _).mono ?_
  rintro e w7 ⟨rfl, hb⟩
  replace Rg := Rg.later hb
  replace Rd := Rd.later hb
  replace Re := Re.later hb
  replace Rf := Rf.later hb
  replace Rm := Rm.later hb
  replace Rn := Rn.later hb
  replace hb0 := below_step hb0 hb
  clear hb
  have lg := Rg.lt
  have ld := Rd.lt
  have le := Re.lt
  have lf := Rf.lt
  have lm := Rm.lt
  have ln := Rn.lt
  (try clear g0 g1 g2 g3 g4 g5 g6); obtain ⟨g0, g1, g2, g3, g4, g5, g6⟩ := row7 Rg
  (try clear d0 d1 d2 d3 d4 d5 d6 d7 d8 d9 d10 d11); obtain ⟨d0, d1, d2, d3, d4, d5, d6, d7, d8, d9, d10, d11⟩ := row12 Rd
  (try clear e0 e1 e2 e3 e4 e5 e6 e7 e8 e9 e10 e11); obtain ⟨e0, e1, e2, e3, e4, e5, e6, e7, e8, e9, e10, e11⟩ := row12 Re
  (try clear f0 f1 f2 f3 f4 f5 f6 f7 f8 f9 f10 f11); obtain ⟨f0, f1, f2, f3, f4, f5, f6, f7, f8, f9, f10, f11⟩ := row12 Rf
  (try clear m0 m1 m2 m3 m4 m5 m6 m7 m8 m9 m10 m11); obtain ⟨m0, m1, m2, m3, m4, m5, m6, m7, m8, m9, m10, m11⟩ := row12 Rm
  go_wp2_with fail
  refine (H7 _).mono ?_
  rintro e w8 ⟨rfl, hb⟩
  replace Rg := Rg.later hb
  replace Rd := Rd.later hb
  replace Re := Re.later hb
  replace Rf := Rf.later hb
  replace Rm := Rm.later hb
  replace Rn := Rn.later hb
  replace hb0 := below_step hb0 hb
  clear hb
  have lg := Rg.lt
  have ld := Rd.lt
  have le := Re.lt
  have lf := Rf.lt
  have lm := Rm.lt
  have ln := Rn.lt
  (try clear g0 g1 g2 g3 g4 g5 g6); obtain ⟨g0, g1, g2, g3, g4, g5, g6⟩ := row7 Rg
  (try clear d0 d1 d2 d3 d4 d5 d6 d7 d8 d9 d10 d11); obtain ⟨d0, d1, d2, d3, d4, d5, d6, d7, d8, d9, d10, d11⟩ := row12 Rd
  (try clear e0 e1 e2 e3 e4 e5 e6 e7 e8 e9 e10 e11); obtain ⟨e0, e1, e2, e3, e4, e5, e6, e7, e8, e9, e10, e11⟩ := row12 Re
  (try clear f0 f1 f2 f3 f4 f5 f6 f7 f8 f9 f10 f11); obtain ⟨f0, f1, f2, f3, f4, f5, f6, f7, f8, f9, f10, f11⟩ := row12 Rf
  (try clear m0 m1 m2 m3 m4 m5 m6 m7 m8 m9 m10 m11); obtain ⟨m0, m1, m2, m3, m4, m5, m6, m7, m8, m9, m10, m11⟩ := row12 Rm
  go_wp2
  go_ret
  exact ⟨rfl, hb0⟩
set_option maxRecDepth 100000 in
set_option maxHeartbeats 32000000 in
theorem meets_e (s : Sp) (p q x c : Px)
    (H1 : ∀ w, Calls Try.prog 30 #[sv s, pv p, pv q] w fun e w' => e = .returned (.tuple #[pv c, .bool true]) ∧ Below w.heap.size w w')
    (H2 : ∀ w, Calls Try.prog 30 #[sv s, pv q, pv p] w fun e w' => e = .returned (.tuple #[pv c, .bool true]) ∧ Below w.heap.size w w')
    (H3 : ∀ w, Calls Try.prog 28 #[sv s, pv p, pv x] w fun e w' => e = .returned (.bool true) ∧ Below w.heap.size w w')
    (H4 : ∀ w, Calls Try.prog 28 #[sv s, pv q, pv x] w fun e w' => e = .returned (.bool true) ∧ Below w.heap.size w w')
    (H5 : ∀ w, Calls Try.prog 28 #[sv s, pv p, pv c] w fun e w' => e = .returned (.bool true) ∧ Below w.heap.size w w')
    (H6 : ∀ w, Calls Try.prog 28 #[sv s, pv q, pv c] w fun e w' => e = .returned (.bool true) ∧ Below w.heap.size w w')
    (H7 : ∀ w, Calls Try.prog 28 #[sv s, pv c, pv x] w fun e w' => e = .returned (.bool true) ∧ Below w.heap.size w w') (w : World) :
    Calls Try.prog 8 #[sv s, pv p, pv q, pv x] w fun e w' => e = .returned (.bool true) ∧ Below w.heap.size w w' := by
  have HA := alive9_t
  have qn := neq_px c c
  have qe := eql_px pz pz
  rw [decide_eq_true rfl] at qn qe
  unfold pz kz at *
  unfold sv pv at *
  obtain ⟨Rg, Rd, Re, Rf, hb0⟩ := four_rows w #[.int .i64 s.n, .int .i64 s.d0.kind, .int .i64 s.d0.side, .int .i64 s.d0.step, .int .i64 s.d1.kind, .int .i64 s.d1.side, .int .i64 s.d1.step] #[.int .i64 p.a0, .int .i64 p.a1, .int .i64 p.k0.kind, .int .i64 p.k0.len, .int .u64 p.k0.h, .int .u64 p.k0.l, .string ⟨p.k0.path.toArray⟩, .int .i64 p.k1.kind, .int .i64 p.k1.len, .int .u64 p.k1.h, .int .u64 p.k1.l, .string ⟨p.k1.path.toArray⟩] #[.int .i64 q.a0, .int .i64 q.a1, .int .i64 q.k0.kind, .int .i64 q.k0.len, .int .u64 q.k0.h, .int .u64 q.k0.l, .string ⟨q.k0.path.toArray⟩, .int .i64 q.k1.kind, .int .i64 q.k1.len, .int .u64 q.k1.h, .int .u64 q.k1.l, .string ⟨q.k1.path.toArray⟩] #[.int .i64 x.a0, .int .i64 x.a1, .int .i64 x.k0.kind, .int .i64 x.k0.len, .int .u64 x.k0.h, .int .u64 x.k0.l, .string ⟨x.k0.path.toArray⟩, .int .i64 x.k1.kind, .int .i64 x.k1.len, .int .u64 x.k1.h, .int .u64 x.k1.l, .string ⟨x.k1.path.toArray⟩] 26 33 33 33
  (try clear g0 g1 g2 g3 g4 g5 g6); obtain ⟨g0, g1, g2, g3, g4, g5, g6⟩ := row7 Rg
  (try clear d0 d1 d2 d3 d4 d5 d6 d7 d8 d9 d10 d11); obtain ⟨d0, d1, d2, d3, d4, d5, d6, d7, d8, d9, d10, d11⟩ := row12 Rd
  (try clear e0 e1 e2 e3 e4 e5 e6 e7 e8 e9 e10 e11); obtain ⟨e0, e1, e2, e3, e4, e5, e6, e7, e8, e9, e10, e11⟩ := row12 Re
  (try clear f0 f1 f2 f3 f4 f5 f6 f7 f8 f9 f10 f11); obtain ⟨f0, f1, f2, f3, f4, f5, f6, f7, f8, f9, f10, f11⟩ := row12 Rf
  go_enter Try.func8, Try.ntmps8
  go_wp2_with fail
  refine (H1 _).mono ?_
  rintro e w1 ⟨rfl, hb⟩
  replace Rg := Rg.later hb
  replace Rd := Rd.later hb
  replace Re := Re.later hb
  replace Rf := Rf.later hb
  replace hb0 := below_step hb0 hb
  clear hb
  have lg := Rg.lt
  have ld := Rd.lt
  have le := Re.lt
  have lf := Rf.lt
  (try clear g0 g1 g2 g3 g4 g5 g6); obtain ⟨g0, g1, g2, g3, g4, g5, g6⟩ := row7 Rg
  (try clear d0 d1 d2 d3 d4 d5 d6 d7 d8 d9 d10 d11); obtain ⟨d0, d1, d2, d3, d4, d5, d6, d7, d8, d9, d10, d11⟩ := row12 Rd
  (try clear e0 e1 e2 e3 e4 e5 e6 e7 e8 e9 e10 e11); obtain ⟨e0, e1, e2, e3, e4, e5, e6, e7, e8, e9, e10, e11⟩ := row12 Re
  (try clear f0 f1 f2 f3 f4 f5 f6 f7 f8 f9 f10 f11); obtain ⟨f0, f1, f2, f3, f4, f5, f6, f7, f8, f9, f10, f11⟩ := row12 Rf
  go_wp2_with fail
  refine (H2 _).mono ?_
  rintro e w2 ⟨rfl, hb⟩
  have nmg := Rg.lt
  have nmd := Rd.lt
  have nme := Re.lt
  have nmf := Rf.lt
  replace Rg := (Rg.alloc _).later hb
  replace Rd := (Rd.alloc _).later hb
  replace Re := (Re.alloc _).later hb
  replace Rf := (Rf.alloc _).later hb
  have Rm := Row.later (Row.new _ _ _) hb
  have mm := hb0.size
  replace hb0 := below_step (hb0.alloc hb0.size _) hb
  clear hb
  generalize w1.heap.size = gm at *
  have lg := Rg.lt
  have ld := Rd.lt
  have le := Re.lt
  have lf := Rf.lt
  have lm := Rm.lt
  (try clear g0 g1 g2 g3 g4 g5 g6); obtain ⟨g0, g1, g2, g3, g4, g5, g6⟩ := row7 Rg
  (try clear d0 d1 d2 d3 d4 d5 d6 d7 d8 d9 d10 d11); obtain ⟨d0, d1, d2, d3, d4, d5, d6, d7, d8, d9, d10, d11⟩ := row12 Rd
  (try clear e0 e1 e2 e3 e4 e5 e6 e7 e8 e9 e10 e11); obtain ⟨e0, e1, e2, e3, e4, e5, e6, e7, e8, e9, e10, e11⟩ := row12 Re
  (try clear f0 f1 f2 f3 f4 f5 f6 f7 f8 f9 f10 f11); obtain ⟨f0, f1, f2, f3, f4, f5, f6, f7, f8, f9, f10, f11⟩ := row12 Rf
  (try clear m0 m1 m2 m3 m4 m5 m6 m7 m8 m9 m10 m11); obtain ⟨m0, m1, m2, m3, m4, m5, m6, m7, m8, m9, m10, m11⟩ := row12 Rm
  go_wp2_with fail
  refine (H3 _).mono ?_
  rintro e w3 ⟨rfl, hb⟩
  have nng := Rg.lt
  have nnd := Rd.lt
  have nne := Re.lt
  have nnf := Rf.lt
  have nnm := Rm.lt
  replace Rg := (Rg.alloc _).later hb
  replace Rd := (Rd.alloc _).later hb
  replace Re := (Re.alloc _).later hb
  replace Rf := (Rf.alloc _).later hb
  replace Rm := (Rm.alloc _).later hb
  have Rn := Row.later (Row.new _ _ _) hb
  have mn := hb0.size
  replace hb0 := below_step (hb0.alloc hb0.size _) hb
  clear hb
  generalize w2.heap.size = gn at *
  have lg := Rg.lt
  have ld := Rd.lt
  have le := Re.lt
  have lf := Rf.lt
  have lm := Rm.lt
  have ln := Rn.lt
  (try clear g0 g1 g2 g3 g4 g5 g6); obtain ⟨g0, g1, g2, g3, g4, g5, g6⟩ := row7 Rg
  (try clear d0 d1 d2 d3 d4 d5 d6 d7 d8 d9 d10 d11); obtain ⟨d0, d1, d2, d3, d4, d5, d6, d7, d8, d9, d10, d11⟩ := row12 Rd
  (try clear e0 e1 e2 e3 e4 e5 e6 e7 e8 e9 e10 e11); obtain ⟨e0, e1, e2, e3, e4, e5, e6, e7, e8, e9, e10, e11⟩ := row12 Re
  (try clear f0 f1 f2 f3 f4 f5 f6 f7 f8 f9 f10 f11); obtain ⟨f0, f1, f2, f3, f4, f5, f6, f7, f8, f9, f10, f11⟩ := row12 Rf
  (try clear m0 m1 m2 m3 m4 m5 m6 m7 m8 m9 m10 m11); obtain ⟨m0, m1, m2, m3, m4, m5, m6, m7, m8, m9, m10, m11⟩ := row12 Rm
  (try clear n0 n1 n2 n3 n4 n5 n6 n7 n8 n9 n10 n11); obtain ⟨n0, n1, n2, n3, n4, n5, n6, n7, n8, n9, n10, n11⟩ := row12 Rn
  go_wp2_with fail
  refine (H4 _).mono ?_
  rintro e w4 ⟨rfl, hb⟩
  replace Rg := Rg.later hb
  replace Rd := Rd.later hb
  replace Re := Re.later hb
  replace Rf := Rf.later hb
  replace Rm := Rm.later hb
  replace Rn := Rn.later hb
  replace hb0 := below_step hb0 hb
  clear hb
  have lg := Rg.lt
  have ld := Rd.lt
  have le := Re.lt
  have lf := Rf.lt
  have lm := Rm.lt
  have ln := Rn.lt
  (try clear g0 g1 g2 g3 g4 g5 g6); obtain ⟨g0, g1, g2, g3, g4, g5, g6⟩ := row7 Rg
  (try clear d0 d1 d2 d3 d4 d5 d6 d7 d8 d9 d10 d11); obtain ⟨d0, d1, d2, d3, d4, d5, d6, d7, d8, d9, d10, d11⟩ := row12 Rd
  (try clear e0 e1 e2 e3 e4 e5 e6 e7 e8 e9 e10 e11); obtain ⟨e0, e1, e2, e3, e4, e5, e6, e7, e8, e9, e10, e11⟩ := row12 Re
  (try clear f0 f1 f2 f3 f4 f5 f6 f7 f8 f9 f10 f11); obtain ⟨f0, f1, f2, f3, f4, f5, f6, f7, f8, f9, f10, f11⟩ := row12 Rf
  (try clear m0 m1 m2 m3 m4 m5 m6 m7 m8 m9 m10 m11); obtain ⟨m0, m1, m2, m3, m4, m5, m6, m7, m8, m9, m10, m11⟩ := row12 Rm
  (try clear n0 n1 n2 n3 n4 n5 n6 n7 n8 n9 n10 n11); obtain ⟨n0, n1, n2, n3, n4, n5, n6, n7, n8, n9, n10, n11⟩ := row12 Rn
  go_wp2_with fail
  refine (HA _).mono ?_
  rintro e w5 ⟨rfl, hb⟩
  replace Rg := Rg.later hb
  replace Rd := Rd.later hb
  replace Re := Re.later hb
  replace Rf := Rf.later hb
  replace Rm := Rm.later hb
  replace Rn := Rn.later hb
  replace hb0 := below_step hb0 hb
  clear hb
  have lg := Rg.lt
  have ld := Rd.lt
  have le := Re.lt
  have lf := Rf.lt
  have lm := Rm.lt
  have ln := Rn.lt
  (try clear g0 g1 g2 g3 g4 g5 g6); obtain ⟨g0, g1, g2, g3, g4, g5, g6⟩ := row7 Rg
  (try clear d0 d1 d2 d3 d4 d5 d6 d7 d8 d9 d10 d11); obtain ⟨d0, d1, d2, d3, d4, d5, d6, d7, d8, d9, d10, d11⟩ := row12 Rd
  (try clear e0 e1 e2 e3 e4 e5 e6 e7 e8 e9 e10 e11); obtain ⟨e0, e1, e2, e3, e4, e5, e6, e7, e8, e9, e10, e11⟩ := row12 Re
  (try clear f0 f1 f2 f3 f4 f5 f6 f7 f8 f9 f10 f11); obtain ⟨f0, f1, f2, f3, f4, f5, f6, f7, f8, f9, f10, f11⟩ := row12 Rf
  (try clear m0 m1 m2 m3 m4 m5 m6 m7 m8 m9 m10 m11); obtain ⟨m0, m1, m2, m3, m4, m5, m6, m7, m8, m9, m10, m11⟩ := row12 Rm
  (try clear n0 n1 n2 n3 n4 n5 n6 n7 n8 n9 n10 n11); obtain ⟨n0, n1, n2, n3, n4, n5, n6, n7, n8, n9, n10, n11⟩ := row12 Rn
  clear n0 n1 n2 n3 n4 n5 n6 n7 n8 n9 n10 n11
  go_wp2_with fail
  refine (H5 _).mono ?_
  rintro e w6 ⟨rfl, hb⟩
  replace Rg := Rg.later hb
  replace Rd := Rd.later hb
  replace Re := Re.later hb
  replace Rf := Rf.later hb
  replace Rm := Rm.later hb
  replace Rn := Rn.later hb
  replace hb0 := below_step hb0 hb
  clear hb
  have lg := Rg.lt
  have ld := Rd.lt
  have le := Re.lt
  have lf := Rf.lt
  have lm := Rm.lt
  have ln := Rn.lt
  (try clear g0 g1 g2 g3 g4 g5 g6); obtain ⟨g0, g1, g2, g3, g4, g5, g6⟩ := row7 Rg
  (try clear d0 d1 d2 d3 d4 d5 d6 d7 d8 d9 d10 d11); obtain ⟨d0, d1, d2, d3, d4, d5, d6, d7, d8, d9, d10, d11⟩ := row12 Rd
  (try clear e0 e1 e2 e3 e4 e5 e6 e7 e8 e9 e10 e11); obtain ⟨e0, e1, e2, e3, e4, e5, e6, e7, e8, e9, e10, e11⟩ := row12 Re
  (try clear f0 f1 f2 f3 f4 f5 f6 f7 f8 f9 f10 f11); obtain ⟨f0, f1, f2, f3, f4, f5, f6, f7, f8, f9, f10, f11⟩ := row12 Rf
  (try clear m0 m1 m2 m3 m4 m5 m6 m7 m8 m9 m10 m11); obtain ⟨m0, m1, m2, m3, m4, m5, m6, m7, m8, m9, m10, m11⟩ := row12 Rm
  go_wp2_with fail
  refine (H6 _).mono ?_
  rintro e w7 ⟨rfl, hb⟩
  replace Rg := Rg.later hb
  replace Rd := Rd.later hb
  replace Re := Re.later hb
  replace Rf := Rf.later hb
  replace Rm := Rm.later hb
  replace Rn := Rn.later hb
  replace hb0 := below_step hb0 hb
  clear hb
  have lg := Rg.lt
  have ld := Rd.lt
  have le := Re.lt
  have lf := Rf.lt
  have lm := Rm.lt
  have ln := Rn.lt
  (try clear g0 g1 g2 g3 g4 g5 g6); obtain ⟨g0, g1, g2, g3, g4, g5, g6⟩ := row7 Rg
  (try clear d0 d1 d2 d3 d4 d5 d6 d7 d8 d9 d10 d11); obtain ⟨d0, d1, d2, d3, d4, d5, d6, d7, d8, d9, d10, d11⟩ := row12 Rd
  (try clear e0 e1 e2 e3 e4 e5 e6 e7 e8 e9 e10 e11); obtain ⟨e0, e1, e2, e3, e4, e5, e6, e7, e8, e9, e10, e11⟩ := row12 Re
  (try clear f0 f1 f2 f3 f4 f5 f6 f7 f8 f9 f10 f11); obtain ⟨f0, f1, f2, f3, f4, f5, f6, f7, f8, f9, f10, f11⟩ := row12 Rf
  (try clear m0 m1 m2 m3 m4 m5 m6 m7 m8 m9 m10 m11); obtain ⟨m0, m1, m2, m3, m4, m5, m6, m7, m8, m9, m10, m11⟩ := row12 Rm
  go_wp2_with fail
  refine (H7 _).mono ?_
  rintro e w8 ⟨rfl, hb⟩
  replace Rg := Rg.later hb
  replace Rd := Rd.later hb
  replace Re := Re.later hb
  replace Rf := Rf.later hb
  replace Rm := Rm.later hb
  replace Rn := Rn.later hb
  replace hb0 := below_step hb0 hb
  clear hb
  have lg := Rg.lt
  have ld := Rd.lt
  have le := Re.lt
  have lf := Rf.lt
  have lm := Rm.lt
  have ln := Rn.lt
  (try clear g0 g1 g2 g3 g4 g5 g6); obtain ⟨g0, g1, g2, g3, g4, g5, g6⟩ := row7 Rg
  (try clear d0 d1 d2 d3 d4 d5 d6 d7 d8 d9 d10 d11); obtain ⟨d0, d1, d2, d3, d4, d5, d6, d7, d8, d9, d10, d11⟩ := row12 Rd
  (try clear e0 e1 e2 e3 e4 e5 e6 e7 e8 e9 e10 e11); obtain ⟨e0, e1, e2, e3, e4, e5, e6, e7, e8, e9, e10, e11⟩ := row12 Re
  (try clear f0 f1 f2 f3 f4 f5 f6 f7 f8 f9 f10 f11); obtain ⟨f0, f1, f2, f3, f4, f5, f6, f7, f8, f9, f10, f11⟩ := row12 Rf
  (try clear m0 m1 m2 m3 m4 m5 m6 m7 m8 m9 m10 m11); obtain ⟨m0, m1, m2, m3, m4, m5, m6, m7, m8, m9, m10, m11⟩ := row12 Rm
  go_wp2
  go_ret
  exact ⟨rfl, hb0⟩
theorem meets_any9 (s : Sp) (p q x : Px) (op : p.ok) (oq : q.ok) (ox : x.ok) (w : World) : Calls Try.prog 8 #[sv s, pv p, pv q, pv x] w fun e w' => e = .returned (.bool true) ∧ Below w.heap.size w w' := by
  have H1 := cross9_t s p q op oq
  have H2 := cross9_t s q p oq op
  have H3 := over9_t s p x op ox
  have H4 := over9_t s q x oq ox
  have oc := px_lower_ok op oq
  have H5 := over9_t s p (crossX p q) op oc
  have H6 := over9_t s q (crossX p q) oq oc
  have H7 := over9_t s (crossX p q) x oc ox
  rw [← crossB_swap s p q, ← crossP_swap s p q] at H2
  have hm := @cross_meets s p q
  have hb := @cross_both s p q x
  cases hc : crossB s p q with
  | false =>
    rw [hc] at H1 H2
    rw [show crossP s p q = pz by unfold crossP; rw [hc]; rfl] at H1 H2
    cases h1 : overP s p x with
    | false => rw [h1] at H3; exact meets_a s p q x pz H1 H2 H3 w
    | true =>
      cases h2 : overP s q x with
      | false => rw [h1] at H3; rw [h2] at H4; exact meets_b s p q x pz H1 H2 H3 H4 w
      | true => have := (hb h1 h2).1; rw [hc] at this; cases this
  | true =>
    obtain ⟨e, e1, e2, e3⟩ := hm hc x
    rw [hc, e] at H1 H2
    rw [e1] at H5
    rw [e2] at H6
    rw [← e3] at H7
    generalize crossX p q = c at *
    cases h1 : overP s p x with
    | false => rw [h1] at H3 H7; exact meets_c s p q x c H1 H2 H3 H5 H6 H7 w
    | true =>
      cases h2 : overP s q x with
      | false => rw [h1] at H3 H7; rw [h2] at H4 H7; exact meets_d s p q x c H1 H2 H3 H4 H5 H6 H7 w
      | true => rw [h1] at H3 H7; rw [h2] at H4 H7; exact meets_e s p q x c H1 H2 H3 H4 H5 H6 H7 w
end Go.Proofs.Ytbekocknfpekoaa
