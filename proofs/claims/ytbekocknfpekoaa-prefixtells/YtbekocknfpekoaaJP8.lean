/- P8, KR9, KR10, KR11, KP3, KR12, P10, P4: what the theorem needs of these texts. No conditions beyond those that are written. -/
import Derived.Test.YtbekocknfpekoaaJF0
import Derived.Test.YtbekocknfpekoaaP3
import Derived.LoopN
import Derived.Test.YtbekocknfpekoaaJD2
namespace Go.Proofs.Ytbekocknfpekoaa
set_option linter.unusedVariables false
set_option linter.unusedSimpArgs false
open Go.RowKit
set_option maxRecDepth 100000 in
set_option maxHeartbeats 16000000 in
theorem pcmp_go (p q : Px) (m0 m1 m2 m3 : Int) (HC0 : ∀ w, Calls Try.prog 63 #[.int .i64 p.a0, .int .i64 q.a0] w fun e w' => e = .returned (.int .i64 m0) ∧ Below w.heap.size w w') (HC1 : ∀ w, Calls Try.prog 63 #[.int .i64 p.a1, .int .i64 q.a1] w fun e w' => e = .returned (.int .i64 m1) ∧ Below w.heap.size w w')
    (HC2 : ∀ w, Calls Try.prog 64 #[kv p.k0, kv q.k0] w fun e w' => e = .returned (.int .i64 m2) ∧ Below w.heap.size w w') (HC3 : ∀ w, Calls Try.prog 64 #[kv p.k1, kv q.k1] w fun e w' => e = .returned (.int .i64 m3) ∧ Below w.heap.size w w') (w : World) :
    Calls Try.prog 32 #[pv p, pv q] w fun e w' => e = .returned (.int .i64 (if m0 ≠ 0 then m0 else if m1 ≠ 0 then m1 else if m2 ≠ 0 then m2 else if m3 ≠ 0 then m3 else 0)) ∧ Below w.heap.size w w' := by
  have i0 := ixa0
  have i1 := ixa1
  have j0 := ixk0
  have j1 := ixk1
  unfold pv kv at *
  obtain ⟨Rc, Rd, hb0⟩ := two_rows w #[.int .i64 p.a0, .int .i64 p.a1, .int .i64 p.k0.kind, .int .i64 p.k0.len, .int .u64 p.k0.h, .int .u64 p.k0.l, .string ⟨p.k0.path.toArray⟩, .int .i64 p.k1.kind, .int .i64 p.k1.len, .int .u64 p.k1.h, .int .u64 p.k1.l, .string ⟨p.k1.path.toArray⟩] #[.int .i64 q.a0, .int .i64 q.a1, .int .i64 q.k0.kind, .int .i64 q.k0.len, .int .u64 q.k0.h, .int .u64 q.k0.l, .string ⟨q.k0.path.toArray⟩, .int .i64 q.k1.kind, .int .i64 q.k1.len, .int .u64 q.k1.h, .int .u64 q.k1.l, .string ⟨q.k1.path.toArray⟩] 33 33
  (try clear c0 c1 c2 c3 c4 c5 c6 c7 c8 c9 c10 c11); obtain ⟨c0, c1, c2, c3, c4, c5, c6, c7, c8, c9, c10, c11⟩ := row12 Rc
  (try clear d0 d1 d2 d3 d4 d5 d6 d7 d8 d9 d10 d11); obtain ⟨d0, d1, d2, d3, d4, d5, d6, d7, d8, d9, d10, d11⟩ := row12 Rd
  by_cases h0 : m0 ≠ 0
  · rw [if_pos h0]
    have n0 : (m0 != 0) = true := by simpa using h0
    go_enter Try.func32, Try.ntmps32
    go_wp2_with fail
    refine wp_loop_rounds 3 ?_
    rw [rounds_succ]
    go_wp2_with fail
    refine (HC0 _).mono ?_
    rintro e w1 ⟨rfl, hb⟩
    replace Rc := Rc.later hb
    replace Rd := Rd.later hb
    replace hb0 := below_step hb0 hb
    clear hb
    have lc := Rc.lt
    have ld := Rd.lt
    (try clear c0 c1 c2 c3 c4 c5 c6 c7 c8 c9 c10 c11); obtain ⟨c0, c1, c2, c3, c4, c5, c6, c7, c8, c9, c10, c11⟩ := row12 Rc
    (try clear d0 d1 d2 d3 d4 d5 d6 d7 d8 d9 d10 d11); obtain ⟨d0, d1, d2, d3, d4, d5, d6, d7, d8, d9, d10, d11⟩ := row12 Rd
    go_wp2
    go_ret
    exact ⟨rfl, hb0⟩
  rw [if_neg h0]
  obtain rfl : m0 = 0 := by simpa using h0
  by_cases h1 : m1 ≠ 0
  · rw [if_pos h1]
    have n1 : (m1 != 0) = true := by simpa using h1
    go_enter Try.func32, Try.ntmps32
    go_wp2_with fail
    refine wp_loop_rounds 3 ?_
    rw [rounds_succ]
    go_wp2_with fail
    refine (HC0 _).mono ?_
    rintro e w1 ⟨rfl, hb⟩
    replace Rc := Rc.later hb
    replace Rd := Rd.later hb
    replace hb0 := below_step hb0 hb
    clear hb
    have lc := Rc.lt
    have ld := Rd.lt
    (try clear c0 c1 c2 c3 c4 c5 c6 c7 c8 c9 c10 c11); obtain ⟨c0, c1, c2, c3, c4, c5, c6, c7, c8, c9, c10, c11⟩ := row12 Rc
    (try clear d0 d1 d2 d3 d4 d5 d6 d7 d8 d9 d10 d11); obtain ⟨d0, d1, d2, d3, d4, d5, d6, d7, d8, d9, d10, d11⟩ := row12 Rd
    go_wp2_with fail
    rw [rounds_succ]
    go_wp2_with fail
    refine (HC1 _).mono ?_
    rintro e w2 ⟨rfl, hb⟩
    replace Rc := Rc.later hb
    replace Rd := Rd.later hb
    replace hb0 := below_step hb0 hb
    clear hb
    have lc := Rc.lt
    have ld := Rd.lt
    (try clear c0 c1 c2 c3 c4 c5 c6 c7 c8 c9 c10 c11); obtain ⟨c0, c1, c2, c3, c4, c5, c6, c7, c8, c9, c10, c11⟩ := row12 Rc
    (try clear d0 d1 d2 d3 d4 d5 d6 d7 d8 d9 d10 d11); obtain ⟨d0, d1, d2, d3, d4, d5, d6, d7, d8, d9, d10, d11⟩ := row12 Rd
    go_wp2
    go_ret
    exact ⟨rfl, hb0⟩
  rw [if_neg h1]
  obtain rfl : m1 = 0 := by simpa using h1
  by_cases h2 : m2 ≠ 0
  · rw [if_pos h2]
    have n2 : (m2 != 0) = true := by simpa using h2
    go_enter Try.func32, Try.ntmps32
    go_wp2_with fail
    refine wp_loop_rounds 3 ?_
    rw [rounds_succ]
    go_wp2_with fail
    refine (HC0 _).mono ?_
    rintro e w1 ⟨rfl, hb⟩
    replace Rc := Rc.later hb
    replace Rd := Rd.later hb
    replace hb0 := below_step hb0 hb
    clear hb
    have lc := Rc.lt
    have ld := Rd.lt
    (try clear c0 c1 c2 c3 c4 c5 c6 c7 c8 c9 c10 c11); obtain ⟨c0, c1, c2, c3, c4, c5, c6, c7, c8, c9, c10, c11⟩ := row12 Rc
    (try clear d0 d1 d2 d3 d4 d5 d6 d7 d8 d9 d10 d11); obtain ⟨d0, d1, d2, d3, d4, d5, d6, d7, d8, d9, d10, d11⟩ := row12 Rd
    go_wp2_with fail
    rw [rounds_succ]
    go_wp2_with fail
    refine (HC1 _).mono ?_
    rintro e w2 ⟨rfl, hb⟩
    replace Rc := Rc.later hb
    replace Rd := Rd.later hb
    replace hb0 := below_step hb0 hb
    clear hb
    have lc := Rc.lt
    have ld := Rd.lt
    (try clear c0 c1 c2 c3 c4 c5 c6 c7 c8 c9 c10 c11); obtain ⟨c0, c1, c2, c3, c4, c5, c6, c7, c8, c9, c10, c11⟩ := row12 Rc
    (try clear d0 d1 d2 d3 d4 d5 d6 d7 d8 d9 d10 d11); obtain ⟨d0, d1, d2, d3, d4, d5, d6, d7, d8, d9, d10, d11⟩ := row12 Rd
    go_wp2_with fail
    rw [rounds_succ]
    go_wp2_with fail
    refine wp_loop_rounds 3 ?_
    rw [rounds_succ]
    go_wp2_with fail
    replace Rc := Rc.alloc (.cells #[Value.int .i64 p.k0.kind, Value.int .i64 p.k0.len, Value.int .u64 p.k0.h, Value.int .u64 p.k0.l, Value.string ⟨p.k0.path.toArray⟩] 30)
    replace Rd := Rd.alloc (.cells #[Value.int .i64 p.k0.kind, Value.int .i64 p.k0.len, Value.int .u64 p.k0.h, Value.int .u64 p.k0.l, Value.string ⟨p.k0.path.toArray⟩] 30)
    have Rf0x := Row.new w2 #[Value.int .i64 p.k0.kind, Value.int .i64 p.k0.len, Value.int .u64 p.k0.h, Value.int .u64 p.k0.l, Value.string ⟨p.k0.path.toArray⟩] 30
    have mf0x := hb0.size
    replace hb0 := hb0.alloc hb0.size (.cells #[Value.int .i64 p.k0.kind, Value.int .i64 p.k0.len, Value.int .u64 p.k0.h, Value.int .u64 p.k0.l, Value.string ⟨p.k0.path.toArray⟩] 30)
    (try clear c0 c1 c2 c3 c4 c5 c6 c7 c8 c9 c10 c11); obtain ⟨c0, c1, c2, c3, c4, c5, c6, c7, c8, c9, c10, c11⟩ := row12 Rc
    (try clear d0 d1 d2 d3 d4 d5 d6 d7 d8 d9 d10 d11); obtain ⟨d0, d1, d2, d3, d4, d5, d6, d7, d8, d9, d10, d11⟩ := row12 Rd
    (try clear f0x0 f0x1 f0x2 f0x3 f0x4); obtain ⟨f0x0, f0x1, f0x2, f0x3, f0x4⟩ := row5 Rf0x
    refine wp_region_held_drew (S := (fun w' => w'.cell? ⟨w2.heap.size, 0, none⟩ = some (Value.int .i64 p.k0.kind) ∧ w'.cell? ⟨w2.heap.size, 1, none⟩ = some (Value.int .i64 p.k0.len) ∧ w'.cell? ⟨w2.heap.size, 2, none⟩ = some (Value.int .u64 p.k0.h) ∧ w'.cell? ⟨w2.heap.size, 3, none⟩ = some (Value.int .u64 p.k0.l) ∧ w'.cell? ⟨w2.heap.size, 4, none⟩ = some (Value.string ⟨p.k0.path.toArray⟩) ∧ w'.cell? ⟨w.heap.size + 1, 2, none⟩ = some (Value.int .i64 q.k0.kind) ∧ w'.cell? ⟨w.heap.size + 1, 3, none⟩ = some (Value.int .i64 q.k0.len) ∧ w'.cell? ⟨w.heap.size + 1, 4, none⟩ = some (Value.int .u64 q.k0.h) ∧ w'.cell? ⟨w.heap.size + 1, 5, none⟩ = some (Value.int .u64 q.k0.l) ∧ w'.cell? ⟨w.heap.size + 1, 6, none⟩ = some (Value.string ⟨q.k0.path.toArray⟩))) (by kernel_rfl) ?hSr52_ (fun hHeld => ?_)
    case hSr52_ => (exact ⟨f0x0, f0x1, f0x2, f0x3, f0x4, d2, d3, d4, d5, d6⟩)
    (clear c0 c1 c2 c3 c4 c5 c6 c7 c8 c9 c10 c11 d0 d1 d2 d3 d4 d5 d6 d7 d8 d9 d10 d11 f0x0 f0x1 f0x2 f0x3 f0x4; (replace Rc := Rc.drew); (replace Rd := Rd.drew); (replace Rf0x := Rf0x.drew); (replace hb0 := hb0.drew); (generalize World.drew (World.alloc w2 (.cells #[Value.int .i64 p.k0.kind, Value.int .i64 p.k0.len, Value.int .u64 p.k0.h, Value.int .u64 p.k0.l, Value.string ⟨p.k0.path.toArray⟩] 30)) = wq at *))
    refine tk 0 ⟨some 33, .load 30 (.tmp 9), 30, _, _, _⟩ hHeld ?_
    (try simp only [Act.put, nz1, nz2, nz3])
    refine tk 1 ⟨some 34, .move (.tmp 8), 3, _, _, _⟩ hHeld ?_
    (try simp only [Act.put, nz1, nz2, nz3])
    refine tk 2 ⟨some 35, .fieldAddr 33 (.tmp 3) 1, 0, _, _, _⟩ hHeld ?_
    (try simp only [Act.put, nz1, nz2, nz3])
    refine tk 3 ⟨some 36, .indexAddr 31 (.tmp 35) (.tmp 34), 0, _, _, _⟩ hHeld ?_
    (try simp only [Act.put, nz1, nz2, nz3])
    refine tk 4 ⟨some 37, .load 30 (.tmp 36), 30, _, _, _⟩ hHeld ?_
    (try simp only [Act.put, nz1, nz2, nz3])
    refine wpAnyH_ready (rs := [5]) (by kernel_rfl) (by simp) ?_
    refine AllReadyH.cons (o := ⟨some 38, .call { callee := .value (.func 64), args := #[.tmp 33, .tmp 37], argTypes := #[30, 30] }, 3, _, _, _⟩) rfl (fun K hK => ?_) AllReadyH.nil
    (go_simp; (refine (HC2 _).mono ?_); (rintro e wz ⟨rfl, hb⟩); (replace Rc := Rc.later hb); (replace Rd := Rd.later hb); (replace Rf0x := Rf0x.later hb); (replace hb0 := below_step hb0 hb); go_wp2_with fail)
    refine hK.out _ _ ?hSr52_6_5 (fun hHeld2 => ?_)
    case hSr52_6_5 => (obtain ⟨f0x0, f0x1, f0x2, f0x3, f0x4, d2, d3, d4, d5, d6⟩ := hHeld; exact ⟨cell_later hb f0x0, cell_later hb f0x1, cell_later hb f0x2, cell_later hb f0x3, cell_later hb f0x4, cell_later hb d2, cell_later hb d3, cell_later hb d4, cell_later hb d5, cell_later hb d6⟩)
    clear hK K hHeld
    have hHeld := hHeld2
    clear hHeld2
    rename World => wq
    (try simp only [Act.put, nz1, nz2, nz3])
    refine tk 6 ⟨some 10, .assign (.tmp 38), 3, _, _, _⟩ hHeld ?_
    (try simp only [Act.put, nz1, nz2, nz3])
    refine wpAnyH_done (by kernel_rfl) ?_ _
    clear hHeld
    rename World => w3
    have lc := Rc.lt
    have ld := Rd.lt
    have lf0x := Rf0x.lt
    (try clear c0 c1 c2 c3 c4 c5 c6 c7 c8 c9 c10 c11); obtain ⟨c0, c1, c2, c3, c4, c5, c6, c7, c8, c9, c10, c11⟩ := row12 Rc
    (try clear d0 d1 d2 d3 d4 d5 d6 d7 d8 d9 d10 d11); obtain ⟨d0, d1, d2, d3, d4, d5, d6, d7, d8, d9, d10, d11⟩ := row12 Rd
    (try clear f0x0 f0x1 f0x2 f0x3 f0x4); obtain ⟨f0x0, f0x1, f0x2, f0x3, f0x4⟩ := row5 Rf0x
    go_wp2
    go_ret
    exact ⟨rfl, hb0⟩
  rw [if_neg h2]
  obtain rfl : m2 = 0 := by simpa using h2
  by_cases h3 : m3 ≠ 0
  · rw [if_pos h3]
    have n3 : (m3 != 0) = true := by simpa using h3
    go_enter Try.func32, Try.ntmps32
    go_wp2_with fail
    refine wp_loop_rounds 3 ?_
    rw [rounds_succ]
    go_wp2_with fail
    refine (HC0 _).mono ?_
    rintro e w1 ⟨rfl, hb⟩
    replace Rc := Rc.later hb
    replace Rd := Rd.later hb
    replace hb0 := below_step hb0 hb
    clear hb
    have lc := Rc.lt
    have ld := Rd.lt
    (try clear c0 c1 c2 c3 c4 c5 c6 c7 c8 c9 c10 c11); obtain ⟨c0, c1, c2, c3, c4, c5, c6, c7, c8, c9, c10, c11⟩ := row12 Rc
    (try clear d0 d1 d2 d3 d4 d5 d6 d7 d8 d9 d10 d11); obtain ⟨d0, d1, d2, d3, d4, d5, d6, d7, d8, d9, d10, d11⟩ := row12 Rd
    go_wp2_with fail
    rw [rounds_succ]
    go_wp2_with fail
    refine (HC1 _).mono ?_
    rintro e w2 ⟨rfl, hb⟩
    replace Rc := Rc.later hb
    replace Rd := Rd.later hb
    replace hb0 := below_step hb0 hb
    clear hb
    have lc := Rc.lt
    have ld := Rd.lt
    (try clear c0 c1 c2 c3 c4 c5 c6 c7 c8 c9 c10 c11); obtain ⟨c0, c1, c2, c3, c4, c5, c6, c7, c8, c9, c10, c11⟩ := row12 Rc
    (try clear d0 d1 d2 d3 d4 d5 d6 d7 d8 d9 d10 d11); obtain ⟨d0, d1, d2, d3, d4, d5, d6, d7, d8, d9, d10, d11⟩ := row12 Rd
    go_wp2_with fail
    rw [rounds_succ]
    go_wp2_with fail
    refine wp_loop_rounds 3 ?_
    rw [rounds_succ]
    go_wp2_with fail
    replace Rc := Rc.alloc (.cells #[Value.int .i64 p.k0.kind, Value.int .i64 p.k0.len, Value.int .u64 p.k0.h, Value.int .u64 p.k0.l, Value.string ⟨p.k0.path.toArray⟩] 30)
    replace Rd := Rd.alloc (.cells #[Value.int .i64 p.k0.kind, Value.int .i64 p.k0.len, Value.int .u64 p.k0.h, Value.int .u64 p.k0.l, Value.string ⟨p.k0.path.toArray⟩] 30)
    have Rf0x := Row.new w2 #[Value.int .i64 p.k0.kind, Value.int .i64 p.k0.len, Value.int .u64 p.k0.h, Value.int .u64 p.k0.l, Value.string ⟨p.k0.path.toArray⟩] 30
    have mf0x := hb0.size
    replace hb0 := hb0.alloc hb0.size (.cells #[Value.int .i64 p.k0.kind, Value.int .i64 p.k0.len, Value.int .u64 p.k0.h, Value.int .u64 p.k0.l, Value.string ⟨p.k0.path.toArray⟩] 30)
    (try clear c0 c1 c2 c3 c4 c5 c6 c7 c8 c9 c10 c11); obtain ⟨c0, c1, c2, c3, c4, c5, c6, c7, c8, c9, c10, c11⟩ := row12 Rc
    (try clear d0 d1 d2 d3 d4 d5 d6 d7 d8 d9 d10 d11); obtain ⟨d0, d1, d2, d3, d4, d5, d6, d7, d8, d9, d10, d11⟩ := row12 Rd
    (try clear f0x0 f0x1 f0x2 f0x3 f0x4); obtain ⟨f0x0, f0x1, f0x2, f0x3, f0x4⟩ := row5 Rf0x
    refine wp_region_held_drew (S := (fun w' => w'.cell? ⟨w2.heap.size, 0, none⟩ = some (Value.int .i64 p.k0.kind) ∧ w'.cell? ⟨w2.heap.size, 1, none⟩ = some (Value.int .i64 p.k0.len) ∧ w'.cell? ⟨w2.heap.size, 2, none⟩ = some (Value.int .u64 p.k0.h) ∧ w'.cell? ⟨w2.heap.size, 3, none⟩ = some (Value.int .u64 p.k0.l) ∧ w'.cell? ⟨w2.heap.size, 4, none⟩ = some (Value.string ⟨p.k0.path.toArray⟩) ∧ w'.cell? ⟨w.heap.size + 1, 2, none⟩ = some (Value.int .i64 q.k0.kind) ∧ w'.cell? ⟨w.heap.size + 1, 3, none⟩ = some (Value.int .i64 q.k0.len) ∧ w'.cell? ⟨w.heap.size + 1, 4, none⟩ = some (Value.int .u64 q.k0.h) ∧ w'.cell? ⟨w.heap.size + 1, 5, none⟩ = some (Value.int .u64 q.k0.l) ∧ w'.cell? ⟨w.heap.size + 1, 6, none⟩ = some (Value.string ⟨q.k0.path.toArray⟩))) (by kernel_rfl) ?hSr53_ (fun hHeld => ?_)
    case hSr53_ => (exact ⟨f0x0, f0x1, f0x2, f0x3, f0x4, d2, d3, d4, d5, d6⟩)
    (clear c0 c1 c2 c3 c4 c5 c6 c7 c8 c9 c10 c11 d0 d1 d2 d3 d4 d5 d6 d7 d8 d9 d10 d11 f0x0 f0x1 f0x2 f0x3 f0x4; (replace Rc := Rc.drew); (replace Rd := Rd.drew); (replace Rf0x := Rf0x.drew); (replace hb0 := hb0.drew); (generalize World.drew (World.alloc w2 (.cells #[Value.int .i64 p.k0.kind, Value.int .i64 p.k0.len, Value.int .u64 p.k0.h, Value.int .u64 p.k0.l, Value.string ⟨p.k0.path.toArray⟩] 30)) = wq at *))
    refine tk 0 ⟨some 33, .load 30 (.tmp 9), 30, _, _, _⟩ hHeld ?_
    (try simp only [Act.put, nz1, nz2, nz3])
    refine tk 1 ⟨some 34, .move (.tmp 8), 3, _, _, _⟩ hHeld ?_
    (try simp only [Act.put, nz1, nz2, nz3])
    refine tk 2 ⟨some 35, .fieldAddr 33 (.tmp 3) 1, 0, _, _, _⟩ hHeld ?_
    (try simp only [Act.put, nz1, nz2, nz3])
    refine tk 3 ⟨some 36, .indexAddr 31 (.tmp 35) (.tmp 34), 0, _, _, _⟩ hHeld ?_
    (try simp only [Act.put, nz1, nz2, nz3])
    refine tk 4 ⟨some 37, .load 30 (.tmp 36), 30, _, _, _⟩ hHeld ?_
    (try simp only [Act.put, nz1, nz2, nz3])
    refine wpAnyH_ready (rs := [5]) (by kernel_rfl) (by simp) ?_
    refine AllReadyH.cons (o := ⟨some 38, .call { callee := .value (.func 64), args := #[.tmp 33, .tmp 37], argTypes := #[30, 30] }, 3, _, _, _⟩) rfl (fun K hK => ?_) AllReadyH.nil
    (go_simp; (refine (HC2 _).mono ?_); (rintro e wz ⟨rfl, hb⟩); (replace Rc := Rc.later hb); (replace Rd := Rd.later hb); (replace Rf0x := Rf0x.later hb); (replace hb0 := below_step hb0 hb); go_wp2_with fail)
    refine hK.out _ _ ?hSr53_6_5 (fun hHeld2 => ?_)
    case hSr53_6_5 => (obtain ⟨f0x0, f0x1, f0x2, f0x3, f0x4, d2, d3, d4, d5, d6⟩ := hHeld; exact ⟨cell_later hb f0x0, cell_later hb f0x1, cell_later hb f0x2, cell_later hb f0x3, cell_later hb f0x4, cell_later hb d2, cell_later hb d3, cell_later hb d4, cell_later hb d5, cell_later hb d6⟩)
    clear hK K hHeld
    have hHeld := hHeld2
    clear hHeld2
    rename World => wq
    (try simp only [Act.put, nz1, nz2, nz3])
    refine tk 6 ⟨some 10, .assign (.tmp 38), 3, _, _, _⟩ hHeld ?_
    (try simp only [Act.put, nz1, nz2, nz3])
    refine wpAnyH_done (by kernel_rfl) ?_ _
    clear hHeld
    rename World => w3
    have lc := Rc.lt
    have ld := Rd.lt
    have lf0x := Rf0x.lt
    (try clear c0 c1 c2 c3 c4 c5 c6 c7 c8 c9 c10 c11); obtain ⟨c0, c1, c2, c3, c4, c5, c6, c7, c8, c9, c10, c11⟩ := row12 Rc
    (try clear d0 d1 d2 d3 d4 d5 d6 d7 d8 d9 d10 d11); obtain ⟨d0, d1, d2, d3, d4, d5, d6, d7, d8, d9, d10, d11⟩ := row12 Rd
    (try clear f0x0 f0x1 f0x2 f0x3 f0x4); obtain ⟨f0x0, f0x1, f0x2, f0x3, f0x4⟩ := row5 Rf0x
    go_wp2_with fail
    rw [rounds_succ]
    go_wp2_with fail
    replace Rc := Rc.alloc (.cells #[Value.int .i64 p.k1.kind, Value.int .i64 p.k1.len, Value.int .u64 p.k1.h, Value.int .u64 p.k1.l, Value.string ⟨p.k1.path.toArray⟩] 30)
    replace Rd := Rd.alloc (.cells #[Value.int .i64 p.k1.kind, Value.int .i64 p.k1.len, Value.int .u64 p.k1.h, Value.int .u64 p.k1.l, Value.string ⟨p.k1.path.toArray⟩] 30)
    replace Rf0x := Rf0x.alloc (.cells #[Value.int .i64 p.k1.kind, Value.int .i64 p.k1.len, Value.int .u64 p.k1.h, Value.int .u64 p.k1.l, Value.string ⟨p.k1.path.toArray⟩] 30)
    have Rf1x := Row.new w3 #[Value.int .i64 p.k1.kind, Value.int .i64 p.k1.len, Value.int .u64 p.k1.h, Value.int .u64 p.k1.l, Value.string ⟨p.k1.path.toArray⟩] 30
    have mf1x := hb0.size
    replace hb0 := hb0.alloc hb0.size (.cells #[Value.int .i64 p.k1.kind, Value.int .i64 p.k1.len, Value.int .u64 p.k1.h, Value.int .u64 p.k1.l, Value.string ⟨p.k1.path.toArray⟩] 30)
    (try clear c0 c1 c2 c3 c4 c5 c6 c7 c8 c9 c10 c11); obtain ⟨c0, c1, c2, c3, c4, c5, c6, c7, c8, c9, c10, c11⟩ := row12 Rc
    (try clear d0 d1 d2 d3 d4 d5 d6 d7 d8 d9 d10 d11); obtain ⟨d0, d1, d2, d3, d4, d5, d6, d7, d8, d9, d10, d11⟩ := row12 Rd
    (try clear f0x0 f0x1 f0x2 f0x3 f0x4); obtain ⟨f0x0, f0x1, f0x2, f0x3, f0x4⟩ := row5 Rf0x
    (try clear f1x0 f1x1 f1x2 f1x3 f1x4); obtain ⟨f1x0, f1x1, f1x2, f1x3, f1x4⟩ := row5 Rf1x
    refine wp_region_held_drew (S := (fun w' => w'.cell? ⟨w3.heap.size, 0, none⟩ = some (Value.int .i64 p.k1.kind) ∧ w'.cell? ⟨w3.heap.size, 1, none⟩ = some (Value.int .i64 p.k1.len) ∧ w'.cell? ⟨w3.heap.size, 2, none⟩ = some (Value.int .u64 p.k1.h) ∧ w'.cell? ⟨w3.heap.size, 3, none⟩ = some (Value.int .u64 p.k1.l) ∧ w'.cell? ⟨w3.heap.size, 4, none⟩ = some (Value.string ⟨p.k1.path.toArray⟩) ∧ w'.cell? ⟨w.heap.size + 1, 7, none⟩ = some (Value.int .i64 q.k1.kind) ∧ w'.cell? ⟨w.heap.size + 1, 8, none⟩ = some (Value.int .i64 q.k1.len) ∧ w'.cell? ⟨w.heap.size + 1, 9, none⟩ = some (Value.int .u64 q.k1.h) ∧ w'.cell? ⟨w.heap.size + 1, 10, none⟩ = some (Value.int .u64 q.k1.l) ∧ w'.cell? ⟨w.heap.size + 1, 11, none⟩ = some (Value.string ⟨q.k1.path.toArray⟩))) (by kernel_rfl) ?hSr54_ (fun hHeld => ?_)
    case hSr54_ => (exact ⟨f1x0, f1x1, f1x2, f1x3, f1x4, d7, d8, d9, d10, d11⟩)
    (clear c0 c1 c2 c3 c4 c5 c6 c7 c8 c9 c10 c11 d0 d1 d2 d3 d4 d5 d6 d7 d8 d9 d10 d11 f0x0 f0x1 f0x2 f0x3 f0x4 f1x0 f1x1 f1x2 f1x3 f1x4; (replace Rc := Rc.drew); (replace Rd := Rd.drew); (replace Rf0x := Rf0x.drew); (replace Rf1x := Rf1x.drew); (replace hb0 := hb0.drew); (generalize World.drew (World.alloc w3 (.cells #[Value.int .i64 p.k1.kind, Value.int .i64 p.k1.len, Value.int .u64 p.k1.h, Value.int .u64 p.k1.l, Value.string ⟨p.k1.path.toArray⟩] 30)) = wq at *))
    refine tk 0 ⟨some 33, .load 30 (.tmp 9), 30, _, _, _⟩ hHeld ?_
    (try simp only [Act.put, nz1, nz2, nz3])
    refine tk 1 ⟨some 34, .move (.tmp 8), 3, _, _, _⟩ hHeld ?_
    (try simp only [Act.put, nz1, nz2, nz3])
    refine tk 2 ⟨some 35, .fieldAddr 33 (.tmp 3) 1, 0, _, _, _⟩ hHeld ?_
    (try simp only [Act.put, nz1, nz2, nz3])
    refine tk 3 ⟨some 36, .indexAddr 31 (.tmp 35) (.tmp 34), 0, _, _, _⟩ hHeld ?_
    (try simp only [Act.put, nz1, nz2, nz3])
    refine tk 4 ⟨some 37, .load 30 (.tmp 36), 30, _, _, _⟩ hHeld ?_
    (try simp only [Act.put, nz1, nz2, nz3])
    refine wpAnyH_ready (rs := [5]) (by kernel_rfl) (by simp) ?_
    refine AllReadyH.cons (o := ⟨some 38, .call { callee := .value (.func 64), args := #[.tmp 33, .tmp 37], argTypes := #[30, 30] }, 3, _, _, _⟩) rfl (fun K hK => ?_) AllReadyH.nil
    (go_simp; (refine (HC3 _).mono ?_); (rintro e wz ⟨rfl, hb⟩); (replace Rc := Rc.later hb); (replace Rd := Rd.later hb); (replace Rf0x := Rf0x.later hb); (replace Rf1x := Rf1x.later hb); (replace hb0 := below_step hb0 hb); go_wp2_with fail)
    refine hK.out _ _ ?hSr54_6_5 (fun hHeld2 => ?_)
    case hSr54_6_5 => (obtain ⟨f1x0, f1x1, f1x2, f1x3, f1x4, d7, d8, d9, d10, d11⟩ := hHeld; exact ⟨cell_later hb f1x0, cell_later hb f1x1, cell_later hb f1x2, cell_later hb f1x3, cell_later hb f1x4, cell_later hb d7, cell_later hb d8, cell_later hb d9, cell_later hb d10, cell_later hb d11⟩)
    clear hK K hHeld
    have hHeld := hHeld2
    clear hHeld2
    rename World => wq
    (try simp only [Act.put, nz1, nz2, nz3])
    refine tk 6 ⟨some 10, .assign (.tmp 38), 3, _, _, _⟩ hHeld ?_
    (try simp only [Act.put, nz1, nz2, nz3])
    refine wpAnyH_done (by kernel_rfl) ?_ _
    clear hHeld
    rename World => w4
    have lc := Rc.lt
    have ld := Rd.lt
    have lf0x := Rf0x.lt
    have lf1x := Rf1x.lt
    (try clear c0 c1 c2 c3 c4 c5 c6 c7 c8 c9 c10 c11); obtain ⟨c0, c1, c2, c3, c4, c5, c6, c7, c8, c9, c10, c11⟩ := row12 Rc
    (try clear d0 d1 d2 d3 d4 d5 d6 d7 d8 d9 d10 d11); obtain ⟨d0, d1, d2, d3, d4, d5, d6, d7, d8, d9, d10, d11⟩ := row12 Rd
    (try clear f0x0 f0x1 f0x2 f0x3 f0x4); obtain ⟨f0x0, f0x1, f0x2, f0x3, f0x4⟩ := row5 Rf0x
    (try clear f1x0 f1x1 f1x2 f1x3 f1x4); obtain ⟨f1x0, f1x1, f1x2, f1x3, f1x4⟩ := row5 Rf1x
    go_wp2
    go_ret
    exact ⟨rfl, hb0⟩
  rw [if_neg h3]
  obtain rfl : m3 = 0 := by simpa using h3
  go_enter Try.func32, Try.ntmps32
  go_wp2_with fail
  refine wp_loop_rounds 3 ?_
  rw [rounds_succ]
  go_wp2_with fail
  refine (HC0 _).mono ?_
  rintro e w1 ⟨rfl, hb⟩
  replace Rc := Rc.later hb
  replace Rd := Rd.later hb
  replace hb0 := below_step hb0 hb
  clear hb
  have lc := Rc.lt
  have ld := Rd.lt
  (try clear c0 c1 c2 c3 c4 c5 c6 c7 c8 c9 c10 c11); obtain ⟨c0, c1, c2, c3, c4, c5, c6, c7, c8, c9, c10, c11⟩ := row12 Rc
  (try clear d0 d1 d2 d3 d4 d5 d6 d7 d8 d9 d10 d11); obtain ⟨d0, d1, d2, d3, d4, d5, d6, d7, d8, d9, d10, d11⟩ := row12 Rd
  go_wp2_with fail
  rw [rounds_succ]
  go_wp2_with fail
  refine (HC1 _).mono ?_
  rintro e w2 ⟨rfl, hb⟩
  replace Rc := Rc.later hb
  replace Rd := Rd.later hb
  replace hb0 := below_step hb0 hb
  clear hb
  have lc := Rc.lt
  have ld := Rd.lt
  (try clear c0 c1 c2 c3 c4 c5 c6 c7 c8 c9 c10 c11); obtain ⟨c0, c1, c2, c3, c4, c5, c6, c7, c8, c9, c10, c11⟩ := row12 Rc
  (try clear d0 d1 d2 d3 d4 d5 d6 d7 d8 d9 d10 d11); obtain ⟨d0, d1, d2, d3, d4, d5, d6, d7, d8, d9, d10, d11⟩ := row12 Rd
  go_wp2_with fail
  rw [rounds_succ]
  go_wp2_with fail
  refine wp_loop_rounds 3 ?_
  rw [rounds_succ]
  go_wp2_with fail
  replace Rc := Rc.alloc (.cells #[Value.int .i64 p.k0.kind, Value.int .i64 p.k0.len, Value.int .u64 p.k0.h, Value.int .u64 p.k0.l, Value.string ⟨p.k0.path.toArray⟩] 30)
  replace Rd := Rd.alloc (.cells #[Value.int .i64 p.k0.kind, Value.int .i64 p.k0.len, Value.int .u64 p.k0.h, Value.int .u64 p.k0.l, Value.string ⟨p.k0.path.toArray⟩] 30)
  have Rf0x := Row.new w2 #[Value.int .i64 p.k0.kind, Value.int .i64 p.k0.len, Value.int .u64 p.k0.h, Value.int .u64 p.k0.l, Value.string ⟨p.k0.path.toArray⟩] 30
  have mf0x := hb0.size
  replace hb0 := hb0.alloc hb0.size (.cells #[Value.int .i64 p.k0.kind, Value.int .i64 p.k0.len, Value.int .u64 p.k0.h, Value.int .u64 p.k0.l, Value.string ⟨p.k0.path.toArray⟩] 30)
  (try clear c0 c1 c2 c3 c4 c5 c6 c7 c8 c9 c10 c11); obtain ⟨c0, c1, c2, c3, c4, c5, c6, c7, c8, c9, c10, c11⟩ := row12 Rc
  (try clear d0 d1 d2 d3 d4 d5 d6 d7 d8 d9 d10 d11); obtain ⟨d0, d1, d2, d3, d4, d5, d6, d7, d8, d9, d10, d11⟩ := row12 Rd
  (try clear f0x0 f0x1 f0x2 f0x3 f0x4); obtain ⟨f0x0, f0x1, f0x2, f0x3, f0x4⟩ := row5 Rf0x
  refine wp_region_held_drew (S := (fun w' => w'.cell? ⟨w2.heap.size, 0, none⟩ = some (Value.int .i64 p.k0.kind) ∧ w'.cell? ⟨w2.heap.size, 1, none⟩ = some (Value.int .i64 p.k0.len) ∧ w'.cell? ⟨w2.heap.size, 2, none⟩ = some (Value.int .u64 p.k0.h) ∧ w'.cell? ⟨w2.heap.size, 3, none⟩ = some (Value.int .u64 p.k0.l) ∧ w'.cell? ⟨w2.heap.size, 4, none⟩ = some (Value.string ⟨p.k0.path.toArray⟩) ∧ w'.cell? ⟨w.heap.size + 1, 2, none⟩ = some (Value.int .i64 q.k0.kind) ∧ w'.cell? ⟨w.heap.size + 1, 3, none⟩ = some (Value.int .i64 q.k0.len) ∧ w'.cell? ⟨w.heap.size + 1, 4, none⟩ = some (Value.int .u64 q.k0.h) ∧ w'.cell? ⟨w.heap.size + 1, 5, none⟩ = some (Value.int .u64 q.k0.l) ∧ w'.cell? ⟨w.heap.size + 1, 6, none⟩ = some (Value.string ⟨q.k0.path.toArray⟩))) (by kernel_rfl) ?hSr55_ (fun hHeld => ?_)
  case hSr55_ => (exact ⟨f0x0, f0x1, f0x2, f0x3, f0x4, d2, d3, d4, d5, d6⟩)
  (clear c0 c1 c2 c3 c4 c5 c6 c7 c8 c9 c10 c11 d0 d1 d2 d3 d4 d5 d6 d7 d8 d9 d10 d11 f0x0 f0x1 f0x2 f0x3 f0x4; (replace Rc := Rc.drew); (replace Rd := Rd.drew); (replace Rf0x := Rf0x.drew); (replace hb0 := hb0.drew); (generalize World.drew (World.alloc w2 (.cells #[Value.int .i64 p.k0.kind, Value.int .i64 p.k0.len, Value.int .u64 p.k0.h, Value.int .u64 p.k0.l, Value.string ⟨p.k0.path.toArray⟩] 30)) = wq at *))
  refine tk 0 ⟨some 33, .load 30 (.tmp 9), 30, _, _, _⟩ hHeld ?_
  (try simp only [Act.put, nz1, nz2, nz3])
  refine tk 1 ⟨some 34, .move (.tmp 8), 3, _, _, _⟩ hHeld ?_
  (try simp only [Act.put, nz1, nz2, nz3])
  refine tk 2 ⟨some 35, .fieldAddr 33 (.tmp 3) 1, 0, _, _, _⟩ hHeld ?_
  (try simp only [Act.put, nz1, nz2, nz3])
  refine tk 3 ⟨some 36, .indexAddr 31 (.tmp 35) (.tmp 34), 0, _, _, _⟩ hHeld ?_
  (try simp only [Act.put, nz1, nz2, nz3])
  refine tk 4 ⟨some 37, .load 30 (.tmp 36), 30, _, _, _⟩ hHeld ?_
  (try simp only [Act.put, nz1, nz2, nz3])
  refine wpAnyH_ready (rs := [5]) (by kernel_rfl) (by simp) ?_
  refine AllReadyH.cons (o := ⟨some 38, .call { callee := .value (.func 64), args := #[.tmp 33, .tmp 37], argTypes := #[30, 30] }, 3, _, _, _⟩) rfl (fun K hK => ?_) AllReadyH.nil
  (go_simp; (refine (HC2 _).mono ?_); (rintro e wz ⟨rfl, hb⟩); (replace Rc := Rc.later hb); (replace Rd := Rd.later hb); (replace Rf0x := Rf0x.later hb); (replace hb0 := below_step hb0 hb); go_wp2_with fail)
  refine hK.out _ _ ?hSr55_6_5 (fun hHeld2 => ?_)
  case hSr55_6_5 => (obtain ⟨f0x0, f0x1, f0x2, f0x3, f0x4, d2, d3, d4, d5, d6⟩ := hHeld; exact ⟨cell_later hb f0x0, cell_later hb f0x1, cell_later hb f0x2, cell_later hb f0x3, cell_later hb f0x4, cell_later hb d2, cell_later hb d3, cell_later hb d4, cell_later hb d5, cell_later hb d6⟩)
  clear hK K hHeld
  have hHeld := hHeld2
  clear hHeld2
  rename World => wq
  (try simp only [Act.put, nz1, nz2, nz3])
  refine tk 6 ⟨some 10, .assign (.tmp 38), 3, _, _, _⟩ hHeld ?_
  (try simp only [Act.put, nz1, nz2, nz3])
  refine wpAnyH_done (by kernel_rfl) ?_ _
  clear hHeld
  rename World => w3
  have lc := Rc.lt
  have ld := Rd.lt
  have lf0x := Rf0x.lt
  (try clear c0 c1 c2 c3 c4 c5 c6 c7 c8 c9 c10 c11); obtain ⟨c0, c1, c2, c3, c4, c5, c6, c7, c8, c9, c10, c11⟩ := row12 Rc
  (try clear d0 d1 d2 d3 d4 d5 d6 d7 d8 d9 d10 d11); obtain ⟨d0, d1, d2, d3, d4, d5, d6, d7, d8, d9, d10, d11⟩ := row12 Rd
  (try clear f0x0 f0x1 f0x2 f0x3 f0x4); obtain ⟨f0x0, f0x1, f0x2, f0x3, f0x4⟩ := row5 Rf0x
  go_wp2_with fail
  rw [rounds_succ]
  go_wp2_with fail
  replace Rc := Rc.alloc (.cells #[Value.int .i64 p.k1.kind, Value.int .i64 p.k1.len, Value.int .u64 p.k1.h, Value.int .u64 p.k1.l, Value.string ⟨p.k1.path.toArray⟩] 30)
  replace Rd := Rd.alloc (.cells #[Value.int .i64 p.k1.kind, Value.int .i64 p.k1.len, Value.int .u64 p.k1.h, Value.int .u64 p.k1.l, Value.string ⟨p.k1.path.toArray⟩] 30)
  replace Rf0x := Rf0x.alloc (.cells #[Value.int .i64 p.k1.kind, Value.int .i64 p.k1.len, Value.int .u64 p.k1.h, Value.int .u64 p.k1.l, Value.string ⟨p.k1.path.toArray⟩] 30)
  have Rf1x := Row.new w3 #[Value.int .i64 p.k1.kind, Value.int .i64 p.k1.len, Value.int .u64 p.k1.h, Value.int .u64 p.k1.l, Value.string ⟨p.k1.path.toArray⟩] 30
  have mf1x := hb0.size
  replace hb0 := hb0.alloc hb0.size (.cells #[Value.int .i64 p.k1.kind, Value.int .i64 p.k1.len, Value.int .u64 p.k1.h, Value.int .u64 p.k1.l, Value.string ⟨p.k1.path.toArray⟩] 30)
  (try clear c0 c1 c2 c3 c4 c5 c6 c7 c8 c9 c10 c11); obtain ⟨c0, c1, c2, c3, c4, c5, c6, c7, c8, c9, c10, c11⟩ := row12 Rc
  (try clear d0 d1 d2 d3 d4 d5 d6 d7 d8 d9 d10 d11); obtain ⟨d0, d1, d2, d3, d4, d5, d6, d7, d8, d9, d10, d11⟩ := row12 Rd
  (try clear f0x0 f0x1 f0x2 f0x3 f0x4); obtain ⟨f0x0, f0x1, f0x2, f0x3, f0x4⟩ := row5 Rf0x
  (try clear f1x0 f1x1 f1x2 f1x3 f1x4); obtain ⟨f1x0, f1x1, f1x2, f1x3, f1x4⟩ := row5 Rf1x
  refine wp_region_held_drew (S := (fun w' => w'.cell? ⟨w3.heap.size, 0, none⟩ = some (Value.int .i64 p.k1.kind) ∧ w'.cell? ⟨w3.heap.size, 1, none⟩ = some (Value.int .i64 p.k1.len) ∧ w'.cell? ⟨w3.heap.size, 2, none⟩ = some (Value.int .u64 p.k1.h) ∧ w'.cell? ⟨w3.heap.size, 3, none⟩ = some (Value.int .u64 p.k1.l) ∧ w'.cell? ⟨w3.heap.size, 4, none⟩ = some (Value.string ⟨p.k1.path.toArray⟩) ∧ w'.cell? ⟨w.heap.size + 1, 7, none⟩ = some (Value.int .i64 q.k1.kind) ∧ w'.cell? ⟨w.heap.size + 1, 8, none⟩ = some (Value.int .i64 q.k1.len) ∧ w'.cell? ⟨w.heap.size + 1, 9, none⟩ = some (Value.int .u64 q.k1.h) ∧ w'.cell? ⟨w.heap.size + 1, 10, none⟩ = some (Value.int .u64 q.k1.l) ∧ w'.cell? ⟨w.heap.size + 1, 11, none⟩ = some (Value.string ⟨q.k1.path.toArray⟩))) (by kernel_rfl) ?hSr56_ (fun hHeld => ?_)
  case hSr56_ => (exact ⟨f1x0, f1x1, f1x2, f1x3, f1x4, d7, d8, d9, d10, d11⟩)
  (clear c0 c1 c2 c3 c4 c5 c6 c7 c8 c9 c10 c11 d0 d1 d2 d3 d4 d5 d6 d7 d8 d9 d10 d11 f0x0 f0x1 f0x2 f0x3 f0x4 f1x0 f1x1 f1x2 f1x3 f1x4; (replace Rc := Rc.drew); (replace Rd := Rd.drew); (replace Rf0x := Rf0x.drew); (replace Rf1x := Rf1x.drew); (replace hb0 := hb0.drew); (generalize World.drew (World.alloc w3 (.cells #[Value.int .i64 p.k1.kind, Value.int .i64 p.k1.len, Value.int .u64 p.k1.h, Value.int .u64 p.k1.l, Value.string ⟨p.k1.path.toArray⟩] 30)) = wq at *))
  refine tk 0 ⟨some 33, .load 30 (.tmp 9), 30, _, _, _⟩ hHeld ?_
  (try simp only [Act.put, nz1, nz2, nz3])
  refine tk 1 ⟨some 34, .move (.tmp 8), 3, _, _, _⟩ hHeld ?_
  (try simp only [Act.put, nz1, nz2, nz3])
  refine tk 2 ⟨some 35, .fieldAddr 33 (.tmp 3) 1, 0, _, _, _⟩ hHeld ?_
  (try simp only [Act.put, nz1, nz2, nz3])
  refine tk 3 ⟨some 36, .indexAddr 31 (.tmp 35) (.tmp 34), 0, _, _, _⟩ hHeld ?_
  (try simp only [Act.put, nz1, nz2, nz3])
  refine tk 4 ⟨some 37, .load 30 (.tmp 36), 30, _, _, _⟩ hHeld ?_
  (try simp only [Act.put, nz1, nz2, nz3])
  refine wpAnyH_ready (rs := [5]) (by kernel_rfl) (by simp) ?_
  refine AllReadyH.cons (o := ⟨some 38, .call { callee := .value (.func 64), args := #[.tmp 33, .tmp 37], argTypes := #[30, 30] }, 3, _, _, _⟩) rfl (fun K hK => ?_) AllReadyH.nil
  (go_simp; (refine (HC3 _).mono ?_); (rintro e wz ⟨rfl, hb⟩); (replace Rc := Rc.later hb); (replace Rd := Rd.later hb); (replace Rf0x := Rf0x.later hb); (replace Rf1x := Rf1x.later hb); (replace hb0 := below_step hb0 hb); go_wp2_with fail)
  refine hK.out _ _ ?hSr56_6_5 (fun hHeld2 => ?_)
  case hSr56_6_5 => (obtain ⟨f1x0, f1x1, f1x2, f1x3, f1x4, d7, d8, d9, d10, d11⟩ := hHeld; exact ⟨cell_later hb f1x0, cell_later hb f1x1, cell_later hb f1x2, cell_later hb f1x3, cell_later hb f1x4, cell_later hb d7, cell_later hb d8, cell_later hb d9, cell_later hb d10, cell_later hb d11⟩)
  clear hK K hHeld
  have hHeld := hHeld2
  clear hHeld2
  rename World => wq
  (try simp only [Act.put, nz1, nz2, nz3])
  refine tk 6 ⟨some 10, .assign (.tmp 38), 3, _, _, _⟩ hHeld ?_
  (try simp only [Act.put, nz1, nz2, nz3])
  refine wpAnyH_done (by kernel_rfl) ?_ _
  clear hHeld
  rename World => w4
  have lc := Rc.lt
  have ld := Rd.lt
  have lf0x := Rf0x.lt
  have lf1x := Rf1x.lt
  (try clear c0 c1 c2 c3 c4 c5 c6 c7 c8 c9 c10 c11); obtain ⟨c0, c1, c2, c3, c4, c5, c6, c7, c8, c9, c10, c11⟩ := row12 Rc
  (try clear d0 d1 d2 d3 d4 d5 d6 d7 d8 d9 d10 d11); obtain ⟨d0, d1, d2, d3, d4, d5, d6, d7, d8, d9, d10, d11⟩ := row12 Rd
  (try clear f0x0 f0x1 f0x2 f0x3 f0x4); obtain ⟨f0x0, f0x1, f0x2, f0x3, f0x4⟩ := row5 Rf0x
  (try clear f1x0 f1x1 f1x2 f1x3 f1x4); obtain ⟨f1x0, f1x1, f1x2, f1x3, f1x4⟩ := row5 Rf1x
  go_wp2_with fail
  rw [rounds_succ]
  go_wp2
  go_ret
  exact ⟨rfl, hb0⟩
def cmpP (p q : Px) : Int := if cmpI p.a0 q.a0 ≠ 0 then cmpI p.a0 q.a0 else if cmpI p.a1 q.a1 ≠ 0 then cmpI p.a1 q.a1 else if cmpK p.k0 q.k0 ≠ 0 then cmpK p.k0 q.k0 else if cmpK p.k1 q.k1 ≠ 0 then cmpK p.k1 q.k1 else 0
theorem pcmp_t (p q : Px) (op : p.ok) (oq : q.ok) (w : World) : Calls Try.prog 32 #[pv p, pv q] w fun e w' => e = .returned (.int .i64 (cmpP p q)) ∧ Below w.heap.size w w' :=
  pcmp_go p q _ _ _ _ (compare_i _ _) (compare_i _ _) (kcmp_t _ _ op.k0 oq.k0) (kcmp_t _ _ op.k1 oq.k1) w
end Go.Proofs.Ytbekocknfpekoaa
namespace Go.Proofs.Ytbekocknfpekoaa
set_option linter.unusedVariables false
set_option linter.unusedSimpArgs false
open Go.RowKit
theorem cut_clamp {k : Ke} (h : rightK k = true) (n : Int) : cutK k n = topK k (if n < 0 then 0 else if ((letK k).length : Int) < n then ((letK k).length : Int) else n) := by
  have h1 := letK_len h
  have h2 := len_range h
  unfold cutK
  rw [if_pos h]
  by_cases a : n < 0
  · rw [if_pos a, if_neg (by omega), show max n 0 = 0 by omega]
  · rw [if_neg a]
    by_cases b : ((letK k).length : Int) < n
    · rw [if_pos b, if_pos (by omega), h1, top_full h]
    · rw [if_neg b]
      by_cases c : k.len ≤ n
      · rw [if_pos c, show n = k.len by omega, top_full h]
      · rw [if_neg c, show max n 0 = n by omega]
set_option maxRecDepth 100000 in
set_option maxHeartbeats 8000000 in
theorem rcut_t (k : Ke) (ok : k.ok) (n : Int) (w : World) : Calls Try.prog 88 #[kv k, .int .i64 n] w fun e w' => e = .returned (kv (cutK k n)) ∧ Below w.heap.size w w' := by
  have HL : ∀ w1, Calls Try.prog 98 #[kv k] w1 fun e w' => ∃ v, e = .returned (.tuple #[v, .bool (rightK k)]) ∧ SS w' v (letR k) ∧ Below w1.heap.size w1 w' := fun w1 => letters_t k ok w1
  obtain ⟨R0, R1, hb0⟩ := two_rows w #[.int .i64 k.kind, .int .i64 k.len, .int .u64 k.h, .int .u64 k.l, .string ⟨k.path.toArray⟩] #[.int .i64 0, .int .i64 0, .int .u64 0, .int .u64 0, .string ⟨#[]⟩] 30 30
  cases hr : rightK k with
  | false =>
    rw [cut_bad hr]
    rw [hr] at HL
    clear hr ok
    unfold kv kz at *
    dsimp only
    go_enter Try.func88, Try.ntmps88
    go_wp2_with fail
    refine (HL _).mono ?_
    rintro e w1 ⟨v, rfl, _, hb⟩
    replace R1 := R1.later hb
    replace hb0 := below_step hb0 hb
    clear HL hb R0
    have c0 := ((R1).cell 0).trans (show _ = some (Value.int .i64 0) from rfl)
    have cf0 := (R1).frozen 0
    have c1 := ((R1).cell 1).trans (show _ = some (Value.int .i64 0) from rfl)
    have cf1 := (R1).frozen 1
    have c2 := ((R1).cell 2).trans (show _ = some (Value.int .u64 0) from rfl)
    have cf2 := (R1).frozen 2
    have c3 := ((R1).cell 3).trans (show _ = some (Value.int .u64 0) from rfl)
    have cf3 := (R1).frozen 3
    have c4 := ((R1).cell 4).trans (show _ = some (Value.string ⟨#[]⟩) from rfl)
    have cf4 := (R1).frozen 4
    clear R1
    go_wp2
    refine bodyPost_ret (v := .agg #[.int .i64 0, .int .i64 0, .int .u64 0, .int .u64 0, .string ⟨#[]⟩]) (by simp [results, Try.results88, go_sem, c0, c1, c2, c3, c4]) rfl ⟨rfl, bset5 hb0 (by omega) _ _ _ _ _⟩
  | true =>
    rw [hr] at HL
    have hlr : letR k = letK k := by unfold letR; rw [if_pos hr]
    rw [hlr] at HL
    clear hlr
    rw [cut_clamp hr]
    have HOF := Lib.hid (fun (m : Nat) (hm : m ≤ (letK k).length) (v : Value) (w1 : World) (hS : SS w1 v ((letK k).take m)) => rof_take k ok hr m hm v w1 hS)
    clear hr ok
    generalize letK k = ls at *
    -- the clamped number
    obtain ⟨m, hm, hcase⟩ : ∃ m : Nat, m ≤ ls.length ∧ ((n < 0 ∧ m = 0) ∨ ((ls.length : Int) < n ∧ m = ls.length) ∨ (n = (m : Int))) := by
      by_cases a : n < 0
      · exact ⟨0, Nat.zero_le _, .inl ⟨a, rfl⟩⟩
      · by_cases b : (ls.length : Int) < n
        · exact ⟨_, Nat.le_refl _, .inr (.inl ⟨b, rfl⟩)⟩
        · exact ⟨n.toNat, by omega, .inr (.inr (by omega))⟩
    have ec : (if n < 0 then (0 : Int) else if (ls.length : Int) < n then (ls.length : Int) else n) = (m : Int) := by
      repeat' split
      all_goals omega
    rw [ec]
    clear ec
    have HO2 := Lib.hid (HOF.out m hm)
    clear HOF
    generalize topK k (m : Int) = t at *
    obtain ⟨t0, t1, t2, t3, t4⟩ := t
    unfold kv at *
    dsimp only at *
    rcases hcase with ⟨ha, rfl⟩ | ⟨ha, rfl⟩ | rfl
    ·   go_enter Try.func88, Try.ntmps88
        go_wp2_with fail
        refine (HL _).mono ?_
        rintro e w1 ⟨v, rfl, hS, hb⟩
        replace R0 := (R0.later hb).drew
        replace R1 := (R1.later hb).drew
        replace hb0 := (below_step hb0 hb).drew
        clear HL hb
        obtain ⟨p, c, rfl, _, _⟩ := id hS
        obtain ⟨hT, hmc⟩ := ss_take hS _ hm
        have HO3 := Lib.hid (fun (W : World) (hb : Below w1.heap.size w1 W) => HO2.out _ W (hT.later hb))
        clear hT hS HO2
        generalize hN : ls.length = N at *
        clear hN
        have q1 : (N : Int) ≤ (c : Int) := by omega
        have q2 : ¬ (N : Int) < 0 := by omega
        have c0 := ((R0).cell 0).trans (show _ = some (Value.int .i64 k.kind) from rfl)
        have cf0 := (R0).frozen 0
        have c1 := ((R0).cell 1).trans (show _ = some (Value.int .i64 k.len) from rfl)
        have cf1 := (R0).frozen 1
        have c2 := ((R0).cell 2).trans (show _ = some (Value.int .u64 k.h) from rfl)
        have cf2 := (R0).frozen 2
        have c3 := ((R0).cell 3).trans (show _ = some (Value.int .u64 k.l) from rfl)
        have cf3 := (R0).frozen 3
        have c4 := ((R0).cell 4).trans (show _ = some (Value.string ⟨k.path.toArray⟩) from rfl)
        have cf4 := (R0).frozen 4
        go_wp2_with fail
        refine wp_region_held_drew (S := (fun w' => w'.cell? ⟨w.heap.size, 0, none⟩ = some (.int .i64 k.kind))) (by kernel_rfl) ?hSr63_ (fun hHeld => ?_)
        case hSr63_ => (first | exact c0 | exact cell_later hb hHeld)
        refine tk 0 ⟨some 23, .fieldAddr 30 (.tmp 2) 0, 0, _, _, _⟩ hHeld ?_
        (try simp only [Act.put, nz1, nz2, nz3])
        refine tk 1 ⟨some 24, .load 3 (.tmp 23), 3, _, _, _⟩ hHeld ?_
        (try simp only [Act.put, nz1, nz2, nz3])
        refine tk 2 ⟨some 25, .move (.tmp 5), 107, _, _, _⟩ hHeld ?_
        (try simp only [Act.put, nz1, nz2, nz3])
        refine tk 3 ⟨some 26, .move (.tmp 1), 3, _, _, _⟩ hHeld ?_
        (try simp only [Act.put, nz1, nz2, nz3])
        refine tk 4 ⟨some 27, .slice 107 (.tmp 25) none (some (.tmp 26)) none, 107, _, _, _⟩ hHeld ?_
        (try simp only [Act.put, nz1, nz2, nz3])
        refine wpAnyH_ready (rs := [5]) (by kernel_rfl) (by simp) ?_
        refine AllReadyH.cons (o := ⟨some 28, .call { callee := .value (.func 82), args := #[.tmp 24, .tmp 27], argTypes := #[3, 107] }, 30, _, _, _⟩) rfl (fun K hK => ?_) AllReadyH.nil
        go_simp
        ((refine (HO3.out _ (by first | exact (Below.refl _ _).drew | exact Below.refl _ _)).mono ?_); (rintro e wn ⟨rfl, hb⟩); (replace R1 := R1.later hb); (replace hb0 := below_step hb0 hb))
        go_wp2_with fail
        refine hK.out _ _ ?hSr63_6_5 (fun hHeld2 => ?_)
        case hSr63_6_5 => (first | exact c0 | exact cell_later hb hHeld)
        clear hK K hHeld
        have hHeld := hHeld2
        clear hHeld2
        (try simp only [Act.put, nz1, nz2, nz3])
        refine wpAnyH_ready (rs := [6]) (by kernel_rfl) (by simp) ?_
        refine AllReadyH.cons (o := ⟨none, .store 30 (.tmp 4) (.tmp 28), 0, _, _, _⟩) rfl (fun K hK => ?_) AllReadyH.nil
        ((have z0 := R1.cell 0); (have z1 := R1.cell 1); (have z2 := R1.cell 2); (have z3 := R1.cell 3); (have z4 := R1.cell 4); (simp at z0 z1 z2 z3 z4); (have zf0 := R1.frozen 0); (have zf1 := R1.frozen 1); (have zf2 := R1.frozen 2); (have zf3 := R1.frozen 3); (have zf4 := R1.frozen 4); go_simp)
        refine hK.out _ _ ?hSr63_7_6 (fun hHeld2 => ?_)
        case hSr63_7_6 => (simp [go_sem, hHeld])
        clear hK K hHeld
        have hHeld := hHeld2
        clear hHeld2
        (try simp only [Act.put, nz1, nz2, nz3])
        refine wpAnyH_done (by kernel_rfl) ?_ _
        (go_wp2_with fail; exact bodyPost_ret (v := .agg #[.int .i64 t0, .int .i64 t1, .int .u64 t2, .int .u64 t3, .string ⟨t4.toArray⟩]) (by simp [results, Try.results88, go_sem, z0, z1, z2, z3, z4]) rfl ⟨rfl, bset5 hb0 (by omega) _ _ _ _ _⟩)
    ·   go_enter Try.func88, Try.ntmps88
        go_wp2_with fail
        refine (HL _).mono ?_
        rintro e w1 ⟨v, rfl, hS, hb⟩
        replace R0 := (R0.later hb).drew
        replace R1 := (R1.later hb).drew
        replace hb0 := (below_step hb0 hb).drew
        clear HL hb
        obtain ⟨p, c, rfl, _, _⟩ := id hS
        obtain ⟨hT, hmc⟩ := ss_take hS _ hm
        have HO3 := Lib.hid (fun (W : World) (hb : Below w1.heap.size w1 W) => HO2.out _ W (hT.later hb))
        clear hT hS HO2
        generalize hN : ls.length = N at *
        clear hN
        have q1 : (N : Int) ≤ (c : Int) := by omega
        have q2 : ¬ (N : Int) < 0 := by omega
        have c0 := ((R0).cell 0).trans (show _ = some (Value.int .i64 k.kind) from rfl)
        have cf0 := (R0).frozen 0
        have c1 := ((R0).cell 1).trans (show _ = some (Value.int .i64 k.len) from rfl)
        have cf1 := (R0).frozen 1
        have c2 := ((R0).cell 2).trans (show _ = some (Value.int .u64 k.h) from rfl)
        have cf2 := (R0).frozen 2
        have c3 := ((R0).cell 3).trans (show _ = some (Value.int .u64 k.l) from rfl)
        have cf3 := (R0).frozen 3
        have c4 := ((R0).cell 4).trans (show _ = some (Value.string ⟨k.path.toArray⟩) from rfl)
        have cf4 := (R0).frozen 4
        go_wp2_with fail
        refine wp_region_held_drew (S := (fun w' => w'.cell? ⟨w.heap.size, 0, none⟩ = some (.int .i64 k.kind))) (by kernel_rfl) ?hSr64_ (fun hHeld => ?_)
        case hSr64_ => (first | exact c0 | exact cell_later hb hHeld)
        refine tk 0 ⟨some 23, .fieldAddr 30 (.tmp 2) 0, 0, _, _, _⟩ hHeld ?_
        (try simp only [Act.put, nz1, nz2, nz3])
        refine tk 1 ⟨some 24, .load 3 (.tmp 23), 3, _, _, _⟩ hHeld ?_
        (try simp only [Act.put, nz1, nz2, nz3])
        refine tk 2 ⟨some 25, .move (.tmp 5), 107, _, _, _⟩ hHeld ?_
        (try simp only [Act.put, nz1, nz2, nz3])
        refine tk 3 ⟨some 26, .move (.tmp 1), 3, _, _, _⟩ hHeld ?_
        (try simp only [Act.put, nz1, nz2, nz3])
        refine tk 4 ⟨some 27, .slice 107 (.tmp 25) none (some (.tmp 26)) none, 107, _, _, _⟩ hHeld ?_
        (try simp only [Act.put, nz1, nz2, nz3])
        refine wpAnyH_ready (rs := [5]) (by kernel_rfl) (by simp) ?_
        refine AllReadyH.cons (o := ⟨some 28, .call { callee := .value (.func 82), args := #[.tmp 24, .tmp 27], argTypes := #[3, 107] }, 30, _, _, _⟩) rfl (fun K hK => ?_) AllReadyH.nil
        go_simp
        ((refine (HO3.out _ (by first | exact (Below.refl _ _).drew | exact Below.refl _ _)).mono ?_); (rintro e wn ⟨rfl, hb⟩); (replace R1 := R1.later hb); (replace hb0 := below_step hb0 hb))
        go_wp2_with fail
        refine hK.out _ _ ?hSr64_6_5 (fun hHeld2 => ?_)
        case hSr64_6_5 => (first | exact c0 | exact cell_later hb hHeld)
        clear hK K hHeld
        have hHeld := hHeld2
        clear hHeld2
        (try simp only [Act.put, nz1, nz2, nz3])
        refine wpAnyH_ready (rs := [6]) (by kernel_rfl) (by simp) ?_
        refine AllReadyH.cons (o := ⟨none, .store 30 (.tmp 4) (.tmp 28), 0, _, _, _⟩) rfl (fun K hK => ?_) AllReadyH.nil
        ((have z0 := R1.cell 0); (have z1 := R1.cell 1); (have z2 := R1.cell 2); (have z3 := R1.cell 3); (have z4 := R1.cell 4); (simp at z0 z1 z2 z3 z4); (have zf0 := R1.frozen 0); (have zf1 := R1.frozen 1); (have zf2 := R1.frozen 2); (have zf3 := R1.frozen 3); (have zf4 := R1.frozen 4); go_simp)
        refine hK.out _ _ ?hSr64_7_6 (fun hHeld2 => ?_)
        case hSr64_7_6 => (simp [go_sem, hHeld])
        clear hK K hHeld
        have hHeld := hHeld2
        clear hHeld2
        (try simp only [Act.put, nz1, nz2, nz3])
        refine wpAnyH_done (by kernel_rfl) ?_ _
        (go_wp2_with fail; exact bodyPost_ret (v := .agg #[.int .i64 t0, .int .i64 t1, .int .u64 t2, .int .u64 t3, .string ⟨t4.toArray⟩]) (by simp [results, Try.results88, go_sem, z0, z1, z2, z3, z4]) rfl ⟨rfl, bset5 hb0 (by omega) _ _ _ _ _⟩)
    ·   go_enter Try.func88, Try.ntmps88
        go_wp2_with fail
        refine (HL _).mono ?_
        rintro e w1 ⟨v, rfl, hS, hb⟩
        replace R0 := (R0.later hb).drew
        replace R1 := (R1.later hb).drew
        replace hb0 := (below_step hb0 hb).drew
        clear HL hb
        obtain ⟨p, c, rfl, _, _⟩ := id hS
        obtain ⟨hT, hmc⟩ := ss_take hS _ hm
        have HO3 := Lib.hid (fun (W : World) (hb : Below w1.heap.size w1 W) => HO2.out _ W (hT.later hb))
        clear hT hS HO2
        generalize hN : ls.length = N at *
        clear hN
        have q1 : (N : Int) ≤ (c : Int) := by omega
        have q2 : ¬ (N : Int) < 0 := by omega
        have c0 := ((R0).cell 0).trans (show _ = some (Value.int .i64 k.kind) from rfl)
        have cf0 := (R0).frozen 0
        have c1 := ((R0).cell 1).trans (show _ = some (Value.int .i64 k.len) from rfl)
        have cf1 := (R0).frozen 1
        have c2 := ((R0).cell 2).trans (show _ = some (Value.int .u64 k.h) from rfl)
        have cf2 := (R0).frozen 2
        have c3 := ((R0).cell 3).trans (show _ = some (Value.int .u64 k.l) from rfl)
        have cf3 := (R0).frozen 3
        have c4 := ((R0).cell 4).trans (show _ = some (Value.string ⟨k.path.toArray⟩) from rfl)
        have cf4 := (R0).frozen 4
        go_wp2_with fail
        refine wp_region_held_drew (S := (fun w' => w'.cell? ⟨w.heap.size, 0, none⟩ = some (.int .i64 k.kind))) (by kernel_rfl) ?hSr65_ (fun hHeld => ?_)
        case hSr65_ => (first | exact c0 | exact cell_later hb hHeld)
        refine tk 0 ⟨some 23, .fieldAddr 30 (.tmp 2) 0, 0, _, _, _⟩ hHeld ?_
        (try simp only [Act.put, nz1, nz2, nz3])
        refine tk 1 ⟨some 24, .load 3 (.tmp 23), 3, _, _, _⟩ hHeld ?_
        (try simp only [Act.put, nz1, nz2, nz3])
        refine tk 2 ⟨some 25, .move (.tmp 5), 107, _, _, _⟩ hHeld ?_
        (try simp only [Act.put, nz1, nz2, nz3])
        refine tk 3 ⟨some 26, .move (.tmp 1), 3, _, _, _⟩ hHeld ?_
        (try simp only [Act.put, nz1, nz2, nz3])
        refine tk 4 ⟨some 27, .slice 107 (.tmp 25) none (some (.tmp 26)) none, 107, _, _, _⟩ hHeld ?_
        (try simp only [Act.put, nz1, nz2, nz3])
        refine wpAnyH_ready (rs := [5]) (by kernel_rfl) (by simp) ?_
        refine AllReadyH.cons (o := ⟨some 28, .call { callee := .value (.func 82), args := #[.tmp 24, .tmp 27], argTypes := #[3, 107] }, 30, _, _, _⟩) rfl (fun K hK => ?_) AllReadyH.nil
        go_simp
        ((refine (HO3.out _ (by first | exact (Below.refl _ _).drew | exact Below.refl _ _)).mono ?_); (rintro e wn ⟨rfl, hb⟩); (replace R1 := R1.later hb); (replace hb0 := below_step hb0 hb))
        go_wp2_with fail
        refine hK.out _ _ ?hSr65_6_5 (fun hHeld2 => ?_)
        case hSr65_6_5 => (first | exact c0 | exact cell_later hb hHeld)
        clear hK K hHeld
        have hHeld := hHeld2
        clear hHeld2
        (try simp only [Act.put, nz1, nz2, nz3])
        refine wpAnyH_ready (rs := [6]) (by kernel_rfl) (by simp) ?_
        refine AllReadyH.cons (o := ⟨none, .store 30 (.tmp 4) (.tmp 28), 0, _, _, _⟩) rfl (fun K hK => ?_) AllReadyH.nil
        ((have z0 := R1.cell 0); (have z1 := R1.cell 1); (have z2 := R1.cell 2); (have z3 := R1.cell 3); (have z4 := R1.cell 4); (simp at z0 z1 z2 z3 z4); (have zf0 := R1.frozen 0); (have zf1 := R1.frozen 1); (have zf2 := R1.frozen 2); (have zf3 := R1.frozen 3); (have zf4 := R1.frozen 4); go_simp)
        refine hK.out _ _ ?hSr65_7_6 (fun hHeld2 => ?_)
        case hSr65_7_6 => (simp [go_sem, hHeld])
        clear hK K hHeld
        have hHeld := hHeld2
        clear hHeld2
        (try simp only [Act.put, nz1, nz2, nz3])
        refine wpAnyH_done (by kernel_rfl) ?_ _
        (go_wp2_with fail; exact bodyPost_ret (v := .agg #[.int .i64 t0, .int .i64 t1, .int .u64 t2, .int .u64 t3, .string ⟨t4.toArray⟩]) (by simp [results, Try.results88, go_sem, z0, z1, z2, z3, z4]) rfl ⟨rfl, bset5 hb0 (by omega) _ _ _ _ _⟩)
end Go.Proofs.Ytbekocknfpekoaa
namespace Go.Proofs.Ytbekocknfpekoaa
set_option linter.unusedVariables false
set_option linter.unusedSimpArgs false
open Go.RowKit
def begB (a b : List (List UInt8)) : Bool := decide (a <+: b)
end Go.Proofs.Ytbekocknfpekoaa
namespace Go.Proofs.Ytbekocknfpekoaa
set_option linter.unusedVariables false
set_option linter.unusedSimpArgs false
open Go.RowKit
theorem bless_self : ∀ (u : List UInt8), Op.bytesLess u u = false
  | [] => rfl
  | c :: u => by rw [Op.bytesLess]; simp [bless_self u, UInt8.lt_irrefl]
theorem cmpS_le {a b : List UInt8} (h : cmpS a b ≤ 0) : Op.bytesLess a b = true ∨ a = b := by
  unfold cmpS at h
  by_cases h1 : Op.bytesLess a b = true
  · exact .inl h1
  · rw [if_neg h1] at h
    by_cases h2 : a = b
    · exact .inr h2
    · rw [if_neg h2] at h; omega
theorem cmpS_zero {a b : List UInt8} (h : cmpS a b = 0) : a = b := by
  unfold cmpS at h
  split at h
  · omega
  · split at h
    · assumption
    · omega
theorem cmpS_self (a : List UInt8) : cmpS a a = 0 := by unfold cmpS; rw [bless_self]; simp
theorem cmpI_le {a b : Int} : cmpI a b ≤ 0 ↔ a ≤ b := by unfold cmpI; split <;> (try split) <;> omega
theorem cmpI_zero {a b : Int} : cmpI a b = 0 ↔ a = b := by unfold cmpI; split <;> (try split) <;> omega
theorem cmpI_self (a : Int) : cmpI a a = 0 := cmpI_zero.2 rfl
theorem cmpI_lt {a b : Int} (h : a < b) : cmpI a b = -1 := by unfold cmpI; rw [if_pos h]
theorem cmpK_self (a : Ke) : cmpK a a = 0 := by
  unfold cmpK fnz fnz fnz fnz
  simp [cmpI_self, cmpS_self, fnz]
end Go.Proofs.Ytbekocknfpekoaa
namespace Go.Proofs.Ytbekocknfpekoaa
set_option linter.unusedVariables false
set_option linter.unusedSimpArgs false
open Go.RowKit
theorem bless_asymm : ∀ (a b : List UInt8), a ≠ b → Op.bytesLess a b = false → Op.bytesLess b a = true
  | [], [], h, _ => absurd rfl h
  | [], _ :: _, _, h => by simp [Op.bytesLess] at h
  | _ :: _, [], _, _ => rfl
  | c :: a, d :: b, hne, h => by
    simp only [Op.bytesLess, Bool.or_eq_false_iff, decide_eq_false_iff_not, Bool.and_eq_false_iff, beq_eq_false_iff_ne] at h
    simp only [Op.bytesLess, Bool.or_eq_true, decide_eq_true_eq, Bool.and_eq_true, beq_iff_eq]
    obtain ⟨h1, h2⟩ := h
    by_cases e : c = d
    · subst e
      right
      refine ⟨rfl, bless_asymm a b (fun x => hne (by rw [x])) ?_⟩
      rcases h2 with h2 | h2
      · exact absurd rfl h2
      · exact h2
    · left
      rw [UInt8.lt_iff_toNat_lt] at h1 ⊢
      have : c.toNat ≠ d.toNat := fun x => e (UInt8.toNat_inj.1 x)
      omega
theorem cmpS_neg {a b : List UInt8} (h : Op.bytesLess a b = true) : cmpS a b = -1 := by unfold cmpS; rw [if_pos h]
theorem cmpS_pos {a b : List UInt8} (h : Op.bytesLess a b = false) (hne : ¬ a = b) : cmpS a b = 1 := by unfold cmpS; rw [if_neg (by simp [h]), if_neg hne]
theorem cmpI_gt {a b : Int} (h : b < a) : cmpI a b = 1 := by unfold cmpI; rw [if_neg (by omega), if_neg (by omega)]
theorem fnz_here {x : Int} (r : List Int) (h : x ≠ 0) : fnz (x :: r) = x := by rw [fnz, if_neg h]
theorem fnz_next {x : Int} (r : List Int) (h : x = 0) : fnz (x :: r) = fnz r := by rw [fnz, if_pos h]
/-- how two keys may stand, and what Cmp says of it -/
theorem cmp_cases (ak an ah al : Int) (ap : List UInt8) (bk bn bh bl : Int) (bp : List UInt8) (h1 : Word ah) (h2 : Word al) (h3 : Word bh) (h4 : Word bl) (r : Int) (hr : r = cmpK ⟨ak, an, ah, al, ap⟩ ⟨bk, bn, bh, bl, bp⟩) :
    (ak < bk ∧ r = -1) ∨ (bk < ak ∧ r = 1) ∨ (ak = bk ∧ ah < bh ∧ r = -1) ∨ (ak = bk ∧ bh < ah ∧ r = 1) ∨ (ak = bk ∧ ah = bh ∧ al < bl ∧ r = -1) ∨ (ak = bk ∧ ah = bh ∧ bl < al ∧ r = 1) ∨
    (ak = bk ∧ ah = bh ∧ al = bl ∧ Op.bytesLess ap bp = true ∧ ¬ ap = bp ∧ r = -1) ∨ (ak = bk ∧ ah = bh ∧ al = bl ∧ Op.bytesLess ap bp = false ∧ ¬ ap = bp ∧ r = 1) ∨
    (ak = bk ∧ ah = bh ∧ al = bl ∧ ap = bp ∧ an < bn ∧ r = -1) ∨ (ak = bk ∧ ah = bh ∧ al = bl ∧ ap = bp ∧ bn < an ∧ r = 1) ∨ (ak = bk ∧ ah = bh ∧ al = bl ∧ ap = bp ∧ an = bn ∧ r = 0) := by
  have hn := cmp_pure ah al bh bl h1 h2 h3 h4
  unfold cmpK Ke.num at hr
  dsimp only at hr
  rcases Int.lt_trichotomy ak bk with k | k | k
  · rw [cmpI_lt k, fnz_here _ (by decide)] at hr; exact .inl ⟨k, hr⟩
  · subst k
    rw [cmpI_self, fnz_next _ rfl, hn] at hr
    rcases Int.lt_trichotomy ah bh with x | x | x
    · rw [if_neg (by omega), if_pos x, fnz_here _ (by decide)] at hr; exact .inr (.inr (.inl ⟨rfl, x, hr⟩))
    · subst x
      rw [if_pos rfl] at hr
      rcases Int.lt_trichotomy al bl with y | y | y
      · rw [if_neg (by omega), if_pos y, fnz_here _ (by decide)] at hr; exact .inr (.inr (.inr (.inr (.inl ⟨rfl, rfl, y, hr⟩))))
      · subst y
        rw [if_pos rfl, fnz_next _ rfl] at hr
        by_cases p : ap = bp
        · subst p
          rw [cmpS_self, fnz_next _ rfl] at hr
          rcases Int.lt_trichotomy an bn with z | z | z
          · rw [cmpI_lt z, fnz_here _ (by decide)] at hr; exact .inr (.inr (.inr (.inr (.inr (.inr (.inr (.inr (.inl ⟨rfl, rfl, rfl, rfl, z, hr⟩))))))))
          · subst z
            rw [cmpI_self, fnz_next _ rfl] at hr; exact .inr (.inr (.inr (.inr (.inr (.inr (.inr (.inr (.inr (.inr ⟨rfl, rfl, rfl, rfl, rfl, hr⟩)))))))))
          · rw [cmpI_gt z, fnz_here _ (by decide)] at hr; exact .inr (.inr (.inr (.inr (.inr (.inr (.inr (.inr (.inr (.inl ⟨rfl, rfl, rfl, rfl, z, hr⟩)))))))))
        · cases q : Op.bytesLess ap bp with
          | true => rw [cmpS_neg q, fnz_here _ (by decide)] at hr; exact .inr (.inr (.inr (.inr (.inr (.inr (.inl ⟨rfl, rfl, rfl, rfl, p, hr⟩))))))
          | false => rw [cmpS_pos q p, fnz_here _ (by decide)] at hr; exact .inr (.inr (.inr (.inr (.inr (.inr (.inr (.inl ⟨rfl, rfl, rfl, rfl, p, hr⟩)))))))
      · rw [if_neg (by omega), if_neg (by omega), fnz_here _ (by decide)] at hr; exact .inr (.inr (.inr (.inr (.inr (.inl ⟨rfl, rfl, y, hr⟩)))))
    · rw [if_neg (by omega), if_neg (by omega), fnz_here _ (by decide)] at hr; exact .inr (.inr (.inr (.inl ⟨rfl, x, hr⟩)))
  · rw [cmpI_gt k, fnz_here _ (by decide)] at hr; exact .inr (.inl ⟨k, hr⟩)
theorem ba_toList (x y : List UInt8) : ((⟨x.toArray⟩ : ByteArray).toList == (⟨y.toArray⟩ : ByteArray).toList) = decide (x = y) := by
  rw [bytes_list, bytes_list]
  by_cases h : x = y
  · rw [decide_eq_true h, h]; simp
  · rw [decide_eq_false h]; simpa using h
theorem eqK_no {a0 a1 a2 a3 : Int} {a4 : ByteArray} {b0 b1 b2 b3 : Int} {b4 : ByteArray} (h : ¬ (a0 = b0 ∧ a1 = b1 ∧ a2 = b2 ∧ a3 = b3 ∧ a4 = b4)) : eqK a0 a1 a2 a3 a4 b0 b1 b2 b3 b4 = false := by unfold eqK; exact decide_eq_false h
set_option maxRecDepth 100000 in
set_option maxHeartbeats 16000000 in
theorem rcmp_t (a b : Ke) (ha : a.ok) (hb' : b.ok) (w : World) : Calls Try.prog 66 #[kv a, kv b] w fun e w' => e = .returned (.int .i64 (cmpK a b)) ∧ Below w.heap.size w w' := by
  have h1 := ha.h; have h2 := ha.l; have h3 := hb'.h; have h4 := hb'.l
  clear ha hb'
  obtain ⟨ak, an, ah, al, ap⟩ := a
  obtain ⟨bk, bn, bh, bl, bp⟩ := b
  dsimp only at *
  have hc := cmp_cases ak an ah al ap bk bn bh bl bp h1 h2 h3 h4 _ rfl
  generalize cmpK ⟨ak, an, ah, al, ap⟩ ⟨bk, bn, bh, bl, bp⟩ = r at *
  clear h1 h2 h3 h4
  unfold kv
  dsimp only
  have q := eql_key
  have hA : ∀ l : List UInt8, (⟨l.toArray⟩ : ByteArray).toList = l := bytes_list
  have hne : ¬ ap = bp → ¬ (⟨ap.toArray⟩ : ByteArray) = ⟨bp.toArray⟩ := fun h e => h ((str_eq _ _).1 e)
  have hbe := ba_toList ap bp
  have ea := bytes_list ap
  have eb := bytes_list bp
  rw [← ea, ← eb] at hc
  have hpe : (⟨ap.toArray⟩ : ByteArray).toList = (⟨bp.toArray⟩ : ByteArray).toList → (⟨ap.toArray⟩ : ByteArray) = ⟨bp.toArray⟩ := fun h => by rw [ea, eb] at h; rw [h]
  clear hA hne ea eb hbe
  generalize (⟨ap.toArray⟩ : ByteArray) = pa at *
  generalize (⟨bp.toArray⟩ : ByteArray) = pb at *
  have hpn : ¬ pa.toList = pb.toList → ¬ pa = pb := fun h e => h (by rw [e])
  rcases hc with ⟨x, rfl⟩ | ⟨x, rfl⟩ | ⟨rfl, x, rfl⟩ | ⟨rfl, x, rfl⟩ | ⟨rfl, rfl, x, rfl⟩ | ⟨rfl, rfl, x, rfl⟩ | ⟨rfl, rfl, rfl, x, y, rfl⟩ | ⟨rfl, rfl, rfl, x, y, rfl⟩ | ⟨rfl, rfl, rfl, x, y, rfl⟩ | ⟨rfl, rfl, rfl, x, y, rfl⟩ | ⟨rfl, rfl, rfl, x, rfl, rfl⟩
  ·   have he := eqK_no (a0 := ak) (a1 := an) (a2 := ah) (a3 := al) (a4 := pa) (b0 := bk) (b1 := bn) (b2 := bh) (b3 := bl) (b4 := pb) (by rintro ⟨e0, e1, e2, e3, e4⟩; omega)
      clear hpe hpn
      go_enter Try.func66, Try.ntmps66
      go_wp2
      go_ret
      exact ⟨rfl, (by repeat (first | exact Below.refl _ _ | assumption | (with_reducible refine Below.setCell ?_ ?h _; case h => first | omega | (simp; done) | (simp; omega)) | (with_reducible refine Below.alloc ?_ ?h _; case h => first | omega | (simp; done) | (simp; omega)) | (with_reducible refine Below.drew ?_) | (with_reducible refine Below.trans ?_ (hb4.mono ?h); case h => first | omega | (simp; done) | (simp; omega)) | (with_reducible refine Below.trans ?_ (hb3.mono ?h); case h => first | omega | (simp; done) | (simp; omega)) | (with_reducible refine Below.trans ?_ (hb2.mono ?h); case h => first | omega | (simp; done) | (simp; omega)) | (with_reducible refine Below.trans ?_ (hb.mono ?h); case h => first | omega | (simp; done) | (simp; omega)) | (with_reducible refine Below.trans ?_ (hb0.mono ?h); case h => first | omega | (simp; done) | (simp; omega))))⟩
  ·   have he := eqK_no (a0 := ak) (a1 := an) (a2 := ah) (a3 := al) (a4 := pa) (b0 := bk) (b1 := bn) (b2 := bh) (b3 := bl) (b4 := pb) (by rintro ⟨e0, e1, e2, e3, e4⟩; omega)
      clear hpe hpn
      go_enter Try.func66, Try.ntmps66
      go_wp2
      go_ret
      exact ⟨rfl, (by repeat (first | exact Below.refl _ _ | assumption | (with_reducible refine Below.setCell ?_ ?h _; case h => first | omega | (simp; done) | (simp; omega)) | (with_reducible refine Below.alloc ?_ ?h _; case h => first | omega | (simp; done) | (simp; omega)) | (with_reducible refine Below.drew ?_) | (with_reducible refine Below.trans ?_ (hb4.mono ?h); case h => first | omega | (simp; done) | (simp; omega)) | (with_reducible refine Below.trans ?_ (hb3.mono ?h); case h => first | omega | (simp; done) | (simp; omega)) | (with_reducible refine Below.trans ?_ (hb2.mono ?h); case h => first | omega | (simp; done) | (simp; omega)) | (with_reducible refine Below.trans ?_ (hb.mono ?h); case h => first | omega | (simp; done) | (simp; omega)) | (with_reducible refine Below.trans ?_ (hb0.mono ?h); case h => first | omega | (simp; done) | (simp; omega))))⟩
  ·   have he := eqK_no (a0 := ak) (a1 := an) (a2 := ah) (a3 := al) (a4 := pa) (b0 := ak) (b1 := bn) (b2 := bh) (b3 := bl) (b4 := pb) (by rintro ⟨e0, e1, e2, e3, e4⟩; omega)
      clear hpe hpn
      go_enter Try.func66, Try.ntmps66
      go_wp2
      go_ret
      exact ⟨rfl, (by repeat (first | exact Below.refl _ _ | assumption | (with_reducible refine Below.setCell ?_ ?h _; case h => first | omega | (simp; done) | (simp; omega)) | (with_reducible refine Below.alloc ?_ ?h _; case h => first | omega | (simp; done) | (simp; omega)) | (with_reducible refine Below.drew ?_) | (with_reducible refine Below.trans ?_ (hb4.mono ?h); case h => first | omega | (simp; done) | (simp; omega)) | (with_reducible refine Below.trans ?_ (hb3.mono ?h); case h => first | omega | (simp; done) | (simp; omega)) | (with_reducible refine Below.trans ?_ (hb2.mono ?h); case h => first | omega | (simp; done) | (simp; omega)) | (with_reducible refine Below.trans ?_ (hb.mono ?h); case h => first | omega | (simp; done) | (simp; omega)) | (with_reducible refine Below.trans ?_ (hb0.mono ?h); case h => first | omega | (simp; done) | (simp; omega))))⟩
  ·   have he := eqK_no (a0 := ak) (a1 := an) (a2 := ah) (a3 := al) (a4 := pa) (b0 := ak) (b1 := bn) (b2 := bh) (b3 := bl) (b4 := pb) (by rintro ⟨e0, e1, e2, e3, e4⟩; omega)
      clear hpe hpn
      go_enter Try.func66, Try.ntmps66
      go_wp2
      go_ret
      exact ⟨rfl, (by repeat (first | exact Below.refl _ _ | assumption | (with_reducible refine Below.setCell ?_ ?h _; case h => first | omega | (simp; done) | (simp; omega)) | (with_reducible refine Below.alloc ?_ ?h _; case h => first | omega | (simp; done) | (simp; omega)) | (with_reducible refine Below.drew ?_) | (with_reducible refine Below.trans ?_ (hb4.mono ?h); case h => first | omega | (simp; done) | (simp; omega)) | (with_reducible refine Below.trans ?_ (hb3.mono ?h); case h => first | omega | (simp; done) | (simp; omega)) | (with_reducible refine Below.trans ?_ (hb2.mono ?h); case h => first | omega | (simp; done) | (simp; omega)) | (with_reducible refine Below.trans ?_ (hb.mono ?h); case h => first | omega | (simp; done) | (simp; omega)) | (with_reducible refine Below.trans ?_ (hb0.mono ?h); case h => first | omega | (simp; done) | (simp; omega))))⟩
  ·   have he := eqK_no (a0 := ak) (a1 := an) (a2 := ah) (a3 := al) (a4 := pa) (b0 := ak) (b1 := bn) (b2 := ah) (b3 := bl) (b4 := pb) (by rintro ⟨e0, e1, e2, e3, e4⟩; omega)
      clear hpe hpn
      go_enter Try.func66, Try.ntmps66
      go_wp2
      go_ret
      exact ⟨rfl, (by repeat (first | exact Below.refl _ _ | assumption | (with_reducible refine Below.setCell ?_ ?h _; case h => first | omega | (simp; done) | (simp; omega)) | (with_reducible refine Below.alloc ?_ ?h _; case h => first | omega | (simp; done) | (simp; omega)) | (with_reducible refine Below.drew ?_) | (with_reducible refine Below.trans ?_ (hb4.mono ?h); case h => first | omega | (simp; done) | (simp; omega)) | (with_reducible refine Below.trans ?_ (hb3.mono ?h); case h => first | omega | (simp; done) | (simp; omega)) | (with_reducible refine Below.trans ?_ (hb2.mono ?h); case h => first | omega | (simp; done) | (simp; omega)) | (with_reducible refine Below.trans ?_ (hb.mono ?h); case h => first | omega | (simp; done) | (simp; omega)) | (with_reducible refine Below.trans ?_ (hb0.mono ?h); case h => first | omega | (simp; done) | (simp; omega))))⟩
  ·   have he := eqK_no (a0 := ak) (a1 := an) (a2 := ah) (a3 := al) (a4 := pa) (b0 := ak) (b1 := bn) (b2 := ah) (b3 := bl) (b4 := pb) (by rintro ⟨e0, e1, e2, e3, e4⟩; omega)
      clear hpe hpn
      go_enter Try.func66, Try.ntmps66
      go_wp2
      go_ret
      exact ⟨rfl, (by repeat (first | exact Below.refl _ _ | assumption | (with_reducible refine Below.setCell ?_ ?h _; case h => first | omega | (simp; done) | (simp; omega)) | (with_reducible refine Below.alloc ?_ ?h _; case h => first | omega | (simp; done) | (simp; omega)) | (with_reducible refine Below.drew ?_) | (with_reducible refine Below.trans ?_ (hb4.mono ?h); case h => first | omega | (simp; done) | (simp; omega)) | (with_reducible refine Below.trans ?_ (hb3.mono ?h); case h => first | omega | (simp; done) | (simp; omega)) | (with_reducible refine Below.trans ?_ (hb2.mono ?h); case h => first | omega | (simp; done) | (simp; omega)) | (with_reducible refine Below.trans ?_ (hb.mono ?h); case h => first | omega | (simp; done) | (simp; omega)) | (with_reducible refine Below.trans ?_ (hb0.mono ?h); case h => first | omega | (simp; done) | (simp; omega))))⟩
  ·   have he := eqK_no (a0 := ak) (a1 := an) (a2 := ah) (a3 := al) (a4 := pa) (b0 := ak) (b1 := bn) (b2 := ah) (b3 := al) (b4 := pb) (by rintro ⟨e0, e1, e2, e3, e4⟩; exact hpn y e4)
      have y2 : (pa.toList == pb.toList) = false := by simpa using y
      clear hpe hpn y
      go_enter Try.func66, Try.ntmps66
      go_wp2
      go_ret
      exact ⟨rfl, (by repeat (first | exact Below.refl _ _ | assumption | (with_reducible refine Below.setCell ?_ ?h _; case h => first | omega | (simp; done) | (simp; omega)) | (with_reducible refine Below.alloc ?_ ?h _; case h => first | omega | (simp; done) | (simp; omega)) | (with_reducible refine Below.drew ?_) | (with_reducible refine Below.trans ?_ (hb4.mono ?h); case h => first | omega | (simp; done) | (simp; omega)) | (with_reducible refine Below.trans ?_ (hb3.mono ?h); case h => first | omega | (simp; done) | (simp; omega)) | (with_reducible refine Below.trans ?_ (hb2.mono ?h); case h => first | omega | (simp; done) | (simp; omega)) | (with_reducible refine Below.trans ?_ (hb.mono ?h); case h => first | omega | (simp; done) | (simp; omega)) | (with_reducible refine Below.trans ?_ (hb0.mono ?h); case h => first | omega | (simp; done) | (simp; omega))))⟩
  ·   have he := eqK_no (a0 := ak) (a1 := an) (a2 := ah) (a3 := al) (a4 := pa) (b0 := ak) (b1 := bn) (b2 := ah) (b3 := al) (b4 := pb) (by rintro ⟨e0, e1, e2, e3, e4⟩; exact hpn y e4)
      have y2 : (pa.toList == pb.toList) = false := by simpa using y
      clear hpe hpn y
      go_enter Try.func66, Try.ntmps66
      go_wp2
      go_ret
      exact ⟨rfl, (by repeat (first | exact Below.refl _ _ | assumption | (with_reducible refine Below.setCell ?_ ?h _; case h => first | omega | (simp; done) | (simp; omega)) | (with_reducible refine Below.alloc ?_ ?h _; case h => first | omega | (simp; done) | (simp; omega)) | (with_reducible refine Below.drew ?_) | (with_reducible refine Below.trans ?_ (hb4.mono ?h); case h => first | omega | (simp; done) | (simp; omega)) | (with_reducible refine Below.trans ?_ (hb3.mono ?h); case h => first | omega | (simp; done) | (simp; omega)) | (with_reducible refine Below.trans ?_ (hb2.mono ?h); case h => first | omega | (simp; done) | (simp; omega)) | (with_reducible refine Below.trans ?_ (hb.mono ?h); case h => first | omega | (simp; done) | (simp; omega)) | (with_reducible refine Below.trans ?_ (hb0.mono ?h); case h => first | omega | (simp; done) | (simp; omega))))⟩
  ·   obtain rfl := hpe x
      have he := eqK_no (a0 := ak) (a1 := an) (a2 := ah) (a3 := al) (a4 := pa) (b0 := ak) (b1 := bn) (b2 := ah) (b3 := al) (b4 := pa) (by rintro ⟨e0, e1, e2, e3, e4⟩; omega)
      have y2 := bless_self pa.toList
      clear hpe hpn x
      go_enter Try.func66, Try.ntmps66
      go_wp2
      go_ret
      exact ⟨rfl, (by repeat (first | exact Below.refl _ _ | assumption | (with_reducible refine Below.setCell ?_ ?h _; case h => first | omega | (simp; done) | (simp; omega)) | (with_reducible refine Below.alloc ?_ ?h _; case h => first | omega | (simp; done) | (simp; omega)) | (with_reducible refine Below.drew ?_) | (with_reducible refine Below.trans ?_ (hb4.mono ?h); case h => first | omega | (simp; done) | (simp; omega)) | (with_reducible refine Below.trans ?_ (hb3.mono ?h); case h => first | omega | (simp; done) | (simp; omega)) | (with_reducible refine Below.trans ?_ (hb2.mono ?h); case h => first | omega | (simp; done) | (simp; omega)) | (with_reducible refine Below.trans ?_ (hb.mono ?h); case h => first | omega | (simp; done) | (simp; omega)) | (with_reducible refine Below.trans ?_ (hb0.mono ?h); case h => first | omega | (simp; done) | (simp; omega))))⟩
  ·   obtain rfl := hpe x
      have he := eqK_no (a0 := ak) (a1 := an) (a2 := ah) (a3 := al) (a4 := pa) (b0 := ak) (b1 := bn) (b2 := ah) (b3 := al) (b4 := pa) (by rintro ⟨e0, e1, e2, e3, e4⟩; omega)
      have y2 := bless_self pa.toList
      clear hpe hpn x
      go_enter Try.func66, Try.ntmps66
      go_wp2
      go_ret
      exact ⟨rfl, (by repeat (first | exact Below.refl _ _ | assumption | (with_reducible refine Below.setCell ?_ ?h _; case h => first | omega | (simp; done) | (simp; omega)) | (with_reducible refine Below.alloc ?_ ?h _; case h => first | omega | (simp; done) | (simp; omega)) | (with_reducible refine Below.drew ?_) | (with_reducible refine Below.trans ?_ (hb4.mono ?h); case h => first | omega | (simp; done) | (simp; omega)) | (with_reducible refine Below.trans ?_ (hb3.mono ?h); case h => first | omega | (simp; done) | (simp; omega)) | (with_reducible refine Below.trans ?_ (hb2.mono ?h); case h => first | omega | (simp; done) | (simp; omega)) | (with_reducible refine Below.trans ?_ (hb.mono ?h); case h => first | omega | (simp; done) | (simp; omega)) | (with_reducible refine Below.trans ?_ (hb0.mono ?h); case h => first | omega | (simp; done) | (simp; omega))))⟩
  · obtain rfl := hpe x
    have he := eqK_self ak an ah al pa
    clear hpe hpn x
    go_enter Try.func66, Try.ntmps66
    go_wp2
    go_ret
    exact ⟨rfl, (by repeat (first | exact Below.refl _ _ | assumption | (with_reducible refine Below.setCell ?_ ?h _; case h => first | omega | (simp; done) | (simp; omega)) | (with_reducible refine Below.alloc ?_ ?h _; case h => first | omega | (simp; done) | (simp; omega)) | (with_reducible refine Below.drew ?_) | (with_reducible refine Below.trans ?_ (hb4.mono ?h); case h => first | omega | (simp; done) | (simp; omega)) | (with_reducible refine Below.trans ?_ (hb3.mono ?h); case h => first | omega | (simp; done) | (simp; omega)) | (with_reducible refine Below.trans ?_ (hb2.mono ?h); case h => first | omega | (simp; done) | (simp; omega)) | (with_reducible refine Below.trans ?_ (hb.mono ?h); case h => first | omega | (simp; done) | (simp; omega)) | (with_reducible refine Below.trans ?_ (hb0.mono ?h); case h => first | omega | (simp; done) | (simp; omega))))⟩
end Go.Proofs.Ytbekocknfpekoaa
namespace Go.Proofs.Ytbekocknfpekoaa
set_option linter.unusedVariables false
set_option linter.unusedSimpArgs false
open Go.RowKit
theorem bless_trans : ∀ (a b c : List UInt8), Op.bytesLess a b = true → Op.bytesLess b c = true → Op.bytesLess a c = true
  | _, _, [], _, h => by cases ‹List UInt8› <;> simp [Op.bytesLess] at h
  | [], _, _ :: _, _, _ => rfl
  | x :: a, [], _ :: _, h, _ => by simp [Op.bytesLess] at h
  | x :: a, y :: b, z :: c, h1, h2 => by
    simp only [Op.bytesLess, Bool.or_eq_true, Bool.and_eq_true, decide_eq_true_eq, beq_iff_eq] at *
    rcases h1 with h1 | ⟨h1, h1'⟩
    · rcases h2 with h2 | ⟨h2, h2'⟩
      · exact .inl (UInt8.lt_trans h1 h2)
      · exact .inl (h2 ▸ h1)
    · rcases h2 with h2 | ⟨h2, h2'⟩
      · exact .inl (h1 ▸ h2)
      · exact .inr ⟨h1.trans h2, bless_trans a b c h1' h2'⟩
/-- a comparison that is an order -/
structure Ord3 {α : Type} (c : α → α → Int) : Prop where
  lo : ∀ a b, -1 ≤ c a b
  hi : ∀ a b, c a b ≤ 1
  anti : ∀ a b, c b a = -c a b
  tr : ∀ a b x, c a b ≤ 0 → c b x ≤ 0 → c a x ≤ 0
theorem Ord3.zero_left {α : Type} {c : α → α → Int} (O : Ord3 c) {a b : α} (h : c a b = 0) (x : α) : c a x = c b x := by
  have h1 := O.tr a b x
  have h2 := O.tr b a x
  have h3 := O.tr x b a
  have h4 := O.tr x a b
  have e0 := O.anti a b
  have e1 := O.anti a x
  have e2 := O.anti b x
  have l1 := O.lo a x
  have l2 := O.hi a x
  have l3 := O.lo b x
  have l4 := O.hi b x
  omega
def lex {α : Type} (c d : α → α → Int) (a b : α) : Int := if c a b ≠ 0 then c a b else d a b
theorem Ord3.lex {α : Type} {c d : α → α → Int} (C : Ord3 c) (D : Ord3 d) : Ord3 (lex c d) := by
  constructor
  · intro a b; unfold Go.Proofs.Ytbekocknfpekoaa.lex; split; exact C.lo a b; exact D.lo a b
  · intro a b; unfold Go.Proofs.Ytbekocknfpekoaa.lex; split; exact C.hi a b; exact D.hi a b
  · intro a b
    have e1 := C.anti a b
    have e2 := D.anti a b
    unfold Go.Proofs.Ytbekocknfpekoaa.lex
    split <;> split <;> omega
  · intro a b x
    have e1 := C.tr a b x
    have e2 := D.tr a b x
    unfold Go.Proofs.Ytbekocknfpekoaa.lex
    intro h1 h2
    have c1 : c a b ≤ 0 := by split at h1 <;> omega
    have c2 : c b x ≤ 0 := by split at h2 <;> omega
    have c3 := e1 c1 c2
    by_cases hz : c a x = 0
    · have z1 := C.anti a x
      have z2 := C.zero_left (show c x a = 0 by omega) b
      have z3 := C.anti b x
      have y1 : c a b = 0 := by omega
      have y2 : c b x = 0 := by omega
      rw [if_neg (by simp [y1])] at h1
      rw [if_neg (by simp [y2])] at h2
      rw [if_neg (by simp [hz])]
      exact e2 h1 h2
    · rw [if_pos hz]; exact c3
theorem Ord3.on {α β : Type} {c : α → α → Int} (C : Ord3 c) (f : β → α) : Ord3 (fun a b => c (f a) (f b)) :=
  ⟨fun a b => C.lo _ _, fun a b => C.hi _ _, fun a b => C.anti _ _, fun a b x => C.tr _ _ _⟩
theorem ord_I : Ord3 cmpI := by
  constructor
  · intro a b; exact (cmpI_range a b).1
  · intro a b; exact (cmpI_range a b).2
  · intro a b; unfold cmpI; repeat' split
    all_goals omega
  · intro a b x; simp only [cmpI_le]; omega
theorem ord_S : Ord3 cmpS := by
  constructor
  · intro a b; unfold cmpS; split <;> (try split) <;> omega
  · intro a b; unfold cmpS; split <;> (try split) <;> omega
  · intro a b
    by_cases e : a = b
    · subst e; rw [cmpS_self]; rfl
    · cases h : Op.bytesLess a b with
      | true =>
        have h2 : Op.bytesLess b a = false := by
          cases h2 : Op.bytesLess b a with
          | false => rfl
          | true => have := bless_trans a b a h h2; rw [bless_self] at this; cases this
        rw [cmpS_neg h, cmpS_pos h2 (fun x => e x.symm)]; rfl
      | false => rw [cmpS_pos h e, cmpS_neg (bless_asymm a b e h)]
  · intro a b x h1 h2
    rcases cmpS_le h1 with h1 | rfl
    · rcases cmpS_le h2 with h2 | rfl
      · rw [cmpS_neg (bless_trans a b x h1 h2)]; omega
      · rw [cmpS_neg h1]; omega
    · exact h2
theorem cmpK_lex (a b : Ke) : cmpK a b = lex (fun a b => cmpI a.kind b.kind) (lex (fun a b => cmpI a.num b.num) (lex (fun a b => cmpS a.path b.path) (fun a b => cmpI a.len b.len))) a b := by
  unfold cmpK lex
  simp only [fnz]
  by_cases h0 : cmpI a.kind b.kind = 0 <;> by_cases h1 : cmpI a.num b.num = 0 <;> by_cases h2 : cmpS a.path b.path = 0 <;> by_cases h3 : cmpI a.len b.len = 0 <;> simp [h0, h1, h2, h3]
theorem ord_K : Ord3 cmpK := by
  have O := (ord_I.on Ke.kind).lex ((ord_I.on Ke.num).lex ((ord_S.on Ke.path).lex (ord_I.on Ke.len)))
  have e : cmpK = lex (fun a b => cmpI a.kind b.kind) (lex (fun a b => cmpI a.num b.num) (lex (fun a b => cmpS a.path b.path) (fun a b => cmpI a.len b.len))) := by funext a b; exact cmpK_lex a b
  rw [e]; exact O
theorem cmpP_lex (p q : Px) : cmpP p q = lex (fun a b => cmpI a.a0 b.a0) (lex (fun a b => cmpI a.a1 b.a1) (lex (fun a b => cmpK a.k0 b.k0) (fun a b => cmpK a.k1 b.k1))) p q := by
  unfold cmpP lex
  by_cases h3 : cmpK p.k1 q.k1 = 0 <;> simp [h3]
theorem ord_P : Ord3 cmpP := by
  have O := (ord_I.on Px.a0).lex ((ord_I.on Px.a1).lex ((ord_K.on Px.k0).lex (ord_K.on Px.k1)))
  have e : cmpP = lex (fun a b => cmpI a.a0 b.a0) (lex (fun a b => cmpI a.a1 b.a1) (lex (fun a b => cmpK a.k0 b.k0) (fun a b => cmpK a.k1 b.k1))) := by funext a b; exact cmpP_lex a b
  rw [e]; exact O
theorem cmpK_zero {a b : Ke} (oa : a.ok) (ob : b.ok) : cmpK a b = 0 ↔ a = b := by
  constructor
  · intro h
    rw [cmpK_lex] at h
    unfold lex at h
    by_cases h0 : cmpI a.kind b.kind = 0
    · by_cases h1 : cmpI a.num b.num = 0
      · by_cases h2 : cmpS a.path b.path = 0
        · simp [h0, h1, h2] at h
          have n := cmpI_zero.1 h1
          unfold Ke.num at n
          have e1 : a.h = b.h := by rw [← hi_wv oa.h oa.l, ← hi_wv ob.h ob.l, n]
          have e2 : a.l = b.l := by rw [← lo_wv (h := a.h) oa.l, ← lo_wv (h := b.h) ob.l, n]
          exact ke_ext (cmpI_zero.1 h0) (cmpI_zero.1 h) e1 e2 (cmpS_zero h2)
        · simp [h0, h1, h2] at h
      · simp [h0, h1] at h
    · simp [h0] at h
  · rintro rfl; exact cmpK_self a
theorem cmpP_zero {p q : Px} (op : p.ok) (oq : q.ok) : cmpP p q = 0 ↔ p = q := by
  constructor
  · intro h
    unfold cmpP at h
    by_cases h0 : cmpI p.a0 q.a0 = 0
    · by_cases h1 : cmpI p.a1 q.a1 = 0
      · by_cases h2 : cmpK p.k0 q.k0 = 0
        · by_cases h3 : cmpK p.k1 q.k1 = 0
          · exact px_ext (cmpI_zero.1 h0) (cmpI_zero.1 h1) ((cmpK_zero op.k0 oq.k0).1 h2) ((cmpK_zero op.k1 oq.k1).1 h3)
          · simp [h0, h1, h2, h3] at h
        · simp [h0, h1, h2] at h
      · simp [h0, h1] at h
    · simp [h0] at h
  · rintro rfl; have := ord_P.anti p p; omega
end Go.Proofs.Ytbekocknfpekoaa
namespace Go.Proofs.Ytbekocknfpekoaa
set_option linter.unusedVariables false
set_option linter.unusedSimpArgs false
open Go.RowKit
def leafP (s : Sp) (a b : Ke) : Px := if rightP s ⟨0, 0, a, b⟩ = true then ⟨0, 0, a, b⟩ else pz
def heightP (s : Sp) (p : Px) : Int := if rightP s p = true then p.a0 + p.a1 else 0
set_option maxRecDepth 100000 in
set_option maxHeartbeats 8000000 in
theorem leaf_false (s : Sp) (a b : Ke) (HR : ∀ w, Calls Try.prog 20 #[sv s, pv ⟨0, 0, a, b⟩] w fun e w' => e = .returned (.bool false) ∧ Below w.heap.size w w') (w : World) : Calls Try.prog 16 #[sv s, kv a, kv b] w fun e w' => e = .returned (.tuple #[.agg #[.int .i64 0, .int .i64 0, .int .i64 0, .int .i64 0, .int .u64 0, .int .u64 0, .string ⟨#[]⟩, .int .i64 0, .int .i64 0, .int .u64 0, .int .u64 0, .string ⟨#[]⟩], .bool false]) ∧ Below w.heap.size w w' := by
  unfold sv pv at *
  unfold kv
  dsimp only at *
  obtain ⟨RR0, RR1, RR2, RR3, hb0⟩ := four_rows w #[.int .i64 s.n, .int .i64 s.d0.kind, .int .i64 s.d0.side, .int .i64 s.d0.step, .int .i64 s.d1.kind, .int .i64 s.d1.side, .int .i64 s.d1.step] #[.int .i64 a.kind, .int .i64 a.len, .int .u64 a.h, .int .u64 a.l, .string ⟨a.path.toArray⟩] #[.int .i64 b.kind, .int .i64 b.len, .int .u64 b.h, .int .u64 b.l, .string ⟨b.path.toArray⟩] #[.int .i64 0, .int .i64 0, .int .i64 0, .int .i64 0, .int .u64 0, .int .u64 0, .string ⟨#[]⟩, .int .i64 0, .int .i64 0, .int .u64 0, .int .u64 0, .string ⟨#[]⟩] 26 30 30 33
  have c0 := (RR0.cell 0).trans (show _ = some (Value.int .i64 s.n) from rfl)
  have c1 := (RR0.cell 1).trans (show _ = some (Value.int .i64 s.d0.kind) from rfl)
  have c2 := (RR0.cell 2).trans (show _ = some (Value.int .i64 s.d0.side) from rfl)
  have c3 := (RR0.cell 3).trans (show _ = some (Value.int .i64 s.d0.step) from rfl)
  have c4 := (RR0.cell 4).trans (show _ = some (Value.int .i64 s.d1.kind) from rfl)
  have c5 := (RR0.cell 5).trans (show _ = some (Value.int .i64 s.d1.side) from rfl)
  have c6 := (RR0.cell 6).trans (show _ = some (Value.int .i64 s.d1.step) from rfl)
  have d0 := (RR1.cell 0).trans (show _ = some (Value.int .i64 a.kind) from rfl)
  have d1 := (RR1.cell 1).trans (show _ = some (Value.int .i64 a.len) from rfl)
  have d2 := (RR1.cell 2).trans (show _ = some (Value.int .u64 a.h) from rfl)
  have d3 := (RR1.cell 3).trans (show _ = some (Value.int .u64 a.l) from rfl)
  have d4 := (RR1.cell 4).trans (show _ = some (Value.string ⟨a.path.toArray⟩) from rfl)
  have e0 := (RR2.cell 0).trans (show _ = some (Value.int .i64 b.kind) from rfl)
  have e1 := (RR2.cell 1).trans (show _ = some (Value.int .i64 b.len) from rfl)
  have e2 := (RR2.cell 2).trans (show _ = some (Value.int .u64 b.h) from rfl)
  have e3 := (RR2.cell 3).trans (show _ = some (Value.int .u64 b.l) from rfl)
  have e4 := (RR2.cell 4).trans (show _ = some (Value.string ⟨b.path.toArray⟩) from rfl)
  have r0 := (RR3.cell 0).trans (show _ = some (Value.int .i64 0) from rfl)
  have r1 := (RR3.cell 1).trans (show _ = some (Value.int .i64 0) from rfl)
  have r2 := (RR3.cell 2).trans (show _ = some (Value.int .i64 0) from rfl)
  have r3 := (RR3.cell 3).trans (show _ = some (Value.int .i64 0) from rfl)
  have r4 := (RR3.cell 4).trans (show _ = some (Value.int .u64 0) from rfl)
  have r5 := (RR3.cell 5).trans (show _ = some (Value.int .u64 0) from rfl)
  have r6 := (RR3.cell 6).trans (show _ = some (Value.string ⟨#[]⟩) from rfl)
  have r7 := (RR3.cell 7).trans (show _ = some (Value.int .i64 0) from rfl)
  have r8 := (RR3.cell 8).trans (show _ = some (Value.int .i64 0) from rfl)
  have r9 := (RR3.cell 9).trans (show _ = some (Value.int .u64 0) from rfl)
  have r10 := (RR3.cell 10).trans (show _ = some (Value.int .u64 0) from rfl)
  have r11 := (RR3.cell 11).trans (show _ = some (Value.string ⟨#[]⟩) from rfl)
  have Rr := RR3
  clear RR0 RR1 RR2 RR3
  go_enter Try.func16, Try.ntmps16
  go_wp2_with fail
  refine (HR _).mono ?_
  rintro e w1 ⟨rfl, hb⟩
  replace c0 := cell_later hb (cell_later ((Below.refl _ _).alloc (Nat.le_refl _) _) c0)
  replace c1 := cell_later hb (cell_later ((Below.refl _ _).alloc (Nat.le_refl _) _) c1)
  replace c2 := cell_later hb (cell_later ((Below.refl _ _).alloc (Nat.le_refl _) _) c2)
  replace c3 := cell_later hb (cell_later ((Below.refl _ _).alloc (Nat.le_refl _) _) c3)
  replace c4 := cell_later hb (cell_later ((Below.refl _ _).alloc (Nat.le_refl _) _) c4)
  replace c5 := cell_later hb (cell_later ((Below.refl _ _).alloc (Nat.le_refl _) _) c5)
  replace c6 := cell_later hb (cell_later ((Below.refl _ _).alloc (Nat.le_refl _) _) c6)
  replace d0 := cell_later hb (cell_later ((Below.refl _ _).alloc (Nat.le_refl _) _) d0)
  replace d1 := cell_later hb (cell_later ((Below.refl _ _).alloc (Nat.le_refl _) _) d1)
  replace d2 := cell_later hb (cell_later ((Below.refl _ _).alloc (Nat.le_refl _) _) d2)
  replace d3 := cell_later hb (cell_later ((Below.refl _ _).alloc (Nat.le_refl _) _) d3)
  replace d4 := cell_later hb (cell_later ((Below.refl _ _).alloc (Nat.le_refl _) _) d4)
  replace e0 := cell_later hb (cell_later ((Below.refl _ _).alloc (Nat.le_refl _) _) e0)
  replace e1 := cell_later hb (cell_later ((Below.refl _ _).alloc (Nat.le_refl _) _) e1)
  replace e2 := cell_later hb (cell_later ((Below.refl _ _).alloc (Nat.le_refl _) _) e2)
  replace e3 := cell_later hb (cell_later ((Below.refl _ _).alloc (Nat.le_refl _) _) e3)
  replace e4 := cell_later hb (cell_later ((Below.refl _ _).alloc (Nat.le_refl _) _) e4)
  replace r0 := cell_later hb (cell_later ((Below.refl _ _).alloc (Nat.le_refl _) _) r0)
  replace r1 := cell_later hb (cell_later ((Below.refl _ _).alloc (Nat.le_refl _) _) r1)
  replace r2 := cell_later hb (cell_later ((Below.refl _ _).alloc (Nat.le_refl _) _) r2)
  replace r3 := cell_later hb (cell_later ((Below.refl _ _).alloc (Nat.le_refl _) _) r3)
  replace r4 := cell_later hb (cell_later ((Below.refl _ _).alloc (Nat.le_refl _) _) r4)
  replace r5 := cell_later hb (cell_later ((Below.refl _ _).alloc (Nat.le_refl _) _) r5)
  replace r6 := cell_later hb (cell_later ((Below.refl _ _).alloc (Nat.le_refl _) _) r6)
  replace r7 := cell_later hb (cell_later ((Below.refl _ _).alloc (Nat.le_refl _) _) r7)
  replace r8 := cell_later hb (cell_later ((Below.refl _ _).alloc (Nat.le_refl _) _) r8)
  replace r9 := cell_later hb (cell_later ((Below.refl _ _).alloc (Nat.le_refl _) _) r9)
  replace r10 := cell_later hb (cell_later ((Below.refl _ _).alloc (Nat.le_refl _) _) r10)
  replace r11 := cell_later hb (cell_later ((Below.refl _ _).alloc (Nat.le_refl _) _) r11)
  replace Rr := (Rr.alloc _).later hb
  have f0 := ((Row.later (Row.new _ _ _) hb).cell 0).trans (show _ = some (Value.int .i64 0) from rfl)
  have f1 := ((Row.later (Row.new _ _ _) hb).cell 1).trans (show _ = some (Value.int .i64 0) from rfl)
  have f2 := ((Row.later (Row.new _ _ _) hb).cell 2).trans (show _ = some (Value.int .i64 a.kind) from rfl)
  have f3 := ((Row.later (Row.new _ _ _) hb).cell 3).trans (show _ = some (Value.int .i64 a.len) from rfl)
  have f4 := ((Row.later (Row.new _ _ _) hb).cell 4).trans (show _ = some (Value.int .u64 a.h) from rfl)
  have f5 := ((Row.later (Row.new _ _ _) hb).cell 5).trans (show _ = some (Value.int .u64 a.l) from rfl)
  have f6 := ((Row.later (Row.new _ _ _) hb).cell 6).trans (show _ = some (Value.string ⟨a.path.toArray⟩) from rfl)
  have f7 := ((Row.later (Row.new _ _ _) hb).cell 7).trans (show _ = some (Value.int .i64 b.kind) from rfl)
  have f8 := ((Row.later (Row.new _ _ _) hb).cell 8).trans (show _ = some (Value.int .i64 b.len) from rfl)
  have f9 := ((Row.later (Row.new _ _ _) hb).cell 9).trans (show _ = some (Value.int .u64 b.h) from rfl)
  have f10 := ((Row.later (Row.new _ _ _) hb).cell 10).trans (show _ = some (Value.int .u64 b.l) from rfl)
  have f11 := ((Row.later (Row.new _ _ _) hb).cell 11).trans (show _ = some (Value.string ⟨b.path.toArray⟩) from rfl)
  simp only [World.size_alloc] at f0
  simp only [World.size_alloc] at f1
  simp only [World.size_alloc] at f2
  simp only [World.size_alloc] at f3
  simp only [World.size_alloc] at f4
  simp only [World.size_alloc] at f5
  simp only [World.size_alloc] at f6
  simp only [World.size_alloc] at f7
  simp only [World.size_alloc] at f8
  simp only [World.size_alloc] at f9
  simp only [World.size_alloc] at f10
  simp only [World.size_alloc] at f11
  replace hb0 := below_step (hb0.alloc (Nat.le_trans hb0.size (Nat.le_refl _)) _) hb
  clear hb
  have lc := World.block_lt_of_cell? _ _ c0
  dsimp only at lc
  have ld := World.block_lt_of_cell? _ _ d0
  dsimp only at ld
  have le := World.block_lt_of_cell? _ _ e0
  dsimp only at le
  have lr := World.block_lt_of_cell? _ _ r0
  dsimp only at lr
  have lf := World.block_lt_of_cell? _ _ f0
  dsimp only at lf
  have rf0 := Rr.frozen 0
  have rf1 := Rr.frozen 1
  have rf2 := Rr.frozen 2
  have rf3 := Rr.frozen 3
  have rf4 := Rr.frozen 4
  have rf5 := Rr.frozen 5
  have rf6 := Rr.frozen 6
  have rf7 := Rr.frozen 7
  have rf8 := Rr.frozen 8
  have rf9 := Rr.frozen 9
  have rf10 := Rr.frozen 10
  have rf11 := Rr.frozen 11
  go_wp2
  have RF := set12 Rr rfl (Value.int .i64 0) (Value.int .i64 0) (Value.int .i64 0) (Value.int .i64 0) (Value.int .u64 0) (Value.int .u64 0) (Value.string ⟨#[]⟩) (Value.int .i64 0) (Value.int .i64 0) (Value.int .u64 0) (Value.int .u64 0) (Value.string ⟨#[]⟩)
  have hbF := bset12 (g := (w.heap.size + 1 + 1 + 1)) hb0 (by omega) (Value.int .i64 0) (Value.int .i64 0) (Value.int .i64 0) (Value.int .i64 0) (Value.int .u64 0) (Value.int .u64 0) (Value.string ⟨#[]⟩) (Value.int .i64 0) (Value.int .i64 0) (Value.int .u64 0) (Value.int .u64 0) (Value.string ⟨#[]⟩)
  generalize hWF : (World.setCell (World.setCell (World.setCell (World.setCell (World.setCell (World.setCell (World.setCell (World.setCell (World.setCell (World.setCell (World.setCell (World.setCell w1 ⟨(w.heap.size + 1 + 1 + 1), 0, none⟩ (Value.int .i64 0)) ⟨(w.heap.size + 1 + 1 + 1), 1, none⟩ (Value.int .i64 0)) ⟨(w.heap.size + 1 + 1 + 1), 2, none⟩ (Value.int .i64 0)) ⟨(w.heap.size + 1 + 1 + 1), 3, none⟩ (Value.int .i64 0)) ⟨(w.heap.size + 1 + 1 + 1), 4, none⟩ (Value.int .u64 0)) ⟨(w.heap.size + 1 + 1 + 1), 5, none⟩ (Value.int .u64 0)) ⟨(w.heap.size + 1 + 1 + 1), 6, none⟩ (Value.string ⟨#[]⟩)) ⟨(w.heap.size + 1 + 1 + 1), 7, none⟩ (Value.int .i64 0)) ⟨(w.heap.size + 1 + 1 + 1), 8, none⟩ (Value.int .i64 0)) ⟨(w.heap.size + 1 + 1 + 1), 9, none⟩ (Value.int .u64 0)) ⟨(w.heap.size + 1 + 1 + 1), 10, none⟩ (Value.int .u64 0)) ⟨(w.heap.size + 1 + 1 + 1), 11, none⟩ (Value.string ⟨#[]⟩)) = wF at *
  have z0 := (RF.cell 0).trans (show _ = some (Value.int .i64 0) from rfl)
  have z1 := (RF.cell 1).trans (show _ = some (Value.int .i64 0) from rfl)
  have z2 := (RF.cell 2).trans (show _ = some (Value.int .i64 0) from rfl)
  have z3 := (RF.cell 3).trans (show _ = some (Value.int .i64 0) from rfl)
  have z4 := (RF.cell 4).trans (show _ = some (Value.int .u64 0) from rfl)
  have z5 := (RF.cell 5).trans (show _ = some (Value.int .u64 0) from rfl)
  have z6 := (RF.cell 6).trans (show _ = some (Value.string ⟨#[]⟩) from rfl)
  have z7 := (RF.cell 7).trans (show _ = some (Value.int .i64 0) from rfl)
  have z8 := (RF.cell 8).trans (show _ = some (Value.int .i64 0) from rfl)
  have z9 := (RF.cell 9).trans (show _ = some (Value.int .u64 0) from rfl)
  have z10 := (RF.cell 10).trans (show _ = some (Value.int .u64 0) from rfl)
  have z11 := (RF.cell 11).trans (show _ = some (Value.string ⟨#[]⟩) from rfl)
  refine bodyPost_ret (v := .tuple #[.agg #[.int .i64 0, .int .i64 0, .int .i64 0, .int .i64 0, .int .u64 0, .int .u64 0, .string ⟨#[]⟩, .int .i64 0, .int .i64 0, .int .u64 0, .int .u64 0, .string ⟨#[]⟩], .bool false]) (by simp [results, Try.results16, go_sem, z0, z1, z2, z3, z4, z5, z6, z7, z8, z9, z10, z11]) rfl ⟨rfl, hbF⟩
set_option maxRecDepth 100000 in
set_option maxHeartbeats 8000000 in
theorem leaf_true (s : Sp) (a b : Ke) (HR : ∀ w, Calls Try.prog 20 #[sv s, pv ⟨0, 0, a, b⟩] w fun e w' => e = .returned (.bool true) ∧ Below w.heap.size w w') (w : World) : Calls Try.prog 16 #[sv s, kv a, kv b] w fun e w' => e = .returned (.tuple #[.agg #[.int .i64 0, .int .i64 0, .int .i64 a.kind, .int .i64 a.len, .int .u64 a.h, .int .u64 a.l, .string ⟨a.path.toArray⟩, .int .i64 b.kind, .int .i64 b.len, .int .u64 b.h, .int .u64 b.l, .string ⟨b.path.toArray⟩], .bool true]) ∧ Below w.heap.size w w' := by
  unfold sv pv at *
  unfold kv
  dsimp only at *
  obtain ⟨RR0, RR1, RR2, RR3, hb0⟩ := four_rows w #[.int .i64 s.n, .int .i64 s.d0.kind, .int .i64 s.d0.side, .int .i64 s.d0.step, .int .i64 s.d1.kind, .int .i64 s.d1.side, .int .i64 s.d1.step] #[.int .i64 a.kind, .int .i64 a.len, .int .u64 a.h, .int .u64 a.l, .string ⟨a.path.toArray⟩] #[.int .i64 b.kind, .int .i64 b.len, .int .u64 b.h, .int .u64 b.l, .string ⟨b.path.toArray⟩] #[.int .i64 0, .int .i64 0, .int .i64 0, .int .i64 0, .int .u64 0, .int .u64 0, .string ⟨#[]⟩, .int .i64 0, .int .i64 0, .int .u64 0, .int .u64 0, .string ⟨#[]⟩] 26 30 30 33
  have c0 := (RR0.cell 0).trans (show _ = some (Value.int .i64 s.n) from rfl)
  have c1 := (RR0.cell 1).trans (show _ = some (Value.int .i64 s.d0.kind) from rfl)
  have c2 := (RR0.cell 2).trans (show _ = some (Value.int .i64 s.d0.side) from rfl)
  have c3 := (RR0.cell 3).trans (show _ = some (Value.int .i64 s.d0.step) from rfl)
  have c4 := (RR0.cell 4).trans (show _ = some (Value.int .i64 s.d1.kind) from rfl)
  have c5 := (RR0.cell 5).trans (show _ = some (Value.int .i64 s.d1.side) from rfl)
  have c6 := (RR0.cell 6).trans (show _ = some (Value.int .i64 s.d1.step) from rfl)
  have d0 := (RR1.cell 0).trans (show _ = some (Value.int .i64 a.kind) from rfl)
  have d1 := (RR1.cell 1).trans (show _ = some (Value.int .i64 a.len) from rfl)
  have d2 := (RR1.cell 2).trans (show _ = some (Value.int .u64 a.h) from rfl)
  have d3 := (RR1.cell 3).trans (show _ = some (Value.int .u64 a.l) from rfl)
  have d4 := (RR1.cell 4).trans (show _ = some (Value.string ⟨a.path.toArray⟩) from rfl)
  have e0 := (RR2.cell 0).trans (show _ = some (Value.int .i64 b.kind) from rfl)
  have e1 := (RR2.cell 1).trans (show _ = some (Value.int .i64 b.len) from rfl)
  have e2 := (RR2.cell 2).trans (show _ = some (Value.int .u64 b.h) from rfl)
  have e3 := (RR2.cell 3).trans (show _ = some (Value.int .u64 b.l) from rfl)
  have e4 := (RR2.cell 4).trans (show _ = some (Value.string ⟨b.path.toArray⟩) from rfl)
  have r0 := (RR3.cell 0).trans (show _ = some (Value.int .i64 0) from rfl)
  have r1 := (RR3.cell 1).trans (show _ = some (Value.int .i64 0) from rfl)
  have r2 := (RR3.cell 2).trans (show _ = some (Value.int .i64 0) from rfl)
  have r3 := (RR3.cell 3).trans (show _ = some (Value.int .i64 0) from rfl)
  have r4 := (RR3.cell 4).trans (show _ = some (Value.int .u64 0) from rfl)
  have r5 := (RR3.cell 5).trans (show _ = some (Value.int .u64 0) from rfl)
  have r6 := (RR3.cell 6).trans (show _ = some (Value.string ⟨#[]⟩) from rfl)
  have r7 := (RR3.cell 7).trans (show _ = some (Value.int .i64 0) from rfl)
  have r8 := (RR3.cell 8).trans (show _ = some (Value.int .i64 0) from rfl)
  have r9 := (RR3.cell 9).trans (show _ = some (Value.int .u64 0) from rfl)
  have r10 := (RR3.cell 10).trans (show _ = some (Value.int .u64 0) from rfl)
  have r11 := (RR3.cell 11).trans (show _ = some (Value.string ⟨#[]⟩) from rfl)
  have Rr := RR3
  clear RR0 RR1 RR2 RR3
  go_enter Try.func16, Try.ntmps16
  go_wp2_with fail
  refine (HR _).mono ?_
  rintro e w2 ⟨rfl, hb⟩
  replace c0 := cell_later hb (cell_later ((Below.refl _ _).alloc (Nat.le_refl _) _) c0)
  replace c1 := cell_later hb (cell_later ((Below.refl _ _).alloc (Nat.le_refl _) _) c1)
  replace c2 := cell_later hb (cell_later ((Below.refl _ _).alloc (Nat.le_refl _) _) c2)
  replace c3 := cell_later hb (cell_later ((Below.refl _ _).alloc (Nat.le_refl _) _) c3)
  replace c4 := cell_later hb (cell_later ((Below.refl _ _).alloc (Nat.le_refl _) _) c4)
  replace c5 := cell_later hb (cell_later ((Below.refl _ _).alloc (Nat.le_refl _) _) c5)
  replace c6 := cell_later hb (cell_later ((Below.refl _ _).alloc (Nat.le_refl _) _) c6)
  replace d0 := cell_later hb (cell_later ((Below.refl _ _).alloc (Nat.le_refl _) _) d0)
  replace d1 := cell_later hb (cell_later ((Below.refl _ _).alloc (Nat.le_refl _) _) d1)
  replace d2 := cell_later hb (cell_later ((Below.refl _ _).alloc (Nat.le_refl _) _) d2)
  replace d3 := cell_later hb (cell_later ((Below.refl _ _).alloc (Nat.le_refl _) _) d3)
  replace d4 := cell_later hb (cell_later ((Below.refl _ _).alloc (Nat.le_refl _) _) d4)
  replace e0 := cell_later hb (cell_later ((Below.refl _ _).alloc (Nat.le_refl _) _) e0)
  replace e1 := cell_later hb (cell_later ((Below.refl _ _).alloc (Nat.le_refl _) _) e1)
  replace e2 := cell_later hb (cell_later ((Below.refl _ _).alloc (Nat.le_refl _) _) e2)
  replace e3 := cell_later hb (cell_later ((Below.refl _ _).alloc (Nat.le_refl _) _) e3)
  replace e4 := cell_later hb (cell_later ((Below.refl _ _).alloc (Nat.le_refl _) _) e4)
  replace r0 := cell_later hb (cell_later ((Below.refl _ _).alloc (Nat.le_refl _) _) r0)
  replace r1 := cell_later hb (cell_later ((Below.refl _ _).alloc (Nat.le_refl _) _) r1)
  replace r2 := cell_later hb (cell_later ((Below.refl _ _).alloc (Nat.le_refl _) _) r2)
  replace r3 := cell_later hb (cell_later ((Below.refl _ _).alloc (Nat.le_refl _) _) r3)
  replace r4 := cell_later hb (cell_later ((Below.refl _ _).alloc (Nat.le_refl _) _) r4)
  replace r5 := cell_later hb (cell_later ((Below.refl _ _).alloc (Nat.le_refl _) _) r5)
  replace r6 := cell_later hb (cell_later ((Below.refl _ _).alloc (Nat.le_refl _) _) r6)
  replace r7 := cell_later hb (cell_later ((Below.refl _ _).alloc (Nat.le_refl _) _) r7)
  replace r8 := cell_later hb (cell_later ((Below.refl _ _).alloc (Nat.le_refl _) _) r8)
  replace r9 := cell_later hb (cell_later ((Below.refl _ _).alloc (Nat.le_refl _) _) r9)
  replace r10 := cell_later hb (cell_later ((Below.refl _ _).alloc (Nat.le_refl _) _) r10)
  replace r11 := cell_later hb (cell_later ((Below.refl _ _).alloc (Nat.le_refl _) _) r11)
  replace Rr := (Rr.alloc _).later hb
  have f0 := ((Row.later (Row.new _ _ _) hb).cell 0).trans (show _ = some (Value.int .i64 0) from rfl)
  have f1 := ((Row.later (Row.new _ _ _) hb).cell 1).trans (show _ = some (Value.int .i64 0) from rfl)
  have f2 := ((Row.later (Row.new _ _ _) hb).cell 2).trans (show _ = some (Value.int .i64 a.kind) from rfl)
  have f3 := ((Row.later (Row.new _ _ _) hb).cell 3).trans (show _ = some (Value.int .i64 a.len) from rfl)
  have f4 := ((Row.later (Row.new _ _ _) hb).cell 4).trans (show _ = some (Value.int .u64 a.h) from rfl)
  have f5 := ((Row.later (Row.new _ _ _) hb).cell 5).trans (show _ = some (Value.int .u64 a.l) from rfl)
  have f6 := ((Row.later (Row.new _ _ _) hb).cell 6).trans (show _ = some (Value.string ⟨a.path.toArray⟩) from rfl)
  have f7 := ((Row.later (Row.new _ _ _) hb).cell 7).trans (show _ = some (Value.int .i64 b.kind) from rfl)
  have f8 := ((Row.later (Row.new _ _ _) hb).cell 8).trans (show _ = some (Value.int .i64 b.len) from rfl)
  have f9 := ((Row.later (Row.new _ _ _) hb).cell 9).trans (show _ = some (Value.int .u64 b.h) from rfl)
  have f10 := ((Row.later (Row.new _ _ _) hb).cell 10).trans (show _ = some (Value.int .u64 b.l) from rfl)
  have f11 := ((Row.later (Row.new _ _ _) hb).cell 11).trans (show _ = some (Value.string ⟨b.path.toArray⟩) from rfl)
  simp only [World.size_alloc] at f0
  simp only [World.size_alloc] at f1
  simp only [World.size_alloc] at f2
  simp only [World.size_alloc] at f3
  simp only [World.size_alloc] at f4
  simp only [World.size_alloc] at f5
  simp only [World.size_alloc] at f6
  simp only [World.size_alloc] at f7
  simp only [World.size_alloc] at f8
  simp only [World.size_alloc] at f9
  simp only [World.size_alloc] at f10
  simp only [World.size_alloc] at f11
  replace hb0 := below_step (hb0.alloc (Nat.le_trans hb0.size (Nat.le_refl _)) _) hb
  clear hb
  have lc := World.block_lt_of_cell? _ _ c0
  dsimp only at lc
  have ld := World.block_lt_of_cell? _ _ d0
  dsimp only at ld
  have le := World.block_lt_of_cell? _ _ e0
  dsimp only at le
  have lr := World.block_lt_of_cell? _ _ r0
  dsimp only at lr
  have lf := World.block_lt_of_cell? _ _ f0
  dsimp only at lf
  have rf0 := Rr.frozen 0
  have rf1 := Rr.frozen 1
  have rf2 := Rr.frozen 2
  have rf3 := Rr.frozen 3
  have rf4 := Rr.frozen 4
  have rf5 := Rr.frozen 5
  have rf6 := Rr.frozen 6
  have rf7 := Rr.frozen 7
  have rf8 := Rr.frozen 8
  have rf9 := Rr.frozen 9
  have rf10 := Rr.frozen 10
  have rf11 := Rr.frozen 11
  go_wp2
  have RF := set12 Rr rfl (Value.int .i64 0) (Value.int .i64 0) (Value.int .i64 a.kind) (Value.int .i64 a.len) (Value.int .u64 a.h) (Value.int .u64 a.l) (Value.string ⟨a.path.toArray⟩) (Value.int .i64 b.kind) (Value.int .i64 b.len) (Value.int .u64 b.h) (Value.int .u64 b.l) (Value.string ⟨b.path.toArray⟩)
  have hbF := bset12 (g := (w.heap.size + 1 + 1 + 1)) hb0 (by omega) (Value.int .i64 0) (Value.int .i64 0) (Value.int .i64 a.kind) (Value.int .i64 a.len) (Value.int .u64 a.h) (Value.int .u64 a.l) (Value.string ⟨a.path.toArray⟩) (Value.int .i64 b.kind) (Value.int .i64 b.len) (Value.int .u64 b.h) (Value.int .u64 b.l) (Value.string ⟨b.path.toArray⟩)
  generalize hWF : (World.setCell (World.setCell (World.setCell (World.setCell (World.setCell (World.setCell (World.setCell (World.setCell (World.setCell (World.setCell (World.setCell (World.setCell w2 ⟨(w.heap.size + 1 + 1 + 1), 0, none⟩ (Value.int .i64 0)) ⟨(w.heap.size + 1 + 1 + 1), 1, none⟩ (Value.int .i64 0)) ⟨(w.heap.size + 1 + 1 + 1), 2, none⟩ (Value.int .i64 a.kind)) ⟨(w.heap.size + 1 + 1 + 1), 3, none⟩ (Value.int .i64 a.len)) ⟨(w.heap.size + 1 + 1 + 1), 4, none⟩ (Value.int .u64 a.h)) ⟨(w.heap.size + 1 + 1 + 1), 5, none⟩ (Value.int .u64 a.l)) ⟨(w.heap.size + 1 + 1 + 1), 6, none⟩ (Value.string ⟨a.path.toArray⟩)) ⟨(w.heap.size + 1 + 1 + 1), 7, none⟩ (Value.int .i64 b.kind)) ⟨(w.heap.size + 1 + 1 + 1), 8, none⟩ (Value.int .i64 b.len)) ⟨(w.heap.size + 1 + 1 + 1), 9, none⟩ (Value.int .u64 b.h)) ⟨(w.heap.size + 1 + 1 + 1), 10, none⟩ (Value.int .u64 b.l)) ⟨(w.heap.size + 1 + 1 + 1), 11, none⟩ (Value.string ⟨b.path.toArray⟩)) = wF at *
  have z0 := (RF.cell 0).trans (show _ = some (Value.int .i64 0) from rfl)
  have z1 := (RF.cell 1).trans (show _ = some (Value.int .i64 0) from rfl)
  have z2 := (RF.cell 2).trans (show _ = some (Value.int .i64 a.kind) from rfl)
  have z3 := (RF.cell 3).trans (show _ = some (Value.int .i64 a.len) from rfl)
  have z4 := (RF.cell 4).trans (show _ = some (Value.int .u64 a.h) from rfl)
  have z5 := (RF.cell 5).trans (show _ = some (Value.int .u64 a.l) from rfl)
  have z6 := (RF.cell 6).trans (show _ = some (Value.string ⟨a.path.toArray⟩) from rfl)
  have z7 := (RF.cell 7).trans (show _ = some (Value.int .i64 b.kind) from rfl)
  have z8 := (RF.cell 8).trans (show _ = some (Value.int .i64 b.len) from rfl)
  have z9 := (RF.cell 9).trans (show _ = some (Value.int .u64 b.h) from rfl)
  have z10 := (RF.cell 10).trans (show _ = some (Value.int .u64 b.l) from rfl)
  have z11 := (RF.cell 11).trans (show _ = some (Value.string ⟨b.path.toArray⟩) from rfl)
  refine bodyPost_ret (v := .tuple #[.agg #[.int .i64 0, .int .i64 0, .int .i64 a.kind, .int .i64 a.len, .int .u64 a.h, .int .u64 a.l, .string ⟨a.path.toArray⟩, .int .i64 b.kind, .int .i64 b.len, .int .u64 b.h, .int .u64 b.l, .string ⟨b.path.toArray⟩], .bool true]) (by simp [results, Try.results16, go_sem, z0, z1, z2, z3, z4, z5, z6, z7, z8, z9, z10, z11]) rfl ⟨rfl, hbF⟩
theorem leaf_t (s : Sp) (a b : Ke) (oa : a.ok) (ob : b.ok) (w : World) : Calls Try.prog 16 #[sv s, kv a, kv b] w fun e w' => e = .returned (.tuple #[pv (leafP s a b), .bool (rightP s ⟨0, 0, a, b⟩)]) ∧ Below w.heap.size w w' := by
  have HR := right9_t s ⟨0, 0, a, b⟩ ⟨oa, ob, (by dsimp only; omega), (by dsimp only; omega), (by dsimp only; omega), (by dsimp only; omega)⟩
  unfold leafP
  cases h : rightP s ⟨0, 0, a, b⟩ with
  | false => rw [h] at HR; exact leaf_false s a b HR w
  | true => rw [h] at HR; exact leaf_true s a b HR w
theorem at_sum {d e : Dm} {a b : Int} {k l : Ke} (h : onD d a k = true) (h2 : onD e b l = true ∨ b = 0) : 0 ≤ a ∧ a ≤ 128 ∧ 0 ≤ b ∧ b ≤ 128 := by
  have one : ∀ {d : Dm} {a : Int} {k : Ke}, onD d a k = true → 0 ≤ a ∧ a ≤ 128 := by
    intro d a k h
    obtain ⟨h1, _⟩ := (onD_iff d a k).1 h
    obtain ⟨g1, g2, g3⟩ := lenD_there h1
    have := (depth_range g1).2.1
    omega
  have := one h
  rcases h2 with h2 | h2
  · have := one h2; omega
  · omega
theorem at_range {s : Sp} {p : Px} (h : rightP s p = true) : 0 ≤ p.a0 ∧ p.a0 ≤ 128 ∧ 0 ≤ p.a1 ∧ p.a1 ≤ 128 := by
  unfold rightP at h
  simp only [Bool.and_eq_true] at h
  obtain ⟨_, h1, h2⟩ := h
  refine at_sum h1 ?_ (e := s.d1) (l := p.k1)
  split at h2
  · right; simp only [Bool.and_eq_true, decide_eq_true_eq] at h2; exact h2.1
  · left; exact h2
set_option maxRecDepth 100000 in
set_option maxHeartbeats 8000000 in
theorem height_t (s : Sp) (p : Px) (ok : p.ok) (w : World) : Calls Try.prog 25 #[sv s, pv p] w fun e w' => e = .returned (.int .i64 (heightP s p)) ∧ Below w.heap.size w w' := by
  have HR := right9_t s p ok
  unfold heightP
  cases h : rightP s p with
  | false =>
    rw [h] at HR
    rw [if_neg (by simp)]
    clear h ok
    unfold sv pv at *
    obtain ⟨RR0, RR1, hb0⟩ := two_rows w #[.int .i64 s.n, .int .i64 s.d0.kind, .int .i64 s.d0.side, .int .i64 s.d0.step, .int .i64 s.d1.kind, .int .i64 s.d1.side, .int .i64 s.d1.step] #[.int .i64 p.a0, .int .i64 p.a1, .int .i64 p.k0.kind, .int .i64 p.k0.len, .int .u64 p.k0.h, .int .u64 p.k0.l, .string ⟨p.k0.path.toArray⟩, .int .i64 p.k1.kind, .int .i64 p.k1.len, .int .u64 p.k1.h, .int .u64 p.k1.l, .string ⟨p.k1.path.toArray⟩] 26 33
    have c0 := (RR0.cell 0).trans (show _ = some (Value.int .i64 s.n) from rfl)
    have c1 := (RR0.cell 1).trans (show _ = some (Value.int .i64 s.d0.kind) from rfl)
    have c2 := (RR0.cell 2).trans (show _ = some (Value.int .i64 s.d0.side) from rfl)
    have c3 := (RR0.cell 3).trans (show _ = some (Value.int .i64 s.d0.step) from rfl)
    have c4 := (RR0.cell 4).trans (show _ = some (Value.int .i64 s.d1.kind) from rfl)
    have c5 := (RR0.cell 5).trans (show _ = some (Value.int .i64 s.d1.side) from rfl)
    have c6 := (RR0.cell 6).trans (show _ = some (Value.int .i64 s.d1.step) from rfl)
    have d0 := (RR1.cell 0).trans (show _ = some (Value.int .i64 p.a0) from rfl)
    have d1 := (RR1.cell 1).trans (show _ = some (Value.int .i64 p.a1) from rfl)
    have d2 := (RR1.cell 2).trans (show _ = some (Value.int .i64 p.k0.kind) from rfl)
    have d3 := (RR1.cell 3).trans (show _ = some (Value.int .i64 p.k0.len) from rfl)
    have d4 := (RR1.cell 4).trans (show _ = some (Value.int .u64 p.k0.h) from rfl)
    have d5 := (RR1.cell 5).trans (show _ = some (Value.int .u64 p.k0.l) from rfl)
    have d6 := (RR1.cell 6).trans (show _ = some (Value.string ⟨p.k0.path.toArray⟩) from rfl)
    have d7 := (RR1.cell 7).trans (show _ = some (Value.int .i64 p.k1.kind) from rfl)
    have d8 := (RR1.cell 8).trans (show _ = some (Value.int .i64 p.k1.len) from rfl)
    have d9 := (RR1.cell 9).trans (show _ = some (Value.int .u64 p.k1.h) from rfl)
    have d10 := (RR1.cell 10).trans (show _ = some (Value.int .u64 p.k1.l) from rfl)
    have d11 := (RR1.cell 11).trans (show _ = some (Value.string ⟨p.k1.path.toArray⟩) from rfl)
    clear RR0 RR1
    go_enter Try.func25, Try.ntmps25
    go_wp2_with fail
    refine (HR _).mono ?_
    rintro e w3 ⟨rfl, hb⟩
    replace c0 := cell_later hb c0
    replace c1 := cell_later hb c1
    replace c2 := cell_later hb c2
    replace c3 := cell_later hb c3
    replace c4 := cell_later hb c4
    replace c5 := cell_later hb c5
    replace c6 := cell_later hb c6
    replace d0 := cell_later hb d0
    replace d1 := cell_later hb d1
    replace d2 := cell_later hb d2
    replace d3 := cell_later hb d3
    replace d4 := cell_later hb d4
    replace d5 := cell_later hb d5
    replace d6 := cell_later hb d6
    replace d7 := cell_later hb d7
    replace d8 := cell_later hb d8
    replace d9 := cell_later hb d9
    replace d10 := cell_later hb d10
    replace d11 := cell_later hb d11
    replace hb0 := below_step hb0 hb
    clear hb
    have lc := World.block_lt_of_cell? _ _ c0
    dsimp only at lc
    have ld := World.block_lt_of_cell? _ _ d0
    dsimp only at ld
    go_wp2
    go_ret
    exact ⟨rfl, hb0⟩
  | true =>
    rw [h] at HR
    rw [if_pos rfl]
    obtain ⟨g0, g1, g2, g3⟩ := at_range h
    have t1 : IntKind.i64.wrap (p.a0 + p.a1) = p.a0 + p.a1 := IntWalk.i64_in _ (by omega)
    clear h ok g0 g1 g2 g3
    unfold sv pv at *
    obtain ⟨RR0, RR1, hb0⟩ := two_rows w #[.int .i64 s.n, .int .i64 s.d0.kind, .int .i64 s.d0.side, .int .i64 s.d0.step, .int .i64 s.d1.kind, .int .i64 s.d1.side, .int .i64 s.d1.step] #[.int .i64 p.a0, .int .i64 p.a1, .int .i64 p.k0.kind, .int .i64 p.k0.len, .int .u64 p.k0.h, .int .u64 p.k0.l, .string ⟨p.k0.path.toArray⟩, .int .i64 p.k1.kind, .int .i64 p.k1.len, .int .u64 p.k1.h, .int .u64 p.k1.l, .string ⟨p.k1.path.toArray⟩] 26 33
    have c0 := (RR0.cell 0).trans (show _ = some (Value.int .i64 s.n) from rfl)
    have c1 := (RR0.cell 1).trans (show _ = some (Value.int .i64 s.d0.kind) from rfl)
    have c2 := (RR0.cell 2).trans (show _ = some (Value.int .i64 s.d0.side) from rfl)
    have c3 := (RR0.cell 3).trans (show _ = some (Value.int .i64 s.d0.step) from rfl)
    have c4 := (RR0.cell 4).trans (show _ = some (Value.int .i64 s.d1.kind) from rfl)
    have c5 := (RR0.cell 5).trans (show _ = some (Value.int .i64 s.d1.side) from rfl)
    have c6 := (RR0.cell 6).trans (show _ = some (Value.int .i64 s.d1.step) from rfl)
    have d0 := (RR1.cell 0).trans (show _ = some (Value.int .i64 p.a0) from rfl)
    have d1 := (RR1.cell 1).trans (show _ = some (Value.int .i64 p.a1) from rfl)
    have d2 := (RR1.cell 2).trans (show _ = some (Value.int .i64 p.k0.kind) from rfl)
    have d3 := (RR1.cell 3).trans (show _ = some (Value.int .i64 p.k0.len) from rfl)
    have d4 := (RR1.cell 4).trans (show _ = some (Value.int .u64 p.k0.h) from rfl)
    have d5 := (RR1.cell 5).trans (show _ = some (Value.int .u64 p.k0.l) from rfl)
    have d6 := (RR1.cell 6).trans (show _ = some (Value.string ⟨p.k0.path.toArray⟩) from rfl)
    have d7 := (RR1.cell 7).trans (show _ = some (Value.int .i64 p.k1.kind) from rfl)
    have d8 := (RR1.cell 8).trans (show _ = some (Value.int .i64 p.k1.len) from rfl)
    have d9 := (RR1.cell 9).trans (show _ = some (Value.int .u64 p.k1.h) from rfl)
    have d10 := (RR1.cell 10).trans (show _ = some (Value.int .u64 p.k1.l) from rfl)
    have d11 := (RR1.cell 11).trans (show _ = some (Value.string ⟨p.k1.path.toArray⟩) from rfl)
    clear RR0 RR1
    go_enter Try.func25, Try.ntmps25
    go_wp2_with fail
    refine (HR _).mono ?_
    rintro e w4 ⟨rfl, hb⟩
    replace c0 := cell_later hb c0
    replace c1 := cell_later hb c1
    replace c2 := cell_later hb c2
    replace c3 := cell_later hb c3
    replace c4 := cell_later hb c4
    replace c5 := cell_later hb c5
    replace c6 := cell_later hb c6
    replace d0 := cell_later hb d0
    replace d1 := cell_later hb d1
    replace d2 := cell_later hb d2
    replace d3 := cell_later hb d3
    replace d4 := cell_later hb d4
    replace d5 := cell_later hb d5
    replace d6 := cell_later hb d6
    replace d7 := cell_later hb d7
    replace d8 := cell_later hb d8
    replace d9 := cell_later hb d9
    replace d10 := cell_later hb d10
    replace d11 := cell_later hb d11
    replace hb0 := below_step hb0 hb
    clear hb
    have lc := World.block_lt_of_cell? _ _ c0
    dsimp only at lc
    have ld := World.block_lt_of_cell? _ _ d0
    dsimp only at ld
    go_wp2
    go_ret
    exact ⟨rfl, hb0⟩
end Go.Proofs.Ytbekocknfpekoaa
