/- P12, R9d, LawPrefixUps, OpenP: what the theorem needs of these texts. No conditions beyond those that are written. -/
import Derived.Test.YtbekocknfpekoaaJ9
import Derived.Test.YtbekocknfpekoaaJ0
import Derived.Test.YtbekocknfpekoaaR9c
import Derived.LoopN
import Derived.Test.YtbekocknfpekoaaPA
import Derived.Test.YtbekocknfpekoaaJ1
import Derived.ChangeSame
namespace Go.Proofs.Ytbekocknfpekoaa
set_option linter.unusedVariables false
set_option linter.unusedSimpArgs false
open Go.RowKit
/-- what Up gives on a node -/
theorem up_on {s : Sp} {p : Px} {b0 b1 : Int} (h : upB s p b0 b1 = true) : upP s p b0 b1 = upX s p b0 b1 ∧ overP s (upX s p b0 b1) p = true ∧ rightP s (upX s p b0 b1) = true := by
  have h2 := h
  unfold upB at h2
  simp only [Bool.and_eq_true, decide_eq_true_eq] at h2
  obtain ⟨h1, g0, g1, g2, g3⟩ := h2
  obtain ⟨hs, o0, o1⟩ := (right_iff s p).1 h1
  have hr : rightP s (upX s p b0 b1) = true := (right_iff _ _).2 ⟨hs, onE_up o0 g0 g1, onE_up o1 g2 g3⟩
  refine ⟨by unfold upP; rw [if_pos h], ?_, hr⟩
  rw [overP_iff]
  exact ⟨hr, h1, ⟨g0, rfl⟩, g2, rfl⟩
end Go.Proofs.Ytbekocknfpekoaa
namespace Go.Proofs.Ytbekocknfpekoaa
set_option linter.unusedVariables false
set_option linter.unusedSimpArgs false
open Go.RowKit
set_option maxRecDepth 100000 in
set_option maxHeartbeats 32000000 in
theorem rup_false (s : Sp) (p : Px) (b0 b1 : Int) (u0 u1 : Ke)
    (HC0 : ∀ w, Calls Try.prog 62 #[dv s.d0, .int .i64 b0, kv p.k0] w fun e w' => e = .returned (kv u0) ∧ Below w.heap.size w w')
    (HC1 : ∀ w, Calls Try.prog 62 #[dv s.d1, .int .i64 b1, kv p.k1] w fun e w' => e = .returned (kv u1) ∧ Below w.heap.size w w')
    (HO : ∀ w, Calls Try.prog 29 #[sv s, pv ⟨b0, b1, u0, u1⟩, pv p] w fun e w' => e = .returned (.bool false) ∧ Below w.heap.size w w') (w : World) :
    Calls Try.prog 27 #[sv s, pv p, .agg #[.int .i64 b0, .int .i64 b1]] w fun e w' => e = .returned (.agg #[.int .i64 0, .int .i64 0, .int .i64 0, .int .i64 0, .int .u64 0, .int .u64 0, .string ⟨#[]⟩, .int .i64 0, .int .i64 0, .int .u64 0, .int .u64 0, .string ⟨#[]⟩]) ∧ Below w.heap.size w w' := by
  unfold sv pv dv kv at *
  (try dsimp only at *)
  obtain ⟨Rc, Rd, Ry, Rr, hb0⟩ := four_rows w #[.int .i64 s.n, .int .i64 s.d0.kind, .int .i64 s.d0.side, .int .i64 s.d0.step, .int .i64 s.d1.kind, .int .i64 s.d1.side, .int .i64 s.d1.step] #[.int .i64 p.a0, .int .i64 p.a1, .int .i64 p.k0.kind, .int .i64 p.k0.len, .int .u64 p.k0.h, .int .u64 p.k0.l, .string ⟨p.k0.path.toArray⟩, .int .i64 p.k1.kind, .int .i64 p.k1.len, .int .u64 p.k1.h, .int .u64 p.k1.l, .string ⟨p.k1.path.toArray⟩] #[.int .i64 b0, .int .i64 b1] #[.int .i64 0, .int .i64 0, .int .i64 0, .int .i64 0, .int .u64 0, .int .u64 0, .string ⟨#[]⟩, .int .i64 0, .int .i64 0, .int .u64 0, .int .u64 0, .string ⟨#[]⟩] 26 33 27 33
  (try clear c0 c1 c2 c3 c4 c5 c6); obtain ⟨c0, c1, c2, c3, c4, c5, c6⟩ := row7 Rc
  (try clear d0 d1 d2 d3 d4 d5 d6 d7 d8 d9 d10 d11); obtain ⟨d0, d1, d2, d3, d4, d5, d6, d7, d8, d9, d10, d11⟩ := row12 Rd
  (try clear y0 y1); obtain ⟨y0, y1⟩ := row2 Ry
  (try clear r0 r1 r2 r3 r4 r5 r6 r7 r8 r9 r10 r11); obtain ⟨r0, r1, r2, r3, r4, r5, r6, r7, r8, r9, r10, r11⟩ := row12 Rr
  go_enter Try.func27, Try.ntmps27
  go_wp2_with fail
  replace Rc := Rc.alloc (.cells #[Value.int .i64 b0, Value.int .i64 b1, Value.int .i64 0, Value.int .i64 0, Value.int .u64 0, Value.int .u64 0, Value.string ⟨#[]⟩, Value.int .i64 0, Value.int .i64 0, Value.int .u64 0, Value.int .u64 0, Value.string ⟨#[]⟩] 33)
  replace Rd := Rd.alloc (.cells #[Value.int .i64 b0, Value.int .i64 b1, Value.int .i64 0, Value.int .i64 0, Value.int .u64 0, Value.int .u64 0, Value.string ⟨#[]⟩, Value.int .i64 0, Value.int .i64 0, Value.int .u64 0, Value.int .u64 0, Value.string ⟨#[]⟩] 33)
  replace Ry := Ry.alloc (.cells #[Value.int .i64 b0, Value.int .i64 b1, Value.int .i64 0, Value.int .i64 0, Value.int .u64 0, Value.int .u64 0, Value.string ⟨#[]⟩, Value.int .i64 0, Value.int .i64 0, Value.int .u64 0, Value.int .u64 0, Value.string ⟨#[]⟩] 33)
  replace Rr := Rr.alloc (.cells #[Value.int .i64 b0, Value.int .i64 b1, Value.int .i64 0, Value.int .i64 0, Value.int .u64 0, Value.int .u64 0, Value.string ⟨#[]⟩, Value.int .i64 0, Value.int .i64 0, Value.int .u64 0, Value.int .u64 0, Value.string ⟨#[]⟩] 33)
  have Rv := Row.new (World.alloc (World.alloc (World.alloc (World.alloc w (.cells #[.int .i64 s.n, .int .i64 s.d0.kind, .int .i64 s.d0.side, .int .i64 s.d0.step, .int .i64 s.d1.kind, .int .i64 s.d1.side, .int .i64 s.d1.step] 26)) (.cells #[.int .i64 p.a0, .int .i64 p.a1, .int .i64 p.k0.kind, .int .i64 p.k0.len, .int .u64 p.k0.h, .int .u64 p.k0.l, .string ⟨p.k0.path.toArray⟩, .int .i64 p.k1.kind, .int .i64 p.k1.len, .int .u64 p.k1.h, .int .u64 p.k1.l, .string ⟨p.k1.path.toArray⟩] 33)) (.cells #[.int .i64 b0, .int .i64 b1] 27)) (.cells #[.int .i64 0, .int .i64 0, .int .i64 0, .int .i64 0, .int .u64 0, .int .u64 0, .string ⟨#[]⟩, .int .i64 0, .int .i64 0, .int .u64 0, .int .u64 0, .string ⟨#[]⟩] 33)) #[Value.int .i64 b0, Value.int .i64 b1, Value.int .i64 0, Value.int .i64 0, Value.int .u64 0, Value.int .u64 0, Value.string ⟨#[]⟩, Value.int .i64 0, Value.int .i64 0, Value.int .u64 0, Value.int .u64 0, Value.string ⟨#[]⟩] 33
  simp only [World.size_alloc] at Rv
  have mv := hb0.size
  replace hb0 := hb0.alloc hb0.size (.cells #[Value.int .i64 b0, Value.int .i64 b1, Value.int .i64 0, Value.int .i64 0, Value.int .u64 0, Value.int .u64 0, Value.string ⟨#[]⟩, Value.int .i64 0, Value.int .i64 0, Value.int .u64 0, Value.int .u64 0, Value.string ⟨#[]⟩] 33)
  (try clear c0 c1 c2 c3 c4 c5 c6); obtain ⟨c0, c1, c2, c3, c4, c5, c6⟩ := row7 Rc
  (try clear d0 d1 d2 d3 d4 d5 d6 d7 d8 d9 d10 d11); obtain ⟨d0, d1, d2, d3, d4, d5, d6, d7, d8, d9, d10, d11⟩ := row12 Rd
  (try clear y0 y1); obtain ⟨y0, y1⟩ := row2 Ry
  (try clear r0 r1 r2 r3 r4 r5 r6 r7 r8 r9 r10 r11); obtain ⟨r0, r1, r2, r3, r4, r5, r6, r7, r8, r9, r10, r11⟩ := row12 Rr
  (try clear v0 v1 v2 v3 v4 v5 v6 v7 v8 v9 v10 v11); obtain ⟨v0, v1, v2, v3, v4, v5, v6, v7, v8, v9, v10, v11⟩ := row12 Rv
  generalize (World.alloc (World.alloc (World.alloc (World.alloc (World.alloc w (.cells #[.int .i64 s.n, .int .i64 s.d0.kind, .int .i64 s.d0.side, .int .i64 s.d0.step, .int .i64 s.d1.kind, .int .i64 s.d1.side, .int .i64 s.d1.step] 26)) (.cells #[.int .i64 p.a0, .int .i64 p.a1, .int .i64 p.k0.kind, .int .i64 p.k0.len, .int .u64 p.k0.h, .int .u64 p.k0.l, .string ⟨p.k0.path.toArray⟩, .int .i64 p.k1.kind, .int .i64 p.k1.len, .int .u64 p.k1.h, .int .u64 p.k1.l, .string ⟨p.k1.path.toArray⟩] 33)) (.cells #[.int .i64 b0, .int .i64 b1] 27)) (.cells #[.int .i64 0, .int .i64 0, .int .i64 0, .int .i64 0, .int .u64 0, .int .u64 0, .string ⟨#[]⟩, .int .i64 0, .int .i64 0, .int .u64 0, .int .u64 0, .string ⟨#[]⟩] 33)) (.cells #[Value.int .i64 b0, Value.int .i64 b1, Value.int .i64 0, Value.int .i64 0, Value.int .u64 0, Value.int .u64 0, Value.string ⟨#[]⟩, Value.int .i64 0, Value.int .i64 0, Value.int .u64 0, Value.int .u64 0, Value.string ⟨#[]⟩] 33)) = w1 at *
  refine wp_loop_rounds 3 ?_
  rw [rounds_succ]
  go_wp2_with fail
  refine wp_region_held_drew (S := (fun w' => w'.cell? ⟨w.heap.size, 1, none⟩ = some (Value.int .i64 s.d0.kind) ∧ w'.cell? ⟨w.heap.size, 2, none⟩ = some (Value.int .i64 s.d0.side) ∧ w'.cell? ⟨w.heap.size, 3, none⟩ = some (Value.int .i64 s.d0.step) ∧ w'.cell? ⟨w.heap.size + 1 + 1, 0, none⟩ = some (Value.int .i64 b0) ∧ w'.cell? ⟨w.heap.size + 1 + 1, 1, none⟩ = some (Value.int .i64 b1) ∧ w'.cell? ⟨w.heap.size + 1, 2, none⟩ = some (Value.int .i64 p.k0.kind) ∧ w'.cell? ⟨w.heap.size + 1, 3, none⟩ = some (Value.int .i64 p.k0.len) ∧ w'.cell? ⟨w.heap.size + 1, 4, none⟩ = some (Value.int .u64 p.k0.h) ∧ w'.cell? ⟨w.heap.size + 1, 5, none⟩ = some (Value.int .u64 p.k0.l) ∧ w'.cell? ⟨w.heap.size + 1, 6, none⟩ = some (Value.string ⟨p.k0.path.toArray⟩))) (by kernel_rfl) ?hSr87_ (fun hHeld => ?_)
  case hSr87_ => (exact ⟨c1, c2, c3, y0, y1, d2, d3, d4, d5, d6⟩)
  (clear c0 c1 c2 c3 c4 c5 c6 d0 d1 d2 d3 d4 d5 d6 d7 d8 d9 d10 d11 y0 y1 r0 r1 r2 r3 r4 r5 r6 r7 r8 r9 r10 r11 v0 v1 v2 v3 v4 v5 v6 v7 v8 v9 v10 v11; (replace Rc := Rc.drew); (replace Rd := Rd.drew); (replace Ry := Ry.drew); (replace Rr := Rr.drew); (replace Rv := Rv.drew); (replace hb0 := hb0.drew); (generalize World.drew w1 = wq at *))
  refine tk 0 ⟨some 15, .move (.tmp 8), 3, _, _, _⟩ hHeld ?_
  (try simp only [Act.put, nz1, nz2, nz3])
  refine tk 1 ⟨some 16, .move (.tmp 8), 3, _, _, _⟩ hHeld ?_
  (try simp only [Act.put, nz1, nz2, nz3])
  refine tk 2 ⟨some 17, .fieldAddr 26 (.tmp 3) 1, 0, _, _, _⟩ hHeld ?_
  (try simp only [Act.put, nz1, nz2, nz3])
  refine tk 3 ⟨some 18, .indexAddr 24 (.tmp 17) (.tmp 16), 0, _, _, _⟩ hHeld ?_
  (try simp only [Act.put, nz1, nz2, nz3])
  refine tk 4 ⟨some 19, .load 23 (.tmp 18), 23, _, _, _⟩ hHeld ?_
  (try simp only [Act.put, nz1, nz2, nz3])
  refine tk 5 ⟨some 20, .move (.tmp 8), 3, _, _, _⟩ hHeld ?_
  (try simp only [Act.put, nz1, nz2, nz3])
  refine tk 6 ⟨some 21, .indexAddr 27 (.tmp 5) (.tmp 20), 0, _, _, _⟩ hHeld ?_
  (try simp only [Act.put, nz1, nz2, nz3])
  refine tk 7 ⟨some 22, .load 3 (.tmp 21), 3, _, _, _⟩ hHeld ?_
  (try simp only [Act.put, nz1, nz2, nz3])
  refine tk 8 ⟨some 23, .move (.tmp 8), 3, _, _, _⟩ hHeld ?_
  (try simp only [Act.put, nz1, nz2, nz3])
  refine tk 9 ⟨some 24, .fieldAddr 33 (.tmp 4) 1, 0, _, _, _⟩ hHeld ?_
  (try simp only [Act.put, nz1, nz2, nz3])
  refine tk 10 ⟨some 25, .indexAddr 31 (.tmp 24) (.tmp 23), 0, _, _, _⟩ hHeld ?_
  (try simp only [Act.put, nz1, nz2, nz3])
  refine tk 11 ⟨some 26, .load 30 (.tmp 25), 30, _, _, _⟩ hHeld ?_
  (try simp only [Act.put, nz1, nz2, nz3])
  refine tk 13 ⟨some 28, .fieldAddr 33 (.tmp 7) 1, 0, _, _, _⟩ hHeld ?_
  (try simp only [Act.put, nz1, nz2, nz3])
  refine wpAnyH_ready (rs := [12]) (by kernel_rfl) (by simp) ?_
  refine AllReadyH.cons (o := ⟨some 27, .call { callee := .value (.func 62), args := #[.tmp 19, .tmp 22, .tmp 26], argTypes := #[23, 3, 30] }, 30, _, _, _⟩) rfl (fun K hK => ?_) AllReadyH.nil
  (go_simp; (refine (HC0 _).mono ?_); (rintro e wz ⟨rfl, hb⟩); (replace Rc := Rc.later hb); (replace Rd := Rd.later hb); (replace Ry := Ry.later hb); (replace Rr := Rr.later hb); (replace Rv := Rv.later hb); (replace hb0 := below_step hb0 hb); go_wp2_with fail)
  refine hK.out _ _ ?hSr87_14_12 (fun hHeld2 => ?_)
  case hSr87_14_12 => (obtain ⟨c1, c2, c3, y0, y1, d2, d3, d4, d5, d6⟩ := hHeld; exact ⟨cell_later hb c1, cell_later hb c2, cell_later hb c3, cell_later hb y0, cell_later hb y1, cell_later hb d2, cell_later hb d3, cell_later hb d4, cell_later hb d5, cell_later hb d6⟩)
  clear hK K hHeld
  have hHeld := hHeld2
  clear hHeld2
  rename World => wq
  (try simp only [Act.put, nz1, nz2, nz3])
  refine tk 14 ⟨some 29, .indexAddr 31 (.tmp 28) (.tmp 15), 0, _, _, _⟩ hHeld ?_
  (try simp only [Act.put, nz1, nz2, nz3])
  refine wpAnyH_ready (rs := [15]) (by kernel_rfl) (by simp) ?_
  refine AllReadyH.cons (o := ⟨none, .store 30 (.tmp 29) (.tmp 27), 0, _, _, _⟩) rfl (fun K hK => ?_) AllReadyH.nil
  ((rw [if_pos (by rfl)]); (with_reducible refine pst 30 (.tmp 29) (.tmp 27) ?_ (w.heap.size + 1 + 1 + 1 + 1) 2 #[.int .i64 u0.kind, .int .i64 u0.len, .int .u64 u0.h, .int .u64 u0.l, .string ⟨u0.path.toArray⟩] ?_ ?_ ?_ ?_ ?_ ?_); rfl; rfl; rfl; (exact Row.thereAt Rv 2 _ (by simp)); (exact infoKe); (simp [Value.oneCell']); (rintro wz hwz); (have hHq := hHeld); (obtain ⟨c1, c2, c3, y0, y1, d2, d3, d4, d5, d6⟩ := hHq); (replace c1 := pcf hwz c1); (replace c2 := pcf hwz c2); (replace c3 := pcf hwz c3); (replace y0 := pcf hwz y0); (replace y1 := pcf hwz y1); (replace d2 := pcf hwz d2); (replace d3 := pcf hwz d3); (replace d4 := pcf hwz d4); (replace d5 := pcf hwz d5); (replace d6 := pcf hwz d6); (replace Rc := prf hwz Rc); (replace Rd := prf hwz Rd); (replace Ry := prf hwz Ry); (replace Rr := prf hwz Rr); (replace hb0 := pbl hwz hb0); (replace Rv : Row wz (w.heap.size + 1 + 1 + 1 + 1) #[.int .i64 b0, .int .i64 b1, .int .i64 u0.kind, .int .i64 u0.len, .int .u64 u0.h, .int .u64 u0.l, .string ⟨u0.path.toArray⟩, .int .i64 0, .int .i64 0, .int .u64 0, .int .u64 0, .string ⟨#[]⟩] 33 := psm hwz Rv (by simp [setL])); clear hwz)
  refine hK.out _ _ ?hSr87_16_15 (fun hHeld2 => ?_)
  case hSr87_16_15 => (exact ⟨c1, c2, c3, y0, y1, d2, d3, d4, d5, d6⟩)
  clear hK K hHeld
  have hHeld := hHeld2
  clear hHeld2
  rename World => wq
  (try simp only [Act.put, nz1, nz2, nz3])
  refine wpAnyH_done (by kernel_rfl) ?_ _
  clear hHeld
  rename World => w2
  have lc := Rc.lt
  have ld := Rd.lt
  have ly := Ry.lt
  have lr := Rr.lt
  have lv := Rv.lt
  (try clear c0 c1 c2 c3 c4 c5 c6); obtain ⟨c0, c1, c2, c3, c4, c5, c6⟩ := row7 Rc
  (try clear d0 d1 d2 d3 d4 d5 d6 d7 d8 d9 d10 d11); obtain ⟨d0, d1, d2, d3, d4, d5, d6, d7, d8, d9, d10, d11⟩ := row12 Rd
  (try clear y0 y1); obtain ⟨y0, y1⟩ := row2 Ry
  (try clear r0 r1 r2 r3 r4 r5 r6 r7 r8 r9 r10 r11); obtain ⟨r0, r1, r2, r3, r4, r5, r6, r7, r8, r9, r10, r11⟩ := row12 Rr
  (try clear v0 v1 v2 v3 v4 v5 v6 v7 v8 v9 v10 v11); obtain ⟨v0, v1, v2, v3, v4, v5, v6, v7, v8, v9, v10, v11⟩ := row12 Rv
  go_wp2_with fail
  rw [rounds_succ]
  go_wp2_with fail
  refine wp_region_held_drew (S := (fun w' => w'.cell? ⟨w.heap.size, 4, none⟩ = some (Value.int .i64 s.d1.kind) ∧ w'.cell? ⟨w.heap.size, 5, none⟩ = some (Value.int .i64 s.d1.side) ∧ w'.cell? ⟨w.heap.size, 6, none⟩ = some (Value.int .i64 s.d1.step) ∧ w'.cell? ⟨w.heap.size + 1 + 1, 0, none⟩ = some (Value.int .i64 b0) ∧ w'.cell? ⟨w.heap.size + 1 + 1, 1, none⟩ = some (Value.int .i64 b1) ∧ w'.cell? ⟨w.heap.size + 1, 7, none⟩ = some (Value.int .i64 p.k1.kind) ∧ w'.cell? ⟨w.heap.size + 1, 8, none⟩ = some (Value.int .i64 p.k1.len) ∧ w'.cell? ⟨w.heap.size + 1, 9, none⟩ = some (Value.int .u64 p.k1.h) ∧ w'.cell? ⟨w.heap.size + 1, 10, none⟩ = some (Value.int .u64 p.k1.l) ∧ w'.cell? ⟨w.heap.size + 1, 11, none⟩ = some (Value.string ⟨p.k1.path.toArray⟩))) (by kernel_rfl) ?hSr88_ (fun hHeld => ?_)
  case hSr88_ => (exact ⟨c4, c5, c6, y0, y1, d7, d8, d9, d10, d11⟩)
  (clear c0 c1 c2 c3 c4 c5 c6 d0 d1 d2 d3 d4 d5 d6 d7 d8 d9 d10 d11 y0 y1 r0 r1 r2 r3 r4 r5 r6 r7 r8 r9 r10 r11 v0 v1 v2 v3 v4 v5 v6 v7 v8 v9 v10 v11; (replace Rc := Rc.drew); (replace Rd := Rd.drew); (replace Ry := Ry.drew); (replace Rr := Rr.drew); (replace Rv := Rv.drew); (replace hb0 := hb0.drew); (generalize World.drew w2 = wq at *))
  refine tk 0 ⟨some 15, .move (.tmp 8), 3, _, _, _⟩ hHeld ?_
  (try simp only [Act.put, nz1, nz2, nz3])
  refine tk 1 ⟨some 16, .move (.tmp 8), 3, _, _, _⟩ hHeld ?_
  (try simp only [Act.put, nz1, nz2, nz3])
  refine tk 2 ⟨some 17, .fieldAddr 26 (.tmp 3) 1, 0, _, _, _⟩ hHeld ?_
  (try simp only [Act.put, nz1, nz2, nz3])
  refine tk 3 ⟨some 18, .indexAddr 24 (.tmp 17) (.tmp 16), 0, _, _, _⟩ hHeld ?_
  (try simp only [Act.put, nz1, nz2, nz3])
  refine tk 4 ⟨some 19, .load 23 (.tmp 18), 23, _, _, _⟩ hHeld ?_
  (try simp only [Act.put, nz1, nz2, nz3])
  refine tk 5 ⟨some 20, .move (.tmp 8), 3, _, _, _⟩ hHeld ?_
  (try simp only [Act.put, nz1, nz2, nz3])
  refine tk 6 ⟨some 21, .indexAddr 27 (.tmp 5) (.tmp 20), 0, _, _, _⟩ hHeld ?_
  (try simp only [Act.put, nz1, nz2, nz3])
  refine tk 7 ⟨some 22, .load 3 (.tmp 21), 3, _, _, _⟩ hHeld ?_
  (try simp only [Act.put, nz1, nz2, nz3])
  refine tk 8 ⟨some 23, .move (.tmp 8), 3, _, _, _⟩ hHeld ?_
  (try simp only [Act.put, nz1, nz2, nz3])
  refine tk 9 ⟨some 24, .fieldAddr 33 (.tmp 4) 1, 0, _, _, _⟩ hHeld ?_
  (try simp only [Act.put, nz1, nz2, nz3])
  refine tk 10 ⟨some 25, .indexAddr 31 (.tmp 24) (.tmp 23), 0, _, _, _⟩ hHeld ?_
  (try simp only [Act.put, nz1, nz2, nz3])
  refine tk 11 ⟨some 26, .load 30 (.tmp 25), 30, _, _, _⟩ hHeld ?_
  (try simp only [Act.put, nz1, nz2, nz3])
  refine tk 13 ⟨some 28, .fieldAddr 33 (.tmp 7) 1, 0, _, _, _⟩ hHeld ?_
  (try simp only [Act.put, nz1, nz2, nz3])
  refine wpAnyH_ready (rs := [12]) (by kernel_rfl) (by simp) ?_
  refine AllReadyH.cons (o := ⟨some 27, .call { callee := .value (.func 62), args := #[.tmp 19, .tmp 22, .tmp 26], argTypes := #[23, 3, 30] }, 30, _, _, _⟩) rfl (fun K hK => ?_) AllReadyH.nil
  (go_simp; (refine (HC1 _).mono ?_); (rintro e wz ⟨rfl, hb⟩); (replace Rc := Rc.later hb); (replace Rd := Rd.later hb); (replace Ry := Ry.later hb); (replace Rr := Rr.later hb); (replace Rv := Rv.later hb); (replace hb0 := below_step hb0 hb); go_wp2_with fail)
  refine hK.out _ _ ?hSr88_14_12 (fun hHeld2 => ?_)
  case hSr88_14_12 => (obtain ⟨c4, c5, c6, y0, y1, d7, d8, d9, d10, d11⟩ := hHeld; exact ⟨cell_later hb c4, cell_later hb c5, cell_later hb c6, cell_later hb y0, cell_later hb y1, cell_later hb d7, cell_later hb d8, cell_later hb d9, cell_later hb d10, cell_later hb d11⟩)
  clear hK K hHeld
  have hHeld := hHeld2
  clear hHeld2
  rename World => wq
  (try simp only [Act.put, nz1, nz2, nz3])
  refine tk 14 ⟨some 29, .indexAddr 31 (.tmp 28) (.tmp 15), 0, _, _, _⟩ hHeld ?_
  (try simp only [Act.put, nz1, nz2, nz3])
  refine wpAnyH_ready (rs := [15]) (by kernel_rfl) (by simp) ?_
  refine AllReadyH.cons (o := ⟨none, .store 30 (.tmp 29) (.tmp 27), 0, _, _, _⟩) rfl (fun K hK => ?_) AllReadyH.nil
  ((rw [if_pos (by rfl)]); (with_reducible refine pst 30 (.tmp 29) (.tmp 27) ?_ (w.heap.size + 1 + 1 + 1 + 1) 7 #[.int .i64 u1.kind, .int .i64 u1.len, .int .u64 u1.h, .int .u64 u1.l, .string ⟨u1.path.toArray⟩] ?_ ?_ ?_ ?_ ?_ ?_); rfl; rfl; rfl; (exact Row.thereAt Rv 7 _ (by simp)); (exact infoKe); (simp [Value.oneCell']); (rintro wz hwz); (have hHq := hHeld); (obtain ⟨c4, c5, c6, y0, y1, d7, d8, d9, d10, d11⟩ := hHq); (replace c4 := pcf hwz c4); (replace c5 := pcf hwz c5); (replace c6 := pcf hwz c6); (replace y0 := pcf hwz y0); (replace y1 := pcf hwz y1); (replace d7 := pcf hwz d7); (replace d8 := pcf hwz d8); (replace d9 := pcf hwz d9); (replace d10 := pcf hwz d10); (replace d11 := pcf hwz d11); (replace Rc := prf hwz Rc); (replace Rd := prf hwz Rd); (replace Ry := prf hwz Ry); (replace Rr := prf hwz Rr); (replace hb0 := pbl hwz hb0); (replace Rv : Row wz (w.heap.size + 1 + 1 + 1 + 1) #[.int .i64 b0, .int .i64 b1, .int .i64 u0.kind, .int .i64 u0.len, .int .u64 u0.h, .int .u64 u0.l, .string ⟨u0.path.toArray⟩, .int .i64 u1.kind, .int .i64 u1.len, .int .u64 u1.h, .int .u64 u1.l, .string ⟨u1.path.toArray⟩] 33 := psm hwz Rv (by simp [setL])); clear hwz)
  refine hK.out _ _ ?hSr88_16_15 (fun hHeld2 => ?_)
  case hSr88_16_15 => (exact ⟨c4, c5, c6, y0, y1, d7, d8, d9, d10, d11⟩)
  clear hK K hHeld
  have hHeld := hHeld2
  clear hHeld2
  rename World => wq
  (try simp only [Act.put, nz1, nz2, nz3])
  refine wpAnyH_done (by kernel_rfl) ?_ _
  clear hHeld
  rename World => w3
  have lc := Rc.lt
  have ld := Rd.lt
  have ly := Ry.lt
  have lr := Rr.lt
  have lv := Rv.lt
  (try clear c0 c1 c2 c3 c4 c5 c6); obtain ⟨c0, c1, c2, c3, c4, c5, c6⟩ := row7 Rc
  (try clear d0 d1 d2 d3 d4 d5 d6 d7 d8 d9 d10 d11); obtain ⟨d0, d1, d2, d3, d4, d5, d6, d7, d8, d9, d10, d11⟩ := row12 Rd
  (try clear y0 y1); obtain ⟨y0, y1⟩ := row2 Ry
  (try clear r0 r1 r2 r3 r4 r5 r6 r7 r8 r9 r10 r11); obtain ⟨r0, r1, r2, r3, r4, r5, r6, r7, r8, r9, r10, r11⟩ := row12 Rr
  (try clear v0 v1 v2 v3 v4 v5 v6 v7 v8 v9 v10 v11); obtain ⟨v0, v1, v2, v3, v4, v5, v6, v7, v8, v9, v10, v11⟩ := row12 Rv
  go_wp2_with fail
  rw [rounds_succ]
  go_wp2_with fail
  refine (HO _).mono ?_
  rintro e w4 ⟨rfl, hb⟩
  replace Rc := Rc.later hb
  replace Rd := Rd.later hb
  replace Ry := Ry.later hb
  replace Rr := Rr.later hb
  replace Rv := Rv.later hb
  replace hb0 := below_step hb0 hb
  clear hb
  have lc := Rc.lt
  have ld := Rd.lt
  have ly := Ry.lt
  have lr := Rr.lt
  have lv := Rv.lt
  (try clear c0 c1 c2 c3 c4 c5 c6); obtain ⟨c0, c1, c2, c3, c4, c5, c6⟩ := row7 Rc
  (try clear d0 d1 d2 d3 d4 d5 d6 d7 d8 d9 d10 d11); obtain ⟨d0, d1, d2, d3, d4, d5, d6, d7, d8, d9, d10, d11⟩ := row12 Rd
  (try clear y0 y1); obtain ⟨y0, y1⟩ := row2 Ry
  (try clear r0 r1 r2 r3 r4 r5 r6 r7 r8 r9 r10 r11); obtain ⟨r0, r1, r2, r3, r4, r5, r6, r7, r8, r9, r10, r11⟩ := row12 Rr
  (try clear v0 v1 v2 v3 v4 v5 v6 v7 v8 v9 v10 v11); obtain ⟨v0, v1, v2, v3, v4, v5, v6, v7, v8, v9, v10, v11⟩ := row12 Rv
  have rf0 := Rr.frozen 0
  have rf1 := Rr.frozen 1
  have rf2 := Rr.frozen 2
  have rf3 := Rr.frozen 3
  have rf4 := Rr.frozen 4
  have rf5 := Rr.frozen 5
  have rf6 := Rr.frozen 6
  have rf7 := Rr.frozen 7
  have rf8 := Rr.frozen 8
  have rf9 := Rr.frozen 9
  have rf10 := Rr.frozen 10
  have rf11 := Rr.frozen 11
  go_wp2
  obtain ⟨w5, hwn⟩ : ∃ wz, wz = (World.setCell (World.setCell (World.setCell (World.setCell (World.setCell (World.setCell (World.setCell (World.setCell (World.setCell (World.setCell (World.setCell (World.setCell w4 ⟨(w.heap.size + 1 + 1 + 1), 0, none⟩ (.int .i64 0)) ⟨(w.heap.size + 1 + 1 + 1), 1, none⟩ (.int .i64 0)) ⟨(w.heap.size + 1 + 1 + 1), 2, none⟩ (.int .i64 0)) ⟨(w.heap.size + 1 + 1 + 1), 3, none⟩ (.int .i64 0)) ⟨(w.heap.size + 1 + 1 + 1), 4, none⟩ (.int .u64 0)) ⟨(w.heap.size + 1 + 1 + 1), 5, none⟩ (.int .u64 0)) ⟨(w.heap.size + 1 + 1 + 1), 6, none⟩ (.string ⟨#[]⟩)) ⟨(w.heap.size + 1 + 1 + 1), 7, none⟩ (.int .i64 0)) ⟨(w.heap.size + 1 + 1 + 1), 8, none⟩ (.int .i64 0)) ⟨(w.heap.size + 1 + 1 + 1), 9, none⟩ (.int .u64 0)) ⟨(w.heap.size + 1 + 1 + 1), 10, none⟩ (.int .u64 0)) ⟨(w.heap.size + 1 + 1 + 1), 11, none⟩ (.string ⟨#[]⟩)) := ⟨_, rfl⟩
  rw [← hwn]
  replace hwn : w5 = World.setCells w4 (w.heap.size + 1 + 1 + 1) 0 [.int .i64 0, .int .i64 0, .int .i64 0, .int .i64 0, .int .u64 0, .int .u64 0, .string ⟨#[]⟩, .int .i64 0, .int .i64 0, .int .u64 0, .int .u64 0, .string ⟨#[]⟩] := hwn
  replace Rr : Row w5 (w.heap.size + 1 + 1 + 1) #[.int .i64 0, .int .i64 0, .int .i64 0, .int .i64 0, .int .u64 0, .int .u64 0, .string ⟨#[]⟩, .int .i64 0, .int .i64 0, .int .u64 0, .int .u64 0, .string ⟨#[]⟩] 33 := psm hwn Rr (by simp [setL])
  replace Rc := prf hwn Rc
  replace Rd := prf hwn Rd
  replace Ry := prf hwn Ry
  replace Rv := prf hwn Rv
  replace hb0 := pbl hwn hb0
  clear hwn c0 c1 c2 c3 c4 c5 c6 d0 d1 d2 d3 d4 d5 d6 d7 d8 d9 d10 d11 y0 y1 r0 r1 r2 r3 r4 r5 r6 r7 r8 r9 r10 r11 v0 v1 v2 v3 v4 v5 v6 v7 v8 v9 v10 v11
  (try clear rf0 rf1 rf2 rf3 rf4 rf5 rf6 rf7 rf8 rf9 rf10 rf11)
  (try clear c0 c1 c2 c3 c4 c5 c6); obtain ⟨c0, c1, c2, c3, c4, c5, c6⟩ := row7 Rc
  (try clear d0 d1 d2 d3 d4 d5 d6 d7 d8 d9 d10 d11); obtain ⟨d0, d1, d2, d3, d4, d5, d6, d7, d8, d9, d10, d11⟩ := row12 Rd
  (try clear y0 y1); obtain ⟨y0, y1⟩ := row2 Ry
  (try clear r0 r1 r2 r3 r4 r5 r6 r7 r8 r9 r10 r11); obtain ⟨r0, r1, r2, r3, r4, r5, r6, r7, r8, r9, r10, r11⟩ := row12 Rr
  (try clear v0 v1 v2 v3 v4 v5 v6 v7 v8 v9 v10 v11); obtain ⟨v0, v1, v2, v3, v4, v5, v6, v7, v8, v9, v10, v11⟩ := row12 Rv
  refine bodyPost_ret (v := .agg #[.int .i64 0, .int .i64 0, .int .i64 0, .int .i64 0, .int .u64 0, .int .u64 0, .string ⟨#[]⟩, .int .i64 0, .int .i64 0, .int .u64 0, .int .u64 0, .string ⟨#[]⟩]) (by simp [results, Try.results27, go_sem, r0, r1, r2, r3, r4, r5, r6, r7, r8, r9, r10, r11]) rfl ⟨rfl, hb0⟩
set_option maxRecDepth 100000 in
set_option maxHeartbeats 32000000 in
theorem rup_true (s : Sp) (p : Px) (b0 b1 : Int) (u0 u1 : Ke)
    (HC0 : ∀ w, Calls Try.prog 62 #[dv s.d0, .int .i64 b0, kv p.k0] w fun e w' => e = .returned (kv u0) ∧ Below w.heap.size w w')
    (HC1 : ∀ w, Calls Try.prog 62 #[dv s.d1, .int .i64 b1, kv p.k1] w fun e w' => e = .returned (kv u1) ∧ Below w.heap.size w w')
    (HO : ∀ w, Calls Try.prog 29 #[sv s, pv ⟨b0, b1, u0, u1⟩, pv p] w fun e w' => e = .returned (.bool true) ∧ Below w.heap.size w w') (w : World) :
    Calls Try.prog 27 #[sv s, pv p, .agg #[.int .i64 b0, .int .i64 b1]] w fun e w' => e = .returned (.agg #[.int .i64 b0, .int .i64 b1, .int .i64 u0.kind, .int .i64 u0.len, .int .u64 u0.h, .int .u64 u0.l, .string ⟨u0.path.toArray⟩, .int .i64 u1.kind, .int .i64 u1.len, .int .u64 u1.h, .int .u64 u1.l, .string ⟨u1.path.toArray⟩]) ∧ Below w.heap.size w w' := by
  unfold sv pv dv kv at *
  (try dsimp only at *)
  obtain ⟨Rc, Rd, Ry, Rr, hb0⟩ := four_rows w #[.int .i64 s.n, .int .i64 s.d0.kind, .int .i64 s.d0.side, .int .i64 s.d0.step, .int .i64 s.d1.kind, .int .i64 s.d1.side, .int .i64 s.d1.step] #[.int .i64 p.a0, .int .i64 p.a1, .int .i64 p.k0.kind, .int .i64 p.k0.len, .int .u64 p.k0.h, .int .u64 p.k0.l, .string ⟨p.k0.path.toArray⟩, .int .i64 p.k1.kind, .int .i64 p.k1.len, .int .u64 p.k1.h, .int .u64 p.k1.l, .string ⟨p.k1.path.toArray⟩] #[.int .i64 b0, .int .i64 b1] #[.int .i64 0, .int .i64 0, .int .i64 0, .int .i64 0, .int .u64 0, .int .u64 0, .string ⟨#[]⟩, .int .i64 0, .int .i64 0, .int .u64 0, .int .u64 0, .string ⟨#[]⟩] 26 33 27 33
  (try clear c0 c1 c2 c3 c4 c5 c6); obtain ⟨c0, c1, c2, c3, c4, c5, c6⟩ := row7 Rc
  (try clear d0 d1 d2 d3 d4 d5 d6 d7 d8 d9 d10 d11); obtain ⟨d0, d1, d2, d3, d4, d5, d6, d7, d8, d9, d10, d11⟩ := row12 Rd
  (try clear y0 y1); obtain ⟨y0, y1⟩ := row2 Ry
  (try clear r0 r1 r2 r3 r4 r5 r6 r7 r8 r9 r10 r11); obtain ⟨r0, r1, r2, r3, r4, r5, r6, r7, r8, r9, r10, r11⟩ := row12 Rr
  go_enter Try.func27, Try.ntmps27
  go_wp2_with fail
  replace Rc := Rc.alloc (.cells #[Value.int .i64 b0, Value.int .i64 b1, Value.int .i64 0, Value.int .i64 0, Value.int .u64 0, Value.int .u64 0, Value.string ⟨#[]⟩, Value.int .i64 0, Value.int .i64 0, Value.int .u64 0, Value.int .u64 0, Value.string ⟨#[]⟩] 33)
  replace Rd := Rd.alloc (.cells #[Value.int .i64 b0, Value.int .i64 b1, Value.int .i64 0, Value.int .i64 0, Value.int .u64 0, Value.int .u64 0, Value.string ⟨#[]⟩, Value.int .i64 0, Value.int .i64 0, Value.int .u64 0, Value.int .u64 0, Value.string ⟨#[]⟩] 33)
  replace Ry := Ry.alloc (.cells #[Value.int .i64 b0, Value.int .i64 b1, Value.int .i64 0, Value.int .i64 0, Value.int .u64 0, Value.int .u64 0, Value.string ⟨#[]⟩, Value.int .i64 0, Value.int .i64 0, Value.int .u64 0, Value.int .u64 0, Value.string ⟨#[]⟩] 33)
  replace Rr := Rr.alloc (.cells #[Value.int .i64 b0, Value.int .i64 b1, Value.int .i64 0, Value.int .i64 0, Value.int .u64 0, Value.int .u64 0, Value.string ⟨#[]⟩, Value.int .i64 0, Value.int .i64 0, Value.int .u64 0, Value.int .u64 0, Value.string ⟨#[]⟩] 33)
  have Rv := Row.new (World.alloc (World.alloc (World.alloc (World.alloc w (.cells #[.int .i64 s.n, .int .i64 s.d0.kind, .int .i64 s.d0.side, .int .i64 s.d0.step, .int .i64 s.d1.kind, .int .i64 s.d1.side, .int .i64 s.d1.step] 26)) (.cells #[.int .i64 p.a0, .int .i64 p.a1, .int .i64 p.k0.kind, .int .i64 p.k0.len, .int .u64 p.k0.h, .int .u64 p.k0.l, .string ⟨p.k0.path.toArray⟩, .int .i64 p.k1.kind, .int .i64 p.k1.len, .int .u64 p.k1.h, .int .u64 p.k1.l, .string ⟨p.k1.path.toArray⟩] 33)) (.cells #[.int .i64 b0, .int .i64 b1] 27)) (.cells #[.int .i64 0, .int .i64 0, .int .i64 0, .int .i64 0, .int .u64 0, .int .u64 0, .string ⟨#[]⟩, .int .i64 0, .int .i64 0, .int .u64 0, .int .u64 0, .string ⟨#[]⟩] 33)) #[Value.int .i64 b0, Value.int .i64 b1, Value.int .i64 0, Value.int .i64 0, Value.int .u64 0, Value.int .u64 0, Value.string ⟨#[]⟩, Value.int .i64 0, Value.int .i64 0, Value.int .u64 0, Value.int .u64 0, Value.string ⟨#[]⟩] 33
  simp only [World.size_alloc] at Rv
  have mv := hb0.size
  replace hb0 := hb0.alloc hb0.size (.cells #[Value.int .i64 b0, Value.int .i64 b1, Value.int .i64 0, Value.int .i64 0, Value.int .u64 0, Value.int .u64 0, Value.string ⟨#[]⟩, Value.int .i64 0, Value.int .i64 0, Value.int .u64 0, Value.int .u64 0, Value.string ⟨#[]⟩] 33)
  (try clear c0 c1 c2 c3 c4 c5 c6); obtain ⟨c0, c1, c2, c3, c4, c5, c6⟩ := row7 Rc
  (try clear d0 d1 d2 d3 d4 d5 d6 d7 d8 d9 d10 d11); obtain ⟨d0, d1, d2, d3, d4, d5, d6, d7, d8, d9, d10, d11⟩ := row12 Rd
  (try clear y0 y1); obtain ⟨y0, y1⟩ := row2 Ry
  (try clear r0 r1 r2 r3 r4 r5 r6 r7 r8 r9 r10 r11); obtain ⟨r0, r1, r2, r3, r4, r5, r6, r7, r8, r9, r10, r11⟩ := row12 Rr
  (try clear v0 v1 v2 v3 v4 v5 v6 v7 v8 v9 v10 v11); obtain ⟨v0, v1, v2, v3, v4, v5, v6, v7, v8, v9, v10, v11⟩ := row12 Rv
  generalize (World.alloc (World.alloc (World.alloc (World.alloc (World.alloc w (.cells #[.int .i64 s.n, .int .i64 s.d0.kind, .int .i64 s.d0.side, .int .i64 s.d0.step, .int .i64 s.d1.kind, .int .i64 s.d1.side, .int .i64 s.d1.step] 26)) (.cells #[.int .i64 p.a0, .int .i64 p.a1, .int .i64 p.k0.kind, .int .i64 p.k0.len, .int .u64 p.k0.h, .int .u64 p.k0.l, .string ⟨p.k0.path.toArray⟩, .int .i64 p.k1.kind, .int .i64 p.k1.len, .int .u64 p.k1.h, .int .u64 p.k1.l, .string ⟨p.k1.path.toArray⟩] 33)) (.cells #[.int .i64 b0, .int .i64 b1] 27)) (.cells #[.int .i64 0, .int .i64 0, .int .i64 0, .int .i64 0, .int .u64 0, .int .u64 0, .string ⟨#[]⟩, .int .i64 0, .int .i64 0, .int .u64 0, .int .u64 0, .string ⟨#[]⟩] 33)) (.cells #[Value.int .i64 b0, Value.int .i64 b1, Value.int .i64 0, Value.int .i64 0, Value.int .u64 0, Value.int .u64 0, Value.string ⟨#[]⟩, Value.int .i64 0, Value.int .i64 0, Value.int .u64 0, Value.int .u64 0, Value.string ⟨#[]⟩] 33)) = w1 at *
  refine wp_loop_rounds 3 ?_
  rw [rounds_succ]
  go_wp2_with fail
  refine wp_region_held_drew (S := (fun w' => w'.cell? ⟨w.heap.size, 1, none⟩ = some (Value.int .i64 s.d0.kind) ∧ w'.cell? ⟨w.heap.size, 2, none⟩ = some (Value.int .i64 s.d0.side) ∧ w'.cell? ⟨w.heap.size, 3, none⟩ = some (Value.int .i64 s.d0.step) ∧ w'.cell? ⟨w.heap.size + 1 + 1, 0, none⟩ = some (Value.int .i64 b0) ∧ w'.cell? ⟨w.heap.size + 1 + 1, 1, none⟩ = some (Value.int .i64 b1) ∧ w'.cell? ⟨w.heap.size + 1, 2, none⟩ = some (Value.int .i64 p.k0.kind) ∧ w'.cell? ⟨w.heap.size + 1, 3, none⟩ = some (Value.int .i64 p.k0.len) ∧ w'.cell? ⟨w.heap.size + 1, 4, none⟩ = some (Value.int .u64 p.k0.h) ∧ w'.cell? ⟨w.heap.size + 1, 5, none⟩ = some (Value.int .u64 p.k0.l) ∧ w'.cell? ⟨w.heap.size + 1, 6, none⟩ = some (Value.string ⟨p.k0.path.toArray⟩))) (by kernel_rfl) ?hSr89_ (fun hHeld => ?_)
  case hSr89_ => (exact ⟨c1, c2, c3, y0, y1, d2, d3, d4, d5, d6⟩)
  (clear c0 c1 c2 c3 c4 c5 c6 d0 d1 d2 d3 d4 d5 d6 d7 d8 d9 d10 d11 y0 y1 r0 r1 r2 r3 r4 r5 r6 r7 r8 r9 r10 r11 v0 v1 v2 v3 v4 v5 v6 v7 v8 v9 v10 v11; (replace Rc := Rc.drew); (replace Rd := Rd.drew); (replace Ry := Ry.drew); (replace Rr := Rr.drew); (replace Rv := Rv.drew); (replace hb0 := hb0.drew); (generalize World.drew w1 = wq at *))
  refine tk 0 ⟨some 15, .move (.tmp 8), 3, _, _, _⟩ hHeld ?_
  (try simp only [Act.put, nz1, nz2, nz3])
  refine tk 1 ⟨some 16, .move (.tmp 8), 3, _, _, _⟩ hHeld ?_
  (try simp only [Act.put, nz1, nz2, nz3])
  refine tk 2 ⟨some 17, .fieldAddr 26 (.tmp 3) 1, 0, _, _, _⟩ hHeld ?_
  (try simp only [Act.put, nz1, nz2, nz3])
  refine tk 3 ⟨some 18, .indexAddr 24 (.tmp 17) (.tmp 16), 0, _, _, _⟩ hHeld ?_
  (try simp only [Act.put, nz1, nz2, nz3])
  refine tk 4 ⟨some 19, .load 23 (.tmp 18), 23, _, _, _⟩ hHeld ?_
  (try simp only [Act.put, nz1, nz2, nz3])
  refine tk 5 ⟨some 20, .move (.tmp 8), 3, _, _, _⟩ hHeld ?_
  (try simp only [Act.put, nz1, nz2, nz3])
  refine tk 6 ⟨some 21, .indexAddr 27 (.tmp 5) (.tmp 20), 0, _, _, _⟩ hHeld ?_
  (try simp only [Act.put, nz1, nz2, nz3])
  refine tk 7 ⟨some 22, .load 3 (.tmp 21), 3, _, _, _⟩ hHeld ?_
  (try simp only [Act.put, nz1, nz2, nz3])
  refine tk 8 ⟨some 23, .move (.tmp 8), 3, _, _, _⟩ hHeld ?_
  (try simp only [Act.put, nz1, nz2, nz3])
  refine tk 9 ⟨some 24, .fieldAddr 33 (.tmp 4) 1, 0, _, _, _⟩ hHeld ?_
  (try simp only [Act.put, nz1, nz2, nz3])
  refine tk 10 ⟨some 25, .indexAddr 31 (.tmp 24) (.tmp 23), 0, _, _, _⟩ hHeld ?_
  (try simp only [Act.put, nz1, nz2, nz3])
  refine tk 11 ⟨some 26, .load 30 (.tmp 25), 30, _, _, _⟩ hHeld ?_
  (try simp only [Act.put, nz1, nz2, nz3])
  refine tk 13 ⟨some 28, .fieldAddr 33 (.tmp 7) 1, 0, _, _, _⟩ hHeld ?_
  (try simp only [Act.put, nz1, nz2, nz3])
  refine wpAnyH_ready (rs := [12]) (by kernel_rfl) (by simp) ?_
  refine AllReadyH.cons (o := ⟨some 27, .call { callee := .value (.func 62), args := #[.tmp 19, .tmp 22, .tmp 26], argTypes := #[23, 3, 30] }, 30, _, _, _⟩) rfl (fun K hK => ?_) AllReadyH.nil
  (go_simp; (refine (HC0 _).mono ?_); (rintro e wz ⟨rfl, hb⟩); (replace Rc := Rc.later hb); (replace Rd := Rd.later hb); (replace Ry := Ry.later hb); (replace Rr := Rr.later hb); (replace Rv := Rv.later hb); (replace hb0 := below_step hb0 hb); go_wp2_with fail)
  refine hK.out _ _ ?hSr89_14_12 (fun hHeld2 => ?_)
  case hSr89_14_12 => (obtain ⟨c1, c2, c3, y0, y1, d2, d3, d4, d5, d6⟩ := hHeld; exact ⟨cell_later hb c1, cell_later hb c2, cell_later hb c3, cell_later hb y0, cell_later hb y1, cell_later hb d2, cell_later hb d3, cell_later hb d4, cell_later hb d5, cell_later hb d6⟩)
  clear hK K hHeld
  have hHeld := hHeld2
  clear hHeld2
  rename World => wq
  (try simp only [Act.put, nz1, nz2, nz3])
  refine tk 14 ⟨some 29, .indexAddr 31 (.tmp 28) (.tmp 15), 0, _, _, _⟩ hHeld ?_
  (try simp only [Act.put, nz1, nz2, nz3])
  refine wpAnyH_ready (rs := [15]) (by kernel_rfl) (by simp) ?_
  refine AllReadyH.cons (o := ⟨none, .store 30 (.tmp 29) (.tmp 27), 0, _, _, _⟩) rfl (fun K hK => ?_) AllReadyH.nil
  ((rw [if_pos (by rfl)]); (with_reducible refine pst 30 (.tmp 29) (.tmp 27) ?_ (w.heap.size + 1 + 1 + 1 + 1) 2 #[.int .i64 u0.kind, .int .i64 u0.len, .int .u64 u0.h, .int .u64 u0.l, .string ⟨u0.path.toArray⟩] ?_ ?_ ?_ ?_ ?_ ?_); rfl; rfl; rfl; (exact Row.thereAt Rv 2 _ (by simp)); (exact infoKe); (simp [Value.oneCell']); (rintro wz hwz); (have hHq := hHeld); (obtain ⟨c1, c2, c3, y0, y1, d2, d3, d4, d5, d6⟩ := hHq); (replace c1 := pcf hwz c1); (replace c2 := pcf hwz c2); (replace c3 := pcf hwz c3); (replace y0 := pcf hwz y0); (replace y1 := pcf hwz y1); (replace d2 := pcf hwz d2); (replace d3 := pcf hwz d3); (replace d4 := pcf hwz d4); (replace d5 := pcf hwz d5); (replace d6 := pcf hwz d6); (replace Rc := prf hwz Rc); (replace Rd := prf hwz Rd); (replace Ry := prf hwz Ry); (replace Rr := prf hwz Rr); (replace hb0 := pbl hwz hb0); (replace Rv : Row wz (w.heap.size + 1 + 1 + 1 + 1) #[.int .i64 b0, .int .i64 b1, .int .i64 u0.kind, .int .i64 u0.len, .int .u64 u0.h, .int .u64 u0.l, .string ⟨u0.path.toArray⟩, .int .i64 0, .int .i64 0, .int .u64 0, .int .u64 0, .string ⟨#[]⟩] 33 := psm hwz Rv (by simp [setL])); clear hwz)
  refine hK.out _ _ ?hSr89_16_15 (fun hHeld2 => ?_)
  case hSr89_16_15 => (exact ⟨c1, c2, c3, y0, y1, d2, d3, d4, d5, d6⟩)
  clear hK K hHeld
  have hHeld := hHeld2
  clear hHeld2
  rename World => wq
  (try simp only [Act.put, nz1, nz2, nz3])
  refine wpAnyH_done (by kernel_rfl) ?_ _
  clear hHeld
  rename World => w2
  have lc := Rc.lt
  have ld := Rd.lt
  have ly := Ry.lt
  have lr := Rr.lt
  have lv := Rv.lt
  (try clear c0 c1 c2 c3 c4 c5 c6); obtain ⟨c0, c1, c2, c3, c4, c5, c6⟩ := row7 Rc
  (try clear d0 d1 d2 d3 d4 d5 d6 d7 d8 d9 d10 d11); obtain ⟨d0, d1, d2, d3, d4, d5, d6, d7, d8, d9, d10, d11⟩ := row12 Rd
  (try clear y0 y1); obtain ⟨y0, y1⟩ := row2 Ry
  (try clear r0 r1 r2 r3 r4 r5 r6 r7 r8 r9 r10 r11); obtain ⟨r0, r1, r2, r3, r4, r5, r6, r7, r8, r9, r10, r11⟩ := row12 Rr
  (try clear v0 v1 v2 v3 v4 v5 v6 v7 v8 v9 v10 v11); obtain ⟨v0, v1, v2, v3, v4, v5, v6, v7, v8, v9, v10, v11⟩ := row12 Rv
  go_wp2_with fail
  rw [rounds_succ]
  go_wp2_with fail
  refine wp_region_held_drew (S := (fun w' => w'.cell? ⟨w.heap.size, 4, none⟩ = some (Value.int .i64 s.d1.kind) ∧ w'.cell? ⟨w.heap.size, 5, none⟩ = some (Value.int .i64 s.d1.side) ∧ w'.cell? ⟨w.heap.size, 6, none⟩ = some (Value.int .i64 s.d1.step) ∧ w'.cell? ⟨w.heap.size + 1 + 1, 0, none⟩ = some (Value.int .i64 b0) ∧ w'.cell? ⟨w.heap.size + 1 + 1, 1, none⟩ = some (Value.int .i64 b1) ∧ w'.cell? ⟨w.heap.size + 1, 7, none⟩ = some (Value.int .i64 p.k1.kind) ∧ w'.cell? ⟨w.heap.size + 1, 8, none⟩ = some (Value.int .i64 p.k1.len) ∧ w'.cell? ⟨w.heap.size + 1, 9, none⟩ = some (Value.int .u64 p.k1.h) ∧ w'.cell? ⟨w.heap.size + 1, 10, none⟩ = some (Value.int .u64 p.k1.l) ∧ w'.cell? ⟨w.heap.size + 1, 11, none⟩ = some (Value.string ⟨p.k1.path.toArray⟩))) (by kernel_rfl) ?hSr90_ (fun hHeld => ?_)
  case hSr90_ => (exact ⟨c4, c5, c6, y0, y1, d7, d8, d9, d10, d11⟩)
  (clear c0 c1 c2 c3 c4 c5 c6 d0 d1 d2 d3 d4 d5 d6 d7 d8 d9 d10 d11 y0 y1 r0 r1 r2 r3 r4 r5 r6 r7 r8 r9 r10 r11 v0 v1 v2 v3 v4 v5 v6 v7 v8 v9 v10 v11; (replace Rc := Rc.drew); (replace Rd := Rd.drew); (replace Ry := Ry.drew); (replace Rr := Rr.drew); (replace Rv := Rv.drew); (replace hb0 := hb0.drew); (generalize World.drew w2 = wq at *))
  refine tk 0 ⟨some 15, .move (.tmp 8), 3, _, _, _⟩ hHeld ?_
  (try simp only [Act.put, nz1, nz2, nz3])
  refine tk 1 ⟨some 16, .move (.tmp 8), 3, _, _, _⟩ hHeld ?_
  (try simp only [Act.put, nz1, nz2, nz3])
  refine tk 2 ⟨some 17, .fieldAddr 26 (.tmp 3) 1, 0, _, _, _⟩ hHeld ?_
  (try simp only [Act.put, nz1, nz2, nz3])
  refine tk 3 ⟨some 18, .indexAddr 24 (.tmp 17) (.tmp 16), 0, _, _, _⟩ hHeld ?_
  (try simp only [Act.put, nz1, nz2, nz3])
  refine tk 4 ⟨some 19, .load 23 (.tmp 18), 23, _, _, _⟩ hHeld ?_
  (try simp only [Act.put, nz1, nz2, nz3])
  refine tk 5 ⟨some 20, .move (.tmp 8), 3, _, _, _⟩ hHeld ?_
  (try simp only [Act.put, nz1, nz2, nz3])
  refine tk 6 ⟨some 21, .indexAddr 27 (.tmp 5) (.tmp 20), 0, _, _, _⟩ hHeld ?_
  (try simp only [Act.put, nz1, nz2, nz3])
  refine tk 7 ⟨some 22, .load 3 (.tmp 21), 3, _, _, _⟩ hHeld ?_
  (try simp only [Act.put, nz1, nz2, nz3])
  refine tk 8 ⟨some 23, .move (.tmp 8), 3, _, _, _⟩ hHeld ?_
  (try simp only [Act.put, nz1, nz2, nz3])
  refine tk 9 ⟨some 24, .fieldAddr 33 (.tmp 4) 1, 0, _, _, _⟩ hHeld ?_
  (try simp only [Act.put, nz1, nz2, nz3])
  refine tk 10 ⟨some 25, .indexAddr 31 (.tmp 24) (.tmp 23), 0, _, _, _⟩ hHeld ?_
  (try simp only [Act.put, nz1, nz2, nz3])
  refine tk 11 ⟨some 26, .load 30 (.tmp 25), 30, _, _, _⟩ hHeld ?_
  (try simp only [Act.put, nz1, nz2, nz3])
  refine tk 13 ⟨some 28, .fieldAddr 33 (.tmp 7) 1, 0, _, _, _⟩ hHeld ?_
  (try simp only [Act.put, nz1, nz2, nz3])
  refine wpAnyH_ready (rs := [12]) (by kernel_rfl) (by simp) ?_
  refine AllReadyH.cons (o := ⟨some 27, .call { callee := .value (.func 62), args := #[.tmp 19, .tmp 22, .tmp 26], argTypes := #[23, 3, 30] }, 30, _, _, _⟩) rfl (fun K hK => ?_) AllReadyH.nil
  (go_simp; (refine (HC1 _).mono ?_); (rintro e wz ⟨rfl, hb⟩); (replace Rc := Rc.later hb); (replace Rd := Rd.later hb); (replace Ry := Ry.later hb); (replace Rr := Rr.later hb); (replace Rv := Rv.later hb); (replace hb0 := below_step hb0 hb); go_wp2_with fail)
  refine hK.out _ _ ?hSr90_14_12 (fun hHeld2 => ?_)
  case hSr90_14_12 => (obtain ⟨c4, c5, c6, y0, y1, d7, d8, d9, d10, d11⟩ := hHeld; exact ⟨cell_later hb c4, cell_later hb c5, cell_later hb c6, cell_later hb y0, cell_later hb y1, cell_later hb d7, cell_later hb d8, cell_later hb d9, cell_later hb d10, cell_later hb d11⟩)
  clear hK K hHeld
  have hHeld := hHeld2
  clear hHeld2
  rename World => wq
  (try simp only [Act.put, nz1, nz2, nz3])
  refine tk 14 ⟨some 29, .indexAddr 31 (.tmp 28) (.tmp 15), 0, _, _, _⟩ hHeld ?_
  (try simp only [Act.put, nz1, nz2, nz3])
  refine wpAnyH_ready (rs := [15]) (by kernel_rfl) (by simp) ?_
  refine AllReadyH.cons (o := ⟨none, .store 30 (.tmp 29) (.tmp 27), 0, _, _, _⟩) rfl (fun K hK => ?_) AllReadyH.nil
  ((rw [if_pos (by rfl)]); (with_reducible refine pst 30 (.tmp 29) (.tmp 27) ?_ (w.heap.size + 1 + 1 + 1 + 1) 7 #[.int .i64 u1.kind, .int .i64 u1.len, .int .u64 u1.h, .int .u64 u1.l, .string ⟨u1.path.toArray⟩] ?_ ?_ ?_ ?_ ?_ ?_); rfl; rfl; rfl; (exact Row.thereAt Rv 7 _ (by simp)); (exact infoKe); (simp [Value.oneCell']); (rintro wz hwz); (have hHq := hHeld); (obtain ⟨c4, c5, c6, y0, y1, d7, d8, d9, d10, d11⟩ := hHq); (replace c4 := pcf hwz c4); (replace c5 := pcf hwz c5); (replace c6 := pcf hwz c6); (replace y0 := pcf hwz y0); (replace y1 := pcf hwz y1); (replace d7 := pcf hwz d7); (replace d8 := pcf hwz d8); (replace d9 := pcf hwz d9); (replace d10 := pcf hwz d10); (replace d11 := pcf hwz d11); (replace Rc := prf hwz Rc); (replace Rd := prf hwz Rd); (replace Ry := prf hwz Ry); (replace Rr := prf hwz Rr); (replace hb0 := pbl hwz hb0); (replace Rv : Row wz (w.heap.size + 1 + 1 + 1 + 1) #[.int .i64 b0, .int .i64 b1, .int .i64 u0.kind, .int .i64 u0.len, .int .u64 u0.h, .int .u64 u0.l, .string ⟨u0.path.toArray⟩, .int .i64 u1.kind, .int .i64 u1.len, .int .u64 u1.h, .int .u64 u1.l, .string ⟨u1.path.toArray⟩] 33 := psm hwz Rv (by simp [setL])); clear hwz)
  refine hK.out _ _ ?hSr90_16_15 (fun hHeld2 => ?_)
  case hSr90_16_15 => (exact ⟨c4, c5, c6, y0, y1, d7, d8, d9, d10, d11⟩)
  clear hK K hHeld
  have hHeld := hHeld2
  clear hHeld2
  rename World => wq
  (try simp only [Act.put, nz1, nz2, nz3])
  refine wpAnyH_done (by kernel_rfl) ?_ _
  clear hHeld
  rename World => w3
  have lc := Rc.lt
  have ld := Rd.lt
  have ly := Ry.lt
  have lr := Rr.lt
  have lv := Rv.lt
  (try clear c0 c1 c2 c3 c4 c5 c6); obtain ⟨c0, c1, c2, c3, c4, c5, c6⟩ := row7 Rc
  (try clear d0 d1 d2 d3 d4 d5 d6 d7 d8 d9 d10 d11); obtain ⟨d0, d1, d2, d3, d4, d5, d6, d7, d8, d9, d10, d11⟩ := row12 Rd
  (try clear y0 y1); obtain ⟨y0, y1⟩ := row2 Ry
  (try clear r0 r1 r2 r3 r4 r5 r6 r7 r8 r9 r10 r11); obtain ⟨r0, r1, r2, r3, r4, r5, r6, r7, r8, r9, r10, r11⟩ := row12 Rr
  (try clear v0 v1 v2 v3 v4 v5 v6 v7 v8 v9 v10 v11); obtain ⟨v0, v1, v2, v3, v4, v5, v6, v7, v8, v9, v10, v11⟩ := row12 Rv
  go_wp2_with fail
  rw [rounds_succ]
  go_wp2_with fail
  refine (HO _).mono ?_
  rintro e w4 ⟨rfl, hb⟩
  replace Rc := Rc.later hb
  replace Rd := Rd.later hb
  replace Ry := Ry.later hb
  replace Rr := Rr.later hb
  replace Rv := Rv.later hb
  replace hb0 := below_step hb0 hb
  clear hb
  have lc := Rc.lt
  have ld := Rd.lt
  have ly := Ry.lt
  have lr := Rr.lt
  have lv := Rv.lt
  (try clear c0 c1 c2 c3 c4 c5 c6); obtain ⟨c0, c1, c2, c3, c4, c5, c6⟩ := row7 Rc
  (try clear d0 d1 d2 d3 d4 d5 d6 d7 d8 d9 d10 d11); obtain ⟨d0, d1, d2, d3, d4, d5, d6, d7, d8, d9, d10, d11⟩ := row12 Rd
  (try clear y0 y1); obtain ⟨y0, y1⟩ := row2 Ry
  (try clear r0 r1 r2 r3 r4 r5 r6 r7 r8 r9 r10 r11); obtain ⟨r0, r1, r2, r3, r4, r5, r6, r7, r8, r9, r10, r11⟩ := row12 Rr
  (try clear v0 v1 v2 v3 v4 v5 v6 v7 v8 v9 v10 v11); obtain ⟨v0, v1, v2, v3, v4, v5, v6, v7, v8, v9, v10, v11⟩ := row12 Rv
  have rf0 := Rr.frozen 0
  have rf1 := Rr.frozen 1
  have rf2 := Rr.frozen 2
  have rf3 := Rr.frozen 3
  have rf4 := Rr.frozen 4
  have rf5 := Rr.frozen 5
  have rf6 := Rr.frozen 6
  have rf7 := Rr.frozen 7
  have rf8 := Rr.frozen 8
  have rf9 := Rr.frozen 9
  have rf10 := Rr.frozen 10
  have rf11 := Rr.frozen 11
  go_wp2
  obtain ⟨w5, hwn⟩ : ∃ wz, wz = (World.setCell (World.setCell (World.setCell (World.setCell (World.setCell (World.setCell (World.setCell (World.setCell (World.setCell (World.setCell (World.setCell (World.setCell w4 ⟨(w.heap.size + 1 + 1 + 1), 0, none⟩ (.int .i64 b0)) ⟨(w.heap.size + 1 + 1 + 1), 1, none⟩ (.int .i64 b1)) ⟨(w.heap.size + 1 + 1 + 1), 2, none⟩ (.int .i64 u0.kind)) ⟨(w.heap.size + 1 + 1 + 1), 3, none⟩ (.int .i64 u0.len)) ⟨(w.heap.size + 1 + 1 + 1), 4, none⟩ (.int .u64 u0.h)) ⟨(w.heap.size + 1 + 1 + 1), 5, none⟩ (.int .u64 u0.l)) ⟨(w.heap.size + 1 + 1 + 1), 6, none⟩ (.string ⟨u0.path.toArray⟩)) ⟨(w.heap.size + 1 + 1 + 1), 7, none⟩ (.int .i64 u1.kind)) ⟨(w.heap.size + 1 + 1 + 1), 8, none⟩ (.int .i64 u1.len)) ⟨(w.heap.size + 1 + 1 + 1), 9, none⟩ (.int .u64 u1.h)) ⟨(w.heap.size + 1 + 1 + 1), 10, none⟩ (.int .u64 u1.l)) ⟨(w.heap.size + 1 + 1 + 1), 11, none⟩ (.string ⟨u1.path.toArray⟩)) := ⟨_, rfl⟩
  rw [← hwn]
  replace hwn : w5 = World.setCells w4 (w.heap.size + 1 + 1 + 1) 0 [.int .i64 b0, .int .i64 b1, .int .i64 u0.kind, .int .i64 u0.len, .int .u64 u0.h, .int .u64 u0.l, .string ⟨u0.path.toArray⟩, .int .i64 u1.kind, .int .i64 u1.len, .int .u64 u1.h, .int .u64 u1.l, .string ⟨u1.path.toArray⟩] := hwn
  replace Rr : Row w5 (w.heap.size + 1 + 1 + 1) #[.int .i64 b0, .int .i64 b1, .int .i64 u0.kind, .int .i64 u0.len, .int .u64 u0.h, .int .u64 u0.l, .string ⟨u0.path.toArray⟩, .int .i64 u1.kind, .int .i64 u1.len, .int .u64 u1.h, .int .u64 u1.l, .string ⟨u1.path.toArray⟩] 33 := psm hwn Rr (by simp [setL])
  replace Rc := prf hwn Rc
  replace Rd := prf hwn Rd
  replace Ry := prf hwn Ry
  replace Rv := prf hwn Rv
  replace hb0 := pbl hwn hb0
  clear hwn c0 c1 c2 c3 c4 c5 c6 d0 d1 d2 d3 d4 d5 d6 d7 d8 d9 d10 d11 y0 y1 r0 r1 r2 r3 r4 r5 r6 r7 r8 r9 r10 r11 v0 v1 v2 v3 v4 v5 v6 v7 v8 v9 v10 v11
  (try clear rf0 rf1 rf2 rf3 rf4 rf5 rf6 rf7 rf8 rf9 rf10 rf11)
  (try clear c0 c1 c2 c3 c4 c5 c6); obtain ⟨c0, c1, c2, c3, c4, c5, c6⟩ := row7 Rc
  (try clear d0 d1 d2 d3 d4 d5 d6 d7 d8 d9 d10 d11); obtain ⟨d0, d1, d2, d3, d4, d5, d6, d7, d8, d9, d10, d11⟩ := row12 Rd
  (try clear y0 y1); obtain ⟨y0, y1⟩ := row2 Ry
  (try clear r0 r1 r2 r3 r4 r5 r6 r7 r8 r9 r10 r11); obtain ⟨r0, r1, r2, r3, r4, r5, r6, r7, r8, r9, r10, r11⟩ := row12 Rr
  (try clear v0 v1 v2 v3 v4 v5 v6 v7 v8 v9 v10 v11); obtain ⟨v0, v1, v2, v3, v4, v5, v6, v7, v8, v9, v10, v11⟩ := row12 Rv
  refine bodyPost_ret (v := .agg #[.int .i64 b0, .int .i64 b1, .int .i64 u0.kind, .int .i64 u0.len, .int .u64 u0.h, .int .u64 u0.l, .string ⟨u0.path.toArray⟩, .int .i64 u1.kind, .int .i64 u1.len, .int .u64 u1.h, .int .u64 u1.l, .string ⟨u1.path.toArray⟩]) (by simp [results, Try.results27, go_sem, r0, r1, r2, r3, r4, r5, r6, r7, r8, r9, r10, r11]) rfl ⟨rfl, hb0⟩
theorem rup_t (s : Sp) (p : Px) (ok : p.ok) (b0 b1 : Int) (h0 : -9223372036854775808 ≤ b0) (h1 : b0 ≤ 9223372036854775807) (h2 : -9223372036854775808 ≤ b1) (h3 : b1 ≤ 9223372036854775807) (w : World) : Calls Try.prog 27 #[sv s, pv p, .agg #[.int .i64 b0, .int .i64 b1]] w fun e w' => e = .returned (pv (upP s p b0 b1)) ∧ Below w.heap.size w w' := by
  have HC0 := r8cut_t s.d0 b0 p.k0 ok.k0
  have HC1 := r8cut_t s.d1 b1 p.k1 ok.k1
  have HO := rover9_t s (upX s p b0 b1) p ⟨cutD_ok ok.k0 _ _, cutD_ok ok.k1 _ _, h0, h1, h2, h3⟩ ok
  have hu := @up_on s p b0 b1
  have hn : upB s p b0 b1 = false → upP s p b0 b1 = pz ∧ overP s (upX s p b0 b1) p = false := fun h => by
    refine ⟨by unfold upP; rw [h]; rfl, ?_⟩
    cases ho : overP s (upX s p b0 b1) p with
    | false => rfl
    | true =>
      obtain ⟨r1, r2, ⟨r3, _⟩, r4, _⟩ := (overP_iff _ _ _).1 ho
      obtain ⟨_, o0, o1⟩ := (right_iff _ _).1 r1
      have q0 := onE_range o0
      have q1 := onE_range o1
      have : upB s p b0 b1 = true := by
        unfold upB; simp only [Bool.and_eq_true, decide_eq_true_eq]
        exact ⟨r2, r3, q0.2, r4, q1.2⟩
      rw [h] at this; cases this
  cases hb : upB s p b0 b1 with
  | false =>
    obtain ⟨e1, e2⟩ := hn hb
    rw [e2] at HO
    rw [e1]
    exact rup_false s p b0 b1 _ _ HC0 HC1 HO w
  | true =>
    obtain ⟨e1, e2, _⟩ := hu hb
    rw [e2] at HO
    rw [e1]
    exact rup_true s p b0 b1 _ _ HC0 HC1 HO w
end Go.Proofs.Ytbekocknfpekoaa
namespace Go.Proofs.Ytbekocknfpekoaa
set_option linter.unusedVariables false
set_option linter.unusedSimpArgs false
open Go.RowKit
set_option maxRecDepth 100000 in
set_option maxHeartbeats 32000000 in
theorem ups9_false (s : Sp) (p q u : Px) (i j : Int)
    (H1 : ∀ w, Calls Try.prog 26 #[sv s, pv p, .agg #[.int .i64 i, .int .i64 j]] w fun e w' => e = .returned (pv u) ∧ Below w.heap.size w w')
    (H2 : ∀ w, Calls Try.prog 27 #[sv s, pv p, .agg #[.int .i64 i, .int .i64 j]] w fun e w' => e = .returned (pv u) ∧ Below w.heap.size w w')
    (H3 : ∀ w, Calls Try.prog 28 #[sv s, pv p, pv q] w fun e w' => e = .returned (.bool false) ∧ Below w.heap.size w w')
    (H4 : ∀ w, Calls Try.prog 29 #[sv s, pv p, pv q] w fun e w' => e = .returned (.bool false) ∧ Below w.heap.size w w') (w : World) :
    Calls Try.prog 4 #[sv s, pv p, pv q, .int .i64 i, .int .i64 j] w fun e w' => e = .returned (.bool true) ∧ Below w.heap.size w w' := by
  have HA := alive9_t
  have qe := eql_px u u
  rw [decide_eq_true rfl] at qe
  unfold sv pv at *
  obtain ⟨Rg, Rd, Re, hb0⟩ := three_rows w #[.int .i64 s.n, .int .i64 s.d0.kind, .int .i64 s.d0.side, .int .i64 s.d0.step, .int .i64 s.d1.kind, .int .i64 s.d1.side, .int .i64 s.d1.step] #[.int .i64 p.a0, .int .i64 p.a1, .int .i64 p.k0.kind, .int .i64 p.k0.len, .int .u64 p.k0.h, .int .u64 p.k0.l, .string ⟨p.k0.path.toArray⟩, .int .i64 p.k1.kind, .int .i64 p.k1.len, .int .u64 p.k1.h, .int .u64 p.k1.l, .string ⟨p.k1.path.toArray⟩] #[.int .i64 q.a0, .int .i64 q.a1, .int .i64 q.k0.kind, .int .i64 q.k0.len, .int .u64 q.k0.h, .int .u64 q.k0.l, .string ⟨q.k0.path.toArray⟩, .int .i64 q.k1.kind, .int .i64 q.k1.len, .int .u64 q.k1.h, .int .u64 q.k1.l, .string ⟨q.k1.path.toArray⟩] 26 33 33
  (try clear g0 g1 g2 g3 g4 g5 g6); obtain ⟨g0, g1, g2, g3, g4, g5, g6⟩ := row7 Rg
  (try clear d0 d1 d2 d3 d4 d5 d6 d7 d8 d9 d10 d11); obtain ⟨d0, d1, d2, d3, d4, d5, d6, d7, d8, d9, d10, d11⟩ := row12 Rd
  (try clear e0 e1 e2 e3 e4 e5 e6 e7 e8 e9 e10 e11); obtain ⟨e0, e1, e2, e3, e4, e5, e6, e7, e8, e9, e10, e11⟩ := row12 Re
  go_enter Try.func4, Try.ntmps4
  go_wp2_with fail
  replace Rg := Rg.alloc (.cells #[Value.int .i64 i, Value.int .i64 j] 27)
  replace Rd := Rd.alloc (.cells #[Value.int .i64 i, Value.int .i64 j] 27)
  replace Re := Re.alloc (.cells #[Value.int .i64 i, Value.int .i64 j] 27)
  have Rm := Row.new (World.alloc (World.alloc (World.alloc w (.cells #[.int .i64 s.n, .int .i64 s.d0.kind, .int .i64 s.d0.side, .int .i64 s.d0.step, .int .i64 s.d1.kind, .int .i64 s.d1.side, .int .i64 s.d1.step] 26)) (.cells #[.int .i64 p.a0, .int .i64 p.a1, .int .i64 p.k0.kind, .int .i64 p.k0.len, .int .u64 p.k0.h, .int .u64 p.k0.l, .string ⟨p.k0.path.toArray⟩, .int .i64 p.k1.kind, .int .i64 p.k1.len, .int .u64 p.k1.h, .int .u64 p.k1.l, .string ⟨p.k1.path.toArray⟩] 33)) (.cells #[.int .i64 q.a0, .int .i64 q.a1, .int .i64 q.k0.kind, .int .i64 q.k0.len, .int .u64 q.k0.h, .int .u64 q.k0.l, .string ⟨q.k0.path.toArray⟩, .int .i64 q.k1.kind, .int .i64 q.k1.len, .int .u64 q.k1.h, .int .u64 q.k1.l, .string ⟨q.k1.path.toArray⟩] 33)) #[Value.int .i64 i, Value.int .i64 j] 27
  simp only [World.size_alloc] at Rm
  have mm := hb0.size
  replace hb0 := hb0.alloc hb0.size (.cells #[Value.int .i64 i, Value.int .i64 j] 27)
  (try clear g0 g1 g2 g3 g4 g5 g6); obtain ⟨g0, g1, g2, g3, g4, g5, g6⟩ := row7 Rg
  (try clear d0 d1 d2 d3 d4 d5 d6 d7 d8 d9 d10 d11); obtain ⟨d0, d1, d2, d3, d4, d5, d6, d7, d8, d9, d10, d11⟩ := row12 Rd
  (try clear e0 e1 e2 e3 e4 e5 e6 e7 e8 e9 e10 e11); obtain ⟨e0, e1, e2, e3, e4, e5, e6, e7, e8, e9, e10, e11⟩ := row12 Re
  (try clear m0 m1); obtain ⟨m0, m1⟩ := row2 Rm
  generalize (World.alloc (World.alloc (World.alloc (World.alloc w (.cells #[.int .i64 s.n, .int .i64 s.d0.kind, .int .i64 s.d0.side, .int .i64 s.d0.step, .int .i64 s.d1.kind, .int .i64 s.d1.side, .int .i64 s.d1.step] 26)) (.cells #[.int .i64 p.a0, .int .i64 p.a1, .int .i64 p.k0.kind, .int .i64 p.k0.len, .int .u64 p.k0.h, .int .u64 p.k0.l, .string ⟨p.k0.path.toArray⟩, .int .i64 p.k1.kind, .int .i64 p.k1.len, .int .u64 p.k1.h, .int .u64 p.k1.l, .string ⟨p.k1.path.toArray⟩] 33)) (.cells #[.int .i64 q.a0, .int .i64 q.a1, .int .i64 q.k0.kind, .int .i64 q.k0.len, .int .u64 q.k0.h, .int .u64 q.k0.l, .string ⟨q.k0.path.toArray⟩, .int .i64 q.k1.kind, .int .i64 q.k1.len, .int .u64 q.k1.h, .int .u64 q.k1.l, .string ⟨q.k1.path.toArray⟩] 33)) (.cells #[Value.int .i64 i, Value.int .i64 j] 27)) = w1 at *
  refine wp_region_held_drew (S := (fun w' => w'.cell? ⟨w.heap.size + 1 + 1 + 1, 0, none⟩ = some (Value.int .i64 i) ∧ w'.cell? ⟨w.heap.size + 1 + 1 + 1, 1, none⟩ = some (Value.int .i64 j) ∧ Row w' w.heap.size #[.int .i64 s.n, .int .i64 s.d0.kind, .int .i64 s.d0.side, .int .i64 s.d0.step, .int .i64 s.d1.kind, .int .i64 s.d1.side, .int .i64 s.d1.step] 26 ∧ Row w' (w.heap.size + 1) #[.int .i64 p.a0, .int .i64 p.a1, .int .i64 p.k0.kind, .int .i64 p.k0.len, .int .u64 p.k0.h, .int .u64 p.k0.l, .string ⟨p.k0.path.toArray⟩, .int .i64 p.k1.kind, .int .i64 p.k1.len, .int .u64 p.k1.h, .int .u64 p.k1.l, .string ⟨p.k1.path.toArray⟩] 33 ∧ Row w' (w.heap.size + 1 + 1) #[.int .i64 q.a0, .int .i64 q.a1, .int .i64 q.k0.kind, .int .i64 q.k0.len, .int .u64 q.k0.h, .int .u64 q.k0.l, .string ⟨q.k0.path.toArray⟩, .int .i64 q.k1.kind, .int .i64 q.k1.len, .int .u64 q.k1.h, .int .u64 q.k1.l, .string ⟨q.k1.path.toArray⟩] 33)) (by kernel_rfl) ?hSr91_ (fun hHeld => ?_)
  case hSr91_ => (exact ⟨m0, m1, Rg.drew, Rd.drew, Re.drew⟩)
  (clear g0 g1 g2 g3 g4 g5 g6 d0 d1 d2 d3 d4 d5 d6 d7 d8 d9 d10 d11 e0 e1 e2 e3 e4 e5 e6 e7 e8 e9 e10 e11 m0 m1; (replace Rg := Rg.drew); (replace Rd := Rd.drew); (replace Re := Re.drew); (replace Rm := Rm.drew); (replace hb0 := hb0.drew); (generalize World.drew w1 = wq at *))
  refine wpAnyH_ready (rs := [0]) (by kernel_rfl) (by simp) ?_
  refine AllReadyH.cons (o := ⟨some 15, .call { callee := .value (.func 24), args := #[], argTypes := #[] }, 4, _, _, _⟩) rfl (fun K hK => ?_) AllReadyH.nil
  (go_simp; (refine (HA _).mono ?_); (rintro e wz ⟨rfl, hb⟩); (replace Rg := Rg.later hb); (replace Rd := Rd.later hb); (replace Re := Re.later hb); (replace Rm := Rm.later hb); (replace hb0 := below_step hb0 hb); go_wp2_with fail)
  refine hK.out _ _ ?hSr91_1_0 (fun hHeld2 => ?_)
  case hSr91_1_0 => (obtain ⟨m0, m1, Qg, Qd, Qe⟩ := hHeld; exact ⟨cell_later hb m0, cell_later hb m1, Qg.later hb, Qd.later hb, Qe.later hb⟩)
  clear hK K hHeld
  have hHeld := hHeld2
  clear hHeld2
  rename World => wq
  (try simp only [Act.put, nz1, nz2, nz3])
  refine tk 1 ⟨some 16, .move (.tmp 15), 4, _, _, _⟩ hHeld ?_
  (try simp only [Act.put, nz1, nz2, nz3])
  refine tk 2 ⟨some 17, .load 26 (.tmp 5), 26, _, _, _⟩ hHeld ?_ (v := ?vr91_3_2) (hy := ?yr91_3_2)
  case yr91_3_2 => (intro wy hSw; obtain ⟨m0, m1, Qg, Qd, Qe⟩ := hSw; (with_reducible refine pexec_load 26 (.tmp 5) ?_ w.heap.size ?_ 26 #[.int .i64 s.n, .int .i64 s.d0.kind, .int .i64 s.d0.side, .int .i64 s.d0.step, .int .i64 s.d1.kind, .int .i64 s.d1.side, .int .i64 s.d1.step] _ Qg Try.underlying26 ?_ ?_) <;> first | rfl | exact infoSp)
  (try simp only [Act.put, nz1, nz2, nz3])
  refine tk 3 ⟨some 18, .load 33 (.tmp 6), 33, _, _, _⟩ hHeld ?_ (v := ?vr91_4_3) (hy := ?yr91_4_3)
  case yr91_4_3 => (intro wy hSw; obtain ⟨m0, m1, Qg, Qd, Qe⟩ := hSw; (with_reducible refine pexec_load 33 (.tmp 6) ?_ (w.heap.size + 1) ?_ 33 #[.int .i64 p.a0, .int .i64 p.a1, .int .i64 p.k0.kind, .int .i64 p.k0.len, .int .u64 p.k0.h, .int .u64 p.k0.l, .string ⟨p.k0.path.toArray⟩, .int .i64 p.k1.kind, .int .i64 p.k1.len, .int .u64 p.k1.h, .int .u64 p.k1.l, .string ⟨p.k1.path.toArray⟩] _ Qd Try.underlying33 ?_ ?_) <;> first | rfl | exact infoPx)
  (try simp only [Act.put, nz1, nz2, nz3])
  refine tk 4 ⟨some 19, .load 27 (.tmp 11), 27, _, _, _⟩ hHeld ?_
  (try simp only [Act.put, nz1, nz2, nz3])
  refine tk 6 ⟨some 21, .load 26 (.tmp 5), 26, _, _, _⟩ hHeld ?_ (v := ?vr91_6_6) (hy := ?yr91_6_6)
  case yr91_6_6 => (intro wy hSw; obtain ⟨m0, m1, Qg, Qd, Qe⟩ := hSw; (with_reducible refine pexec_load 26 (.tmp 5) ?_ w.heap.size ?_ 26 #[.int .i64 s.n, .int .i64 s.d0.kind, .int .i64 s.d0.side, .int .i64 s.d0.step, .int .i64 s.d1.kind, .int .i64 s.d1.side, .int .i64 s.d1.step] _ Qg Try.underlying26 ?_ ?_) <;> first | rfl | exact infoSp)
  (try simp only [Act.put, nz1, nz2, nz3])
  refine tk 7 ⟨some 22, .load 33 (.tmp 6), 33, _, _, _⟩ hHeld ?_ (v := ?vr91_7_7) (hy := ?yr91_7_7)
  case yr91_7_7 => (intro wy hSw; obtain ⟨m0, m1, Qg, Qd, Qe⟩ := hSw; (with_reducible refine pexec_load 33 (.tmp 6) ?_ (w.heap.size + 1) ?_ 33 #[.int .i64 p.a0, .int .i64 p.a1, .int .i64 p.k0.kind, .int .i64 p.k0.len, .int .u64 p.k0.h, .int .u64 p.k0.l, .string ⟨p.k0.path.toArray⟩, .int .i64 p.k1.kind, .int .i64 p.k1.len, .int .u64 p.k1.h, .int .u64 p.k1.l, .string ⟨p.k1.path.toArray⟩] _ Qd Try.underlying33 ?_ ?_) <;> first | rfl | exact infoPx)
  (try simp only [Act.put, nz1, nz2, nz3])
  refine tk 8 ⟨some 23, .load 27 (.tmp 11), 27, _, _, _⟩ hHeld ?_
  (try simp only [Act.put, nz1, nz2, nz3])
  refine wpAnyH_ready (rs := [5]) (by kernel_rfl) (by simp) ?_
  refine AllReadyH.cons (o := ⟨some 20, .call { callee := .value (.func 26), args := #[.tmp 17, .tmp 18, .tmp 19], argTypes := #[26, 33, 27] }, 33, _, _, _⟩) rfl (fun K hK => ?_) AllReadyH.nil
  (go_simp; (refine (H1 _).mono ?_); (rintro e wz ⟨rfl, hb⟩); (replace Rg := Rg.later hb); (replace Rd := Rd.later hb); (replace Re := Re.later hb); (replace Rm := Rm.later hb); (replace hb0 := below_step hb0 hb); go_wp2_with fail)
  refine hK.out _ _ ?hSr91_9_5 (fun hHeld2 => ?_)
  case hSr91_9_5 => (obtain ⟨m0, m1, Qg, Qd, Qe⟩ := hHeld; exact ⟨cell_later hb m0, cell_later hb m1, Qg.later hb, Qd.later hb, Qe.later hb⟩)
  clear hK K hHeld
  have hHeld := hHeld2
  clear hHeld2
  rename World => wq
  (try simp only [Act.put, nz1, nz2, nz3])
  refine wpAnyH_ready (rs := [9]) (by kernel_rfl) (by simp) ?_
  refine AllReadyH.cons (o := ⟨some 24, .call { callee := .value (.func 27), args := #[.tmp 21, .tmp 22, .tmp 23], argTypes := #[26, 33, 27] }, 33, _, _, _⟩) rfl (fun K hK => ?_) AllReadyH.nil
  (go_simp; (refine (H2 _).mono ?_); (rintro e wz ⟨rfl, hb⟩); (replace Rg := Rg.later hb); (replace Rd := Rd.later hb); (replace Re := Re.later hb); (replace Rm := Rm.later hb); (replace hb0 := below_step hb0 hb); go_wp2_with fail)
  refine hK.out _ _ ?hSr91_10_9 (fun hHeld2 => ?_)
  case hSr91_10_9 => (obtain ⟨m0, m1, Qg, Qd, Qe⟩ := hHeld; exact ⟨cell_later hb m0, cell_later hb m1, Qg.later hb, Qd.later hb, Qe.later hb⟩)
  clear hK K hHeld
  have hHeld := hHeld2
  clear hHeld2
  rename World => wq
  (try simp only [Act.put, nz1, nz2, nz3])
  refine tk 10 ⟨some 25, .binOp .eql 33 (.tmp 20) (.tmp 24) 33, 4, _, _, _⟩ hHeld ?_
  (try simp only [Act.put, nz1, nz2, nz3])
  refine tk 11 ⟨some 26, .pick (.tmp 16) (.tmp 25) (.const (.bool false)), 4, _, _, _⟩ hHeld ?_
  (try simp only [Act.put, nz1, nz2, nz3])
  refine tk 12 ⟨some 27, .move (.tmp 26), 4, _, _, _⟩ hHeld ?_
  (try simp only [Act.put, nz1, nz2, nz3])
  refine tk 13 ⟨some 28, .load 26 (.tmp 5), 26, _, _, _⟩ hHeld ?_ (v := ?vr91_14_13) (hy := ?yr91_14_13)
  case yr91_14_13 => (intro wy hSw; obtain ⟨m0, m1, Qg, Qd, Qe⟩ := hSw; (with_reducible refine pexec_load 26 (.tmp 5) ?_ w.heap.size ?_ 26 #[.int .i64 s.n, .int .i64 s.d0.kind, .int .i64 s.d0.side, .int .i64 s.d0.step, .int .i64 s.d1.kind, .int .i64 s.d1.side, .int .i64 s.d1.step] _ Qg Try.underlying26 ?_ ?_) <;> first | rfl | exact infoSp)
  (try simp only [Act.put, nz1, nz2, nz3])
  refine tk 14 ⟨some 29, .load 33 (.tmp 6), 33, _, _, _⟩ hHeld ?_ (v := ?vr91_15_14) (hy := ?yr91_15_14)
  case yr91_15_14 => (intro wy hSw; obtain ⟨m0, m1, Qg, Qd, Qe⟩ := hSw; (with_reducible refine pexec_load 33 (.tmp 6) ?_ (w.heap.size + 1) ?_ 33 #[.int .i64 p.a0, .int .i64 p.a1, .int .i64 p.k0.kind, .int .i64 p.k0.len, .int .u64 p.k0.h, .int .u64 p.k0.l, .string ⟨p.k0.path.toArray⟩, .int .i64 p.k1.kind, .int .i64 p.k1.len, .int .u64 p.k1.h, .int .u64 p.k1.l, .string ⟨p.k1.path.toArray⟩] _ Qd Try.underlying33 ?_ ?_) <;> first | rfl | exact infoPx)
  (try simp only [Act.put, nz1, nz2, nz3])
  refine tk 15 ⟨some 30, .load 33 (.tmp 7), 33, _, _, _⟩ hHeld ?_ (v := ?vr91_16_15) (hy := ?yr91_16_15)
  case yr91_16_15 => (intro wy hSw; obtain ⟨m0, m1, Qg, Qd, Qe⟩ := hSw; (with_reducible refine pexec_load 33 (.tmp 7) ?_ (w.heap.size + 1 + 1) ?_ 33 #[.int .i64 q.a0, .int .i64 q.a1, .int .i64 q.k0.kind, .int .i64 q.k0.len, .int .u64 q.k0.h, .int .u64 q.k0.l, .string ⟨q.k0.path.toArray⟩, .int .i64 q.k1.kind, .int .i64 q.k1.len, .int .u64 q.k1.h, .int .u64 q.k1.l, .string ⟨q.k1.path.toArray⟩] _ Qe Try.underlying33 ?_ ?_) <;> first | rfl | exact infoPx)
  (try simp only [Act.put, nz1, nz2, nz3])
  refine tk 17 ⟨some 32, .load 26 (.tmp 5), 26, _, _, _⟩ hHeld ?_ (v := ?vr91_17_17) (hy := ?yr91_17_17)
  case yr91_17_17 => (intro wy hSw; obtain ⟨m0, m1, Qg, Qd, Qe⟩ := hSw; (with_reducible refine pexec_load 26 (.tmp 5) ?_ w.heap.size ?_ 26 #[.int .i64 s.n, .int .i64 s.d0.kind, .int .i64 s.d0.side, .int .i64 s.d0.step, .int .i64 s.d1.kind, .int .i64 s.d1.side, .int .i64 s.d1.step] _ Qg Try.underlying26 ?_ ?_) <;> first | rfl | exact infoSp)
  (try simp only [Act.put, nz1, nz2, nz3])
  refine tk 18 ⟨some 33, .load 33 (.tmp 6), 33, _, _, _⟩ hHeld ?_ (v := ?vr91_18_18) (hy := ?yr91_18_18)
  case yr91_18_18 => (intro wy hSw; obtain ⟨m0, m1, Qg, Qd, Qe⟩ := hSw; (with_reducible refine pexec_load 33 (.tmp 6) ?_ (w.heap.size + 1) ?_ 33 #[.int .i64 p.a0, .int .i64 p.a1, .int .i64 p.k0.kind, .int .i64 p.k0.len, .int .u64 p.k0.h, .int .u64 p.k0.l, .string ⟨p.k0.path.toArray⟩, .int .i64 p.k1.kind, .int .i64 p.k1.len, .int .u64 p.k1.h, .int .u64 p.k1.l, .string ⟨p.k1.path.toArray⟩] _ Qd Try.underlying33 ?_ ?_) <;> first | rfl | exact infoPx)
  (try simp only [Act.put, nz1, nz2, nz3])
  refine tk 19 ⟨some 34, .load 33 (.tmp 7), 33, _, _, _⟩ hHeld ?_ (v := ?vr91_19_19) (hy := ?yr91_19_19)
  case yr91_19_19 => (intro wy hSw; obtain ⟨m0, m1, Qg, Qd, Qe⟩ := hSw; (with_reducible refine pexec_load 33 (.tmp 7) ?_ (w.heap.size + 1 + 1) ?_ 33 #[.int .i64 q.a0, .int .i64 q.a1, .int .i64 q.k0.kind, .int .i64 q.k0.len, .int .u64 q.k0.h, .int .u64 q.k0.l, .string ⟨q.k0.path.toArray⟩, .int .i64 q.k1.kind, .int .i64 q.k1.len, .int .u64 q.k1.h, .int .u64 q.k1.l, .string ⟨q.k1.path.toArray⟩] _ Qe Try.underlying33 ?_ ?_) <;> first | rfl | exact infoPx)
  (try simp only [Act.put, nz1, nz2, nz3])
  refine wpAnyH_ready (rs := [16]) (by kernel_rfl) (by simp) ?_
  refine AllReadyH.cons (o := ⟨some 31, .call { callee := .value (.func 28), args := #[.tmp 28, .tmp 29, .tmp 30], argTypes := #[26, 33, 33] }, 4, _, _, _⟩) rfl (fun K hK => ?_) AllReadyH.nil
  (go_simp; (refine (H3 _).mono ?_); (rintro e wz ⟨rfl, hb⟩); (replace Rg := Rg.later hb); (replace Rd := Rd.later hb); (replace Re := Re.later hb); (replace Rm := Rm.later hb); (replace hb0 := below_step hb0 hb); go_wp2_with fail)
  refine hK.out _ _ ?hSr91_20_16 (fun hHeld2 => ?_)
  case hSr91_20_16 => (obtain ⟨m0, m1, Qg, Qd, Qe⟩ := hHeld; exact ⟨cell_later hb m0, cell_later hb m1, Qg.later hb, Qd.later hb, Qe.later hb⟩)
  clear hK K hHeld
  have hHeld := hHeld2
  clear hHeld2
  rename World => wq
  (try simp only [Act.put, nz1, nz2, nz3])
  refine wpAnyH_ready (rs := [20]) (by kernel_rfl) (by simp) ?_
  refine AllReadyH.cons (o := ⟨some 35, .call { callee := .value (.func 29), args := #[.tmp 32, .tmp 33, .tmp 34], argTypes := #[26, 33, 33] }, 4, _, _, _⟩) rfl (fun K hK => ?_) AllReadyH.nil
  (go_simp; (refine (H4 _).mono ?_); (rintro e wz ⟨rfl, hb⟩); (replace Rg := Rg.later hb); (replace Rd := Rd.later hb); (replace Re := Re.later hb); (replace Rm := Rm.later hb); (replace hb0 := below_step hb0 hb); go_wp2_with fail)
  refine hK.out _ _ ?hSr91_21_20 (fun hHeld2 => ?_)
  case hSr91_21_20 => (obtain ⟨m0, m1, Qg, Qd, Qe⟩ := hHeld; exact ⟨cell_later hb m0, cell_later hb m1, Qg.later hb, Qd.later hb, Qe.later hb⟩)
  clear hK K hHeld
  have hHeld := hHeld2
  clear hHeld2
  rename World => wq
  (try simp only [Act.put, nz1, nz2, nz3])
  refine tk 21 ⟨some 36, .binOp .eql 4 (.tmp 31) (.tmp 35) 4, 4, _, _, _⟩ hHeld ?_
  (try simp only [Act.put, nz1, nz2, nz3])
  refine tk 22 ⟨some 37, .pick (.tmp 27) (.tmp 36) (.const (.bool false)), 4, _, _, _⟩ hHeld ?_
  (try simp only [Act.put, nz1, nz2, nz3])
  refine tk 23 ⟨some 10, .assign (.tmp 37), 4, _, _, _⟩ hHeld ?_
  (try simp only [Act.put, nz1, nz2, nz3])
  refine wpAnyH_done (by kernel_rfl) ?_ _
  clear hHeld
  rename World => w2
  have lg := Rg.lt
  have ld := Rd.lt
  have le := Re.lt
  have lm := Rm.lt
  (try clear g0 g1 g2 g3 g4 g5 g6); obtain ⟨g0, g1, g2, g3, g4, g5, g6⟩ := row7 Rg
  (try clear d0 d1 d2 d3 d4 d5 d6 d7 d8 d9 d10 d11); obtain ⟨d0, d1, d2, d3, d4, d5, d6, d7, d8, d9, d10, d11⟩ := row12 Rd
  (try clear e0 e1 e2 e3 e4 e5 e6 e7 e8 e9 e10 e11); obtain ⟨e0, e1, e2, e3, e4, e5, e6, e7, e8, e9, e10, e11⟩ := row12 Re
  (try clear m0 m1); obtain ⟨m0, m1⟩ := row2 Rm
  go_wp2
  go_ret
  exact ⟨rfl, hb0⟩
set_option maxRecDepth 100000 in
set_option maxHeartbeats 32000000 in
theorem ups9_true (s : Sp) (p q u : Px) (i j : Int)
    (H1 : ∀ w, Calls Try.prog 26 #[sv s, pv p, .agg #[.int .i64 i, .int .i64 j]] w fun e w' => e = .returned (pv u) ∧ Below w.heap.size w w')
    (H2 : ∀ w, Calls Try.prog 27 #[sv s, pv p, .agg #[.int .i64 i, .int .i64 j]] w fun e w' => e = .returned (pv u) ∧ Below w.heap.size w w')
    (H3 : ∀ w, Calls Try.prog 28 #[sv s, pv p, pv q] w fun e w' => e = .returned (.bool true) ∧ Below w.heap.size w w')
    (H4 : ∀ w, Calls Try.prog 29 #[sv s, pv p, pv q] w fun e w' => e = .returned (.bool true) ∧ Below w.heap.size w w') (w : World) :
    Calls Try.prog 4 #[sv s, pv p, pv q, .int .i64 i, .int .i64 j] w fun e w' => e = .returned (.bool true) ∧ Below w.heap.size w w' := by
  have HA := alive9_t
  have qe := eql_px u u
  rw [decide_eq_true rfl] at qe
  unfold sv pv at *
  obtain ⟨Rg, Rd, Re, hb0⟩ := three_rows w #[.int .i64 s.n, .int .i64 s.d0.kind, .int .i64 s.d0.side, .int .i64 s.d0.step, .int .i64 s.d1.kind, .int .i64 s.d1.side, .int .i64 s.d1.step] #[.int .i64 p.a0, .int .i64 p.a1, .int .i64 p.k0.kind, .int .i64 p.k0.len, .int .u64 p.k0.h, .int .u64 p.k0.l, .string ⟨p.k0.path.toArray⟩, .int .i64 p.k1.kind, .int .i64 p.k1.len, .int .u64 p.k1.h, .int .u64 p.k1.l, .string ⟨p.k1.path.toArray⟩] #[.int .i64 q.a0, .int .i64 q.a1, .int .i64 q.k0.kind, .int .i64 q.k0.len, .int .u64 q.k0.h, .int .u64 q.k0.l, .string ⟨q.k0.path.toArray⟩, .int .i64 q.k1.kind, .int .i64 q.k1.len, .int .u64 q.k1.h, .int .u64 q.k1.l, .string ⟨q.k1.path.toArray⟩] 26 33 33
  (try clear g0 g1 g2 g3 g4 g5 g6); obtain ⟨g0, g1, g2, g3, g4, g5, g6⟩ := row7 Rg
  (try clear d0 d1 d2 d3 d4 d5 d6 d7 d8 d9 d10 d11); obtain ⟨d0, d1, d2, d3, d4, d5, d6, d7, d8, d9, d10, d11⟩ := row12 Rd
  (try clear e0 e1 e2 e3 e4 e5 e6 e7 e8 e9 e10 e11); obtain ⟨e0, e1, e2, e3, e4, e5, e6, e7, e8, e9, e10, e11⟩ := row12 Re
  go_enter Try.func4, Try.ntmps4
  go_wp2_with fail
  replace Rg := Rg.alloc (.cells #[Value.int .i64 i, Value.int .i64 j] 27)
  replace Rd := Rd.alloc (.cells #[Value.int .i64 i, Value.int .i64 j] 27)
  replace Re := Re.alloc (.cells #[Value.int .i64 i, Value.int .i64 j] 27)
  have Rm := Row.new (World.alloc (World.alloc (World.alloc w (.cells #[.int .i64 s.n, .int .i64 s.d0.kind, .int .i64 s.d0.side, .int .i64 s.d0.step, .int .i64 s.d1.kind, .int .i64 s.d1.side, .int .i64 s.d1.step] 26)) (.cells #[.int .i64 p.a0, .int .i64 p.a1, .int .i64 p.k0.kind, .int .i64 p.k0.len, .int .u64 p.k0.h, .int .u64 p.k0.l, .string ⟨p.k0.path.toArray⟩, .int .i64 p.k1.kind, .int .i64 p.k1.len, .int .u64 p.k1.h, .int .u64 p.k1.l, .string ⟨p.k1.path.toArray⟩] 33)) (.cells #[.int .i64 q.a0, .int .i64 q.a1, .int .i64 q.k0.kind, .int .i64 q.k0.len, .int .u64 q.k0.h, .int .u64 q.k0.l, .string ⟨q.k0.path.toArray⟩, .int .i64 q.k1.kind, .int .i64 q.k1.len, .int .u64 q.k1.h, .int .u64 q.k1.l, .string ⟨q.k1.path.toArray⟩] 33)) #[Value.int .i64 i, Value.int .i64 j] 27
  simp only [World.size_alloc] at Rm
  have mm := hb0.size
  replace hb0 := hb0.alloc hb0.size (.cells #[Value.int .i64 i, Value.int .i64 j] 27)
  (try clear g0 g1 g2 g3 g4 g5 g6); obtain ⟨g0, g1, g2, g3, g4, g5, g6⟩ := row7 Rg
  (try clear d0 d1 d2 d3 d4 d5 d6 d7 d8 d9 d10 d11); obtain ⟨d0, d1, d2, d3, d4, d5, d6, d7, d8, d9, d10, d11⟩ := row12 Rd
  (try clear e0 e1 e2 e3 e4 e5 e6 e7 e8 e9 e10 e11); obtain ⟨e0, e1, e2, e3, e4, e5, e6, e7, e8, e9, e10, e11⟩ := row12 Re
  (try clear m0 m1); obtain ⟨m0, m1⟩ := row2 Rm
  generalize (World.alloc (World.alloc (World.alloc (World.alloc w (.cells #[.int .i64 s.n, .int .i64 s.d0.kind, .int .i64 s.d0.side, .int .i64 s.d0.step, .int .i64 s.d1.kind, .int .i64 s.d1.side, .int .i64 s.d1.step] 26)) (.cells #[.int .i64 p.a0, .int .i64 p.a1, .int .i64 p.k0.kind, .int .i64 p.k0.len, .int .u64 p.k0.h, .int .u64 p.k0.l, .string ⟨p.k0.path.toArray⟩, .int .i64 p.k1.kind, .int .i64 p.k1.len, .int .u64 p.k1.h, .int .u64 p.k1.l, .string ⟨p.k1.path.toArray⟩] 33)) (.cells #[.int .i64 q.a0, .int .i64 q.a1, .int .i64 q.k0.kind, .int .i64 q.k0.len, .int .u64 q.k0.h, .int .u64 q.k0.l, .string ⟨q.k0.path.toArray⟩, .int .i64 q.k1.kind, .int .i64 q.k1.len, .int .u64 q.k1.h, .int .u64 q.k1.l, .string ⟨q.k1.path.toArray⟩] 33)) (.cells #[Value.int .i64 i, Value.int .i64 j] 27)) = w1 at *
  refine wp_region_held_drew (S := (fun w' => w'.cell? ⟨w.heap.size + 1 + 1 + 1, 0, none⟩ = some (Value.int .i64 i) ∧ w'.cell? ⟨w.heap.size + 1 + 1 + 1, 1, none⟩ = some (Value.int .i64 j) ∧ Row w' w.heap.size #[.int .i64 s.n, .int .i64 s.d0.kind, .int .i64 s.d0.side, .int .i64 s.d0.step, .int .i64 s.d1.kind, .int .i64 s.d1.side, .int .i64 s.d1.step] 26 ∧ Row w' (w.heap.size + 1) #[.int .i64 p.a0, .int .i64 p.a1, .int .i64 p.k0.kind, .int .i64 p.k0.len, .int .u64 p.k0.h, .int .u64 p.k0.l, .string ⟨p.k0.path.toArray⟩, .int .i64 p.k1.kind, .int .i64 p.k1.len, .int .u64 p.k1.h, .int .u64 p.k1.l, .string ⟨p.k1.path.toArray⟩] 33 ∧ Row w' (w.heap.size + 1 + 1) #[.int .i64 q.a0, .int .i64 q.a1, .int .i64 q.k0.kind, .int .i64 q.k0.len, .int .u64 q.k0.h, .int .u64 q.k0.l, .string ⟨q.k0.path.toArray⟩, .int .i64 q.k1.kind, .int .i64 q.k1.len, .int .u64 q.k1.h, .int .u64 q.k1.l, .string ⟨q.k1.path.toArray⟩] 33)) (by kernel_rfl) ?hSr92_ (fun hHeld => ?_)
  case hSr92_ => (exact ⟨m0, m1, Rg.drew, Rd.drew, Re.drew⟩)
  (clear g0 g1 g2 g3 g4 g5 g6 d0 d1 d2 d3 d4 d5 d6 d7 d8 d9 d10 d11 e0 e1 e2 e3 e4 e5 e6 e7 e8 e9 e10 e11 m0 m1; (replace Rg := Rg.drew); (replace Rd := Rd.drew); (replace Re := Re.drew); (replace Rm := Rm.drew); (replace hb0 := hb0.drew); (generalize World.drew w1 = wq at *))
  refine wpAnyH_ready (rs := [0]) (by kernel_rfl) (by simp) ?_
  refine AllReadyH.cons (o := ⟨some 15, .call { callee := .value (.func 24), args := #[], argTypes := #[] }, 4, _, _, _⟩) rfl (fun K hK => ?_) AllReadyH.nil
  (go_simp; (refine (HA _).mono ?_); (rintro e wz ⟨rfl, hb⟩); (replace Rg := Rg.later hb); (replace Rd := Rd.later hb); (replace Re := Re.later hb); (replace Rm := Rm.later hb); (replace hb0 := below_step hb0 hb); go_wp2_with fail)
  refine hK.out _ _ ?hSr92_1_0 (fun hHeld2 => ?_)
  case hSr92_1_0 => (obtain ⟨m0, m1, Qg, Qd, Qe⟩ := hHeld; exact ⟨cell_later hb m0, cell_later hb m1, Qg.later hb, Qd.later hb, Qe.later hb⟩)
  clear hK K hHeld
  have hHeld := hHeld2
  clear hHeld2
  rename World => wq
  (try simp only [Act.put, nz1, nz2, nz3])
  refine tk 1 ⟨some 16, .move (.tmp 15), 4, _, _, _⟩ hHeld ?_
  (try simp only [Act.put, nz1, nz2, nz3])
  refine tk 2 ⟨some 17, .load 26 (.tmp 5), 26, _, _, _⟩ hHeld ?_ (v := ?vr92_3_2) (hy := ?yr92_3_2)
  case yr92_3_2 => (intro wy hSw; obtain ⟨m0, m1, Qg, Qd, Qe⟩ := hSw; (with_reducible refine pexec_load 26 (.tmp 5) ?_ w.heap.size ?_ 26 #[.int .i64 s.n, .int .i64 s.d0.kind, .int .i64 s.d0.side, .int .i64 s.d0.step, .int .i64 s.d1.kind, .int .i64 s.d1.side, .int .i64 s.d1.step] _ Qg Try.underlying26 ?_ ?_) <;> first | rfl | exact infoSp)
  (try simp only [Act.put, nz1, nz2, nz3])
  refine tk 3 ⟨some 18, .load 33 (.tmp 6), 33, _, _, _⟩ hHeld ?_ (v := ?vr92_4_3) (hy := ?yr92_4_3)
  case yr92_4_3 => (intro wy hSw; obtain ⟨m0, m1, Qg, Qd, Qe⟩ := hSw; (with_reducible refine pexec_load 33 (.tmp 6) ?_ (w.heap.size + 1) ?_ 33 #[.int .i64 p.a0, .int .i64 p.a1, .int .i64 p.k0.kind, .int .i64 p.k0.len, .int .u64 p.k0.h, .int .u64 p.k0.l, .string ⟨p.k0.path.toArray⟩, .int .i64 p.k1.kind, .int .i64 p.k1.len, .int .u64 p.k1.h, .int .u64 p.k1.l, .string ⟨p.k1.path.toArray⟩] _ Qd Try.underlying33 ?_ ?_) <;> first | rfl | exact infoPx)
  (try simp only [Act.put, nz1, nz2, nz3])
  refine tk 4 ⟨some 19, .load 27 (.tmp 11), 27, _, _, _⟩ hHeld ?_
  (try simp only [Act.put, nz1, nz2, nz3])
  refine tk 6 ⟨some 21, .load 26 (.tmp 5), 26, _, _, _⟩ hHeld ?_ (v := ?vr92_6_6) (hy := ?yr92_6_6)
  case yr92_6_6 => (intro wy hSw; obtain ⟨m0, m1, Qg, Qd, Qe⟩ := hSw; (with_reducible refine pexec_load 26 (.tmp 5) ?_ w.heap.size ?_ 26 #[.int .i64 s.n, .int .i64 s.d0.kind, .int .i64 s.d0.side, .int .i64 s.d0.step, .int .i64 s.d1.kind, .int .i64 s.d1.side, .int .i64 s.d1.step] _ Qg Try.underlying26 ?_ ?_) <;> first | rfl | exact infoSp)
  (try simp only [Act.put, nz1, nz2, nz3])
  refine tk 7 ⟨some 22, .load 33 (.tmp 6), 33, _, _, _⟩ hHeld ?_ (v := ?vr92_7_7) (hy := ?yr92_7_7)
  case yr92_7_7 => (intro wy hSw; obtain ⟨m0, m1, Qg, Qd, Qe⟩ := hSw; (with_reducible refine pexec_load 33 (.tmp 6) ?_ (w.heap.size + 1) ?_ 33 #[.int .i64 p.a0, .int .i64 p.a1, .int .i64 p.k0.kind, .int .i64 p.k0.len, .int .u64 p.k0.h, .int .u64 p.k0.l, .string ⟨p.k0.path.toArray⟩, .int .i64 p.k1.kind, .int .i64 p.k1.len, .int .u64 p.k1.h, .int .u64 p.k1.l, .string ⟨p.k1.path.toArray⟩] _ Qd Try.underlying33 ?_ ?_) <;> first | rfl | exact infoPx)
  (try simp only [Act.put, nz1, nz2, nz3])
  refine tk 8 ⟨some 23, .load 27 (.tmp 11), 27, _, _, _⟩ hHeld ?_
  (try simp only [Act.put, nz1, nz2, nz3])
  refine wpAnyH_ready (rs := [5]) (by kernel_rfl) (by simp) ?_
  refine AllReadyH.cons (o := ⟨some 20, .call { callee := .value (.func 26), args := #[.tmp 17, .tmp 18, .tmp 19], argTypes := #[26, 33, 27] }, 33, _, _, _⟩) rfl (fun K hK => ?_) AllReadyH.nil
  (go_simp; (refine (H1 _).mono ?_); (rintro e wz ⟨rfl, hb⟩); (replace Rg := Rg.later hb); (replace Rd := Rd.later hb); (replace Re := Re.later hb); (replace Rm := Rm.later hb); (replace hb0 := below_step hb0 hb); go_wp2_with fail)
  refine hK.out _ _ ?hSr92_9_5 (fun hHeld2 => ?_)
  case hSr92_9_5 => (obtain ⟨m0, m1, Qg, Qd, Qe⟩ := hHeld; exact ⟨cell_later hb m0, cell_later hb m1, Qg.later hb, Qd.later hb, Qe.later hb⟩)
  clear hK K hHeld
  have hHeld := hHeld2
  clear hHeld2
  rename World => wq
  (try simp only [Act.put, nz1, nz2, nz3])
  refine wpAnyH_ready (rs := [9]) (by kernel_rfl) (by simp) ?_
  refine AllReadyH.cons (o := ⟨some 24, .call { callee := .value (.func 27), args := #[.tmp 21, .tmp 22, .tmp 23], argTypes := #[26, 33, 27] }, 33, _, _, _⟩) rfl (fun K hK => ?_) AllReadyH.nil
  (go_simp; (refine (H2 _).mono ?_); (rintro e wz ⟨rfl, hb⟩); (replace Rg := Rg.later hb); (replace Rd := Rd.later hb); (replace Re := Re.later hb); (replace Rm := Rm.later hb); (replace hb0 := below_step hb0 hb); go_wp2_with fail)
  refine hK.out _ _ ?hSr92_10_9 (fun hHeld2 => ?_)
  case hSr92_10_9 => (obtain ⟨m0, m1, Qg, Qd, Qe⟩ := hHeld; exact ⟨cell_later hb m0, cell_later hb m1, Qg.later hb, Qd.later hb, Qe.later hb⟩)
  clear hK K hHeld
  have hHeld := hHeld2
  clear hHeld2
  rename World => wq
  (try simp only [Act.put, nz1, nz2, nz3])
  refine tk 10 ⟨some 25, .binOp .eql 33 (.tmp 20) (.tmp 24) 33, 4, _, _, _⟩ hHeld ?_
  (try simp only [Act.put, nz1, nz2, nz3])
  refine tk 11 ⟨some 26, .pick (.tmp 16) (.tmp 25) (.const (.bool false)), 4, _, _, _⟩ hHeld ?_
  (try simp only [Act.put, nz1, nz2, nz3])
  refine tk 12 ⟨some 27, .move (.tmp 26), 4, _, _, _⟩ hHeld ?_
  (try simp only [Act.put, nz1, nz2, nz3])
  refine tk 13 ⟨some 28, .load 26 (.tmp 5), 26, _, _, _⟩ hHeld ?_ (v := ?vr92_14_13) (hy := ?yr92_14_13)
  case yr92_14_13 => (intro wy hSw; obtain ⟨m0, m1, Qg, Qd, Qe⟩ := hSw; (with_reducible refine pexec_load 26 (.tmp 5) ?_ w.heap.size ?_ 26 #[.int .i64 s.n, .int .i64 s.d0.kind, .int .i64 s.d0.side, .int .i64 s.d0.step, .int .i64 s.d1.kind, .int .i64 s.d1.side, .int .i64 s.d1.step] _ Qg Try.underlying26 ?_ ?_) <;> first | rfl | exact infoSp)
  (try simp only [Act.put, nz1, nz2, nz3])
  refine tk 14 ⟨some 29, .load 33 (.tmp 6), 33, _, _, _⟩ hHeld ?_ (v := ?vr92_15_14) (hy := ?yr92_15_14)
  case yr92_15_14 => (intro wy hSw; obtain ⟨m0, m1, Qg, Qd, Qe⟩ := hSw; (with_reducible refine pexec_load 33 (.tmp 6) ?_ (w.heap.size + 1) ?_ 33 #[.int .i64 p.a0, .int .i64 p.a1, .int .i64 p.k0.kind, .int .i64 p.k0.len, .int .u64 p.k0.h, .int .u64 p.k0.l, .string ⟨p.k0.path.toArray⟩, .int .i64 p.k1.kind, .int .i64 p.k1.len, .int .u64 p.k1.h, .int .u64 p.k1.l, .string ⟨p.k1.path.toArray⟩] _ Qd Try.underlying33 ?_ ?_) <;> first | rfl | exact infoPx)
  (try simp only [Act.put, nz1, nz2, nz3])
  refine tk 15 ⟨some 30, .load 33 (.tmp 7), 33, _, _, _⟩ hHeld ?_ (v := ?vr92_16_15) (hy := ?yr92_16_15)
  case yr92_16_15 => (intro wy hSw; obtain ⟨m0, m1, Qg, Qd, Qe⟩ := hSw; (with_reducible refine pexec_load 33 (.tmp 7) ?_ (w.heap.size + 1 + 1) ?_ 33 #[.int .i64 q.a0, .int .i64 q.a1, .int .i64 q.k0.kind, .int .i64 q.k0.len, .int .u64 q.k0.h, .int .u64 q.k0.l, .string ⟨q.k0.path.toArray⟩, .int .i64 q.k1.kind, .int .i64 q.k1.len, .int .u64 q.k1.h, .int .u64 q.k1.l, .string ⟨q.k1.path.toArray⟩] _ Qe Try.underlying33 ?_ ?_) <;> first | rfl | exact infoPx)
  (try simp only [Act.put, nz1, nz2, nz3])
  refine tk 17 ⟨some 32, .load 26 (.tmp 5), 26, _, _, _⟩ hHeld ?_ (v := ?vr92_17_17) (hy := ?yr92_17_17)
  case yr92_17_17 => (intro wy hSw; obtain ⟨m0, m1, Qg, Qd, Qe⟩ := hSw; (with_reducible refine pexec_load 26 (.tmp 5) ?_ w.heap.size ?_ 26 #[.int .i64 s.n, .int .i64 s.d0.kind, .int .i64 s.d0.side, .int .i64 s.d0.step, .int .i64 s.d1.kind, .int .i64 s.d1.side, .int .i64 s.d1.step] _ Qg Try.underlying26 ?_ ?_) <;> first | rfl | exact infoSp)
  (try simp only [Act.put, nz1, nz2, nz3])
  refine tk 18 ⟨some 33, .load 33 (.tmp 6), 33, _, _, _⟩ hHeld ?_ (v := ?vr92_18_18) (hy := ?yr92_18_18)
  case yr92_18_18 => (intro wy hSw; obtain ⟨m0, m1, Qg, Qd, Qe⟩ := hSw; (with_reducible refine pexec_load 33 (.tmp 6) ?_ (w.heap.size + 1) ?_ 33 #[.int .i64 p.a0, .int .i64 p.a1, .int .i64 p.k0.kind, .int .i64 p.k0.len, .int .u64 p.k0.h, .int .u64 p.k0.l, .string ⟨p.k0.path.toArray⟩, .int .i64 p.k1.kind, .int .i64 p.k1.len, .int .u64 p.k1.h, .int .u64 p.k1.l, .string ⟨p.k1.path.toArray⟩] _ Qd Try.underlying33 ?_ ?_) <;> first | rfl | exact infoPx)
  (try simp only [Act.put, nz1, nz2, nz3])
  refine tk 19 ⟨some 34, .load 33 (.tmp 7), 33, _, _, _⟩ hHeld ?_ (v := ?vr92_19_19) (hy := ?yr92_19_19)
  case yr92_19_19 => (intro wy hSw; obtain ⟨m0, m1, Qg, Qd, Qe⟩ := hSw; (with_reducible refine pexec_load 33 (.tmp 7) ?_ (w.heap.size + 1 + 1) ?_ 33 #[.int .i64 q.a0, .int .i64 q.a1, .int .i64 q.k0.kind, .int .i64 q.k0.len, .int .u64 q.k0.h, .int .u64 q.k0.l, .string ⟨q.k0.path.toArray⟩, .int .i64 q.k1.kind, .int .i64 q.k1.len, .int .u64 q.k1.h, .int .u64 q.k1.l, .string ⟨q.k1.path.toArray⟩] _ Qe Try.underlying33 ?_ ?_) <;> first | rfl | exact infoPx)
  (try simp only [Act.put, nz1, nz2, nz3])
  refine wpAnyH_ready (rs := [16]) (by kernel_rfl) (by simp) ?_
  refine AllReadyH.cons (o := ⟨some 31, .call { callee := .value (.func 28), args := #[.tmp 28, .tmp 29, .tmp 30], argTypes := #[26, 33, 33] }, 4, _, _, _⟩) rfl (fun K hK => ?_) AllReadyH.nil
  (go_simp; (refine (H3 _).mono ?_); (rintro e wz ⟨rfl, hb⟩); (replace Rg := Rg.later hb); (replace Rd := Rd.later hb); (replace Re := Re.later hb); (replace Rm := Rm.later hb); (replace hb0 := below_step hb0 hb); go_wp2_with fail)
  refine hK.out _ _ ?hSr92_20_16 (fun hHeld2 => ?_)
  case hSr92_20_16 => (obtain ⟨m0, m1, Qg, Qd, Qe⟩ := hHeld; exact ⟨cell_later hb m0, cell_later hb m1, Qg.later hb, Qd.later hb, Qe.later hb⟩)
  clear hK K hHeld
  have hHeld := hHeld2
  clear hHeld2
  rename World => wq
  (try simp only [Act.put, nz1, nz2, nz3])
  refine wpAnyH_ready (rs := [20]) (by kernel_rfl) (by simp) ?_
  refine AllReadyH.cons (o := ⟨some 35, .call { callee := .value (.func 29), args := #[.tmp 32, .tmp 33, .tmp 34], argTypes := #[26, 33, 33] }, 4, _, _, _⟩) rfl (fun K hK => ?_) AllReadyH.nil
  (go_simp; (refine (H4 _).mono ?_); (rintro e wz ⟨rfl, hb⟩); (replace Rg := Rg.later hb); (replace Rd := Rd.later hb); (replace Re := Re.later hb); (replace Rm := Rm.later hb); (replace hb0 := below_step hb0 hb); go_wp2_with fail)
  refine hK.out _ _ ?hSr92_21_20 (fun hHeld2 => ?_)
  case hSr92_21_20 => (obtain ⟨m0, m1, Qg, Qd, Qe⟩ := hHeld; exact ⟨cell_later hb m0, cell_later hb m1, Qg.later hb, Qd.later hb, Qe.later hb⟩)
  clear hK K hHeld
  have hHeld := hHeld2
  clear hHeld2
  rename World => wq
  (try simp only [Act.put, nz1, nz2, nz3])
  refine tk 21 ⟨some 36, .binOp .eql 4 (.tmp 31) (.tmp 35) 4, 4, _, _, _⟩ hHeld ?_
  (try simp only [Act.put, nz1, nz2, nz3])
  refine tk 22 ⟨some 37, .pick (.tmp 27) (.tmp 36) (.const (.bool false)), 4, _, _, _⟩ hHeld ?_
  (try simp only [Act.put, nz1, nz2, nz3])
  refine tk 23 ⟨some 10, .assign (.tmp 37), 4, _, _, _⟩ hHeld ?_
  (try simp only [Act.put, nz1, nz2, nz3])
  refine wpAnyH_done (by kernel_rfl) ?_ _
  clear hHeld
  rename World => w2
  have lg := Rg.lt
  have ld := Rd.lt
  have le := Re.lt
  have lm := Rm.lt
  (try clear g0 g1 g2 g3 g4 g5 g6); obtain ⟨g0, g1, g2, g3, g4, g5, g6⟩ := row7 Rg
  (try clear d0 d1 d2 d3 d4 d5 d6 d7 d8 d9 d10 d11); obtain ⟨d0, d1, d2, d3, d4, d5, d6, d7, d8, d9, d10, d11⟩ := row12 Rd
  (try clear e0 e1 e2 e3 e4 e5 e6 e7 e8 e9 e10 e11); obtain ⟨e0, e1, e2, e3, e4, e5, e6, e7, e8, e9, e10, e11⟩ := row12 Re
  (try clear m0 m1); obtain ⟨m0, m1⟩ := row2 Rm
  go_wp2
  go_ret
  exact ⟨rfl, hb0⟩
theorem ups9_any (s : Sp) (p q : Px) (i j : Int) (op : p.ok) (oq : q.ok) (i0 : -9223372036854775808 ≤ i) (i1 : i ≤ 9223372036854775807) (j0 : -9223372036854775808 ≤ j) (j1 : j ≤ 9223372036854775807) (w : World) : Calls Try.prog 4 #[sv s, pv p, pv q, .int .i64 i, .int .i64 j] w fun e w' => e = .returned (.bool true) ∧ Below w.heap.size w w' := by
  have H1 := up9_t s p op i j
  have H2 := rup_t s p op i j i0 i1 j0 j1
  have H3 := over9_t s p q op oq
  have H4 := rover9_t s p q op oq
  cases h : overP s p q with
  | false => rw [h] at H3 H4; exact ups9_false s p q _ i j H1 H2 H3 H4 w
  | true => rw [h] at H3 H4; exact ups9_true s p q _ i j H1 H2 H3 H4 w
end Go.Proofs.Ytbekocknfpekoaa
namespace Go.Proofs.Ytbekocknfpekoaa
set_option linter.unusedVariables false
set_option linter.unusedSimpArgs false
open Go.ChangeShapes Go.WideShapes Go.ChangeAt Go.RowKit Go.Joins Go.Deep
theorem cellsPx : Try.prog.cellsOf 33 = 12 := by kernel_rfl
theorem cellsSp : Try.prog.cellsOf 26 = 7 := by kernel_rfl
theorem cellsAt : Try.prog.cellsOf 27 = 2 := by kernel_rfl
theorem cellsK2 : Try.prog.cellsOf 31 = 10 := by kernel_rfl
theorem cellsD2 : Try.prog.cellsOf 24 = 6 := by kernel_rfl
theorem cellsInt : Try.prog.cellsOf 3 = 1 := by kernel_rfl
section
variable {H : Type} {enc : TypeId × Value → H} {W : World} {base : Nat} {sp : Nat → Bool} {held : Bool}
def keyData (k : Ke) : DataW H := .agg [.lit (.int .i64 k.kind), .lit (.int .i64 k.len), .lit (.int .u64 k.h), .lit (.int .u64 k.l), .lit (.string k.path)]
set_option maxRecDepth 100000 in
theorem keyc_of {c0 c1 c2 c3 c4 : Value} {x : DataW H × List MemPlace} {fuel : Nat} (hf : DataW.trod enc Try.prog W base sp held fuel 30 [c0, c1, c2, c3, c4] = some x) :
    ∃ k : Ke, c0 = .int .i64 k.kind ∧ c1 = .int .i64 k.len ∧ c2 = .int .u64 k.h ∧ c3 = .int .u64 k.l ∧ c4 = .string ⟨k.path.toArray⟩ ∧ k.okL ∧ x.1 = keyData k := by
  have hs := Try.underlying30
  have F := field_at hs (by kernel_rfl) hf
  obtain ⟨_, _, h0, d0⟩ := F 0 _ c0 rfl rfl
  obtain ⟨_, _, h1, d1⟩ := F 1 _ c1 rfl rfl
  obtain ⟨_, _, h2, d2⟩ := F 2 _ c2 rfl rfl
  obtain ⟨_, _, h3, d3⟩ := F 3 _ c3 rfl rfl
  obtain ⟨_, _, h4, d4⟩ := F 4 _ c4 rfl rfl
  obtain ⟨n0, e0, g0, w0⟩ := DataW.trod_int Try.underlying3 h0
  obtain ⟨n1, e1, g1, w1⟩ := DataW.trod_int Try.underlying3 h1
  obtain ⟨n2, e2, g2, w2⟩ := DataW.trod_int Try.underlying28 h2
  obtain ⟨n3, e3, g3, w3⟩ := DataW.trod_int Try.underlying28 h3
  obtain ⟨s, e4, g4, w4⟩ := DataW.trod_string Try.underlying9 h4
  subst g0 g1 g2 g3 g4
  simp only [List.cons.injEq, and_true] at e0 e1 e2 e3 e4
  subst e0 e1 e2 e3 e4
  simp [Lit.wf, IntKind.min, IntKind.max, IntKind.signed, IntKind.bits] at w0 w1 w2 w3
  refine ⟨⟨n0, n1, n2, n3, s.data.toList⟩, rfl, rfl, rfl, rfl, rfl, ?_, ?_⟩
  · constructor <;> dsimp only
    · unfold Word; omega
    · unfold Word; omega
    · omega
    · omega
    · omega
    · omega
  · obtain ⟨ys, hy, hl, z0⟩ := d0
    obtain ⟨y1, hy1, _, z1⟩ := d1
    obtain ⟨y2, hy2, _, z2⟩ := d2
    obtain ⟨y3, hy3, _, z3⟩ := d3
    obtain ⟨y4, hy4, _, z4⟩ := d4
    rw [hy] at hy1 hy2 hy3 hy4
    cases hy1; cases hy2; cases hy3; cases hy4
    rw [hy]
    match ys, hl with
    | [a, b, c, d, e], _ =>
      simp at z0 z1 z2 z3 z4
      rw [z0, z1, z2, z3, z4]; rfl
def pxData (p : Px) : DataW H := .agg [.agg [.lit (.int .i64 p.a0), .lit (.int .i64 p.a1)], .agg [keyData p.k0, keyData p.k1]]
/-- what a prefix holds as an argument, its paths' lengths aside -/
structure Px.okL (p : Px) : Prop where
  k0 : p.k0.okL
  k1 : p.k1.okL
  a00 : -9223372036854775808 ≤ p.a0
  a01 : p.a0 ≤ 9223372036854775807
  a10 : -9223372036854775808 ≤ p.a1
  a11 : p.a1 ≤ 9223372036854775807
theorem int_cell {c : Value} {x : DataW H × List MemPlace} {fuel : Nat} (hf : DataW.trod enc Try.prog W base sp held fuel 3 [c] = some x) : ∃ n : Int, c = .int .i64 n ∧ x.1 = .lit (.int .i64 n) ∧ -9223372036854775808 ≤ n ∧ n ≤ 9223372036854775807 := by
  obtain ⟨n, e, g, w⟩ := DataW.trod_int Try.underlying3 hf
  simp only [List.cons.injEq, and_true] at e
  simp [Lit.wf, IntKind.min, IntKind.max, IntKind.signed, IntKind.bits] at w
  subst g
  exact ⟨n, e, rfl, by omega, by omega⟩
theorem pair_of {α : Type} {xs : List α} (h : xs.length = 2) : ∃ a b, xs = [a, b] := by
  match xs, h with
  | [a, b], _ => exact ⟨a, b, rfl⟩
set_option maxRecDepth 100000 in
theorem px_of_trod {v : Value} {d : DataW H} {p : List MemPlace} {r : Reach} {b0 : Nat} (hv : Value.okWide Try.prog W r b0 33 v) (h : DataW.Trod enc Try.prog W base sp held 33 v d p) : ∃ k : Px, v = pv k ∧ k.okL ∧ d = pxData k := by
  have hs := Try.underlying33
  obtain ⟨⟨l⟩, rfl, hsz⟩ := okWide_struct hs hv
  obtain ⟨fuel, hf⟩ := h
  match l, hsz.trans cellsPx with
  | [c0, c1, c2, c3, c4, c5, c6, c7, c8, c9, c10, c11], _ =>
    obtain ⟨y0, y1, n, hx, _, h0, h1⟩ := trod_struct2 hs hf
    rw [cellsAt] at h0
    rw [cellsK2] at h1
    simp [Value.cells] at h0 h1
    obtain ⟨xs, m, _, rfl, _, hl, hi⟩ := DataW.trod_array Try.underlying27 h0
    obtain ⟨zs, m2, _, rfl, _, hl2, hi2⟩ := DataW.trod_array Try.underlying31 h1
    rw [cellsInt] at hi
    rw [cellsKey] at hi2
    obtain ⟨xa, xb, rfl⟩ := pair_of hl
    obtain ⟨za, zb, rfl⟩ := pair_of hl2
    have g0 := hi 0 (by omega)
    have g1 := hi 1 (by omega)
    have g2 := hi2 0 (by omega)
    have g3 := hi2 1 (by omega)
    simp at g0 g1 g2 g3
    obtain ⟨n0, rfl, q0, r0, r1⟩ := int_cell g0
    obtain ⟨n1, rfl, q1, r2, r3⟩ := int_cell g1
    obtain ⟨k0, rfl, rfl, rfl, rfl, rfl, o0, e0⟩ := keyc_of g2
    obtain ⟨k1, rfl, rfl, rfl, rfl, rfl, o1, e1⟩ := keyc_of g3
    refine ⟨⟨n0, n1, k0, k1⟩, rfl, ⟨o0, o1, r0, r1, r2, r3⟩, ?_⟩
    have := congrArg Prod.fst hx
    simp only at this
    rw [this]
    simp [q0, q1, e0, e1, pxData]
theorem dimc_of {c0 c1 c2 : Value} {x : DataW H × List MemPlace} {fuel : Nat} (hf : DataW.trod enc Try.prog W base sp held fuel 23 [c0, c1, c2] = some x) : ∃ k : Dm, c0 = .int .i64 k.kind ∧ c1 = .int .i64 k.side ∧ c2 = .int .i64 k.step ∧ k.ok := by
  have hs := Try.underlying23
  have F := field_at hs (by kernel_rfl) hf
  obtain ⟨_, _, h0, _⟩ := F 0 _ c0 rfl rfl
  obtain ⟨_, _, h1, _⟩ := F 1 _ c1 rfl rfl
  obtain ⟨_, _, h2, _⟩ := F 2 _ c2 rfl rfl
  obtain ⟨n0, rfl, _, r0, r1⟩ := int_cell h0
  obtain ⟨n1, rfl, _, r2, r3⟩ := int_cell h1
  obtain ⟨n2, rfl, _, r4, r5⟩ := int_cell h2
  exact ⟨⟨n0, n1, n2⟩, rfl, rfl, rfl, ⟨r0, r1, r2, r3, r4, r5⟩⟩
set_option maxRecDepth 100000 in
theorem sp_of_trod {v : Value} {d : DataW H} {p : List MemPlace} {r : Reach} {b0 : Nat} (hv : Value.okWide Try.prog W r b0 26 v) (h : DataW.Trod enc Try.prog W base sp held 26 v d p) : ∃ s : Sp, v = sv s ∧ s.ok := by
  have hs := Try.underlying26
  obtain ⟨⟨l⟩, rfl, hsz⟩ := okWide_struct hs hv
  obtain ⟨fuel, hf⟩ := h
  match l, hsz.trans cellsSp with
  | [c0, c1, c2, c3, c4, c5, c6], _ =>
    obtain ⟨y0, y1, n, _, _, h0, h1⟩ := trod_struct2 hs hf
    rw [cellsInt] at h0
    rw [cellsD2] at h1
    simp [Value.cells] at h0 h1
    obtain ⟨n0, rfl, _, r0, r1⟩ := int_cell h0
    obtain ⟨zs, m2, _, rfl, _, hl2, hi2⟩ := DataW.trod_array Try.underlying24 h1
    rw [cellsDim] at hi2
    obtain ⟨za, zb, rfl⟩ := pair_of hl2
    have g2 := hi2 0 (by omega)
    have g3 := hi2 1 (by omega)
    simp at g2 g3
    obtain ⟨k0, rfl, rfl, rfl, o0⟩ := dimc_of g2
    obtain ⟨k1, rfl, rfl, rfl, o1⟩ := dimc_of g3
    exact ⟨⟨n0, k0, k1⟩, rfl, r0, r1, o0, o1⟩
theorem px_sized {ts : List TypeId} {ds : List (DataW H)} {d : DataW H} {j : Nat} {k : Px} (h : (DataW.weightsEach Try.prog ts ds).all (· ≤ reachBytes) = true) (ht : ts[j]? = some 33) (hd : ds[j]? = some d)
    (e : d = pxData k) (ok : k.okL) : k.ok := by
  subst e
  have hu := Try.underlying30
  have hu1 := Try.underlying33
  have hu2 := Try.underlying31
  have hu3 := Try.underlying27
  have m0 := List.all_eq_true.1 h _ (DataW.weights_mem_each ht hd k.k0.path.length (by simp [pxData, keyData, DataW.weights, DataW.weightsEach, DataW.weightsAll, hu, hu1, hu2, hu3]))
  have m1 := List.all_eq_true.1 h _ (DataW.weights_mem_each ht hd k.k1.path.length (by simp [pxData, keyData, DataW.weights, DataW.weightsEach, DataW.weightsAll, hu, hu1, hu2, hu3]))
  have h2 : k.k0.path.length ≤ reachBytes := by simpa using m0
  have h4 : k.k1.path.length ≤ reachBytes := by simpa using m1
  have h3 : reachBytes < 140737488355328 := by decide
  exact ⟨⟨ok.k0.h, ok.k0.l, ok.k0.k0, ok.k0.k1, ok.k0.n0, ok.k0.n1, by omega⟩, ⟨ok.k1.h, ok.k1.l, ok.k1.k0, ok.k1.k1, ok.k1.n0, ok.k1.n1, by omega⟩, ok.a00, ok.a01, ok.a10, ok.a11⟩
end
end Go.Proofs.Ytbekocknfpekoaa
