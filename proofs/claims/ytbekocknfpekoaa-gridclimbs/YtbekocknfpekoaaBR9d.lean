/- R9d: what the theorem needs of these texts. No conditions beyond those that are written. -/
import Derived.Test.YtbekocknfpekoaaBJG9b
import Derived.Test.YtbekocknfpekoaaBR9c
namespace Go.Proofs.Ytbekocknfpekoaa
set_option linter.unusedVariables false
set_option linter.unusedSimpArgs false
open Go.RowKit
set_option maxRecDepth 100000 in
set_option maxHeartbeats 32000000 in
theorem rup_false (s : Sp) (p : Px) (b0 b1 : Int) (u0 u1 : Ke)
    (HC0 : ∀ w, Calls Try.prog 62 #[dv s.d0, .int .i64 b0, kv p.k0] w fun e w' => e = .returned (kv u0) ∧ Below w.heap.size w w')
    (HC1 : ∀ w, Calls Try.prog 62 #[dv s.d1, .int .i64 b1, kv p.k1] w fun e w' => e = .returned (kv u1) ∧ Below w.heap.size w w')
    (HO : ∀ w, Calls Try.prog 29 #[sv s, pv ⟨b0, b1, u0, u1⟩, pv p] w fun e w' => e = .returned (.bool false) ∧ Below w.heap.size w w') (w : World) :
    Calls Try.prog 27 #[sv s, pv p, .agg #[.int .i64 b0, .int .i64 b1]] w fun e w' => e = .returned (.agg #[.int .i64 0, .int .i64 0, .int .i64 0, .int .i64 0, .int .u64 0, .int .u64 0, .string ⟨#[]⟩, .int .i64 0, .int .i64 0, .int .u64 0, .int .u64 0, .string ⟨#[]⟩]) ∧ Below w.heap.size w w' := by
  unfold sv pv dv kv at *
  (try dsimp only at *)
  obtain ⟨Rc, Rd, Ry, Rr, hb0⟩ := four_rows w #[.int .i64 s.n, .int .i64 s.d0.kind, .int .i64 s.d0.side, .int .i64 s.d0.step, .int .i64 s.d1.kind, .int .i64 s.d1.side, .int .i64 s.d1.step] #[.int .i64 p.a0, .int .i64 p.a1, .int .i64 p.k0.kind, .int .i64 p.k0.len, .int .u64 p.k0.h, .int .u64 p.k0.l, .string ⟨p.k0.path.toArray⟩, .int .i64 p.k1.kind, .int .i64 p.k1.len, .int .u64 p.k1.h, .int .u64 p.k1.l, .string ⟨p.k1.path.toArray⟩] #[.int .i64 b0, .int .i64 b1] #[.int .i64 0, .int .i64 0, .int .i64 0, .int .i64 0, .int .u64 0, .int .u64 0, .string ⟨#[]⟩, .int .i64 0, .int .i64 0, .int .u64 0, .int .u64 0, .string ⟨#[]⟩] 26 33 27 33
  (try clear c0 c1 c2 c3 c4 c5 c6); obtain ⟨c0, c1, c2, c3, c4, c5, c6⟩ := row7 Rc
  (try clear d0 d1 d2 d3 d4 d5 d6 d7 d8 d9 d10 d11); obtain ⟨d0, d1, d2, d3, d4, d5, d6, d7, d8, d9, d10, d11⟩ := row12 Rd
  (try clear y0 y1); obtain ⟨y0, y1⟩ := row2 Ry
  (try clear r0 r1 r2 r3 r4 r5 r6 r7 r8 r9 r10 r11); obtain ⟨r0, r1, r2, r3, r4, r5, r6, r7, r8, r9, r10, r11⟩ := row12 Rr
  go_enter Try.func27, Try.ntmps27
  go_wp2_with fail
  replace Rc := Rc.alloc (.cells #[Value.int .i64 b0, Value.int .i64 b1, Value.int .i64 0, Value.int .i64 0, Value.int .u64 0, Value.int .u64 0, Value.string ⟨#[]⟩, Value.int .i64 0, Value.int .i64 0, Value.int .u64 0, Value.int .u64 0, Value.string ⟨#[]⟩] 33)
  replace Rd := Rd.alloc (.cells #[Value.int .i64 b0, Value.int .i64 b1, Value.int .i64 0, Value.int .i64 0, Value.int .u64 0, Value.int .u64 0, Value.string ⟨#[]⟩, Value.int .i64 0, Value.int .i64 0, Value.int .u64 0, Value.int .u64 0, Value.string ⟨#[]⟩] 33)
  replace Ry := Ry.alloc (.cells #[Value.int .i64 b0, Value.int .i64 b1, Value.int .i64 0, Value.int .i64 0, Value.int .u64 0, Value.int .u64 0, Value.string ⟨#[]⟩, Value.int .i64 0, Value.int .i64 0, Value.int .u64 0, Value.int .u64 0, Value.string ⟨#[]⟩] 33)
  replace Rr := Rr.alloc (.cells #[Value.int .i64 b0, Value.int .i64 b1, Value.int .i64 0, Value.int .i64 0, Value.int .u64 0, Value.int .u64 0, Value.string ⟨#[]⟩, Value.int .i64 0, Value.int .i64 0, Value.int .u64 0, Value.int .u64 0, Value.string ⟨#[]⟩] 33)
  have Rv := Row.new (World.alloc (World.alloc (World.alloc (World.alloc w (.cells #[.int .i64 s.n, .int .i64 s.d0.kind, .int .i64 s.d0.side, .int .i64 s.d0.step, .int .i64 s.d1.kind, .int .i64 s.d1.side, .int .i64 s.d1.step] 26)) (.cells #[.int .i64 p.a0, .int .i64 p.a1, .int .i64 p.k0.kind, .int .i64 p.k0.len, .int .u64 p.k0.h, .int .u64 p.k0.l, .string ⟨p.k0.path.toArray⟩, .int .i64 p.k1.kind, .int .i64 p.k1.len, .int .u64 p.k1.h, .int .u64 p.k1.l, .string ⟨p.k1.path.toArray⟩] 33)) (.cells #[.int .i64 b0, .int .i64 b1] 27)) (.cells #[.int .i64 0, .int .i64 0, .int .i64 0, .int .i64 0, .int .u64 0, .int .u64 0, .string ⟨#[]⟩, .int .i64 0, .int .i64 0, .int .u64 0, .int .u64 0, .string ⟨#[]⟩] 33)) #[Value.int .i64 b0, Value.int .i64 b1, Value.int .i64 0, Value.int .i64 0, Value.int .u64 0, Value.int .u64 0, Value.string ⟨#[]⟩, Value.int .i64 0, Value.int .i64 0, Value.int .u64 0, Value.int .u64 0, Value.string ⟨#[]⟩] 33
  simp only [World.size_alloc] at Rv
  have mv := hb0.size
  replace hb0 := hb0.alloc hb0.size (.cells #[Value.int .i64 b0, Value.int .i64 b1, Value.int .i64 0, Value.int .i64 0, Value.int .u64 0, Value.int .u64 0, Value.string ⟨#[]⟩, Value.int .i64 0, Value.int .i64 0, Value.int .u64 0, Value.int .u64 0, Value.string ⟨#[]⟩] 33)
  (try clear c0 c1 c2 c3 c4 c5 c6); obtain ⟨c0, c1, c2, c3, c4, c5, c6⟩ := row7 Rc
  (try clear d0 d1 d2 d3 d4 d5 d6 d7 d8 d9 d10 d11); obtain ⟨d0, d1, d2, d3, d4, d5, d6, d7, d8, d9, d10, d11⟩ := row12 Rd
  (try clear y0 y1); obtain ⟨y0, y1⟩ := row2 Ry
  (try clear r0 r1 r2 r3 r4 r5 r6 r7 r8 r9 r10 r11); obtain ⟨r0, r1, r2, r3, r4, r5, r6, r7, r8, r9, r10, r11⟩ := row12 Rr
  (try clear v0 v1 v2 v3 v4 v5 v6 v7 v8 v9 v10 v11); obtain ⟨v0, v1, v2, v3, v4, v5, v6, v7, v8, v9, v10, v11⟩ := row12 Rv
  generalize (World.alloc (World.alloc (World.alloc (World.alloc (World.alloc w (.cells #[.int .i64 s.n, .int .i64 s.d0.kind, .int .i64 s.d0.side, .int .i64 s.d0.step, .int .i64 s.d1.kind, .int .i64 s.d1.side, .int .i64 s.d1.step] 26)) (.cells #[.int .i64 p.a0, .int .i64 p.a1, .int .i64 p.k0.kind, .int .i64 p.k0.len, .int .u64 p.k0.h, .int .u64 p.k0.l, .string ⟨p.k0.path.toArray⟩, .int .i64 p.k1.kind, .int .i64 p.k1.len, .int .u64 p.k1.h, .int .u64 p.k1.l, .string ⟨p.k1.path.toArray⟩] 33)) (.cells #[.int .i64 b0, .int .i64 b1] 27)) (.cells #[.int .i64 0, .int .i64 0, .int .i64 0, .int .i64 0, .int .u64 0, .int .u64 0, .string ⟨#[]⟩, .int .i64 0, .int .i64 0, .int .u64 0, .int .u64 0, .string ⟨#[]⟩] 33)) (.cells #[Value.int .i64 b0, Value.int .i64 b1, Value.int .i64 0, Value.int .i64 0, Value.int .u64 0, Value.int .u64 0, Value.string ⟨#[]⟩, Value.int .i64 0, Value.int .i64 0, Value.int .u64 0, Value.int .u64 0, Value.string ⟨#[]⟩] 33)) = w1 at *
  refine wp_loop_rounds 3 ?_
  rw [rounds_succ]
  go_wp2_with fail
  refine wp_region_held_drew (S := (fun w' => w'.cell? ⟨w.heap.size, 1, none⟩ = some (Value.int .i64 s.d0.kind) ∧ w'.cell? ⟨w.heap.size, 2, none⟩ = some (Value.int .i64 s.d0.side) ∧ w'.cell? ⟨w.heap.size, 3, none⟩ = some (Value.int .i64 s.d0.step) ∧ w'.cell? ⟨w.heap.size + 1 + 1, 0, none⟩ = some (Value.int .i64 b0) ∧ w'.cell? ⟨w.heap.size + 1 + 1, 1, none⟩ = some (Value.int .i64 b1) ∧ w'.cell? ⟨w.heap.size + 1, 2, none⟩ = some (Value.int .i64 p.k0.kind) ∧ w'.cell? ⟨w.heap.size + 1, 3, none⟩ = some (Value.int .i64 p.k0.len) ∧ w'.cell? ⟨w.heap.size + 1, 4, none⟩ = some (Value.int .u64 p.k0.h) ∧ w'.cell? ⟨w.heap.size + 1, 5, none⟩ = some (Value.int .u64 p.k0.l) ∧ w'.cell? ⟨w.heap.size + 1, 6, none⟩ = some (Value.string ⟨p.k0.path.toArray⟩))) (by kernel_rfl) ?hSr87_ (fun hHeld => ?_)
  case hSr87_ => (exact ⟨c1, c2, c3, y0, y1, d2, d3, d4, d5, d6⟩)
  (clear c0 c1 c2 c3 c4 c5 c6 d0 d1 d2 d3 d4 d5 d6 d7 d8 d9 d10 d11 y0 y1 r0 r1 r2 r3 r4 r5 r6 r7 r8 r9 r10 r11 v0 v1 v2 v3 v4 v5 v6 v7 v8 v9 v10 v11; (replace Rc := Rc.drew); (replace Rd := Rd.drew); (replace Ry := Ry.drew); (replace Rr := Rr.drew); (replace Rv := Rv.drew); (replace hb0 := hb0.drew); (generalize World.drew w1 = wq at *))
  refine tk 0 ⟨some 15, .move (.tmp 8), 3, _, _, _⟩ hHeld ?_
  (try simp only [Act.put, nz1, nz2, nz3])
  refine tk 1 ⟨some 16, .move (.tmp 8), 3, _, _, _⟩ hHeld ?_
  (try simp only [Act.put, nz1, nz2, nz3])
  refine tk 2 ⟨some 17, .fieldAddr 26 (.tmp 3) 1, 0, _, _, _⟩ hHeld ?_
  (try simp only [Act.put, nz1, nz2, nz3])
  refine tk 3 ⟨some 18, .indexAddr 24 (.tmp 17) (.tmp 16), 0, _, _, _⟩ hHeld ?_
  (try simp only [Act.put, nz1, nz2, nz3])
  refine tk 4 ⟨some 19, .load 23 (.tmp 18), 23, _, _, _⟩ hHeld ?_
  (try simp only [Act.put, nz1, nz2, nz3])
  refine tk 5 ⟨some 20, .move (.tmp 8), 3, _, _, _⟩ hHeld ?_
  (try simp only [Act.put, nz1, nz2, nz3])
  refine tk 6 ⟨some 21, .indexAddr 27 (.tmp 5) (.tmp 20), 0, _, _, _⟩ hHeld ?_
  (try simp only [Act.put, nz1, nz2, nz3])
  refine tk 7 ⟨some 22, .load 3 (.tmp 21), 3, _, _, _⟩ hHeld ?_
  (try simp only [Act.put, nz1, nz2, nz3])
  refine tk 8 ⟨some 23, .move (.tmp 8), 3, _, _, _⟩ hHeld ?_
  (try simp only [Act.put, nz1, nz2, nz3])
  refine tk 9 ⟨some 24, .fieldAddr 33 (.tmp 4) 1, 0, _, _, _⟩ hHeld ?_
  (try simp only [Act.put, nz1, nz2, nz3])
  refine tk 10 ⟨some 25, .indexAddr 31 (.tmp 24) (.tmp 23), 0, _, _, _⟩ hHeld ?_
  (try simp only [Act.put, nz1, nz2, nz3])
  refine tk 11 ⟨some 26, .load 30 (.tmp 25), 30, _, _, _⟩ hHeld ?_
  (try simp only [Act.put, nz1, nz2, nz3])
  refine tk 13 ⟨some 28, .fieldAddr 33 (.tmp 7) 1, 0, _, _, _⟩ hHeld ?_
  (try simp only [Act.put, nz1, nz2, nz3])
  refine wpAnyH_ready (rs := [12]) (by kernel_rfl) (by simp) ?_
  refine AllReadyH.cons (o := ⟨some 27, .call { callee := .value (.func 62), args := #[.tmp 19, .tmp 22, .tmp 26], argTypes := #[23, 3, 30] }, 30, _, _, _⟩) rfl (fun K hK => ?_) AllReadyH.nil
  (go_simp; (refine (HC0 _).mono ?_); (rintro e wz ⟨rfl, hb⟩); (replace Rc := Rc.later hb); (replace Rd := Rd.later hb); (replace Ry := Ry.later hb); (replace Rr := Rr.later hb); (replace Rv := Rv.later hb); (replace hb0 := below_step hb0 hb); go_wp2_with fail)
  refine hK.out _ _ ?hSr87_14_12 (fun hHeld2 => ?_)
  case hSr87_14_12 => (obtain ⟨c1, c2, c3, y0, y1, d2, d3, d4, d5, d6⟩ := hHeld; exact ⟨cell_later hb c1, cell_later hb c2, cell_later hb c3, cell_later hb y0, cell_later hb y1, cell_later hb d2, cell_later hb d3, cell_later hb d4, cell_later hb d5, cell_later hb d6⟩)
  clear hK K hHeld
  have hHeld := hHeld2
  clear hHeld2
  rename World => wq
  (try simp only [Act.put, nz1, nz2, nz3])
  refine tk 14 ⟨some 29, .indexAddr 31 (.tmp 28) (.tmp 15), 0, _, _, _⟩ hHeld ?_
  (try simp only [Act.put, nz1, nz2, nz3])
  refine wpAnyH_ready (rs := [15]) (by kernel_rfl) (by simp) ?_
  refine AllReadyH.cons (o := ⟨none, .store 30 (.tmp 29) (.tmp 27), 0, _, _, _⟩) rfl (fun K hK => ?_) AllReadyH.nil
  ((rw [if_pos (by rfl)]); (with_reducible refine pst 30 (.tmp 29) (.tmp 27) ?_ (w.heap.size + 1 + 1 + 1 + 1) 2 #[.int .i64 u0.kind, .int .i64 u0.len, .int .u64 u0.h, .int .u64 u0.l, .string ⟨u0.path.toArray⟩] ?_ ?_ ?_ ?_ ?_ ?_); rfl; rfl; rfl; (exact Row.thereAt Rv 2 _ (by simp)); (exact infoKe); (simp [Value.oneCell']); (rintro wz hwz); (have hHq := hHeld); (obtain ⟨c1, c2, c3, y0, y1, d2, d3, d4, d5, d6⟩ := hHq); (replace c1 := pcf hwz c1); (replace c2 := pcf hwz c2); (replace c3 := pcf hwz c3); (replace y0 := pcf hwz y0); (replace y1 := pcf hwz y1); (replace d2 := pcf hwz d2); (replace d3 := pcf hwz d3); (replace d4 := pcf hwz d4); (replace d5 := pcf hwz d5); (replace d6 := pcf hwz d6); (replace Rc := prf hwz Rc); (replace Rd := prf hwz Rd); (replace Ry := prf hwz Ry); (replace Rr := prf hwz Rr); (replace hb0 := pbl hwz hb0); (replace Rv : Row wz (w.heap.size + 1 + 1 + 1 + 1) #[.int .i64 b0, .int .i64 b1, .int .i64 u0.kind, .int .i64 u0.len, .int .u64 u0.h, .int .u64 u0.l, .string ⟨u0.path.toArray⟩, .int .i64 0, .int .i64 0, .int .u64 0, .int .u64 0, .string ⟨#[]⟩] 33 := psm hwz Rv (by simp [setL])); clear hwz)
  refine hK.out _ _ ?hSr87_16_15 (fun hHeld2 => ?_)
  case hSr87_16_15 => (exact ⟨c1, c2, c3, y0, y1, d2, d3, d4, d5, d6⟩)
  clear hK K hHeld
  have hHeld := hHeld2
  clear hHeld2
  rename World => wq
  (try simp only [Act.put, nz1, nz2, nz3])
  refine wpAnyH_done (by kernel_rfl) ?_ _
  clear hHeld
  rename World => w2
  have lc := Rc.lt
  have ld := Rd.lt
  have ly := Ry.lt
  have lr := Rr.lt
  have lv := Rv.lt
  (try clear c0 c1 c2 c3 c4 c5 c6); obtain ⟨c0, c1, c2, c3, c4, c5, c6⟩ := row7 Rc
  (try clear d0 d1 d2 d3 d4 d5 d6 d7 d8 d9 d10 d11); obtain ⟨d0, d1, d2, d3, d4, d5, d6, d7, d8, d9, d10, d11⟩ := row12 Rd
  (try clear y0 y1); obtain ⟨y0, y1⟩ := row2 Ry
  (try clear r0 r1 r2 r3 r4 r5 r6 r7 r8 r9 r10 r11); obtain ⟨r0, r1, r2, r3, r4, r5, r6, r7, r8, r9, r10, r11⟩ := row12 Rr
  (try clear v0 v1 v2 v3 v4 v5 v6 v7 v8 v9 v10 v11); obtain ⟨v0, v1, v2, v3, v4, v5, v6, v7, v8, v9, v10, v11⟩ := row12 Rv
  go_wp2_with fail
  rw [rounds_succ]
  go_wp2_with fail
  refine wp_region_held_drew (S := (fun w' => w'.cell? ⟨w.heap.size, 4, none⟩ = some (Value.int .i64 s.d1.kind) ∧ w'.cell? ⟨w.heap.size, 5, none⟩ = some (Value.int .i64 s.d1.side) ∧ w'.cell? ⟨w.heap.size, 6, none⟩ = some (Value.int .i64 s.d1.step) ∧ w'.cell? ⟨w.heap.size + 1 + 1, 0, none⟩ = some (Value.int .i64 b0) ∧ w'.cell? ⟨w.heap.size + 1 + 1, 1, none⟩ = some (Value.int .i64 b1) ∧ w'.cell? ⟨w.heap.size + 1, 7, none⟩ = some (Value.int .i64 p.k1.kind) ∧ w'.cell? ⟨w.heap.size + 1, 8, none⟩ = some (Value.int .i64 p.k1.len) ∧ w'.cell? ⟨w.heap.size + 1, 9, none⟩ = some (Value.int .u64 p.k1.h) ∧ w'.cell? ⟨w.heap.size + 1, 10, none⟩ = some (Value.int .u64 p.k1.l) ∧ w'.cell? ⟨w.heap.size + 1, 11, none⟩ = some (Value.string ⟨p.k1.path.toArray⟩))) (by kernel_rfl) ?hSr88_ (fun hHeld => ?_)
  case hSr88_ => (exact ⟨c4, c5, c6, y0, y1, d7, d8, d9, d10, d11⟩)
  (clear c0 c1 c2 c3 c4 c5 c6 d0 d1 d2 d3 d4 d5 d6 d7 d8 d9 d10 d11 y0 y1 r0 r1 r2 r3 r4 r5 r6 r7 r8 r9 r10 r11 v0 v1 v2 v3 v4 v5 v6 v7 v8 v9 v10 v11; (replace Rc := Rc.drew); (replace Rd := Rd.drew); (replace Ry := Ry.drew); (replace Rr := Rr.drew); (replace Rv := Rv.drew); (replace hb0 := hb0.drew); (generalize World.drew w2 = wq at *))
  refine tk 0 ⟨some 15, .move (.tmp 8), 3, _, _, _⟩ hHeld ?_
  (try simp only [Act.put, nz1, nz2, nz3])
  refine tk 1 ⟨some 16, .move (.tmp 8), 3, _, _, _⟩ hHeld ?_
  (try simp only [Act.put, nz1, nz2, nz3])
  refine tk 2 ⟨some 17, .fieldAddr 26 (.tmp 3) 1, 0, _, _, _⟩ hHeld ?_
  (try simp only [Act.put, nz1, nz2, nz3])
  refine tk 3 ⟨some 18, .indexAddr 24 (.tmp 17) (.tmp 16), 0, _, _, _⟩ hHeld ?_
  (try simp only [Act.put, nz1, nz2, nz3])
  refine tk 4 ⟨some 19, .load 23 (.tmp 18), 23, _, _, _⟩ hHeld ?_
  (try simp only [Act.put, nz1, nz2, nz3])
  refine tk 5 ⟨some 20, .move (.tmp 8), 3, _, _, _⟩ hHeld ?_
  (try simp only [Act.put, nz1, nz2, nz3])
  refine tk 6 ⟨some 21, .indexAddr 27 (.tmp 5) (.tmp 20), 0, _, _, _⟩ hHeld ?_
  (try simp only [Act.put, nz1, nz2, nz3])
  refine tk 7 ⟨some 22, .load 3 (.tmp 21), 3, _, _, _⟩ hHeld ?_
  (try simp only [Act.put, nz1, nz2, nz3])
  refine tk 8 ⟨some 23, .move (.tmp 8), 3, _, _, _⟩ hHeld ?_
  (try simp only [Act.put, nz1, nz2, nz3])
  refine tk 9 ⟨some 24, .fieldAddr 33 (.tmp 4) 1, 0, _, _, _⟩ hHeld ?_
  (try simp only [Act.put, nz1, nz2, nz3])
  refine tk 10 ⟨some 25, .indexAddr 31 (.tmp 24) (.tmp 23), 0, _, _, _⟩ hHeld ?_
  (try simp only [Act.put, nz1, nz2, nz3])
  refine tk 11 ⟨some 26, .load 30 (.tmp 25), 30, _, _, _⟩ hHeld ?_
  (try simp only [Act.put, nz1, nz2, nz3])
  refine tk 13 ⟨some 28, .fieldAddr 33 (.tmp 7) 1, 0, _, _, _⟩ hHeld ?_
  (try simp only [Act.put, nz1, nz2, nz3])
  refine wpAnyH_ready (rs := [12]) (by kernel_rfl) (by simp) ?_
  refine AllReadyH.cons (o := ⟨some 27, .call { callee := .value (.func 62), args := #[.tmp 19, .tmp 22, .tmp 26], argTypes := #[23, 3, 30] }, 30, _, _, _⟩) rfl (fun K hK => ?_) AllReadyH.nil
  (go_simp; (refine (HC1 _).mono ?_); (rintro e wz ⟨rfl, hb⟩); (replace Rc := Rc.later hb); (replace Rd := Rd.later hb); (replace Ry := Ry.later hb); (replace Rr := Rr.later hb); (replace Rv := Rv.later hb); (replace hb0 := below_step hb0 hb); go_wp2_with fail)
  refine hK.out _ _ ?hSr88_14_12 (fun hHeld2 => ?_)
  case hSr88_14_12 => (obtain ⟨c4, c5, c6, y0, y1, d7, d8, d9, d10, d11⟩ := hHeld; exact ⟨cell_later hb c4, cell_later hb c5, cell_later hb c6, cell_later hb y0, cell_later hb y1, cell_later hb d7, cell_later hb d8, cell_later hb d9, cell_later hb d10, cell_later hb d11⟩)
  clear hK K hHeld
  have hHeld := hHeld2
  clear hHeld2
  rename World => wq
  (try simp only [Act.put, nz1, nz2, nz3])
  refine tk 14 ⟨some 29, .indexAddr 31 (.tmp 28) (.tmp 15), 0, _, _, _⟩ hHeld ?_
  (try simp only [Act.put, nz1, nz2, nz3])
  refine wpAnyH_ready (rs := [15]) (by kernel_rfl) (by simp) ?_
  refine AllReadyH.cons (o := ⟨none, .store 30 (.tmp 29) (.tmp 27), 0, _, _, _⟩) rfl (fun K hK => ?_) AllReadyH.nil
  ((rw [if_pos (by rfl)]); (with_reducible refine pst 30 (.tmp 29) (.tmp 27) ?_ (w.heap.size + 1 + 1 + 1 + 1) 7 #[.int .i64 u1.kind, .int .i64 u1.len, .int .u64 u1.h, .int .u64 u1.l, .string ⟨u1.path.toArray⟩] ?_ ?_ ?_ ?_ ?_ ?_); rfl; rfl; rfl; (exact Row.thereAt Rv 7 _ (by simp)); (exact infoKe); (simp [Value.oneCell']); (rintro wz hwz); (have hHq := hHeld); (obtain ⟨c4, c5, c6, y0, y1, d7, d8, d9, d10, d11⟩ := hHq); (replace c4 := pcf hwz c4); (replace c5 := pcf hwz c5); (replace c6 := pcf hwz c6); (replace y0 := pcf hwz y0); (replace y1 := pcf hwz y1); (replace d7 := pcf hwz d7); (replace d8 := pcf hwz d8); (replace d9 := pcf hwz d9); (replace d10 := pcf hwz d10); (replace d11 := pcf hwz d11); (replace Rc := prf hwz Rc); (replace Rd := prf hwz Rd); (replace Ry := prf hwz Ry); (replace Rr := prf hwz Rr); (replace hb0 := pbl hwz hb0); (replace Rv : Row wz (w.heap.size + 1 + 1 + 1 + 1) #[.int .i64 b0, .int .i64 b1, .int .i64 u0.kind, .int .i64 u0.len, .int .u64 u0.h, .int .u64 u0.l, .string ⟨u0.path.toArray⟩, .int .i64 u1.kind, .int .i64 u1.len, .int .u64 u1.h, .int .u64 u1.l, .string ⟨u1.path.toArray⟩] 33 := psm hwz Rv (by simp [setL])); clear hwz)
  refine hK.out _ _ ?hSr88_16_15 (fun hHeld2 => ?_)
  case hSr88_16_15 => (exact ⟨c4, c5, c6, y0, y1, d7, d8, d9, d10, d11⟩)
  clear hK K hHeld
  have hHeld := hHeld2
  clear hHeld2
  rename World => wq
  (try simp only [Act.put, nz1, nz2, nz3])
  refine wpAnyH_done (by kernel_rfl) ?_ _
  clear hHeld
  rename World => w3
  have lc := Rc.lt
  have ld := Rd.lt
  have ly := Ry.lt
  have lr := Rr.lt
  have lv := Rv.lt
  (try clear c0 c1 c2 c3 c4 c5 c6); obtain ⟨c0, c1, c2, c3, c4, c5, c6⟩ := row7 Rc
  (try clear d0 d1 d2 d3 d4 d5 d6 d7 d8 d9 d10 d11); obtain ⟨d0, d1, d2, d3, d4, d5, d6, d7, d8, d9, d10, d11⟩ := row12 Rd
  (try clear y0 y1); obtain ⟨y0, y1⟩ := row2 Ry
  (try clear r0 r1 r2 r3 r4 r5 r6 r7 r8 r9 r10 r11); obtain ⟨r0, r1, r2, r3, r4, r5, r6, r7, r8, r9, r10, r11⟩ := row12 Rr
  (try clear v0 v1 v2 v3 v4 v5 v6 v7 v8 v9 v10 v11); obtain ⟨v0, v1, v2, v3, v4, v5, v6, v7, v8, v9, v10, v11⟩ := row12 Rv
  go_wp2_with fail
  rw [rounds_succ]
  go_wp2_with fail
  refine (HO _).mono ?_
  rintro e w4 ⟨rfl, hb⟩
  replace Rc := Rc.later hb
  replace Rd := Rd.later hb
  replace Ry := Ry.later hb
  replace Rr := Rr.later hb
  replace Rv := Rv.later hb
  replace hb0 := below_step hb0 hb
  clear hb
  have lc := Rc.lt
  have ld := Rd.lt
  have ly := Ry.lt
  have lr := Rr.lt
  have lv := Rv.lt
  (try clear c0 c1 c2 c3 c4 c5 c6); obtain ⟨c0, c1, c2, c3, c4, c5, c6⟩ := row7 Rc
  (try clear d0 d1 d2 d3 d4 d5 d6 d7 d8 d9 d10 d11); obtain ⟨d0, d1, d2, d3, d4, d5, d6, d7, d8, d9, d10, d11⟩ := row12 Rd
  (try clear y0 y1); obtain ⟨y0, y1⟩ := row2 Ry
  (try clear r0 r1 r2 r3 r4 r5 r6 r7 r8 r9 r10 r11); obtain ⟨r0, r1, r2, r3, r4, r5, r6, r7, r8, r9, r10, r11⟩ := row12 Rr
  (try clear v0 v1 v2 v3 v4 v5 v6 v7 v8 v9 v10 v11); obtain ⟨v0, v1, v2, v3, v4, v5, v6, v7, v8, v9, v10, v11⟩ := row12 Rv
  have rf0 := Rr.frozen 0
  have rf1 := Rr.frozen 1
  have rf2 := Rr.frozen 2
  have rf3 := Rr.frozen 3
  have rf4 := Rr.frozen 4
  have rf5 := Rr.frozen 5
  have rf6 := Rr.frozen 6
  have rf7 := Rr.frozen 7
  have rf8 := Rr.frozen 8
  have rf9 := Rr.frozen 9
  have rf10 := Rr.frozen 10
  have rf11 := Rr.frozen 11
  go_wp2
  obtain ⟨w5, hwn⟩ : ∃ wz, wz = (World.setCell (World.setCell (World.setCell (World.setCell (World.setCell (World.setCell (World.setCell (World.setCell (World.setCell (World.setCell (World.setCell (World.setCell w4 ⟨(w.heap.size + 1 + 1 + 1), 0, none⟩ (.int .i64 0)) ⟨(w.heap.size + 1 + 1 + 1), 1, none⟩ (.int .i64 0)) ⟨(w.heap.size + 1 + 1 + 1), 2, none⟩ (.int .i64 0)) ⟨(w.heap.size + 1 + 1 + 1), 3, none⟩ (.int .i64 0)) ⟨(w.heap.size + 1 + 1 + 1), 4, none⟩ (.int .u64 0)) ⟨(w.heap.size + 1 + 1 + 1), 5, none⟩ (.int .u64 0)) ⟨(w.heap.size + 1 + 1 + 1), 6, none⟩ (.string ⟨#[]⟩)) ⟨(w.heap.size + 1 + 1 + 1), 7, none⟩ (.int .i64 0)) ⟨(w.heap.size + 1 + 1 + 1), 8, none⟩ (.int .i64 0)) ⟨(w.heap.size + 1 + 1 + 1), 9, none⟩ (.int .u64 0)) ⟨(w.heap.size + 1 + 1 + 1), 10, none⟩ (.int .u64 0)) ⟨(w.heap.size + 1 + 1 + 1), 11, none⟩ (.string ⟨#[]⟩)) := ⟨_, rfl⟩
  rw [← hwn]
  replace hwn : w5 = World.setCells w4 (w.heap.size + 1 + 1 + 1) 0 [.int .i64 0, .int .i64 0, .int .i64 0, .int .i64 0, .int .u64 0, .int .u64 0, .string ⟨#[]⟩, .int .i64 0, .int .i64 0, .int .u64 0, .int .u64 0, .string ⟨#[]⟩] := hwn
  replace Rr : Row w5 (w.heap.size + 1 + 1 + 1) #[.int .i64 0, .int .i64 0, .int .i64 0, .int .i64 0, .int .u64 0, .int .u64 0, .string ⟨#[]⟩, .int .i64 0, .int .i64 0, .int .u64 0, .int .u64 0, .string ⟨#[]⟩] 33 := psm hwn Rr (by simp [setL])
  replace Rc := prf hwn Rc
  replace Rd := prf hwn Rd
  replace Ry := prf hwn Ry
  replace Rv := prf hwn Rv
  replace hb0 := pbl hwn hb0
  clear hwn c0 c1 c2 c3 c4 c5 c6 d0 d1 d2 d3 d4 d5 d6 d7 d8 d9 d10 d11 y0 y1 r0 r1 r2 r3 r4 r5 r6 r7 r8 r9 r10 r11 v0 v1 v2 v3 v4 v5 v6 v7 v8 v9 v10 v11
  (try clear rf0 rf1 rf2 rf3 rf4 rf5 rf6 rf7 rf8 rf9 rf10 rf11)
  (try clear c0 c1 c2 c3 c4 c5 c6); obtain ⟨c0, c1, c2, c3, c4, c5, c6⟩ := row7 Rc
  (try clear d0 d1 d2 d3 d4 d5 d6 d7 d8 d9 d10 d11); obtain ⟨d0, d1, d2, d3, d4, d5, d6, d7, d8, d9, d10, d11⟩ := row12 Rd
  (try clear y0 y1); obtain ⟨y0, y1⟩ := row2 Ry
  (try clear r0 r1 r2 r3 r4 r5 r6 r7 r8 r9 r10 r11); obtain ⟨r0, r1, r2, r3, r4, r5, r6, r7, r8, r9, r10, r11⟩ := row12 Rr
  (try clear v0 v1 v2 v3 v4 v5 v6 v7 v8 v9 v10 v11); obtain ⟨v0, v1, v2, v3, v4, v5, v6, v7, v8, v9, v10, v11⟩ := row12 Rv
  refine bodyPost_ret (v := .agg #[.int .i64 0, .int .i64 0, .int .i64 0, .int .i64 0, .int .u64 0, .int .u64 0, .string ⟨#[]⟩, .int .i64 0, .int .i64 0, .int .u64 0, .int .u64 0, .string ⟨#[]⟩]) (by simp [results, Try.results27, go_sem, r0, r1, r2, r3, r4, r5, r6, r7, r8, r9, r10, r11]) rfl ⟨rfl, hb0⟩
set_option maxRecDepth 100000 in
set_option maxHeartbeats 32000000 in
theorem rup_true (s : Sp) (p : Px) (b0 b1 : Int) (u0 u1 : Ke)
    (HC0 : ∀ w, Calls Try.prog 62 #[dv s.d0, .int .i64 b0, kv p.k0] w fun e w' => e = .returned (kv u0) ∧ Below w.heap.size w w')
    (HC1 : ∀ w, Calls Try.prog 62 #[dv s.d1, .int .i64 b1, kv p.k1] w fun e w' => e = .returned (kv u1) ∧ Below w.heap.size w w')
    (HO : ∀ w, Calls Try.prog 29 #[sv s, pv ⟨b0, b1, u0, u1⟩, pv p] w fun e w' => e = .returned (.bool true) ∧ Below w.heap.size w w') (w : World) :
    Calls Try.prog 27 #[sv s, pv p, .agg #[.int .i64 b0, .int .i64 b1]] w fun e w' => e = .returned (.agg #[.int .i64 b0, .int .i64 b1, .int .i64 u0.kind, .int .i64 u0.len, .int .u64 u0.h, .int .u64 u0.l, .string ⟨u0.path.toArray⟩, .int .i64 u1.kind, .int .i64 u1.len, .int .u64 u1.h, .int .u64 u1.l, .string ⟨u1.path.toArray⟩]) ∧ Below w.heap.size w w' := by
  unfold sv pv dv kv at *
  (try dsimp only at *)
  obtain ⟨Rc, Rd, Ry, Rr, hb0⟩ := four_rows w #[.int .i64 s.n, .int .i64 s.d0.kind, .int .i64 s.d0.side, .int .i64 s.d0.step, .int .i64 s.d1.kind, .int .i64 s.d1.side, .int .i64 s.d1.step] #[.int .i64 p.a0, .int .i64 p.a1, .int .i64 p.k0.kind, .int .i64 p.k0.len, .int .u64 p.k0.h, .int .u64 p.k0.l, .string ⟨p.k0.path.toArray⟩, .int .i64 p.k1.kind, .int .i64 p.k1.len, .int .u64 p.k1.h, .int .u64 p.k1.l, .string ⟨p.k1.path.toArray⟩] #[.int .i64 b0, .int .i64 b1] #[.int .i64 0, .int .i64 0, .int .i64 0, .int .i64 0, .int .u64 0, .int .u64 0, .string ⟨#[]⟩, .int .i64 0, .int .i64 0, .int .u64 0, .int .u64 0, .string ⟨#[]⟩] 26 33 27 33
  (try clear c0 c1 c2 c3 c4 c5 c6); obtain ⟨c0, c1, c2, c3, c4, c5, c6⟩ := row7 Rc
  (try clear d0 d1 d2 d3 d4 d5 d6 d7 d8 d9 d10 d11); obtain ⟨d0, d1, d2, d3, d4, d5, d6, d7, d8, d9, d10, d11⟩ := row12 Rd
  (try clear y0 y1); obtain ⟨y0, y1⟩ := row2 Ry
  (try clear r0 r1 r2 r3 r4 r5 r6 r7 r8 r9 r10 r11); obtain ⟨r0, r1, r2, r3, r4, r5, r6, r7, r8, r9, r10, r11⟩ := row12 Rr
  go_enter Try.func27, Try.ntmps27
  go_wp2_with fail
  replace Rc := Rc.alloc (.cells #[Value.int .i64 b0, Value.int .i64 b1, Value.int .i64 0, Value.int .i64 0, Value.int .u64 0, Value.int .u64 0, Value.string ⟨#[]⟩, Value.int .i64 0, Value.int .i64 0, Value.int .u64 0, Value.int .u64 0, Value.string ⟨#[]⟩] 33)
  replace Rd := Rd.alloc (.cells #[Value.int .i64 b0, Value.int .i64 b1, Value.int .i64 0, Value.int .i64 0, Value.int .u64 0, Value.int .u64 0, Value.string ⟨#[]⟩, Value.int .i64 0, Value.int .i64 0, Value.int .u64 0, Value.int .u64 0, Value.string ⟨#[]⟩] 33)
  replace Ry := Ry.alloc (.cells #[Value.int .i64 b0, Value.int .i64 b1, Value.int .i64 0, Value.int .i64 0, Value.int .u64 0, Value.int .u64 0, Value.string ⟨#[]⟩, Value.int .i64 0, Value.int .i64 0, Value.int .u64 0, Value.int .u64 0, Value.string ⟨#[]⟩] 33)
  replace Rr := Rr.alloc (.cells #[Value.int .i64 b0, Value.int .i64 b1, Value.int .i64 0, Value.int .i64 0, Value.int .u64 0, Value.int .u64 0, Value.string ⟨#[]⟩, Value.int .i64 0, Value.int .i64 0, Value.int .u64 0, Value.int .u64 0, Value.string ⟨#[]⟩] 33)
  have Rv := Row.new (World.alloc (World.alloc (World.alloc (World.alloc w (.cells #[.int .i64 s.n, .int .i64 s.d0.kind, .int .i64 s.d0.side, .int .i64 s.d0.step, .int .i64 s.d1.kind, .int .i64 s.d1.side, .int .i64 s.d1.step] 26)) (.cells #[.int .i64 p.a0, .int .i64 p.a1, .int .i64 p.k0.kind, .int .i64 p.k0.len, .int .u64 p.k0.h, .int .u64 p.k0.l, .string ⟨p.k0.path.toArray⟩, .int .i64 p.k1.kind, .int .i64 p.k1.len, .int .u64 p.k1.h, .int .u64 p.k1.l, .string ⟨p.k1.path.toArray⟩] 33)) (.cells #[.int .i64 b0, .int .i64 b1] 27)) (.cells #[.int .i64 0, .int .i64 0, .int .i64 0, .int .i64 0, .int .u64 0, .int .u64 0, .string ⟨#[]⟩, .int .i64 0, .int .i64 0, .int .u64 0, .int .u64 0, .string ⟨#[]⟩] 33)) #[Value.int .i64 b0, Value.int .i64 b1, Value.int .i64 0, Value.int .i64 0, Value.int .u64 0, Value.int .u64 0, Value.string ⟨#[]⟩, Value.int .i64 0, Value.int .i64 0, Value.int .u64 0, Value.int .u64 0, Value.string ⟨#[]⟩] 33
  simp only [World.size_alloc] at Rv
  have mv := hb0.size
  replace hb0 := hb0.alloc hb0.size (.cells #[Value.int .i64 b0, Value.int .i64 b1, Value.int .i64 0, Value.int .i64 0, Value.int .u64 0, Value.int .u64 0, Value.string ⟨#[]⟩, Value.int .i64 0, Value.int .i64 0, Value.int .u64 0, Value.int .u64 0, Value.string ⟨#[]⟩] 33)
  (try clear c0 c1 c2 c3 c4 c5 c6); obtain ⟨c0, c1, c2, c3, c4, c5, c6⟩ := row7 Rc
  (try clear d0 d1 d2 d3 d4 d5 d6 d7 d8 d9 d10 d11); obtain ⟨d0, d1, d2, d3, d4, d5, d6, d7, d8, d9, d10, d11⟩ := row12 Rd
  (try clear y0 y1); obtain ⟨y0, y1⟩ := row2 Ry
  (try clear r0 r1 r2 r3 r4 r5 r6 r7 r8 r9 r10 r11); obtain ⟨r0, r1, r2, r3, r4, r5, r6, r7, r8, r9, r10, r11⟩ := row12 Rr
  (try clear v0 v1 v2 v3 v4 v5 v6 v7 v8 v9 v10 v11); obtain ⟨v0, v1, v2, v3, v4, v5, v6, v7, v8, v9, v10, v11⟩ := row12 Rv
  generalize (World.alloc (World.alloc (World.alloc (World.alloc (World.alloc w (.cells #[.int .i64 s.n, .int .i64 s.d0.kind, .int .i64 s.d0.side, .int .i64 s.d0.step, .int .i64 s.d1.kind, .int .i64 s.d1.side, .int .i64 s.d1.step] 26)) (.cells #[.int .i64 p.a0, .int .i64 p.a1, .int .i64 p.k0.kind, .int .i64 p.k0.len, .int .u64 p.k0.h, .int .u64 p.k0.l, .string ⟨p.k0.path.toArray⟩, .int .i64 p.k1.kind, .int .i64 p.k1.len, .int .u64 p.k1.h, .int .u64 p.k1.l, .string ⟨p.k1.path.toArray⟩] 33)) (.cells #[.int .i64 b0, .int .i64 b1] 27)) (.cells #[.int .i64 0, .int .i64 0, .int .i64 0, .int .i64 0, .int .u64 0, .int .u64 0, .string ⟨#[]⟩, .int .i64 0, .int .i64 0, .int .u64 0, .int .u64 0, .string ⟨#[]⟩] 33)) (.cells #[Value.int .i64 b0, Value.int .i64 b1, Value.int .i64 0, Value.int .i64 0, Value.int .u64 0, Value.int .u64 0, Value.string ⟨#[]⟩, Value.int .i64 0, Value.int .i64 0, Value.int .u64 0, Value.int .u64 0, Value.string ⟨#[]⟩] 33)) = w1 at *
  refine wp_loop_rounds 3 ?_
  rw [rounds_succ]
  go_wp2_with fail
  refine wp_region_held_drew (S := (fun w' => w'.cell? ⟨w.heap.size, 1, none⟩ = some (Value.int .i64 s.d0.kind) ∧ w'.cell? ⟨w.heap.size, 2, none⟩ = some (Value.int .i64 s.d0.side) ∧ w'.cell? ⟨w.heap.size, 3, none⟩ = some (Value.int .i64 s.d0.step) ∧ w'.cell? ⟨w.heap.size + 1 + 1, 0, none⟩ = some (Value.int .i64 b0) ∧ w'.cell? ⟨w.heap.size + 1 + 1, 1, none⟩ = some (Value.int .i64 b1) ∧ w'.cell? ⟨w.heap.size + 1, 2, none⟩ = some (Value.int .i64 p.k0.kind) ∧ w'.cell? ⟨w.heap.size + 1, 3, none⟩ = some (Value.int .i64 p.k0.len) ∧ w'.cell? ⟨w.heap.size + 1, 4, none⟩ = some (Value.int .u64 p.k0.h) ∧ w'.cell? ⟨w.heap.size + 1, 5, none⟩ = some (Value.int .u64 p.k0.l) ∧ w'.cell? ⟨w.heap.size + 1, 6, none⟩ = some (Value.string ⟨p.k0.path.toArray⟩))) (by kernel_rfl) ?hSr89_ (fun hHeld => ?_)
  case hSr89_ => (exact ⟨c1, c2, c3, y0, y1, d2, d3, d4, d5, d6⟩)
  (clear c0 c1 c2 c3 c4 c5 c6 d0 d1 d2 d3 d4 d5 d6 d7 d8 d9 d10 d11 y0 y1 r0 r1 r2 r3 r4 r5 r6 r7 r8 r9 r10 r11 v0 v1 v2 v3 v4 v5 v6 v7 v8 v9 v10 v11; (replace Rc := Rc.drew); (replace Rd := Rd.drew); (replace Ry := Ry.drew); (replace Rr := Rr.drew); (replace Rv := Rv.drew); (replace hb0 := hb0.drew); (generalize World.drew w1 = wq at *))
  refine tk 0 ⟨some 15, .move (.tmp 8), 3, _, _, _⟩ hHeld ?_
  (try simp only [Act.put, nz1, nz2, nz3])
  refine tk 1 ⟨some 16, .move (.tmp 8), 3, _, _, _⟩ hHeld ?_
  (try simp only [Act.put, nz1, nz2, nz3])
  refine tk 2 ⟨some 17, .fieldAddr 26 (.tmp 3) 1, 0, _, _, _⟩ hHeld ?_
  (try simp only [Act.put, nz1, nz2, nz3])
  refine tk 3 ⟨some 18, .indexAddr 24 (.tmp 17) (.tmp 16), 0, _, _, _⟩ hHeld ?_
  (try simp only [Act.put, nz1, nz2, nz3])
  refine tk 4 ⟨some 19, .load 23 (.tmp 18), 23, _, _, _⟩ hHeld ?_
  (try simp only [Act.put, nz1, nz2, nz3])
  refine tk 5 ⟨some 20, .move (.tmp 8), 3, _, _, _⟩ hHeld ?_
  (try simp only [Act.put, nz1, nz2, nz3])
  refine tk 6 ⟨some 21, .indexAddr 27 (.tmp 5) (.tmp 20), 0, _, _, _⟩ hHeld ?_
  (try simp only [Act.put, nz1, nz2, nz3])
  refine tk 7 ⟨some 22, .load 3 (.tmp 21), 3, _, _, _⟩ hHeld ?_
  (try simp only [Act.put, nz1, nz2, nz3])
  refine tk 8 ⟨some 23, .move (.tmp 8), 3, _, _, _⟩ hHeld ?_
  (try simp only [Act.put, nz1, nz2, nz3])
  refine tk 9 ⟨some 24, .fieldAddr 33 (.tmp 4) 1, 0, _, _, _⟩ hHeld ?_
  (try simp only [Act.put, nz1, nz2, nz3])
  refine tk 10 ⟨some 25, .indexAddr 31 (.tmp 24) (.tmp 23), 0, _, _, _⟩ hHeld ?_
  (try simp only [Act.put, nz1, nz2, nz3])
  refine tk 11 ⟨some 26, .load 30 (.tmp 25), 30, _, _, _⟩ hHeld ?_
  (try simp only [Act.put, nz1, nz2, nz3])
  refine tk 13 ⟨some 28, .fieldAddr 33 (.tmp 7) 1, 0, _, _, _⟩ hHeld ?_
  (try simp only [Act.put, nz1, nz2, nz3])
  refine wpAnyH_ready (rs := [12]) (by kernel_rfl) (by simp) ?_
  refine AllReadyH.cons (o := ⟨some 27, .call { callee := .value (.func 62), args := #[.tmp 19, .tmp 22, .tmp 26], argTypes := #[23, 3, 30] }, 30, _, _, _⟩) rfl (fun K hK => ?_) AllReadyH.nil
  (go_simp; (refine (HC0 _).mono ?_); (rintro e wz ⟨rfl, hb⟩); (replace Rc := Rc.later hb); (replace Rd := Rd.later hb); (replace Ry := Ry.later hb); (replace Rr := Rr.later hb); (replace Rv := Rv.later hb); (replace hb0 := below_step hb0 hb); go_wp2_with fail)
  refine hK.out _ _ ?hSr89_14_12 (fun hHeld2 => ?_)
  case hSr89_14_12 => (obtain ⟨c1, c2, c3, y0, y1, d2, d3, d4, d5, d6⟩ := hHeld; exact ⟨cell_later hb c1, cell_later hb c2, cell_later hb c3, cell_later hb y0, cell_later hb y1, cell_later hb d2, cell_later hb d3, cell_later hb d4, cell_later hb d5, cell_later hb d6⟩)
  clear hK K hHeld
  have hHeld := hHeld2
  clear hHeld2
  rename World => wq
  (try simp only [Act.put, nz1, nz2, nz3])
  refine tk 14 ⟨some 29, .indexAddr 31 (.tmp 28) (.tmp 15), 0, _, _, _⟩ hHeld ?_
  (try simp only [Act.put, nz1, nz2, nz3])
  refine wpAnyH_ready (rs := [15]) (by kernel_rfl) (by simp) ?_
  refine AllReadyH.cons (o := ⟨none, .store 30 (.tmp 29) (.tmp 27), 0, _, _, _⟩) rfl (fun K hK => ?_) AllReadyH.nil
  ((rw [if_pos (by rfl)]); (with_reducible refine pst 30 (.tmp 29) (.tmp 27) ?_ (w.heap.size + 1 + 1 + 1 + 1) 2 #[.int .i64 u0.kind, .int .i64 u0.len, .int .u64 u0.h, .int .u64 u0.l, .string ⟨u0.path.toArray⟩] ?_ ?_ ?_ ?_ ?_ ?_); rfl; rfl; rfl; (exact Row.thereAt Rv 2 _ (by simp)); (exact infoKe); (simp [Value.oneCell']); (rintro wz hwz); (have hHq := hHeld); (obtain ⟨c1, c2, c3, y0, y1, d2, d3, d4, d5, d6⟩ := hHq); (replace c1 := pcf hwz c1); (replace c2 := pcf hwz c2); (replace c3 := pcf hwz c3); (replace y0 := pcf hwz y0); (replace y1 := pcf hwz y1); (replace d2 := pcf hwz d2); (replace d3 := pcf hwz d3); (replace d4 := pcf hwz d4); (replace d5 := pcf hwz d5); (replace d6 := pcf hwz d6); (replace Rc := prf hwz Rc); (replace Rd := prf hwz Rd); (replace Ry := prf hwz Ry); (replace Rr := prf hwz Rr); (replace hb0 := pbl hwz hb0); (replace Rv : Row wz (w.heap.size + 1 + 1 + 1 + 1) #[.int .i64 b0, .int .i64 b1, .int .i64 u0.kind, .int .i64 u0.len, .int .u64 u0.h, .int .u64 u0.l, .string ⟨u0.path.toArray⟩, .int .i64 0, .int .i64 0, .int .u64 0, .int .u64 0, .string ⟨#[]⟩] 33 := psm hwz Rv (by simp [setL])); clear hwz)
  refine hK.out _ _ ?hSr89_16_15 (fun hHeld2 => ?_)
  case hSr89_16_15 => (exact ⟨c1, c2, c3, y0, y1, d2, d3, d4, d5, d6⟩)
  clear hK K hHeld
  have hHeld := hHeld2
  clear hHeld2
  rename World => wq
  (try simp only [Act.put, nz1, nz2, nz3])
  refine wpAnyH_done (by kernel_rfl) ?_ _
  clear hHeld
  rename World => w2
  have lc := Rc.lt
  have ld := Rd.lt
  have ly := Ry.lt
  have lr := Rr.lt
  have lv := Rv.lt
  (try clear c0 c1 c2 c3 c4 c5 c6); obtain ⟨c0, c1, c2, c3, c4, c5, c6⟩ := row7 Rc
  (try clear d0 d1 d2 d3 d4 d5 d6 d7 d8 d9 d10 d11); obtain ⟨d0, d1, d2, d3, d4, d5, d6, d7, d8, d9, d10, d11⟩ := row12 Rd
  (try clear y0 y1); obtain ⟨y0, y1⟩ := row2 Ry
  (try clear r0 r1 r2 r3 r4 r5 r6 r7 r8 r9 r10 r11); obtain ⟨r0, r1, r2, r3, r4, r5, r6, r7, r8, r9, r10, r11⟩ := row12 Rr
  (try clear v0 v1 v2 v3 v4 v5 v6 v7 v8 v9 v10 v11); obtain ⟨v0, v1, v2, v3, v4, v5, v6, v7, v8, v9, v10, v11⟩ := row12 Rv
  go_wp2_with fail
  rw [rounds_succ]
  go_wp2_with fail
  refine wp_region_held_drew (S := (fun w' => w'.cell? ⟨w.heap.size, 4, none⟩ = some (Value.int .i64 s.d1.kind) ∧ w'.cell? ⟨w.heap.size, 5, none⟩ = some (Value.int .i64 s.d1.side) ∧ w'.cell? ⟨w.heap.size, 6, none⟩ = some (Value.int .i64 s.d1.step) ∧ w'.cell? ⟨w.heap.size + 1 + 1, 0, none⟩ = some (Value.int .i64 b0) ∧ w'.cell? ⟨w.heap.size + 1 + 1, 1, none⟩ = some (Value.int .i64 b1) ∧ w'.cell? ⟨w.heap.size + 1, 7, none⟩ = some (Value.int .i64 p.k1.kind) ∧ w'.cell? ⟨w.heap.size + 1, 8, none⟩ = some (Value.int .i64 p.k1.len) ∧ w'.cell? ⟨w.heap.size + 1, 9, none⟩ = some (Value.int .u64 p.k1.h) ∧ w'.cell? ⟨w.heap.size + 1, 10, none⟩ = some (Value.int .u64 p.k1.l) ∧ w'.cell? ⟨w.heap.size + 1, 11, none⟩ = some (Value.string ⟨p.k1.path.toArray⟩))) (by kernel_rfl) ?hSr90_ (fun hHeld => ?_)
  case hSr90_ => (exact ⟨c4, c5, c6, y0, y1, d7, d8, d9, d10, d11⟩)
  (clear c0 c1 c2 c3 c4 c5 c6 d0 d1 d2 d3 d4 d5 d6 d7 d8 d9 d10 d11 y0 y1 r0 r1 r2 r3 r4 r5 r6 r7 r8 r9 r10 r11 v0 v1 v2 v3 v4 v5 v6 v7 v8 v9 v10 v11; (replace Rc := Rc.drew); (replace Rd := Rd.drew); (replace Ry := Ry.drew); (replace Rr := Rr.drew); (replace Rv := Rv.drew); (replace hb0 := hb0.drew); (generalize World.drew w2 = wq at *))
  refine tk 0 ⟨some 15, .move (.tmp 8), 3, _, _, _⟩ hHeld ?_
  (try simp only [Act.put, nz1, nz2, nz3])
  refine tk 1 ⟨some 16, .move (.tmp 8), 3, _, _, _⟩ hHeld ?_
  (try simp only [Act.put, nz1, nz2, nz3])
  refine tk 2 ⟨some 17, .fieldAddr 26 (.tmp 3) 1, 0, _, _, _⟩ hHeld ?_
  (try simp only [Act.put, nz1, nz2, nz3])
  refine tk 3 ⟨some 18, .indexAddr 24 (.tmp 17) (.tmp 16), 0, _, _, _⟩ hHeld ?_
  (try simp only [Act.put, nz1, nz2, nz3])
  refine tk 4 ⟨some 19, .load 23 (.tmp 18), 23, _, _, _⟩ hHeld ?_
  (try simp only [Act.put, nz1, nz2, nz3])
  refine tk 5 ⟨some 20, .move (.tmp 8), 3, _, _, _⟩ hHeld ?_
  (try simp only [Act.put, nz1, nz2, nz3])
  refine tk 6 ⟨some 21, .indexAddr 27 (.tmp 5) (.tmp 20), 0, _, _, _⟩ hHeld ?_
  (try simp only [Act.put, nz1, nz2, nz3])
  refine tk 7 ⟨some 22, .load 3 (.tmp 21), 3, _, _, _⟩ hHeld ?_
  (try simp only [Act.put, nz1, nz2, nz3])
  refine tk 8 ⟨some 23, .move (.tmp 8), 3, _, _, _⟩ hHeld ?_
  (try simp only [Act.put, nz1, nz2, nz3])
  refine tk 9 ⟨some 24, .fieldAddr 33 (.tmp 4) 1, 0, _, _, _⟩ hHeld ?_
  (try simp only [Act.put, nz1, nz2, nz3])
  refine tk 10 ⟨some 25, .indexAddr 31 (.tmp 24) (.tmp 23), 0, _, _, _⟩ hHeld ?_
  (try simp only [Act.put, nz1, nz2, nz3])
  refine tk 11 ⟨some 26, .load 30 (.tmp 25), 30, _, _, _⟩ hHeld ?_
  (try simp only [Act.put, nz1, nz2, nz3])
  refine tk 13 ⟨some 28, .fieldAddr 33 (.tmp 7) 1, 0, _, _, _⟩ hHeld ?_
  (try simp only [Act.put, nz1, nz2, nz3])
  refine wpAnyH_ready (rs := [12]) (by kernel_rfl) (by simp) ?_
  refine AllReadyH.cons (o := ⟨some 27, .call { callee := .value (.func 62), args := #[.tmp 19, .tmp 22, .tmp 26], argTypes := #[23, 3, 30] }, 30, _, _, _⟩) rfl (fun K hK => ?_) AllReadyH.nil
  (go_simp; (refine (HC1 _).mono ?_); (rintro e wz ⟨rfl, hb⟩); (replace Rc := Rc.later hb); (replace Rd := Rd.later hb); (replace Ry := Ry.later hb); (replace Rr := Rr.later hb); (replace Rv := Rv.later hb); (replace hb0 := below_step hb0 hb); go_wp2_with fail)
  refine hK.out _ _ ?hSr90_14_12 (fun hHeld2 => ?_)
  case hSr90_14_12 => (obtain ⟨c4, c5, c6, y0, y1, d7, d8, d9, d10, d11⟩ := hHeld; exact ⟨cell_later hb c4, cell_later hb c5, cell_later hb c6, cell_later hb y0, cell_later hb y1, cell_later hb d7, cell_later hb d8, cell_later hb d9, cell_later hb d10, cell_later hb d11⟩)
  clear hK K hHeld
  have hHeld := hHeld2
  clear hHeld2
  rename World => wq
  (try simp only [Act.put, nz1, nz2, nz3])
  refine tk 14 ⟨some 29, .indexAddr 31 (.tmp 28) (.tmp 15), 0, _, _, _⟩ hHeld ?_
  (try simp only [Act.put, nz1, nz2, nz3])
  refine wpAnyH_ready (rs := [15]) (by kernel_rfl) (by simp) ?_
  refine AllReadyH.cons (o := ⟨none, .store 30 (.tmp 29) (.tmp 27), 0, _, _, _⟩) rfl (fun K hK => ?_) AllReadyH.nil
  ((rw [if_pos (by rfl)]); (with_reducible refine pst 30 (.tmp 29) (.tmp 27) ?_ (w.heap.size + 1 + 1 + 1 + 1) 7 #[.int .i64 u1.kind, .int .i64 u1.len, .int .u64 u1.h, .int .u64 u1.l, .string ⟨u1.path.toArray⟩] ?_ ?_ ?_ ?_ ?_ ?_); rfl; rfl; rfl; (exact Row.thereAt Rv 7 _ (by simp)); (exact infoKe); (simp [Value.oneCell']); (rintro wz hwz); (have hHq := hHeld); (obtain ⟨c4, c5, c6, y0, y1, d7, d8, d9, d10, d11⟩ := hHq); (replace c4 := pcf hwz c4); (replace c5 := pcf hwz c5); (replace c6 := pcf hwz c6); (replace y0 := pcf hwz y0); (replace y1 := pcf hwz y1); (replace d7 := pcf hwz d7); (replace d8 := pcf hwz d8); (replace d9 := pcf hwz d9); (replace d10 := pcf hwz d10); (replace d11 := pcf hwz d11); (replace Rc := prf hwz Rc); (replace Rd := prf hwz Rd); (replace Ry := prf hwz Ry); (replace Rr := prf hwz Rr); (replace hb0 := pbl hwz hb0); (replace Rv : Row wz (w.heap.size + 1 + 1 + 1 + 1) #[.int .i64 b0, .int .i64 b1, .int .i64 u0.kind, .int .i64 u0.len, .int .u64 u0.h, .int .u64 u0.l, .string ⟨u0.path.toArray⟩, .int .i64 u1.kind, .int .i64 u1.len, .int .u64 u1.h, .int .u64 u1.l, .string ⟨u1.path.toArray⟩] 33 := psm hwz Rv (by simp [setL])); clear hwz)
  refine hK.out _ _ ?hSr90_16_15 (fun hHeld2 => ?_)
  case hSr90_16_15 => (exact ⟨c4, c5, c6, y0, y1, d7, d8, d9, d10, d11⟩)
  clear hK K hHeld
  have hHeld := hHeld2
  clear hHeld2
  rename World => wq
  (try simp only [Act.put, nz1, nz2, nz3])
  refine wpAnyH_done (by kernel_rfl) ?_ _
  clear hHeld
  rename World => w3
  have lc := Rc.lt
  have ld := Rd.lt
  have ly := Ry.lt
  have lr := Rr.lt
  have lv := Rv.lt
  (try clear c0 c1 c2 c3 c4 c5 c6); obtain ⟨c0, c1, c2, c3, c4, c5, c6⟩ := row7 Rc
  (try clear d0 d1 d2 d3 d4 d5 d6 d7 d8 d9 d10 d11); obtain ⟨d0, d1, d2, d3, d4, d5, d6, d7, d8, d9, d10, d11⟩ := row12 Rd
  (try clear y0 y1); obtain ⟨y0, y1⟩ := row2 Ry
  (try clear r0 r1 r2 r3 r4 r5 r6 r7 r8 r9 r10 r11); obtain ⟨r0, r1, r2, r3, r4, r5, r6, r7, r8, r9, r10, r11⟩ := row12 Rr
  (try clear v0 v1 v2 v3 v4 v5 v6 v7 v8 v9 v10 v11); obtain ⟨v0, v1, v2, v3, v4, v5, v6, v7, v8, v9, v10, v11⟩ := row12 Rv
  go_wp2_with fail
  rw [rounds_succ]
  go_wp2_with fail
  refine (HO _).mono ?_
  rintro e w4 ⟨rfl, hb⟩
  replace Rc := Rc.later hb
  replace Rd := Rd.later hb
  replace Ry := Ry.later hb
  replace Rr := Rr.later hb
  replace Rv := Rv.later hb
  replace hb0 := below_step hb0 hb
  clear hb
  have lc := Rc.lt
  have ld := Rd.lt
  have ly := Ry.lt
  have lr := Rr.lt
  have lv := Rv.lt
  (try clear c0 c1 c2 c3 c4 c5 c6); obtain ⟨c0, c1, c2, c3, c4, c5, c6⟩ := row7 Rc
  (try clear d0 d1 d2 d3 d4 d5 d6 d7 d8 d9 d10 d11); obtain ⟨d0, d1, d2, d3, d4, d5, d6, d7, d8, d9, d10, d11⟩ := row12 Rd
  (try clear y0 y1); obtain ⟨y0, y1⟩ := row2 Ry
  (try clear r0 r1 r2 r3 r4 r5 r6 r7 r8 r9 r10 r11); obtain ⟨r0, r1, r2, r3, r4, r5, r6, r7, r8, r9, r10, r11⟩ := row12 Rr
  (try clear v0 v1 v2 v3 v4 v5 v6 v7 v8 v9 v10 v11); obtain ⟨v0, v1, v2, v3, v4, v5, v6, v7, v8, v9, v10, v11⟩ := row12 Rv
  have rf0 := Rr.frozen 0
  have rf1 := Rr.frozen 1
  have rf2 := Rr.frozen 2
  have rf3 := Rr.frozen 3
  have rf4 := Rr.frozen 4
  have rf5 := Rr.frozen 5
  have rf6 := Rr.frozen 6
  have rf7 := Rr.frozen 7
  have rf8 := Rr.frozen 8
  have rf9 := Rr.frozen 9
  have rf10 := Rr.frozen 10
  have rf11 := Rr.frozen 11
  go_wp2
  obtain ⟨w5, hwn⟩ : ∃ wz, wz = (World.setCell (World.setCell (World.setCell (World.setCell (World.setCell (World.setCell (World.setCell (World.setCell (World.setCell (World.setCell (World.setCell (World.setCell w4 ⟨(w.heap.size + 1 + 1 + 1), 0, none⟩ (.int .i64 b0)) ⟨(w.heap.size + 1 + 1 + 1), 1, none⟩ (.int .i64 b1)) ⟨(w.heap.size + 1 + 1 + 1), 2, none⟩ (.int .i64 u0.kind)) ⟨(w.heap.size + 1 + 1 + 1), 3, none⟩ (.int .i64 u0.len)) ⟨(w.heap.size + 1 + 1 + 1), 4, none⟩ (.int .u64 u0.h)) ⟨(w.heap.size + 1 + 1 + 1), 5, none⟩ (.int .u64 u0.l)) ⟨(w.heap.size + 1 + 1 + 1), 6, none⟩ (.string ⟨u0.path.toArray⟩)) ⟨(w.heap.size + 1 + 1 + 1), 7, none⟩ (.int .i64 u1.kind)) ⟨(w.heap.size + 1 + 1 + 1), 8, none⟩ (.int .i64 u1.len)) ⟨(w.heap.size + 1 + 1 + 1), 9, none⟩ (.int .u64 u1.h)) ⟨(w.heap.size + 1 + 1 + 1), 10, none⟩ (.int .u64 u1.l)) ⟨(w.heap.size + 1 + 1 + 1), 11, none⟩ (.string ⟨u1.path.toArray⟩)) := ⟨_, rfl⟩
  rw [← hwn]
  replace hwn : w5 = World.setCells w4 (w.heap.size + 1 + 1 + 1) 0 [.int .i64 b0, .int .i64 b1, .int .i64 u0.kind, .int .i64 u0.len, .int .u64 u0.h, .int .u64 u0.l, .string ⟨u0.path.toArray⟩, .int .i64 u1.kind, .int .i64 u1.len, .int .u64 u1.h, .int .u64 u1.l, .string ⟨u1.path.toArray⟩] := hwn
  replace Rr : Row w5 (w.heap.size + 1 + 1 + 1) #[.int .i64 b0, .int .i64 b1, .int .i64 u0.kind, .int .i64 u0.len, .int .u64 u0.h, .int .u64 u0.l, .string ⟨u0.path.toArray⟩, .int .i64 u1.kind, .int .i64 u1.len, .int .u64 u1.h, .int .u64 u1.l, .string ⟨u1.path.toArray⟩] 33 := psm hwn Rr (by simp [setL])
  replace Rc := prf hwn Rc
  replace Rd := prf hwn Rd
  replace Ry := prf hwn Ry
  replace Rv := prf hwn Rv
  replace hb0 := pbl hwn hb0
  clear hwn c0 c1 c2 c3 c4 c5 c6 d0 d1 d2 d3 d4 d5 d6 d7 d8 d9 d10 d11 y0 y1 r0 r1 r2 r3 r4 r5 r6 r7 r8 r9 r10 r11 v0 v1 v2 v3 v4 v5 v6 v7 v8 v9 v10 v11
  (try clear rf0 rf1 rf2 rf3 rf4 rf5 rf6 rf7 rf8 rf9 rf10 rf11)
  (try clear c0 c1 c2 c3 c4 c5 c6); obtain ⟨c0, c1, c2, c3, c4, c5, c6⟩ := row7 Rc
  (try clear d0 d1 d2 d3 d4 d5 d6 d7 d8 d9 d10 d11); obtain ⟨d0, d1, d2, d3, d4, d5, d6, d7, d8, d9, d10, d11⟩ := row12 Rd
  (try clear y0 y1); obtain ⟨y0, y1⟩ := row2 Ry
  (try clear r0 r1 r2 r3 r4 r5 r6 r7 r8 r9 r10 r11); obtain ⟨r0, r1, r2, r3, r4, r5, r6, r7, r8, r9, r10, r11⟩ := row12 Rr
  (try clear v0 v1 v2 v3 v4 v5 v6 v7 v8 v9 v10 v11); obtain ⟨v0, v1, v2, v3, v4, v5, v6, v7, v8, v9, v10, v11⟩ := row12 Rv
  refine bodyPost_ret (v := .agg #[.int .i64 b0, .int .i64 b1, .int .i64 u0.kind, .int .i64 u0.len, .int .u64 u0.h, .int .u64 u0.l, .string ⟨u0.path.toArray⟩, .int .i64 u1.kind, .int .i64 u1.len, .int .u64 u1.h, .int .u64 u1.l, .string ⟨u1.path.toArray⟩]) (by simp [results, Try.results27, go_sem, r0, r1, r2, r3, r4, r5, r6, r7, r8, r9, r10, r11]) rfl ⟨rfl, hb0⟩
theorem rup_t (s : Sp) (p : Px) (ok : p.ok) (b0 b1 : Int) (h0 : -9223372036854775808 ≤ b0) (h1 : b0 ≤ 9223372036854775807) (h2 : -9223372036854775808 ≤ b1) (h3 : b1 ≤ 9223372036854775807) (w : World) : Calls Try.prog 27 #[sv s, pv p, .agg #[.int .i64 b0, .int .i64 b1]] w fun e w' => e = .returned (pv (upP s p b0 b1)) ∧ Below w.heap.size w w' := by
  have HC0 := r8cut_t s.d0 b0 p.k0 ok.k0
  have HC1 := r8cut_t s.d1 b1 p.k1 ok.k1
  have HO := rover9_t s (upX s p b0 b1) p ⟨cutD_ok ok.k0 _ _, cutD_ok ok.k1 _ _, h0, h1, h2, h3⟩ ok
  have hu := @up_on s p b0 b1
  have hn : upB s p b0 b1 = false → upP s p b0 b1 = pz ∧ overP s (upX s p b0 b1) p = false := fun h => by
    refine ⟨by unfold upP; rw [h]; rfl, ?_⟩
    cases ho : overP s (upX s p b0 b1) p with
    | false => rfl
    | true =>
      obtain ⟨r1, r2, ⟨r3, _⟩, r4, _⟩ := (overP_iff _ _ _).1 ho
      obtain ⟨_, o0, o1⟩ := (right_iff _ _).1 r1
      have q0 := onE_range o0
      have q1 := onE_range o1
      have : upB s p b0 b1 = true := by
        unfold upB; simp only [Bool.and_eq_true, decide_eq_true_eq]
        exact ⟨r2, r3, q0.2, r4, q1.2⟩
      rw [h] at this; cases this
  cases hb : upB s p b0 b1 with
  | false =>
    obtain ⟨e1, e2⟩ := hn hb
    rw [e2] at HO
    rw [e1]
    exact rup_false s p b0 b1 _ _ HC0 HC1 HO w
  | true =>
    obtain ⟨e1, e2, _⟩ := hu hb
    rw [e2] at HO
    rw [e1]
    exact rup_true s p b0 b1 _ _ HC0 HC1 HO w
end Go.Proofs.Ytbekocknfpekoaa
