/- P7, P8: what the theorem needs of these texts. No conditions beyond those that are written. -/
import Derived.Test.YtbekocknfpekoaaCP6
set_option maxHeartbeats 16000000
namespace Go.Proofs.Ytbekocknfpekoaa
set_option linter.unusedVariables false
set_option linter.unusedSimpArgs false
open Go.RowKit
theorem px_lower_ok {p q : Px} (op : p.ok) (oq : q.ok) : (crossX p q).ok := by
  unfold crossX
  refine ⟨?_, ?_, ?_, ?_, ?_, ?_⟩ <;> dsimp only <;> split <;> first | exact op.k0 | exact oq.k0 | exact op.k1 | exact oq.k1 | exact op.a00 | exact oq.a00 | exact op.a01 | exact oq.a01 | exact op.a10 | exact oq.a10 | exact op.a11 | exact oq.a11
theorem cross9_t (s : Sp) (p q : Px) (op : p.ok) (oq : q.ok) (w : World) : Calls Try.prog 30 #[sv s, pv p, pv q] w fun e w' => e = .returned (.tuple #[pv (crossP s p q), .bool (crossB s p q)]) ∧ Below w.heap.size w w' := by
  have ox := px_lower_ok op oq
  have HO1 := over9_t s p (crossX p q) op ox
  have HO2 := over9_t s q (crossX p q) oq ox
  unfold crossP crossB
  generalize overP s p (crossX p q) = o1 at *
  generalize overP s q (crossX p q) = o2 at *
  clear ox
  by_cases g0 : q.a0 < p.a0
  · by_cases g1 : q.a1 < p.a1
    · have e : crossX p q = ⟨q.a0, q.a1, q.k0, q.k1⟩ := by unfold crossX; rw [if_pos g0, if_pos g1, if_pos g0, if_pos g1]
      rw [e] at HO1 HO2 ⊢; exact cross_11 s p q o1 o2 g0 g1 HO1 HO2 w
    · have e : crossX p q = ⟨q.a0, p.a1, q.k0, p.k1⟩ := by unfold crossX; rw [if_pos g0, if_neg g1, if_pos g0, if_neg g1]
      rw [e] at HO1 HO2 ⊢; exact cross_10 s p q o1 o2 g0 g1 HO1 HO2 w
  · by_cases g1 : q.a1 < p.a1
    · have e : crossX p q = ⟨p.a0, q.a1, p.k0, q.k1⟩ := by unfold crossX; rw [if_neg g0, if_pos g1, if_neg g0, if_pos g1]
      rw [e] at HO1 HO2 ⊢; exact cross_01 s p q o1 o2 g0 g1 HO1 HO2 w
    · have e : crossX p q = ⟨p.a0, p.a1, p.k0, p.k1⟩ := by unfold crossX; rw [if_neg g0, if_neg g1, if_neg g0, if_neg g1]
      rw [e] at HO1 HO2 ⊢; exact cross_00 s p q o1 o2 g0 g1 HO1 HO2 w
def topP (s : Sp) : Px := if soundS s = true then ⟨depthD s.d0, depthD s.d1, rootK s.d0.kind, rootK s.d1.kind⟩ else pz
set_option maxRecDepth 100000 in
theorem top_go (s : Sp) (b : Bool) (D0 D1 : Int) (u0 u1 : Ke) (HS : ∀ w, Calls Try.prog 18 #[sv s] w fun e w' => e = .returned (.bool b) ∧ Below w.heap.size w w')
    (HD0 : ∀ w, Calls Try.prog 55 #[dv s.d0] w fun e w' => e = .returned (.int .i64 D0) ∧ Below w.heap.size w w') (HD1 : ∀ w, Calls Try.prog 55 #[dv s.d1] w fun e w' => e = .returned (.int .i64 D1) ∧ Below w.heap.size w w')
    (HK0 : ∀ w, Calls Try.prog 56 #[.int .i64 s.d0.kind] w fun e w' => e = .returned (kv u0) ∧ Below w.heap.size w w') (HK1 : ∀ w, Calls Try.prog 56 #[.int .i64 s.d1.kind] w fun e w' => e = .returned (kv u1) ∧ Below w.heap.size w w') (w : World) :
    Calls Try.prog 22 #[sv s] w fun e w' => e = .returned (pv (if b = true then ⟨D0, D1, u0, u1⟩ else pz)) ∧ Below w.heap.size w w' := by
  have i0 := ixd0
  have i1 := ixd1
  unfold pz kz
  unfold pv sv dv kv at *
  (try dsimp only at *)
  obtain ⟨Rc, Rr, hb0⟩ := two_rows w #[.int .i64 s.n, .int .i64 s.d0.kind, .int .i64 s.d0.side, .int .i64 s.d0.step, .int .i64 s.d1.kind, .int .i64 s.d1.side, .int .i64 s.d1.step] #[.int .i64 0, .int .i64 0, .int .i64 0, .int .i64 0, .int .u64 0, .int .u64 0, .string ⟨#[]⟩, .int .i64 0, .int .i64 0, .int .u64 0, .int .u64 0, .string ⟨#[]⟩] 26 33
  (try clear c0 c1 c2 c3 c4 c5 c6); obtain ⟨c0, c1, c2, c3, c4, c5, c6⟩ := row7 Rc
  (try clear r0 r1 r2 r3 r4 r5 r6 r7 r8 r9 r10 r11); obtain ⟨r0, r1, r2, r3, r4, r5, r6, r7, r8, r9, r10, r11⟩ := row12 Rr
  go_enter Try.func22, Try.ntmps22
  cases b with
  | false =>
    go_wp2_with fail
    refine (HS _).mono ?_
    rintro e w1 ⟨rfl, hb⟩
    replace Rc := (Rc.alloc _).later hb
    replace Rr := (Rr.alloc _).later hb
    have Rp := Row.later (Row.new _ _ _) hb
    simp only [World.size_alloc] at Rp
    replace hb0 := below_step (hb0.alloc hb0.size _) hb
    clear hb
    have lc := Rc.lt
    have lr := Rr.lt
    have lp := Rp.lt
    (try clear c0 c1 c2 c3 c4 c5 c6); obtain ⟨c0, c1, c2, c3, c4, c5, c6⟩ := row7 Rc
    (try clear r0 r1 r2 r3 r4 r5 r6 r7 r8 r9 r10 r11); obtain ⟨r0, r1, r2, r3, r4, r5, r6, r7, r8, r9, r10, r11⟩ := row12 Rr
    (try clear p0 p1 p2 p3 p4 p5 p6 p7 p8 p9 p10 p11); obtain ⟨p0, p1, p2, p3, p4, p5, p6, p7, p8, p9, p10, p11⟩ := row12 Rp
    have rf0 := Rr.frozen 0
    have rf1 := Rr.frozen 1
    have rf2 := Rr.frozen 2
    have rf3 := Rr.frozen 3
    have rf4 := Rr.frozen 4
    have rf5 := Rr.frozen 5
    have rf6 := Rr.frozen 6
    have rf7 := Rr.frozen 7
    have rf8 := Rr.frozen 8
    have rf9 := Rr.frozen 9
    have rf10 := Rr.frozen 10
    have rf11 := Rr.frozen 11
    go_wp2
    obtain ⟨w2, hwn⟩ : ∃ wz, wz = (World.setCell (World.setCell (World.setCell (World.setCell (World.setCell (World.setCell (World.setCell (World.setCell (World.setCell (World.setCell (World.setCell (World.setCell w1 ⟨(w.heap.size + 1), 0, none⟩ (.int .i64 0)) ⟨(w.heap.size + 1), 1, none⟩ (.int .i64 0)) ⟨(w.heap.size + 1), 2, none⟩ (.int .i64 0)) ⟨(w.heap.size + 1), 3, none⟩ (.int .i64 0)) ⟨(w.heap.size + 1), 4, none⟩ (.int .u64 0)) ⟨(w.heap.size + 1), 5, none⟩ (.int .u64 0)) ⟨(w.heap.size + 1), 6, none⟩ (.string ⟨#[]⟩)) ⟨(w.heap.size + 1), 7, none⟩ (.int .i64 0)) ⟨(w.heap.size + 1), 8, none⟩ (.int .i64 0)) ⟨(w.heap.size + 1), 9, none⟩ (.int .u64 0)) ⟨(w.heap.size + 1), 10, none⟩ (.int .u64 0)) ⟨(w.heap.size + 1), 11, none⟩ (.string ⟨#[]⟩)) := ⟨_, rfl⟩
    rw [← hwn]
    replace hwn : w2 = World.setCells w1 (w.heap.size + 1) 0 [.int .i64 0, .int .i64 0, .int .i64 0, .int .i64 0, .int .u64 0, .int .u64 0, .string ⟨#[]⟩, .int .i64 0, .int .i64 0, .int .u64 0, .int .u64 0, .string ⟨#[]⟩] := hwn
    replace Rr : Row w2 (w.heap.size + 1) #[.int .i64 0, .int .i64 0, .int .i64 0, .int .i64 0, .int .u64 0, .int .u64 0, .string ⟨#[]⟩, .int .i64 0, .int .i64 0, .int .u64 0, .int .u64 0, .string ⟨#[]⟩] 33 := psm hwn Rr (by simp [setL])
    replace Rc := prf hwn Rc
    replace Rp := prf hwn Rp
    replace hb0 := pbl hwn hb0
    clear hwn c0 c1 c2 c3 c4 c5 c6 r0 r1 r2 r3 r4 r5 r6 r7 r8 r9 r10 r11 p0 p1 p2 p3 p4 p5 p6 p7 p8 p9 p10 p11
    (try clear rf0 rf1 rf2 rf3 rf4 rf5 rf6 rf7 rf8 rf9 rf10 rf11)
    (try clear c0 c1 c2 c3 c4 c5 c6); obtain ⟨c0, c1, c2, c3, c4, c5, c6⟩ := row7 Rc
    (try clear r0 r1 r2 r3 r4 r5 r6 r7 r8 r9 r10 r11); obtain ⟨r0, r1, r2, r3, r4, r5, r6, r7, r8, r9, r10, r11⟩ := row12 Rr
    (try clear p0 p1 p2 p3 p4 p5 p6 p7 p8 p9 p10 p11); obtain ⟨p0, p1, p2, p3, p4, p5, p6, p7, p8, p9, p10, p11⟩ := row12 Rp
    refine bodyPost_ret (v := .agg #[.int .i64 0, .int .i64 0, .int .i64 0, .int .i64 0, .int .u64 0, .int .u64 0, .string ⟨#[]⟩, .int .i64 0, .int .i64 0, .int .u64 0, .int .u64 0, .string ⟨#[]⟩]) (by simp [results, Try.results22, go_sem, r0, r1, r2, r3, r4, r5, r6, r7, r8, r9, r10, r11]) rfl ⟨rfl, hb0⟩
  | true =>
    go_wp2_with fail
    refine (HS _).mono ?_
    rintro e w1 ⟨rfl, hb⟩
    replace Rc := (Rc.alloc _).later hb
    replace Rr := (Rr.alloc _).later hb
    have Rp := Row.later (Row.new _ _ _) hb
    simp only [World.size_alloc] at Rp
    replace hb0 := below_step (hb0.alloc hb0.size _) hb
    clear hb
    have lc := Rc.lt
    have lr := Rr.lt
    have lp := Rp.lt
    (try clear c0 c1 c2 c3 c4 c5 c6); obtain ⟨c0, c1, c2, c3, c4, c5, c6⟩ := row7 Rc
    (try clear r0 r1 r2 r3 r4 r5 r6 r7 r8 r9 r10 r11); obtain ⟨r0, r1, r2, r3, r4, r5, r6, r7, r8, r9, r10, r11⟩ := row12 Rr
    (try clear p0 p1 p2 p3 p4 p5 p6 p7 p8 p9 p10 p11); obtain ⟨p0, p1, p2, p3, p4, p5, p6, p7, p8, p9, p10, p11⟩ := row12 Rp
    go_wp2_with fail
    refine wp_loop_rounds 3 ?_
    rw [rounds_succ]
    go_wp2_with fail
    replace Rc := Rc.alloc (.cells #[Value.int .i64 s.d0.kind, Value.int .i64 s.d0.side, Value.int .i64 s.d0.step] 23)
    replace Rr := Rr.alloc (.cells #[Value.int .i64 s.d0.kind, Value.int .i64 s.d0.side, Value.int .i64 s.d0.step] 23)
    replace Rp := Rp.alloc (.cells #[Value.int .i64 s.d0.kind, Value.int .i64 s.d0.side, Value.int .i64 s.d0.step] 23)
    have Rf0x := Row.new w1 #[Value.int .i64 s.d0.kind, Value.int .i64 s.d0.side, Value.int .i64 s.d0.step] 23
    have mf0x := hb0.size
    replace hb0 := hb0.alloc hb0.size (.cells #[Value.int .i64 s.d0.kind, Value.int .i64 s.d0.side, Value.int .i64 s.d0.step] 23)
    (try clear c0 c1 c2 c3 c4 c5 c6); obtain ⟨c0, c1, c2, c3, c4, c5, c6⟩ := row7 Rc
    (try clear r0 r1 r2 r3 r4 r5 r6 r7 r8 r9 r10 r11); obtain ⟨r0, r1, r2, r3, r4, r5, r6, r7, r8, r9, r10, r11⟩ := row12 Rr
    (try clear p0 p1 p2 p3 p4 p5 p6 p7 p8 p9 p10 p11); obtain ⟨p0, p1, p2, p3, p4, p5, p6, p7, p8, p9, p10, p11⟩ := row12 Rp
    (try clear f0x0 f0x1 f0x2); obtain ⟨f0x0, f0x1, f0x2⟩ := row3 Rf0x
    refine wp_region_held_drew (S := (fun w' => w'.cell? ⟨w1.heap.size, 0, none⟩ = some (Value.int .i64 s.d0.kind) ∧ w'.cell? ⟨w1.heap.size, 1, none⟩ = some (Value.int .i64 s.d0.side) ∧ w'.cell? ⟨w1.heap.size, 2, none⟩ = some (Value.int .i64 s.d0.step))) (by kernel_rfl) ?hSr50_ (fun hHeld => ?_)
    case hSr50_ => (exact ⟨f0x0, f0x1, f0x2⟩)
    (clear c0 c1 c2 c3 c4 c5 c6 r0 r1 r2 r3 r4 r5 r6 r7 r8 r9 r10 r11 p0 p1 p2 p3 p4 p5 p6 p7 p8 p9 p10 p11 f0x0 f0x1 f0x2; (replace Rc := Rc.drew); (replace Rr := Rr.drew); (replace Rp := Rp.drew); (replace Rf0x := Rf0x.drew); (replace hb0 := hb0.drew); (generalize World.drew (World.alloc w1 (.cells #[Value.int .i64 s.d0.kind, Value.int .i64 s.d0.side, Value.int .i64 s.d0.step] 23)) = wq at *))
    refine tk 0 ⟨some 16, .move (.tmp 4), 3, _, _, _⟩ hHeld ?_
    (try simp only [Act.put, nz1, nz2, nz3])
    refine tk 1 ⟨some 17, .move (.tmp 4), 3, _, _, _⟩ hHeld ?_
    (try simp only [Act.put, nz1, nz2, nz3])
    refine tk 2 ⟨some 18, .load 23 (.tmp 5), 23, _, _, _⟩ hHeld ?_
    (try simp only [Act.put, nz1, nz2, nz3])
    refine tk 4 ⟨some 20, .fieldAddr 23 (.tmp 5) 0, 0, _, _, _⟩ hHeld ?_
    (try simp only [Act.put, nz1, nz2, nz3])
    refine tk 5 ⟨some 21, .load 3 (.tmp 20), 3, _, _, _⟩ hHeld ?_
    (try simp only [Act.put, nz1, nz2, nz3])
    refine tk 7 ⟨some 23, .fieldAddr 33 (.tmp 3) 0, 0, _, _, _⟩ hHeld ?_
    (try simp only [Act.put, nz1, nz2, nz3])
    refine tk 10 ⟨some 25, .fieldAddr 33 (.tmp 3) 1, 0, _, _, _⟩ hHeld ?_
    (try simp only [Act.put, nz1, nz2, nz3])
    refine wpAnyH_ready (rs := [3]) (by kernel_rfl) (by simp) ?_
    refine AllReadyH.cons (o := ⟨some 19, .call { callee := .value (.func 55), args := #[.tmp 18], argTypes := #[23] }, 3, _, _, _⟩) rfl (fun K hK => ?_) AllReadyH.nil
    (go_simp; (refine (HD0 _).mono ?_); (rintro e wz ⟨rfl, hb⟩); (replace Rc := Rc.later hb); (replace Rr := Rr.later hb); (replace Rp := Rp.later hb); (replace Rf0x := Rf0x.later hb); (replace hb0 := below_step hb0 hb); go_wp2_with fail)
    refine hK.out _ _ ?hSr50_8_3 (fun hHeld2 => ?_)
    case hSr50_8_3 => (obtain ⟨f0x0, f0x1, f0x2⟩ := hHeld; exact ⟨cell_later hb f0x0, cell_later hb f0x1, cell_later hb f0x2⟩)
    clear hK K hHeld
    have hHeld := hHeld2
    clear hHeld2
    rename World => wq
    (try simp only [Act.put, nz1, nz2, nz3])
    refine tk 8 ⟨some 24, .indexAddr 27 (.tmp 23) (.tmp 16), 0, _, _, _⟩ hHeld ?_
    (try simp only [Act.put, nz1, nz2, nz3])
    refine wpAnyH_ready (rs := [6]) (by kernel_rfl) (by simp) ?_
    refine AllReadyH.cons (o := ⟨some 22, .call { callee := .value (.func 56), args := #[.tmp 21], argTypes := #[3] }, 30, _, _, _⟩) rfl (fun K hK => ?_) AllReadyH.nil
    (go_simp; (refine (HK0 _).mono ?_); (rintro e wz ⟨rfl, hb⟩); (replace Rc := Rc.later hb); (replace Rr := Rr.later hb); (replace Rp := Rp.later hb); (replace Rf0x := Rf0x.later hb); (replace hb0 := below_step hb0 hb); go_wp2_with fail)
    refine hK.out _ _ ?hSr50_10_6 (fun hHeld2 => ?_)
    case hSr50_10_6 => (obtain ⟨f0x0, f0x1, f0x2⟩ := hHeld; exact ⟨cell_later hb f0x0, cell_later hb f0x1, cell_later hb f0x2⟩)
    clear hK K hHeld
    have hHeld := hHeld2
    clear hHeld2
    rename World => wq
    (try simp only [Act.put, nz1, nz2, nz3])
    refine wpAnyH_ready (rs := [9]) (by kernel_rfl) (by simp) ?_
    refine AllReadyH.cons (o := ⟨none, .store 3 (.tmp 24) (.tmp 19), 0, _, _, _⟩) rfl (fun K hK => ?_) AllReadyH.nil
    ((obtain ⟨zc0, zd1, zd2, zd3, zd4, zd5, zd6, zd7, zd8, zd9, zd10, zd11⟩ := row12 Rp); (have zf0 := Rp.frozen 0); (have hHq := hHeld); (obtain ⟨f0x0, f0x1, f0x2⟩ := hHq); go_simp; clear zc0 zf0 zd1 zd2 zd3 zd4 zd5 zd6 zd7 zd8 zd9 zd10 zd11; (replace f0x0 := pcell_far (g := (w.heap.size + 1 + 1)) (o := 0) (vs := [Value.int .i64 D0]) f0x0 (by first | omega | (simp; done) | (simp; omega) | omega)); (replace f0x1 := pcell_far (g := (w.heap.size + 1 + 1)) (o := 0) (vs := [Value.int .i64 D0]) f0x1 (by first | omega | (simp; done) | (simp; omega) | omega)); (replace f0x2 := pcell_far (g := (w.heap.size + 1 + 1)) (o := 0) (vs := [Value.int .i64 D0]) f0x2 (by first | omega | (simp; done) | (simp; omega) | omega)); (replace Rc := prow_far (g := (w.heap.size + 1 + 1)) (o := 0) (vs := [Value.int .i64 D0]) Rc (by first | omega | (simp; done) | (simp; omega) | omega)); (replace Rr := prow_far (g := (w.heap.size + 1 + 1)) (o := 0) (vs := [Value.int .i64 D0]) Rr (by first | omega | (simp; done) | (simp; omega) | omega)); (replace Rf0x := prow_far (g := (w.heap.size + 1 + 1)) (o := 0) (vs := [Value.int .i64 D0]) Rf0x (by first | omega | (simp; done) | (simp; omega) | omega)); (replace hb0 := below_setCells (g := (w.heap.size + 1 + 1)) (by omega) [Value.int .i64 D0] 0 _ hb0); (replace Rp : Row (World.setCells wq (w.heap.size + 1 + 1) 0 [Value.int .i64 D0]) (w.heap.size + 1 + 1) #[.int .i64 D0, .int .i64 0, .int .i64 0, .int .i64 0, .int .u64 0, .int .u64 0, .string ⟨#[]⟩, .int .i64 0, .int .i64 0, .int .u64 0, .int .u64 0, .string ⟨#[]⟩] 33 := Row.setMany Rp 0 [Value.int .i64 D0] (by simp [setL])); (simp only [World.setCells] at Rc Rr Rp Rf0x f0x0 f0x1 f0x2 hb0); generalize (World.setCell wq ⟨(w.heap.size + 1 + 1), 0, none⟩ (Value.int .i64 D0)) = wz at *)
    refine hK.out _ _ ?hSr50_11_9 (fun hHeld2 => ?_)
    case hSr50_11_9 => (exact ⟨f0x0, f0x1, f0x2⟩)
    clear hK K hHeld
    have hHeld := hHeld2
    clear hHeld2
    rename World => wq
    (try simp only [Act.put, nz1, nz2, nz3])
    refine tk 11 ⟨some 26, .indexAddr 31 (.tmp 25) (.tmp 17), 0, _, _, _⟩ hHeld ?_
    (try simp only [Act.put, nz1, nz2, nz3])
    refine wpAnyH_ready (rs := [12]) (by kernel_rfl) (by simp) ?_
    refine AllReadyH.cons (o := ⟨none, .store 30 (.tmp 26) (.tmp 22), 0, _, _, _⟩) rfl (fun K hK => ?_) AllReadyH.nil
    ((obtain ⟨zd0, zd1, zc0, zc1, zc2, zc3, zc4, zd7, zd8, zd9, zd10, zd11⟩ := row12 Rp); (have zf0 := Rp.frozen 2); (have zf1 := Rp.frozen 3); (have zf2 := Rp.frozen 4); (have zf3 := Rp.frozen 5); (have zf4 := Rp.frozen 6); (have hHq := hHeld); (obtain ⟨f0x0, f0x1, f0x2⟩ := hHq); go_simp; clear zc0 zf0 zc1 zf1 zc2 zf2 zc3 zf3 zc4 zf4 zd0 zd1 zd7 zd8 zd9 zd10 zd11; (replace f0x0 := pcell_far (g := (w.heap.size + 1 + 1)) (o := 2) (vs := [Value.int .i64 u0.kind, Value.int .i64 u0.len, Value.int .u64 u0.h, Value.int .u64 u0.l, Value.string ⟨u0.path.toArray⟩]) f0x0 (by first | omega | (simp; done) | (simp; omega) | omega)); (replace f0x1 := pcell_far (g := (w.heap.size + 1 + 1)) (o := 2) (vs := [Value.int .i64 u0.kind, Value.int .i64 u0.len, Value.int .u64 u0.h, Value.int .u64 u0.l, Value.string ⟨u0.path.toArray⟩]) f0x1 (by first | omega | (simp; done) | (simp; omega) | omega)); (replace f0x2 := pcell_far (g := (w.heap.size + 1 + 1)) (o := 2) (vs := [Value.int .i64 u0.kind, Value.int .i64 u0.len, Value.int .u64 u0.h, Value.int .u64 u0.l, Value.string ⟨u0.path.toArray⟩]) f0x2 (by first | omega | (simp; done) | (simp; omega) | omega)); (replace Rc := prow_far (g := (w.heap.size + 1 + 1)) (o := 2) (vs := [Value.int .i64 u0.kind, Value.int .i64 u0.len, Value.int .u64 u0.h, Value.int .u64 u0.l, Value.string ⟨u0.path.toArray⟩]) Rc (by first | omega | (simp; done) | (simp; omega) | omega)); (replace Rr := prow_far (g := (w.heap.size + 1 + 1)) (o := 2) (vs := [Value.int .i64 u0.kind, Value.int .i64 u0.len, Value.int .u64 u0.h, Value.int .u64 u0.l, Value.string ⟨u0.path.toArray⟩]) Rr (by first | omega | (simp; done) | (simp; omega) | omega)); (replace Rf0x := prow_far (g := (w.heap.size + 1 + 1)) (o := 2) (vs := [Value.int .i64 u0.kind, Value.int .i64 u0.len, Value.int .u64 u0.h, Value.int .u64 u0.l, Value.string ⟨u0.path.toArray⟩]) Rf0x (by first | omega | (simp; done) | (simp; omega) | omega)); (replace hb0 := below_setCells (g := (w.heap.size + 1 + 1)) (by omega) [Value.int .i64 u0.kind, Value.int .i64 u0.len, Value.int .u64 u0.h, Value.int .u64 u0.l, Value.string ⟨u0.path.toArray⟩] 2 _ hb0); (replace Rp : Row (World.setCells wq (w.heap.size + 1 + 1) 2 [Value.int .i64 u0.kind, Value.int .i64 u0.len, Value.int .u64 u0.h, Value.int .u64 u0.l, Value.string ⟨u0.path.toArray⟩]) (w.heap.size + 1 + 1) #[.int .i64 D0, .int .i64 0, .int .i64 u0.kind, .int .i64 u0.len, .int .u64 u0.h, .int .u64 u0.l, .string ⟨u0.path.toArray⟩, .int .i64 0, .int .i64 0, .int .u64 0, .int .u64 0, .string ⟨#[]⟩] 33 := Row.setMany Rp 2 [Value.int .i64 u0.kind, Value.int .i64 u0.len, Value.int .u64 u0.h, Value.int .u64 u0.l, Value.string ⟨u0.path.toArray⟩] (by simp [setL])); (simp only [World.setCells] at Rc Rr Rp Rf0x f0x0 f0x1 f0x2 hb0); generalize (World.setCell (World.setCell (World.setCell (World.setCell (World.setCell wq ⟨(w.heap.size + 1 + 1), 2, none⟩ (Value.int .i64 u0.kind)) ⟨(w.heap.size + 1 + 1), 3, none⟩ (Value.int .i64 u0.len)) ⟨(w.heap.size + 1 + 1), 4, none⟩ (Value.int .u64 u0.h)) ⟨(w.heap.size + 1 + 1), 5, none⟩ (Value.int .u64 u0.l)) ⟨(w.heap.size + 1 + 1), 6, none⟩ (Value.string ⟨u0.path.toArray⟩)) = wz at *)
    refine hK.out _ _ ?hSr50_13_12 (fun hHeld2 => ?_)
    case hSr50_13_12 => (exact ⟨f0x0, f0x1, f0x2⟩)
    clear hK K hHeld
    have hHeld := hHeld2
    clear hHeld2
    rename World => wq
    (try simp only [Act.put, nz1, nz2, nz3])
    refine wpAnyH_done (by kernel_rfl) ?_ _
    clear hHeld
    rename World => w2
    have lc := Rc.lt
    have lr := Rr.lt
    have lp := Rp.lt
    have lf0x := Rf0x.lt
    (try clear c0 c1 c2 c3 c4 c5 c6); obtain ⟨c0, c1, c2, c3, c4, c5, c6⟩ := row7 Rc
    (try clear r0 r1 r2 r3 r4 r5 r6 r7 r8 r9 r10 r11); obtain ⟨r0, r1, r2, r3, r4, r5, r6, r7, r8, r9, r10, r11⟩ := row12 Rr
    (try clear p0 p1 p2 p3 p4 p5 p6 p7 p8 p9 p10 p11); obtain ⟨p0, p1, p2, p3, p4, p5, p6, p7, p8, p9, p10, p11⟩ := row12 Rp
    (try clear f0x0 f0x1 f0x2); obtain ⟨f0x0, f0x1, f0x2⟩ := row3 Rf0x
    go_wp2_with fail
    rw [rounds_succ]
    go_wp2_with fail
    replace Rc := Rc.alloc (.cells #[Value.int .i64 s.d1.kind, Value.int .i64 s.d1.side, Value.int .i64 s.d1.step] 23)
    replace Rr := Rr.alloc (.cells #[Value.int .i64 s.d1.kind, Value.int .i64 s.d1.side, Value.int .i64 s.d1.step] 23)
    replace Rp := Rp.alloc (.cells #[Value.int .i64 s.d1.kind, Value.int .i64 s.d1.side, Value.int .i64 s.d1.step] 23)
    replace Rf0x := Rf0x.alloc (.cells #[Value.int .i64 s.d1.kind, Value.int .i64 s.d1.side, Value.int .i64 s.d1.step] 23)
    have Rf1x := Row.new w2 #[Value.int .i64 s.d1.kind, Value.int .i64 s.d1.side, Value.int .i64 s.d1.step] 23
    have mf1x := hb0.size
    replace hb0 := hb0.alloc hb0.size (.cells #[Value.int .i64 s.d1.kind, Value.int .i64 s.d1.side, Value.int .i64 s.d1.step] 23)
    (try clear c0 c1 c2 c3 c4 c5 c6); obtain ⟨c0, c1, c2, c3, c4, c5, c6⟩ := row7 Rc
    (try clear r0 r1 r2 r3 r4 r5 r6 r7 r8 r9 r10 r11); obtain ⟨r0, r1, r2, r3, r4, r5, r6, r7, r8, r9, r10, r11⟩ := row12 Rr
    (try clear p0 p1 p2 p3 p4 p5 p6 p7 p8 p9 p10 p11); obtain ⟨p0, p1, p2, p3, p4, p5, p6, p7, p8, p9, p10, p11⟩ := row12 Rp
    (try clear f0x0 f0x1 f0x2); obtain ⟨f0x0, f0x1, f0x2⟩ := row3 Rf0x
    (try clear f1x0 f1x1 f1x2); obtain ⟨f1x0, f1x1, f1x2⟩ := row3 Rf1x
    refine wp_region_held_drew (S := (fun w' => w'.cell? ⟨w2.heap.size, 0, none⟩ = some (Value.int .i64 s.d1.kind) ∧ w'.cell? ⟨w2.heap.size, 1, none⟩ = some (Value.int .i64 s.d1.side) ∧ w'.cell? ⟨w2.heap.size, 2, none⟩ = some (Value.int .i64 s.d1.step))) (by kernel_rfl) ?hSr51_ (fun hHeld => ?_)
    case hSr51_ => (exact ⟨f1x0, f1x1, f1x2⟩)
    (clear c0 c1 c2 c3 c4 c5 c6 r0 r1 r2 r3 r4 r5 r6 r7 r8 r9 r10 r11 p0 p1 p2 p3 p4 p5 p6 p7 p8 p9 p10 p11 f0x0 f0x1 f0x2 f1x0 f1x1 f1x2; (replace Rc := Rc.drew); (replace Rr := Rr.drew); (replace Rp := Rp.drew); (replace Rf0x := Rf0x.drew); (replace Rf1x := Rf1x.drew); (replace hb0 := hb0.drew); (generalize World.drew (World.alloc w2 (.cells #[Value.int .i64 s.d1.kind, Value.int .i64 s.d1.side, Value.int .i64 s.d1.step] 23)) = wq at *))
    refine tk 0 ⟨some 16, .move (.tmp 4), 3, _, _, _⟩ hHeld ?_
    (try simp only [Act.put, nz1, nz2, nz3])
    refine tk 1 ⟨some 17, .move (.tmp 4), 3, _, _, _⟩ hHeld ?_
    (try simp only [Act.put, nz1, nz2, nz3])
    refine tk 2 ⟨some 18, .load 23 (.tmp 5), 23, _, _, _⟩ hHeld ?_
    (try simp only [Act.put, nz1, nz2, nz3])
    refine tk 4 ⟨some 20, .fieldAddr 23 (.tmp 5) 0, 0, _, _, _⟩ hHeld ?_
    (try simp only [Act.put, nz1, nz2, nz3])
    refine tk 5 ⟨some 21, .load 3 (.tmp 20), 3, _, _, _⟩ hHeld ?_
    (try simp only [Act.put, nz1, nz2, nz3])
    refine tk 7 ⟨some 23, .fieldAddr 33 (.tmp 3) 0, 0, _, _, _⟩ hHeld ?_
    (try simp only [Act.put, nz1, nz2, nz3])
    refine tk 10 ⟨some 25, .fieldAddr 33 (.tmp 3) 1, 0, _, _, _⟩ hHeld ?_
    (try simp only [Act.put, nz1, nz2, nz3])
    refine wpAnyH_ready (rs := [3]) (by kernel_rfl) (by simp) ?_
    refine AllReadyH.cons (o := ⟨some 19, .call { callee := .value (.func 55), args := #[.tmp 18], argTypes := #[23] }, 3, _, _, _⟩) rfl (fun K hK => ?_) AllReadyH.nil
    (go_simp; (refine (HD1 _).mono ?_); (rintro e wz ⟨rfl, hb⟩); (replace Rc := Rc.later hb); (replace Rr := Rr.later hb); (replace Rp := Rp.later hb); (replace Rf0x := Rf0x.later hb); (replace Rf1x := Rf1x.later hb); (replace hb0 := below_step hb0 hb); go_wp2_with fail)
    refine hK.out _ _ ?hSr51_8_3 (fun hHeld2 => ?_)
    case hSr51_8_3 => (obtain ⟨f1x0, f1x1, f1x2⟩ := hHeld; exact ⟨cell_later hb f1x0, cell_later hb f1x1, cell_later hb f1x2⟩)
    clear hK K hHeld
    have hHeld := hHeld2
    clear hHeld2
    rename World => wq
    (try simp only [Act.put, nz1, nz2, nz3])
    refine tk 8 ⟨some 24, .indexAddr 27 (.tmp 23) (.tmp 16), 0, _, _, _⟩ hHeld ?_
    (try simp only [Act.put, nz1, nz2, nz3])
    refine wpAnyH_ready (rs := [6]) (by kernel_rfl) (by simp) ?_
    refine AllReadyH.cons (o := ⟨some 22, .call { callee := .value (.func 56), args := #[.tmp 21], argTypes := #[3] }, 30, _, _, _⟩) rfl (fun K hK => ?_) AllReadyH.nil
    (go_simp; (refine (HK1 _).mono ?_); (rintro e wz ⟨rfl, hb⟩); (replace Rc := Rc.later hb); (replace Rr := Rr.later hb); (replace Rp := Rp.later hb); (replace Rf0x := Rf0x.later hb); (replace Rf1x := Rf1x.later hb); (replace hb0 := below_step hb0 hb); go_wp2_with fail)
    refine hK.out _ _ ?hSr51_10_6 (fun hHeld2 => ?_)
    case hSr51_10_6 => (obtain ⟨f1x0, f1x1, f1x2⟩ := hHeld; exact ⟨cell_later hb f1x0, cell_later hb f1x1, cell_later hb f1x2⟩)
    clear hK K hHeld
    have hHeld := hHeld2
    clear hHeld2
    rename World => wq
    (try simp only [Act.put, nz1, nz2, nz3])
    refine wpAnyH_ready (rs := [9]) (by kernel_rfl) (by simp) ?_
    refine AllReadyH.cons (o := ⟨none, .store 3 (.tmp 24) (.tmp 19), 0, _, _, _⟩) rfl (fun K hK => ?_) AllReadyH.nil
    ((obtain ⟨zd0, zc0, zd2, zd3, zd4, zd5, zd6, zd7, zd8, zd9, zd10, zd11⟩ := row12 Rp); (have zf0 := Rp.frozen 1); (have hHq := hHeld); (obtain ⟨f1x0, f1x1, f1x2⟩ := hHq); go_simp; clear zc0 zf0 zd0 zd2 zd3 zd4 zd5 zd6 zd7 zd8 zd9 zd10 zd11; (replace f1x0 := pcell_far (g := (w.heap.size + 1 + 1)) (o := 1) (vs := [Value.int .i64 D1]) f1x0 (by first | omega | (simp; done) | (simp; omega) | omega)); (replace f1x1 := pcell_far (g := (w.heap.size + 1 + 1)) (o := 1) (vs := [Value.int .i64 D1]) f1x1 (by first | omega | (simp; done) | (simp; omega) | omega)); (replace f1x2 := pcell_far (g := (w.heap.size + 1 + 1)) (o := 1) (vs := [Value.int .i64 D1]) f1x2 (by first | omega | (simp; done) | (simp; omega) | omega)); (replace Rc := prow_far (g := (w.heap.size + 1 + 1)) (o := 1) (vs := [Value.int .i64 D1]) Rc (by first | omega | (simp; done) | (simp; omega) | omega)); (replace Rr := prow_far (g := (w.heap.size + 1 + 1)) (o := 1) (vs := [Value.int .i64 D1]) Rr (by first | omega | (simp; done) | (simp; omega) | omega)); (replace Rf0x := prow_far (g := (w.heap.size + 1 + 1)) (o := 1) (vs := [Value.int .i64 D1]) Rf0x (by first | omega | (simp; done) | (simp; omega) | omega)); (replace Rf1x := prow_far (g := (w.heap.size + 1 + 1)) (o := 1) (vs := [Value.int .i64 D1]) Rf1x (by first | omega | (simp; done) | (simp; omega) | omega)); (replace hb0 := below_setCells (g := (w.heap.size + 1 + 1)) (by omega) [Value.int .i64 D1] 1 _ hb0); (replace Rp : Row (World.setCells wq (w.heap.size + 1 + 1) 1 [Value.int .i64 D1]) (w.heap.size + 1 + 1) #[.int .i64 D0, .int .i64 D1, .int .i64 u0.kind, .int .i64 u0.len, .int .u64 u0.h, .int .u64 u0.l, .string ⟨u0.path.toArray⟩, .int .i64 0, .int .i64 0, .int .u64 0, .int .u64 0, .string ⟨#[]⟩] 33 := Row.setMany Rp 1 [Value.int .i64 D1] (by simp [setL])); (simp only [World.setCells] at Rc Rr Rp Rf0x Rf1x f1x0 f1x1 f1x2 hb0); generalize (World.setCell wq ⟨(w.heap.size + 1 + 1), 1, none⟩ (Value.int .i64 D1)) = wz at *)
    refine hK.out _ _ ?hSr51_11_9 (fun hHeld2 => ?_)
    case hSr51_11_9 => (exact ⟨f1x0, f1x1, f1x2⟩)
    clear hK K hHeld
    have hHeld := hHeld2
    clear hHeld2
    rename World => wq
    (try simp only [Act.put, nz1, nz2, nz3])
    refine tk 11 ⟨some 26, .indexAddr 31 (.tmp 25) (.tmp 17), 0, _, _, _⟩ hHeld ?_
    (try simp only [Act.put, nz1, nz2, nz3])
    refine wpAnyH_ready (rs := [12]) (by kernel_rfl) (by simp) ?_
    refine AllReadyH.cons (o := ⟨none, .store 30 (.tmp 26) (.tmp 22), 0, _, _, _⟩) rfl (fun K hK => ?_) AllReadyH.nil
    ((obtain ⟨zd0, zd1, zd2, zd3, zd4, zd5, zd6, zc0, zc1, zc2, zc3, zc4⟩ := row12 Rp); (have zf0 := Rp.frozen 7); (have zf1 := Rp.frozen 8); (have zf2 := Rp.frozen 9); (have zf3 := Rp.frozen 10); (have zf4 := Rp.frozen 11); (have hHq := hHeld); (obtain ⟨f1x0, f1x1, f1x2⟩ := hHq); go_simp; clear zc0 zf0 zc1 zf1 zc2 zf2 zc3 zf3 zc4 zf4 zd0 zd1 zd2 zd3 zd4 zd5 zd6; (replace f1x0 := pcell_far (g := (w.heap.size + 1 + 1)) (o := 7) (vs := [Value.int .i64 u1.kind, Value.int .i64 u1.len, Value.int .u64 u1.h, Value.int .u64 u1.l, Value.string ⟨u1.path.toArray⟩]) f1x0 (by first | omega | (simp; done) | (simp; omega) | omega)); (replace f1x1 := pcell_far (g := (w.heap.size + 1 + 1)) (o := 7) (vs := [Value.int .i64 u1.kind, Value.int .i64 u1.len, Value.int .u64 u1.h, Value.int .u64 u1.l, Value.string ⟨u1.path.toArray⟩]) f1x1 (by first | omega | (simp; done) | (simp; omega) | omega)); (replace f1x2 := pcell_far (g := (w.heap.size + 1 + 1)) (o := 7) (vs := [Value.int .i64 u1.kind, Value.int .i64 u1.len, Value.int .u64 u1.h, Value.int .u64 u1.l, Value.string ⟨u1.path.toArray⟩]) f1x2 (by first | omega | (simp; done) | (simp; omega) | omega)); (replace Rc := prow_far (g := (w.heap.size + 1 + 1)) (o := 7) (vs := [Value.int .i64 u1.kind, Value.int .i64 u1.len, Value.int .u64 u1.h, Value.int .u64 u1.l, Value.string ⟨u1.path.toArray⟩]) Rc (by first | omega | (simp; done) | (simp; omega) | omega)); (replace Rr := prow_far (g := (w.heap.size + 1 + 1)) (o := 7) (vs := [Value.int .i64 u1.kind, Value.int .i64 u1.len, Value.int .u64 u1.h, Value.int .u64 u1.l, Value.string ⟨u1.path.toArray⟩]) Rr (by first | omega | (simp; done) | (simp; omega) | omega)); (replace Rf0x := prow_far (g := (w.heap.size + 1 + 1)) (o := 7) (vs := [Value.int .i64 u1.kind, Value.int .i64 u1.len, Value.int .u64 u1.h, Value.int .u64 u1.l, Value.string ⟨u1.path.toArray⟩]) Rf0x (by first | omega | (simp; done) | (simp; omega) | omega)); (replace Rf1x := prow_far (g := (w.heap.size + 1 + 1)) (o := 7) (vs := [Value.int .i64 u1.kind, Value.int .i64 u1.len, Value.int .u64 u1.h, Value.int .u64 u1.l, Value.string ⟨u1.path.toArray⟩]) Rf1x (by first | omega | (simp; done) | (simp; omega) | omega)); (replace hb0 := below_setCells (g := (w.heap.size + 1 + 1)) (by omega) [Value.int .i64 u1.kind, Value.int .i64 u1.len, Value.int .u64 u1.h, Value.int .u64 u1.l, Value.string ⟨u1.path.toArray⟩] 7 _ hb0); (replace Rp : Row (World.setCells wq (w.heap.size + 1 + 1) 7 [Value.int .i64 u1.kind, Value.int .i64 u1.len, Value.int .u64 u1.h, Value.int .u64 u1.l, Value.string ⟨u1.path.toArray⟩]) (w.heap.size + 1 + 1) #[.int .i64 D0, .int .i64 D1, .int .i64 u0.kind, .int .i64 u0.len, .int .u64 u0.h, .int .u64 u0.l, .string ⟨u0.path.toArray⟩, .int .i64 u1.kind, .int .i64 u1.len, .int .u64 u1.h, .int .u64 u1.l, .string ⟨u1.path.toArray⟩] 33 := Row.setMany Rp 7 [Value.int .i64 u1.kind, Value.int .i64 u1.len, Value.int .u64 u1.h, Value.int .u64 u1.l, Value.string ⟨u1.path.toArray⟩] (by simp [setL])); (simp only [World.setCells] at Rc Rr Rp Rf0x Rf1x f1x0 f1x1 f1x2 hb0); generalize (World.setCell (World.setCell (World.setCell (World.setCell (World.setCell wq ⟨(w.heap.size + 1 + 1), 7, none⟩ (Value.int .i64 u1.kind)) ⟨(w.heap.size + 1 + 1), 8, none⟩ (Value.int .i64 u1.len)) ⟨(w.heap.size + 1 + 1), 9, none⟩ (Value.int .u64 u1.h)) ⟨(w.heap.size + 1 + 1), 10, none⟩ (Value.int .u64 u1.l)) ⟨(w.heap.size + 1 + 1), 11, none⟩ (Value.string ⟨u1.path.toArray⟩)) = wz at *)
    refine hK.out _ _ ?hSr51_13_12 (fun hHeld2 => ?_)
    case hSr51_13_12 => (exact ⟨f1x0, f1x1, f1x2⟩)
    clear hK K hHeld
    have hHeld := hHeld2
    clear hHeld2
    rename World => wq
    (try simp only [Act.put, nz1, nz2, nz3])
    refine wpAnyH_done (by kernel_rfl) ?_ _
    clear hHeld
    rename World => w3
    have lc := Rc.lt
    have lr := Rr.lt
    have lp := Rp.lt
    have lf0x := Rf0x.lt
    have lf1x := Rf1x.lt
    (try clear c0 c1 c2 c3 c4 c5 c6); obtain ⟨c0, c1, c2, c3, c4, c5, c6⟩ := row7 Rc
    (try clear r0 r1 r2 r3 r4 r5 r6 r7 r8 r9 r10 r11); obtain ⟨r0, r1, r2, r3, r4, r5, r6, r7, r8, r9, r10, r11⟩ := row12 Rr
    (try clear p0 p1 p2 p3 p4 p5 p6 p7 p8 p9 p10 p11); obtain ⟨p0, p1, p2, p3, p4, p5, p6, p7, p8, p9, p10, p11⟩ := row12 Rp
    (try clear f0x0 f0x1 f0x2); obtain ⟨f0x0, f0x1, f0x2⟩ := row3 Rf0x
    (try clear f1x0 f1x1 f1x2); obtain ⟨f1x0, f1x1, f1x2⟩ := row3 Rf1x
    go_wp2_with fail
    rw [rounds_succ]
    have rf0 := Rr.frozen 0
    have rf1 := Rr.frozen 1
    have rf2 := Rr.frozen 2
    have rf3 := Rr.frozen 3
    have rf4 := Rr.frozen 4
    have rf5 := Rr.frozen 5
    have rf6 := Rr.frozen 6
    have rf7 := Rr.frozen 7
    have rf8 := Rr.frozen 8
    have rf9 := Rr.frozen 9
    have rf10 := Rr.frozen 10
    have rf11 := Rr.frozen 11
    go_wp2
    obtain ⟨w4, hwn⟩ : ∃ wz, wz = (World.setCell (World.setCell (World.setCell (World.setCell (World.setCell (World.setCell (World.setCell (World.setCell (World.setCell (World.setCell (World.setCell (World.setCell w3 ⟨(w.heap.size + 1), 0, none⟩ (.int .i64 D0)) ⟨(w.heap.size + 1), 1, none⟩ (.int .i64 D1)) ⟨(w.heap.size + 1), 2, none⟩ (.int .i64 u0.kind)) ⟨(w.heap.size + 1), 3, none⟩ (.int .i64 u0.len)) ⟨(w.heap.size + 1), 4, none⟩ (.int .u64 u0.h)) ⟨(w.heap.size + 1), 5, none⟩ (.int .u64 u0.l)) ⟨(w.heap.size + 1), 6, none⟩ (.string ⟨u0.path.toArray⟩)) ⟨(w.heap.size + 1), 7, none⟩ (.int .i64 u1.kind)) ⟨(w.heap.size + 1), 8, none⟩ (.int .i64 u1.len)) ⟨(w.heap.size + 1), 9, none⟩ (.int .u64 u1.h)) ⟨(w.heap.size + 1), 10, none⟩ (.int .u64 u1.l)) ⟨(w.heap.size + 1), 11, none⟩ (.string ⟨u1.path.toArray⟩)) := ⟨_, rfl⟩
    rw [← hwn]
    replace hwn : w4 = World.setCells w3 (w.heap.size + 1) 0 [.int .i64 D0, .int .i64 D1, .int .i64 u0.kind, .int .i64 u0.len, .int .u64 u0.h, .int .u64 u0.l, .string ⟨u0.path.toArray⟩, .int .i64 u1.kind, .int .i64 u1.len, .int .u64 u1.h, .int .u64 u1.l, .string ⟨u1.path.toArray⟩] := hwn
    replace Rr : Row w4 (w.heap.size + 1) #[.int .i64 D0, .int .i64 D1, .int .i64 u0.kind, .int .i64 u0.len, .int .u64 u0.h, .int .u64 u0.l, .string ⟨u0.path.toArray⟩, .int .i64 u1.kind, .int .i64 u1.len, .int .u64 u1.h, .int .u64 u1.l, .string ⟨u1.path.toArray⟩] 33 := psm hwn Rr (by simp [setL])
    replace Rc := prf hwn Rc
    replace Rp := prf hwn Rp
    replace Rf0x := prf hwn Rf0x
    replace Rf1x := prf hwn Rf1x
    replace hb0 := pbl hwn hb0
    clear hwn c0 c1 c2 c3 c4 c5 c6 r0 r1 r2 r3 r4 r5 r6 r7 r8 r9 r10 r11 p0 p1 p2 p3 p4 p5 p6 p7 p8 p9 p10 p11 f0x0 f0x1 f0x2 f1x0 f1x1 f1x2
    (try clear rf0 rf1 rf2 rf3 rf4 rf5 rf6 rf7 rf8 rf9 rf10 rf11)
    (try clear c0 c1 c2 c3 c4 c5 c6); obtain ⟨c0, c1, c2, c3, c4, c5, c6⟩ := row7 Rc
    (try clear r0 r1 r2 r3 r4 r5 r6 r7 r8 r9 r10 r11); obtain ⟨r0, r1, r2, r3, r4, r5, r6, r7, r8, r9, r10, r11⟩ := row12 Rr
    (try clear p0 p1 p2 p3 p4 p5 p6 p7 p8 p9 p10 p11); obtain ⟨p0, p1, p2, p3, p4, p5, p6, p7, p8, p9, p10, p11⟩ := row12 Rp
    (try clear f0x0 f0x1 f0x2); obtain ⟨f0x0, f0x1, f0x2⟩ := row3 Rf0x
    (try clear f1x0 f1x1 f1x2); obtain ⟨f1x0, f1x1, f1x2⟩ := row3 Rf1x
    refine bodyPost_ret (v := .agg #[.int .i64 D0, .int .i64 D1, .int .i64 u0.kind, .int .i64 u0.len, .int .u64 u0.h, .int .u64 u0.l, .string ⟨u0.path.toArray⟩, .int .i64 u1.kind, .int .i64 u1.len, .int .u64 u1.h, .int .u64 u1.l, .string ⟨u1.path.toArray⟩]) (by simp [results, Try.results22, go_sem, r0, r1, r2, r3, r4, r5, r6, r7, r8, r9, r10, r11]) rfl ⟨rfl, hb0⟩
theorem top9_t (s : Sp) (w : World) : Calls Try.prog 22 #[sv s] w fun e w' => e = .returned (pv (topP s)) ∧ Below w.heap.size w w' :=
  top_go s _ _ _ _ _ (sound_t s) (ddepth_t s.d0) (ddepth_t s.d1) (kroot_t s.d0.kind) (kroot_t s.d1.kind) w
end Go.Proofs.Ytbekocknfpekoaa
namespace Go.Proofs.Ytbekocknfpekoaa
set_option linter.unusedVariables false
set_option linter.unusedSimpArgs false
open Go.RowKit
set_option maxRecDepth 100000 in
theorem pcmp_go (p q : Px) (m0 m1 m2 m3 : Int) (HC0 : ∀ w, Calls Try.prog 63 #[.int .i64 p.a0, .int .i64 q.a0] w fun e w' => e = .returned (.int .i64 m0) ∧ Below w.heap.size w w') (HC1 : ∀ w, Calls Try.prog 63 #[.int .i64 p.a1, .int .i64 q.a1] w fun e w' => e = .returned (.int .i64 m1) ∧ Below w.heap.size w w')
    (HC2 : ∀ w, Calls Try.prog 64 #[kv p.k0, kv q.k0] w fun e w' => e = .returned (.int .i64 m2) ∧ Below w.heap.size w w') (HC3 : ∀ w, Calls Try.prog 64 #[kv p.k1, kv q.k1] w fun e w' => e = .returned (.int .i64 m3) ∧ Below w.heap.size w w') (w : World) :
    Calls Try.prog 32 #[pv p, pv q] w fun e w' => e = .returned (.int .i64 (if m0 ≠ 0 then m0 else if m1 ≠ 0 then m1 else if m2 ≠ 0 then m2 else if m3 ≠ 0 then m3 else 0)) ∧ Below w.heap.size w w' := by
  have i0 := ixa0
  have i1 := ixa1
  have j0 := ixk0
  have j1 := ixk1
  unfold pv kv at *
  obtain ⟨Rc, Rd, hb0⟩ := two_rows w #[.int .i64 p.a0, .int .i64 p.a1, .int .i64 p.k0.kind, .int .i64 p.k0.len, .int .u64 p.k0.h, .int .u64 p.k0.l, .string ⟨p.k0.path.toArray⟩, .int .i64 p.k1.kind, .int .i64 p.k1.len, .int .u64 p.k1.h, .int .u64 p.k1.l, .string ⟨p.k1.path.toArray⟩] #[.int .i64 q.a0, .int .i64 q.a1, .int .i64 q.k0.kind, .int .i64 q.k0.len, .int .u64 q.k0.h, .int .u64 q.k0.l, .string ⟨q.k0.path.toArray⟩, .int .i64 q.k1.kind, .int .i64 q.k1.len, .int .u64 q.k1.h, .int .u64 q.k1.l, .string ⟨q.k1.path.toArray⟩] 33 33
  (try clear c0 c1 c2 c3 c4 c5 c6 c7 c8 c9 c10 c11); obtain ⟨c0, c1, c2, c3, c4, c5, c6, c7, c8, c9, c10, c11⟩ := row12 Rc
  (try clear d0 d1 d2 d3 d4 d5 d6 d7 d8 d9 d10 d11); obtain ⟨d0, d1, d2, d3, d4, d5, d6, d7, d8, d9, d10, d11⟩ := row12 Rd
  by_cases h0 : m0 ≠ 0
  · rw [if_pos h0]
    have n0 : (m0 != 0) = true := by simpa using h0
    go_enter Try.func32, Try.ntmps32
    go_wp2_with fail
    refine wp_loop_rounds 3 ?_
    rw [rounds_succ]
    go_wp2_with fail
    refine (HC0 _).mono ?_
    rintro e w1 ⟨rfl, hb⟩
    replace Rc := Rc.later hb
    replace Rd := Rd.later hb
    replace hb0 := below_step hb0 hb
    clear hb
    have lc := Rc.lt
    have ld := Rd.lt
    (try clear c0 c1 c2 c3 c4 c5 c6 c7 c8 c9 c10 c11); obtain ⟨c0, c1, c2, c3, c4, c5, c6, c7, c8, c9, c10, c11⟩ := row12 Rc
    (try clear d0 d1 d2 d3 d4 d5 d6 d7 d8 d9 d10 d11); obtain ⟨d0, d1, d2, d3, d4, d5, d6, d7, d8, d9, d10, d11⟩ := row12 Rd
    go_wp2
    go_ret
    exact ⟨rfl, hb0⟩
  rw [if_neg h0]
  obtain rfl : m0 = 0 := by simpa using h0
  by_cases h1 : m1 ≠ 0
  · rw [if_pos h1]
    have n1 : (m1 != 0) = true := by simpa using h1
    go_enter Try.func32, Try.ntmps32
    go_wp2_with fail
    refine wp_loop_rounds 3 ?_
    rw [rounds_succ]
    go_wp2_with fail
    refine (HC0 _).mono ?_
    rintro e w1 ⟨rfl, hb⟩
    replace Rc := Rc.later hb
    replace Rd := Rd.later hb
    replace hb0 := below_step hb0 hb
    clear hb
    have lc := Rc.lt
    have ld := Rd.lt
    (try clear c0 c1 c2 c3 c4 c5 c6 c7 c8 c9 c10 c11); obtain ⟨c0, c1, c2, c3, c4, c5, c6, c7, c8, c9, c10, c11⟩ := row12 Rc
    (try clear d0 d1 d2 d3 d4 d5 d6 d7 d8 d9 d10 d11); obtain ⟨d0, d1, d2, d3, d4, d5, d6, d7, d8, d9, d10, d11⟩ := row12 Rd
    go_wp2_with fail
    rw [rounds_succ]
    go_wp2_with fail
    refine (HC1 _).mono ?_
    rintro e w2 ⟨rfl, hb⟩
    replace Rc := Rc.later hb
    replace Rd := Rd.later hb
    replace hb0 := below_step hb0 hb
    clear hb
    have lc := Rc.lt
    have ld := Rd.lt
    (try clear c0 c1 c2 c3 c4 c5 c6 c7 c8 c9 c10 c11); obtain ⟨c0, c1, c2, c3, c4, c5, c6, c7, c8, c9, c10, c11⟩ := row12 Rc
    (try clear d0 d1 d2 d3 d4 d5 d6 d7 d8 d9 d10 d11); obtain ⟨d0, d1, d2, d3, d4, d5, d6, d7, d8, d9, d10, d11⟩ := row12 Rd
    go_wp2
    go_ret
    exact ⟨rfl, hb0⟩
  rw [if_neg h1]
  obtain rfl : m1 = 0 := by simpa using h1
  by_cases h2 : m2 ≠ 0
  · rw [if_pos h2]
    have n2 : (m2 != 0) = true := by simpa using h2
    go_enter Try.func32, Try.ntmps32
    go_wp2_with fail
    refine wp_loop_rounds 3 ?_
    rw [rounds_succ]
    go_wp2_with fail
    refine (HC0 _).mono ?_
    rintro e w1 ⟨rfl, hb⟩
    replace Rc := Rc.later hb
    replace Rd := Rd.later hb
    replace hb0 := below_step hb0 hb
    clear hb
    have lc := Rc.lt
    have ld := Rd.lt
    (try clear c0 c1 c2 c3 c4 c5 c6 c7 c8 c9 c10 c11); obtain ⟨c0, c1, c2, c3, c4, c5, c6, c7, c8, c9, c10, c11⟩ := row12 Rc
    (try clear d0 d1 d2 d3 d4 d5 d6 d7 d8 d9 d10 d11); obtain ⟨d0, d1, d2, d3, d4, d5, d6, d7, d8, d9, d10, d11⟩ := row12 Rd
    go_wp2_with fail
    rw [rounds_succ]
    go_wp2_with fail
    refine (HC1 _).mono ?_
    rintro e w2 ⟨rfl, hb⟩
    replace Rc := Rc.later hb
    replace Rd := Rd.later hb
    replace hb0 := below_step hb0 hb
    clear hb
    have lc := Rc.lt
    have ld := Rd.lt
    (try clear c0 c1 c2 c3 c4 c5 c6 c7 c8 c9 c10 c11); obtain ⟨c0, c1, c2, c3, c4, c5, c6, c7, c8, c9, c10, c11⟩ := row12 Rc
    (try clear d0 d1 d2 d3 d4 d5 d6 d7 d8 d9 d10 d11); obtain ⟨d0, d1, d2, d3, d4, d5, d6, d7, d8, d9, d10, d11⟩ := row12 Rd
    go_wp2_with fail
    rw [rounds_succ]
    go_wp2_with fail
    refine wp_loop_rounds 3 ?_
    rw [rounds_succ]
    go_wp2_with fail
    replace Rc := Rc.alloc (.cells #[Value.int .i64 p.k0.kind, Value.int .i64 p.k0.len, Value.int .u64 p.k0.h, Value.int .u64 p.k0.l, Value.string ⟨p.k0.path.toArray⟩] 30)
    replace Rd := Rd.alloc (.cells #[Value.int .i64 p.k0.kind, Value.int .i64 p.k0.len, Value.int .u64 p.k0.h, Value.int .u64 p.k0.l, Value.string ⟨p.k0.path.toArray⟩] 30)
    have Rf0x := Row.new w2 #[Value.int .i64 p.k0.kind, Value.int .i64 p.k0.len, Value.int .u64 p.k0.h, Value.int .u64 p.k0.l, Value.string ⟨p.k0.path.toArray⟩] 30
    have mf0x := hb0.size
    replace hb0 := hb0.alloc hb0.size (.cells #[Value.int .i64 p.k0.kind, Value.int .i64 p.k0.len, Value.int .u64 p.k0.h, Value.int .u64 p.k0.l, Value.string ⟨p.k0.path.toArray⟩] 30)
    (try clear c0 c1 c2 c3 c4 c5 c6 c7 c8 c9 c10 c11); obtain ⟨c0, c1, c2, c3, c4, c5, c6, c7, c8, c9, c10, c11⟩ := row12 Rc
    (try clear d0 d1 d2 d3 d4 d5 d6 d7 d8 d9 d10 d11); obtain ⟨d0, d1, d2, d3, d4, d5, d6, d7, d8, d9, d10, d11⟩ := row12 Rd
    (try clear f0x0 f0x1 f0x2 f0x3 f0x4); obtain ⟨f0x0, f0x1, f0x2, f0x3, f0x4⟩ := row5 Rf0x
    refine wp_region_held_drew (S := (fun w' => w'.cell? ⟨w2.heap.size, 0, none⟩ = some (Value.int .i64 p.k0.kind) ∧ w'.cell? ⟨w2.heap.size, 1, none⟩ = some (Value.int .i64 p.k0.len) ∧ w'.cell? ⟨w2.heap.size, 2, none⟩ = some (Value.int .u64 p.k0.h) ∧ w'.cell? ⟨w2.heap.size, 3, none⟩ = some (Value.int .u64 p.k0.l) ∧ w'.cell? ⟨w2.heap.size, 4, none⟩ = some (Value.string ⟨p.k0.path.toArray⟩) ∧ w'.cell? ⟨w.heap.size + 1, 2, none⟩ = some (Value.int .i64 q.k0.kind) ∧ w'.cell? ⟨w.heap.size + 1, 3, none⟩ = some (Value.int .i64 q.k0.len) ∧ w'.cell? ⟨w.heap.size + 1, 4, none⟩ = some (Value.int .u64 q.k0.h) ∧ w'.cell? ⟨w.heap.size + 1, 5, none⟩ = some (Value.int .u64 q.k0.l) ∧ w'.cell? ⟨w.heap.size + 1, 6, none⟩ = some (Value.string ⟨q.k0.path.toArray⟩))) (by kernel_rfl) ?hSr52_ (fun hHeld => ?_)
    case hSr52_ => (exact ⟨f0x0, f0x1, f0x2, f0x3, f0x4, d2, d3, d4, d5, d6⟩)
    (clear c0 c1 c2 c3 c4 c5 c6 c7 c8 c9 c10 c11 d0 d1 d2 d3 d4 d5 d6 d7 d8 d9 d10 d11 f0x0 f0x1 f0x2 f0x3 f0x4; (replace Rc := Rc.drew); (replace Rd := Rd.drew); (replace Rf0x := Rf0x.drew); (replace hb0 := hb0.drew); (generalize World.drew (World.alloc w2 (.cells #[Value.int .i64 p.k0.kind, Value.int .i64 p.k0.len, Value.int .u64 p.k0.h, Value.int .u64 p.k0.l, Value.string ⟨p.k0.path.toArray⟩] 30)) = wq at *))
    refine tk 0 ⟨some 33, .load 30 (.tmp 9), 30, _, _, _⟩ hHeld ?_
    (try simp only [Act.put, nz1, nz2, nz3])
    refine tk 1 ⟨some 34, .move (.tmp 8), 3, _, _, _⟩ hHeld ?_
    (try simp only [Act.put, nz1, nz2, nz3])
    refine tk 2 ⟨some 35, .fieldAddr 33 (.tmp 3) 1, 0, _, _, _⟩ hHeld ?_
    (try simp only [Act.put, nz1, nz2, nz3])
    refine tk 3 ⟨some 36, .indexAddr 31 (.tmp 35) (.tmp 34), 0, _, _, _⟩ hHeld ?_
    (try simp only [Act.put, nz1, nz2, nz3])
    refine tk 4 ⟨some 37, .load 30 (.tmp 36), 30, _, _, _⟩ hHeld ?_
    (try simp only [Act.put, nz1, nz2, nz3])
    refine wpAnyH_ready (rs := [5]) (by kernel_rfl) (by simp) ?_
    refine AllReadyH.cons (o := ⟨some 38, .call { callee := .value (.func 64), args := #[.tmp 33, .tmp 37], argTypes := #[30, 30] }, 3, _, _, _⟩) rfl (fun K hK => ?_) AllReadyH.nil
    (go_simp; (refine (HC2 _).mono ?_); (rintro e wz ⟨rfl, hb⟩); (replace Rc := Rc.later hb); (replace Rd := Rd.later hb); (replace Rf0x := Rf0x.later hb); (replace hb0 := below_step hb0 hb); go_wp2_with fail)
    refine hK.out _ _ ?hSr52_6_5 (fun hHeld2 => ?_)
    case hSr52_6_5 => (obtain ⟨f0x0, f0x1, f0x2, f0x3, f0x4, d2, d3, d4, d5, d6⟩ := hHeld; exact ⟨cell_later hb f0x0, cell_later hb f0x1, cell_later hb f0x2, cell_later hb f0x3, cell_later hb f0x4, cell_later hb d2, cell_later hb d3, cell_later hb d4, cell_later hb d5, cell_later hb d6⟩)
    clear hK K hHeld
    have hHeld := hHeld2
    clear hHeld2
    rename World => wq
    (try simp only [Act.put, nz1, nz2, nz3])
    refine tk 6 ⟨some 10, .assign (.tmp 38), 3, _, _, _⟩ hHeld ?_
    (try simp only [Act.put, nz1, nz2, nz3])
    refine wpAnyH_done (by kernel_rfl) ?_ _
    clear hHeld
    rename World => w3
    have lc := Rc.lt
    have ld := Rd.lt
    have lf0x := Rf0x.lt
    (try clear c0 c1 c2 c3 c4 c5 c6 c7 c8 c9 c10 c11); obtain ⟨c0, c1, c2, c3, c4, c5, c6, c7, c8, c9, c10, c11⟩ := row12 Rc
    (try clear d0 d1 d2 d3 d4 d5 d6 d7 d8 d9 d10 d11); obtain ⟨d0, d1, d2, d3, d4, d5, d6, d7, d8, d9, d10, d11⟩ := row12 Rd
    (try clear f0x0 f0x1 f0x2 f0x3 f0x4); obtain ⟨f0x0, f0x1, f0x2, f0x3, f0x4⟩ := row5 Rf0x
    go_wp2
    go_ret
    exact ⟨rfl, hb0⟩
  rw [if_neg h2]
  obtain rfl : m2 = 0 := by simpa using h2
  by_cases h3 : m3 ≠ 0
  · rw [if_pos h3]
    have n3 : (m3 != 0) = true := by simpa using h3
    go_enter Try.func32, Try.ntmps32
    go_wp2_with fail
    refine wp_loop_rounds 3 ?_
    rw [rounds_succ]
    go_wp2_with fail
    refine (HC0 _).mono ?_
    rintro e w1 ⟨rfl, hb⟩
    replace Rc := Rc.later hb
    replace Rd := Rd.later hb
    replace hb0 := below_step hb0 hb
    clear hb
    have lc := Rc.lt
    have ld := Rd.lt
    (try clear c0 c1 c2 c3 c4 c5 c6 c7 c8 c9 c10 c11); obtain ⟨c0, c1, c2, c3, c4, c5, c6, c7, c8, c9, c10, c11⟩ := row12 Rc
    (try clear d0 d1 d2 d3 d4 d5 d6 d7 d8 d9 d10 d11); obtain ⟨d0, d1, d2, d3, d4, d5, d6, d7, d8, d9, d10, d11⟩ := row12 Rd
    go_wp2_with fail
    rw [rounds_succ]
    go_wp2_with fail
    refine (HC1 _).mono ?_
    rintro e w2 ⟨rfl, hb⟩
    replace Rc := Rc.later hb
    replace Rd := Rd.later hb
    replace hb0 := below_step hb0 hb
    clear hb
    have lc := Rc.lt
    have ld := Rd.lt
    (try clear c0 c1 c2 c3 c4 c5 c6 c7 c8 c9 c10 c11); obtain ⟨c0, c1, c2, c3, c4, c5, c6, c7, c8, c9, c10, c11⟩ := row12 Rc
    (try clear d0 d1 d2 d3 d4 d5 d6 d7 d8 d9 d10 d11); obtain ⟨d0, d1, d2, d3, d4, d5, d6, d7, d8, d9, d10, d11⟩ := row12 Rd
    go_wp2_with fail
    rw [rounds_succ]
    go_wp2_with fail
    refine wp_loop_rounds 3 ?_
    rw [rounds_succ]
    go_wp2_with fail
    replace Rc := Rc.alloc (.cells #[Value.int .i64 p.k0.kind, Value.int .i64 p.k0.len, Value.int .u64 p.k0.h, Value.int .u64 p.k0.l, Value.string ⟨p.k0.path.toArray⟩] 30)
    replace Rd := Rd.alloc (.cells #[Value.int .i64 p.k0.kind, Value.int .i64 p.k0.len, Value.int .u64 p.k0.h, Value.int .u64 p.k0.l, Value.string ⟨p.k0.path.toArray⟩] 30)
    have Rf0x := Row.new w2 #[Value.int .i64 p.k0.kind, Value.int .i64 p.k0.len, Value.int .u64 p.k0.h, Value.int .u64 p.k0.l, Value.string ⟨p.k0.path.toArray⟩] 30
    have mf0x := hb0.size
    replace hb0 := hb0.alloc hb0.size (.cells #[Value.int .i64 p.k0.kind, Value.int .i64 p.k0.len, Value.int .u64 p.k0.h, Value.int .u64 p.k0.l, Value.string ⟨p.k0.path.toArray⟩] 30)
    (try clear c0 c1 c2 c3 c4 c5 c6 c7 c8 c9 c10 c11); obtain ⟨c0, c1, c2, c3, c4, c5, c6, c7, c8, c9, c10, c11⟩ := row12 Rc
    (try clear d0 d1 d2 d3 d4 d5 d6 d7 d8 d9 d10 d11); obtain ⟨d0, d1, d2, d3, d4, d5, d6, d7, d8, d9, d10, d11⟩ := row12 Rd
    (try clear f0x0 f0x1 f0x2 f0x3 f0x4); obtain ⟨f0x0, f0x1, f0x2, f0x3, f0x4⟩ := row5 Rf0x
    refine wp_region_held_drew (S := (fun w' => w'.cell? ⟨w2.heap.size, 0, none⟩ = some (Value.int .i64 p.k0.kind) ∧ w'.cell? ⟨w2.heap.size, 1, none⟩ = some (Value.int .i64 p.k0.len) ∧ w'.cell? ⟨w2.heap.size, 2, none⟩ = some (Value.int .u64 p.k0.h) ∧ w'.cell? ⟨w2.heap.size, 3, none⟩ = some (Value.int .u64 p.k0.l) ∧ w'.cell? ⟨w2.heap.size, 4, none⟩ = some (Value.string ⟨p.k0.path.toArray⟩) ∧ w'.cell? ⟨w.heap.size + 1, 2, none⟩ = some (Value.int .i64 q.k0.kind) ∧ w'.cell? ⟨w.heap.size + 1, 3, none⟩ = some (Value.int .i64 q.k0.len) ∧ w'.cell? ⟨w.heap.size + 1, 4, none⟩ = some (Value.int .u64 q.k0.h) ∧ w'.cell? ⟨w.heap.size + 1, 5, none⟩ = some (Value.int .u64 q.k0.l) ∧ w'.cell? ⟨w.heap.size + 1, 6, none⟩ = some (Value.string ⟨q.k0.path.toArray⟩))) (by kernel_rfl) ?hSr53_ (fun hHeld => ?_)
    case hSr53_ => (exact ⟨f0x0, f0x1, f0x2, f0x3, f0x4, d2, d3, d4, d5, d6⟩)
    (clear c0 c1 c2 c3 c4 c5 c6 c7 c8 c9 c10 c11 d0 d1 d2 d3 d4 d5 d6 d7 d8 d9 d10 d11 f0x0 f0x1 f0x2 f0x3 f0x4; (replace Rc := Rc.drew); (replace Rd := Rd.drew); (replace Rf0x := Rf0x.drew); (replace hb0 := hb0.drew); (generalize World.drew (World.alloc w2 (.cells #[Value.int .i64 p.k0.kind, Value.int .i64 p.k0.len, Value.int .u64 p.k0.h, Value.int .u64 p.k0.l, Value.string ⟨p.k0.path.toArray⟩] 30)) = wq at *))
    refine tk 0 ⟨some 33, .load 30 (.tmp 9), 30, _, _, _⟩ hHeld ?_
    (try simp only [Act.put, nz1, nz2, nz3])
    refine tk 1 ⟨some 34, .move (.tmp 8), 3, _, _, _⟩ hHeld ?_
    (try simp only [Act.put, nz1, nz2, nz3])
    refine tk 2 ⟨some 35, .fieldAddr 33 (.tmp 3) 1, 0, _, _, _⟩ hHeld ?_
    (try simp only [Act.put, nz1, nz2, nz3])
    refine tk 3 ⟨some 36, .indexAddr 31 (.tmp 35) (.tmp 34), 0, _, _, _⟩ hHeld ?_
    (try simp only [Act.put, nz1, nz2, nz3])
    refine tk 4 ⟨some 37, .load 30 (.tmp 36), 30, _, _, _⟩ hHeld ?_
    (try simp only [Act.put, nz1, nz2, nz3])
    refine wpAnyH_ready (rs := [5]) (by kernel_rfl) (by simp) ?_
    refine AllReadyH.cons (o := ⟨some 38, .call { callee := .value (.func 64), args := #[.tmp 33, .tmp 37], argTypes := #[30, 30] }, 3, _, _, _⟩) rfl (fun K hK => ?_) AllReadyH.nil
    (go_simp; (refine (HC2 _).mono ?_); (rintro e wz ⟨rfl, hb⟩); (replace Rc := Rc.later hb); (replace Rd := Rd.later hb); (replace Rf0x := Rf0x.later hb); (replace hb0 := below_step hb0 hb); go_wp2_with fail)
    refine hK.out _ _ ?hSr53_6_5 (fun hHeld2 => ?_)
    case hSr53_6_5 => (obtain ⟨f0x0, f0x1, f0x2, f0x3, f0x4, d2, d3, d4, d5, d6⟩ := hHeld; exact ⟨cell_later hb f0x0, cell_later hb f0x1, cell_later hb f0x2, cell_later hb f0x3, cell_later hb f0x4, cell_later hb d2, cell_later hb d3, cell_later hb d4, cell_later hb d5, cell_later hb d6⟩)
    clear hK K hHeld
    have hHeld := hHeld2
    clear hHeld2
    rename World => wq
    (try simp only [Act.put, nz1, nz2, nz3])
    refine tk 6 ⟨some 10, .assign (.tmp 38), 3, _, _, _⟩ hHeld ?_
    (try simp only [Act.put, nz1, nz2, nz3])
    refine wpAnyH_done (by kernel_rfl) ?_ _
    clear hHeld
    rename World => w3
    have lc := Rc.lt
    have ld := Rd.lt
    have lf0x := Rf0x.lt
    (try clear c0 c1 c2 c3 c4 c5 c6 c7 c8 c9 c10 c11); obtain ⟨c0, c1, c2, c3, c4, c5, c6, c7, c8, c9, c10, c11⟩ := row12 Rc
    (try clear d0 d1 d2 d3 d4 d5 d6 d7 d8 d9 d10 d11); obtain ⟨d0, d1, d2, d3, d4, d5, d6, d7, d8, d9, d10, d11⟩ := row12 Rd
    (try clear f0x0 f0x1 f0x2 f0x3 f0x4); obtain ⟨f0x0, f0x1, f0x2, f0x3, f0x4⟩ := row5 Rf0x
    go_wp2_with fail
    rw [rounds_succ]
    go_wp2_with fail
    replace Rc := Rc.alloc (.cells #[Value.int .i64 p.k1.kind, Value.int .i64 p.k1.len, Value.int .u64 p.k1.h, Value.int .u64 p.k1.l, Value.string ⟨p.k1.path.toArray⟩] 30)
    replace Rd := Rd.alloc (.cells #[Value.int .i64 p.k1.kind, Value.int .i64 p.k1.len, Value.int .u64 p.k1.h, Value.int .u64 p.k1.l, Value.string ⟨p.k1.path.toArray⟩] 30)
    replace Rf0x := Rf0x.alloc (.cells #[Value.int .i64 p.k1.kind, Value.int .i64 p.k1.len, Value.int .u64 p.k1.h, Value.int .u64 p.k1.l, Value.string ⟨p.k1.path.toArray⟩] 30)
    have Rf1x := Row.new w3 #[Value.int .i64 p.k1.kind, Value.int .i64 p.k1.len, Value.int .u64 p.k1.h, Value.int .u64 p.k1.l, Value.string ⟨p.k1.path.toArray⟩] 30
    have mf1x := hb0.size
    replace hb0 := hb0.alloc hb0.size (.cells #[Value.int .i64 p.k1.kind, Value.int .i64 p.k1.len, Value.int .u64 p.k1.h, Value.int .u64 p.k1.l, Value.string ⟨p.k1.path.toArray⟩] 30)
    (try clear c0 c1 c2 c3 c4 c5 c6 c7 c8 c9 c10 c11); obtain ⟨c0, c1, c2, c3, c4, c5, c6, c7, c8, c9, c10, c11⟩ := row12 Rc
    (try clear d0 d1 d2 d3 d4 d5 d6 d7 d8 d9 d10 d11); obtain ⟨d0, d1, d2, d3, d4, d5, d6, d7, d8, d9, d10, d11⟩ := row12 Rd
    (try clear f0x0 f0x1 f0x2 f0x3 f0x4); obtain ⟨f0x0, f0x1, f0x2, f0x3, f0x4⟩ := row5 Rf0x
    (try clear f1x0 f1x1 f1x2 f1x3 f1x4); obtain ⟨f1x0, f1x1, f1x2, f1x3, f1x4⟩ := row5 Rf1x
    refine wp_region_held_drew (S := (fun w' => w'.cell? ⟨w3.heap.size, 0, none⟩ = some (Value.int .i64 p.k1.kind) ∧ w'.cell? ⟨w3.heap.size, 1, none⟩ = some (Value.int .i64 p.k1.len) ∧ w'.cell? ⟨w3.heap.size, 2, none⟩ = some (Value.int .u64 p.k1.h) ∧ w'.cell? ⟨w3.heap.size, 3, none⟩ = some (Value.int .u64 p.k1.l) ∧ w'.cell? ⟨w3.heap.size, 4, none⟩ = some (Value.string ⟨p.k1.path.toArray⟩) ∧ w'.cell? ⟨w.heap.size + 1, 7, none⟩ = some (Value.int .i64 q.k1.kind) ∧ w'.cell? ⟨w.heap.size + 1, 8, none⟩ = some (Value.int .i64 q.k1.len) ∧ w'.cell? ⟨w.heap.size + 1, 9, none⟩ = some (Value.int .u64 q.k1.h) ∧ w'.cell? ⟨w.heap.size + 1, 10, none⟩ = some (Value.int .u64 q.k1.l) ∧ w'.cell? ⟨w.heap.size + 1, 11, none⟩ = some (Value.string ⟨q.k1.path.toArray⟩))) (by kernel_rfl) ?hSr54_ (fun hHeld => ?_)
    case hSr54_ => (exact ⟨f1x0, f1x1, f1x2, f1x3, f1x4, d7, d8, d9, d10, d11⟩)
    (clear c0 c1 c2 c3 c4 c5 c6 c7 c8 c9 c10 c11 d0 d1 d2 d3 d4 d5 d6 d7 d8 d9 d10 d11 f0x0 f0x1 f0x2 f0x3 f0x4 f1x0 f1x1 f1x2 f1x3 f1x4; (replace Rc := Rc.drew); (replace Rd := Rd.drew); (replace Rf0x := Rf0x.drew); (replace Rf1x := Rf1x.drew); (replace hb0 := hb0.drew); (generalize World.drew (World.alloc w3 (.cells #[Value.int .i64 p.k1.kind, Value.int .i64 p.k1.len, Value.int .u64 p.k1.h, Value.int .u64 p.k1.l, Value.string ⟨p.k1.path.toArray⟩] 30)) = wq at *))
    refine tk 0 ⟨some 33, .load 30 (.tmp 9), 30, _, _, _⟩ hHeld ?_
    (try simp only [Act.put, nz1, nz2, nz3])
    refine tk 1 ⟨some 34, .move (.tmp 8), 3, _, _, _⟩ hHeld ?_
    (try simp only [Act.put, nz1, nz2, nz3])
    refine tk 2 ⟨some 35, .fieldAddr 33 (.tmp 3) 1, 0, _, _, _⟩ hHeld ?_
    (try simp only [Act.put, nz1, nz2, nz3])
    refine tk 3 ⟨some 36, .indexAddr 31 (.tmp 35) (.tmp 34), 0, _, _, _⟩ hHeld ?_
    (try simp only [Act.put, nz1, nz2, nz3])
    refine tk 4 ⟨some 37, .load 30 (.tmp 36), 30, _, _, _⟩ hHeld ?_
    (try simp only [Act.put, nz1, nz2, nz3])
    refine wpAnyH_ready (rs := [5]) (by kernel_rfl) (by simp) ?_
    refine AllReadyH.cons (o := ⟨some 38, .call { callee := .value (.func 64), args := #[.tmp 33, .tmp 37], argTypes := #[30, 30] }, 3, _, _, _⟩) rfl (fun K hK => ?_) AllReadyH.nil
    (go_simp; (refine (HC3 _).mono ?_); (rintro e wz ⟨rfl, hb⟩); (replace Rc := Rc.later hb); (replace Rd := Rd.later hb); (replace Rf0x := Rf0x.later hb); (replace Rf1x := Rf1x.later hb); (replace hb0 := below_step hb0 hb); go_wp2_with fail)
    refine hK.out _ _ ?hSr54_6_5 (fun hHeld2 => ?_)
    case hSr54_6_5 => (obtain ⟨f1x0, f1x1, f1x2, f1x3, f1x4, d7, d8, d9, d10, d11⟩ := hHeld; exact ⟨cell_later hb f1x0, cell_later hb f1x1, cell_later hb f1x2, cell_later hb f1x3, cell_later hb f1x4, cell_later hb d7, cell_later hb d8, cell_later hb d9, cell_later hb d10, cell_later hb d11⟩)
    clear hK K hHeld
    have hHeld := hHeld2
    clear hHeld2
    rename World => wq
    (try simp only [Act.put, nz1, nz2, nz3])
    refine tk 6 ⟨some 10, .assign (.tmp 38), 3, _, _, _⟩ hHeld ?_
    (try simp only [Act.put, nz1, nz2, nz3])
    refine wpAnyH_done (by kernel_rfl) ?_ _
    clear hHeld
    rename World => w4
    have lc := Rc.lt
    have ld := Rd.lt
    have lf0x := Rf0x.lt
    have lf1x := Rf1x.lt
    (try clear c0 c1 c2 c3 c4 c5 c6 c7 c8 c9 c10 c11); obtain ⟨c0, c1, c2, c3, c4, c5, c6, c7, c8, c9, c10, c11⟩ := row12 Rc
    (try clear d0 d1 d2 d3 d4 d5 d6 d7 d8 d9 d10 d11); obtain ⟨d0, d1, d2, d3, d4, d5, d6, d7, d8, d9, d10, d11⟩ := row12 Rd
    (try clear f0x0 f0x1 f0x2 f0x3 f0x4); obtain ⟨f0x0, f0x1, f0x2, f0x3, f0x4⟩ := row5 Rf0x
    (try clear f1x0 f1x1 f1x2 f1x3 f1x4); obtain ⟨f1x0, f1x1, f1x2, f1x3, f1x4⟩ := row5 Rf1x
    go_wp2
    go_ret
    exact ⟨rfl, hb0⟩
  rw [if_neg h3]
  obtain rfl : m3 = 0 := by simpa using h3
  go_enter Try.func32, Try.ntmps32
  go_wp2_with fail
  refine wp_loop_rounds 3 ?_
  rw [rounds_succ]
  go_wp2_with fail
  refine (HC0 _).mono ?_
  rintro e w1 ⟨rfl, hb⟩
  replace Rc := Rc.later hb
  replace Rd := Rd.later hb
  replace hb0 := below_step hb0 hb
  clear hb
  have lc := Rc.lt
  have ld := Rd.lt
  (try clear c0 c1 c2 c3 c4 c5 c6 c7 c8 c9 c10 c11); obtain ⟨c0, c1, c2, c3, c4, c5, c6, c7, c8, c9, c10, c11⟩ := row12 Rc
  (try clear d0 d1 d2 d3 d4 d5 d6 d7 d8 d9 d10 d11); obtain ⟨d0, d1, d2, d3, d4, d5, d6, d7, d8, d9, d10, d11⟩ := row12 Rd
  go_wp2_with fail
  rw [rounds_succ]
  go_wp2_with fail
  refine (HC1 _).mono ?_
  rintro e w2 ⟨rfl, hb⟩
  replace Rc := Rc.later hb
  replace Rd := Rd.later hb
  replace hb0 := below_step hb0 hb
  clear hb
  have lc := Rc.lt
  have ld := Rd.lt
  (try clear c0 c1 c2 c3 c4 c5 c6 c7 c8 c9 c10 c11); obtain ⟨c0, c1, c2, c3, c4, c5, c6, c7, c8, c9, c10, c11⟩ := row12 Rc
  (try clear d0 d1 d2 d3 d4 d5 d6 d7 d8 d9 d10 d11); obtain ⟨d0, d1, d2, d3, d4, d5, d6, d7, d8, d9, d10, d11⟩ := row12 Rd
  go_wp2_with fail
  rw [rounds_succ]
  go_wp2_with fail
  refine wp_loop_rounds 3 ?_
  rw [rounds_succ]
  go_wp2_with fail
  replace Rc := Rc.alloc (.cells #[Value.int .i64 p.k0.kind, Value.int .i64 p.k0.len, Value.int .u64 p.k0.h, Value.int .u64 p.k0.l, Value.string ⟨p.k0.path.toArray⟩] 30)
  replace Rd := Rd.alloc (.cells #[Value.int .i64 p.k0.kind, Value.int .i64 p.k0.len, Value.int .u64 p.k0.h, Value.int .u64 p.k0.l, Value.string ⟨p.k0.path.toArray⟩] 30)
  have Rf0x := Row.new w2 #[Value.int .i64 p.k0.kind, Value.int .i64 p.k0.len, Value.int .u64 p.k0.h, Value.int .u64 p.k0.l, Value.string ⟨p.k0.path.toArray⟩] 30
  have mf0x := hb0.size
  replace hb0 := hb0.alloc hb0.size (.cells #[Value.int .i64 p.k0.kind, Value.int .i64 p.k0.len, Value.int .u64 p.k0.h, Value.int .u64 p.k0.l, Value.string ⟨p.k0.path.toArray⟩] 30)
  (try clear c0 c1 c2 c3 c4 c5 c6 c7 c8 c9 c10 c11); obtain ⟨c0, c1, c2, c3, c4, c5, c6, c7, c8, c9, c10, c11⟩ := row12 Rc
  (try clear d0 d1 d2 d3 d4 d5 d6 d7 d8 d9 d10 d11); obtain ⟨d0, d1, d2, d3, d4, d5, d6, d7, d8, d9, d10, d11⟩ := row12 Rd
  (try clear f0x0 f0x1 f0x2 f0x3 f0x4); obtain ⟨f0x0, f0x1, f0x2, f0x3, f0x4⟩ := row5 Rf0x
  refine wp_region_held_drew (S := (fun w' => w'.cell? ⟨w2.heap.size, 0, none⟩ = some (Value.int .i64 p.k0.kind) ∧ w'.cell? ⟨w2.heap.size, 1, none⟩ = some (Value.int .i64 p.k0.len) ∧ w'.cell? ⟨w2.heap.size, 2, none⟩ = some (Value.int .u64 p.k0.h) ∧ w'.cell? ⟨w2.heap.size, 3, none⟩ = some (Value.int .u64 p.k0.l) ∧ w'.cell? ⟨w2.heap.size, 4, none⟩ = some (Value.string ⟨p.k0.path.toArray⟩) ∧ w'.cell? ⟨w.heap.size + 1, 2, none⟩ = some (Value.int .i64 q.k0.kind) ∧ w'.cell? ⟨w.heap.size + 1, 3, none⟩ = some (Value.int .i64 q.k0.len) ∧ w'.cell? ⟨w.heap.size + 1, 4, none⟩ = some (Value.int .u64 q.k0.h) ∧ w'.cell? ⟨w.heap.size + 1, 5, none⟩ = some (Value.int .u64 q.k0.l) ∧ w'.cell? ⟨w.heap.size + 1, 6, none⟩ = some (Value.string ⟨q.k0.path.toArray⟩))) (by kernel_rfl) ?hSr55_ (fun hHeld => ?_)
  case hSr55_ => (exact ⟨f0x0, f0x1, f0x2, f0x3, f0x4, d2, d3, d4, d5, d6⟩)
  (clear c0 c1 c2 c3 c4 c5 c6 c7 c8 c9 c10 c11 d0 d1 d2 d3 d4 d5 d6 d7 d8 d9 d10 d11 f0x0 f0x1 f0x2 f0x3 f0x4; (replace Rc := Rc.drew); (replace Rd := Rd.drew); (replace Rf0x := Rf0x.drew); (replace hb0 := hb0.drew); (generalize World.drew (World.alloc w2 (.cells #[Value.int .i64 p.k0.kind, Value.int .i64 p.k0.len, Value.int .u64 p.k0.h, Value.int .u64 p.k0.l, Value.string ⟨p.k0.path.toArray⟩] 30)) = wq at *))
  refine tk 0 ⟨some 33, .load 30 (.tmp 9), 30, _, _, _⟩ hHeld ?_
  (try simp only [Act.put, nz1, nz2, nz3])
  refine tk 1 ⟨some 34, .move (.tmp 8), 3, _, _, _⟩ hHeld ?_
  (try simp only [Act.put, nz1, nz2, nz3])
  refine tk 2 ⟨some 35, .fieldAddr 33 (.tmp 3) 1, 0, _, _, _⟩ hHeld ?_
  (try simp only [Act.put, nz1, nz2, nz3])
  refine tk 3 ⟨some 36, .indexAddr 31 (.tmp 35) (.tmp 34), 0, _, _, _⟩ hHeld ?_
  (try simp only [Act.put, nz1, nz2, nz3])
  refine tk 4 ⟨some 37, .load 30 (.tmp 36), 30, _, _, _⟩ hHeld ?_
  (try simp only [Act.put, nz1, nz2, nz3])
  refine wpAnyH_ready (rs := [5]) (by kernel_rfl) (by simp) ?_
  refine AllReadyH.cons (o := ⟨some 38, .call { callee := .value (.func 64), args := #[.tmp 33, .tmp 37], argTypes := #[30, 30] }, 3, _, _, _⟩) rfl (fun K hK => ?_) AllReadyH.nil
  (go_simp; (refine (HC2 _).mono ?_); (rintro e wz ⟨rfl, hb⟩); (replace Rc := Rc.later hb); (replace Rd := Rd.later hb); (replace Rf0x := Rf0x.later hb); (replace hb0 := below_step hb0 hb); go_wp2_with fail)
  refine hK.out _ _ ?hSr55_6_5 (fun hHeld2 => ?_)
  case hSr55_6_5 => (obtain ⟨f0x0, f0x1, f0x2, f0x3, f0x4, d2, d3, d4, d5, d6⟩ := hHeld; exact ⟨cell_later hb f0x0, cell_later hb f0x1, cell_later hb f0x2, cell_later hb f0x3, cell_later hb f0x4, cell_later hb d2, cell_later hb d3, cell_later hb d4, cell_later hb d5, cell_later hb d6⟩)
  clear hK K hHeld
  have hHeld := hHeld2
  clear hHeld2
  rename World => wq
  (try simp only [Act.put, nz1, nz2, nz3])
  refine tk 6 ⟨some 10, .assign (.tmp 38), 3, _, _, _⟩ hHeld ?_
  (try simp only [Act.put, nz1, nz2, nz3])
  refine wpAnyH_done (by kernel_rfl) ?_ _
  clear hHeld
  rename World => w3
  have lc := Rc.lt
  have ld := Rd.lt
  have lf0x := Rf0x.lt
  (try clear c0 c1 c2 c3 c4 c5 c6 c7 c8 c9 c10 c11); obtain ⟨c0, c1, c2, c3, c4, c5, c6, c7, c8, c9, c10, c11⟩ := row12 Rc
  (try clear d0 d1 d2 d3 d4 d5 d6 d7 d8 d9 d10 d11); obtain ⟨d0, d1, d2, d3, d4, d5, d6, d7, d8, d9, d10, d11⟩ := row12 Rd
  (try clear f0x0 f0x1 f0x2 f0x3 f0x4); obtain ⟨f0x0, f0x1, f0x2, f0x3, f0x4⟩ := row5 Rf0x
  go_wp2_with fail
  rw [rounds_succ]
  go_wp2_with fail
  replace Rc := Rc.alloc (.cells #[Value.int .i64 p.k1.kind, Value.int .i64 p.k1.len, Value.int .u64 p.k1.h, Value.int .u64 p.k1.l, Value.string ⟨p.k1.path.toArray⟩] 30)
  replace Rd := Rd.alloc (.cells #[Value.int .i64 p.k1.kind, Value.int .i64 p.k1.len, Value.int .u64 p.k1.h, Value.int .u64 p.k1.l, Value.string ⟨p.k1.path.toArray⟩] 30)
  replace Rf0x := Rf0x.alloc (.cells #[Value.int .i64 p.k1.kind, Value.int .i64 p.k1.len, Value.int .u64 p.k1.h, Value.int .u64 p.k1.l, Value.string ⟨p.k1.path.toArray⟩] 30)
  have Rf1x := Row.new w3 #[Value.int .i64 p.k1.kind, Value.int .i64 p.k1.len, Value.int .u64 p.k1.h, Value.int .u64 p.k1.l, Value.string ⟨p.k1.path.toArray⟩] 30
  have mf1x := hb0.size
  replace hb0 := hb0.alloc hb0.size (.cells #[Value.int .i64 p.k1.kind, Value.int .i64 p.k1.len, Value.int .u64 p.k1.h, Value.int .u64 p.k1.l, Value.string ⟨p.k1.path.toArray⟩] 30)
  (try clear c0 c1 c2 c3 c4 c5 c6 c7 c8 c9 c10 c11); obtain ⟨c0, c1, c2, c3, c4, c5, c6, c7, c8, c9, c10, c11⟩ := row12 Rc
  (try clear d0 d1 d2 d3 d4 d5 d6 d7 d8 d9 d10 d11); obtain ⟨d0, d1, d2, d3, d4, d5, d6, d7, d8, d9, d10, d11⟩ := row12 Rd
  (try clear f0x0 f0x1 f0x2 f0x3 f0x4); obtain ⟨f0x0, f0x1, f0x2, f0x3, f0x4⟩ := row5 Rf0x
  (try clear f1x0 f1x1 f1x2 f1x3 f1x4); obtain ⟨f1x0, f1x1, f1x2, f1x3, f1x4⟩ := row5 Rf1x
  refine wp_region_held_drew (S := (fun w' => w'.cell? ⟨w3.heap.size, 0, none⟩ = some (Value.int .i64 p.k1.kind) ∧ w'.cell? ⟨w3.heap.size, 1, none⟩ = some (Value.int .i64 p.k1.len) ∧ w'.cell? ⟨w3.heap.size, 2, none⟩ = some (Value.int .u64 p.k1.h) ∧ w'.cell? ⟨w3.heap.size, 3, none⟩ = some (Value.int .u64 p.k1.l) ∧ w'.cell? ⟨w3.heap.size, 4, none⟩ = some (Value.string ⟨p.k1.path.toArray⟩) ∧ w'.cell? ⟨w.heap.size + 1, 7, none⟩ = some (Value.int .i64 q.k1.kind) ∧ w'.cell? ⟨w.heap.size + 1, 8, none⟩ = some (Value.int .i64 q.k1.len) ∧ w'.cell? ⟨w.heap.size + 1, 9, none⟩ = some (Value.int .u64 q.k1.h) ∧ w'.cell? ⟨w.heap.size + 1, 10, none⟩ = some (Value.int .u64 q.k1.l) ∧ w'.cell? ⟨w.heap.size + 1, 11, none⟩ = some (Value.string ⟨q.k1.path.toArray⟩))) (by kernel_rfl) ?hSr56_ (fun hHeld => ?_)
  case hSr56_ => (exact ⟨f1x0, f1x1, f1x2, f1x3, f1x4, d7, d8, d9, d10, d11⟩)
  (clear c0 c1 c2 c3 c4 c5 c6 c7 c8 c9 c10 c11 d0 d1 d2 d3 d4 d5 d6 d7 d8 d9 d10 d11 f0x0 f0x1 f0x2 f0x3 f0x4 f1x0 f1x1 f1x2 f1x3 f1x4; (replace Rc := Rc.drew); (replace Rd := Rd.drew); (replace Rf0x := Rf0x.drew); (replace Rf1x := Rf1x.drew); (replace hb0 := hb0.drew); (generalize World.drew (World.alloc w3 (.cells #[Value.int .i64 p.k1.kind, Value.int .i64 p.k1.len, Value.int .u64 p.k1.h, Value.int .u64 p.k1.l, Value.string ⟨p.k1.path.toArray⟩] 30)) = wq at *))
  refine tk 0 ⟨some 33, .load 30 (.tmp 9), 30, _, _, _⟩ hHeld ?_
  (try simp only [Act.put, nz1, nz2, nz3])
  refine tk 1 ⟨some 34, .move (.tmp 8), 3, _, _, _⟩ hHeld ?_
  (try simp only [Act.put, nz1, nz2, nz3])
  refine tk 2 ⟨some 35, .fieldAddr 33 (.tmp 3) 1, 0, _, _, _⟩ hHeld ?_
  (try simp only [Act.put, nz1, nz2, nz3])
  refine tk 3 ⟨some 36, .indexAddr 31 (.tmp 35) (.tmp 34), 0, _, _, _⟩ hHeld ?_
  (try simp only [Act.put, nz1, nz2, nz3])
  refine tk 4 ⟨some 37, .load 30 (.tmp 36), 30, _, _, _⟩ hHeld ?_
  (try simp only [Act.put, nz1, nz2, nz3])
  refine wpAnyH_ready (rs := [5]) (by kernel_rfl) (by simp) ?_
  refine AllReadyH.cons (o := ⟨some 38, .call { callee := .value (.func 64), args := #[.tmp 33, .tmp 37], argTypes := #[30, 30] }, 3, _, _, _⟩) rfl (fun K hK => ?_) AllReadyH.nil
  (go_simp; (refine (HC3 _).mono ?_); (rintro e wz ⟨rfl, hb⟩); (replace Rc := Rc.later hb); (replace Rd := Rd.later hb); (replace Rf0x := Rf0x.later hb); (replace Rf1x := Rf1x.later hb); (replace hb0 := below_step hb0 hb); go_wp2_with fail)
  refine hK.out _ _ ?hSr56_6_5 (fun hHeld2 => ?_)
  case hSr56_6_5 => (obtain ⟨f1x0, f1x1, f1x2, f1x3, f1x4, d7, d8, d9, d10, d11⟩ := hHeld; exact ⟨cell_later hb f1x0, cell_later hb f1x1, cell_later hb f1x2, cell_later hb f1x3, cell_later hb f1x4, cell_later hb d7, cell_later hb d8, cell_later hb d9, cell_later hb d10, cell_later hb d11⟩)
  clear hK K hHeld
  have hHeld := hHeld2
  clear hHeld2
  rename World => wq
  (try simp only [Act.put, nz1, nz2, nz3])
  refine tk 6 ⟨some 10, .assign (.tmp 38), 3, _, _, _⟩ hHeld ?_
  (try simp only [Act.put, nz1, nz2, nz3])
  refine wpAnyH_done (by kernel_rfl) ?_ _
  clear hHeld
  rename World => w4
  have lc := Rc.lt
  have ld := Rd.lt
  have lf0x := Rf0x.lt
  have lf1x := Rf1x.lt
  (try clear c0 c1 c2 c3 c4 c5 c6 c7 c8 c9 c10 c11); obtain ⟨c0, c1, c2, c3, c4, c5, c6, c7, c8, c9, c10, c11⟩ := row12 Rc
  (try clear d0 d1 d2 d3 d4 d5 d6 d7 d8 d9 d10 d11); obtain ⟨d0, d1, d2, d3, d4, d5, d6, d7, d8, d9, d10, d11⟩ := row12 Rd
  (try clear f0x0 f0x1 f0x2 f0x3 f0x4); obtain ⟨f0x0, f0x1, f0x2, f0x3, f0x4⟩ := row5 Rf0x
  (try clear f1x0 f1x1 f1x2 f1x3 f1x4); obtain ⟨f1x0, f1x1, f1x2, f1x3, f1x4⟩ := row5 Rf1x
  go_wp2_with fail
  rw [rounds_succ]
  go_wp2
  go_ret
  exact ⟨rfl, hb0⟩
def cmpP (p q : Px) : Int := if cmpI p.a0 q.a0 ≠ 0 then cmpI p.a0 q.a0 else if cmpI p.a1 q.a1 ≠ 0 then cmpI p.a1 q.a1 else if cmpK p.k0 q.k0 ≠ 0 then cmpK p.k0 q.k0 else if cmpK p.k1 q.k1 ≠ 0 then cmpK p.k1 q.k1 else 0
theorem pcmp_t (p q : Px) (op : p.ok) (oq : q.ok) (w : World) : Calls Try.prog 32 #[pv p, pv q] w fun e w' => e = .returned (.int .i64 (cmpP p q)) ∧ Below w.heap.size w w' :=
  pcmp_go p q _ _ _ _ (compare_i _ _) (compare_i _ _) (kcmp_t _ _ op.k0 oq.k0) (kcmp_t _ _ op.k1 oq.k1) w
end Go.Proofs.Ytbekocknfpekoaa
