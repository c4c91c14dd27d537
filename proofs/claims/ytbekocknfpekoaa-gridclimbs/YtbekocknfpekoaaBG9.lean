/- G9: what the theorem needs of these texts. No conditions beyond those that are written. -/
import Derived.Test.YtbekocknfpekoaaBJP6
namespace Go.Proofs.Ytbekocknfpekoaa
set_option linter.unusedVariables false
set_option linter.unusedSimpArgs false
open Go.RowKit
attribute [local go_sem] Oper.semAt_some
theorem Turn.after {L : Nat} {ρ ρ' : Option Nat} {V V1 V' : World} (hb : Below V.heap.size V V1) (h : Turn L ρ ρ' V1 V') : Turn L ρ ρ' V V' :=
  ⟨Nat.le_trans hb.size h.size, fun j hj hlt hne => (h.same j hj (Nat.lt_of_lt_of_le hlt hb.size) hne).trans (hb.block j hlt), h.row.imp id (fun ⟨r, h1, h2⟩ => ⟨r, h1, Nat.le_trans hb.size h2⟩)⟩
/-- the prefix over p at a distance -/
def upAt (s : Sp) (p : Px) (n : Int × Int) : Px := ⟨p.a0 + n.1, p.a1 + n.2, cutD s.d0 (p.a0 + n.1) p.k0, cutD s.d1 (p.a1 + n.2) p.k1⟩
def allP (s : Sp) (p : Px) : List Px := if rightP s p = true then (walkN (depthD s.d0 - p.a0) (depthD s.d1 - p.a1)).map (upAt s p) else []
theorem all_no (s : Sp) (p : Px) (HR : ∀ w, Calls Try.prog 20 #[sv s, pv p] w fun e w' => e = .returned (.bool false) ∧ Below w.heap.size w w') (w : World) : Calls Try.prog 47 #[sv s, pv p] w fun e w' => ∃ v, e = .returned v ∧ XS w' v [] ∧ Below w.heap.size w w' := by
  unfold sv pv at *
  obtain ⟨Rc, Rd, hb0⟩ := two_rows w #[.int .i64 s.n, .int .i64 s.d0.kind, .int .i64 s.d0.side, .int .i64 s.d0.step, .int .i64 s.d1.kind, .int .i64 s.d1.side, .int .i64 s.d1.step] #[.int .i64 p.a0, .int .i64 p.a1, .int .i64 p.k0.kind, .int .i64 p.k0.len, .int .u64 p.k0.h, .int .u64 p.k0.l, .string ⟨p.k0.path.toArray⟩, .int .i64 p.k1.kind, .int .i64 p.k1.len, .int .u64 p.k1.h, .int .u64 p.k1.l, .string ⟨p.k1.path.toArray⟩] 26 33
  (try clear c0 c1 c2 c3 c4 c5 c6); obtain ⟨c0, c1, c2, c3, c4, c5, c6⟩ := row7 Rc
  (try clear d0 d1 d2 d3 d4 d5 d6 d7 d8 d9 d10 d11); obtain ⟨d0, d1, d2, d3, d4, d5, d6, d7, d8, d9, d10, d11⟩ := row12 Rd
  go_enter Try.func47, Try.ntmps47
  go_wp2_with fail
  refine (HR _).mono ?_
  rintro e w1 ⟨rfl, hb⟩
  replace Rc := Rc.later hb
  replace Rd := Rd.later hb
  replace hb0 := below_step hb0 hb
  clear hb
  have lc := Rc.lt
  have ld := Rd.lt
  (try clear c0 c1 c2 c3 c4 c5 c6); obtain ⟨c0, c1, c2, c3, c4, c5, c6⟩ := row7 Rc
  (try clear d0 d1 d2 d3 d4 d5 d6 d7 d8 d9 d10 d11); obtain ⟨d0, d1, d2, d3, d4, d5, d6, d7, d8, d9, d10, d11⟩ := row12 Rd
  go_wp2
  go_ret
  exact ⟨_, rfl, XS.nil _, hb0⟩
set_option pp.deepTerms true in
set_option pp.maxSteps 1000000 in
set_option maxRecDepth 100000 in
set_option maxHeartbeats 32000000 in
theorem all_ok (s : Sp) (p : Px) (N0 N1 N : Nat) (C0 C1 : Nat → Ke) (L : List Px) (F : Nat → Array Value) (X : Nat → Nat × Nat)
    (HR : ∀ w, Calls Try.prog 20 #[sv s, pv p] w fun e w' => e = .returned (.bool true) ∧ Below w.heap.size w w')
    (HU0 : ∀ w, Calls Try.prog 75 #[dv s.d0, .int .i64 p.a0, kv p.k0] w fun e w' => ∃ g c cur, e = .returned (.slice (some ⟨g, 0, none⟩) N0 c) ∧ N0 ≤ c ∧ w.heap.size ≤ g ∧ Row w' g cur 30 ∧ Hid (∀ j, j < N0 → ∀ i x, (cellsK (C0 j))[i]? = some x → cur[j * 5 + i]? = some x) ∧ Below w.heap.size w w')
    (HU1 : ∀ w, Calls Try.prog 75 #[dv s.d1, .int .i64 p.a1, kv p.k1] w fun e w' => ∃ g c cur, e = .returned (.slice (some ⟨g, 0, none⟩) N1 c) ∧ N1 ≤ c ∧ w.heap.size ≤ g ∧ Row w' g cur 30 ∧ Hid (∀ j, j < N1 → ∀ i x, (cellsK (C1 j))[i]? = some x → cur[j * 5 + i]? = some x) ∧ Below w.heap.size w w')
    (h00 : 0 < N0) (h01 : N0 ≤ 129) (h10 : 0 < N1) (h11 : N1 ≤ 129) (ha0 : 0 ≤ p.a0) (ha1 : p.a0 ≤ 128) (hb0' : 0 ≤ p.a1) (hb1' : p.a1 ≤ 128)
    (hF : ∀ k, F k = #[.int .i64 (k : Int), .agg #[.int .i64 ((X k).1 : Int), .int .i64 ((X k).2 : Int)]])
    (HL : Hid (N ≤ 16641 ∧ (∀ k, k ≤ N → (L.take k).length = k) ∧ L.take N = L ∧ ∀ k, k < N → (X k).1 < N0 ∧ (X k).2 < N1 ∧ L.take (k + 1) = L.take k ++ [⟨p.a0 + ((X k).1 : Int), p.a1 + ((X k).2 : Int), C0 (X k).1, C1 (X k).2⟩]))
    (HC : ∀ w, Calls Try.prog 68 #[rv ((N0 : Int) - 1) ((N1 : Int) - 1)] w fun e w' => e = .returned (.int .i64 (N : Int)) ∧ Below w.heap.size w w')
    (hseq : ∀ g (w0 : World), Row w0 g #[.int .i64 ((N0 : Int) - 1), .int .i64 ((N1 : Int) - 1)] 75 → SeqR Fence.wide 2 Try.prog 96 #[.pointer (some ⟨g, 0, none⟩)] F (fun V V' => V'.heap[g]? = V.heap[g]?) N w0) (w : World) :
    Calls Try.prog 47 #[sv s, pv p] w fun e w' => ∃ v, e = .returned v ∧ XS w' v L ∧ Below w.heap.size w w' := by
  have i0 := ixd0
  have i1 := ixd1
  have HK := walk_t ((N0 : Int) - 1) ((N1 : Int) - 1)
  obtain ⟨j0, hif, hz0, hz1, hz2⟩ := infoX
  have hN6 := HL.out.1
  have hmk := fun w => run_make (P := Try.prog) w 60 33 j0 _ Try.underlying60 hif hz0 .i64 .i64 0 (N : Int) (by omega) (by omega) (by rw [hz2]; omega) (by omega)
  simp only [Int.toNat_natCast, hz1, Int.toNat_zero] at hmk
  have wn0 : IntKind.i64.wrap ((N0 : Int) - 1) = (N0 : Int) - 1 := IntWalk.i64_in _ (by omega)
  have wn1 : IntKind.i64.wrap ((N1 : Int) - 1) = (N1 : Int) - 1 := IntWalk.i64_in _ (by omega)
  have HQ := Lib.hid hseq
  have HF := Lib.hid hF
  have HA := Lib.hid (And.intro (And.intro h01 h11) (And.intro (And.intro ha0 ha1) (And.intro hb0' hb1')))
  clear hseq hF hif hz0 hz1 hz2 h00 h01 h10 h11 ha0 ha1 hb0' hb1'
  unfold sv pv at *
  unfold dv kv rv at *
  (try dsimp only at *)
  obtain ⟨Rc, Rd, hb0⟩ := two_rows w #[.int .i64 s.n, .int .i64 s.d0.kind, .int .i64 s.d0.side, .int .i64 s.d0.step, .int .i64 s.d1.kind, .int .i64 s.d1.side, .int .i64 s.d1.step] #[.int .i64 p.a0, .int .i64 p.a1, .int .i64 p.k0.kind, .int .i64 p.k0.len, .int .u64 p.k0.h, .int .u64 p.k0.l, .string ⟨p.k0.path.toArray⟩, .int .i64 p.k1.kind, .int .i64 p.k1.len, .int .u64 p.k1.h, .int .u64 p.k1.l, .string ⟨p.k1.path.toArray⟩] 26 33
  (try clear c0 c1 c2 c3 c4 c5 c6); obtain ⟨c0, c1, c2, c3, c4, c5, c6⟩ := row7 Rc
  (try clear d0 d1 d2 d3 d4 d5 d6 d7 d8 d9 d10 d11); obtain ⟨d0, d1, d2, d3, d4, d5, d6, d7, d8, d9, d10, d11⟩ := row12 Rd
  refine (callsIn_wide (n := 3)).1 ?_
  refine callsIn_of_wp_marks Try.func47 rfl trivial ?_ rfl
  simp only [Try.ntmps47, List.size_toArray, List.length_cons, List.length_nil, Nat.reduceAdd, Nat.reduceSub, Array.replicate_succ, Array.replicate_zero, List.push_toArray, List.append_toArray, List.nil_append, List.cons_append]
  refine wpIn_wide.2 ?_
  go_wp2_with fail
  refine (HR _).mono ?_
  rintro e w1 ⟨rfl, hb⟩
  replace Rc := Rc.later hb
  replace Rd := Rd.later hb
  replace hb0 := below_step hb0 hb
  clear hb
  have lc := Rc.lt
  have ld := Rd.lt
  (try clear c0 c1 c2 c3 c4 c5 c6); obtain ⟨c0, c1, c2, c3, c4, c5, c6⟩ := row7 Rc
  (try clear d0 d1 d2 d3 d4 d5 d6 d7 d8 d9 d10 d11); obtain ⟨d0, d1, d2, d3, d4, d5, d6, d7, d8, d9, d10, d11⟩ := row12 Rd
  go_wp2_with fail
  have nkc := Rc.lt
  have nkd := Rd.lt
  replace Rc := Rc.alloc (.cells #[Value.slice none 0 0, Value.slice none 0 0] 86)
  replace Rd := Rd.alloc (.cells #[Value.slice none 0 0, Value.slice none 0 0] 86)
  have Rk := Row.new w1 #[Value.slice none 0 0, Value.slice none 0 0] 86
  have mk := hb0.size
  replace hb0 := hb0.alloc hb0.size (.cells #[Value.slice none 0 0, Value.slice none 0 0] 86)
  (try clear c0 c1 c2 c3 c4 c5 c6); obtain ⟨c0, c1, c2, c3, c4, c5, c6⟩ := row7 Rc
  (try clear d0 d1 d2 d3 d4 d5 d6 d7 d8 d9 d10 d11); obtain ⟨d0, d1, d2, d3, d4, d5, d6, d7, d8, d9, d10, d11⟩ := row12 Rd
  (try clear k0 k1); obtain ⟨k0, k1⟩ := row2 Rk
  have lk := Rk.lt
  generalize (World.alloc w1 (.cells #[Value.slice none 0 0, Value.slice none 0 0] 86)) = w2 at *
  refine wp_loop_rounds 3 ?_
  rw [rounds_succ]
  go_wp2_with fail
  have ne0c := Rc.lt
  have ne0d := Rd.lt
  have ne0k := Rk.lt
  replace Rc := Rc.alloc (.cells #[Value.int .i64 s.d0.kind, Value.int .i64 s.d0.side, Value.int .i64 s.d0.step] 23)
  replace Rd := Rd.alloc (.cells #[Value.int .i64 s.d0.kind, Value.int .i64 s.d0.side, Value.int .i64 s.d0.step] 23)
  replace Rk := Rk.alloc (.cells #[Value.int .i64 s.d0.kind, Value.int .i64 s.d0.side, Value.int .i64 s.d0.step] 23)
  have Re0 := Row.new w2 #[Value.int .i64 s.d0.kind, Value.int .i64 s.d0.side, Value.int .i64 s.d0.step] 23
  have me0 := hb0.size
  replace hb0 := hb0.alloc hb0.size (.cells #[Value.int .i64 s.d0.kind, Value.int .i64 s.d0.side, Value.int .i64 s.d0.step] 23)
  (try clear c0 c1 c2 c3 c4 c5 c6); obtain ⟨c0, c1, c2, c3, c4, c5, c6⟩ := row7 Rc
  (try clear d0 d1 d2 d3 d4 d5 d6 d7 d8 d9 d10 d11); obtain ⟨d0, d1, d2, d3, d4, d5, d6, d7, d8, d9, d10, d11⟩ := row12 Rd
  (try clear k0 k1); obtain ⟨k0, k1⟩ := row2 Rk
  (try clear e00 e01 e02); obtain ⟨e00, e01, e02⟩ := row3 Re0
  have le0 := Re0.lt
  generalize (World.alloc w2 (.cells #[Value.int .i64 s.d0.kind, Value.int .i64 s.d0.side, Value.int .i64 s.d0.step] 23)) = w3 at *
  refine region_marks (S := (fun w' => w'.cell? ⟨w2.heap.size, 0, none⟩ = some (Value.int .i64 s.d0.kind) ∧ w'.cell? ⟨w2.heap.size, 1, none⟩ = some (Value.int .i64 s.d0.side) ∧ w'.cell? ⟨w2.heap.size, 2, none⟩ = some (Value.int .i64 s.d0.step) ∧ w'.cell? ⟨w.heap.size + 1, 0, none⟩ = some (Value.int .i64 p.a0) ∧ w'.cell? ⟨w.heap.size + 1, 2, none⟩ = some (Value.int .i64 p.k0.kind) ∧ w'.cell? ⟨w.heap.size + 1, 3, none⟩ = some (Value.int .i64 p.k0.len) ∧ w'.cell? ⟨w.heap.size + 1, 4, none⟩ = some (Value.int .u64 p.k0.h) ∧ w'.cell? ⟨w.heap.size + 1, 5, none⟩ = some (Value.int .u64 p.k0.l) ∧ w'.cell? ⟨w.heap.size + 1, 6, none⟩ = some (Value.string ⟨p.k0.path.toArray⟩))) (by kernel_rfl) ?hSr1_ (fun hHeld => ?_)
  case hSr1_ => (exact ⟨e00, e01, e02, d0, d2, d3, d4, d5, d6⟩)
  (clear c0 c1 c2 c3 c4 c5 c6 d0 d1 d2 d3 d4 d5 d6 d7 d8 d9 d10 d11 k0 k1 e00 e01 e02; (replace Rc := Rc.drew); (replace Rd := Rd.drew); (replace Rk := Rk.drew); (replace Re0 := Re0.drew); (replace hb0 := hb0.drew); (generalize World.drew w3 = wq at *))
  refine tk 0 ⟨some 25, .move (.tmp 6), 3, _, _, _⟩ hHeld ?_
  (try simp only [Act.put, nz1, nz2, nz3])
  refine tk 1 ⟨some 26, .load 23 (.tmp 7), 23, _, _, _⟩ hHeld ?_
  (try simp only [Act.put, nz1, nz2, nz3])
  refine tk 2 ⟨some 27, .move (.tmp 6), 3, _, _, _⟩ hHeld ?_
  (try simp only [Act.put, nz1, nz2, nz3])
  refine tk 3 ⟨some 28, .fieldAddr 33 (.tmp 3) 0, 0, _, _, _⟩ hHeld ?_
  (try simp only [Act.put, nz1, nz2, nz3])
  refine tk 4 ⟨some 29, .indexAddr 27 (.tmp 28) (.tmp 27), 0, _, _, _⟩ hHeld ?_
  (try simp only [Act.put, nz1, nz2, nz3])
  refine tk 5 ⟨some 30, .load 3 (.tmp 29), 3, _, _, _⟩ hHeld ?_
  (try simp only [Act.put, nz1, nz2, nz3])
  refine tk 6 ⟨some 31, .move (.tmp 6), 3, _, _, _⟩ hHeld ?_
  (try simp only [Act.put, nz1, nz2, nz3])
  refine tk 7 ⟨some 32, .fieldAddr 33 (.tmp 3) 1, 0, _, _, _⟩ hHeld ?_
  (try simp only [Act.put, nz1, nz2, nz3])
  refine tk 8 ⟨some 33, .indexAddr 31 (.tmp 32) (.tmp 31), 0, _, _, _⟩ hHeld ?_
  (try simp only [Act.put, nz1, nz2, nz3])
  refine tk 9 ⟨some 34, .load 30 (.tmp 33), 30, _, _, _⟩ hHeld ?_
  (try simp only [Act.put, nz1, nz2, nz3])
  refine wpAnyH_ready (rs := [10]) (by kernel_rfl) (by simp) ?_
  refine AllReadyH.cons (o := ⟨some 35, .call { callee := .value (.func 75), args := #[.tmp 26, .tmp 30, .tmp 34], argTypes := #[23, 3, 30] }, 71, _, _, _⟩) rfl (fun K hK => ?_) AllReadyH.nil
  (go_simp; (have ycx0 := Rc.lt); (have ydx0 := Rd.lt); (have ykx0 := Rk.lt); (have ye0x0 := Re0.lt); (refine (HU0 _).mono ?_); (rintro e wz ⟨g0, cp0, cur0, rfl, q01, q02, Rx0, hz0, hb⟩); (replace Rc := Rc.later hb); (replace Rd := Rd.later hb); (replace Rk := Rk.later hb); (replace Re0 := Re0.later hb); (replace hb0 := below_step hb0 hb); go_wp2_with fail)
  refine hK.out _ _ ?hSr1_11_10 (fun hHeld2 => ?_)
  case hSr1_11_10 => (obtain ⟨e00, e01, e02, d0, d2, d3, d4, d5, d6⟩ := hHeld; exact ⟨cell_later hb e00, cell_later hb e01, cell_later hb e02, cell_later hb d0, cell_later hb d2, cell_later hb d3, cell_later hb d4, cell_later hb d5, cell_later hb d6⟩)
  clear hK K hHeld
  have hHeld := hHeld2
  clear hHeld2
  rename World => wq
  (try simp only [Act.put, nz1, nz2, nz3])
  refine tk 11 ⟨some 36, .indexAddr 86 (.tmp 5) (.tmp 25), 0, _, _, _⟩ hHeld ?_
  (try simp only [Act.put, nz1, nz2, nz3])
  refine wpAnyH_ready (rs := [12]) (by kernel_rfl) (by simp) ?_
  refine AllReadyH.cons (o := ⟨none, .store 71 (.tmp 36) (.tmp 35), 0, _, _, _⟩) rfl (fun K hK => ?_) AllReadyH.nil
  ((obtain ⟨zc0, zd1⟩ := row2 Rk); (have zf0 := Rk.frozen 0); (have hHq := hHeld); (obtain ⟨e00, e01, e02, d0, d2, d3, d4, d5, d6⟩ := hHq); go_simp; clear zc0 zf0 zd1; (replace e00 := pcell_far (g := w1.heap.size) (o := 0) (vs := [Value.slice (some ⟨g0, 0, none⟩) N0 cp0]) e00 (by first | omega | (simp; done) | (simp; omega) | omega)); (replace e01 := pcell_far (g := w1.heap.size) (o := 0) (vs := [Value.slice (some ⟨g0, 0, none⟩) N0 cp0]) e01 (by first | omega | (simp; done) | (simp; omega) | omega)); (replace e02 := pcell_far (g := w1.heap.size) (o := 0) (vs := [Value.slice (some ⟨g0, 0, none⟩) N0 cp0]) e02 (by first | omega | (simp; done) | (simp; omega) | omega)); (replace d0 := pcell_far (g := w1.heap.size) (o := 0) (vs := [Value.slice (some ⟨g0, 0, none⟩) N0 cp0]) d0 (by first | omega | (simp; done) | (simp; omega) | omega)); (replace d2 := pcell_far (g := w1.heap.size) (o := 0) (vs := [Value.slice (some ⟨g0, 0, none⟩) N0 cp0]) d2 (by first | omega | (simp; done) | (simp; omega) | omega)); (replace d3 := pcell_far (g := w1.heap.size) (o := 0) (vs := [Value.slice (some ⟨g0, 0, none⟩) N0 cp0]) d3 (by first | omega | (simp; done) | (simp; omega) | omega)); (replace d4 := pcell_far (g := w1.heap.size) (o := 0) (vs := [Value.slice (some ⟨g0, 0, none⟩) N0 cp0]) d4 (by first | omega | (simp; done) | (simp; omega) | omega)); (replace d5 := pcell_far (g := w1.heap.size) (o := 0) (vs := [Value.slice (some ⟨g0, 0, none⟩) N0 cp0]) d5 (by first | omega | (simp; done) | (simp; omega) | omega)); (replace d6 := pcell_far (g := w1.heap.size) (o := 0) (vs := [Value.slice (some ⟨g0, 0, none⟩) N0 cp0]) d6 (by first | omega | (simp; done) | (simp; omega) | omega)); (replace Rc := prow_far (g := w1.heap.size) (o := 0) (vs := [Value.slice (some ⟨g0, 0, none⟩) N0 cp0]) Rc (by first | omega | (simp; done) | (simp; omega) | omega)); (replace Rd := prow_far (g := w1.heap.size) (o := 0) (vs := [Value.slice (some ⟨g0, 0, none⟩) N0 cp0]) Rd (by first | omega | (simp; done) | (simp; omega) | omega)); (replace Re0 := prow_far (g := w1.heap.size) (o := 0) (vs := [Value.slice (some ⟨g0, 0, none⟩) N0 cp0]) Re0 (by first | omega | (simp; done) | (simp; omega) | omega)); (replace Rx0 := prow_far (g := w1.heap.size) (o := 0) (vs := [Value.slice (some ⟨g0, 0, none⟩) N0 cp0]) Rx0 (by first | omega | (simp; done) | (simp; omega) | omega)); (replace hb0 := below_setCells (g := w1.heap.size) (by omega) [Value.slice (some ⟨g0, 0, none⟩) N0 cp0] 0 _ hb0); (replace Rk : Row (World.setCells wq w1.heap.size 0 [Value.slice (some ⟨g0, 0, none⟩) N0 cp0]) w1.heap.size #[.slice (some ⟨g0, 0, none⟩) N0 cp0, .slice none 0 0] 86 := Row.setMany Rk 0 [Value.slice (some ⟨g0, 0, none⟩) N0 cp0] (by simp [setL])); (simp only [World.setCells] at Rc Rd Rk Re0 Rx0 e00 e01 e02 d0 d2 d3 d4 d5 d6 hb0); generalize (World.setCell wq ⟨w1.heap.size, 0, none⟩ (Value.slice (some ⟨g0, 0, none⟩) N0 cp0)) = wz at *)
  refine hK.out _ _ ?hSr1_13_12 (fun hHeld2 => ?_)
  case hSr1_13_12 => (exact ⟨e00, e01, e02, d0, d2, d3, d4, d5, d6⟩)
  clear hK K hHeld
  have hHeld := hHeld2
  clear hHeld2
  rename World => wq
  (try simp only [Act.put, nz1, nz2, nz3])
  refine wpAnyH_done (by kernel_rfl) ?_ _
  dsimp only [onlyN]
  clear hHeld
  rename World => w4
  have lc := Rc.lt
  have ld := Rd.lt
  have lk := Rk.lt
  have le0 := Re0.lt
  have lx0 := Rx0.lt
  (try clear c0 c1 c2 c3 c4 c5 c6); obtain ⟨c0, c1, c2, c3, c4, c5, c6⟩ := row7 Rc
  (try clear d0 d1 d2 d3 d4 d5 d6 d7 d8 d9 d10 d11); obtain ⟨d0, d1, d2, d3, d4, d5, d6, d7, d8, d9, d10, d11⟩ := row12 Rd
  (try clear k0 k1); obtain ⟨k0, k1⟩ := row2 Rk
  (try clear e00 e01 e02); obtain ⟨e00, e01, e02⟩ := row3 Re0
  go_wp2_with fail
  rw [rounds_succ]
  go_wp2_with fail
  have ne1c := Rc.lt
  have ne1d := Rd.lt
  have ne1k := Rk.lt
  have ne1e0 := Re0.lt
  have ne1x0 := Rx0.lt
  replace Rc := Rc.alloc (.cells #[Value.int .i64 s.d1.kind, Value.int .i64 s.d1.side, Value.int .i64 s.d1.step] 23)
  replace Rd := Rd.alloc (.cells #[Value.int .i64 s.d1.kind, Value.int .i64 s.d1.side, Value.int .i64 s.d1.step] 23)
  replace Rk := Rk.alloc (.cells #[Value.int .i64 s.d1.kind, Value.int .i64 s.d1.side, Value.int .i64 s.d1.step] 23)
  replace Re0 := Re0.alloc (.cells #[Value.int .i64 s.d1.kind, Value.int .i64 s.d1.side, Value.int .i64 s.d1.step] 23)
  replace Rx0 := Rx0.alloc (.cells #[Value.int .i64 s.d1.kind, Value.int .i64 s.d1.side, Value.int .i64 s.d1.step] 23)
  have Re1 := Row.new w4 #[Value.int .i64 s.d1.kind, Value.int .i64 s.d1.side, Value.int .i64 s.d1.step] 23
  have me1 := hb0.size
  replace hb0 := hb0.alloc hb0.size (.cells #[Value.int .i64 s.d1.kind, Value.int .i64 s.d1.side, Value.int .i64 s.d1.step] 23)
  (try clear c0 c1 c2 c3 c4 c5 c6); obtain ⟨c0, c1, c2, c3, c4, c5, c6⟩ := row7 Rc
  (try clear d0 d1 d2 d3 d4 d5 d6 d7 d8 d9 d10 d11); obtain ⟨d0, d1, d2, d3, d4, d5, d6, d7, d8, d9, d10, d11⟩ := row12 Rd
  (try clear k0 k1); obtain ⟨k0, k1⟩ := row2 Rk
  (try clear e00 e01 e02); obtain ⟨e00, e01, e02⟩ := row3 Re0
  (try clear e10 e11 e12); obtain ⟨e10, e11, e12⟩ := row3 Re1
  have le1 := Re1.lt
  generalize (World.alloc w4 (.cells #[Value.int .i64 s.d1.kind, Value.int .i64 s.d1.side, Value.int .i64 s.d1.step] 23)) = w5 at *
  refine region_marks (S := (fun w' => w'.cell? ⟨w4.heap.size, 0, none⟩ = some (Value.int .i64 s.d1.kind) ∧ w'.cell? ⟨w4.heap.size, 1, none⟩ = some (Value.int .i64 s.d1.side) ∧ w'.cell? ⟨w4.heap.size, 2, none⟩ = some (Value.int .i64 s.d1.step) ∧ w'.cell? ⟨w.heap.size + 1, 1, none⟩ = some (Value.int .i64 p.a1) ∧ w'.cell? ⟨w.heap.size + 1, 7, none⟩ = some (Value.int .i64 p.k1.kind) ∧ w'.cell? ⟨w.heap.size + 1, 8, none⟩ = some (Value.int .i64 p.k1.len) ∧ w'.cell? ⟨w.heap.size + 1, 9, none⟩ = some (Value.int .u64 p.k1.h) ∧ w'.cell? ⟨w.heap.size + 1, 10, none⟩ = some (Value.int .u64 p.k1.l) ∧ w'.cell? ⟨w.heap.size + 1, 11, none⟩ = some (Value.string ⟨p.k1.path.toArray⟩))) (by kernel_rfl) ?hSr2_ (fun hHeld => ?_)
  case hSr2_ => (exact ⟨e10, e11, e12, d1, d7, d8, d9, d10, d11⟩)
  (clear c0 c1 c2 c3 c4 c5 c6 d0 d1 d2 d3 d4 d5 d6 d7 d8 d9 d10 d11 k0 k1 e00 e01 e02 e10 e11 e12; (replace Rc := Rc.drew); (replace Rd := Rd.drew); (replace Rk := Rk.drew); (replace Re0 := Re0.drew); (replace Rx0 := Rx0.drew); (replace Re1 := Re1.drew); (replace hb0 := hb0.drew); (generalize World.drew w5 = wq at *))
  refine tk 0 ⟨some 25, .move (.tmp 6), 3, _, _, _⟩ hHeld ?_
  (try simp only [Act.put, nz1, nz2, nz3])
  refine tk 1 ⟨some 26, .load 23 (.tmp 7), 23, _, _, _⟩ hHeld ?_
  (try simp only [Act.put, nz1, nz2, nz3])
  refine tk 2 ⟨some 27, .move (.tmp 6), 3, _, _, _⟩ hHeld ?_
  (try simp only [Act.put, nz1, nz2, nz3])
  refine tk 3 ⟨some 28, .fieldAddr 33 (.tmp 3) 0, 0, _, _, _⟩ hHeld ?_
  (try simp only [Act.put, nz1, nz2, nz3])
  refine tk 4 ⟨some 29, .indexAddr 27 (.tmp 28) (.tmp 27), 0, _, _, _⟩ hHeld ?_
  (try simp only [Act.put, nz1, nz2, nz3])
  refine tk 5 ⟨some 30, .load 3 (.tmp 29), 3, _, _, _⟩ hHeld ?_
  (try simp only [Act.put, nz1, nz2, nz3])
  refine tk 6 ⟨some 31, .move (.tmp 6), 3, _, _, _⟩ hHeld ?_
  (try simp only [Act.put, nz1, nz2, nz3])
  refine tk 7 ⟨some 32, .fieldAddr 33 (.tmp 3) 1, 0, _, _, _⟩ hHeld ?_
  (try simp only [Act.put, nz1, nz2, nz3])
  refine tk 8 ⟨some 33, .indexAddr 31 (.tmp 32) (.tmp 31), 0, _, _, _⟩ hHeld ?_
  (try simp only [Act.put, nz1, nz2, nz3])
  refine tk 9 ⟨some 34, .load 30 (.tmp 33), 30, _, _, _⟩ hHeld ?_
  (try simp only [Act.put, nz1, nz2, nz3])
  refine wpAnyH_ready (rs := [10]) (by kernel_rfl) (by simp) ?_
  refine AllReadyH.cons (o := ⟨some 35, .call { callee := .value (.func 75), args := #[.tmp 26, .tmp 30, .tmp 34], argTypes := #[23, 3, 30] }, 71, _, _, _⟩) rfl (fun K hK => ?_) AllReadyH.nil
  (go_simp; (have ycx1 := Rc.lt); (have ydx1 := Rd.lt); (have ykx1 := Rk.lt); (have ye0x1 := Re0.lt); (have yx0x1 := Rx0.lt); (have ye1x1 := Re1.lt); (refine (HU1 _).mono ?_); (rintro e wz ⟨g1, cp1, cur1, rfl, q11, q12, Rx1, hz1, hb⟩); (replace Rc := Rc.later hb); (replace Rd := Rd.later hb); (replace Rk := Rk.later hb); (replace Re0 := Re0.later hb); (replace Rx0 := Rx0.later hb); (replace Re1 := Re1.later hb); (replace hb0 := below_step hb0 hb); go_wp2_with fail)
  refine hK.out _ _ ?hSr2_11_10 (fun hHeld2 => ?_)
  case hSr2_11_10 => (obtain ⟨e10, e11, e12, d1, d7, d8, d9, d10, d11⟩ := hHeld; exact ⟨cell_later hb e10, cell_later hb e11, cell_later hb e12, cell_later hb d1, cell_later hb d7, cell_later hb d8, cell_later hb d9, cell_later hb d10, cell_later hb d11⟩)
  clear hK K hHeld
  have hHeld := hHeld2
  clear hHeld2
  rename World => wq
  (try simp only [Act.put, nz1, nz2, nz3])
  refine tk 11 ⟨some 36, .indexAddr 86 (.tmp 5) (.tmp 25), 0, _, _, _⟩ hHeld ?_
  (try simp only [Act.put, nz1, nz2, nz3])
  refine wpAnyH_ready (rs := [12]) (by kernel_rfl) (by simp) ?_
  refine AllReadyH.cons (o := ⟨none, .store 71 (.tmp 36) (.tmp 35), 0, _, _, _⟩) rfl (fun K hK => ?_) AllReadyH.nil
  ((obtain ⟨zd0, zc0⟩ := row2 Rk); (have zf0 := Rk.frozen 1); (have hHq := hHeld); (obtain ⟨e10, e11, e12, d1, d7, d8, d9, d10, d11⟩ := hHq); go_simp; clear zc0 zf0 zd0; (replace e10 := pcell_far (g := w1.heap.size) (o := 1) (vs := [Value.slice (some ⟨g1, 0, none⟩) N1 cp1]) e10 (by first | omega | (simp; done) | (simp; omega) | omega)); (replace e11 := pcell_far (g := w1.heap.size) (o := 1) (vs := [Value.slice (some ⟨g1, 0, none⟩) N1 cp1]) e11 (by first | omega | (simp; done) | (simp; omega) | omega)); (replace e12 := pcell_far (g := w1.heap.size) (o := 1) (vs := [Value.slice (some ⟨g1, 0, none⟩) N1 cp1]) e12 (by first | omega | (simp; done) | (simp; omega) | omega)); (replace d1 := pcell_far (g := w1.heap.size) (o := 1) (vs := [Value.slice (some ⟨g1, 0, none⟩) N1 cp1]) d1 (by first | omega | (simp; done) | (simp; omega) | omega)); (replace d7 := pcell_far (g := w1.heap.size) (o := 1) (vs := [Value.slice (some ⟨g1, 0, none⟩) N1 cp1]) d7 (by first | omega | (simp; done) | (simp; omega) | omega)); (replace d8 := pcell_far (g := w1.heap.size) (o := 1) (vs := [Value.slice (some ⟨g1, 0, none⟩) N1 cp1]) d8 (by first | omega | (simp; done) | (simp; omega) | omega)); (replace d9 := pcell_far (g := w1.heap.size) (o := 1) (vs := [Value.slice (some ⟨g1, 0, none⟩) N1 cp1]) d9 (by first | omega | (simp; done) | (simp; omega) | omega)); (replace d10 := pcell_far (g := w1.heap.size) (o := 1) (vs := [Value.slice (some ⟨g1, 0, none⟩) N1 cp1]) d10 (by first | omega | (simp; done) | (simp; omega) | omega)); (replace d11 := pcell_far (g := w1.heap.size) (o := 1) (vs := [Value.slice (some ⟨g1, 0, none⟩) N1 cp1]) d11 (by first | omega | (simp; done) | (simp; omega) | omega)); (replace Rc := prow_far (g := w1.heap.size) (o := 1) (vs := [Value.slice (some ⟨g1, 0, none⟩) N1 cp1]) Rc (by first | omega | (simp; done) | (simp; omega) | omega)); (replace Rd := prow_far (g := w1.heap.size) (o := 1) (vs := [Value.slice (some ⟨g1, 0, none⟩) N1 cp1]) Rd (by first | omega | (simp; done) | (simp; omega) | omega)); (replace Re0 := prow_far (g := w1.heap.size) (o := 1) (vs := [Value.slice (some ⟨g1, 0, none⟩) N1 cp1]) Re0 (by first | omega | (simp; done) | (simp; omega) | omega)); (replace Rx0 := prow_far (g := w1.heap.size) (o := 1) (vs := [Value.slice (some ⟨g1, 0, none⟩) N1 cp1]) Rx0 (by first | omega | (simp; done) | (simp; omega) | omega)); (replace Re1 := prow_far (g := w1.heap.size) (o := 1) (vs := [Value.slice (some ⟨g1, 0, none⟩) N1 cp1]) Re1 (by first | omega | (simp; done) | (simp; omega) | omega)); (replace Rx1 := prow_far (g := w1.heap.size) (o := 1) (vs := [Value.slice (some ⟨g1, 0, none⟩) N1 cp1]) Rx1 (by first | omega | (simp; done) | (simp; omega) | omega)); (replace hb0 := below_setCells (g := w1.heap.size) (by omega) [Value.slice (some ⟨g1, 0, none⟩) N1 cp1] 1 _ hb0); (replace Rk : Row (World.setCells wq w1.heap.size 1 [Value.slice (some ⟨g1, 0, none⟩) N1 cp1]) w1.heap.size #[.slice (some ⟨g0, 0, none⟩) N0 cp0, .slice (some ⟨g1, 0, none⟩) N1 cp1] 86 := Row.setMany Rk 1 [Value.slice (some ⟨g1, 0, none⟩) N1 cp1] (by simp [setL])); (simp only [World.setCells] at Rc Rd Rk Re0 Rx0 Re1 Rx1 e10 e11 e12 d1 d7 d8 d9 d10 d11 hb0); generalize (World.setCell wq ⟨w1.heap.size, 1, none⟩ (Value.slice (some ⟨g1, 0, none⟩) N1 cp1)) = wz at *)
  refine hK.out _ _ ?hSr2_13_12 (fun hHeld2 => ?_)
  case hSr2_13_12 => (exact ⟨e10, e11, e12, d1, d7, d8, d9, d10, d11⟩)
  clear hK K hHeld
  have hHeld := hHeld2
  clear hHeld2
  rename World => wq
  (try simp only [Act.put, nz1, nz2, nz3])
  refine wpAnyH_done (by kernel_rfl) ?_ _
  dsimp only [onlyN]
  clear hHeld
  rename World => w6
  have lc := Rc.lt
  have ld := Rd.lt
  have lk := Rk.lt
  have le0 := Re0.lt
  have lx0 := Rx0.lt
  have le1 := Re1.lt
  have lx1 := Rx1.lt
  (try clear c0 c1 c2 c3 c4 c5 c6); obtain ⟨c0, c1, c2, c3, c4, c5, c6⟩ := row7 Rc
  (try clear d0 d1 d2 d3 d4 d5 d6 d7 d8 d9 d10 d11); obtain ⟨d0, d1, d2, d3, d4, d5, d6, d7, d8, d9, d10, d11⟩ := row12 Rd
  (try clear k0 k1); obtain ⟨k0, k1⟩ := row2 Rk
  (try clear e00 e01 e02); obtain ⟨e00, e01, e02⟩ := row3 Re0
  (try clear e10 e11 e12); obtain ⟨e10, e11, e12⟩ := row3 Re1
  go_wp2_with fail
  rw [rounds_succ]
  go_wp2_with fail
  refine (HC _).mono ?_
  rintro e w7 ⟨rfl, hb⟩
  have nrc := Rc.lt
  have nrd := Rd.lt
  have nrk := Rk.lt
  have nre0 := Re0.lt
  have nrx0 := Rx0.lt
  have nre1 := Re1.lt
  have nrx1 := Rx1.lt
  replace Rc := (Rc.alloc _).later hb
  replace Rd := (Rd.alloc _).later hb
  replace Rk := (Rk.alloc _).later hb
  replace Re0 := (Re0.alloc _).later hb
  replace Rx0 := (Rx0.alloc _).later hb
  replace Re1 := (Re1.alloc _).later hb
  replace Rx1 := (Rx1.alloc _).later hb
  have Rr := Row.later (Row.new _ _ _) hb
  have mr := hb0.size
  replace hb0 := below_step (hb0.alloc hb0.size _) hb
  clear hb
  generalize w6.heap.size = gr at *
  have lc := Rc.lt
  have ld := Rd.lt
  have lk := Rk.lt
  have le0 := Re0.lt
  have lx0 := Rx0.lt
  have le1 := Re1.lt
  have lx1 := Rx1.lt
  have lr := Rr.lt
  (try clear c0 c1 c2 c3 c4 c5 c6); obtain ⟨c0, c1, c2, c3, c4, c5, c6⟩ := row7 Rc
  (try clear d0 d1 d2 d3 d4 d5 d6 d7 d8 d9 d10 d11); obtain ⟨d0, d1, d2, d3, d4, d5, d6, d7, d8, d9, d10, d11⟩ := row12 Rd
  (try clear k0 k1); obtain ⟨k0, k1⟩ := row2 Rk
  (try clear e00 e01 e02); obtain ⟨e00, e01, e02⟩ := row3 Re0
  (try clear e10 e11 e12); obtain ⟨e10, e11, e12⟩ := row3 Re1
  (try clear r0 r1); obtain ⟨r0, r1⟩ := row2 Rr
  go_wp2_with fail
  obtain ⟨RM, RL, RG, hb2⟩ := three_rows w7 (madeCells #[Value.int .i64 0, Value.int .i64 0, Value.int .i64 0, Value.int .i64 0, Value.int .u64 0, Value.int .u64 0, Value.string ⟨#[]⟩, Value.int .i64 0, Value.int .i64 0, Value.int .u64 0, Value.int .u64 0, Value.string ⟨#[]⟩] (N * 12)) #[.slice (some ⟨w7.heap.size, 0, none⟩) 0 N] #[.int .i64 ((N0 : Int) - 1), .int .i64 ((N1 : Int) - 1)] 33 60 75
  refine (HK _).mono ?_
  rintro e w8 ⟨rfl, rfl⟩
  replace hb0 := below_step hb0 hb2
  replace Rd := Rd.later hb2
  replace Rk := Rk.later hb2
  replace Rx0 := Rx0.later hb2
  replace Rx1 := Rx1.later hb2
  have hcs := size_madeCells (#[Value.int .i64 0, Value.int .i64 0, Value.int .i64 0, Value.int .i64 0, Value.int .u64 0, Value.int .u64 0, Value.string ⟨#[]⟩, Value.int .i64 0, Value.int .i64 0, Value.int .u64 0, Value.int .u64 0, Value.string ⟨#[]⟩]) (N * 12)
  have HO := OwnX.make (base := w7.heap.size) (cap := N) RM (Nat.le_refl _) (by unfold maxLen; omega) (by rw [hcs])
  have hs8 := RG.lt
  have hbl := Lib.hid (And.intro ld (And.intro lk (And.intro lx0 lx1)))
  clear RM hb2 Rc Re0 Re1 Rr c0 c1 c2 c3 c4 c5 c6 d0 d1 d2 d3 d4 d5 d6 d7 d8 d9 d10 d11 k0 k1 hmk hcs HC HK HR HU0 HU1 e00 e01 e02 e10 e11 e12 r0 r1
  generalize ((w7.alloc (.cells (madeCells #[Value.int .i64 0, Value.int .i64 0, Value.int .i64 0, Value.int .i64 0, Value.int .u64 0, Value.int .u64 0, Value.string ⟨#[]⟩, Value.int .i64 0, Value.int .i64 0, Value.int .u64 0, Value.int .u64 0, Value.string ⟨#[]⟩] (N * 12)) 33)).alloc (.cells #[.slice (some ⟨w7.heap.size, 0, none⟩) 0 N] 60)).alloc (.cells #[.int .i64 ((N0 : Int) - 1), .int .i64 ((N1 : Int) - 1)] 75) = w8 at *
  have hlk : w1.heap.size ≠ w.heap.size + 1 := by omega
  have HO' := Lib.hid HO
  have HB' := Lib.hid hb0
  have HR' := Lib.hid (And.intro RL (And.intro RG (And.intro Rd (And.intro Rk (And.intro Rx0 Rx1)))))
  obtain ⟨hl1, hl2, hl3, hl4⟩ := hbl.out
  clear HO hb0 RL RG Rd Rk Rx0 Rx1 hbl
  generalize w1.heap.size = gk at *
  go_wp2_with fail
  refine (wpIn_wide (n := 3)).1 ?_
  refine wpIn_rangeRA rfl (by omega) (gf := 96) (lb := #[.pointer (some ⟨w7.heap.size + 1 + 1, 0, none⟩)]) rfl trivial (enters_of Try.func96 (by kernel_rfl) rfl)
    (HQ.out _ w8 HR'.out.2.1) (fun h1 h2 => h2.trans h1) (fun W l o o' hl _ _ _ => World.putObj_heap_other (by omega)) (fun W o hW => Below.heap_alloc W o _ (by omega)) (Below.refl _ _) (fun k => by rw [HF.out k]; rfl)
    (fun k ρ V => (∃ po co, ρ = (Value.slice po k co).ownBlock ∧ Row V (w7.heap.size + 1) #[.slice po k co] 60 ∧ OwnX w7.heap.size V (.slice po k co) (L.take k)) ∧ (Below w.heap.size w V ∧ w8.heap.size ≤ V.heap.size) ∧ Row V (w7.heap.size + 1 + 1) #[.int .i64 ((N0 : Int) - 1), .int .i64 ((N1 : Int) - 1)] 75 ∧ Row V (w.heap.size + 1) #[.int .i64 p.a0, .int .i64 p.a1, .int .i64 p.k0.kind, .int .i64 p.k0.len, .int .u64 p.k0.h, .int .u64 p.k0.l, .string ⟨p.k0.path.toArray⟩, .int .i64 p.k1.kind, .int .i64 p.k1.len, .int .u64 p.k1.h, .int .u64 p.k1.l, .string ⟨p.k1.path.toArray⟩] 33 ∧ Row V gk #[.slice (some ⟨g0, 0, none⟩) N0 cp0, .slice (some ⟨g1, 0, none⟩) N1 cp1] 86 ∧ Row V g0 cur0 30 ∧ Row V g1 cur1 30)
    (fun c k ρ V => False)
    (fun k ρ V V' hs hst => by
      obtain ⟨⟨po, co, rfl, h1, h2⟩, ⟨h3, h4⟩, h5, h6, h7, h8, h9⟩ := hs
      exact ⟨⟨po, co, rfl, (hst.block _ h1.lt (.inl (by omega))).trans h1, h2.stays hst⟩, ⟨hst.below h3 (Nat.le_refl _) (by omega), Nat.le_trans h4 hst.size⟩, (hst.block _ h5.lt (.inl (by omega))).trans h5, (hst.block _ h6.lt (.inl (by omega))).trans h6, (hst.block _ h7.lt (.inl (by omega))).trans h7, (hst.block _ h8.lt (.inl (by omega))).trans h8, (hst.block _ h9.lt (.inl (by omega))).trans h9⟩)
    (fun c k ρ V V' hs hst => hs.elim)
    (fun k ρ V hs => by obtain ⟨⟨po, co, rfl, h1, h2⟩, _⟩ := hs; exact h2.cellsy)
    (fun c k ρ V hs => hs.elim)
    (some w7.heap.size) ⟨⟨_, N, rfl, HR'.out.1, HO'.out⟩, ⟨HB'.out, Nat.le_refl _⟩, HR'.out.2⟩
    (fun k => .cells #[.int .i64 ((X k).1 : Int), .int .i64 ((X k).2 : Int)] 27)
    (fun k b => { tmps := #[.agg #[.int .i64 s.n, .int .i64 s.d0.kind, .int .i64 s.d0.side, .int .i64 s.d0.step, .int .i64 s.d1.kind, .int .i64 s.d1.side, .int .i64 s.d1.step], .agg #[.int .i64 p.a0, .int .i64 p.a1, .int .i64 p.k0.kind, .int .i64 p.k0.len, .int .u64 p.k0.h, .int .u64 p.k0.l, .string ⟨p.k0.path.toArray⟩, .int .i64 p.k1.kind, .int .i64 p.k1.len, .int .u64 p.k1.h, .int .u64 p.k1.l, .string ⟨p.k1.path.toArray⟩], .pointer (some ⟨w.heap.size, 0, none⟩), .pointer (some ⟨w.heap.size + 1, 0, none⟩), .slice none 0 0, .pointer (some ⟨gk, 0, none⟩), .int .i64 1, .pointer (some ⟨w4.heap.size, 0, none⟩), .pointer (some ⟨gr, 0, none⟩), .pointer (some ⟨w7.heap.size + 1, 0, none⟩), undef, .pointer (some ⟨b, 0, none⟩), undef, undef, undef, .agg #[.int .i64 s.n, .int .i64 s.d0.kind, .int .i64 s.d0.side, .int .i64 s.d0.step, .int .i64 s.d1.kind, .int .i64 s.d1.side, .int .i64 s.d1.step], .agg #[.int .i64 p.a0, .int .i64 p.a1, .int .i64 p.k0.kind, .int .i64 p.k0.len, .int .u64 p.k0.h, .int .u64 p.k0.l, .string ⟨p.k0.path.toArray⟩, .int .i64 p.k1.kind, .int .i64 p.k1.len, .int .u64 p.k1.h, .int .u64 p.k1.l, .string ⟨p.k1.path.toArray⟩], .bool true, .bool false, .pointer (some ⟨w.heap.size, 1, none⟩), .agg #[.int .i64 s.d0.kind, .int .i64 s.d0.side, .int .i64 s.d0.step, .int .i64 s.d1.kind, .int .i64 s.d1.side, .int .i64 s.d1.step], .int .i64 2, .bool false, .int .i64 1, .agg #[.int .i64 s.d1.kind, .int .i64 s.d1.side, .int .i64 s.d1.step], .int .i64 1, .agg #[.int .i64 s.d1.kind, .int .i64 s.d1.side, .int .i64 s.d1.step], .int .i64 1, .pointer (some ⟨w.heap.size + 1, 0, none⟩), .pointer (some ⟨w.heap.size + 1, 1, none⟩), .int .i64 p.a1, .int .i64 1, .pointer (some ⟨w.heap.size + 1, 2, none⟩), .pointer (some ⟨w.heap.size + 1, 7, none⟩), .agg #[.int .i64 p.k1.kind, .int .i64 p.k1.len, .int .u64 p.k1.h, .int .u64 p.k1.l, .string ⟨p.k1.path.toArray⟩], .slice (some ⟨g1, 0, none⟩) N1 cp1, .pointer (some ⟨gk, 1, none⟩), .int .i64 2, .pointer (some ⟨gk, 0, none⟩), .slice (some ⟨g0, 0, none⟩) N0 cp0, .int .i64 (N0 : Int), .int .i64 ((N0 : Int) - 1), .pointer (some ⟨gk, 1, none⟩), .slice (some ⟨g1, 0, none⟩) N1 cp1, .int .i64 (N1 : Int), .int .i64 ((N1 : Int) - 1), .agg #[.int .i64 ((N0 : Int) - 1), .int .i64 ((N1 : Int) - 1)], .agg #[.int .i64 ((N0 : Int) - 1), .int .i64 ((N1 : Int) - 1)], .int .i64 (N : Int), .slice (some ⟨w7.heap.size, 0, none⟩) 0 N, .agg #[.int .i64 ((N0 : Int) - 1), .int .i64 ((N1 : Int) - 1)], .func (.func 96) #[] #[.pointer (some ⟨w7.heap.size + 1 + 1, 0, none⟩)], .int .i64 (k : Int), .agg #[.int .i64 ((X k).1 : Int), .int .i64 ((X k).2 : Int)], undef, undef, undef, undef, undef, undef, undef, undef, undef, undef, undef, undef, undef, undef, undef, undef, undef, undef, undef, undef, undef, undef, undef, undef, undef, undef, undef, undef, undef], defers := [] }) ?assign ?body ?done ?stop
  case assign =>
    intro i k W K hK
    rw [HF.out k]
    gi_wp2
    exact hK
  case body =>
    rintro i k b ρ V hkN ⟨⟨po, co, rfl, RO, HO⟩, ⟨hB, hsz⟩, RG, Rd, Rk, Rx0, Rx1⟩ hbx hbb hne
    have Ru : Row V b #[.int .i64 ((X k).1 : Int), .int .i64 ((X k).2 : Int)] 27 := hbx
    obtain ⟨xm0, xm1, hG⟩ := HL.out.2.2.2 k hkN
    have hTk := HL.out.2.1 k (by omega)
    have hTk1 := HL.out.2.1 (k + 1) (by omega)
    generalize (X k).1 = m0 at *
    generalize (X k).2 = m1 at *
    have Z0 := Lib.hid (hz0.out m0 xm0)
    have Z1 := Lib.hid (hz1.out m1 xm1)
    generalize C0 m0 = kk0 at *
    generalize C1 m1 = kk1 at *
    have i0 := ixa0
    have i1 := ixa1
    have wq0 : IntKind.i64.wrap (p.a0 + (m0 : Int)) = p.a0 + (m0 : Int) := IntWalk.i64_in _ (by have := HA.out; omega)
    have wq1 : IntKind.i64.wrap (p.a1 + (m1 : Int)) = p.a1 + (m1 : Int) := IntWalk.i64_in _ (by have := HA.out; omega)
    have xm0' : (m0 : Int) < (N0 : Int) := by omega
    have xm1' : (m1 : Int) < (N1 : Int) := by omega
    have HGx := Lib.hid (And.intro hG (And.intro hTk hTk1))
    have HOx := Lib.hid HO
    have HBx := Lib.hid (And.intro hB hsz)
    have HRx := Lib.hid (And.intro RO RG)
    have lo := RO.lt
    have lgv := RG.lt
    have ldv := Rd.lt
    have lkv := Rk.lt
    have lxv0 := Rx0.lt
    have lxv1 := Rx1.lt
    have luv := Ru.lt
    clear hG hTk hTk1 HO hB hsz RO RG hbx hne HO' HB' HR' hz0 hz1
    have hb0 : Below V.heap.size V V := Below.refl _ _
    (try clear d0 d1 d2 d3 d4 d5 d6 d7 d8 d9 d10 d11); obtain ⟨d0, d1, d2, d3, d4, d5, d6, d7, d8, d9, d10, d11⟩ := row12 Rd
    (try clear k0 k1); obtain ⟨k0, k1⟩ := row2 Rk
    (try clear u0 u1); obtain ⟨u0, u1⟩ := row2 Ru
    gi_wp2_with fail
    have nqd := Rd.lt
    have nqk := Rk.lt
    have nqu := Ru.lt
    have nqx0 := Rx0.lt
    have nqx1 := Rx1.lt
    replace Rd := Rd.alloc (.cells #[Value.int .i64 0, Value.int .i64 0, Value.int .i64 0, Value.int .i64 0, Value.int .u64 0, Value.int .u64 0, Value.string ⟨#[]⟩, Value.int .i64 0, Value.int .i64 0, Value.int .u64 0, Value.int .u64 0, Value.string ⟨#[]⟩] 33)
    replace Rk := Rk.alloc (.cells #[Value.int .i64 0, Value.int .i64 0, Value.int .i64 0, Value.int .i64 0, Value.int .u64 0, Value.int .u64 0, Value.string ⟨#[]⟩, Value.int .i64 0, Value.int .i64 0, Value.int .u64 0, Value.int .u64 0, Value.string ⟨#[]⟩] 33)
    replace Ru := Ru.alloc (.cells #[Value.int .i64 0, Value.int .i64 0, Value.int .i64 0, Value.int .i64 0, Value.int .u64 0, Value.int .u64 0, Value.string ⟨#[]⟩, Value.int .i64 0, Value.int .i64 0, Value.int .u64 0, Value.int .u64 0, Value.string ⟨#[]⟩] 33)
    replace Rx0 := Rx0.alloc (.cells #[Value.int .i64 0, Value.int .i64 0, Value.int .i64 0, Value.int .i64 0, Value.int .u64 0, Value.int .u64 0, Value.string ⟨#[]⟩, Value.int .i64 0, Value.int .i64 0, Value.int .u64 0, Value.int .u64 0, Value.string ⟨#[]⟩] 33)
    replace Rx1 := Rx1.alloc (.cells #[Value.int .i64 0, Value.int .i64 0, Value.int .i64 0, Value.int .i64 0, Value.int .u64 0, Value.int .u64 0, Value.string ⟨#[]⟩, Value.int .i64 0, Value.int .i64 0, Value.int .u64 0, Value.int .u64 0, Value.string ⟨#[]⟩] 33)
    have Rq := Row.new V #[Value.int .i64 0, Value.int .i64 0, Value.int .i64 0, Value.int .i64 0, Value.int .u64 0, Value.int .u64 0, Value.string ⟨#[]⟩, Value.int .i64 0, Value.int .i64 0, Value.int .u64 0, Value.int .u64 0, Value.string ⟨#[]⟩] 33
    have mq := hb0.size
    replace hb0 := hb0.alloc hb0.size (.cells #[Value.int .i64 0, Value.int .i64 0, Value.int .i64 0, Value.int .i64 0, Value.int .u64 0, Value.int .u64 0, Value.string ⟨#[]⟩, Value.int .i64 0, Value.int .i64 0, Value.int .u64 0, Value.int .u64 0, Value.string ⟨#[]⟩] 33)
    (try clear d0 d1 d2 d3 d4 d5 d6 d7 d8 d9 d10 d11); obtain ⟨d0, d1, d2, d3, d4, d5, d6, d7, d8, d9, d10, d11⟩ := row12 Rd
    (try clear k0 k1); obtain ⟨k0, k1⟩ := row2 Rk
    (try clear u0 u1); obtain ⟨u0, u1⟩ := row2 Ru
    (try clear q0 q1 q2 q3 q4 q5 q6 q7 q8 q9 q10 q11); obtain ⟨q0, q1, q2, q3, q4, q5, q6, q7, q8, q9, q10, q11⟩ := row12 Rq
    have lq := Rq.lt
    generalize (World.alloc V (.cells #[Value.int .i64 0, Value.int .i64 0, Value.int .i64 0, Value.int .i64 0, Value.int .u64 0, Value.int .u64 0, Value.string ⟨#[]⟩, Value.int .i64 0, Value.int .i64 0, Value.int .u64 0, Value.int .u64 0, Value.string ⟨#[]⟩] 33)) = w1 at *
    refine wpIn_loop_rounds 3 ?_
    rw [roundsIn_succ]
    gi_wp2_with fail
    have z00 := (Rx0.cell (m0 * 5)).trans (Z0.out 0 _ rfl)
    have z01 := (Rx0.cell (m0 * 5 + 1)).trans (Z0.out 1 _ rfl)
    have z02 := (Rx0.cell (m0 * 5 + 2)).trans (Z0.out 2 _ rfl)
    have z03 := (Rx0.cell (m0 * 5 + 3)).trans (Z0.out 3 _ rfl)
    have z04 := (Rx0.cell (m0 * 5 + 4)).trans (Z0.out 4 _ rfl)
    refine region_in_round (fun ⟨_, _, h⟩ => h) (by kernel_rfl) (S := (fun w' => w'.cell? ⟨w.heap.size + 1, 0, none⟩ = some (Value.int .i64 p.a0) ∧ w'.cell? ⟨gk, 0, none⟩ = some (Value.slice (some ⟨g0, 0, none⟩) N0 cp0) ∧ w'.cell? ⟨g0, m0 * 5, none⟩ = some (Value.int .i64 kk0.kind) ∧ w'.cell? ⟨g0, m0 * 5 + 1, none⟩ = some (Value.int .i64 kk0.len) ∧ w'.cell? ⟨g0, m0 * 5 + 2, none⟩ = some (Value.int .u64 kk0.h) ∧ w'.cell? ⟨g0, m0 * 5 + 3, none⟩ = some (Value.int .u64 kk0.l) ∧ w'.cell? ⟨g0, m0 * 5 + 4, none⟩ = some (Value.string ⟨kk0.path.toArray⟩))) (by kernel_rfl) ?hSr3_ (fun hHeld => ?_)
    case hSr3_ => (exact ⟨d0, k0, z00, z01, z02, z03, z04⟩)
    (clear d0 d1 d2 d3 d4 d5 d6 d7 d8 d9 d10 d11 k0 k1 u0 u1 q0 q1 q2 q3 q4 q5 q6 q7 q8 q9 q10 q11; (replace Rd := Rd.drew); (replace Rk := Rk.drew); (replace Ru := Ru.drew); (replace Rx0 := Rx0.drew); (replace Rx1 := Rx1.drew); (replace Rq := Rq.drew); (replace hb0 := hb0.drew); (generalize World.drew w1 = wq at *))
    refine tk 0 ⟨some 59, .move (.tmp 13), 3, _, _, _⟩ hHeld ?_
    (try simp only [Act.put, nz1, nz2, nz3])
    refine tk 1 ⟨some 60, .move (.tmp 13), 3, _, _, _⟩ hHeld ?_
    (try simp only [Act.put, nz1, nz2, nz3])
    refine tk 2 ⟨some 61, .move (.tmp 13), 3, _, _, _⟩ hHeld ?_
    (try simp only [Act.put, nz1, nz2, nz3])
    refine tk 3 ⟨some 62, .fieldAddr 33 (.tmp 3) 0, 0, _, _, _⟩ hHeld ?_
    (try simp only [Act.put, nz1, nz2, nz3])
    refine tk 4 ⟨some 63, .indexAddr 27 (.tmp 62) (.tmp 61), 0, _, _, _⟩ hHeld ?_
    (try simp only [Act.put, nz1, nz2, nz3])
    refine tk 5 ⟨some 64, .load 3 (.tmp 63), 3, _, _, _⟩ hHeld ?_
    (try simp only [Act.put, nz1, nz2, nz3])
    refine tk 6 ⟨some 65, .move (.tmp 14), 3, _, _, _⟩ hHeld ?_
    (try simp only [Act.put, nz1, nz2, nz3])
    refine tk 7 ⟨some 66, .binOp .add 3 (.tmp 64) (.tmp 65) 3, 3, _, _, _⟩ hHeld ?_
    (try simp only [Act.put, nz1, nz2, nz3])
    refine tk 8 ⟨some 67, .move (.tmp 13), 3, _, _, _⟩ hHeld ?_
    (try simp only [Act.put, nz1, nz2, nz3])
    refine tk 9 ⟨some 68, .indexAddr 86 (.tmp 5) (.tmp 67), 0, _, _, _⟩ hHeld ?_
    (try simp only [Act.put, nz1, nz2, nz3])
    refine tk 10 ⟨some 69, .load 71 (.tmp 68), 71, _, _, _⟩ hHeld ?_
    (try simp only [Act.put, nz1, nz2, nz3])
    refine tk 11 ⟨some 70, .move (.tmp 14), 3, _, _, _⟩ hHeld ?_
    (try simp only [Act.put, nz1, nz2, nz3])
    refine tk 12 ⟨some 71, .indexAddr 71 (.tmp 69) (.tmp 70), 0, _, _, _⟩ hHeld ?_
    (try simp only [Act.put, nz1, nz2, nz3])
    refine tk 13 ⟨some 72, .load 30 (.tmp 71), 30, _, _, _⟩ hHeld ?_
    (try simp only [Act.put, nz1, nz2, nz3])
    refine tk 14 ⟨some 73, .fieldAddr 33 (.tmp 12) 0, 0, _, _, _⟩ hHeld ?_
    (try simp only [Act.put, nz1, nz2, nz3])
    refine tk 15 ⟨some 74, .indexAddr 27 (.tmp 73) (.tmp 59), 0, _, _, _⟩ hHeld ?_
    (try simp only [Act.put, nz1, nz2, nz3])
    refine tk 17 ⟨some 75, .fieldAddr 33 (.tmp 12) 1, 0, _, _, _⟩ hHeld ?_
    (try simp only [Act.put, nz1, nz2, nz3])
    refine wpAnyH_ready (rs := [16]) (by kernel_rfl) (by simp) ?_
    refine AllReadyH.cons (o := ⟨none, .store 3 (.tmp 74) (.tmp 66), 0, _, _, _⟩) rfl (fun K hK => ?_) AllReadyH.nil
    ((obtain ⟨zc0, zd1, zd2, zd3, zd4, zd5, zd6, zd7, zd8, zd9, zd10, zd11⟩ := row12 Rq); (have zf0 := Rq.frozen 0); (have hHq := hHeld); (obtain ⟨d0, k0, z00, z01, z02, z03, z04⟩ := hHq); go_simp; clear zc0 zf0 zd1 zd2 zd3 zd4 zd5 zd6 zd7 zd8 zd9 zd10 zd11; (replace d0 := pcell_far (g := V.heap.size) (o := 0) (vs := [Value.int .i64 (p.a0 + (m0 : Int))]) d0 (by first | omega | (simp; done) | (simp; omega) | omega)); (replace k0 := pcell_far (g := V.heap.size) (o := 0) (vs := [Value.int .i64 (p.a0 + (m0 : Int))]) k0 (by first | omega | (simp; done) | (simp; omega) | omega)); (replace z00 := pcell_far (g := V.heap.size) (o := 0) (vs := [Value.int .i64 (p.a0 + (m0 : Int))]) z00 (by first | omega | (simp; done) | (simp; omega) | omega)); (replace z01 := pcell_far (g := V.heap.size) (o := 0) (vs := [Value.int .i64 (p.a0 + (m0 : Int))]) z01 (by first | omega | (simp; done) | (simp; omega) | omega)); (replace z02 := pcell_far (g := V.heap.size) (o := 0) (vs := [Value.int .i64 (p.a0 + (m0 : Int))]) z02 (by first | omega | (simp; done) | (simp; omega) | omega)); (replace z03 := pcell_far (g := V.heap.size) (o := 0) (vs := [Value.int .i64 (p.a0 + (m0 : Int))]) z03 (by first | omega | (simp; done) | (simp; omega) | omega)); (replace z04 := pcell_far (g := V.heap.size) (o := 0) (vs := [Value.int .i64 (p.a0 + (m0 : Int))]) z04 (by first | omega | (simp; done) | (simp; omega) | omega)); (replace Rd := prow_far (g := V.heap.size) (o := 0) (vs := [Value.int .i64 (p.a0 + (m0 : Int))]) Rd (by first | omega | (simp; done) | (simp; omega) | omega)); (replace Rk := prow_far (g := V.heap.size) (o := 0) (vs := [Value.int .i64 (p.a0 + (m0 : Int))]) Rk (by first | omega | (simp; done) | (simp; omega) | omega)); (replace Ru := prow_far (g := V.heap.size) (o := 0) (vs := [Value.int .i64 (p.a0 + (m0 : Int))]) Ru (by first | omega | (simp; done) | (simp; omega) | omega)); (replace Rx0 := prow_far (g := V.heap.size) (o := 0) (vs := [Value.int .i64 (p.a0 + (m0 : Int))]) Rx0 (by first | omega | (simp; done) | (simp; omega) | omega)); (replace Rx1 := prow_far (g := V.heap.size) (o := 0) (vs := [Value.int .i64 (p.a0 + (m0 : Int))]) Rx1 (by first | omega | (simp; done) | (simp; omega) | omega)); (replace hb0 := below_setCells (g := V.heap.size) (by omega) [Value.int .i64 (p.a0 + (m0 : Int))] 0 _ hb0); (replace Rq : Row (World.setCells wq V.heap.size 0 [Value.int .i64 (p.a0 + (m0 : Int))]) V.heap.size #[.int .i64 (p.a0 + (m0 : Int)), .int .i64 0, .int .i64 0, .int .i64 0, .int .u64 0, .int .u64 0, .string ⟨#[]⟩, .int .i64 0, .int .i64 0, .int .u64 0, .int .u64 0, .string ⟨#[]⟩] 33 := Row.setMany Rq 0 [Value.int .i64 (p.a0 + (m0 : Int))] (by simp [setL])); (simp only [World.setCells] at Rd Rk Ru Rx0 Rx1 Rq d0 k0 z00 z01 z02 z03 z04 hb0); generalize (World.setCell wq ⟨V.heap.size, 0, none⟩ (Value.int .i64 (p.a0 + (m0 : Int)))) = wz at *)
    refine hK.out _ _ ?hSr3_18_16 (fun hHeld2 => ?_)
    case hSr3_18_16 => (exact ⟨d0, k0, z00, z01, z02, z03, z04⟩)
    clear hK K hHeld
    have hHeld := hHeld2
    clear hHeld2
    rename World => wq
    (try simp only [Act.put, nz1, nz2, nz3])
    refine tk 18 ⟨some 76, .indexAddr 31 (.tmp 75) (.tmp 60), 0, _, _, _⟩ hHeld ?_
    (try simp only [Act.put, nz1, nz2, nz3])
    refine wpAnyH_ready (rs := [19]) (by kernel_rfl) (by simp) ?_
    refine AllReadyH.cons (o := ⟨none, .store 30 (.tmp 76) (.tmp 72), 0, _, _, _⟩) rfl (fun K hK => ?_) AllReadyH.nil
    ((rw [if_pos (by rfl)]); (with_reducible refine pst 30 (.tmp 76) (.tmp 72) ?_ V.heap.size 2 #[.int .i64 kk0.kind, .int .i64 kk0.len, .int .u64 kk0.h, .int .u64 kk0.l, .string ⟨kk0.path.toArray⟩] ?_ ?_ ?_ ?_ ?_ ?_); rfl; rfl; rfl; (exact Row.thereAt Rq 2 _ (by simp)); (exact infoKe); (simp [Value.oneCell']); (rintro wz hwz); (have hHq := hHeld); (obtain ⟨d0, k0, z00, z01, z02, z03, z04⟩ := hHq); (replace d0 := pcf hwz d0); (replace k0 := pcf hwz k0); (replace z00 := pcf hwz z00); (replace z01 := pcf hwz z01); (replace z02 := pcf hwz z02); (replace z03 := pcf hwz z03); (replace z04 := pcf hwz z04); (replace Rd := prf hwz Rd); (replace Rk := prf hwz Rk); (replace Ru := prf hwz Ru); (replace Rx0 := prf hwz Rx0); (replace Rx1 := prf hwz Rx1); (replace hb0 := pbl hwz hb0); (replace Rq : Row wz V.heap.size #[.int .i64 (p.a0 + (m0 : Int)), .int .i64 0, .int .i64 kk0.kind, .int .i64 kk0.len, .int .u64 kk0.h, .int .u64 kk0.l, .string ⟨kk0.path.toArray⟩, .int .i64 0, .int .i64 0, .int .u64 0, .int .u64 0, .string ⟨#[]⟩] 33 := psm hwz Rq (by simp [setL])); clear hwz)
    refine hK.out _ _ ?hSr3_20_19 (fun hHeld2 => ?_)
    case hSr3_20_19 => (exact ⟨d0, k0, z00, z01, z02, z03, z04⟩)
    clear hK K hHeld
    have hHeld := hHeld2
    clear hHeld2
    rename World => wq
    (try simp only [Act.put, nz1, nz2, nz3])
    refine wpAnyH_done (by kernel_rfl) ?_ _
    clear hHeld
    rename World => w2
    have ld := Rd.lt
    have lk := Rk.lt
    have lu := Ru.lt
    have lx0 := Rx0.lt
    have lx1 := Rx1.lt
    have lq := Rq.lt
    (try clear d0 d1 d2 d3 d4 d5 d6 d7 d8 d9 d10 d11); obtain ⟨d0, d1, d2, d3, d4, d5, d6, d7, d8, d9, d10, d11⟩ := row12 Rd
    (try clear k0 k1); obtain ⟨k0, k1⟩ := row2 Rk
    (try clear u0 u1); obtain ⟨u0, u1⟩ := row2 Ru
    (try clear q0 q1 q2 q3 q4 q5 q6 q7 q8 q9 q10 q11); obtain ⟨q0, q1, q2, q3, q4, q5, q6, q7, q8, q9, q10, q11⟩ := row12 Rq
    gi_wp2_with fail
    rw [roundsIn_succ]
    gi_wp2_with fail
    have z10 := (Rx1.cell (m1 * 5)).trans (Z1.out 0 _ rfl)
    have z11 := (Rx1.cell (m1 * 5 + 1)).trans (Z1.out 1 _ rfl)
    have z12 := (Rx1.cell (m1 * 5 + 2)).trans (Z1.out 2 _ rfl)
    have z13 := (Rx1.cell (m1 * 5 + 3)).trans (Z1.out 3 _ rfl)
    have z14 := (Rx1.cell (m1 * 5 + 4)).trans (Z1.out 4 _ rfl)
    refine region_in_round (fun ⟨_, _, h⟩ => h) (by kernel_rfl) (S := (fun w' => w'.cell? ⟨w.heap.size + 1, 1, none⟩ = some (Value.int .i64 p.a1) ∧ w'.cell? ⟨gk, 1, none⟩ = some (Value.slice (some ⟨g1, 0, none⟩) N1 cp1) ∧ w'.cell? ⟨g1, m1 * 5, none⟩ = some (Value.int .i64 kk1.kind) ∧ w'.cell? ⟨g1, m1 * 5 + 1, none⟩ = some (Value.int .i64 kk1.len) ∧ w'.cell? ⟨g1, m1 * 5 + 2, none⟩ = some (Value.int .u64 kk1.h) ∧ w'.cell? ⟨g1, m1 * 5 + 3, none⟩ = some (Value.int .u64 kk1.l) ∧ w'.cell? ⟨g1, m1 * 5 + 4, none⟩ = some (Value.string ⟨kk1.path.toArray⟩))) (by kernel_rfl) ?hSr4_ (fun hHeld => ?_)
    case hSr4_ => (exact ⟨d1, k1, z10, z11, z12, z13, z14⟩)
    (clear d0 d1 d2 d3 d4 d5 d6 d7 d8 d9 d10 d11 k0 k1 u0 u1 q0 q1 q2 q3 q4 q5 q6 q7 q8 q9 q10 q11; (replace Rd := Rd.drew); (replace Rk := Rk.drew); (replace Ru := Ru.drew); (replace Rx0 := Rx0.drew); (replace Rx1 := Rx1.drew); (replace Rq := Rq.drew); (replace hb0 := hb0.drew); (generalize World.drew w2 = wq at *))
    refine tk 0 ⟨some 59, .move (.tmp 13), 3, _, _, _⟩ hHeld ?_
    (try simp only [Act.put, nz1, nz2, nz3])
    refine tk 1 ⟨some 60, .move (.tmp 13), 3, _, _, _⟩ hHeld ?_
    (try simp only [Act.put, nz1, nz2, nz3])
    refine tk 2 ⟨some 61, .move (.tmp 13), 3, _, _, _⟩ hHeld ?_
    (try simp only [Act.put, nz1, nz2, nz3])
    refine tk 3 ⟨some 62, .fieldAddr 33 (.tmp 3) 0, 0, _, _, _⟩ hHeld ?_
    (try simp only [Act.put, nz1, nz2, nz3])
    refine tk 4 ⟨some 63, .indexAddr 27 (.tmp 62) (.tmp 61), 0, _, _, _⟩ hHeld ?_
    (try simp only [Act.put, nz1, nz2, nz3])
    refine tk 5 ⟨some 64, .load 3 (.tmp 63), 3, _, _, _⟩ hHeld ?_
    (try simp only [Act.put, nz1, nz2, nz3])
    refine tk 6 ⟨some 65, .move (.tmp 14), 3, _, _, _⟩ hHeld ?_
    (try simp only [Act.put, nz1, nz2, nz3])
    refine tk 7 ⟨some 66, .binOp .add 3 (.tmp 64) (.tmp 65) 3, 3, _, _, _⟩ hHeld ?_
    (try simp only [Act.put, nz1, nz2, nz3])
    refine tk 8 ⟨some 67, .move (.tmp 13), 3, _, _, _⟩ hHeld ?_
    (try simp only [Act.put, nz1, nz2, nz3])
    refine tk 9 ⟨some 68, .indexAddr 86 (.tmp 5) (.tmp 67), 0, _, _, _⟩ hHeld ?_
    (try simp only [Act.put, nz1, nz2, nz3])
    refine tk 10 ⟨some 69, .load 71 (.tmp 68), 71, _, _, _⟩ hHeld ?_
    (try simp only [Act.put, nz1, nz2, nz3])
    refine tk 11 ⟨some 70, .move (.tmp 14), 3, _, _, _⟩ hHeld ?_
    (try simp only [Act.put, nz1, nz2, nz3])
    refine tk 12 ⟨some 71, .indexAddr 71 (.tmp 69) (.tmp 70), 0, _, _, _⟩ hHeld ?_
    (try simp only [Act.put, nz1, nz2, nz3])
    refine tk 13 ⟨some 72, .load 30 (.tmp 71), 30, _, _, _⟩ hHeld ?_
    (try simp only [Act.put, nz1, nz2, nz3])
    refine tk 14 ⟨some 73, .fieldAddr 33 (.tmp 12) 0, 0, _, _, _⟩ hHeld ?_
    (try simp only [Act.put, nz1, nz2, nz3])
    refine tk 15 ⟨some 74, .indexAddr 27 (.tmp 73) (.tmp 59), 0, _, _, _⟩ hHeld ?_
    (try simp only [Act.put, nz1, nz2, nz3])
    refine tk 17 ⟨some 75, .fieldAddr 33 (.tmp 12) 1, 0, _, _, _⟩ hHeld ?_
    (try simp only [Act.put, nz1, nz2, nz3])
    refine wpAnyH_ready (rs := [16]) (by kernel_rfl) (by simp) ?_
    refine AllReadyH.cons (o := ⟨none, .store 3 (.tmp 74) (.tmp 66), 0, _, _, _⟩) rfl (fun K hK => ?_) AllReadyH.nil
    ((obtain ⟨zd0, zc0, zd2, zd3, zd4, zd5, zd6, zd7, zd8, zd9, zd10, zd11⟩ := row12 Rq); (have zf0 := Rq.frozen 1); (have hHq := hHeld); (obtain ⟨d1, k1, z10, z11, z12, z13, z14⟩ := hHq); go_simp; clear zc0 zf0 zd0 zd2 zd3 zd4 zd5 zd6 zd7 zd8 zd9 zd10 zd11; (replace d1 := pcell_far (g := V.heap.size) (o := 1) (vs := [Value.int .i64 (p.a1 + (m1 : Int))]) d1 (by first | omega | (simp; done) | (simp; omega) | omega)); (replace k1 := pcell_far (g := V.heap.size) (o := 1) (vs := [Value.int .i64 (p.a1 + (m1 : Int))]) k1 (by first | omega | (simp; done) | (simp; omega) | omega)); (replace z10 := pcell_far (g := V.heap.size) (o := 1) (vs := [Value.int .i64 (p.a1 + (m1 : Int))]) z10 (by first | omega | (simp; done) | (simp; omega) | omega)); (replace z11 := pcell_far (g := V.heap.size) (o := 1) (vs := [Value.int .i64 (p.a1 + (m1 : Int))]) z11 (by first | omega | (simp; done) | (simp; omega) | omega)); (replace z12 := pcell_far (g := V.heap.size) (o := 1) (vs := [Value.int .i64 (p.a1 + (m1 : Int))]) z12 (by first | omega | (simp; done) | (simp; omega) | omega)); (replace z13 := pcell_far (g := V.heap.size) (o := 1) (vs := [Value.int .i64 (p.a1 + (m1 : Int))]) z13 (by first | omega | (simp; done) | (simp; omega) | omega)); (replace z14 := pcell_far (g := V.heap.size) (o := 1) (vs := [Value.int .i64 (p.a1 + (m1 : Int))]) z14 (by first | omega | (simp; done) | (simp; omega) | omega)); (replace Rd := prow_far (g := V.heap.size) (o := 1) (vs := [Value.int .i64 (p.a1 + (m1 : Int))]) Rd (by first | omega | (simp; done) | (simp; omega) | omega)); (replace Rk := prow_far (g := V.heap.size) (o := 1) (vs := [Value.int .i64 (p.a1 + (m1 : Int))]) Rk (by first | omega | (simp; done) | (simp; omega) | omega)); (replace Ru := prow_far (g := V.heap.size) (o := 1) (vs := [Value.int .i64 (p.a1 + (m1 : Int))]) Ru (by first | omega | (simp; done) | (simp; omega) | omega)); (replace Rx0 := prow_far (g := V.heap.size) (o := 1) (vs := [Value.int .i64 (p.a1 + (m1 : Int))]) Rx0 (by first | omega | (simp; done) | (simp; omega) | omega)); (replace Rx1 := prow_far (g := V.heap.size) (o := 1) (vs := [Value.int .i64 (p.a1 + (m1 : Int))]) Rx1 (by first | omega | (simp; done) | (simp; omega) | omega)); (replace hb0 := below_setCells (g := V.heap.size) (by omega) [Value.int .i64 (p.a1 + (m1 : Int))] 1 _ hb0); (replace Rq : Row (World.setCells wq V.heap.size 1 [Value.int .i64 (p.a1 + (m1 : Int))]) V.heap.size #[.int .i64 (p.a0 + (m0 : Int)), .int .i64 (p.a1 + (m1 : Int)), .int .i64 kk0.kind, .int .i64 kk0.len, .int .u64 kk0.h, .int .u64 kk0.l, .string ⟨kk0.path.toArray⟩, .int .i64 0, .int .i64 0, .int .u64 0, .int .u64 0, .string ⟨#[]⟩] 33 := Row.setMany Rq 1 [Value.int .i64 (p.a1 + (m1 : Int))] (by simp [setL])); (simp only [World.setCells] at Rd Rk Ru Rx0 Rx1 Rq d1 k1 z10 z11 z12 z13 z14 hb0); generalize (World.setCell wq ⟨V.heap.size, 1, none⟩ (Value.int .i64 (p.a1 + (m1 : Int)))) = wz at *)
    refine hK.out _ _ ?hSr4_18_16 (fun hHeld2 => ?_)
    case hSr4_18_16 => (exact ⟨d1, k1, z10, z11, z12, z13, z14⟩)
    clear hK K hHeld
    have hHeld := hHeld2
    clear hHeld2
    rename World => wq
    (try simp only [Act.put, nz1, nz2, nz3])
    refine tk 18 ⟨some 76, .indexAddr 31 (.tmp 75) (.tmp 60), 0, _, _, _⟩ hHeld ?_
    (try simp only [Act.put, nz1, nz2, nz3])
    refine wpAnyH_ready (rs := [19]) (by kernel_rfl) (by simp) ?_
    refine AllReadyH.cons (o := ⟨none, .store 30 (.tmp 76) (.tmp 72), 0, _, _, _⟩) rfl (fun K hK => ?_) AllReadyH.nil
    ((rw [if_pos (by rfl)]); (with_reducible refine pst 30 (.tmp 76) (.tmp 72) ?_ V.heap.size 7 #[.int .i64 kk1.kind, .int .i64 kk1.len, .int .u64 kk1.h, .int .u64 kk1.l, .string ⟨kk1.path.toArray⟩] ?_ ?_ ?_ ?_ ?_ ?_); rfl; rfl; rfl; (exact Row.thereAt Rq 7 _ (by simp)); (exact infoKe); (simp [Value.oneCell']); (rintro wz hwz); (have hHq := hHeld); (obtain ⟨d1, k1, z10, z11, z12, z13, z14⟩ := hHq); (replace d1 := pcf hwz d1); (replace k1 := pcf hwz k1); (replace z10 := pcf hwz z10); (replace z11 := pcf hwz z11); (replace z12 := pcf hwz z12); (replace z13 := pcf hwz z13); (replace z14 := pcf hwz z14); (replace Rd := prf hwz Rd); (replace Rk := prf hwz Rk); (replace Ru := prf hwz Ru); (replace Rx0 := prf hwz Rx0); (replace Rx1 := prf hwz Rx1); (replace hb0 := pbl hwz hb0); (replace Rq : Row wz V.heap.size #[.int .i64 (p.a0 + (m0 : Int)), .int .i64 (p.a1 + (m1 : Int)), .int .i64 kk0.kind, .int .i64 kk0.len, .int .u64 kk0.h, .int .u64 kk0.l, .string ⟨kk0.path.toArray⟩, .int .i64 kk1.kind, .int .i64 kk1.len, .int .u64 kk1.h, .int .u64 kk1.l, .string ⟨kk1.path.toArray⟩] 33 := psm hwz Rq (by simp [setL])); clear hwz)
    refine hK.out _ _ ?hSr4_20_19 (fun hHeld2 => ?_)
    case hSr4_20_19 => (exact ⟨d1, k1, z10, z11, z12, z13, z14⟩)
    clear hK K hHeld
    have hHeld := hHeld2
    clear hHeld2
    rename World => wq
    (try simp only [Act.put, nz1, nz2, nz3])
    refine wpAnyH_done (by kernel_rfl) ?_ _
    clear hHeld
    rename World => w3
    have ld := Rd.lt
    have lk := Rk.lt
    have lu := Ru.lt
    have lx0 := Rx0.lt
    have lx1 := Rx1.lt
    have lq := Rq.lt
    (try clear d0 d1 d2 d3 d4 d5 d6 d7 d8 d9 d10 d11); obtain ⟨d0, d1, d2, d3, d4, d5, d6, d7, d8, d9, d10, d11⟩ := row12 Rd
    (try clear k0 k1); obtain ⟨k0, k1⟩ := row2 Rk
    (try clear u0 u1); obtain ⟨u0, u1⟩ := row2 Ru
    (try clear q0 q1 q2 q3 q4 q5 q6 q7 q8 q9 q10 q11); obtain ⟨q0, q1, q2, q3, q4, q5, q6, q7, q8, q9, q10, q11⟩ := row12 Rq
    gi_wp2_with fail
    rw [roundsIn_succ]
    have RO9 := HRx.out.1.later hb0
    have RG9 := HRx.out.2.later hb0
    have HO9 := HOx.out.later hb0
    have hs9 := hb0.size
    obtain ⟨v', w3, hrun, hown, hgrow, hrow⟩ := appX_row (⟨p.a0 + (m0 : Int), p.a1 + (m1 : Int), kk0, kk1⟩ : Px) HO9 (by rw [HGx.out.2.1]; have := HL.out.1; omega) (by omega)
    dsimp only at hrun hgrow hrow
    rw [← HGx.out.1] at hown
    obtain ⟨pv', cv, hpv, _, _⟩ := hown.read
    rw [HGx.out.2.2] at hpv
    subst hpv
    have hne9 := HO9.ne RO9 (by decide)
    have RO3 := rowX_app2 HO9 hgrow RO9 (by decide)
    have RG3 := rowX_app2 HO9 hgrow RG9 (by decide)
    have Rd3 := rowX_app3 HO9 hgrow Rd (by omega)
    have Rk3 := rowX_app2 HO9 hgrow Rk (by decide)
    have Rx03 := rowX_app2 HO9 hgrow Rx0 (by decide)
    have Rx13 := rowX_app2 HO9 hgrow Rx1 (by decide)
    have HT := Lib.hid (Turn.after hb0 (turnX_app (B := w8.heap.size) HO9 hgrow hrow (g := w7.heap.size + 1) 0 (.slice pv' (k + 1) cv) (by omega)))
    have hne3 := hown.ne RO3 (by decide)
    have df := RO3.frozen 0
    have dc := (RO3.cell 0).trans (show _ = some (Value.slice po k co) from rfl)
    have cc := (RO9.cell 0).trans (show _ = some (Value.slice po k co) from rfl)
    have F1 := Lib.hid (show (w3.setCell ⟨w7.heap.size + 1, 0, none⟩ (.slice pv' (k + 1) cv)).heap[w7.heap.size + 1 + 1]? = V.heap[w7.heap.size + 1 + 1]? from (heap_setCell_other _ _ _ _ (by simp)).trans (RG3.trans HRx.out.2.symm))
    have F2 := Lib.hid (show Row (w3.setCell ⟨w7.heap.size + 1, 0, none⟩ (.slice pv' (k + 1) cv)) (w7.heap.size + 1) #[.slice pv' (k + 1) cv] 60 from RO3.set 0 (.slice pv' (k + 1) cv))
    have F3 := Lib.hid (hown.set2 0 (.slice pv' (k + 1) cv) hne3)
    have HB3 := appX_below HO9 (Below.refl w7.heap.size _) (by omega) hgrow
    have F4 := Lib.hid (((HBx.out.1.trans (hb0.mono (by omega))).trans (HB3.mono (show w.heap.size ≤ w7.heap.size by omega))).setCell (p := ⟨w7.heap.size + 1, 0, none⟩) (by simp; omega) (.slice pv' (k + 1) cv))
    have F5 := Lib.hid (Nat.le_trans HBx.out.2 HT.out.size)
    have F6 := Lib.hid (And.intro (RG3.set_far ⟨w7.heap.size + 1, 0, none⟩ (.slice pv' (k + 1) cv) (by simp)) (And.intro (Rd3.set_far ⟨w7.heap.size + 1, 0, none⟩ (.slice pv' (k + 1) cv) (by simp; omega)) (And.intro (Rk3.set_far ⟨w7.heap.size + 1, 0, none⟩ (.slice pv' (k + 1) cv) (by simp; omega)) (And.intro (Rx03.set_far ⟨w7.heap.size + 1, 0, none⟩ (.slice pv' (k + 1) cv) (by simp; omega)) (Rx13.set_far ⟨w7.heap.size + 1, 0, none⟩ (.slice pv' (k + 1) cv) (by simp; omega))))))
    have HRUN := Lib.hid hrun
    clear hrun hown hgrow hrow HO9 RO9 RG9 hne9 RO3 RG3 Rd3 Rk3 Rx03 Rx13 hne3 HB3 Rd Rk Rx0 Rx1 Ru d0 d1 d2 d3 d4 d5 d6 d7 d8 d9 d10 d11 k0 k1 u0 u1 hb0
    gi_wp2_with ((with_reducible refine wpListIn_appR (o := ⟨some 81, _, _, _, _, _⟩) ?_ (.tmp 78) (.tmp 80) 60 ?_ (v := .slice po k co) (bv := .slice (some ⟨_, 0, none⟩) 1 1) ?_ ?_ HRUN.out ?_); (with_reducible rfl); (with_reducible rfl); rfl; rfl; clear HRUN)
    exact ⟨F1.out, _, ⟨⟨pv', cv, rfl, F2.out, F3.out⟩, ⟨F4.out, F5.out⟩, F6.out⟩, HT.out⟩
  case done =>
    rintro D ρ W hD ⟨⟨po, co, rfl, RO, HO⟩, ⟨hB, _⟩, _⟩ hK
    have cc := (RO.cell 0).trans (show _ = some (Value.slice po N co) from rfl)
    have HP := HO.stays (B := w7.heap.size) (.putObj W (.deferred none) (show w7.heap.size ≤ D by omega) (HO.cellsy.ne hK rfl))
    have HFX := Lib.hid (show XS (W.putObj D (.deferred none)) (.slice po N co) L by have := HP.read; rw [HL.out.2.2.1] at this; exact this)
    have hc5 := ((row_put RO (.deferred none) hK rfl).cell 0).trans (show _ = some (Value.slice po N co) from rfl)
    clear RO HO HP HR'
    go_wp2
    refine ⟨by simp, .inl ⟨_, _, rfl, run_takeDeferred hK, ?_⟩⟩
    refine ⟨.slice po N co, ?_, ⟨_, rfl, HFX.out, hB.trans (belowK_b (w := w) (Nat.le_refl _) W D _ _ (by omega) hK rfl rfl)⟩⟩
    simp only [results, Try.results47]
    simp [go_sem, hc5]
  case stop =>
    rintro D c k ρ W hD _ hs hK
    exact hs.elim
end Go.Proofs.Ytbekocknfpekoaa
