/- OpenP: what the theorem needs of these texts. No conditions beyond those that are written. -/
import Derived.Test.YtbekocknfpekoaaCJP9
namespace Go.Proofs.Ytbekocknfpekoaa
set_option linter.unusedVariables false
set_option linter.unusedSimpArgs false
open Go.ChangeShapes Go.WideShapes Go.ChangeAt Go.RowKit Go.Joins Go.Deep
theorem cellsPx : Try.prog.cellsOf 33 = 12 := by kernel_rfl
theorem cellsSp : Try.prog.cellsOf 26 = 7 := by kernel_rfl
theorem cellsAt : Try.prog.cellsOf 27 = 2 := by kernel_rfl
theorem cellsK2 : Try.prog.cellsOf 31 = 10 := by kernel_rfl
theorem cellsD2 : Try.prog.cellsOf 24 = 6 := by kernel_rfl
theorem cellsInt : Try.prog.cellsOf 3 = 1 := by kernel_rfl
section
variable {H : Type} {enc : TypeId × Value → H} {W : World} {base : Nat} {sp : Nat → Bool} {held : Bool}
def keyData (k : Ke) : DataW H := .agg [.lit (.int .i64 k.kind), .lit (.int .i64 k.len), .lit (.int .u64 k.h), .lit (.int .u64 k.l), .lit (.string k.path)]
set_option maxRecDepth 100000 in
theorem keyc_of {c0 c1 c2 c3 c4 : Value} {x : DataW H × List MemPlace} {fuel : Nat} (hf : DataW.trod enc Try.prog W base sp held fuel 30 [c0, c1, c2, c3, c4] = some x) :
    ∃ k : Ke, c0 = .int .i64 k.kind ∧ c1 = .int .i64 k.len ∧ c2 = .int .u64 k.h ∧ c3 = .int .u64 k.l ∧ c4 = .string ⟨k.path.toArray⟩ ∧ k.okL ∧ x.1 = keyData k := by
  have hs := Try.underlying30
  have F := field_at hs (by kernel_rfl) hf
  obtain ⟨_, _, h0, d0⟩ := F 0 _ c0 rfl rfl
  obtain ⟨_, _, h1, d1⟩ := F 1 _ c1 rfl rfl
  obtain ⟨_, _, h2, d2⟩ := F 2 _ c2 rfl rfl
  obtain ⟨_, _, h3, d3⟩ := F 3 _ c3 rfl rfl
  obtain ⟨_, _, h4, d4⟩ := F 4 _ c4 rfl rfl
  obtain ⟨n0, e0, g0, w0⟩ := DataW.trod_int Try.underlying3 h0
  obtain ⟨n1, e1, g1, w1⟩ := DataW.trod_int Try.underlying3 h1
  obtain ⟨n2, e2, g2, w2⟩ := DataW.trod_int Try.underlying28 h2
  obtain ⟨n3, e3, g3, w3⟩ := DataW.trod_int Try.underlying28 h3
  obtain ⟨s, e4, g4, w4⟩ := DataW.trod_string Try.underlying9 h4
  subst g0 g1 g2 g3 g4
  simp only [List.cons.injEq, and_true] at e0 e1 e2 e3 e4
  subst e0 e1 e2 e3 e4
  simp [Lit.wf, IntKind.min, IntKind.max, IntKind.signed, IntKind.bits] at w0 w1 w2 w3
  refine ⟨⟨n0, n1, n2, n3, s.data.toList⟩, rfl, rfl, rfl, rfl, rfl, ?_, ?_⟩
  · constructor <;> dsimp only
    · unfold Word; omega
    · unfold Word; omega
    · omega
    · omega
    · omega
    · omega
  · obtain ⟨ys, hy, hl, z0⟩ := d0
    obtain ⟨y1, hy1, _, z1⟩ := d1
    obtain ⟨y2, hy2, _, z2⟩ := d2
    obtain ⟨y3, hy3, _, z3⟩ := d3
    obtain ⟨y4, hy4, _, z4⟩ := d4
    rw [hy] at hy1 hy2 hy3 hy4
    cases hy1; cases hy2; cases hy3; cases hy4
    rw [hy]
    match ys, hl with
    | [a, b, c, d, e], _ =>
      simp at z0 z1 z2 z3 z4
      rw [z0, z1, z2, z3, z4]; rfl
def pxData (p : Px) : DataW H := .agg [.agg [.lit (.int .i64 p.a0), .lit (.int .i64 p.a1)], .agg [keyData p.k0, keyData p.k1]]
structure Px.okL (p : Px) : Prop where
  k0 : p.k0.okL
  k1 : p.k1.okL
  a00 : -9223372036854775808 ≤ p.a0
  a01 : p.a0 ≤ 9223372036854775807
  a10 : -9223372036854775808 ≤ p.a1
  a11 : p.a1 ≤ 9223372036854775807
theorem int_cell {c : Value} {x : DataW H × List MemPlace} {fuel : Nat} (hf : DataW.trod enc Try.prog W base sp held fuel 3 [c] = some x) : ∃ n : Int, c = .int .i64 n ∧ x.1 = .lit (.int .i64 n) ∧ -9223372036854775808 ≤ n ∧ n ≤ 9223372036854775807 := by
  obtain ⟨n, e, g, w⟩ := DataW.trod_int Try.underlying3 hf
  simp only [List.cons.injEq, and_true] at e
  simp [Lit.wf, IntKind.min, IntKind.max, IntKind.signed, IntKind.bits] at w
  subst g
  exact ⟨n, e, rfl, by omega, by omega⟩
theorem pair_of {α : Type} {xs : List α} (h : xs.length = 2) : ∃ a b, xs = [a, b] := by
  match xs, h with
  | [a, b], _ => exact ⟨a, b, rfl⟩
set_option maxRecDepth 100000 in
theorem px_of_trod {v : Value} {d : DataW H} {p : List MemPlace} {r : Reach} {b0 : Nat} (hv : Value.okWide Try.prog W r b0 33 v) (h : DataW.Trod enc Try.prog W base sp held 33 v d p) : ∃ k : Px, v = pv k ∧ k.okL ∧ d = pxData k := by
  have hs := Try.underlying33
  obtain ⟨⟨l⟩, rfl, hsz⟩ := okWide_struct hs hv
  obtain ⟨fuel, hf⟩ := h
  match l, hsz.trans cellsPx with
  | [c0, c1, c2, c3, c4, c5, c6, c7, c8, c9, c10, c11], _ =>
    obtain ⟨y0, y1, n, hx, _, h0, h1⟩ := trod_struct2 hs hf
    rw [cellsAt] at h0
    rw [cellsK2] at h1
    simp [Value.cells] at h0 h1
    obtain ⟨xs, m, _, rfl, _, hl, hi⟩ := DataW.trod_array Try.underlying27 h0
    obtain ⟨zs, m2, _, rfl, _, hl2, hi2⟩ := DataW.trod_array Try.underlying31 h1
    rw [cellsInt] at hi
    rw [cellsKey] at hi2
    obtain ⟨xa, xb, rfl⟩ := pair_of hl
    obtain ⟨za, zb, rfl⟩ := pair_of hl2
    have g0 := hi 0 (by omega)
    have g1 := hi 1 (by omega)
    have g2 := hi2 0 (by omega)
    have g3 := hi2 1 (by omega)
    simp at g0 g1 g2 g3
    obtain ⟨n0, rfl, q0, r0, r1⟩ := int_cell g0
    obtain ⟨n1, rfl, q1, r2, r3⟩ := int_cell g1
    obtain ⟨k0, rfl, rfl, rfl, rfl, rfl, o0, e0⟩ := keyc_of g2
    obtain ⟨k1, rfl, rfl, rfl, rfl, rfl, o1, e1⟩ := keyc_of g3
    refine ⟨⟨n0, n1, k0, k1⟩, rfl, ⟨o0, o1, r0, r1, r2, r3⟩, ?_⟩
    have := congrArg Prod.fst hx
    simp only at this
    rw [this]
    simp [q0, q1, e0, e1, pxData]
theorem dimc_of {c0 c1 c2 : Value} {x : DataW H × List MemPlace} {fuel : Nat} (hf : DataW.trod enc Try.prog W base sp held fuel 23 [c0, c1, c2] = some x) : ∃ k : Dm, c0 = .int .i64 k.kind ∧ c1 = .int .i64 k.side ∧ c2 = .int .i64 k.step ∧ k.ok := by
  have hs := Try.underlying23
  have F := field_at hs (by kernel_rfl) hf
  obtain ⟨_, _, h0, _⟩ := F 0 _ c0 rfl rfl
  obtain ⟨_, _, h1, _⟩ := F 1 _ c1 rfl rfl
  obtain ⟨_, _, h2, _⟩ := F 2 _ c2 rfl rfl
  obtain ⟨n0, rfl, _, r0, r1⟩ := int_cell h0
  obtain ⟨n1, rfl, _, r2, r3⟩ := int_cell h1
  obtain ⟨n2, rfl, _, r4, r5⟩ := int_cell h2
  exact ⟨⟨n0, n1, n2⟩, rfl, rfl, rfl, ⟨r0, r1, r2, r3, r4, r5⟩⟩
set_option maxRecDepth 100000 in
theorem sp_of_trod {v : Value} {d : DataW H} {p : List MemPlace} {r : Reach} {b0 : Nat} (hv : Value.okWide Try.prog W r b0 26 v) (h : DataW.Trod enc Try.prog W base sp held 26 v d p) : ∃ s : Sp, v = sv s ∧ s.ok := by
  have hs := Try.underlying26
  obtain ⟨⟨l⟩, rfl, hsz⟩ := okWide_struct hs hv
  obtain ⟨fuel, hf⟩ := h
  match l, hsz.trans cellsSp with
  | [c0, c1, c2, c3, c4, c5, c6], _ =>
    obtain ⟨y0, y1, n, _, _, h0, h1⟩ := trod_struct2 hs hf
    rw [cellsInt] at h0
    rw [cellsD2] at h1
    simp [Value.cells] at h0 h1
    obtain ⟨n0, rfl, _, r0, r1⟩ := int_cell h0
    obtain ⟨zs, m2, _, rfl, _, hl2, hi2⟩ := DataW.trod_array Try.underlying24 h1
    rw [cellsDim] at hi2
    obtain ⟨za, zb, rfl⟩ := pair_of hl2
    have g2 := hi2 0 (by omega)
    have g3 := hi2 1 (by omega)
    simp at g2 g3
    obtain ⟨k0, rfl, rfl, rfl, o0⟩ := dimc_of g2
    obtain ⟨k1, rfl, rfl, rfl, o1⟩ := dimc_of g3
    exact ⟨⟨n0, k0, k1⟩, rfl, r0, r1, o0, o1⟩
theorem px_sized {ts : List TypeId} {ds : List (DataW H)} {d : DataW H} {j : Nat} {k : Px} (h : (DataW.weightsEach Try.prog ts ds).all (· ≤ reachBytes) = true) (ht : ts[j]? = some 33) (hd : ds[j]? = some d)
    (e : d = pxData k) (ok : k.okL) : k.ok := by
  subst e
  have hu := Try.underlying30
  have hu1 := Try.underlying33
  have hu2 := Try.underlying31
  have hu3 := Try.underlying27
  have m0 := List.all_eq_true.1 h _ (DataW.weights_mem_each ht hd k.k0.path.length (by simp [pxData, keyData, DataW.weights, DataW.weightsEach, DataW.weightsAll, hu, hu1, hu2, hu3]))
  have m1 := List.all_eq_true.1 h _ (DataW.weights_mem_each ht hd k.k1.path.length (by simp [pxData, keyData, DataW.weights, DataW.weightsEach, DataW.weightsAll, hu, hu1, hu2, hu3]))
  have h2 : k.k0.path.length ≤ reachBytes := by simpa using m0
  have h4 : k.k1.path.length ≤ reachBytes := by simpa using m1
  have h3 : reachBytes < 140737488355328 := by decide
  exact ⟨⟨ok.k0.h, ok.k0.l, ok.k0.k0, ok.k0.k1, ok.k0.n0, ok.k0.n1, by omega⟩, ⟨ok.k1.h, ok.k1.l, ok.k1.k0, ok.k1.k1, ok.k1.n0, ok.k1.n1, by omega⟩, ok.a00, ok.a01, ok.a10, ok.a11⟩
end
end Go.Proofs.Ytbekocknfpekoaa
