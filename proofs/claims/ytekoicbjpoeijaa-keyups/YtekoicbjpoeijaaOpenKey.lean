/- A key, a dimension that came in, as the walks are told of it. No conditions. -/
import Derived.Test.YtekoicbjpoeijaaK3
import Derived.Lib.SmallJoins
import Derived.Deep.Fields
import Derived.ProofKit
import Derived.SizedLaws
namespace Go.Proofs.Ytekoicbjpoeijaa
set_option linter.unusedVariables false
set_option linter.unusedSimpArgs false
open Go.ChangeShapes Go.WideShapes Go.ChangeAt Go.RowKit Go.Joins Go.Deep
theorem cellsKey : Try.prog.cellsOf 24 = 5 := by kernel_rfl
theorem cellsDim : Try.prog.cellsOf 53 = 3 := by kernel_rfl
/-- what a key holds as an argument, its path's length aside -/
structure Ke.okL (k : Ke) : Prop where
  h : Word k.h
  l : Word k.l
  k0 : -9223372036854775808 ≤ k.kind
  k1 : k.kind ≤ 9223372036854775807
  n0 : -9223372036854775808 ≤ k.len
  n1 : k.len ≤ 9223372036854775807
section
variable {H : Type} {enc : TypeId × Value → H} {W : World} {base : Nat} {sp : Nat → Bool} {held : Bool}
/-- a struct whose fields take one cell each: field i is read from cell i -/
theorem field_at {fs : Array Field} {t : TypeId} {fuel : Nat} {cs : List Value} {x : DataW H × List MemPlace} (hs : Try.prog.underlying t = some (.struct fs)) (hone : oneCellFields Try.prog fs = true)
    (hf : DataW.trod enc Try.prog W base sp held fuel t cs = some x) (i : Nat) (f : Field) (v : Value) (hi : fs[i]? = some f) (hv : cs[i]? = some v) : ∃ n y, DataW.trod enc Try.prog W base sp held n f.type [v] = some y ∧ ∃ ys : List (DataW H), x.1 = .agg ys ∧ ys.length = fs.size ∧ ys[i]? = some y.1 := by
  obtain ⟨xs, n, _, hx, _, hlen, hg⟩ := DataW.trod_struct hs hf
  obtain ⟨ho, hk⟩ := hone_of hone i f hi
  have h := hg i f hi
  have hil : i < fs.size := (Array.getElem?_eq_some_iff.1 hi).1
  rw [ho, hk, List.getElem?_eq_getElem (by omega)] at h
  have hc : (cs.drop i).take 1 = [v] := by
    obtain ⟨hlt, rfl⟩ := List.getElem?_eq_some_iff.1 hv
    rw [List.drop_eq_getElem_cons hlt]; rfl
  rw [hc] at h
  exact ⟨n, _, h, xs.map (·.1), by rw [hx], by simp [hlen], by rw [List.getElem?_map, List.getElem?_eq_getElem (by omega)]; rfl⟩
set_option maxRecDepth 100000 in
theorem key_of_trod {v : Value} {d : DataW H} {p : List MemPlace} {r : Reach} {b0 : Nat} (hv : Value.okWide Try.prog W r b0 24 v) (h : DataW.Trod enc Try.prog W base sp held 24 v d p) : ∃ k : Ke, v = kv k ∧ k.okL ∧ d = .agg [.lit (.int .i64 k.kind), .lit (.int .i64 k.len), .lit (.int .u64 k.h), .lit (.int .u64 k.l), .lit (.string k.path)] := by
  have hs := Try.underlying24
  obtain ⟨⟨l⟩, rfl, hsz⟩ := okWide_struct hs hv
  obtain ⟨fuel, hf⟩ := h
  match l, hsz.trans cellsKey with
  | [c0, c1, c2, c3, c4], _ =>
    have F := field_at hs (by kernel_rfl) hf
    obtain ⟨_, _, h0, d0⟩ := F 0 _ c0 rfl (by simp [Value.cells])
    obtain ⟨_, _, h1, d1⟩ := F 1 _ c1 rfl (by simp [Value.cells])
    obtain ⟨_, _, h2, d2⟩ := F 2 _ c2 rfl (by simp [Value.cells])
    obtain ⟨_, _, h3, d3⟩ := F 3 _ c3 rfl (by simp [Value.cells])
    obtain ⟨_, _, h4, d4⟩ := F 4 _ c4 rfl (by simp [Value.cells])
    obtain ⟨n0, e0, g0, w0⟩ := DataW.trod_int Try.underlying3 h0
    obtain ⟨n1, e1, g1, w1⟩ := DataW.trod_int Try.underlying3 h1
    obtain ⟨n2, e2, g2, w2⟩ := DataW.trod_int Try.underlying22 h2
    obtain ⟨n3, e3, g3, w3⟩ := DataW.trod_int Try.underlying22 h3
    obtain ⟨s, e4, g4, w4⟩ := DataW.trod_string Try.underlying9 h4
    subst g0 g1 g2 g3 g4
    simp only [List.cons.injEq, and_true] at e0 e1 e2 e3 e4
    subst e0 e1 e2 e3 e4
    simp [Lit.wf, IntKind.min, IntKind.max, IntKind.signed, IntKind.bits] at w0 w1 w2 w3
    refine ⟨⟨n0, n1, n2, n3, s.data.toList⟩, rfl, ?_, ?_⟩
    · constructor <;> dsimp only
      · unfold Word; omega
      · unfold Word; omega
      · omega
      · omega
      · omega
      · omega
    · obtain ⟨ys, hy, hl, z0⟩ := d0
      obtain ⟨y1, hy1, _, z1⟩ := d1
      obtain ⟨y2, hy2, _, z2⟩ := d2
      obtain ⟨y3, hy3, _, z3⟩ := d3
      obtain ⟨y4, hy4, _, z4⟩ := d4
      rw [hy] at hy1 hy2 hy3 hy4
      cases hy1; cases hy2; cases hy3; cases hy4
      dsimp only at hy
      subst hy
      match ys, hl with
      | [a, b, c, d, e], _ =>
        simp at z0 z1 z2 z3 z4
        rw [z0, z1, z2, z3, z4]
theorem key_sized {ts : List TypeId} {ds : List (DataW H)} {d : DataW H} {j : Nat} {k : Ke} (h : (DataW.weightsEach Try.prog ts ds).all (· ≤ reachBytes) = true) (ht : ts[j]? = some 24) (hd : ds[j]? = some d)
    (e : d = .agg [.lit (.int .i64 k.kind), .lit (.int .i64 k.len), .lit (.int .u64 k.h), .lit (.int .u64 k.l), .lit (.string k.path)]) (ok : k.okL) : k.ok := by
  subst e
  have hu := Try.underlying24
  have h1 := List.all_eq_true.1 h _ (DataW.weights_mem_each ht hd k.path.length (by simp [DataW.weights, DataW.weightsEach, hu]))
  have h2 : k.path.length ≤ reachBytes := by simpa using h1
  have h3 : reachBytes < 140737488355328 := by decide
  exact ⟨ok.h, ok.l, ok.k0, ok.k1, ok.n0, ok.n1, by omega⟩
structure Dm where
  kind : Int
  side : Int
  step : Int
  deriving DecidableEq
def dv (d : Dm) : Value := .agg #[.int .i64 d.kind, .int .i64 d.side, .int .i64 d.step]
structure Dm.ok (d : Dm) : Prop where
  k0 : -9223372036854775808 ≤ d.kind
  k1 : d.kind ≤ 9223372036854775807
  s0 : -9223372036854775808 ≤ d.side
  s1 : d.side ≤ 9223372036854775807
  t0 : -9223372036854775808 ≤ d.step
  t1 : d.step ≤ 9223372036854775807
set_option maxRecDepth 100000 in
theorem dim_of_trod {v : Value} {d : DataW H} {p : List MemPlace} {r : Reach} {b0 : Nat} (hv : Value.okWide Try.prog W r b0 53 v) (h : DataW.Trod enc Try.prog W base sp held 53 v d p) : ∃ k : Dm, v = dv k ∧ k.ok := by
  have hs := Try.underlying53
  obtain ⟨⟨l⟩, rfl, hsz⟩ := okWide_struct hs hv
  obtain ⟨fuel, hf⟩ := h
  match l, hsz.trans cellsDim with
  | [c0, c1, c2], _ =>
    have F := field_at hs (by kernel_rfl) hf
    obtain ⟨_, _, h0, d0⟩ := F 0 _ c0 rfl (by simp [Value.cells])
    obtain ⟨_, _, h1, d1⟩ := F 1 _ c1 rfl (by simp [Value.cells])
    obtain ⟨_, _, h2, d2⟩ := F 2 _ c2 rfl (by simp [Value.cells])
    obtain ⟨n0, e0, _, w0⟩ := DataW.trod_int Try.underlying3 h0
    obtain ⟨n1, e1, _, w1⟩ := DataW.trod_int Try.underlying3 h1
    obtain ⟨n2, e2, _, w2⟩ := DataW.trod_int Try.underlying3 h2
    simp only [List.cons.injEq, and_true] at e0 e1 e2
    subst e0 e1 e2
    simp [Lit.wf, IntKind.min, IntKind.max, IntKind.signed, IntKind.bits] at w0 w1 w2
    refine ⟨⟨n0, n1, n2⟩, rfl, ?_⟩
    constructor <;> dsimp only <;> omega
end
end Go.Proofs.Ytekoicbjpoeijaa
