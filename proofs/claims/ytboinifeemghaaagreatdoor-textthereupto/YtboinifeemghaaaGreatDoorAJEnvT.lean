/- EnvT, OpenP: what the theorem needs of these texts. No conditions beyond those that are written. -/
import Derived.Test.YtboinifeemghaaaGreatDoorAJP3
import Derived.Test.YtboinifeemghaaaGreatDoorRows
set_option linter.unusedSimpArgs false
set_option linter.unusedVariables false
set_option maxRecDepth 100000
namespace Go.Proofs.YtboinifeemghaaaGreatDoor
open Go.RowKit Go.ChangeShapes Go.WideShapes
def laid7 : List (String × DataW Unit) := [("math/bits.deBruijn32tab", Rows.laid_math_bits_deBruijn32tab), ("math/bits.deBruijn64tab", Rows.laid_math_bits_deBruijn64tab), ("internal/strconv.uint64pow10", Rows.laid_internal_strconv_uint64pow10), ("unicode/utf8.acceptRanges", Rows.laid_unicode_utf8_acceptRanges), ("strconv.ErrRange", Rows.laid_strconv_ErrRange), ("strconv.ErrSyntax", Rows.laid_strconv_ErrSyntax), ("unicode/utf8.first", Rows.laid_unicode_utf8_first)]
theorem laid_tail {P : Program} {x : String × DataW Unit} {r : List (String × DataW Unit)} {W : World} (h : laidMet P (x :: r) W) : laidMet P r W := by
 obtain ⟨n, d⟩ := x
 obtain ⟨ps, ⟨g, t, cs, fuel, p, q, _, _, _, _, hr, rfl⟩, hnd, hall⟩ := h
 exact ⟨q, hr, (List.nodup_append.1 hnd).2.1, fun b off hm => hall b off (List.mem_append_right _ hm)⟩
theorem gES : Tryz.prog.globalNamed "strconv.ErrSyntax" = some 3 := by kernel_rfl
theorem gER : Tryz.prog.globalNamed "strconv.ErrRange" = some 4 := by kernel_rfl
theorem gPT : Tryz.prog.globalNamed "internal/strconv.uint64pow10" = some 5 := by kernel_rfl
theorem tES : (Tryz.prog.globals[3]?).map (·.type) = some 123 := by kernel_rfl
theorem tER : (Tryz.prog.globals[4]?).map (·.type) = some 123 := by kernel_rfl
theorem tPT : (Tryz.prog.globals[5]?).map (·.type) = some 203 := by kernel_rfl
theorem cellsES : Tryz.prog.cellsOf 214 = 1 := by kernel_rfl
theorem cellsST : Tryz.prog.cellsOf 9 = 1 := by kernel_rfl
theorem cellsU64 : Tryz.prog.cellsOf 24 = 1 := by kernel_rfl
theorem cellsPT : Tryz.prog.cellsOf 203 = 20 := by kernel_rfl
theorem star : "*" ++ "errors.errorString" = "*errors.errorString" := by decide
theorem rowES (u : TypeId) (h : Tryz.prog.typeName? 3 u = some "*errors.errorString") : u = 212 :=
 typeName_ptr_named (nm := "errors.errorString") (by rw [star]; kernel_rfl) (by kernel_rfl) (by decide) u (by rw [star]; exact h)
theorem powData : (Rows.laid_internal_strconv_uint64pow10 : DataW Unit) = Lib.tabData .u64 Lib.pow10Tab := by kernel_rfl
def tab64 : List Int := match (Rows.laid_math_bits_deBruijn64tab : DataW Unit) with
 | .agg l => l.map fun | .lit (.int _ n) => n | _ => 0
 | _ => []
theorem gDT : Tryz.prog.globalNamed "math/bits.deBruijn64tab" = some 9 := by kernel_rfl
theorem tDT : (Tryz.prog.globals[9]?).map (·.type) = some 218 := by kernel_rfl
theorem cellsDT : Tryz.prog.cellsOf 218 = 64 := by kernel_rfl
theorem cellsU8 : Tryz.prog.cellsOf 5 = 1 := by kernel_rfl
theorem dtData : (Rows.laid_math_bits_deBruijn64tab : DataW Unit) = Lib.tabData .u8 tab64 := by kernel_rfl
theorem env7_of {W : World} (hL : laidMetH Tryz.prog laid7 W) (hsh : W.ShapedOpen Tryz.prog) : Env6 W := by
 have h0 : laidMet Tryz.prog laid7 W := hL
 have h1 := laid_tail h0
 have h2 := laid_tail h1
 have h3 := laid_tail (laid_tail h2)
 have h4 := laid_tail h3
 obtain ⟨m, hm⟩ := Tryz.laysM145.s1_3 W hsh
 obtain ⟨a0, s0, hv0, -, -, -⟩ := laid_sentinel h3 gER tER Tryz.underlying123 rowES Tryz.underlying212 Tryz.underlying214 rfl rfl Tryz.underlying9 cellsES cellsST
 obtain ⟨a1, s1, hv1, -, -, -⟩ := laid_sentinel h4 gES tES Tryz.underlying123 rowES Tryz.underlying212 Tryz.underlying214 rfl rfl Tryz.underlying9 cellsES cellsST
 rw [powData] at h2
 rw [dtData] at h1
 have ht := Lib.tabIs_of_head gDT tDT Tryz.underlying218 Tryz.underlying5 cellsU8 cellsDT h1
 exact ⟨⟨⟨m, hm⟩, ⟨_, _, hv1⟩, ⟨_, _, hv0⟩, Lib.tabIs_of_head gPT tPT Tryz.underlying203 Tryz.underlying24 cellsU64 cellsPT h2⟩, ht.cell gDT 15 (by decide +kernel)⟩
noncomputable def low : Nat := (World.holding Tryz.prog default ⟨#[], #[], []⟩).heap.size
abbrev rngS : ByteArray := ⟨#[118, 97, 108, 117, 101, 32, 111, 117, 116, 32, 111, 102, 32, 114, 97, 110, 103, 101]⟩
abbrev synS : ByteArray := ⟨#[105, 110, 118, 97, 108, 105, 100, 32, 115, 121, 110, 116, 97, 120]⟩
def litsIn : DataW Unit → List Value
 | .lit (.int k n) => [Value.int k n]
 | .agg l => l.map fun | .lit (.int k n) => Value.int k n | _ => undef
 | _ => [undef]
def litsOf (d : DataW Unit) : Array Value := match d with
 | .agg l => (l.flatMap litsIn).toArray
 | _ => #[]
noncomputable def laidWorld (os : Os) : World :=
 let w0 := World.holding Tryz.prog os ⟨#[.cells #[.string rngS] 214, .cells #[.string synS] 214], #[], []⟩
 let put (b : Nat) (cs : Array Value) (h : Array Obj) : Array Obj := h.modify b fun
  | .cells _ t frozen => .cells cs t frozen
  | o => o
 { w0 with heap := put 8 (litsOf Rows.laid_math_bits_deBruijn32tab) (put 9 (litsOf Rows.laid_math_bits_deBruijn64tab) (put 5 (litsOf Rows.laid_internal_strconv_uint64pow10) (put 7 (litsOf Rows.laid_unicode_utf8_acceptRanges) (put 6 (litsOf Rows.laid_unicode_utf8_first) (put 4 #[.iface 212 (.pointer (some ⟨low, 0, none⟩))] (put 3 #[.iface 212 (.pointer (some ⟨low + 1, 0, none⟩))] w0.heap)))))) }
theorem laid_met (os : Os) (args : Array Value) : laidMet Tryz.prog laid7 ((laidWorld os).forCall (fun _ _ => 0) ⟨#[], args, []⟩).memory :=
 laidMet_of_run' 8 (by kernel_rfl) (by kernel_rfl)
end Go.Proofs.YtboinifeemghaaaGreatDoor
namespace Go.Proofs.YtboinifeemghaaaGreatDoor
open Go.ChangeShapes Go.WideShapes Go.ChangeAt Go.RowKit Go.Joins Go.Deep
theorem cellsPx : Tryz.prog.cellsOf 40 = 12 := by kernel_rfl
theorem cellsSp : Tryz.prog.cellsOf 36 = 7 := by kernel_rfl
theorem cellsAt : Tryz.prog.cellsOf 37 = 2 := by kernel_rfl
theorem cellsK2 : Tryz.prog.cellsOf 38 = 10 := by kernel_rfl
theorem cellsD2 : Tryz.prog.cellsOf 34 = 6 := by kernel_rfl
theorem cellsInt : Tryz.prog.cellsOf 3 = 1 := by kernel_rfl
section
variable {H : Type} {enc : TypeId × Value → H} {W : World} {base : Nat} {sp : Nat → Bool} {held : Bool}
def keyData (k : Ke) : DataW H := .agg [.lit (.int .i64 k.kind), .lit (.int .i64 k.len), .lit (.int .u64 k.h), .lit (.int .u64 k.l), .lit (.string k.path)]
theorem keyc_of {c0 c1 c2 c3 c4 : Value} {x : DataW H × List MemPlace} {fuel : Nat} (hf : DataW.trod enc Tryz.prog W base sp held fuel 26 [c0, c1, c2, c3, c4] = some x) :
  ∃ k : Ke, c0 = .int .i64 k.kind ∧ c1 = .int .i64 k.len ∧ c2 = .int .u64 k.h ∧ c3 = .int .u64 k.l ∧ c4 = .string ⟨k.path.toArray⟩ ∧ k.okL ∧ x.1 = keyData k := by
 have hs := Tryz.underlying26
 have F := field_at hs (by kernel_rfl) hf
 obtain ⟨_, _, h0, d0⟩ := F 0 _ c0 rfl rfl
 obtain ⟨_, _, h1, d1⟩ := F 1 _ c1 rfl rfl
 obtain ⟨_, _, h2, d2⟩ := F 2 _ c2 rfl rfl
 obtain ⟨_, _, h3, d3⟩ := F 3 _ c3 rfl rfl
 obtain ⟨_, _, h4, d4⟩ := F 4 _ c4 rfl rfl
 obtain ⟨n0, e0, g0, w0⟩ := DataW.trod_int Tryz.underlying3 h0
 obtain ⟨n1, e1, g1, w1⟩ := DataW.trod_int Tryz.underlying3 h1
 obtain ⟨n2, e2, g2, w2⟩ := DataW.trod_int Tryz.underlying24 h2
 obtain ⟨n3, e3, g3, w3⟩ := DataW.trod_int Tryz.underlying24 h3
 obtain ⟨s, e4, g4, w4⟩ := DataW.trod_string Tryz.underlying9 h4
 subst g0 g1 g2 g3 g4
 simp only [List.cons.injEq, and_true] at e0 e1 e2 e3 e4
 subst e0 e1 e2 e3 e4
 simp [Lit.wf, IntKind.min, IntKind.max, IntKind.signed, IntKind.bits] at w0 w1 w2 w3
 refine ⟨⟨n0, n1, n2, n3, s.data.toList⟩, rfl, rfl, rfl, rfl, rfl, ?_, ?_⟩
 ·constructor <;> dsimp only
  ·unfold Word; omega
  ·unfold Word; omega
  ·omega
  ·omega
  ·omega
  ·omega
 ·obtain ⟨ys, hy, hl, z0⟩ := d0
  obtain ⟨y1, hy1, _, z1⟩ := d1
  obtain ⟨y2, hy2, _, z2⟩ := d2
  obtain ⟨y3, hy3, _, z3⟩ := d3
  obtain ⟨y4, hy4, _, z4⟩ := d4
  rw [hy] at hy1 hy2 hy3 hy4
  cases hy1; cases hy2; cases hy3; cases hy4
  rw [hy]
  match ys, hl with
  | [a, b, c, d, e], _ =>
   simp at z0 z1 z2 z3 z4
   rw [z0, z1, z2, z3, z4]; rfl
def pxData (p : Px) : DataW H := .agg [.agg [.lit (.int .i64 p.a0), .lit (.int .i64 p.a1)], .agg [keyData p.k0, keyData p.k1]]
structure Px.okL (p : Px) : Prop where
 k0 : p.k0.okL
 k1 : p.k1.okL
 a00 : -9223372036854775808 ≤ p.a0
 a01 : p.a0 ≤ 9223372036854775807
 a10 : -9223372036854775808 ≤ p.a1
 a11 : p.a1 ≤ 9223372036854775807
theorem int_cell {c : Value} {x : DataW H × List MemPlace} {fuel : Nat} (hf : DataW.trod enc Tryz.prog W base sp held fuel 3 [c] = some x) : ∃ n : Int, c = .int .i64 n ∧ x.1 = .lit (.int .i64 n) ∧ -9223372036854775808 ≤ n ∧ n ≤ 9223372036854775807 := by
 obtain ⟨n, e, g, w⟩ := DataW.trod_int Tryz.underlying3 hf
 simp only [List.cons.injEq, and_true] at e
 simp [Lit.wf, IntKind.min, IntKind.max, IntKind.signed, IntKind.bits] at w
 subst g
 exact ⟨n, e, rfl, by omega, by omega⟩
theorem pair_of {α : Type} {xs : List α} (h : xs.length = 2) : ∃ a b, xs = [a, b] := by
 match xs, h with
 | [a, b], _ => exact ⟨a, b, rfl⟩
theorem px_of_trod {v : Value} {d : DataW H} {p : List MemPlace} {r : Reach} {b0 : Nat} (hv : Value.okWide Tryz.prog W r b0 40 v) (h : DataW.Trod enc Tryz.prog W base sp held 40 v d p) : ∃ k : Px, v = pv k ∧ k.okL ∧ d = pxData k := by
 have hs := Tryz.underlying40
 obtain ⟨⟨l⟩, rfl, hsz⟩ := okWide_struct hs hv
 obtain ⟨fuel, hf⟩ := h
 match l, hsz.trans cellsPx with
 | [c0, c1, c2, c3, c4, c5, c6, c7, c8, c9, c10, c11], _ =>
  obtain ⟨y0, y1, n, hx, _, h0, h1⟩ := trod_struct2 hs hf
  rw [cellsAt] at h0
  rw [cellsK2] at h1
  simp [Value.cells] at h0 h1
  obtain ⟨xs, m, _, rfl, _, hl, hi⟩ := DataW.trod_array Tryz.underlying37 h0
  obtain ⟨zs, m2, _, rfl, _, hl2, hi2⟩ := DataW.trod_array Tryz.underlying38 h1
  rw [cellsInt] at hi
  rw [cellsKey] at hi2
  obtain ⟨xa, xb, rfl⟩ := pair_of hl
  obtain ⟨za, zb, rfl⟩ := pair_of hl2
  have g0 := hi 0 (by omega)
  have g1 := hi 1 (by omega)
  have g2 := hi2 0 (by omega)
  have g3 := hi2 1 (by omega)
  simp at g0 g1 g2 g3
  obtain ⟨n0, rfl, q0, r0, r1⟩ := int_cell g0
  obtain ⟨n1, rfl, q1, r2, r3⟩ := int_cell g1
  obtain ⟨k0, rfl, rfl, rfl, rfl, rfl, o0, e0⟩ := keyc_of g2
  obtain ⟨k1, rfl, rfl, rfl, rfl, rfl, o1, e1⟩ := keyc_of g3
  refine ⟨⟨n0, n1, k0, k1⟩, rfl, ⟨o0, o1, r0, r1, r2, r3⟩, ?_⟩
  have := congrArg Prod.fst hx
  simp only at this
  rw [this]
  simp [q0, q1, e0, e1, pxData]
theorem dimc_of {c0 c1 c2 : Value} {x : DataW H × List MemPlace} {fuel : Nat} (hf : DataW.trod enc Tryz.prog W base sp held fuel 23 [c0, c1, c2] = some x) : ∃ k : Dm, c0 = .int .i64 k.kind ∧ c1 = .int .i64 k.side ∧ c2 = .int .i64 k.step ∧ k.ok := by
 have hs := Tryz.underlying23
 have F := field_at hs (by kernel_rfl) hf
 obtain ⟨_, _, h0, _⟩ := F 0 _ c0 rfl rfl
 obtain ⟨_, _, h1, _⟩ := F 1 _ c1 rfl rfl
 obtain ⟨_, _, h2, _⟩ := F 2 _ c2 rfl rfl
 obtain ⟨n0, rfl, _, r0, r1⟩ := int_cell h0
 obtain ⟨n1, rfl, _, r2, r3⟩ := int_cell h1
 obtain ⟨n2, rfl, _, r4, r5⟩ := int_cell h2
 exact ⟨⟨n0, n1, n2⟩, rfl, rfl, rfl, ⟨r0, r1, r2, r3, r4, r5⟩⟩
theorem sp_of_trod {v : Value} {d : DataW H} {p : List MemPlace} {r : Reach} {b0 : Nat} (hv : Value.okWide Tryz.prog W r b0 36 v) (h : DataW.Trod enc Tryz.prog W base sp held 36 v d p) : ∃ s : Sp, v = sv s ∧ s.ok := by
 have hs := Tryz.underlying36
 obtain ⟨⟨l⟩, rfl, hsz⟩ := okWide_struct hs hv
 obtain ⟨fuel, hf⟩ := h
 match l, hsz.trans cellsSp with
 | [c0, c1, c2, c3, c4, c5, c6], _ =>
  obtain ⟨y0, y1, n, _, _, h0, h1⟩ := trod_struct2 hs hf
  rw [cellsInt] at h0
  rw [cellsD2] at h1
  simp [Value.cells] at h0 h1
  obtain ⟨n0, rfl, _, r0, r1⟩ := int_cell h0
  obtain ⟨zs, m2, _, rfl, _, hl2, hi2⟩ := DataW.trod_array Tryz.underlying34 h1
  rw [cellsDim] at hi2
  obtain ⟨za, zb, rfl⟩ := pair_of hl2
  have g2 := hi2 0 (by omega)
  have g3 := hi2 1 (by omega)
  simp at g2 g3
  obtain ⟨k0, rfl, rfl, rfl, o0⟩ := dimc_of g2
  obtain ⟨k1, rfl, rfl, rfl, o1⟩ := dimc_of g3
  exact ⟨⟨n0, k0, k1⟩, rfl, r0, r1, o0, o1⟩
theorem px_sized {ts : List TypeId} {ds : List (DataW H)} {d : DataW H} {j : Nat} {k : Px} (h : (DataW.weightsEach Tryz.prog ts ds).all (· ≤ reachBytes) = true) (ht : ts[j]? = some 40) (hd : ds[j]? = some d)
  (e : d = pxData k) (ok : k.okL) : k.ok := by
 subst e
 have hu := Tryz.underlying26
 have hu1 := Tryz.underlying40
 have hu2 := Tryz.underlying38
 have hu3 := Tryz.underlying37
 have m0 := List.all_eq_true.1 h _ (DataW.weights_mem_each ht hd k.k0.path.length (by simp [pxData, keyData, DataW.weights, DataW.weightsEach, DataW.weightsAll, hu, hu1, hu2, hu3]))
 have m1 := List.all_eq_true.1 h _ (DataW.weights_mem_each ht hd k.k1.path.length (by simp [pxData, keyData, DataW.weights, DataW.weightsEach, DataW.weightsAll, hu, hu1, hu2, hu3]))
 have h2 : k.k0.path.length ≤ reachBytes := by simpa using m0
 have h4 : k.k1.path.length ≤ reachBytes := by simpa using m1
 have h3 : reachBytes < 140737488355328 := by decide
 exact ⟨⟨ok.k0.h, ok.k0.l, ok.k0.k0, ok.k0.k1, ok.k0.n0, ok.k0.n1, by omega⟩, ⟨ok.k1.h, ok.k1.l, ok.k1.k0, ok.k1.k1, ok.k1.n0, ok.k1.n1, by omega⟩, ok.a00, ok.a01, ok.a10, ok.a11⟩
end
end Go.Proofs.YtboinifeemghaaaGreatDoor
