/- EnvT, OpenP: what the theorem needs of these texts. No conditions beyond those that are written. -/
import Derived.Test.YtboinifeemghaaaGreatDoorBJP3
import Derived.Test.YtboinifeemghaaaGreatDoorRows
set_option linter.unusedSimpArgs false
set_option linter.unusedVariables false
set_option maxRecDepth 100000
namespace Go.Proofs.YtboinifeemghaaaGreatDoor
open Go.RowKit Go.ChangeShapes Go.WideShapes
def laid7 : List (String × DataW Unit) := [("math/bits.deBruijn32tab", Rows.laid_math_bits_deBruijn32tab), ("math/bits.deBruijn64tab", Rows.laid_math_bits_deBruijn64tab), ("internal/strconv.uint64pow10", Rows.laid_internal_strconv_uint64pow10), ("unicode/utf8.acceptRanges", Rows.laid_unicode_utf8_acceptRanges), ("strconv.ErrRange", Rows.laid_strconv_ErrRange), ("strconv.ErrSyntax", Rows.laid_strconv_ErrSyntax), ("unicode/utf8.first", Rows.laid_unicode_utf8_first)]
theorem laid_tail {P : Program} {x : String × DataW Unit} {r : List (String × DataW Unit)} {W : World} (h : laidMet P (x :: r) W) : laidMet P r W := by
 obtain ⟨n, d⟩ := x
 obtain ⟨ps, ⟨g, t, cs, fuel, p, q, _, _, _, _, hr, rfl⟩, hnd, hall⟩ := h
 exact ⟨q, hr, (List.nodup_append.1 hnd).2.1, fun b off hm => hall b off (List.mem_append_right _ hm)⟩
theorem gES : Tryz.prog.globalNamed "strconv.ErrSyntax" = some 3 := by kernel_rfl
theorem gER : Tryz.prog.globalNamed "strconv.ErrRange" = some 4 := by kernel_rfl
theorem gPT : Tryz.prog.globalNamed "internal/strconv.uint64pow10" = some 5 := by kernel_rfl
theorem tES : (Tryz.prog.globals[3]?).map (·.type) = some 123 := by kernel_rfl
theorem tER : (Tryz.prog.globals[4]?).map (·.type) = some 123 := by kernel_rfl
theorem tPT : (Tryz.prog.globals[5]?).map (·.type) = some 203 := by kernel_rfl
theorem cellsES : Tryz.prog.cellsOf 214 = 1 := by kernel_rfl
theorem cellsST : Tryz.prog.cellsOf 9 = 1 := by kernel_rfl
theorem cellsU64 : Tryz.prog.cellsOf 24 = 1 := by kernel_rfl
theorem cellsPT : Tryz.prog.cellsOf 203 = 20 := by kernel_rfl
theorem star : "*" ++ "errors.errorString" = "*errors.errorString" := by decide
theorem rowES (u : TypeId) (h : Tryz.prog.typeName? 3 u = some "*errors.errorString") : u = 212 :=
 typeName_ptr_named (nm := "errors.errorString") (by rw [star]; kernel_rfl) (by kernel_rfl) (by decide) u (by rw [star]; exact h)
theorem powData : (Rows.laid_internal_strconv_uint64pow10 : DataW Unit) = Lib.tabData .u64 Lib.pow10Tab := by kernel_rfl
def tab64 : List Int := match (Rows.laid_math_bits_deBruijn64tab : DataW Unit) with
 | .agg l => l.map fun | .lit (.int _ n) => n | _ => 0
 | _ => []
theorem gDT : Tryz.prog.globalNamed "math/bits.deBruijn64tab" = some 9 := by kernel_rfl
theorem tDT : (Tryz.prog.globals[9]?).map (·.type) = some 218 := by kernel_rfl
theorem cellsDT : Tryz.prog.cellsOf 218 = 64 := by kernel_rfl
theorem cellsU8 : Tryz.prog.cellsOf 5 = 1 := by kernel_rfl
theorem dtData : (Rows.laid_math_bits_deBruijn64tab : DataW Unit) = Lib.tabData .u8 tab64 := by kernel_rfl
theorem env7_of {W : World} (hL : laidMetH Tryz.prog laid7 W) (hsh : W.ShapedOpen Tryz.prog) : Env6 W := by
 have h0 : laidMet Tryz.prog laid7 W := hL
 have h1 := laid_tail h0
 have h2 := laid_tail h1
 have h3 := laid_tail (laid_tail h2)
 have h4 := laid_tail h3
 obtain ⟨m, hm⟩ := Tryz.laysM145.s1_3 W hsh
 obtain ⟨a0, s0, hv0, -, -, -⟩ := laid_sentinel h3 gER tER Tryz.underlying123 rowES Tryz.underlying212 Tryz.underlying214 rfl rfl Tryz.underlying9 cellsES cellsST
 obtain ⟨a1, s1, hv1, -, -, -⟩ := laid_sentinel h4 gES tES Tryz.underlying123 rowES Tryz.underlying212 Tryz.underlying214 rfl rfl Tryz.underlying9 cellsES cellsST
 rw [powData] at h2
 rw [dtData] at h1
 have ht := Lib.tabIs_of_head gDT tDT Tryz.underlying218 Tryz.underlying5 cellsU8 cellsDT h1
 exact ⟨⟨⟨m, hm⟩, ⟨_, _, hv1⟩, ⟨_, _, hv0⟩, Lib.tabIs_of_head gPT tPT Tryz.underlying203 Tryz.underlying24 cellsU64 cellsPT h2⟩, ht.cell gDT 15 (by decide +kernel)⟩
noncomputable def low : Nat := (World.holding Tryz.prog default ⟨#[], #[], []⟩).heap.size
abbrev rngS : ByteArray := ⟨#[118, 97, 108, 117, 101, 32, 111, 117, 116, 32, 111, 102, 32, 114, 97, 110, 103, 101]⟩
abbrev synS : ByteArray := ⟨#[105, 110, 118, 97, 108, 105, 100, 32, 115, 121, 110, 116, 97, 120]⟩
def litsIn : DataW Unit → List Value
 | .lit (.int k n) => [Value.int k n]
 | .agg l => l.map fun | .lit (.int k n) => Value.int k n | _ => undef
 | _ => [undef]
def litsOf (d : DataW Unit) : Array Value := match d with
 | .agg l => (l.flatMap litsIn).toArray
 | _ => #[]
noncomputable def laidWorld (os : Os) : World :=
 let w0 := World.holding Tryz.prog os ⟨#[.cells #[.string rngS] 214, .cells #[.string synS] 214], #[], []⟩
 let put (b : Nat) (cs : Array Value) (h : Array Obj) : Array Obj := h.modify b fun
  | .cells _ t frozen => .cells cs t frozen
  | o => o
 { w0 with heap := put 8 (litsOf Rows.laid_math_bits_deBruijn32tab) (put 9 (litsOf Rows.laid_math_bits_deBruijn64tab) (put 5 (litsOf Rows.laid_internal_strconv_uint64pow10) (put 7 (litsOf Rows.laid_unicode_utf8_acceptRanges) (put 6 (litsOf Rows.laid_unicode_utf8_first) (put 4 #[.iface 212 (.pointer (some ⟨low, 0, none⟩))] (put 3 #[.iface 212 (.pointer (some ⟨low + 1, 0, none⟩))] w0.heap)))))) }
theorem laid_met (os : Os) (args : Array Value) : laidMet Tryz.prog laid7 ((laidWorld os).forCall (fun _ _ => 0) ⟨#[], args, []⟩).memory :=
 laidMet_of_run' 8 (by kernel_rfl) (by kernel_rfl)
end Go.Proofs.YtboinifeemghaaaGreatDoor
namespace Go.Proofs.YtboinifeemghaaaGreatDoor
open Go.ChangeShapes Go.WideShapes Go.ChangeAt Go.RowKit Go.Joins Go.Deep
theorem cellsSp : Tryz.prog.cellsOf 36 = 7 := by kernel_rfl
theorem cellsD2 : Tryz.prog.cellsOf 34 = 6 := by kernel_rfl
theorem cellsInt : Tryz.prog.cellsOf 3 = 1 := by kernel_rfl
section
variable {H : Type} {enc : TypeId × Value → H} {W : World} {base : Nat} {sp : Nat → Bool} {held : Bool}
structure Px.okL (p : Px) : Prop where
 k0 : p.k0.okL
 k1 : p.k1.okL
 a00 : -9223372036854775808 ≤ p.a0
 a01 : p.a0 ≤ 9223372036854775807
 a10 : -9223372036854775808 ≤ p.a1
 a11 : p.a1 ≤ 9223372036854775807
theorem int_cell {c : Value} {x : DataW H × List MemPlace} {fuel : Nat} (hf : DataW.trod enc Tryz.prog W base sp held fuel 3 [c] = some x) : ∃ n : Int, c = .int .i64 n ∧ x.1 = .lit (.int .i64 n) ∧ -9223372036854775808 ≤ n ∧ n ≤ 9223372036854775807 := by
 obtain ⟨n, e, g, w⟩ := DataW.trod_int Tryz.underlying3 hf
 simp only [List.cons.injEq, and_true] at e
 simp [Lit.wf, IntKind.min, IntKind.max, IntKind.signed, IntKind.bits] at w
 subst g
 exact ⟨n, e, rfl, by omega, by omega⟩
theorem pair_of {α : Type} {xs : List α} (h : xs.length = 2) : ∃ a b, xs = [a, b] := by
 match xs, h with
 | [a, b], _ => exact ⟨a, b, rfl⟩
theorem dimc_of {c0 c1 c2 : Value} {x : DataW H × List MemPlace} {fuel : Nat} (hf : DataW.trod enc Tryz.prog W base sp held fuel 23 [c0, c1, c2] = some x) : ∃ k : Dm, c0 = .int .i64 k.kind ∧ c1 = .int .i64 k.side ∧ c2 = .int .i64 k.step ∧ k.ok := by
 have hs := Tryz.underlying23
 have F := field_at hs (by kernel_rfl) hf
 obtain ⟨_, _, h0, _⟩ := F 0 _ c0 rfl rfl
 obtain ⟨_, _, h1, _⟩ := F 1 _ c1 rfl rfl
 obtain ⟨_, _, h2, _⟩ := F 2 _ c2 rfl rfl
 obtain ⟨n0, rfl, _, r0, r1⟩ := int_cell h0
 obtain ⟨n1, rfl, _, r2, r3⟩ := int_cell h1
 obtain ⟨n2, rfl, _, r4, r5⟩ := int_cell h2
 exact ⟨⟨n0, n1, n2⟩, rfl, rfl, rfl, ⟨r0, r1, r2, r3, r4, r5⟩⟩
theorem sp_of_trod {v : Value} {d : DataW H} {p : List MemPlace} {r : Reach} {b0 : Nat} (hv : Value.okWide Tryz.prog W r b0 36 v) (h : DataW.Trod enc Tryz.prog W base sp held 36 v d p) : ∃ s : Sp, v = sv s ∧ s.ok := by
 have hs := Tryz.underlying36
 obtain ⟨⟨l⟩, rfl, hsz⟩ := okWide_struct hs hv
 obtain ⟨fuel, hf⟩ := h
 match l, hsz.trans cellsSp with
 | [c0, c1, c2, c3, c4, c5, c6], _ =>
  obtain ⟨y0, y1, n, _, _, h0, h1⟩ := trod_struct2 hs hf
  rw [cellsInt] at h0
  rw [cellsD2] at h1
  simp [Value.cells] at h0 h1
  obtain ⟨n0, rfl, _, r0, r1⟩ := int_cell h0
  obtain ⟨zs, m2, _, rfl, _, hl2, hi2⟩ := DataW.trod_array Tryz.underlying34 h1
  rw [cellsDim] at hi2
  obtain ⟨za, zb, rfl⟩ := pair_of hl2
  have g2 := hi2 0 (by omega)
  have g3 := hi2 1 (by omega)
  simp at g2 g3
  obtain ⟨k0, rfl, rfl, rfl, o0⟩ := dimc_of g2
  obtain ⟨k1, rfl, rfl, rfl, o1⟩ := dimc_of g3
  exact ⟨⟨n0, k0, k1⟩, rfl, r0, r1, o0, o1⟩
end
end Go.Proofs.YtboinifeemghaaaGreatDoor
