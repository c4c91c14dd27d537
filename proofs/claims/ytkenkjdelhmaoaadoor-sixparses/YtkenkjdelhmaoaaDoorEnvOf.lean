/- From what a row lists to what the walks ask of the library's variables. No conditions. -/
import Derived.Test.YtkenkjdelhmaoaaDoorFour2
import Derived.Stop.LaidErr
import Derived.Lib.LaidTab
import Derived.LaidLaws
import Derived.LaidHandle
import Derived.RowKitTokens
namespace Go.Proofs.YtkenkjdelhmaoaaDoor
set_option linter.unusedVariables false
set_option linter.unusedSimpArgs false
open Go.RowKit Go.ChangeShapes Go.WideShapes
def laid5 : List (String × DataW Unit) := [("math/bits.deBruijn32tab", Rows.laid_math_bits_deBruijn32tab), ("math/bits.deBruijn64tab", Rows.laid_math_bits_deBruijn64tab), ("internal/strconv.uint64pow10", Rows.laid_internal_strconv_uint64pow10), ("strconv.ErrRange", Rows.laid_strconv_ErrRange), ("strconv.ErrSyntax", Rows.laid_strconv_ErrSyntax)]
theorem laid_tail {P : Program} {x : String × DataW Unit} {r : List (String × DataW Unit)} {W : World} (h : laidMet P (x :: r) W) : laidMet P r W := by
  obtain ⟨n, d⟩ := x
  obtain ⟨ps, ⟨g, t, cs, fuel, p, q, _, _, _, _, hr, rfl⟩, hnd, hall⟩ := h
  exact ⟨q, hr, (List.nodup_append.1 hnd).2.1, fun b off hm => hall b off (List.mem_append_right _ hm)⟩
theorem gES : Tryd.prog.globalNamed "strconv.ErrSyntax" = some 1 := by kernel_rfl
theorem gER : Tryd.prog.globalNamed "strconv.ErrRange" = some 2 := by kernel_rfl
theorem gPT : Tryd.prog.globalNamed "internal/strconv.uint64pow10" = some 3 := by kernel_rfl
theorem tES : (Tryd.prog.globals[1]?).map (·.type) = some 68 := by kernel_rfl
theorem tER : (Tryd.prog.globals[2]?).map (·.type) = some 68 := by kernel_rfl
theorem tPT : (Tryd.prog.globals[3]?).map (·.type) = some 119 := by kernel_rfl
theorem cellsES : Tryd.prog.cellsOf 127 = 1 := by kernel_rfl
theorem cellsST : Tryd.prog.cellsOf 9 = 1 := by kernel_rfl
theorem cellsU64 : Tryd.prog.cellsOf 38 = 1 := by kernel_rfl
theorem cellsPT : Tryd.prog.cellsOf 119 = 20 := by kernel_rfl
theorem star : "*" ++ "errors.errorString" = "*errors.errorString" := by decide
theorem rowES (u : TypeId) (h : Tryd.prog.typeName? 3 u = some "*errors.errorString") : u = 125 :=
  typeName_ptr_named (nm := "errors.errorString") (by rw [star]; kernel_rfl) (by kernel_rfl) (by decide) u (by rw [star]; exact h)
theorem powData : (Rows.laid_internal_strconv_uint64pow10 : DataW Unit) = Lib.tabData .u64 Lib.pow10Tab := by kernel_rfl
theorem env_of {W : World} (hL : laidMetH Tryd.prog laid5 W) (hsh : W.ShapedOpen Tryd.prog) : Env W := by
  have h0 : laidMet Tryd.prog laid5 W := hL
  have h2 := laid_tail (laid_tail h0)
  have h3 := laid_tail h2
  have h4 := laid_tail h3
  obtain ⟨m, hm⟩ := Tryd.laysM145.s1_3 W hsh
  obtain ⟨a0, s0, hv0, -, -, -⟩ := laid_sentinel h3 gER tER Tryd.underlying68 rowES Tryd.underlying125 Tryd.underlying127 rfl rfl Tryd.underlying9 cellsES cellsST
  obtain ⟨a1, s1, hv1, -, -, -⟩ := laid_sentinel h4 gES tES Tryd.underlying68 rowES Tryd.underlying125 Tryd.underlying127 rfl rfl Tryd.underlying9 cellsES cellsST
  rw [powData] at h2
  exact ⟨⟨m, hm⟩, ⟨_, _, hv1⟩, ⟨_, _, hv0⟩, Lib.tabIs_of_head gPT tPT Tryd.underlying119 Tryd.underlying38 cellsU64 cellsPT h2⟩
/-- a world that meets it: the settled one, each variable holding what its initialiser lays -/
noncomputable def low : Nat := (World.holding Tryd.prog default ⟨#[], #[], []⟩).heap.size
abbrev rngS : ByteArray := ⟨#[118, 97, 108, 117, 101, 32, 111, 117, 116, 32, 111, 102, 32, 114, 97, 110, 103, 101]⟩
abbrev synS : ByteArray := ⟨#[105, 110, 118, 97, 108, 105, 100, 32, 115, 121, 110, 116, 97, 120]⟩
def litsOf (d : DataW Unit) : Array Value := match d with
  | .agg l => (l.map fun | .lit (.int k n) => Value.int k n | _ => undef).toArray
  | _ => #[]
noncomputable def laidWorld (os : Os) : World :=
  let w0 := World.holding Tryd.prog os ⟨#[.cells #[.string rngS] 127, .cells #[.string synS] 127], #[], []⟩
  let put (b : Nat) (cs : Array Value) (h : Array Obj) : Array Obj := h.modify b fun
      | .cells _ t frozen => .cells cs t frozen
      | o => o
  { w0 with heap := put 4 (litsOf Rows.laid_math_bits_deBruijn32tab) (put 5 (litsOf Rows.laid_math_bits_deBruijn64tab) (put 3 (litsOf Rows.laid_internal_strconv_uint64pow10) (put 2 #[.iface 125 (.pointer (some ⟨low, 0, none⟩))] (put 1 #[.iface 125 (.pointer (some ⟨low + 1, 0, none⟩))] w0.heap)))) }
theorem laid_met (os : Os) (args : Array Value) : laidMet Tryd.prog laid5 ((laidWorld os).forCall (fun _ _ => 0) ⟨#[], args, []⟩).memory :=
  laidMet_of_run' 8 (by kernel_rfl) (by kernel_rfl)
end Go.Proofs.YtkenkjdelhmaoaaDoor
