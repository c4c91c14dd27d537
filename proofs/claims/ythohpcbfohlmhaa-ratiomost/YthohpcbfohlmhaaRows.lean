/-
  No cell of these rows narrows 'for every input' (looked for: loops, veiled, ifaces, maps, wideKeys, modest, calm, conditions, laid).
  DERIVED. THE GIVEN ROWS OF THIS SEAT. 7 by the template 'for every input the law returns true; each argument reads behind the call as it read before'; 0 by the template 'total and deterministic' (their statements: YthohpcbfohlmhaaTotals.lean).
  GIVEN WITH THE SEED: the statements are not yours to turn. If you find one false, say at which input.
  Laid BY PROGRAM, IN A SANDBOX (cutbox-rows.mjs): the forced cells as the released guide's own fill.sh prints them over the translation 2023e014d17448f1… (all of the seat's roots in one cut). By AI agents, Wed Nov 11 2026. No macro, syntax, notation, axiom, sorry.
-/
import Derived.Test.YthohpcbfohlmhaaChecked
import GoSem.Claim
import GoSem.ClaimJoined
import GoSem.ClaimMapViews
import Derived.JoinedTies
import Derived.KernelRfl
namespace Go.Proofs.Ythohpcbfohlmhaa
/- THE CELL 'sum', in the pinned program and in every row, IS THE sha256 OF THE DUMP (.gsa) THAT YthohpcbfohlmhaaProg.lean LOADS. Nothing in Lean hashes anything: it is a label: what it is worth is what the hold of that sum in a sandbox is worth. -/
noncomputable def Try.pinned : Pinned := { name := "ythohpcbfohlmhaa", sum := "2023e014d17448f11c85aaf0cf88ccd65e9ce5566d9db9fc062889cad5e2017f", checked := Try.checked }
namespace Rows
def none {H : Type} : Left H := { results := [], args := [] }

/-- 'cribblelaw12.RatioTells': WHATEVER THE INPUT: true; the input reads as it did. -/
def ratioTellsSpec : ChangeSpec := { name := "ratioTells", fn := fun _ => fun
  | [d1, d2, d3, d4, d5] => { results := [.lit (.bool true)], args := [d1, d2, d3, d4, d5] }
  | _ => none }
def ratioTellsRow : OpenClaim := { program := "ythohpcbfohlmhaa", sum := "2023e014d17448f11c85aaf0cf88ccd65e9ce5566d9db9fc062889cad5e2017f", func := "cribble/cribblelaw12.RatioTells", spec := "ratioTells", named := ["math/bits.divideError", "math/bits.overflowError"], apart := false }
def RatioTellsSaid : Prop := ratioTellsRow.holds Try.pinned (OpenSpec.ofChange ratioTellsSpec)

/-- ITS FALSE NEIGHBOUR: 'it returns false'. Refute it at one input. -/
def ratioTellsWrong : ChangeSpec := { name := "ratioTells", fn := fun _ => fun
  | [d1, d2, d3, d4, d5] => { results := [.lit (.bool false)], args := [d1, d2, d3, d4, d5] }
  | _ => none }
def RatioTellsWrongFalsely : Prop := ratioTellsRow.holds Try.pinned (OpenSpec.ofChange ratioTellsWrong)

/-- 'cribblelaw12.RatioDivides': WHATEVER THE INPUT: true; the input reads as it did. -/
def ratioDividesSpec : ChangeSpec := { name := "ratioDivides", fn := fun _ => fun
  | [d1, d2] => { results := [.lit (.bool true)], args := [d1, d2] }
  | _ => none }
def ratioDividesRow : OpenClaim := { program := "ythohpcbfohlmhaa", sum := "2023e014d17448f11c85aaf0cf88ccd65e9ce5566d9db9fc062889cad5e2017f", func := "cribble/cribblelaw12.RatioDivides", spec := "ratioDivides", named := ["math/bits.divideError", "math/bits.overflowError"], apart := false }
def RatioDividesSaid : Prop := ratioDividesRow.holds Try.pinned (OpenSpec.ofChange ratioDividesSpec)

/-- ITS FALSE NEIGHBOUR: 'it returns false'. Refute it at one input. -/
def ratioDividesWrong : ChangeSpec := { name := "ratioDivides", fn := fun _ => fun
  | [d1, d2] => { results := [.lit (.bool false)], args := [d1, d2] }
  | _ => none }
def RatioDividesWrongFalsely : Prop := ratioDividesRow.holds Try.pinned (OpenSpec.ofChange ratioDividesWrong)

/-- 'cribblelaw12.RatioSums': WHATEVER THE INPUT: true; the input reads as it did. -/
def ratioSumsSpec : ChangeSpec := { name := "ratioSums", fn := fun _ => fun
  | [d1, d2, d3, d4] => { results := [.lit (.bool true)], args := [d1, d2, d3, d4] }
  | _ => none }
def ratioSumsRow : OpenClaim := { program := "ythohpcbfohlmhaa", sum := "2023e014d17448f11c85aaf0cf88ccd65e9ce5566d9db9fc062889cad5e2017f", func := "cribble/cribblelaw12.RatioSums", spec := "ratioSums", named := ["math/bits.divideError", "math/bits.overflowError"], apart := false }
def RatioSumsSaid : Prop := ratioSumsRow.holds Try.pinned (OpenSpec.ofChange ratioSumsSpec)

/-- ITS FALSE NEIGHBOUR: 'it returns false'. Refute it at one input. -/
def ratioSumsWrong : ChangeSpec := { name := "ratioSums", fn := fun _ => fun
  | [d1, d2, d3, d4] => { results := [.lit (.bool false)], args := [d1, d2, d3, d4] }
  | _ => none }
def RatioSumsWrongFalsely : Prop := ratioSumsRow.holds Try.pinned (OpenSpec.ofChange ratioSumsWrong)

/-- 'cribblelaw12.RatioLeast': WHATEVER THE INPUT: true; the input reads as it did. -/
def ratioLeastSpec : ChangeSpec := { name := "ratioLeast", fn := fun _ => fun
  | [d1, d2, d3, d4, d5] => { results := [.lit (.bool true)], args := [d1, d2, d3, d4, d5] }
  | _ => none }
def ratioLeastRow : OpenClaim := { program := "ythohpcbfohlmhaa", sum := "2023e014d17448f11c85aaf0cf88ccd65e9ce5566d9db9fc062889cad5e2017f", func := "cribble/cribblelaw12.RatioLeast", spec := "ratioLeast", named := ["math/bits.divideError", "math/bits.overflowError"], apart := false }
def RatioLeastSaid : Prop := ratioLeastRow.holds Try.pinned (OpenSpec.ofChange ratioLeastSpec)

/-- ITS FALSE NEIGHBOUR: 'it returns false'. Refute it at one input. -/
def ratioLeastWrong : ChangeSpec := { name := "ratioLeast", fn := fun _ => fun
  | [d1, d2, d3, d4, d5] => { results := [.lit (.bool false)], args := [d1, d2, d3, d4, d5] }
  | _ => none }
def RatioLeastWrongFalsely : Prop := ratioLeastRow.holds Try.pinned (OpenSpec.ofChange ratioLeastWrong)

/-- 'cribblelaw12.RatioJoins': WHATEVER THE INPUT: true; the input reads as it did. -/
def ratioJoinsSpec : ChangeSpec := { name := "ratioJoins", fn := fun _ => fun
  | [d1, d2, d3, d4, d5, d6] => { results := [.lit (.bool true)], args := [d1, d2, d3, d4, d5, d6] }
  | _ => none }
def ratioJoinsRow : OpenClaim := { program := "ythohpcbfohlmhaa", sum := "2023e014d17448f11c85aaf0cf88ccd65e9ce5566d9db9fc062889cad5e2017f", func := "cribble/cribblelaw12.RatioJoins", spec := "ratioJoins", named := ["math/bits.divideError", "math/bits.overflowError"], apart := false }
def RatioJoinsSaid : Prop := ratioJoinsRow.holds Try.pinned (OpenSpec.ofChange ratioJoinsSpec)

/-- ITS FALSE NEIGHBOUR: 'it returns false'. Refute it at one input. -/
def ratioJoinsWrong : ChangeSpec := { name := "ratioJoins", fn := fun _ => fun
  | [d1, d2, d3, d4, d5, d6] => { results := [.lit (.bool false)], args := [d1, d2, d3, d4, d5, d6] }
  | _ => none }
def RatioJoinsWrongFalsely : Prop := ratioJoinsRow.holds Try.pinned (OpenSpec.ofChange ratioJoinsWrong)

/-- 'cribblelaw12.RatioMost': WHATEVER THE INPUT: true; the input reads as it did. -/
def ratioMostSpec : ChangeSpec := { name := "ratioMost", fn := fun _ => fun
  | [d1, d2, d3, d4] => { results := [.lit (.bool true)], args := [d1, d2, d3, d4] }
  | _ => none }
def ratioMostRow : OpenClaim := { program := "ythohpcbfohlmhaa", sum := "2023e014d17448f11c85aaf0cf88ccd65e9ce5566d9db9fc062889cad5e2017f", func := "cribble/cribblelaw12.RatioMost", spec := "ratioMost", named := ["math/bits.divideError", "math/bits.overflowError"], apart := false }
def RatioMostSaid : Prop := ratioMostRow.holds Try.pinned (OpenSpec.ofChange ratioMostSpec)

/-- ITS FALSE NEIGHBOUR: 'it returns false'. Refute it at one input. -/
def ratioMostWrong : ChangeSpec := { name := "ratioMost", fn := fun _ => fun
  | [d1, d2, d3, d4] => { results := [.lit (.bool false)], args := [d1, d2, d3, d4] }
  | _ => none }
def RatioMostWrongFalsely : Prop := ratioMostRow.holds Try.pinned (OpenSpec.ofChange ratioMostWrong)

/-- 'cribblelaw12.RatioClips': WHATEVER THE INPUT: true; the input reads as it did. -/
def ratioClipsSpec : ChangeSpec := { name := "ratioClips", fn := fun _ => fun
  | [d1, d2, d3, d4] => { results := [.lit (.bool true)], args := [d1, d2, d3, d4] }
  | _ => none }
def ratioClipsRow : OpenClaim := { program := "ythohpcbfohlmhaa", sum := "2023e014d17448f11c85aaf0cf88ccd65e9ce5566d9db9fc062889cad5e2017f", func := "cribble/cribblelaw12.RatioClips", spec := "ratioClips", named := ["math/bits.divideError", "math/bits.overflowError"], apart := false }
def RatioClipsSaid : Prop := ratioClipsRow.holds Try.pinned (OpenSpec.ofChange ratioClipsSpec)

/-- ITS FALSE NEIGHBOUR: 'it returns false'. Refute it at one input. -/
def ratioClipsWrong : ChangeSpec := { name := "ratioClips", fn := fun _ => fun
  | [d1, d2, d3, d4] => { results := [.lit (.bool false)], args := [d1, d2, d3, d4] }
  | _ => none }
def RatioClipsWrongFalsely : Prop := ratioClipsRow.holds Try.pinned (OpenSpec.ofChange ratioClipsWrong)

/- THE SECOND FORM. 'bulk': how many values and letters a reading holds, each counted each time it is reached (what is shared counts as often as it is met; a slice's spare places count too). A statement '..UptoSaid' is the law's where the arguments, and the package variables that the reading takes, are together of bulk at most 1048576: NARROWER than '..Said'. Prove '..Said' where nothing that the law and all that it calls make is longer than what came in: it says more and counts as full. Else prove '..UptoSaid'. A law counts once. -/
mutual
def uptoBulk {H : Type} : DataW H → Nat
  | .lit (.string bytes) => bytes.length + 1
  | .lit _ => 1
  | .nil => 1
  | .ptr d => uptoBulk d + 1
  | .slice elems spare => uptoBulkAll elems + uptoBulkAll spare + 1
  | .agg parts => uptoBulkAll parts + 1
  | .iface _ d => uptoBulk d + 1
  | .map entries => uptoBulkEntries entries + 1
  | .held _ => 1
def uptoBulkAll {H : Type} : List (DataW H) → Nat
  | [] => 0
  | d :: r => uptoBulk d + uptoBulkAll r
def uptoBulkEntries {H : Type} : List (Lit × DataW H) → Nat
  | [] => 0
  | x :: r => uptoBulkEntry x + uptoBulkEntries r
def uptoBulkEntry {H : Type} : Lit × DataW H → Nat
  | (.string bytes, d) => bytes.length + uptoBulk d + 1
  | (_, d) => uptoBulk d + 1
 end
def uptoSmall : (H : Type) → List (DataW H) → Bool := fun _ ds => decide (uptoBulkAll ds ≤ 1048576)
def OpenSpec.upto (s : _root_.Go.ChangeSpec) : _root_.Go.OpenSpec := { _root_.Go.OpenSpec.ofChange s with cond := some uptoSmall }

/-- 'cribblelaw12.RatioTells', WHERE WHAT IT READS IS OF BULK AT MOST 1048576: true; the input reads as it did. -/
def ratioTellsUptoRow : OpenClaim := { program := "ythohpcbfohlmhaa", sum := "2023e014d17448f11c85aaf0cf88ccd65e9ce5566d9db9fc062889cad5e2017f", func := "cribble/cribblelaw12.RatioTells", spec := "ratioTells", named := ["math/bits.divideError", "math/bits.overflowError"], apart := false, narrowed := true }
def RatioTellsUptoSaid : Prop := ratioTellsUptoRow.holds Try.pinned (OpenSpec.upto ratioTellsSpec)

/-- 'cribblelaw12.RatioDivides', WHERE WHAT IT READS IS OF BULK AT MOST 1048576: true; the input reads as it did. -/
def ratioDividesUptoRow : OpenClaim := { program := "ythohpcbfohlmhaa", sum := "2023e014d17448f11c85aaf0cf88ccd65e9ce5566d9db9fc062889cad5e2017f", func := "cribble/cribblelaw12.RatioDivides", spec := "ratioDivides", named := ["math/bits.divideError", "math/bits.overflowError"], apart := false, narrowed := true }
def RatioDividesUptoSaid : Prop := ratioDividesUptoRow.holds Try.pinned (OpenSpec.upto ratioDividesSpec)

/-- 'cribblelaw12.RatioSums', WHERE WHAT IT READS IS OF BULK AT MOST 1048576: true; the input reads as it did. -/
def ratioSumsUptoRow : OpenClaim := { program := "ythohpcbfohlmhaa", sum := "2023e014d17448f11c85aaf0cf88ccd65e9ce5566d9db9fc062889cad5e2017f", func := "cribble/cribblelaw12.RatioSums", spec := "ratioSums", named := ["math/bits.divideError", "math/bits.overflowError"], apart := false, narrowed := true }
def RatioSumsUptoSaid : Prop := ratioSumsUptoRow.holds Try.pinned (OpenSpec.upto ratioSumsSpec)

/-- 'cribblelaw12.RatioLeast', WHERE WHAT IT READS IS OF BULK AT MOST 1048576: true; the input reads as it did. -/
def ratioLeastUptoRow : OpenClaim := { program := "ythohpcbfohlmhaa", sum := "2023e014d17448f11c85aaf0cf88ccd65e9ce5566d9db9fc062889cad5e2017f", func := "cribble/cribblelaw12.RatioLeast", spec := "ratioLeast", named := ["math/bits.divideError", "math/bits.overflowError"], apart := false, narrowed := true }
def RatioLeastUptoSaid : Prop := ratioLeastUptoRow.holds Try.pinned (OpenSpec.upto ratioLeastSpec)

/-- 'cribblelaw12.RatioJoins', WHERE WHAT IT READS IS OF BULK AT MOST 1048576: true; the input reads as it did. -/
def ratioJoinsUptoRow : OpenClaim := { program := "ythohpcbfohlmhaa", sum := "2023e014d17448f11c85aaf0cf88ccd65e9ce5566d9db9fc062889cad5e2017f", func := "cribble/cribblelaw12.RatioJoins", spec := "ratioJoins", named := ["math/bits.divideError", "math/bits.overflowError"], apart := false, narrowed := true }
def RatioJoinsUptoSaid : Prop := ratioJoinsUptoRow.holds Try.pinned (OpenSpec.upto ratioJoinsSpec)

/-- 'cribblelaw12.RatioMost', WHERE WHAT IT READS IS OF BULK AT MOST 1048576: true; the input reads as it did. -/
def ratioMostUptoRow : OpenClaim := { program := "ythohpcbfohlmhaa", sum := "2023e014d17448f11c85aaf0cf88ccd65e9ce5566d9db9fc062889cad5e2017f", func := "cribble/cribblelaw12.RatioMost", spec := "ratioMost", named := ["math/bits.divideError", "math/bits.overflowError"], apart := false, narrowed := true }
def RatioMostUptoSaid : Prop := ratioMostUptoRow.holds Try.pinned (OpenSpec.upto ratioMostSpec)

/-- 'cribblelaw12.RatioClips', WHERE WHAT IT READS IS OF BULK AT MOST 1048576: true; the input reads as it did. -/
def ratioClipsUptoRow : OpenClaim := { program := "ythohpcbfohlmhaa", sum := "2023e014d17448f11c85aaf0cf88ccd65e9ce5566d9db9fc062889cad5e2017f", func := "cribble/cribblelaw12.RatioClips", spec := "ratioClips", named := ["math/bits.divideError", "math/bits.overflowError"], apart := false, narrowed := true }
def RatioClipsUptoSaid : Prop := ratioClipsUptoRow.holds Try.pinned (OpenSpec.upto ratioClipsSpec)

end Rows
end Go.Proofs.Ythohpcbfohlmhaa
