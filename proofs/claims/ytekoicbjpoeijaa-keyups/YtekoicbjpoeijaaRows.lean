/-
  No cell of these rows narrows 'for every input' (looked for: loops, veiled, ifaces, maps, wideKeys, modest, calm, conditions, laid).
  DERIVED. THE GIVEN ROWS OF THIS SEAT. 13 by the template 'for every input the law returns true; each argument reads behind the call as it read before'; 0 by the template 'total and deterministic' (their statements: YtekoicbjpoeijaaTotals.lean).
  GIVEN WITH THE SEED: the statements are not yours to turn. If you find one false, say at which input.
  Laid BY PROGRAM, IN A SANDBOX (cutbox-rows.mjs): the forced cells as the released guide's own fill.sh prints them over the translation bb51f4daccbe04dc… (all of the seat's roots in one cut). By AI agents, Wed Nov 11 2026. No macro, syntax, notation, axiom, sorry.
-/
import Derived.Test.YtekoicbjpoeijaaChecked
import GoSem.Claim
import GoSem.ClaimJoined
import GoSem.ClaimMapViews
import Derived.JoinedTies
import Derived.KernelRfl
namespace Go.Proofs.Ytekoicbjpoeijaa
/- THE CELL 'sum', in the pinned program and in every row, IS THE sha256 OF THE DUMP (.gsa) THAT YtekoicbjpoeijaaProg.lean LOADS. Nothing in Lean hashes anything: it is a label: what it is worth is what the hold of that sum in a sandbox is worth. -/
noncomputable def Try.pinned : Pinned := { name := "ytekoicbjpoeijaa", sum := "bb51f4daccbe04dc7505cba9b232bae5d4732aa75bbe2e040bfa81a18ce6f486", checked := Try.checked }
namespace Rows
def none {H : Type} : Left H := { results := [], args := [] }

/-- 'cribblelaw07.KeyTells': WHATEVER THE INPUT: true; the input reads as it did. -/
def keyTellsSpec : ChangeSpec := { name := "keyTells", fn := fun _ => fun
  | [d1, d2, d3, d4, d5] => { results := [.lit (.bool true)], args := [d1, d2, d3, d4, d5] }
  | _ => none }
def keyTellsRow : OpenClaim := { program := "ytekoicbjpoeijaa", sum := "bb51f4daccbe04dc7505cba9b232bae5d4732aa75bbe2e040bfa81a18ce6f486", func := "cribble/cribblelaw07.KeyTells", spec := "keyTells", inPlace := ["internal/bytealg.IndexByteString", "internal/bytealg.IndexString", "internal/bytealg.CountString"], unfollowed := true, recurses := true, named := ["internal/bytealg.MaxLen"], apart := false }
def KeyTellsSaid : Prop := keyTellsRow.holds Try.pinned (OpenSpec.ofChange keyTellsSpec)

/-- ITS FALSE NEIGHBOUR: 'it returns false'. Refute it at one input. -/
def keyTellsWrong : ChangeSpec := { name := "keyTells", fn := fun _ => fun
  | [d1, d2, d3, d4, d5] => { results := [.lit (.bool false)], args := [d1, d2, d3, d4, d5] }
  | _ => none }
def KeyTellsWrongFalsely : Prop := keyTellsRow.holds Try.pinned (OpenSpec.ofChange keyTellsWrong)

/-- 'cribblelaw07.KeyCuts': WHATEVER THE INPUT: true; the input reads as it did. -/
def keyCutsSpec : ChangeSpec := { name := "keyCuts", fn := fun _ => fun
  | [d1, d2, d3] => { results := [.lit (.bool true)], args := [d1, d2, d3] }
  | _ => none }
def keyCutsRow : OpenClaim := { program := "ytekoicbjpoeijaa", sum := "bb51f4daccbe04dc7505cba9b232bae5d4732aa75bbe2e040bfa81a18ce6f486", func := "cribble/cribblelaw07.KeyCuts", spec := "keyCuts", inPlace := ["internal/bytealg.IndexByteString", "internal/bytealg.IndexString", "internal/bytealg.CountString"], unfollowed := true, recurses := true, named := ["internal/bytealg.MaxLen"], apart := false }
def KeyCutsSaid : Prop := keyCutsRow.holds Try.pinned (OpenSpec.ofChange keyCutsSpec)

/-- ITS FALSE NEIGHBOUR: 'it returns false'. Refute it at one input. -/
def keyCutsWrong : ChangeSpec := { name := "keyCuts", fn := fun _ => fun
  | [d1, d2, d3] => { results := [.lit (.bool false)], args := [d1, d2, d3] }
  | _ => none }
def KeyCutsWrongFalsely : Prop := keyCutsRow.holds Try.pinned (OpenSpec.ofChange keyCutsWrong)

/-- 'cribblelaw07.KeyUps': WHATEVER THE INPUT: true; the input reads as it did. -/
def keyUpsSpec : ChangeSpec := { name := "keyUps", fn := fun _ => fun
  | [d1, d2] => { results := [.lit (.bool true)], args := [d1, d2] }
  | _ => none }
def keyUpsRow : OpenClaim := { program := "ytekoicbjpoeijaa", sum := "bb51f4daccbe04dc7505cba9b232bae5d4732aa75bbe2e040bfa81a18ce6f486", func := "cribble/cribblelaw07.KeyUps", spec := "keyUps", inPlace := ["internal/bytealg.IndexByteString", "internal/bytealg.IndexString", "internal/bytealg.CountString"], unfollowed := true, recurses := true, named := ["internal/bytealg.MaxLen"], apart := false }
def KeyUpsSaid : Prop := keyUpsRow.holds Try.pinned (OpenSpec.ofChange keyUpsSpec)

/-- ITS FALSE NEIGHBOUR: 'it returns false'. Refute it at one input. -/
def keyUpsWrong : ChangeSpec := { name := "keyUps", fn := fun _ => fun
  | [d1, d2] => { results := [.lit (.bool false)], args := [d1, d2] }
  | _ => none }
def KeyUpsWrongFalsely : Prop := keyUpsRow.holds Try.pinned (OpenSpec.ofChange keyUpsWrong)

/-- 'cribblelaw07.KeyOrders': WHATEVER THE INPUT: true; the input reads as it did. -/
def keyOrdersSpec : ChangeSpec := { name := "keyOrders", fn := fun _ => fun
  | [d1, d2] => { results := [.lit (.bool true)], args := [d1, d2] }
  | _ => none }
def keyOrdersRow : OpenClaim := { program := "ytekoicbjpoeijaa", sum := "bb51f4daccbe04dc7505cba9b232bae5d4732aa75bbe2e040bfa81a18ce6f486", func := "cribble/cribblelaw07.KeyOrders", spec := "keyOrders", inPlace := ["internal/bytealg.IndexByteString", "internal/bytealg.IndexString", "internal/bytealg.CountString"], unfollowed := true, recurses := true, named := ["internal/bytealg.MaxLen"], apart := false }
def KeyOrdersSaid : Prop := keyOrdersRow.holds Try.pinned (OpenSpec.ofChange keyOrdersSpec)

/-- ITS FALSE NEIGHBOUR: 'it returns false'. Refute it at one input. -/
def keyOrdersWrong : ChangeSpec := { name := "keyOrders", fn := fun _ => fun
  | [d1, d2] => { results := [.lit (.bool false)], args := [d1, d2] }
  | _ => none }
def KeyOrdersWrongFalsely : Prop := keyOrdersRow.holds Try.pinned (OpenSpec.ofChange keyOrdersWrong)

/-- 'cribblelaw07.KeyChain': WHATEVER THE INPUT: true; the input reads as it did. -/
def keyChainSpec : ChangeSpec := { name := "keyChain", fn := fun _ => fun
  | [d1, d2, d3] => { results := [.lit (.bool true)], args := [d1, d2, d3] }
  | _ => none }
def keyChainRow : OpenClaim := { program := "ytekoicbjpoeijaa", sum := "bb51f4daccbe04dc7505cba9b232bae5d4732aa75bbe2e040bfa81a18ce6f486", func := "cribble/cribblelaw07.KeyChain", spec := "keyChain", inPlace := ["internal/bytealg.IndexByteString", "internal/bytealg.IndexString", "internal/bytealg.CountString"], unfollowed := true, recurses := true, named := ["internal/bytealg.MaxLen"], apart := false }
def KeyChainSaid : Prop := keyChainRow.holds Try.pinned (OpenSpec.ofChange keyChainSpec)

/-- ITS FALSE NEIGHBOUR: 'it returns false'. Refute it at one input. -/
def keyChainWrong : ChangeSpec := { name := "keyChain", fn := fun _ => fun
  | [d1, d2, d3] => { results := [.lit (.bool false)], args := [d1, d2, d3] }
  | _ => none }
def KeyChainWrongFalsely : Prop := keyChainRow.holds Try.pinned (OpenSpec.ofChange keyChainWrong)

/-- 'cribblelaw07.KeyCutBack': WHATEVER THE INPUT: true; the input reads as it did. -/
def keyCutBackSpec : ChangeSpec := { name := "keyCutBack", fn := fun _ => fun
  | [d1, d2, d3, d4] => { results := [.lit (.bool true)], args := [d1, d2, d3, d4] }
  | _ => none }
def keyCutBackRow : OpenClaim := { program := "ytekoicbjpoeijaa", sum := "bb51f4daccbe04dc7505cba9b232bae5d4732aa75bbe2e040bfa81a18ce6f486", func := "cribble/cribblelaw07.KeyCutBack", spec := "keyCutBack", inPlace := ["internal/bytealg.IndexByteString", "internal/bytealg.IndexString", "internal/bytealg.CountString"], unfollowed := true, recurses := true, named := ["internal/bytealg.MaxLen"], apart := false }
def KeyCutBackSaid : Prop := keyCutBackRow.holds Try.pinned (OpenSpec.ofChange keyCutBackSpec)

/-- ITS FALSE NEIGHBOUR: 'it returns false'. Refute it at one input. -/
def keyCutBackWrong : ChangeSpec := { name := "keyCutBack", fn := fun _ => fun
  | [d1, d2, d3, d4] => { results := [.lit (.bool false)], args := [d1, d2, d3, d4] }
  | _ => none }
def KeyCutBackWrongFalsely : Prop := keyCutBackRow.holds Try.pinned (OpenSpec.ofChange keyCutBackWrong)

/-- 'cribblelaw07.KeyMeets': WHATEVER THE INPUT: true; the input reads as it did. -/
def keyMeetsSpec : ChangeSpec := { name := "keyMeets", fn := fun _ => fun
  | [d1, d2, d3] => { results := [.lit (.bool true)], args := [d1, d2, d3] }
  | _ => none }
def keyMeetsRow : OpenClaim := { program := "ytekoicbjpoeijaa", sum := "bb51f4daccbe04dc7505cba9b232bae5d4732aa75bbe2e040bfa81a18ce6f486", func := "cribble/cribblelaw07.KeyMeets", spec := "keyMeets", inPlace := ["internal/bytealg.IndexByteString", "internal/bytealg.IndexString", "internal/bytealg.CountString"], unfollowed := true, recurses := true, named := ["internal/bytealg.MaxLen"], apart := false }
def KeyMeetsSaid : Prop := keyMeetsRow.holds Try.pinned (OpenSpec.ofChange keyMeetsSpec)

/-- ITS FALSE NEIGHBOUR: 'it returns false'. Refute it at one input. -/
def keyMeetsWrong : ChangeSpec := { name := "keyMeets", fn := fun _ => fun
  | [d1, d2, d3] => { results := [.lit (.bool false)], args := [d1, d2, d3] }
  | _ => none }
def KeyMeetsWrongFalsely : Prop := keyMeetsRow.holds Try.pinned (OpenSpec.ofChange keyMeetsWrong)

/-- 'cribblelaw07.KeyBlock': WHATEVER THE INPUT: true; the input reads as it did. -/
def keyBlockSpec : ChangeSpec := { name := "keyBlock", fn := fun _ => fun
  | [d1, d2, d3] => { results := [.lit (.bool true)], args := [d1, d2, d3] }
  | _ => none }
def keyBlockRow : OpenClaim := { program := "ytekoicbjpoeijaa", sum := "bb51f4daccbe04dc7505cba9b232bae5d4732aa75bbe2e040bfa81a18ce6f486", func := "cribble/cribblelaw07.KeyBlock", spec := "keyBlock", inPlace := ["internal/bytealg.IndexByteString", "internal/bytealg.IndexString", "internal/bytealg.CountString"], unfollowed := true, recurses := true, named := ["internal/bytealg.MaxLen"], apart := false }
def KeyBlockSaid : Prop := keyBlockRow.holds Try.pinned (OpenSpec.ofChange keyBlockSpec)

/-- ITS FALSE NEIGHBOUR: 'it returns false'. Refute it at one input. -/
def keyBlockWrong : ChangeSpec := { name := "keyBlock", fn := fun _ => fun
  | [d1, d2, d3] => { results := [.lit (.bool false)], args := [d1, d2, d3] }
  | _ => none }
def KeyBlockWrongFalsely : Prop := keyBlockRow.holds Try.pinned (OpenSpec.ofChange keyBlockWrong)

/-- 'cribblelaw08.DimTells': WHATEVER THE INPUT: true; the input reads as it did. -/
def dimTellsSpec : ChangeSpec := { name := "dimTells", fn := fun _ => fun
  | [d1, d2, d3] => { results := [.lit (.bool true)], args := [d1, d2, d3] }
  | _ => none }
def dimTellsRow : OpenClaim := { program := "ytekoicbjpoeijaa", sum := "bb51f4daccbe04dc7505cba9b232bae5d4732aa75bbe2e040bfa81a18ce6f486", func := "cribble/cribblelaw08.DimTells", spec := "dimTells", inPlace := ["internal/bytealg.IndexByteString", "internal/bytealg.IndexString", "internal/bytealg.CountString"], unfollowed := true, recurses := true, named := ["internal/bytealg.MaxLen"], apart := false }
def DimTellsSaid : Prop := dimTellsRow.holds Try.pinned (OpenSpec.ofChange dimTellsSpec)

/-- ITS FALSE NEIGHBOUR: 'it returns false'. Refute it at one input. -/
def dimTellsWrong : ChangeSpec := { name := "dimTells", fn := fun _ => fun
  | [d1, d2, d3] => { results := [.lit (.bool false)], args := [d1, d2, d3] }
  | _ => none }
def DimTellsWrongFalsely : Prop := dimTellsRow.holds Try.pinned (OpenSpec.ofChange dimTellsWrong)

/-- 'cribblelaw08.DimCuts': WHATEVER THE INPUT: true; the input reads as it did. -/
def dimCutsSpec : ChangeSpec := { name := "dimCuts", fn := fun _ => fun
  | [d1, d2, d3] => { results := [.lit (.bool true)], args := [d1, d2, d3] }
  | _ => none }
def dimCutsRow : OpenClaim := { program := "ytekoicbjpoeijaa", sum := "bb51f4daccbe04dc7505cba9b232bae5d4732aa75bbe2e040bfa81a18ce6f486", func := "cribble/cribblelaw08.DimCuts", spec := "dimCuts", inPlace := ["internal/bytealg.IndexByteString", "internal/bytealg.IndexString", "internal/bytealg.CountString"], unfollowed := true, recurses := true, named := ["internal/bytealg.MaxLen"], apart := false }
def DimCutsSaid : Prop := dimCutsRow.holds Try.pinned (OpenSpec.ofChange dimCutsSpec)

/-- ITS FALSE NEIGHBOUR: 'it returns false'. Refute it at one input. -/
def dimCutsWrong : ChangeSpec := { name := "dimCuts", fn := fun _ => fun
  | [d1, d2, d3] => { results := [.lit (.bool false)], args := [d1, d2, d3] }
  | _ => none }
def DimCutsWrongFalsely : Prop := dimCutsRow.holds Try.pinned (OpenSpec.ofChange dimCutsWrong)

/-- 'cribblelaw08.DimSteps': WHATEVER THE INPUT: true; the input reads as it did. -/
def dimStepsSpec : ChangeSpec := { name := "dimSteps", fn := fun _ => fun
  | [d1, d2] => { results := [.lit (.bool true)], args := [d1, d2] }
  | _ => none }
def dimStepsRow : OpenClaim := { program := "ytekoicbjpoeijaa", sum := "bb51f4daccbe04dc7505cba9b232bae5d4732aa75bbe2e040bfa81a18ce6f486", func := "cribble/cribblelaw08.DimSteps", spec := "dimSteps", inPlace := ["internal/bytealg.IndexByteString", "internal/bytealg.IndexString", "internal/bytealg.CountString"], unfollowed := true, recurses := true, named := ["internal/bytealg.MaxLen"], apart := false }
def DimStepsSaid : Prop := dimStepsRow.holds Try.pinned (OpenSpec.ofChange dimStepsSpec)

/-- ITS FALSE NEIGHBOUR: 'it returns false'. Refute it at one input. -/
def dimStepsWrong : ChangeSpec := { name := "dimSteps", fn := fun _ => fun
  | [d1, d2] => { results := [.lit (.bool false)], args := [d1, d2] }
  | _ => none }
def DimStepsWrongFalsely : Prop := dimStepsRow.holds Try.pinned (OpenSpec.ofChange dimStepsWrong)

/-- 'cribblelaw08.DimStands': WHATEVER THE INPUT: true; the input reads as it did. -/
def dimStandsSpec : ChangeSpec := { name := "dimStands", fn := fun _ => fun
  | [d1, d2, d3, d4, d5] => { results := [.lit (.bool true)], args := [d1, d2, d3, d4, d5] }
  | _ => none }
def dimStandsRow : OpenClaim := { program := "ytekoicbjpoeijaa", sum := "bb51f4daccbe04dc7505cba9b232bae5d4732aa75bbe2e040bfa81a18ce6f486", func := "cribble/cribblelaw08.DimStands", spec := "dimStands", inPlace := ["internal/bytealg.IndexByteString", "internal/bytealg.IndexString", "internal/bytealg.CountString"], unfollowed := true, recurses := true, named := ["internal/bytealg.MaxLen"], apart := false }
def DimStandsSaid : Prop := dimStandsRow.holds Try.pinned (OpenSpec.ofChange dimStandsSpec)

/-- ITS FALSE NEIGHBOUR: 'it returns false'. Refute it at one input. -/
def dimStandsWrong : ChangeSpec := { name := "dimStands", fn := fun _ => fun
  | [d1, d2, d3, d4, d5] => { results := [.lit (.bool false)], args := [d1, d2, d3, d4, d5] }
  | _ => none }
def DimStandsWrongFalsely : Prop := dimStandsRow.holds Try.pinned (OpenSpec.ofChange dimStandsWrong)

/-- 'cribblelaw08.DimOver': WHATEVER THE INPUT: true; the input reads as it did. -/
def dimOverSpec : ChangeSpec := { name := "dimOver", fn := fun _ => fun
  | [d1, d2, d3, d4, d5] => { results := [.lit (.bool true)], args := [d1, d2, d3, d4, d5] }
  | _ => none }
def dimOverRow : OpenClaim := { program := "ytekoicbjpoeijaa", sum := "bb51f4daccbe04dc7505cba9b232bae5d4732aa75bbe2e040bfa81a18ce6f486", func := "cribble/cribblelaw08.DimOver", spec := "dimOver", inPlace := ["internal/bytealg.IndexByteString", "internal/bytealg.IndexString", "internal/bytealg.CountString"], unfollowed := true, recurses := true, named := ["internal/bytealg.MaxLen"], apart := false }
def DimOverSaid : Prop := dimOverRow.holds Try.pinned (OpenSpec.ofChange dimOverSpec)

/-- ITS FALSE NEIGHBOUR: 'it returns false'. Refute it at one input. -/
def dimOverWrong : ChangeSpec := { name := "dimOver", fn := fun _ => fun
  | [d1, d2, d3, d4, d5] => { results := [.lit (.bool false)], args := [d1, d2, d3, d4, d5] }
  | _ => none }
def DimOverWrongFalsely : Prop := dimOverRow.holds Try.pinned (OpenSpec.ofChange dimOverWrong)

/- THE SECOND FORM. 'bulk': how many values and letters a reading holds, each counted each time it is reached (what is shared counts as often as it is met; a slice's spare places count too). A statement '..UptoSaid' is the law's where the arguments, and the package variables that the reading takes, are together of bulk at most 1048576: NARROWER than '..Said'. Prove '..Said' where nothing that the law and all that it calls make is longer than what came in: it says more and counts as full. Else prove '..UptoSaid'. A law counts once. -/
mutual
def uptoBulk {H : Type} : DataW H → Nat
  | .lit (.string bytes) => bytes.length + 1
  | .lit _ => 1
  | .nil => 1
  | .ptr d => uptoBulk d + 1
  | .slice elems spare => uptoBulkAll elems + uptoBulkAll spare + 1
  | .agg parts => uptoBulkAll parts + 1
  | .iface _ d => uptoBulk d + 1
  | .map entries => uptoBulkEntries entries + 1
  | .held _ => 1
def uptoBulkAll {H : Type} : List (DataW H) → Nat
  | [] => 0
  | d :: r => uptoBulk d + uptoBulkAll r
def uptoBulkEntries {H : Type} : List (Lit × DataW H) → Nat
  | [] => 0
  | x :: r => uptoBulkEntry x + uptoBulkEntries r
def uptoBulkEntry {H : Type} : Lit × DataW H → Nat
  | (.string bytes, d) => bytes.length + uptoBulk d + 1
  | (_, d) => uptoBulk d + 1
 end
def uptoSmall : (H : Type) → List (DataW H) → Bool := fun _ ds => decide (uptoBulkAll ds ≤ 1048576)
def OpenSpec.upto (s : _root_.Go.ChangeSpec) : _root_.Go.OpenSpec := { _root_.Go.OpenSpec.ofChange s with cond := some uptoSmall }

/-- 'cribblelaw07.KeyTells', WHERE WHAT IT READS IS OF BULK AT MOST 1048576: true; the input reads as it did. -/
def keyTellsUptoRow : OpenClaim := { program := "ytekoicbjpoeijaa", sum := "bb51f4daccbe04dc7505cba9b232bae5d4732aa75bbe2e040bfa81a18ce6f486", func := "cribble/cribblelaw07.KeyTells", spec := "keyTells", inPlace := ["internal/bytealg.IndexByteString", "internal/bytealg.IndexString", "internal/bytealg.CountString"], unfollowed := true, recurses := true, named := ["internal/bytealg.MaxLen"], apart := false, narrowed := true }
def KeyTellsUptoSaid : Prop := keyTellsUptoRow.holds Try.pinned (OpenSpec.upto keyTellsSpec)

/-- 'cribblelaw07.KeyCuts', WHERE WHAT IT READS IS OF BULK AT MOST 1048576: true; the input reads as it did. -/
def keyCutsUptoRow : OpenClaim := { program := "ytekoicbjpoeijaa", sum := "bb51f4daccbe04dc7505cba9b232bae5d4732aa75bbe2e040bfa81a18ce6f486", func := "cribble/cribblelaw07.KeyCuts", spec := "keyCuts", inPlace := ["internal/bytealg.IndexByteString", "internal/bytealg.IndexString", "internal/bytealg.CountString"], unfollowed := true, recurses := true, named := ["internal/bytealg.MaxLen"], apart := false, narrowed := true }
def KeyCutsUptoSaid : Prop := keyCutsUptoRow.holds Try.pinned (OpenSpec.upto keyCutsSpec)

/-- 'cribblelaw07.KeyUps', WHERE WHAT IT READS IS OF BULK AT MOST 1048576: true; the input reads as it did. -/
def keyUpsUptoRow : OpenClaim := { program := "ytekoicbjpoeijaa", sum := "bb51f4daccbe04dc7505cba9b232bae5d4732aa75bbe2e040bfa81a18ce6f486", func := "cribble/cribblelaw07.KeyUps", spec := "keyUps", inPlace := ["internal/bytealg.IndexByteString", "internal/bytealg.IndexString", "internal/bytealg.CountString"], unfollowed := true, recurses := true, named := ["internal/bytealg.MaxLen"], apart := false, narrowed := true }
def KeyUpsUptoSaid : Prop := keyUpsUptoRow.holds Try.pinned (OpenSpec.upto keyUpsSpec)

/-- 'cribblelaw07.KeyOrders', WHERE WHAT IT READS IS OF BULK AT MOST 1048576: true; the input reads as it did. -/
def keyOrdersUptoRow : OpenClaim := { program := "ytekoicbjpoeijaa", sum := "bb51f4daccbe04dc7505cba9b232bae5d4732aa75bbe2e040bfa81a18ce6f486", func := "cribble/cribblelaw07.KeyOrders", spec := "keyOrders", inPlace := ["internal/bytealg.IndexByteString", "internal/bytealg.IndexString", "internal/bytealg.CountString"], unfollowed := true, recurses := true, named := ["internal/bytealg.MaxLen"], apart := false, narrowed := true }
def KeyOrdersUptoSaid : Prop := keyOrdersUptoRow.holds Try.pinned (OpenSpec.upto keyOrdersSpec)

/-- 'cribblelaw07.KeyChain', WHERE WHAT IT READS IS OF BULK AT MOST 1048576: true; the input reads as it did. -/
def keyChainUptoRow : OpenClaim := { program := "ytekoicbjpoeijaa", sum := "bb51f4daccbe04dc7505cba9b232bae5d4732aa75bbe2e040bfa81a18ce6f486", func := "cribble/cribblelaw07.KeyChain", spec := "keyChain", inPlace := ["internal/bytealg.IndexByteString", "internal/bytealg.IndexString", "internal/bytealg.CountString"], unfollowed := true, recurses := true, named := ["internal/bytealg.MaxLen"], apart := false, narrowed := true }
def KeyChainUptoSaid : Prop := keyChainUptoRow.holds Try.pinned (OpenSpec.upto keyChainSpec)

/-- 'cribblelaw07.KeyCutBack', WHERE WHAT IT READS IS OF BULK AT MOST 1048576: true; the input reads as it did. -/
def keyCutBackUptoRow : OpenClaim := { program := "ytekoicbjpoeijaa", sum := "bb51f4daccbe04dc7505cba9b232bae5d4732aa75bbe2e040bfa81a18ce6f486", func := "cribble/cribblelaw07.KeyCutBack", spec := "keyCutBack", inPlace := ["internal/bytealg.IndexByteString", "internal/bytealg.IndexString", "internal/bytealg.CountString"], unfollowed := true, recurses := true, named := ["internal/bytealg.MaxLen"], apart := false, narrowed := true }
def KeyCutBackUptoSaid : Prop := keyCutBackUptoRow.holds Try.pinned (OpenSpec.upto keyCutBackSpec)

/-- 'cribblelaw07.KeyMeets', WHERE WHAT IT READS IS OF BULK AT MOST 1048576: true; the input reads as it did. -/
def keyMeetsUptoRow : OpenClaim := { program := "ytekoicbjpoeijaa", sum := "bb51f4daccbe04dc7505cba9b232bae5d4732aa75bbe2e040bfa81a18ce6f486", func := "cribble/cribblelaw07.KeyMeets", spec := "keyMeets", inPlace := ["internal/bytealg.IndexByteString", "internal/bytealg.IndexString", "internal/bytealg.CountString"], unfollowed := true, recurses := true, named := ["internal/bytealg.MaxLen"], apart := false, narrowed := true }
def KeyMeetsUptoSaid : Prop := keyMeetsUptoRow.holds Try.pinned (OpenSpec.upto keyMeetsSpec)

/-- 'cribblelaw07.KeyBlock', WHERE WHAT IT READS IS OF BULK AT MOST 1048576: true; the input reads as it did. -/
def keyBlockUptoRow : OpenClaim := { program := "ytekoicbjpoeijaa", sum := "bb51f4daccbe04dc7505cba9b232bae5d4732aa75bbe2e040bfa81a18ce6f486", func := "cribble/cribblelaw07.KeyBlock", spec := "keyBlock", inPlace := ["internal/bytealg.IndexByteString", "internal/bytealg.IndexString", "internal/bytealg.CountString"], unfollowed := true, recurses := true, named := ["internal/bytealg.MaxLen"], apart := false, narrowed := true }
def KeyBlockUptoSaid : Prop := keyBlockUptoRow.holds Try.pinned (OpenSpec.upto keyBlockSpec)

/-- 'cribblelaw08.DimTells', WHERE WHAT IT READS IS OF BULK AT MOST 1048576: true; the input reads as it did. -/
def dimTellsUptoRow : OpenClaim := { program := "ytekoicbjpoeijaa", sum := "bb51f4daccbe04dc7505cba9b232bae5d4732aa75bbe2e040bfa81a18ce6f486", func := "cribble/cribblelaw08.DimTells", spec := "dimTells", inPlace := ["internal/bytealg.IndexByteString", "internal/bytealg.IndexString", "internal/bytealg.CountString"], unfollowed := true, recurses := true, named := ["internal/bytealg.MaxLen"], apart := false, narrowed := true }
def DimTellsUptoSaid : Prop := dimTellsUptoRow.holds Try.pinned (OpenSpec.upto dimTellsSpec)

/-- 'cribblelaw08.DimCuts', WHERE WHAT IT READS IS OF BULK AT MOST 1048576: true; the input reads as it did. -/
def dimCutsUptoRow : OpenClaim := { program := "ytekoicbjpoeijaa", sum := "bb51f4daccbe04dc7505cba9b232bae5d4732aa75bbe2e040bfa81a18ce6f486", func := "cribble/cribblelaw08.DimCuts", spec := "dimCuts", inPlace := ["internal/bytealg.IndexByteString", "internal/bytealg.IndexString", "internal/bytealg.CountString"], unfollowed := true, recurses := true, named := ["internal/bytealg.MaxLen"], apart := false, narrowed := true }
def DimCutsUptoSaid : Prop := dimCutsUptoRow.holds Try.pinned (OpenSpec.upto dimCutsSpec)

/-- 'cribblelaw08.DimSteps', WHERE WHAT IT READS IS OF BULK AT MOST 1048576: true; the input reads as it did. -/
def dimStepsUptoRow : OpenClaim := { program := "ytekoicbjpoeijaa", sum := "bb51f4daccbe04dc7505cba9b232bae5d4732aa75bbe2e040bfa81a18ce6f486", func := "cribble/cribblelaw08.DimSteps", spec := "dimSteps", inPlace := ["internal/bytealg.IndexByteString", "internal/bytealg.IndexString", "internal/bytealg.CountString"], unfollowed := true, recurses := true, named := ["internal/bytealg.MaxLen"], apart := false, narrowed := true }
def DimStepsUptoSaid : Prop := dimStepsUptoRow.holds Try.pinned (OpenSpec.upto dimStepsSpec)

/-- 'cribblelaw08.DimStands', WHERE WHAT IT READS IS OF BULK AT MOST 1048576: true; the input reads as it did. -/
def dimStandsUptoRow : OpenClaim := { program := "ytekoicbjpoeijaa", sum := "bb51f4daccbe04dc7505cba9b232bae5d4732aa75bbe2e040bfa81a18ce6f486", func := "cribble/cribblelaw08.DimStands", spec := "dimStands", inPlace := ["internal/bytealg.IndexByteString", "internal/bytealg.IndexString", "internal/bytealg.CountString"], unfollowed := true, recurses := true, named := ["internal/bytealg.MaxLen"], apart := false, narrowed := true }
def DimStandsUptoSaid : Prop := dimStandsUptoRow.holds Try.pinned (OpenSpec.upto dimStandsSpec)

/-- 'cribblelaw08.DimOver', WHERE WHAT IT READS IS OF BULK AT MOST 1048576: true; the input reads as it did. -/
def dimOverUptoRow : OpenClaim := { program := "ytekoicbjpoeijaa", sum := "bb51f4daccbe04dc7505cba9b232bae5d4732aa75bbe2e040bfa81a18ce6f486", func := "cribble/cribblelaw08.DimOver", spec := "dimOver", inPlace := ["internal/bytealg.IndexByteString", "internal/bytealg.IndexString", "internal/bytealg.CountString"], unfollowed := true, recurses := true, named := ["internal/bytealg.MaxLen"], apart := false, narrowed := true }
def DimOverUptoSaid : Prop := dimOverUptoRow.holds Try.pinned (OpenSpec.upto dimOverSpec)

end Rows
end Go.Proofs.Ytekoicbjpoeijaa
