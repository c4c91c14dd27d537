/-
  No cell of these rows narrows 'for every input' (looked for: loops, veiled, ifaces, maps, wideKeys, modest, calm, conditions, laid).
  DERIVED. THE GIVEN ROWS OF THIS SEAT. 13 by the template 'for every input the law returns true; each argument reads behind the call as it read before'; 0 by the template 'total and deterministic' (their statements: YtbekocknfpekoaaTotals.lean).
  GIVEN WITH THE SEED: the statements are not yours to turn. If you find one false, say at which input.
  Laid BY PROGRAM, IN A SANDBOX (cutbox-rows.mjs): the forced cells as the released guide's own fill.sh prints them over the translation a33f14883c39691f… (all of the seat's roots in one cut). By AI agents, Wed Nov 11 2026. No macro, syntax, notation, axiom, sorry.
-/
import Derived.Test.YtbekocknfpekoaaChecked
import GoSem.Claim
import GoSem.ClaimJoined
import GoSem.ClaimMapViews
import Derived.JoinedTies
import Derived.KernelRfl
namespace Go.Proofs.Ytbekocknfpekoaa
/- THE CELL 'sum', in the pinned program and in every row, IS THE sha256 OF THE DUMP (.gsa) THAT YtbekocknfpekoaaProg.lean LOADS. Nothing in Lean hashes anything: it is a label: what it is worth is what the hold of that sum in a sandbox is worth. -/
noncomputable def Try.pinned : Pinned := { name := "ytbekocknfpekoaa", sum := "a33f14883c39691f0052c19149e3685a11ba6ae486fe9f16f0a51652fc8f48c5", checked := Try.checked }
namespace Rows
def none {H : Type} : Left H := { results := [], args := [] }

/-- 'cribblelaw09.PrefixTells': WHATEVER THE INPUT: true; the input reads as it did. -/
def prefixTellsSpec : ChangeSpec := { name := "prefixTells", fn := fun _ => fun
  | [d1, d2] => { results := [.lit (.bool true)], args := [d1, d2] }
  | _ => none }
def prefixTellsRow : OpenClaim := { program := "ytbekocknfpekoaa", sum := "a33f14883c39691f0052c19149e3685a11ba6ae486fe9f16f0a51652fc8f48c5", func := "cribble/cribblelaw09.PrefixTells", spec := "prefixTells", inPlace := ["internal/bytealg.IndexByteString", "internal/bytealg.IndexString", "internal/bytealg.CountString"], unfollowed := true, recurses := true, named := ["internal/bytealg.MaxLen"], apart := false }
def PrefixTellsSaid : Prop := prefixTellsRow.holds Try.pinned (OpenSpec.ofChange prefixTellsSpec)

/-- ITS FALSE NEIGHBOUR: 'it returns false'. Refute it at one input. -/
def prefixTellsWrong : ChangeSpec := { name := "prefixTells", fn := fun _ => fun
  | [d1, d2] => { results := [.lit (.bool false)], args := [d1, d2] }
  | _ => none }
def PrefixTellsWrongFalsely : Prop := prefixTellsRow.holds Try.pinned (OpenSpec.ofChange prefixTellsWrong)

/-- 'cribblelaw09.PrefixUps': WHATEVER THE INPUT: true; the input reads as it did. -/
def prefixUpsSpec : ChangeSpec := { name := "prefixUps", fn := fun _ => fun
  | [d1, d2, d3, d4, d5] => { results := [.lit (.bool true)], args := [d1, d2, d3, d4, d5] }
  | _ => none }
def prefixUpsRow : OpenClaim := { program := "ytbekocknfpekoaa", sum := "a33f14883c39691f0052c19149e3685a11ba6ae486fe9f16f0a51652fc8f48c5", func := "cribble/cribblelaw09.PrefixUps", spec := "prefixUps", inPlace := ["internal/bytealg.IndexByteString", "internal/bytealg.IndexString", "internal/bytealg.CountString"], unfollowed := true, recurses := true, named := ["internal/bytealg.MaxLen"], apart := false }
def PrefixUpsSaid : Prop := prefixUpsRow.holds Try.pinned (OpenSpec.ofChange prefixUpsSpec)

/-- ITS FALSE NEIGHBOUR: 'it returns false'. Refute it at one input. -/
def prefixUpsWrong : ChangeSpec := { name := "prefixUps", fn := fun _ => fun
  | [d1, d2, d3, d4, d5] => { results := [.lit (.bool false)], args := [d1, d2, d3, d4, d5] }
  | _ => none }
def PrefixUpsWrongFalsely : Prop := prefixUpsRow.holds Try.pinned (OpenSpec.ofChange prefixUpsWrong)

/-- 'cribblelaw09.PrefixCrosses': WHATEVER THE INPUT: true; the input reads as it did. -/
def prefixCrossesSpec : ChangeSpec := { name := "prefixCrosses", fn := fun _ => fun
  | [d1, d2, d3] => { results := [.lit (.bool true)], args := [d1, d2, d3] }
  | _ => none }
def prefixCrossesRow : OpenClaim := { program := "ytbekocknfpekoaa", sum := "a33f14883c39691f0052c19149e3685a11ba6ae486fe9f16f0a51652fc8f48c5", func := "cribble/cribblelaw09.PrefixCrosses", spec := "prefixCrosses", inPlace := ["internal/bytealg.IndexByteString", "internal/bytealg.IndexString", "internal/bytealg.CountString"], unfollowed := true, recurses := true, named := ["internal/bytealg.MaxLen"], apart := false }
def PrefixCrossesSaid : Prop := prefixCrossesRow.holds Try.pinned (OpenSpec.ofChange prefixCrossesSpec)

/-- ITS FALSE NEIGHBOUR: 'it returns false'. Refute it at one input. -/
def prefixCrossesWrong : ChangeSpec := { name := "prefixCrosses", fn := fun _ => fun
  | [d1, d2, d3] => { results := [.lit (.bool false)], args := [d1, d2, d3] }
  | _ => none }
def PrefixCrossesWrongFalsely : Prop := prefixCrossesRow.holds Try.pinned (OpenSpec.ofChange prefixCrossesWrong)

/-- 'cribblelaw09.PrefixChain': WHATEVER THE INPUT: true; the input reads as it did. -/
def prefixChainSpec : ChangeSpec := { name := "prefixChain", fn := fun _ => fun
  | [d1, d2, d3, d4] => { results := [.lit (.bool true)], args := [d1, d2, d3, d4] }
  | _ => none }
def prefixChainRow : OpenClaim := { program := "ytbekocknfpekoaa", sum := "a33f14883c39691f0052c19149e3685a11ba6ae486fe9f16f0a51652fc8f48c5", func := "cribble/cribblelaw09.PrefixChain", spec := "prefixChain", inPlace := ["internal/bytealg.IndexByteString", "internal/bytealg.IndexString", "internal/bytealg.CountString"], unfollowed := true, recurses := true, named := ["internal/bytealg.MaxLen"], apart := false }
def PrefixChainSaid : Prop := prefixChainRow.holds Try.pinned (OpenSpec.ofChange prefixChainSpec)

/-- ITS FALSE NEIGHBOUR: 'it returns false'. Refute it at one input. -/
def prefixChainWrong : ChangeSpec := { name := "prefixChain", fn := fun _ => fun
  | [d1, d2, d3, d4] => { results := [.lit (.bool false)], args := [d1, d2, d3, d4] }
  | _ => none }
def PrefixChainWrongFalsely : Prop := prefixChainRow.holds Try.pinned (OpenSpec.ofChange prefixChainWrong)

/-- 'cribblelaw09.PrefixOne': WHATEVER THE INPUT: true; the input reads as it did. -/
def prefixOneSpec : ChangeSpec := { name := "prefixOne", fn := fun _ => fun
  | [d1, d2, d3, d4, d5] => { results := [.lit (.bool true)], args := [d1, d2, d3, d4, d5] }
  | _ => none }
def prefixOneRow : OpenClaim := { program := "ytbekocknfpekoaa", sum := "a33f14883c39691f0052c19149e3685a11ba6ae486fe9f16f0a51652fc8f48c5", func := "cribble/cribblelaw09.PrefixOne", spec := "prefixOne", inPlace := ["internal/bytealg.IndexByteString", "internal/bytealg.IndexString", "internal/bytealg.CountString"], unfollowed := true, recurses := true, named := ["internal/bytealg.MaxLen"], apart := false }
def PrefixOneSaid : Prop := prefixOneRow.holds Try.pinned (OpenSpec.ofChange prefixOneSpec)

/-- ITS FALSE NEIGHBOUR: 'it returns false'. Refute it at one input. -/
def prefixOneWrong : ChangeSpec := { name := "prefixOne", fn := fun _ => fun
  | [d1, d2, d3, d4, d5] => { results := [.lit (.bool false)], args := [d1, d2, d3, d4, d5] }
  | _ => none }
def PrefixOneWrongFalsely : Prop := prefixOneRow.holds Try.pinned (OpenSpec.ofChange prefixOneWrong)

/-- 'cribblelaw09.PrefixMeets': WHATEVER THE INPUT: true; the input reads as it did. -/
def prefixMeetsSpec : ChangeSpec := { name := "prefixMeets", fn := fun _ => fun
  | [d1, d2, d3, d4] => { results := [.lit (.bool true)], args := [d1, d2, d3, d4] }
  | _ => none }
def prefixMeetsRow : OpenClaim := { program := "ytbekocknfpekoaa", sum := "a33f14883c39691f0052c19149e3685a11ba6ae486fe9f16f0a51652fc8f48c5", func := "cribble/cribblelaw09.PrefixMeets", spec := "prefixMeets", inPlace := ["internal/bytealg.IndexByteString", "internal/bytealg.IndexString", "internal/bytealg.CountString"], unfollowed := true, recurses := true, named := ["internal/bytealg.MaxLen"], apart := false }
def PrefixMeetsSaid : Prop := prefixMeetsRow.holds Try.pinned (OpenSpec.ofChange prefixMeetsSpec)

/-- ITS FALSE NEIGHBOUR: 'it returns false'. Refute it at one input. -/
def prefixMeetsWrong : ChangeSpec := { name := "prefixMeets", fn := fun _ => fun
  | [d1, d2, d3, d4] => { results := [.lit (.bool false)], args := [d1, d2, d3, d4] }
  | _ => none }
def PrefixMeetsWrongFalsely : Prop := prefixMeetsRow.holds Try.pinned (OpenSpec.ofChange prefixMeetsWrong)

/-- 'cribblelaw09.PrefixOrders': WHATEVER THE INPUT: true; the input reads as it did. -/
def prefixOrdersSpec : ChangeSpec := { name := "prefixOrders", fn := fun _ => fun
  | [d1, d2, d3] => { results := [.lit (.bool true)], args := [d1, d2, d3] }
  | _ => none }
def prefixOrdersRow : OpenClaim := { program := "ytbekocknfpekoaa", sum := "a33f14883c39691f0052c19149e3685a11ba6ae486fe9f16f0a51652fc8f48c5", func := "cribble/cribblelaw09.PrefixOrders", spec := "prefixOrders", inPlace := ["internal/bytealg.IndexByteString", "internal/bytealg.IndexString", "internal/bytealg.CountString"], unfollowed := true, recurses := true, named := ["internal/bytealg.MaxLen"], apart := false }
def PrefixOrdersSaid : Prop := prefixOrdersRow.holds Try.pinned (OpenSpec.ofChange prefixOrdersSpec)

/-- ITS FALSE NEIGHBOUR: 'it returns false'. Refute it at one input. -/
def prefixOrdersWrong : ChangeSpec := { name := "prefixOrders", fn := fun _ => fun
  | [d1, d2, d3] => { results := [.lit (.bool false)], args := [d1, d2, d3] }
  | _ => none }
def PrefixOrdersWrongFalsely : Prop := prefixOrdersRow.holds Try.pinned (OpenSpec.ofChange prefixOrdersWrong)

/-- 'cribblelaw10.GridTells': WHATEVER THE INPUT: true; the input reads as it did. -/
def gridTellsSpec : ChangeSpec := { name := "gridTells", fn := fun _ => fun
  | [d1, d2, d3, d4] => { results := [.lit (.bool true)], args := [d1, d2, d3, d4] }
  | _ => none }
def gridTellsRow : OpenClaim := { program := "ytbekocknfpekoaa", sum := "a33f14883c39691f0052c19149e3685a11ba6ae486fe9f16f0a51652fc8f48c5", func := "cribble/cribblelaw10.GridTells", spec := "gridTells", inPlace := ["internal/bytealg.IndexByteString", "internal/bytealg.IndexString", "internal/bytealg.CountString"], unfollowed := true, recurses := true, named := ["internal/bytealg.MaxLen"], apart := false }
def GridTellsSaid : Prop := gridTellsRow.holds Try.pinned (OpenSpec.ofChange gridTellsSpec)

/-- ITS FALSE NEIGHBOUR: 'it returns false'. Refute it at one input. -/
def gridTellsWrong : ChangeSpec := { name := "gridTells", fn := fun _ => fun
  | [d1, d2, d3, d4] => { results := [.lit (.bool false)], args := [d1, d2, d3, d4] }
  | _ => none }
def GridTellsWrongFalsely : Prop := gridTellsRow.holds Try.pinned (OpenSpec.ofChange gridTellsWrong)

/-- 'cribblelaw10.GridWalks': WHATEVER THE INPUT: true; the input reads as it did. -/
def gridWalksSpec : ChangeSpec := { name := "gridWalks", fn := fun _ => fun
  | [d1, d2] => { results := [.lit (.bool true)], args := [d1, d2] }
  | _ => none }
def gridWalksRow : OpenClaim := { program := "ytbekocknfpekoaa", sum := "a33f14883c39691f0052c19149e3685a11ba6ae486fe9f16f0a51652fc8f48c5", func := "cribble/cribblelaw10.GridWalks", spec := "gridWalks", inPlace := ["internal/bytealg.IndexByteString", "internal/bytealg.IndexString", "internal/bytealg.CountString"], unfollowed := true, recurses := true, named := ["internal/bytealg.MaxLen"], apart := false }
def GridWalksSaid : Prop := gridWalksRow.holds Try.pinned (OpenSpec.ofChange gridWalksSpec)

/-- ITS FALSE NEIGHBOUR: 'it returns false'. Refute it at one input. -/
def gridWalksWrong : ChangeSpec := { name := "gridWalks", fn := fun _ => fun
  | [d1, d2] => { results := [.lit (.bool false)], args := [d1, d2] }
  | _ => none }
def GridWalksWrongFalsely : Prop := gridWalksRow.holds Try.pinned (OpenSpec.ofChange gridWalksWrong)

/-- 'cribblelaw10.GridClimbs': WHATEVER THE INPUT: true; the input reads as it did. -/
def gridClimbsSpec : ChangeSpec := { name := "gridClimbs", fn := fun _ => fun
  | [d1, d2] => { results := [.lit (.bool true)], args := [d1, d2] }
  | _ => none }
def gridClimbsRow : OpenClaim := { program := "ytbekocknfpekoaa", sum := "a33f14883c39691f0052c19149e3685a11ba6ae486fe9f16f0a51652fc8f48c5", func := "cribble/cribblelaw10.GridClimbs", spec := "gridClimbs", inPlace := ["internal/bytealg.IndexByteString", "internal/bytealg.IndexString", "internal/bytealg.CountString"], unfollowed := true, recurses := true, named := ["internal/bytealg.MaxLen"], apart := false }
def GridClimbsSaid : Prop := gridClimbsRow.holds Try.pinned (OpenSpec.ofChange gridClimbsSpec)

/-- ITS FALSE NEIGHBOUR: 'it returns false'. Refute it at one input. -/
def gridClimbsWrong : ChangeSpec := { name := "gridClimbs", fn := fun _ => fun
  | [d1, d2] => { results := [.lit (.bool false)], args := [d1, d2] }
  | _ => none }
def GridClimbsWrongFalsely : Prop := gridClimbsRow.holds Try.pinned (OpenSpec.ofChange gridClimbsWrong)

/-- 'cribblelaw10.GridPlaces': WHATEVER THE INPUT: true; the input reads as it did. -/
def gridPlacesSpec : ChangeSpec := { name := "gridPlaces", fn := fun _ => fun
  | [d1, d2, d3, d4] => { results := [.lit (.bool true)], args := [d1, d2, d3, d4] }
  | _ => none }
def gridPlacesRow : OpenClaim := { program := "ytbekocknfpekoaa", sum := "a33f14883c39691f0052c19149e3685a11ba6ae486fe9f16f0a51652fc8f48c5", func := "cribble/cribblelaw10.GridPlaces", spec := "gridPlaces", inPlace := ["internal/bytealg.IndexByteString", "internal/bytealg.IndexString", "internal/bytealg.CountString"], unfollowed := true, recurses := true, named := ["internal/bytealg.MaxLen"], apart := false }
def GridPlacesSaid : Prop := gridPlacesRow.holds Try.pinned (OpenSpec.ofChange gridPlacesSpec)

/-- ITS FALSE NEIGHBOUR: 'it returns false'. Refute it at one input. -/
def gridPlacesWrong : ChangeSpec := { name := "gridPlaces", fn := fun _ => fun
  | [d1, d2, d3, d4] => { results := [.lit (.bool false)], args := [d1, d2, d3, d4] }
  | _ => none }
def GridPlacesWrongFalsely : Prop := gridPlacesRow.holds Try.pinned (OpenSpec.ofChange gridPlacesWrong)

/-- 'cribblelaw10.GridOver': WHATEVER THE INPUT: true; the input reads as it did. -/
def gridOverSpec : ChangeSpec := { name := "gridOver", fn := fun _ => fun
  | [d1, d2, d3] => { results := [.lit (.bool true)], args := [d1, d2, d3] }
  | _ => none }
def gridOverRow : OpenClaim := { program := "ytbekocknfpekoaa", sum := "a33f14883c39691f0052c19149e3685a11ba6ae486fe9f16f0a51652fc8f48c5", func := "cribble/cribblelaw10.GridOver", spec := "gridOver", inPlace := ["internal/bytealg.IndexByteString", "internal/bytealg.IndexString", "internal/bytealg.CountString"], unfollowed := true, recurses := true, named := ["internal/bytealg.MaxLen"], apart := false }
def GridOverSaid : Prop := gridOverRow.holds Try.pinned (OpenSpec.ofChange gridOverSpec)

/-- ITS FALSE NEIGHBOUR: 'it returns false'. Refute it at one input. -/
def gridOverWrong : ChangeSpec := { name := "gridOver", fn := fun _ => fun
  | [d1, d2, d3] => { results := [.lit (.bool false)], args := [d1, d2, d3] }
  | _ => none }
def GridOverWrongFalsely : Prop := gridOverRow.holds Try.pinned (OpenSpec.ofChange gridOverWrong)

/-- 'cribblelaw10.GridParents': WHATEVER THE INPUT: true; the input reads as it did. -/
def gridParentsSpec : ChangeSpec := { name := "gridParents", fn := fun _ => fun
  | [d1, d2, d3] => { results := [.lit (.bool true)], args := [d1, d2, d3] }
  | _ => none }
def gridParentsRow : OpenClaim := { program := "ytbekocknfpekoaa", sum := "a33f14883c39691f0052c19149e3685a11ba6ae486fe9f16f0a51652fc8f48c5", func := "cribble/cribblelaw10.GridParents", spec := "gridParents", inPlace := ["internal/bytealg.IndexByteString", "internal/bytealg.IndexString", "internal/bytealg.CountString"], unfollowed := true, recurses := true, named := ["internal/bytealg.MaxLen"], apart := false }
def GridParentsSaid : Prop := gridParentsRow.holds Try.pinned (OpenSpec.ofChange gridParentsSpec)

/-- ITS FALSE NEIGHBOUR: 'it returns false'. Refute it at one input. -/
def gridParentsWrong : ChangeSpec := { name := "gridParents", fn := fun _ => fun
  | [d1, d2, d3] => { results := [.lit (.bool false)], args := [d1, d2, d3] }
  | _ => none }
def GridParentsWrongFalsely : Prop := gridParentsRow.holds Try.pinned (OpenSpec.ofChange gridParentsWrong)

/- THE SECOND FORM. 'bulk': how many values and letters a reading holds, each counted each time it is reached (what is shared counts as often as it is met; a slice's spare places count too). A statement '..UptoSaid' is the law's where the arguments, and the package variables that the reading takes, are together of bulk at most 1048576: NARROWER than '..Said'. Prove '..Said' where nothing that the law and all that it calls make is longer than what came in: it says more and counts as full. Else prove '..UptoSaid'. A law counts once. -/
mutual
def uptoBulk {H : Type} : DataW H → Nat
  | .lit (.string bytes) => bytes.length + 1
  | .lit _ => 1
  | .nil => 1
  | .ptr d => uptoBulk d + 1
  | .slice elems spare => uptoBulkAll elems + uptoBulkAll spare + 1
  | .agg parts => uptoBulkAll parts + 1
  | .iface _ d => uptoBulk d + 1
  | .map entries => uptoBulkEntries entries + 1
  | .held _ => 1
def uptoBulkAll {H : Type} : List (DataW H) → Nat
  | [] => 0
  | d :: r => uptoBulk d + uptoBulkAll r
def uptoBulkEntries {H : Type} : List (Lit × DataW H) → Nat
  | [] => 0
  | x :: r => uptoBulkEntry x + uptoBulkEntries r
def uptoBulkEntry {H : Type} : Lit × DataW H → Nat
  | (.string bytes, d) => bytes.length + uptoBulk d + 1
  | (_, d) => uptoBulk d + 1
 end
def uptoSmall : (H : Type) → List (DataW H) → Bool := fun _ ds => decide (uptoBulkAll ds ≤ 1048576)
def OpenSpec.upto (s : _root_.Go.ChangeSpec) : _root_.Go.OpenSpec := { _root_.Go.OpenSpec.ofChange s with cond := some uptoSmall }

/-- 'cribblelaw09.PrefixTells', WHERE WHAT IT READS IS OF BULK AT MOST 1048576: true; the input reads as it did. -/
def prefixTellsUptoRow : OpenClaim := { program := "ytbekocknfpekoaa", sum := "a33f14883c39691f0052c19149e3685a11ba6ae486fe9f16f0a51652fc8f48c5", func := "cribble/cribblelaw09.PrefixTells", spec := "prefixTells", inPlace := ["internal/bytealg.IndexByteString", "internal/bytealg.IndexString", "internal/bytealg.CountString"], unfollowed := true, recurses := true, named := ["internal/bytealg.MaxLen"], apart := false, narrowed := true }
def PrefixTellsUptoSaid : Prop := prefixTellsUptoRow.holds Try.pinned (OpenSpec.upto prefixTellsSpec)

/-- 'cribblelaw09.PrefixUps', WHERE WHAT IT READS IS OF BULK AT MOST 1048576: true; the input reads as it did. -/
def prefixUpsUptoRow : OpenClaim := { program := "ytbekocknfpekoaa", sum := "a33f14883c39691f0052c19149e3685a11ba6ae486fe9f16f0a51652fc8f48c5", func := "cribble/cribblelaw09.PrefixUps", spec := "prefixUps", inPlace := ["internal/bytealg.IndexByteString", "internal/bytealg.IndexString", "internal/bytealg.CountString"], unfollowed := true, recurses := true, named := ["internal/bytealg.MaxLen"], apart := false, narrowed := true }
def PrefixUpsUptoSaid : Prop := prefixUpsUptoRow.holds Try.pinned (OpenSpec.upto prefixUpsSpec)

/-- 'cribblelaw09.PrefixCrosses', WHERE WHAT IT READS IS OF BULK AT MOST 1048576: true; the input reads as it did. -/
def prefixCrossesUptoRow : OpenClaim := { program := "ytbekocknfpekoaa", sum := "a33f14883c39691f0052c19149e3685a11ba6ae486fe9f16f0a51652fc8f48c5", func := "cribble/cribblelaw09.PrefixCrosses", spec := "prefixCrosses", inPlace := ["internal/bytealg.IndexByteString", "internal/bytealg.IndexString", "internal/bytealg.CountString"], unfollowed := true, recurses := true, named := ["internal/bytealg.MaxLen"], apart := false, narrowed := true }
def PrefixCrossesUptoSaid : Prop := prefixCrossesUptoRow.holds Try.pinned (OpenSpec.upto prefixCrossesSpec)

/-- 'cribblelaw09.PrefixChain', WHERE WHAT IT READS IS OF BULK AT MOST 1048576: true; the input reads as it did. -/
def prefixChainUptoRow : OpenClaim := { program := "ytbekocknfpekoaa", sum := "a33f14883c39691f0052c19149e3685a11ba6ae486fe9f16f0a51652fc8f48c5", func := "cribble/cribblelaw09.PrefixChain", spec := "prefixChain", inPlace := ["internal/bytealg.IndexByteString", "internal/bytealg.IndexString", "internal/bytealg.CountString"], unfollowed := true, recurses := true, named := ["internal/bytealg.MaxLen"], apart := false, narrowed := true }
def PrefixChainUptoSaid : Prop := prefixChainUptoRow.holds Try.pinned (OpenSpec.upto prefixChainSpec)

/-- 'cribblelaw09.PrefixOne', WHERE WHAT IT READS IS OF BULK AT MOST 1048576: true; the input reads as it did. -/
def prefixOneUptoRow : OpenClaim := { program := "ytbekocknfpekoaa", sum := "a33f14883c39691f0052c19149e3685a11ba6ae486fe9f16f0a51652fc8f48c5", func := "cribble/cribblelaw09.PrefixOne", spec := "prefixOne", inPlace := ["internal/bytealg.IndexByteString", "internal/bytealg.IndexString", "internal/bytealg.CountString"], unfollowed := true, recurses := true, named := ["internal/bytealg.MaxLen"], apart := false, narrowed := true }
def PrefixOneUptoSaid : Prop := prefixOneUptoRow.holds Try.pinned (OpenSpec.upto prefixOneSpec)

/-- 'cribblelaw09.PrefixMeets', WHERE WHAT IT READS IS OF BULK AT MOST 1048576: true; the input reads as it did. -/
def prefixMeetsUptoRow : OpenClaim := { program := "ytbekocknfpekoaa", sum := "a33f14883c39691f0052c19149e3685a11ba6ae486fe9f16f0a51652fc8f48c5", func := "cribble/cribblelaw09.PrefixMeets", spec := "prefixMeets", inPlace := ["internal/bytealg.IndexByteString", "internal/bytealg.IndexString", "internal/bytealg.CountString"], unfollowed := true, recurses := true, named := ["internal/bytealg.MaxLen"], apart := false, narrowed := true }
def PrefixMeetsUptoSaid : Prop := prefixMeetsUptoRow.holds Try.pinned (OpenSpec.upto prefixMeetsSpec)

/-- 'cribblelaw09.PrefixOrders', WHERE WHAT IT READS IS OF BULK AT MOST 1048576: true; the input reads as it did. -/
def prefixOrdersUptoRow : OpenClaim := { program := "ytbekocknfpekoaa", sum := "a33f14883c39691f0052c19149e3685a11ba6ae486fe9f16f0a51652fc8f48c5", func := "cribble/cribblelaw09.PrefixOrders", spec := "prefixOrders", inPlace := ["internal/bytealg.IndexByteString", "internal/bytealg.IndexString", "internal/bytealg.CountString"], unfollowed := true, recurses := true, named := ["internal/bytealg.MaxLen"], apart := false, narrowed := true }
def PrefixOrdersUptoSaid : Prop := prefixOrdersUptoRow.holds Try.pinned (OpenSpec.upto prefixOrdersSpec)

/-- 'cribblelaw10.GridTells', WHERE WHAT IT READS IS OF BULK AT MOST 1048576: true; the input reads as it did. -/
def gridTellsUptoRow : OpenClaim := { program := "ytbekocknfpekoaa", sum := "a33f14883c39691f0052c19149e3685a11ba6ae486fe9f16f0a51652fc8f48c5", func := "cribble/cribblelaw10.GridTells", spec := "gridTells", inPlace := ["internal/bytealg.IndexByteString", "internal/bytealg.IndexString", "internal/bytealg.CountString"], unfollowed := true, recurses := true, named := ["internal/bytealg.MaxLen"], apart := false, narrowed := true }
def GridTellsUptoSaid : Prop := gridTellsUptoRow.holds Try.pinned (OpenSpec.upto gridTellsSpec)

/-- 'cribblelaw10.GridWalks', WHERE WHAT IT READS IS OF BULK AT MOST 1048576: true; the input reads as it did. -/
def gridWalksUptoRow : OpenClaim := { program := "ytbekocknfpekoaa", sum := "a33f14883c39691f0052c19149e3685a11ba6ae486fe9f16f0a51652fc8f48c5", func := "cribble/cribblelaw10.GridWalks", spec := "gridWalks", inPlace := ["internal/bytealg.IndexByteString", "internal/bytealg.IndexString", "internal/bytealg.CountString"], unfollowed := true, recurses := true, named := ["internal/bytealg.MaxLen"], apart := false, narrowed := true }
def GridWalksUptoSaid : Prop := gridWalksUptoRow.holds Try.pinned (OpenSpec.upto gridWalksSpec)

/-- 'cribblelaw10.GridClimbs', WHERE WHAT IT READS IS OF BULK AT MOST 1048576: true; the input reads as it did. -/
def gridClimbsUptoRow : OpenClaim := { program := "ytbekocknfpekoaa", sum := "a33f14883c39691f0052c19149e3685a11ba6ae486fe9f16f0a51652fc8f48c5", func := "cribble/cribblelaw10.GridClimbs", spec := "gridClimbs", inPlace := ["internal/bytealg.IndexByteString", "internal/bytealg.IndexString", "internal/bytealg.CountString"], unfollowed := true, recurses := true, named := ["internal/bytealg.MaxLen"], apart := false, narrowed := true }
def GridClimbsUptoSaid : Prop := gridClimbsUptoRow.holds Try.pinned (OpenSpec.upto gridClimbsSpec)

/-- 'cribblelaw10.GridPlaces', WHERE WHAT IT READS IS OF BULK AT MOST 1048576: true; the input reads as it did. -/
def gridPlacesUptoRow : OpenClaim := { program := "ytbekocknfpekoaa", sum := "a33f14883c39691f0052c19149e3685a11ba6ae486fe9f16f0a51652fc8f48c5", func := "cribble/cribblelaw10.GridPlaces", spec := "gridPlaces", inPlace := ["internal/bytealg.IndexByteString", "internal/bytealg.IndexString", "internal/bytealg.CountString"], unfollowed := true, recurses := true, named := ["internal/bytealg.MaxLen"], apart := false, narrowed := true }
def GridPlacesUptoSaid : Prop := gridPlacesUptoRow.holds Try.pinned (OpenSpec.upto gridPlacesSpec)

/-- 'cribblelaw10.GridOver', WHERE WHAT IT READS IS OF BULK AT MOST 1048576: true; the input reads as it did. -/
def gridOverUptoRow : OpenClaim := { program := "ytbekocknfpekoaa", sum := "a33f14883c39691f0052c19149e3685a11ba6ae486fe9f16f0a51652fc8f48c5", func := "cribble/cribblelaw10.GridOver", spec := "gridOver", inPlace := ["internal/bytealg.IndexByteString", "internal/bytealg.IndexString", "internal/bytealg.CountString"], unfollowed := true, recurses := true, named := ["internal/bytealg.MaxLen"], apart := false, narrowed := true }
def GridOverUptoSaid : Prop := gridOverUptoRow.holds Try.pinned (OpenSpec.upto gridOverSpec)

/-- 'cribblelaw10.GridParents', WHERE WHAT IT READS IS OF BULK AT MOST 1048576: true; the input reads as it did. -/
def gridParentsUptoRow : OpenClaim := { program := "ytbekocknfpekoaa", sum := "a33f14883c39691f0052c19149e3685a11ba6ae486fe9f16f0a51652fc8f48c5", func := "cribble/cribblelaw10.GridParents", spec := "gridParents", inPlace := ["internal/bytealg.IndexByteString", "internal/bytealg.IndexString", "internal/bytealg.CountString"], unfollowed := true, recurses := true, named := ["internal/bytealg.MaxLen"], apart := false, narrowed := true }
def GridParentsUptoSaid : Prop := gridParentsUptoRow.holds Try.pinned (OpenSpec.upto gridParentsSpec)

end Rows
end Go.Proofs.Ytbekocknfpekoaa
