/- K9: what the theorem needs of these texts. No conditions beyond those that are written. -/
import Derived.Test.YtboinifeemghaaaGreatDoorAJK0
set_option linter.unusedSimpArgs false
set_option linter.unusedVariables false
namespace Go.Proofs.YtboinifeemghaaaGreatDoor
open Go.RowKit
def pa : List UInt8 := [110, 101, 116, 46, 100, 99, 49, 46, 97]
def pb : List UInt8 := [110, 101, 116, 46, 100, 99, 49, 46, 98]
def pm : List UInt8 := [110, 101, 116, 46, 100, 99, 49]
theorem ok_small (k : Ke) (h : Word k.h) (l : Word k.l) (a : 0 ≤ k.kind ∧ k.kind ≤ 3) (b : 0 ≤ k.len ∧ k.len ≤ 128) (c : k.path.length ≤ 140737488355328) : k.ok := ⟨h, l, by omega, by omega, by omega, by omega, c⟩
end Go.Proofs.YtboinifeemghaaaGreatDoor
