/- LawTextPrints: what the theorem needs of these texts. No conditions beyond those that are written. -/
import Derived.Test.YtboinifeemghaaaGreatDoorBJP3
set_option linter.unusedSimpArgs false
set_option linter.unusedVariables false
set_option maxRecDepth 100000
namespace Go.Proofs.YtboinifeemghaaaGreatDoor
open Go.RowKit
theorem eql_px_self (p : Px) (w : World) : (binOp .eql 40 (pv p) (pv p)).run Tryz.prog w = .ok (.bool true) w := by
 have h := eql_px p p w
 rwa [decide_eq_true rfl] at h
end Go.Proofs.YtboinifeemghaaaGreatDoor
