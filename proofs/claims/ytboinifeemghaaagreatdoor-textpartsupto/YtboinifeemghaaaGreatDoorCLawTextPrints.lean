/- LawTextPrints: what the theorem needs of these texts. No conditions beyond those that are written. -/
import Derived.Test.YtboinifeemghaaaGreatDoorCJP2
set_option linter.unusedSimpArgs false
set_option linter.unusedVariables false
set_option maxRecDepth 100000
namespace Go.Proofs.YtboinifeemghaaaGreatDoor
open Go.RowKit
theorem eql_ke_self (k : Ke) (w : World) : (binOp .eql 26 (kv k) (kv k)).run Tryz.prog w = .ok (.bool true) w := by
 have h := eql_key k.kind k.len k.h k.l ⟨k.path.toArray⟩ k.kind k.len k.h k.l ⟨k.path.toArray⟩ w
 have e : eqK k.kind k.len k.h k.l ⟨k.path.toArray⟩ k.kind k.len k.h k.l ⟨k.path.toArray⟩ = true := by simp [eqK]
 rwa [e] at h
end Go.Proofs.YtboinifeemghaaaGreatDoor
