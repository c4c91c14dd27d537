/- A world in which the library's two tables are laid as the program's text lays them. No conditions. -/
import Derived.Test.YtbhaoafngneclaaDoorN6
import Derived.Stop.LaidErr
import Derived.Lib.LaidTab
import Derived.LaidLaws
import Derived.LaidHandle
import Derived.RowKitTokens
namespace Go.Proofs.YtbhaoafngneclaaDoor
set_option linter.unusedVariables false
set_option linter.unusedSimpArgs false
open Go.RowKit Go.ChangeShapes Go.WideShapes
def litsOf (d : DataW Unit) : Array Value := match d with
  | .agg l => (l.flatMap fun | .lit (.int k n) => [Value.int k n] | .agg m => (m.map fun | .lit (.int k n) => Value.int k n | _ => undef) | _ => [undef]).toArray
  | _ => #[]
noncomputable def laidWorld (os : Os) : World :=
  let w0 := World.holding Tryd.prog os ⟨#[], #[], []⟩
  let put (b : Nat) (cs : Array Value) (h : Array Obj) : Array Obj := h.modify b fun
      | .cells _ t frozen => .cells cs t frozen
      | o => o
  { w0 with heap := put 3 (litsOf Rows.laid_unicode_utf8_acceptRanges) (put 2 (litsOf Rows.laid_unicode_utf8_first) w0.heap) }
theorem laid_met (os : Os) (args : Array Value) : laidMet Tryd.prog Rows.numBackRow.laid ((laidWorld os).forCall (fun _ _ => 0) ⟨#[], args, []⟩).memory :=
  laidMet_of_run' 8 (by kernel_rfl) (by kernel_rfl)
end Go.Proofs.YtbhaoafngneclaaDoor
