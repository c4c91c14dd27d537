/- Same of the reference of layer 5, and the law's own comparison. No conditions beyond lengths. -/
import Derived.Test.YtekoicbjpoeijaaLabR3
import Derived.BigQuiet
namespace Go.Proofs.Ytekoicbjpoeijaa
set_option linter.unusedVariables false
set_option linter.unusedSimpArgs false
open Go.RowKit
end Go.Proofs.Ytekoicbjpoeijaa
