/- Regions that draw their order, walked from any world that keeps a property. No conditions. -/
import Derived.Test.YtbhaoafngneclaaDoorN4
import Derived.Deep.DeepCutAuto
namespace Go.Proofs.YtbhaoafngneclaaDoor
set_option linter.unusedVariables false
set_option linter.unusedSimpArgs false
open Go.RowKit
theorem region_any {P : Program} {ops : Array Oper} {Q : Exit → Act → World → Prop} {S : World → Prop} {id : Nat} {a : Act} {w : World} (hm : P.follows .mixedOrders = true) (hS : S w.drew)
    (h : ∀ wq, S wq → wpAnyH P .any ops Q S ops.size (Array.replicate ops.size false) a wq) : (Code.region id ops true).wp P Q a w :=
  wp_region_held_drew hm hS (fun hs => h _ hs)
theorem cell_setCells_far {w : World} {g o : Nat} {vs : List Value} {a : Addr} {v : Value} (h : w.cell? a = some v) (hne : a.block ≠ g) : (w.setCells g o vs).cell? a = some v := by
  rw [World.cell?_setCells_out g vs o w a (fun e => absurd e hne)]; exact h
theorem Row.setCells_far {w : World} {g k o : Nat} {vs : List Value} {cs : Array Value} {t : TypeId} (h : Row w k cs t) (hne : k ≠ g) : Row (w.setCells g o vs) k cs t := (setCells_other hne vs o w).trans h
end Go.Proofs.YtbhaoafngneclaaDoor
