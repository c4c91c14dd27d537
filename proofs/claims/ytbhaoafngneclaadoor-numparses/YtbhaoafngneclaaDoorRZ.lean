/- A new array of 128 words: its zero value as a row. No conditions. -/
import Derived.Test.YtbhaoafngneclaaDoorRA
import Derived.Test.YtbhaoafngneclaaDoorWideN
import Derived.Deep.WholeRow
import Derived.OwnWalk
namespace Go.Proofs.YtbhaoafngneclaaDoor
set_option linter.unusedVariables false
set_option linter.unusedSimpArgs false
open Go.RowKit
theorem i64_small (x : Int) (h0 : 0 ≤ x) (h1 : x ≤ 9223372036854775807) : IntKind.i64.wrap x = x := by rw [IntKind.wrap_i64]; omega
def z128 : Array Value := Array.replicate 128 (.int .u64 0)
theorem z128_size : z128.size = 128 := by simp [z128]
theorem z128_ne : ¬ z128 = #[] := fun h => by have := congrArg Array.size h; rw [z128_size] at this; cases this
theorem z128_zero (w : World) : (zeroValue 49).run Tryd.prog w = .ok (.agg z128) w := (zero_of_info (P := Tryd.prog) (t := 49) (v := .agg z128) (n := 128) (by kernel_rfl)).1 w
theorem wp_alloc_run {P : Program} {w : World} {o : Oper} {a : Act} {K : Act → World → Prop} {Q : Exit → Act → World → Prop} (t : TypeId) (zs : Array Value) (ho : o.op = .alloc t) (hz : ∀ w, (zeroValue t).run P w = .ok (.agg zs) w) (hne : ¬ zs = #[])
    (h : K (a.put o.dst (.pointer (some ⟨w.heap.size, 0, none⟩))) (w.alloc (.cells zs t))) : o.wp P a w K Q := by
  unfold Oper.wp execOp
  simp [ho, hz, Instr.alloc, Value.cells, hne]
  exact h
theorem wpList_alloc128 {w : World} {ops : Array Oper} {rest : List Oper} {d : Option Tmp} {ty : TypeId} {pos : String} {af : Array Edge} {a : Act} {Q : Exit → Act → World → Prop}
    (hK : wpList Tryd.prog ops Q rest (a.put d (.pointer (some ⟨w.heap.size, 0, none⟩))) (w.alloc (.cells z128 49))) : wpList Tryd.prog ops Q (⟨d, .alloc 49, ty, pos, af, none⟩ :: rest) a w :=
  wpList_plain rfl fun K hK' => wp_alloc_run 49 z128 rfl z128_zero z128_ne (hK' _ _ hK)
end Go.Proofs.YtbhaoafngneclaaDoor
