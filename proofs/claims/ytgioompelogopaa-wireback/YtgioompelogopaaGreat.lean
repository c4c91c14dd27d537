/- Great of the law. No conditions beyond lengths. -/
import Derived.Test.YtgioompelogopaaRefText
namespace Go.Proofs.Ytgioompelogopaa
set_option linter.unusedVariables false
set_option linter.unusedSimpArgs false
open Go.RowKit
/-- a part, as a value -/
def partV (k i n ah al : Int) (s : ByteArray) (b : Value) : Value := .agg #[.int .i64 k, .int .i64 i, .int .u64 n, .int .u64 ah, .int .u64 al, .string s, b]
def greatB (n m : Nat) (i : Int) : Bool := decide (300 < n ∧ n ≤ 65535 ∨ 65540 < n ∨ 300 < m ∨ 70000 < i)
set_option maxRecDepth 100000 in
set_option maxHeartbeats 1600000 in
theorem great_t (k i n ah al : Int) (s : ByteArray) (b : Value) (bl : List Int) (w : World) (hb : BS w b bl) :
    Calls Try.prog 37 #[partV k i n ah al s b] w fun e w' => e = .returned (.bool (greatB s.size bl.length i)) ∧ Below w.heap.size w w' := by
  obtain ⟨pp, c, rfl, h1, h2, _, _, _⟩ := hb
  have hbd : Below w.heap.size w (w.alloc (.cells #[.int .i64 k, .int .i64 i, .int .u64 n, .int .u64 ah, .int .u64 al, .string s, .slice pp bl.length c] 59)) := (Below.refl _ _).alloc (Nat.le_refl _) _
  unfold partV
  by_cases g1 : (300 : Int) < s.size <;> by_cases g2 : (s.size : Int) ≤ 65535 <;> by_cases g3 : (65540 : Int) < s.size <;> by_cases g4 : (300 : Int) < bl.length <;> (try (exfalso; omega))
  all_goals
    go_enter Try.func37, Try.ntmps37
    go_wp2
    go_ret
    refine ⟨?_, hbd⟩
    unfold greatB
    first
    | exact congrArg (fun b => Ending.returned (Value.bool b)) (decide_eq_true (by omega)).symm
    | exact congrArg (fun b => Ending.returned (Value.bool b)) (decide_eq_decide.2 (by omega))
end Go.Proofs.Ytgioompelogopaa
