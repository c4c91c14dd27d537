/- Keys as data: covering is an order, what is over one key is a chain, meets, cuts of cuts. No conditions. -/
import Derived.Test.YtekoicbjpoeijaaK7
namespace Go.Proofs.Ytekoicbjpoeijaa
set_option linter.unusedVariables false
set_option linter.unusedSimpArgs false
open Go.RowKit
theorem neq_key (a0 a1 a2 a3 : Int) (a4 : ByteArray) (b0 b1 b2 b3 : Int) (b4 : ByteArray) (w : World) : (binOp .neq 24 (.agg #[.int .i64 a0, .int .i64 a1, .int .u64 a2, .int .u64 a3, .string a4]) (.agg #[.int .i64 b0, .int .i64 b1, .int .u64 b2, .int .u64 b3, .string b4])).run Try.prog w = .ok (.bool (!eqK a0 a1 a2 a3 a4 b0 b1 b2 b3 b4)) w := by
  unfold eqK
  by_cases h4 : a4 = b4
  · by_cases h0 : a0 = b0 <;> by_cases h1 : a1 = b1 <;> by_cases h2 : a2 = b2 <;> by_cases h3 : a3 = b3 <;> simp [go_sem, h0, h1, h2, h3, h4]
  · have h5 := ba_ne h4
    by_cases h0 : a0 = b0 <;> by_cases h1 : a1 = b1 <;> by_cases h2 : a2 = b2 <;> by_cases h3 : a3 = b3 <;> simp [go_sem, h0, h1, h2, h3, h4, h5]
theorem eqK_self (a0 a1 a2 a3 : Int) (a4 : ByteArray) : eqK a0 a1 a2 a3 a4 a0 a1 a2 a3 a4 = true := by unfold eqK; simp
theorem over_self (a : Ke) : overK a a = rightK a := by
  cases h : rightK a with
  | true => exact (over_iff a a).2 ⟨h, h, rfl, List.prefix_rfl⟩
  | false => unfold overK; rw [h]; rfl
theorem over_anti (a b : Ke) (h1 : overK a b = true) (h2 : overK b a = true) : a = b := by
  obtain ⟨ra, rb, hk, p1⟩ := (over_iff a b).1 h1
  obtain ⟨_, _, _, p2⟩ := (over_iff b a).1 h2
  exact ke_of_letters ra rb hk (p1.eq_of_length_le p2.length_le)
theorem over_trans (a b c : Ke) (h1 : overK a b = true) (h2 : overK b c = true) : overK a c = true := by
  obtain ⟨ra, rb, hk, p1⟩ := (over_iff a b).1 h1
  obtain ⟨_, rc, hk2, p2⟩ := (over_iff b c).1 h2
  exact (over_iff a c).2 ⟨ra, rc, hk.trans hk2, p1.trans p2⟩
theorem over_chain (a b c : Ke) (h1 : overK a c = true) (h2 : overK b c = true) : overK a b = true ∨ overK b a = true := by
  obtain ⟨ra, rc, hk, p1⟩ := (over_iff a c).1 h1
  obtain ⟨rb, _, hk2, p2⟩ := (over_iff b c).1 h2
  rcases Nat.le_total (letK a).length (letK b).length with h | h
  · exact .inl ((over_iff a b).2 ⟨ra, rb, hk.trans hk2.symm, List.prefix_of_prefix_length_le p1 p2 h⟩)
  · exact .inr ((over_iff b a).2 ⟨rb, ra, hk2.trans hk.symm, List.prefix_of_prefix_length_le p2 p1 h⟩)
end Go.Proofs.Ytekoicbjpoeijaa
