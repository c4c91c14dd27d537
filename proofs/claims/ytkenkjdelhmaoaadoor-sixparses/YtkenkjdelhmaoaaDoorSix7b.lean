/- ParseUint of the library at base 16 and 16 bits, as called. No conditions beyond the text's length. -/
import Derived.Test.YtkenkjdelhmaoaaDoorSix7
namespace Go.Proofs.YtkenkjdelhmaoaaDoor
set_option linter.unusedVariables false
set_option linter.unusedSimpArgs false
open Go.RowKit
/-- what ParseUint answers -/
def HexPub (o : Option Nat) (e : Ending) : Prop := match o with
  | some v => e = .returned (.tuple #[.int .u64 v, .nilIface])
  | none => ∃ u t p, e = .returned (.tuple #[.int .u64 u, .iface t p])
theorem gSyn : Tryd.prog.globalNamed "strconv.ErrSyntax" = some 1 := by kernel_rfl
theorem gRng : Tryd.prog.globalNamed "strconv.ErrRange" = some 2 := by kernel_rfl
set_option maxHeartbeats 1600000 in
set_option maxRecDepth 100000 in
theorem pu16_t (l : List UInt8) (hl : l.length ≤ 4000000000) (w : World) (hE : Env w) : Calls Tryd.prog 36 #[.string ⟨l.toArray⟩, .int .i64 16, .int .i64 16] w fun e w' => HexPub (hexP l) e ∧ Below w.heap.size w w' := by
  go_enter Tryd.func36, Tryd.ntmps36
  go_wp2_with fail
  refine (pu16_in l hl w).mono ?_
  rintro e w1 ⟨hP, hb⟩
  have HB := Lib.hid hb
  clear hb
  cases hq : hexP l with
  | some v =>
    rw [hq] at hP
    obtain rfl : e = .returned (.tuple #[.int .u64 v, .nilIface]) := hP
    go_wp2
    go_ret2
    exact ⟨by rw [hq]; rfl, HB.out⟩
  | none =>
    rw [hq] at hP
    obtain ⟨u, k, hk, rfl⟩ : ∃ (u k : Int), (k = 1 ∨ k = 2) ∧ e = .returned (.tuple #[.int .u64 u, .iface 100 (.int .i64 k)]) := hP
    have hE1 := hE.later HB.out
    have hto : Calls Tryd.prog 54 #[.string ⟨#[80, 97, 114, 115, 101, 85, 105, 110, 116]⟩, .string ⟨l.toArray⟩, .int .i64 16, .int .i64 16, .iface 100 (.int .i64 k)] w1 fun e w' => (∃ t p, e = .returned (.iface t p)) ∧ Below w1.heap.size w1 w' := by
      rcases hk with rfl | rfl
      · obtain ⟨tp, p, hv⟩ := hE1.r
        have h0 := World.var?_cell gRng hv 0
        refine (Tryd.strconv_toError_range ⟨#[80, 97, 114, 115, 101, 85, 105, 110, 116]⟩ ⟨l.toArray⟩ 16 16 (.iface tp p) w1 (by rw [bs_size]; omega) (by simpa using h0) (Or.inr ⟨tp, p, rfl⟩)).mono ?_
        rintro e w' ⟨N, rfl, _, _, hb⟩
        exact ⟨⟨_, _, rfl⟩, hb⟩
      · obtain ⟨tp, p, hv⟩ := hE1.s
        have h0 := World.var?_cell gSyn hv 0
        refine (Tryd.strconv_toError_syntax ⟨#[80, 97, 114, 115, 101, 85, 105, 110, 116]⟩ ⟨l.toArray⟩ 16 16 (.iface tp p) w1 (by rw [bs_size]; omega) (by simpa using h0) (Or.inr ⟨tp, p, rfl⟩)).mono ?_
        rintro e w' ⟨N, rfl, _, _, hb⟩
        exact ⟨⟨_, _, rfl⟩, hb⟩
    clear hE1
    go_wp2_with fail
    refine hto.mono ?_
    rintro e w2 ⟨⟨t, p, rfl⟩, hb2⟩
    have HB2 := Lib.hid (below_step HB.out hb2)
    clear HB hb2 hto
    go_wp2
    go_ret2
    exact ⟨by rw [hq]; exact ⟨_, _, _, rfl⟩, HB2.out⟩
end Go.Proofs.YtkenkjdelhmaoaaDoor
