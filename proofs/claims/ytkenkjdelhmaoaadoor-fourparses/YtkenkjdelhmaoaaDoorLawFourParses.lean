/- FourParses answers true for every text. No conditions. -/
import Derived.Test.YtkenkjdelhmaoaaDoorFour7
namespace Go.Proofs.YtkenkjdelhmaoaaDoor
set_option linter.unusedVariables false
set_option linter.unusedSimpArgs false
open Go.RowKit
set_option maxRecDepth 100000 in
set_option maxHeartbeats 1600000 in
theorem fourParses_any (l : List UInt8) (w : World) (hE : Env w) :
    Calls Tryd.prog 4 #[.string ⟨l.toArray⟩] w fun e w' => e = .returned (.bool true) ∧ Below w.heap.size w w' := by
  have hsz := bs_size l
  by_cases h300 : 300 < l.length
  · go_enter Tryd.func4, Tryd.ntmps4
    go_wp2_with fail
    refine (alive3_t _ hE).mono ?_
    rintro r w1 ⟨rfl, hb⟩
    go_wp2
    go_ret
    exact ⟨rfl, hb⟩
  · have p1 := parse4_t l (by omega) w hE
    have p2 := fun w => rparse4_t l (by omega) w
    cases hm : mach l with
    | some v =>
      rw [mach_some hm] at p1
      rw [hm] at p2
      have P1 := Lib.hid p1
      have P2 := Lib.hid p2
      clear p1 p2
      unfold rp at P2
      go_enter Tryd.func4, Tryd.ntmps4
      go_wp2_with fail
      refine P1.out.mono ?_
      rintro r w1 ⟨rfl, hb1⟩
      have HB1 := Lib.hid hb1
      clear hb1
      go_wp2_with fail
      refine (P2.out w1).mono ?_
      rintro r w2 ⟨rfl, rfl⟩
      go_wp2_with fail
      refine (alive3_t w1 (hE.later HB1.out)).mono ?_
      rintro r w3 ⟨rfl, hb3⟩
      have HB3 := Lib.hid (below_step HB1.out hb3)
      clear hb3
      go_wp2
      go_ret
      exact ⟨rfl, HB3.out⟩
    | none =>
      rw [mach_none hm] at p1
      rw [hm] at p2
      have P1 := Lib.hid p1
      have P2 := Lib.hid p2
      clear p1 p2
      unfold rp at P2
      go_enter Tryd.func4, Tryd.ntmps4
      go_wp2_with fail
      refine P1.out.mono ?_
      rintro r w1 ⟨rfl, hb1⟩
      have HB1 := Lib.hid hb1
      clear hb1
      go_wp2_with fail
      refine (P2.out w1).mono ?_
      rintro r w2 ⟨rfl, rfl⟩
      go_wp2_with fail
      refine (alive3_t w1 (hE.later HB1.out)).mono ?_
      rintro r w3 ⟨rfl, hb3⟩
      have HB3 := Lib.hid (below_step HB1.out hb3)
      clear hb3
      go_wp2
      go_ret
      exact ⟨rfl, HB3.out⟩
end Go.Proofs.YtkenkjdelhmaoaaDoor
