/- FourPrints answers true for every address and every number of bits. No conditions. -/
import Derived.Test.YtkenkjdelhmaoaaDoorFour5
namespace Go.Proofs.YtkenkjdelhmaoaaDoor
set_option linter.unusedVariables false
set_option linter.unusedSimpArgs false
open Go.RowKit
set_option maxRecDepth 100000 in
set_option maxHeartbeats 1600000 in
theorem fourPrints_any (a n : Int) (a0 : 0 ≤ a) (a1 : a ≤ 4294967295) (w : World) (hE : Env w) :
    Calls Tryd.prog 3 #[.int .u32 a, .int .i64 n] w fun e w' => e = .returned (.bool true) ∧ Below w.heap.size w w' := by
  go_enter Tryd.func3, Tryd.ntmps3
  go_wp2_with fail
  refine (bytes4_t a a0 a1 w).mono ?_
  rintro r w1 ⟨rfl, hb1⟩
  unfold arr4
  go_wp2_with fail
  have Z := Row.new w1 #[.int .u8 (byteI a 0), .int .u8 (byteI a 1), .int .u8 (byteI a 2), .int .u8 (byteI a 3)] 23
  have hb2 : Below w1.heap.size w1 (w1.alloc (.cells #[.int .u8 (byteI a 0), .int .u8 (byteI a 1), .int .u8 (byteI a 2), .int .u8 (byteI a 3)] 23)) := (Below.refl _ _).alloc (Nat.le_refl _) _
  have HB := Lib.hid (below_step hb1 hb2)
  clear hb1 hb2
  generalize w1.alloc (.cells #[.int .u8 (byteI a 0), .int .u8 (byteI a 1), .int .u8 (byteI a 2), .int .u8 (byteI a 3)] 23) = w2 at *
  generalize w1.heap.size = g at *
  have HZ := Lib.hid Z
  clear Z
  refine (alive3_t w2 (hE.later HB.out)).mono ?_
  rintro r w3 ⟨rfl, hb3⟩
  have HB3 := Lib.hid (below_step HB.out hb3)
  have HZ3 := Lib.hid (HZ.out.later hb3)
  clear HB HZ hb3
  go_wp2_with fail
  refine (print4_t a a0 a1 w3 (hE.later HB3.out)).mono ?_
  rintro r w4 ⟨rfl, hb4⟩
  have HB4 := Lib.hid (below_step HB3.out hb4)
  have HZ4 := Lib.hid (HZ3.out.later hb4)
  clear HB3 HZ3 hb4
  go_wp2_with fail
  refine (rprint4_t a a0 a1 w4).mono ?_
  rintro r w5 ⟨rfl, hb5⟩
  have HB5 := Lib.hid (below_step HB4.out hb5)
  have Z := HZ4.out.later hb5
  clear HB4 HZ4 hb5
  have c0 := (Z.cell 0).trans (show _ = some (Value.int .u8 (byteI a 0)) from rfl)
  have c1 := (Z.cell 1).trans (show _ = some (Value.int .u8 (byteI a 1)) from rfl)
  have c2 := (Z.cell 2).trans (show _ = some (Value.int .u8 (byteI a 2)) from rfl)
  have c3 := (Z.cell 3).trans (show _ = some (Value.int .u8 (byteI a 3)) from rfl)
  have HZ5 := Lib.hid Z
  clear Z
  go_wp2_with fail
  refine (of4_t _ _ _ _ (byteI_range a 0) (byteI_range a 1) (byteI_range a 2) (byteI_range a 3) w5).mono ?_
  rintro r w6 ⟨rfl, hb6⟩
  rw [part4_bytes a a0 a1]
  have HB6 := Lib.hid (below_step HB5.out hb6)
  have Z := HZ5.out.later hb6
  clear HB5 HZ5 hb6 c0 c1 c2 c3
  have c0 := (Z.cell 0).trans (show _ = some (Value.int .u8 (byteI a 0)) from rfl)
  have c1 := (Z.cell 1).trans (show _ = some (Value.int .u8 (byteI a 1)) from rfl)
  have c2 := (Z.cell 2).trans (show _ = some (Value.int .u8 (byteI a 2)) from rfl)
  have c3 := (Z.cell 3).trans (show _ = some (Value.int .u8 (byteI a 3)) from rfl)
  have r0 := byteI_range a 0
  have r1 := byteI_range a 1
  have r2 := byteI_range a 2
  have r3 := byteI_range a 3
  have y0 : byteI a 0 = a / 16777216 := by unfold byteI; simp; omega
  have y1 : byteI a 1 = a / 65536 % 256 := by unfold byteI; simp
  have y2 : byteI a 2 = a / 256 % 256 := by unfold byteI; simp
  have y3 : byteI a 3 = a % 256 := by unfold byteI; simp
  rw [y0] at c0
  rw [y1] at c1
  rw [y2] at c2
  rw [y3] at c3
  clear Z
  have hmr := mask4_range n
  have hand := and32 a (mask4 n) a0 a1 hmr.1 hmr.2
  go_wp2_with fail
  refine (mask4_t n w6).mono ?_
  rintro r w7 ⟨rfl, rfl⟩
  go_wp2_with fail
  refine (rmask4_t n w6).mono ?_
  rintro r w7 ⟨rfl, rfl⟩
  go_wp2_with fail
  refine (top4_t a n a0 a1 w6).mono ?_
  rintro r w7 ⟨rfl, rfl⟩
  unfold top4
  go_wp2_with fail
  refine (rmask4_t n w6).mono ?_
  rintro r w7 ⟨rfl, rfl⟩
  go_wp2
  go_ret
  exact ⟨rfl, HB6.out⟩
end Go.Proofs.YtkenkjdelhmaoaaDoor
