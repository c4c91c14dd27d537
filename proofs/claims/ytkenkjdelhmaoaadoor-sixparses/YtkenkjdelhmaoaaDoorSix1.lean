/- Groups, Of and Run of package six. No conditions beyond ranges. -/
import Derived.Test.YtkenkjdelhmaoaaDoorWideS
namespace Go.Proofs.YtkenkjdelhmaoaaDoor
set_option linter.unusedVariables false
set_option linter.unusedSimpArgs false
open Go.RowKit
/-- the group i of an address, the greatest first -/
def grp (A : Int) (i : Nat) : Int := A % MM / 2 ^ (112 - 16 * i) % 65536
def arr8 (f : Nat → Int) : Value := .agg #[.int .u16 (f 0), .int .u16 (f 1), .int .u16 (f 2), .int .u16 (f 3), .int .u16 (f 4), .int .u16 (f 5), .int .u16 (f 6), .int .u16 (f 7)]
theorem grp_range (A : Int) (i : Nat) : 0 ≤ grp A i ∧ grp A i ≤ 65535 := by unfold grp; omega
def cells8 (f : Nat → Int) (j : Nat) : Array Value := #[.int .u16 (if 0 < j then f 0 else 0), .int .u16 (if 1 < j then f 1 else 0), .int .u16 (if 2 < j then f 2 else 0), .int .u16 (if 3 < j then f 3 else 0), .int .u16 (if 4 < j then f 4 else 0), .int .u16 (if 5 < j then f 5 else 0), .int .u16 (if 6 < j then f 6 else 0), .int .u16 (if 7 < j then f 7 else 0)]
theorem cells8_set (f : Nat → Int) (j : Nat) (h : j < 8) : (cells8 f j).setIfInBounds j (.int .u16 (f j)) = cells8 f (j + 1) := by
  rcases j with _ | _ | _ | _ | _ | _ | _ | _ | j <;> first | rfl | omega
theorem cells8_get (f : Nat → Int) (j i : Nat) (h : i < 8) : (cells8 f j)[i]? = some (.int .u16 (if i < j then f i else 0)) := by
  rcases i with _ | _ | _ | _ | _ | _ | _ | _ | i <;> first | rfl | omega
def zero8 : Array Value := #[.int .u16 0, .int .u16 0, .int .u16 0, .int .u16 0, .int .u16 0, .int .u16 0, .int .u16 0, .int .u16 0]
theorem set8 (a0 a1 a2 a3 a4 a5 a6 a7 : Value) : ((((((((zero8).setIfInBounds 0 a0).setIfInBounds 1 a1).setIfInBounds 2 a2).setIfInBounds 3 a3).setIfInBounds 4 a4).setIfInBounds 5 a5).setIfInBounds 6 a6).setIfInBounds 7 a7 = #[a0, a1, a2, a3, a4, a5, a6, a7] := by simp [zero8]
theorem fieldLo (x y : Value) (w : World) : (Instr.field 40 (.agg #[x, y]) 1).run Tryd.prog w = .ok y w := by kernel_rfl
set_option maxRecDepth 100000 in
set_option maxHeartbeats 1600000 in
theorem groups_t (A : Int) (w : World) : Calls Tryd.prog 20 #[.agg #[.int .u64 (hi A), .int .u64 (lo A)]] w fun e w' => e = .returned (arr8 (grp A)) ∧ Below w.heap.size w w' := by
  go_enter Tryd.func20, Tryd.ntmps20
  go_wp2_with fail
  have X0 : Row (((w.alloc (.cells #[.int .u64 (hi A), .int .u64 (lo A)] 40)).alloc (.cells zero8 42)).alloc (.cells zero8 42)) w.heap.size #[.int .u64 (hi A), .int .u64 (lo A)] 40 := ((Row.new w _ _).alloc _).alloc _
  have Z0 : Row (((w.alloc (.cells #[.int .u64 (hi A), .int .u64 (lo A)] 40)).alloc (.cells zero8 42)).alloc (.cells zero8 42)) (w.heap.size + 1) zero8 42 := by simpa using (Row.new (w.alloc (.cells #[.int .u64 (hi A), .int .u64 (lo A)] 40)) zero8 42).alloc (.cells zero8 42)
  have Z1 : Row (((w.alloc (.cells #[.int .u64 (hi A), .int .u64 (lo A)] 40)).alloc (.cells zero8 42)).alloc (.cells zero8 42)) (w.heap.size + 2) (cells8 (grp A) 0) 42 := by
    have h := Row.new ((w.alloc (.cells #[.int .u64 (hi A), .int .u64 (lo A)] 40)).alloc (.cells zero8 42)) zero8 42
    rw [show ((w.alloc (.cells #[.int .u64 (hi A), .int .u64 (lo A)] 40)).alloc (.cells zero8 42)).heap.size = w.heap.size + 2 by simp] at h
    exact h
  have hb0 : Below w.heap.size w (((w.alloc (.cells #[.int .u64 (hi A), .int .u64 (lo A)] 40)).alloc (.cells zero8 42)).alloc (.cells zero8 42)) := (by repeat (first | exact Below.refl _ _ | assumption | (with_reducible refine Below.setCell ?_ ?h _; case h => first | omega | (simp; done) | (simp; omega)) | (with_reducible refine Below.alloc ?_ ?h _; case h => first | omega | (simp; done) | (simp; omega)) | (with_reducible refine Below.drew ?_) | (with_reducible refine Below.trans ?_ (hb4.mono ?h); case h => first | omega | (simp; done) | (simp; omega)) | (with_reducible refine Below.trans ?_ (hb3.mono ?h); case h => first | omega | (simp; done) | (simp; omega)) | (with_reducible refine Below.trans ?_ (hb2.mono ?h); case h => first | omega | (simp; done) | (simp; omega)) | (with_reducible refine Below.trans ?_ (hb.mono ?h); case h => first | omega | (simp; done) | (simp; omega)) | (with_reducible refine Below.trans ?_ (hb0.mono ?h); case h => first | omega | (simp; done) | (simp; omega))))
  unfold zero8 at X0 Z0 Z1 hb0
  generalize ((w.alloc (.cells #[.int .u64 (hi A), .int .u64 (lo A)] 40)).alloc (.cells #[.int .u16 0, .int .u16 0, .int .u16 0, .int .u16 0, .int .u16 0, .int .u16 0, .int .u16 0, .int .u16 0] 42)).alloc (.cells #[.int .u16 0, .int .u16 0, .int .u16 0, .int .u16 0, .int .u16 0, .int .u16 0, .int .u16 0, .int .u16 0] 42) = w0 at *
  go_loopw [5] (fun i wr => ∃ (j : Nat), j ≤ 8 ∧ i = .int .i64 j ∧ Row wr (w.heap.size + 2) (cells8 (grp A) j) 42 ∧ Row wr (w.heap.size + 1) zero8 42 ∧ Row wr w.heap.size #[.int .u64 (hi A), .int .u64 (lo A)] 40 ∧ Below w.heap.size w wr) (fun i _ => 8 - (intOf i).toNat)
  case atStart => exact ⟨0, by omega, rfl, Z1, Z0, X0, hb0⟩
  case round =>
    clear Z0 Z1 X0 hb0
    obtain ⟨j, hj, rfl, R, R0, X, hb⟩ := hrel
    by_cases hlt : j < 8
    · have hlb : decide ((j : Int) < 8) = true := by simp; omega
      have x0 := (X.cell 0).trans (show _ = some (Value.int .u64 (hi A)) from rfl)
      have x1 := (X.cell 1).trans (show _ = some (Value.int .u64 (lo A)) from rfl)
      have HR := Lib.hid R
      have HR0 := Lib.hid R0
      have HX := Lib.hid X
      have HB := Lib.hid hb
      clear R R0 X hb
      have q1 : (0 : Int) ≤ 16 * (7 - (j : Int)) := by omega
      have q2 : 16 * (7 - (j : Int)) ≤ 112 := by omega
      go_wp2_with fail
      refine (right_h A (16 * (7 - (j : Int))) wr).mono ?_
      rintro r w1 ⟨rfl, hb1⟩
      have R1 := HR.out.later hb1
      have c0 := (R1.cell j).trans (cells8_get (grp A) j j hlt)
      rw [if_neg (Nat.lt_irrefl j)] at c0
      have f0 := R1.frozen j
      have HR1 := Lib.hid R1
      have HR2 := Lib.hid (HR0.out.later hb1)
      have HX1 := Lib.hid (HX.out.later hb1)
      have HB1 := Lib.hid (below_step HB.out hb1)
      clear R1 HR HR0 HX HB hb1 x0 x1
      have hg : lo (A % MM / 2 ^ (16 * (7 - (j : Int))).toNat) % 65536 = grp A j := by
        unfold grp lo
        rw [show (16 * (7 - (j : Int))).toNat = 112 - 16 * j by omega]
        generalize A % MM / 2 ^ (112 - 16 * j) = q
        omega
      have hfl := fieldLo (.int .u64 (hi (A % MM / 2 ^ (16 * (7 - (j : Int))).toNat))) (.int .u64 (lo (A % MM / 2 ^ (16 * (7 - (j : Int))).toNat))) w1
      have HG := Lib.hid hg
      clear hg
      generalize hq1 : hi (A % MM / 2 ^ (16 * (7 - (j : Int))).toNat) = v1 at *
      generalize hq2 : lo (A % MM / 2 ^ (16 * (7 - (j : Int))).toNat) = v2 at *
      have HQ2 := Lib.hid hq2
      clear hq1 hq2
      go_wp2
      refine ⟨⟨j + 1, by omega, by go_num, ?_, HR2.out.set_far _ _ (by dsimp only; omega), HX1.out.set_far _ _ (by dsimp only; omega), HB1.out.setCell (by dsimp only; omega) _⟩, by simp [intOf]; omega⟩
      have := HR1.out.set j (.int .u16 (grp A j))
      rw [cells8_set (grp A) j hlt, ← HG.out] at this
      exact this
    · have hj8 : j = 8 := by omega
      subst hj8
      have R' : Row wr (w.heap.size + 2) #[.int .u16 (grp A 0), .int .u16 (grp A 1), .int .u16 (grp A 2), .int .u16 (grp A 3), .int .u16 (grp A 4), .int .u16 (grp A 5), .int .u16 (grp A 6), .int .u16 (grp A 7)] 42 := R
      have c0 := (R'.cell 0).trans (show _ = some (Value.int .u16 (grp A 0)) from rfl)
      have z0 := (R0.cell 0).trans (show _ = some (Value.int .u16 0) from rfl)
      have f0 := R0.frozen 0
      have c1 := (R'.cell 1).trans (show _ = some (Value.int .u16 (grp A 1)) from rfl)
      have z1 := (R0.cell 1).trans (show _ = some (Value.int .u16 0) from rfl)
      have f1 := R0.frozen 1
      have c2 := (R'.cell 2).trans (show _ = some (Value.int .u16 (grp A 2)) from rfl)
      have z2 := (R0.cell 2).trans (show _ = some (Value.int .u16 0) from rfl)
      have f2 := R0.frozen 2
      have c3 := (R'.cell 3).trans (show _ = some (Value.int .u16 (grp A 3)) from rfl)
      have z3 := (R0.cell 3).trans (show _ = some (Value.int .u16 0) from rfl)
      have f3 := R0.frozen 3
      have c4 := (R'.cell 4).trans (show _ = some (Value.int .u16 (grp A 4)) from rfl)
      have z4 := (R0.cell 4).trans (show _ = some (Value.int .u16 0) from rfl)
      have f4 := R0.frozen 4
      have c5 := (R'.cell 5).trans (show _ = some (Value.int .u16 (grp A 5)) from rfl)
      have z5 := (R0.cell 5).trans (show _ = some (Value.int .u16 0) from rfl)
      have f5 := R0.frozen 5
      have c6 := (R'.cell 6).trans (show _ = some (Value.int .u16 (grp A 6)) from rfl)
      have z6 := (R0.cell 6).trans (show _ = some (Value.int .u16 0) from rfl)
      have f6 := R0.frozen 6
      have c7 := (R'.cell 7).trans (show _ = some (Value.int .u16 (grp A 7)) from rfl)
      have z7 := (R0.cell 7).trans (show _ = some (Value.int .u16 0) from rfl)
      have f7 := R0.frozen 7
      have HB := Lib.hid hb
      have HR0 := Lib.hid R0
      clear R R' R0 X hb
      go_wp2
      have Q := (((((((HR0.out.set 0 (.int .u16 (grp A 0))).set 1 (.int .u16 (grp A 1))).set 2 (.int .u16 (grp A 2))).set 3 (.int .u16 (grp A 3))).set 4 (.int .u16 (grp A 4))).set 5 (.int .u16 (grp A 5))).set 6 (.int .u16 (grp A 6))).set 7 (.int .u16 (grp A 7))
      rw [set8] at Q
      have s0 := (Q.cell 0).trans (show _ = some (Value.int .u16 (grp A 0)) from rfl)
      have s1 := (Q.cell 1).trans (show _ = some (Value.int .u16 (grp A 1)) from rfl)
      have s2 := (Q.cell 2).trans (show _ = some (Value.int .u16 (grp A 2)) from rfl)
      have s3 := (Q.cell 3).trans (show _ = some (Value.int .u16 (grp A 3)) from rfl)
      have s4 := (Q.cell 4).trans (show _ = some (Value.int .u16 (grp A 4)) from rfl)
      have s5 := (Q.cell 5).trans (show _ = some (Value.int .u16 (grp A 5)) from rfl)
      have s6 := (Q.cell 6).trans (show _ = some (Value.int .u16 (grp A 6)) from rfl)
      have s7 := (Q.cell 7).trans (show _ = some (Value.int .u16 (grp A 7)) from rfl)
      have hbf : Below w.heap.size w ((((((((((((((((wr).setCell ⟨w.heap.size + 1, 0, none⟩ (.int .u16 (grp A 0)))).setCell ⟨w.heap.size + 1, 1, none⟩ (.int .u16 (grp A 1)))).setCell ⟨w.heap.size + 1, 2, none⟩ (.int .u16 (grp A 2)))).setCell ⟨w.heap.size + 1, 3, none⟩ (.int .u16 (grp A 3)))).setCell ⟨w.heap.size + 1, 4, none⟩ (.int .u16 (grp A 4)))).setCell ⟨w.heap.size + 1, 5, none⟩ (.int .u16 (grp A 5)))).setCell ⟨w.heap.size + 1, 6, none⟩ (.int .u16 (grp A 6)))).setCell ⟨w.heap.size + 1, 7, none⟩ (.int .u16 (grp A 7))) := ((((((((HB.out.setCell (by dsimp only; omega) _).setCell (by dsimp only; omega) _).setCell (by dsimp only; omega) _).setCell (by dsimp only; omega) _).setCell (by dsimp only; omega) _).setCell (by dsimp only; omega) _).setCell (by dsimp only; omega) _).setCell (by dsimp only; omega) _)
      have HBF := Lib.hid hbf
      clear hbf
      clear Q HR0 HB
      generalize ((((((((((((((((wr).setCell ⟨w.heap.size + 1, 0, none⟩ (.int .u16 (grp A 0)))).setCell ⟨w.heap.size + 1, 1, none⟩ (.int .u16 (grp A 1)))).setCell ⟨w.heap.size + 1, 2, none⟩ (.int .u16 (grp A 2)))).setCell ⟨w.heap.size + 1, 3, none⟩ (.int .u16 (grp A 3)))).setCell ⟨w.heap.size + 1, 4, none⟩ (.int .u16 (grp A 4)))).setCell ⟨w.heap.size + 1, 5, none⟩ (.int .u16 (grp A 5)))).setCell ⟨w.heap.size + 1, 6, none⟩ (.int .u16 (grp A 6)))).setCell ⟨w.heap.size + 1, 7, none⟩ (.int .u16 (grp A 7))) = wF at *
      exact bodyPost_ret (v := arr8 (grp A)) (by simp only [results, Tryd.results20]; simp [go_sem, s0, s1, s2, s3, s4, s5, s6, s7, arr8]) rfl ⟨rfl, HBF.out⟩
end Go.Proofs.YtkenkjdelhmaoaaDoor
