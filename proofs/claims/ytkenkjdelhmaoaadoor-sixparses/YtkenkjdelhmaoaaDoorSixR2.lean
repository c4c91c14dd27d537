/- The reference's Groups of layer 4. No conditions. -/
import Derived.Test.YtkenkjdelhmaoaaDoorSixR1
namespace Go.Proofs.YtkenkjdelhmaoaaDoor
set_option linter.unusedVariables false
set_option linter.unusedSimpArgs false
open Go.RowKit
def cellsG (f : Nat → Int) (j : Nat) : Array Value := #[.int .u16 (if 3 < j then f 0 else 0), .int .u16 (if 2 < j then f 1 else 0), .int .u16 (if 1 < j then f 2 else 0), .int .u16 (if 0 < j then f 3 else 0), .int .u16 (if 3 < j then f 4 else 0), .int .u16 (if 2 < j then f 5 else 0), .int .u16 (if 1 < j then f 6 else 0), .int .u16 (if 0 < j then f 7 else 0)]
theorem grpH0 (A : Int) : grp A 3 = hi A / 1 % 65536 := by
  show A % MM / 18446744073709551616 % 65536 = _
  unfold hi MM
  omega
theorem grpL0 (A : Int) : grp A 7 = lo A / 1 % 65536 := by
  show A % MM / 1 % 65536 = _
  unfold lo MM
  omega
theorem grpH1 (A : Int) : grp A 2 = hi A / 65536 % 65536 := by
  show A % MM / 1208925819614629174706176 % 65536 = _
  unfold hi MM
  omega
theorem grpL1 (A : Int) : grp A 6 = lo A / 65536 % 65536 := by
  show A % MM / 65536 % 65536 = _
  unfold lo MM
  omega
theorem grpH2 (A : Int) : grp A 1 = hi A / 4294967296 % 65536 := by
  show A % MM / 79228162514264337593543950336 % 65536 = _
  unfold hi MM
  omega
theorem grpL2 (A : Int) : grp A 5 = lo A / 4294967296 % 65536 := by
  show A % MM / 4294967296 % 65536 = _
  unfold lo MM
  omega
theorem grpH3 (A : Int) : grp A 0 = hi A / 281474976710656 % 65536 := by
  show A % MM / 5192296858534827628530496329220096 % 65536 = _
  unfold hi MM
  omega
theorem grpL3 (A : Int) : grp A 4 = lo A / 281474976710656 % 65536 := by
  show A % MM / 281474976710656 % 65536 = _
  unfold lo MM
  omega
def pow16 : Nat → Int
  | 0 => 1
  | 1 => 65536
  | 2 => 4294967296
  | 3 => 281474976710656
  | _ => 18446744073709551616
set_option maxRecDepth 100000 in
set_option maxHeartbeats 3200000 in
theorem rgroups_t (A : Int) (w : World) : Calls Tryd.prog 23 #[.agg #[.int .u64 (hi A), .int .u64 (lo A)]] w fun e w' => e = .returned (arr8 (grp A)) ∧ Below w.heap.size w w' := by
  go_enter Tryd.func23, Tryd.ntmps23
  go_wp2_with fail
  have X0 : Row (((w.alloc (.cells #[.int .u64 (hi A), .int .u64 (lo A)] 47)).alloc (.cells zero8 42)).alloc (.cells zero8 42)) w.heap.size #[.int .u64 (hi A / 1), .int .u64 (lo A / 1)] 47 := by rw [Int.ediv_one, Int.ediv_one]; exact ((Row.new w _ _).alloc _).alloc _
  have Z0 : Row (((w.alloc (.cells #[.int .u64 (hi A), .int .u64 (lo A)] 47)).alloc (.cells zero8 42)).alloc (.cells zero8 42)) (w.heap.size + 1) zero8 42 := by simpa using (Row.new (w.alloc (.cells #[.int .u64 (hi A), .int .u64 (lo A)] 47)) zero8 42).alloc (.cells zero8 42)
  have G0 : Row (((w.alloc (.cells #[.int .u64 (hi A), .int .u64 (lo A)] 47)).alloc (.cells zero8 42)).alloc (.cells zero8 42)) (w.heap.size + 2) (cellsG (grp A) 0) 42 := by
    have h := Row.new ((w.alloc (.cells #[.int .u64 (hi A), .int .u64 (lo A)] 47)).alloc (.cells zero8 42)) zero8 42
    rw [show ((w.alloc (.cells #[.int .u64 (hi A), .int .u64 (lo A)] 47)).alloc (.cells zero8 42)).heap.size = w.heap.size + 2 by simp] at h
    exact h
  have hb0 : Below w.heap.size w (((w.alloc (.cells #[.int .u64 (hi A), .int .u64 (lo A)] 47)).alloc (.cells zero8 42)).alloc (.cells zero8 42)) := (by repeat (first | exact Below.refl _ _ | assumption | (with_reducible refine Below.setCell ?_ ?h _; case h => first | omega | (simp; done) | (simp; omega)) | (with_reducible refine Below.alloc ?_ ?h _; case h => first | omega | (simp; done) | (simp; omega)) | (with_reducible refine Below.drew ?_) | (with_reducible refine Below.trans ?_ (hb4.mono ?h); case h => first | omega | (simp; done) | (simp; omega)) | (with_reducible refine Below.trans ?_ (hb3.mono ?h); case h => first | omega | (simp; done) | (simp; omega)) | (with_reducible refine Below.trans ?_ (hb2.mono ?h); case h => first | omega | (simp; done) | (simp; omega)) | (with_reducible refine Below.trans ?_ (hb.mono ?h); case h => first | omega | (simp; done) | (simp; omega)) | (with_reducible refine Below.trans ?_ (hb0.mono ?h); case h => first | omega | (simp; done) | (simp; omega))))
  unfold zero8 at X0 Z0 G0 hb0
  generalize ((w.alloc (.cells #[.int .u64 (hi A), .int .u64 (lo A)] 47)).alloc (.cells #[.int .u16 0, .int .u16 0, .int .u16 0, .int .u16 0, .int .u16 0, .int .u16 0, .int .u16 0, .int .u16 0] 42)).alloc (.cells #[.int .u16 0, .int .u16 0, .int .u16 0, .int .u16 0, .int .u16 0, .int .u16 0, .int .u16 0, .int .u16 0] 42) = w0 at *
  go_loopw [4] (fun i wr => ∃ (j : Nat), j ≤ 4 ∧ i = .int .i64 j ∧ Row wr w.heap.size #[.int .u64 (hi A / pow16 j), .int .u64 (lo A / pow16 j)] 47 ∧ Row wr (w.heap.size + 1) zero8 42 ∧ Row wr (w.heap.size + 2) (cellsG (grp A) j) 42 ∧ Below w.heap.size w wr) (fun i _ => 4 - (intOf i).toNat)
  case atStart => exact ⟨0, by omega, rfl, X0, Z0, G0, hb0⟩
  case round =>
    clear X0 Z0 G0 hb0
    obtain ⟨j, hj, rfl, X, Z, G, hb⟩ := hrel
    rcases j with _ | _ | _ | _ | _ | j
    · replace X : Row wr w.heap.size #[.int .u64 (hi A / 1), .int .u64 (lo A / 1)] 47 := X
      replace G : Row wr (w.heap.size + 2) (cellsG (grp A) 0) 42 := G
      have x0 := (X.cell 0).trans (show _ = some (Value.int .u64 (hi A / 1)) from rfl)
      have x1 := (X.cell 1).trans (show _ = some (Value.int .u64 (lo A / 1)) from rfl)
      have xf0 := X.frozen 0
      have xf1 := X.frozen 1
      have g0 := (G.cell 3).trans (show _ = some (Value.int .u16 0) from rfl)
      have g1 := (G.cell 7).trans (show _ = some (Value.int .u16 0) from rfl)
      have gf0 := G.frozen 3
      have gf1 := G.frozen 7
      have hwh := word_hi A
      have hwl := word_lo A
      have HG1 : Hid (grp A 3 = hi A / 1 % 65536) := Lib.hid (grpH0 A)
      have HG2 : Hid (grp A 7 = lo A / 1 % 65536) := Lib.hid (grpL0 A)
      have hrx : 0 ≤ hi A / 1 ∧ hi A / 1 < 18446744073709551616 := by unfold Word at hwh; omega
      have hry : 0 ≤ lo A / 1 ∧ lo A / 1 < 18446744073709551616 := by unfold Word at hwl; omega
      have HX1 : Hid (hi A / 1 / 65536 = hi A / 65536) := Lib.hid (by rw [Int.ediv_ediv_of_nonneg (by decide)]; rfl)
      have HY1 : Hid (lo A / 1 / 65536 = lo A / 65536) := Lib.hid (by rw [Int.ediv_ediv_of_nonneg (by decide)]; rfl)
      have HX := Lib.hid X
      have HZ := Lib.hid Z
      have HG := Lib.hid G
      have HB := Lib.hid hb
      clear X Z G hb hwh hwl
      generalize hi A / 1 = x at *
      generalize lo A / 1 = y at *
      obtain ⟨rx0, rx1⟩ := hrx
      obtain ⟨ry0, ry1⟩ := hry
      have wx : IntKind.u16.wrap (x % 65536) = x % 65536 := by simp [IntKind.wrap, IntKind.bits, IntKind.signed]
      have wy : IntKind.u16.wrap (y % 65536) = y % 65536 := by simp [IntKind.wrap, IntKind.bits, IntKind.signed]
      go_wp2_with fail
      go_region
      have X2 := ((HX.out.set_far ⟨w.heap.size + 2, 3, none⟩ (.int .u16 (x % 65536)) (by dsimp only; omega)).set_far ⟨w.heap.size + 2, 7, none⟩ (.int .u16 (y % 65536)) (by dsimp only; omega)).drew
      have Z2 := ((HZ.out.set_far ⟨w.heap.size + 2, 3, none⟩ (.int .u16 (x % 65536)) (by dsimp only; omega)).set_far ⟨w.heap.size + 2, 7, none⟩ (.int .u16 (y % 65536)) (by dsimp only; omega)).drew
      have G2 := ((HG.out.set 3 (.int .u16 (x % 65536))).set 7 (.int .u16 (y % 65536))).drew
      have hb2 := ((HB.out.setCell (p := ⟨w.heap.size + 2, 3, none⟩) (by dsimp only; omega) (.int .u16 (x % 65536))).setCell (p := ⟨w.heap.size + 2, 7, none⟩) (by dsimp only; omega) (.int .u16 (y % 65536))).drew
      rw [← HG1.out, ← HG2.out, show ((cellsG (grp A) 0).setIfInBounds 3 (.int .u16 (grp A 3))).setIfInBounds 7 (.int .u16 (grp A 7)) = cellsG (grp A) 1 from rfl, HG1.out, HG2.out] at G2
      generalize ((wr.setCell ⟨w.heap.size + 2, 3, none⟩ (.int .u16 (x % 65536))).setCell ⟨w.heap.size + 2, 7, none⟩ (.int .u16 (y % 65536))).drew = w2 at *
      have x0 := (X2.cell 0).trans (show _ = some (Value.int .u64 x) from rfl)
      have x1 := (X2.cell 1).trans (show _ = some (Value.int .u64 y) from rfl)
      have xf0 := X2.frozen 0
      have xf1 := X2.frozen 1
      have HX2 := Lib.hid X2
      have HZ2 := Lib.hid Z2
      have HG3 := Lib.hid G2
      have HB2 := Lib.hid hb2
      clear X2 Z2 G2 hb2 HX HZ HG HB g0 g1 gf0 gf1
      go_wp2
      refine ⟨⟨1, by omega, by go_num, ?_, (HZ2.out.set_far _ _ (by dsimp only; omega)).set_far _ _ (by dsimp only; omega), (HG3.out.set_far _ _ (by dsimp only; omega)).set_far _ _ (by dsimp only; omega), (HB2.out.setCell (by dsimp only; omega) _).setCell (by dsimp only; omega) _⟩, by simp [intOf]⟩
      have h := (HX2.out.set 0 (.int .u64 (x / 65536))).set 1 (.int .u64 (y / 65536))
      show Row _ _ #[.int .u64 (hi A / 65536), .int .u64 (lo A / 65536)] _
      rw [← HX1.out, ← HY1.out]
      simpa using h
    · replace X : Row wr w.heap.size #[.int .u64 (hi A / 65536), .int .u64 (lo A / 65536)] 47 := X
      replace G : Row wr (w.heap.size + 2) (cellsG (grp A) 1) 42 := G
      have x0 := (X.cell 0).trans (show _ = some (Value.int .u64 (hi A / 65536)) from rfl)
      have x1 := (X.cell 1).trans (show _ = some (Value.int .u64 (lo A / 65536)) from rfl)
      have xf0 := X.frozen 0
      have xf1 := X.frozen 1
      have g0 := (G.cell 2).trans (show _ = some (Value.int .u16 0) from rfl)
      have g1 := (G.cell 6).trans (show _ = some (Value.int .u16 0) from rfl)
      have gf0 := G.frozen 2
      have gf1 := G.frozen 6
      have hwh := word_hi A
      have hwl := word_lo A
      have HG1 : Hid (grp A 2 = hi A / 65536 % 65536) := Lib.hid (grpH1 A)
      have HG2 : Hid (grp A 6 = lo A / 65536 % 65536) := Lib.hid (grpL1 A)
      have hrx : 0 ≤ hi A / 65536 ∧ hi A / 65536 < 18446744073709551616 := by unfold Word at hwh; omega
      have hry : 0 ≤ lo A / 65536 ∧ lo A / 65536 < 18446744073709551616 := by unfold Word at hwl; omega
      have HX1 : Hid (hi A / 65536 / 65536 = hi A / 4294967296) := Lib.hid (by rw [Int.ediv_ediv_of_nonneg (by decide)]; rfl)
      have HY1 : Hid (lo A / 65536 / 65536 = lo A / 4294967296) := Lib.hid (by rw [Int.ediv_ediv_of_nonneg (by decide)]; rfl)
      have HX := Lib.hid X
      have HZ := Lib.hid Z
      have HG := Lib.hid G
      have HB := Lib.hid hb
      clear X Z G hb hwh hwl
      generalize hi A / 65536 = x at *
      generalize lo A / 65536 = y at *
      obtain ⟨rx0, rx1⟩ := hrx
      obtain ⟨ry0, ry1⟩ := hry
      have wx : IntKind.u16.wrap (x % 65536) = x % 65536 := by simp [IntKind.wrap, IntKind.bits, IntKind.signed]
      have wy : IntKind.u16.wrap (y % 65536) = y % 65536 := by simp [IntKind.wrap, IntKind.bits, IntKind.signed]
      go_wp2_with fail
      go_region
      have X2 := ((HX.out.set_far ⟨w.heap.size + 2, 2, none⟩ (.int .u16 (x % 65536)) (by dsimp only; omega)).set_far ⟨w.heap.size + 2, 6, none⟩ (.int .u16 (y % 65536)) (by dsimp only; omega)).drew
      have Z2 := ((HZ.out.set_far ⟨w.heap.size + 2, 2, none⟩ (.int .u16 (x % 65536)) (by dsimp only; omega)).set_far ⟨w.heap.size + 2, 6, none⟩ (.int .u16 (y % 65536)) (by dsimp only; omega)).drew
      have G2 := ((HG.out.set 2 (.int .u16 (x % 65536))).set 6 (.int .u16 (y % 65536))).drew
      have hb2 := ((HB.out.setCell (p := ⟨w.heap.size + 2, 2, none⟩) (by dsimp only; omega) (.int .u16 (x % 65536))).setCell (p := ⟨w.heap.size + 2, 6, none⟩) (by dsimp only; omega) (.int .u16 (y % 65536))).drew
      rw [← HG1.out, ← HG2.out, show ((cellsG (grp A) 1).setIfInBounds 2 (.int .u16 (grp A 2))).setIfInBounds 6 (.int .u16 (grp A 6)) = cellsG (grp A) 2 from rfl, HG1.out, HG2.out] at G2
      generalize ((wr.setCell ⟨w.heap.size + 2, 2, none⟩ (.int .u16 (x % 65536))).setCell ⟨w.heap.size + 2, 6, none⟩ (.int .u16 (y % 65536))).drew = w2 at *
      have x0 := (X2.cell 0).trans (show _ = some (Value.int .u64 x) from rfl)
      have x1 := (X2.cell 1).trans (show _ = some (Value.int .u64 y) from rfl)
      have xf0 := X2.frozen 0
      have xf1 := X2.frozen 1
      have HX2 := Lib.hid X2
      have HZ2 := Lib.hid Z2
      have HG3 := Lib.hid G2
      have HB2 := Lib.hid hb2
      clear X2 Z2 G2 hb2 HX HZ HG HB g0 g1 gf0 gf1
      go_wp2
      refine ⟨⟨2, by omega, by go_num, ?_, (HZ2.out.set_far _ _ (by dsimp only; omega)).set_far _ _ (by dsimp only; omega), (HG3.out.set_far _ _ (by dsimp only; omega)).set_far _ _ (by dsimp only; omega), (HB2.out.setCell (by dsimp only; omega) _).setCell (by dsimp only; omega) _⟩, by simp [intOf]⟩
      have h := (HX2.out.set 0 (.int .u64 (x / 65536))).set 1 (.int .u64 (y / 65536))
      show Row _ _ #[.int .u64 (hi A / 4294967296), .int .u64 (lo A / 4294967296)] _
      rw [← HX1.out, ← HY1.out]
      simpa using h
    · replace X : Row wr w.heap.size #[.int .u64 (hi A / 4294967296), .int .u64 (lo A / 4294967296)] 47 := X
      replace G : Row wr (w.heap.size + 2) (cellsG (grp A) 2) 42 := G
      have x0 := (X.cell 0).trans (show _ = some (Value.int .u64 (hi A / 4294967296)) from rfl)
      have x1 := (X.cell 1).trans (show _ = some (Value.int .u64 (lo A / 4294967296)) from rfl)
      have xf0 := X.frozen 0
      have xf1 := X.frozen 1
      have g0 := (G.cell 1).trans (show _ = some (Value.int .u16 0) from rfl)
      have g1 := (G.cell 5).trans (show _ = some (Value.int .u16 0) from rfl)
      have gf0 := G.frozen 1
      have gf1 := G.frozen 5
      have hwh := word_hi A
      have hwl := word_lo A
      have HG1 : Hid (grp A 1 = hi A / 4294967296 % 65536) := Lib.hid (grpH2 A)
      have HG2 : Hid (grp A 5 = lo A / 4294967296 % 65536) := Lib.hid (grpL2 A)
      have hrx : 0 ≤ hi A / 4294967296 ∧ hi A / 4294967296 < 18446744073709551616 := by unfold Word at hwh; omega
      have hry : 0 ≤ lo A / 4294967296 ∧ lo A / 4294967296 < 18446744073709551616 := by unfold Word at hwl; omega
      have HX1 : Hid (hi A / 4294967296 / 65536 = hi A / 281474976710656) := Lib.hid (by rw [Int.ediv_ediv_of_nonneg (by decide)]; rfl)
      have HY1 : Hid (lo A / 4294967296 / 65536 = lo A / 281474976710656) := Lib.hid (by rw [Int.ediv_ediv_of_nonneg (by decide)]; rfl)
      have HX := Lib.hid X
      have HZ := Lib.hid Z
      have HG := Lib.hid G
      have HB := Lib.hid hb
      clear X Z G hb hwh hwl
      generalize hi A / 4294967296 = x at *
      generalize lo A / 4294967296 = y at *
      obtain ⟨rx0, rx1⟩ := hrx
      obtain ⟨ry0, ry1⟩ := hry
      have wx : IntKind.u16.wrap (x % 65536) = x % 65536 := by simp [IntKind.wrap, IntKind.bits, IntKind.signed]
      have wy : IntKind.u16.wrap (y % 65536) = y % 65536 := by simp [IntKind.wrap, IntKind.bits, IntKind.signed]
      go_wp2_with fail
      go_region
      have X2 := ((HX.out.set_far ⟨w.heap.size + 2, 1, none⟩ (.int .u16 (x % 65536)) (by dsimp only; omega)).set_far ⟨w.heap.size + 2, 5, none⟩ (.int .u16 (y % 65536)) (by dsimp only; omega)).drew
      have Z2 := ((HZ.out.set_far ⟨w.heap.size + 2, 1, none⟩ (.int .u16 (x % 65536)) (by dsimp only; omega)).set_far ⟨w.heap.size + 2, 5, none⟩ (.int .u16 (y % 65536)) (by dsimp only; omega)).drew
      have G2 := ((HG.out.set 1 (.int .u16 (x % 65536))).set 5 (.int .u16 (y % 65536))).drew
      have hb2 := ((HB.out.setCell (p := ⟨w.heap.size + 2, 1, none⟩) (by dsimp only; omega) (.int .u16 (x % 65536))).setCell (p := ⟨w.heap.size + 2, 5, none⟩) (by dsimp only; omega) (.int .u16 (y % 65536))).drew
      rw [← HG1.out, ← HG2.out, show ((cellsG (grp A) 2).setIfInBounds 1 (.int .u16 (grp A 1))).setIfInBounds 5 (.int .u16 (grp A 5)) = cellsG (grp A) 3 from rfl, HG1.out, HG2.out] at G2
      generalize ((wr.setCell ⟨w.heap.size + 2, 1, none⟩ (.int .u16 (x % 65536))).setCell ⟨w.heap.size + 2, 5, none⟩ (.int .u16 (y % 65536))).drew = w2 at *
      have x0 := (X2.cell 0).trans (show _ = some (Value.int .u64 x) from rfl)
      have x1 := (X2.cell 1).trans (show _ = some (Value.int .u64 y) from rfl)
      have xf0 := X2.frozen 0
      have xf1 := X2.frozen 1
      have HX2 := Lib.hid X2
      have HZ2 := Lib.hid Z2
      have HG3 := Lib.hid G2
      have HB2 := Lib.hid hb2
      clear X2 Z2 G2 hb2 HX HZ HG HB g0 g1 gf0 gf1
      go_wp2
      refine ⟨⟨3, by omega, by go_num, ?_, (HZ2.out.set_far _ _ (by dsimp only; omega)).set_far _ _ (by dsimp only; omega), (HG3.out.set_far _ _ (by dsimp only; omega)).set_far _ _ (by dsimp only; omega), (HB2.out.setCell (by dsimp only; omega) _).setCell (by dsimp only; omega) _⟩, by simp [intOf]⟩
      have h := (HX2.out.set 0 (.int .u64 (x / 65536))).set 1 (.int .u64 (y / 65536))
      show Row _ _ #[.int .u64 (hi A / 281474976710656), .int .u64 (lo A / 281474976710656)] _
      rw [← HX1.out, ← HY1.out]
      simpa using h
    · replace X : Row wr w.heap.size #[.int .u64 (hi A / 281474976710656), .int .u64 (lo A / 281474976710656)] 47 := X
      replace G : Row wr (w.heap.size + 2) (cellsG (grp A) 3) 42 := G
      have x0 := (X.cell 0).trans (show _ = some (Value.int .u64 (hi A / 281474976710656)) from rfl)
      have x1 := (X.cell 1).trans (show _ = some (Value.int .u64 (lo A / 281474976710656)) from rfl)
      have xf0 := X.frozen 0
      have xf1 := X.frozen 1
      have g0 := (G.cell 0).trans (show _ = some (Value.int .u16 0) from rfl)
      have g1 := (G.cell 4).trans (show _ = some (Value.int .u16 0) from rfl)
      have gf0 := G.frozen 0
      have gf1 := G.frozen 4
      have hwh := word_hi A
      have hwl := word_lo A
      have HG1 : Hid (grp A 0 = hi A / 281474976710656 % 65536) := Lib.hid (grpH3 A)
      have HG2 : Hid (grp A 4 = lo A / 281474976710656 % 65536) := Lib.hid (grpL3 A)
      have hrx : 0 ≤ hi A / 281474976710656 ∧ hi A / 281474976710656 < 18446744073709551616 := by unfold Word at hwh; omega
      have hry : 0 ≤ lo A / 281474976710656 ∧ lo A / 281474976710656 < 18446744073709551616 := by unfold Word at hwl; omega
      have HX1 : Hid (hi A / 281474976710656 / 65536 = hi A / 18446744073709551616) := Lib.hid (by rw [Int.ediv_ediv_of_nonneg (by decide)]; rfl)
      have HY1 : Hid (lo A / 281474976710656 / 65536 = lo A / 18446744073709551616) := Lib.hid (by rw [Int.ediv_ediv_of_nonneg (by decide)]; rfl)
      have HX := Lib.hid X
      have HZ := Lib.hid Z
      have HG := Lib.hid G
      have HB := Lib.hid hb
      clear X Z G hb hwh hwl
      generalize hi A / 281474976710656 = x at *
      generalize lo A / 281474976710656 = y at *
      obtain ⟨rx0, rx1⟩ := hrx
      obtain ⟨ry0, ry1⟩ := hry
      have wx : IntKind.u16.wrap (x % 65536) = x % 65536 := by simp [IntKind.wrap, IntKind.bits, IntKind.signed]
      have wy : IntKind.u16.wrap (y % 65536) = y % 65536 := by simp [IntKind.wrap, IntKind.bits, IntKind.signed]
      go_wp2_with fail
      go_region
      have X2 := ((HX.out.set_far ⟨w.heap.size + 2, 0, none⟩ (.int .u16 (x % 65536)) (by dsimp only; omega)).set_far ⟨w.heap.size + 2, 4, none⟩ (.int .u16 (y % 65536)) (by dsimp only; omega)).drew
      have Z2 := ((HZ.out.set_far ⟨w.heap.size + 2, 0, none⟩ (.int .u16 (x % 65536)) (by dsimp only; omega)).set_far ⟨w.heap.size + 2, 4, none⟩ (.int .u16 (y % 65536)) (by dsimp only; omega)).drew
      have G2 := ((HG.out.set 0 (.int .u16 (x % 65536))).set 4 (.int .u16 (y % 65536))).drew
      have hb2 := ((HB.out.setCell (p := ⟨w.heap.size + 2, 0, none⟩) (by dsimp only; omega) (.int .u16 (x % 65536))).setCell (p := ⟨w.heap.size + 2, 4, none⟩) (by dsimp only; omega) (.int .u16 (y % 65536))).drew
      rw [← HG1.out, ← HG2.out, show ((cellsG (grp A) 3).setIfInBounds 0 (.int .u16 (grp A 0))).setIfInBounds 4 (.int .u16 (grp A 4)) = cellsG (grp A) 4 from rfl, HG1.out, HG2.out] at G2
      generalize ((wr.setCell ⟨w.heap.size + 2, 0, none⟩ (.int .u16 (x % 65536))).setCell ⟨w.heap.size + 2, 4, none⟩ (.int .u16 (y % 65536))).drew = w2 at *
      have x0 := (X2.cell 0).trans (show _ = some (Value.int .u64 x) from rfl)
      have x1 := (X2.cell 1).trans (show _ = some (Value.int .u64 y) from rfl)
      have xf0 := X2.frozen 0
      have xf1 := X2.frozen 1
      have HX2 := Lib.hid X2
      have HZ2 := Lib.hid Z2
      have HG3 := Lib.hid G2
      have HB2 := Lib.hid hb2
      clear X2 Z2 G2 hb2 HX HZ HG HB g0 g1 gf0 gf1
      go_wp2
      refine ⟨⟨4, by omega, by go_num, ?_, (HZ2.out.set_far _ _ (by dsimp only; omega)).set_far _ _ (by dsimp only; omega), (HG3.out.set_far _ _ (by dsimp only; omega)).set_far _ _ (by dsimp only; omega), (HB2.out.setCell (by dsimp only; omega) _).setCell (by dsimp only; omega) _⟩, by simp [intOf]⟩
      have h := (HX2.out.set 0 (.int .u64 (x / 65536))).set 1 (.int .u64 (y / 65536))
      show Row _ _ #[.int .u64 (hi A / 18446744073709551616), .int .u64 (lo A / 18446744073709551616)] _
      rw [← HX1.out, ← HY1.out]
      simpa using h
    · have G' : Row wr (w.heap.size + 2) #[.int .u16 (grp A 0), .int .u16 (grp A 1), .int .u16 (grp A 2), .int .u16 (grp A 3), .int .u16 (grp A 4), .int .u16 (grp A 5), .int .u16 (grp A 6), .int .u16 (grp A 7)] 42 := G
      have c0 := (G'.cell 0).trans (show _ = some (Value.int .u16 (grp A 0)) from rfl)
      have z0 := (Z.cell 0).trans (show _ = some (Value.int .u16 0) from rfl)
      have f0 := Z.frozen 0
      have c1 := (G'.cell 1).trans (show _ = some (Value.int .u16 (grp A 1)) from rfl)
      have z1 := (Z.cell 1).trans (show _ = some (Value.int .u16 0) from rfl)
      have f1 := Z.frozen 1
      have c2 := (G'.cell 2).trans (show _ = some (Value.int .u16 (grp A 2)) from rfl)
      have z2 := (Z.cell 2).trans (show _ = some (Value.int .u16 0) from rfl)
      have f2 := Z.frozen 2
      have c3 := (G'.cell 3).trans (show _ = some (Value.int .u16 (grp A 3)) from rfl)
      have z3 := (Z.cell 3).trans (show _ = some (Value.int .u16 0) from rfl)
      have f3 := Z.frozen 3
      have c4 := (G'.cell 4).trans (show _ = some (Value.int .u16 (grp A 4)) from rfl)
      have z4 := (Z.cell 4).trans (show _ = some (Value.int .u16 0) from rfl)
      have f4 := Z.frozen 4
      have c5 := (G'.cell 5).trans (show _ = some (Value.int .u16 (grp A 5)) from rfl)
      have z5 := (Z.cell 5).trans (show _ = some (Value.int .u16 0) from rfl)
      have f5 := Z.frozen 5
      have c6 := (G'.cell 6).trans (show _ = some (Value.int .u16 (grp A 6)) from rfl)
      have z6 := (Z.cell 6).trans (show _ = some (Value.int .u16 0) from rfl)
      have f6 := Z.frozen 6
      have c7 := (G'.cell 7).trans (show _ = some (Value.int .u16 (grp A 7)) from rfl)
      have z7 := (Z.cell 7).trans (show _ = some (Value.int .u16 0) from rfl)
      have f7 := Z.frozen 7
      have HB := Lib.hid hb
      have HZ := Lib.hid Z
      clear X Z G G' hb
      go_wp2
      have Q := Row.set8 (f := fun _ => 0) HZ.out (.int .u16 (grp A 0)) (.int .u16 (grp A 1)) (.int .u16 (grp A 2)) (.int .u16 (grp A 3)) (.int .u16 (grp A 4)) (.int .u16 (grp A 5)) (.int .u16 (grp A 6)) (.int .u16 (grp A 7))
      have hbf := below8 (g := w.heap.size + 1) HB.out (by omega) (.int .u16 (grp A 0)) (.int .u16 (grp A 1)) (.int .u16 (grp A 2)) (.int .u16 (grp A 3)) (.int .u16 (grp A 4)) (.int .u16 (grp A 5)) (.int .u16 (grp A 6)) (.int .u16 (grp A 7))
      have s0 := (Q.cell 0).trans (show _ = some (Value.int .u16 (grp A 0)) from rfl)
      have s1 := (Q.cell 1).trans (show _ = some (Value.int .u16 (grp A 1)) from rfl)
      have s2 := (Q.cell 2).trans (show _ = some (Value.int .u16 (grp A 2)) from rfl)
      have s3 := (Q.cell 3).trans (show _ = some (Value.int .u16 (grp A 3)) from rfl)
      have s4 := (Q.cell 4).trans (show _ = some (Value.int .u16 (grp A 4)) from rfl)
      have s5 := (Q.cell 5).trans (show _ = some (Value.int .u16 (grp A 5)) from rfl)
      have s6 := (Q.cell 6).trans (show _ = some (Value.int .u16 (grp A 6)) from rfl)
      have s7 := (Q.cell 7).trans (show _ = some (Value.int .u16 (grp A 7)) from rfl)
      clear c0 z0 f0 c1 z1 f1 c2 z2 f2 c3 z3 f3 c4 z4 f4 c5 z5 f5 c6 z6 f6 c7 z7 f7 Q
      have HBF := Lib.hid hbf
      clear hbf HZ HB
      generalize ((((((((wr.setCell ⟨w.heap.size + 1, 0, none⟩ (.int .u16 (grp A 0))).setCell ⟨w.heap.size + 1, 1, none⟩ (.int .u16 (grp A 1))).setCell ⟨w.heap.size + 1, 2, none⟩ (.int .u16 (grp A 2))).setCell ⟨w.heap.size + 1, 3, none⟩ (.int .u16 (grp A 3))).setCell ⟨w.heap.size + 1, 4, none⟩ (.int .u16 (grp A 4))).setCell ⟨w.heap.size + 1, 5, none⟩ (.int .u16 (grp A 5))).setCell ⟨w.heap.size + 1, 6, none⟩ (.int .u16 (grp A 6))).setCell ⟨w.heap.size + 1, 7, none⟩ (.int .u16 (grp A 7))) = wF at *
      exact bodyPost_ret (v := arr8 (grp A)) (by simp only [results, Tryd.results23]; simp [go_sem, s0, s1, s2, s3, s4, s5, s6, s7, arr8]) rfl ⟨rfl, HBF.out⟩
    · omega
end Go.Proofs.YtkenkjdelhmaoaaDoor
