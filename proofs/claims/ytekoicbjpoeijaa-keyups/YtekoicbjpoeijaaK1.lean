/- Width, bits, ofBits, ofPath and top of package key. No conditions beyond lengths. -/
import Derived.Test.YtekoicbjpoeijaaK0
namespace Go.Proofs.Ytekoicbjpoeijaa
set_option linter.unusedVariables false
set_option linter.unusedSimpArgs false
open Go.RowKit
theorem bw {w : World} : Below w.heap.size w w := Below.refl _ _
theorem bset5 {w w1 : World} {g : Nat} (hb : Below w.heap.size w w1) (hg : w.heap.size ≤ g) (a b c d e : Value) : Below w.heap.size w (((((w1.setCell ⟨g, 0, none⟩ a).setCell ⟨g, 1, none⟩ b).setCell ⟨g, 2, none⟩ c).setCell ⟨g, 3, none⟩ d).setCell ⟨g, 4, none⟩ e) :=
  ((((hb.setCell hg a).setCell hg b).setCell hg c).setCell hg d).setCell hg e
theorem width_t (k : Int) (w : World) : Calls Try.prog 20 #[.int .i64 k] w fun e w' => e = .returned (.int .i64 (wid k)) ∧ Below w.heap.size w w' := by
  by_cases h1 : k = 1
  · subst h1
    go_enter Try.func20, Try.ntmps20
    go_wp2
    go_ret
    exact ⟨rfl, bw⟩
  by_cases h2 : k = 2
  · subst h2
    go_enter Try.func20, Try.ntmps20
    go_wp2
    go_ret
    exact ⟨rfl, bw⟩
  by_cases h3 : k = 3
  · subst h3
    go_enter Try.func20, Try.ntmps20
    go_wp2
    go_ret
    exact ⟨rfl, bw⟩
  have e : wid k = 0 := by unfold wid; rw [if_neg h1, if_neg h2, if_neg h3]
  rw [e]
  have b1 : (k == 1) = false := by simpa using h1
  have b2 : (k == 2) = false := by simpa using h2
  have b3 : (k == 3) = false := by simpa using h3
  go_enter Try.func20, Try.ntmps20
  go_wp2
  go_ret
  exact ⟨rfl, bw⟩
theorem ofBits_t (kd n h l : Int) (w : World) : Calls Try.prog 57 #[.int .i64 kd, .int .i64 n, .agg #[.int .u64 h, .int .u64 l]] w fun e w' => e = .returned (.agg #[.int .i64 kd, .int .i64 n, .int .u64 h, .int .u64 l, .string ⟨#[]⟩]) ∧ Below w.heap.size w w' := by
  go_enter Try.func57, Try.ntmps57
  go_wp2
  refine bodyPost_ret (v := .agg #[.int .i64 kd, .int .i64 n, .int .u64 h, .int .u64 l, .string ⟨#[]⟩]) (by simp [results, Try.results57, go_sem]) rfl ⟨rfl, (by repeat (first | exact Below.refl _ _ | assumption | (with_reducible refine Below.setCell ?_ ?h _; case h => first | omega | (simp; done) | (simp; omega)) | (with_reducible refine Below.alloc ?_ ?h _; case h => first | omega | (simp; done) | (simp; omega)) | (with_reducible refine Below.drew ?_) | (with_reducible refine Below.trans ?_ (hb4.mono ?h); case h => first | omega | (simp; done) | (simp; omega)) | (with_reducible refine Below.trans ?_ (hb3.mono ?h); case h => first | omega | (simp; done) | (simp; omega)) | (with_reducible refine Below.trans ?_ (hb2.mono ?h); case h => first | omega | (simp; done) | (simp; omega)) | (with_reducible refine Below.trans ?_ (hb.mono ?h); case h => first | omega | (simp; done) | (simp; omega)) | (with_reducible refine Below.trans ?_ (hb0.mono ?h); case h => first | omega | (simp; done) | (simp; omega))))⟩
theorem bits_t (kd n h l : Int) (p : ByteArray) (w : World) : Calls Try.prog 65 #[.agg #[.int .i64 kd, .int .i64 n, .int .u64 h, .int .u64 l, .string p]] w fun e w' => e = .returned (.agg #[.int .u64 h, .int .u64 l]) ∧ Below w.heap.size w w' := by
  go_enter Try.func65, Try.ntmps65
  go_wp2
  refine bodyPost_ret (v := .agg #[.int .u64 h, .int .u64 l]) (by simp [results, Try.results65, go_sem]) rfl ⟨rfl, (by repeat (first | exact Below.refl _ _ | assumption | (with_reducible refine Below.setCell ?_ ?h _; case h => first | omega | (simp; done) | (simp; omega)) | (with_reducible refine Below.alloc ?_ ?h _; case h => first | omega | (simp; done) | (simp; omega)) | (with_reducible refine Below.drew ?_) | (with_reducible refine Below.trans ?_ (hb4.mono ?h); case h => first | omega | (simp; done) | (simp; omega)) | (with_reducible refine Below.trans ?_ (hb3.mono ?h); case h => first | omega | (simp; done) | (simp; omega)) | (with_reducible refine Below.trans ?_ (hb2.mono ?h); case h => first | omega | (simp; done) | (simp; omega)) | (with_reducible refine Below.trans ?_ (hb.mono ?h); case h => first | omega | (simp; done) | (simp; omega)) | (with_reducible refine Below.trans ?_ (hb0.mono ?h); case h => first | omega | (simp; done) | (simp; omega))))⟩
theorem ofPath_t (p : List UInt8) (hp : p.length ≤ 140737488355328) (w : World) : Calls Try.prog 52 #[.string ⟨p.toArray⟩] w fun e w' => e = .returned (kv (pathK p)) ∧ Below w.heap.size w w' := by
  have hl := fun w1 => len_t p hp w1
  unfold kv pathK
  dsimp only
  generalize (labsL p).length = n at *
  go_enter Try.func52, Try.ntmps52
  go_wp2_with fail
  refine (hl _).mono ?_
  rintro e w1 ⟨rfl, hb⟩
  clear hl
  have R := (Row.new w #[.int .i64 0, .int .i64 0, .int .u64 0, .int .u64 0, .string ⟨#[]⟩] 24).later hb
  have hb1 : Below w.heap.size w w1 := below_step (by repeat (first | exact Below.refl _ _ | assumption | (with_reducible refine Below.setCell ?_ ?h _; case h => first | omega | (simp; done) | (simp; omega)) | (with_reducible refine Below.alloc ?_ ?h _; case h => first | omega | (simp; done) | (simp; omega)) | (with_reducible refine Below.drew ?_) | (with_reducible refine Below.trans ?_ (hb4.mono ?h); case h => first | omega | (simp; done) | (simp; omega)) | (with_reducible refine Below.trans ?_ (hb3.mono ?h); case h => first | omega | (simp; done) | (simp; omega)) | (with_reducible refine Below.trans ?_ (hb2.mono ?h); case h => first | omega | (simp; done) | (simp; omega)) | (with_reducible refine Below.trans ?_ (hb.mono ?h); case h => first | omega | (simp; done) | (simp; omega)) | (with_reducible refine Below.trans ?_ (hb0.mono ?h); case h => first | omega | (simp; done) | (simp; omega)))) hb
  have c0 := ((R).cell 0).trans (show _ = some (Value.int .i64 0) from rfl)
  have cf0 := (R).frozen 0
  have c1 := ((R).cell 1).trans (show _ = some (Value.int .i64 0) from rfl)
  have cf1 := (R).frozen 1
  have c2 := ((R).cell 2).trans (show _ = some (Value.int .u64 0) from rfl)
  have cf2 := (R).frozen 2
  have c3 := ((R).cell 3).trans (show _ = some (Value.int .u64 0) from rfl)
  have cf3 := (R).frozen 3
  have c4 := ((R).cell 4).trans (show _ = some (Value.string ⟨#[]⟩) from rfl)
  have cf4 := (R).frozen 4
  clear R hb
  go_wp2
  refine bodyPost_ret (v := .agg #[.int .i64 3, .int .i64 n, .int .u64 0, .int .u64 0, .string ⟨p.toArray⟩]) (by simp [results, Try.results52, go_sem, c0, c1, c2, c3, c4]) rfl ⟨rfl, bset5 hb1 (Nat.le_refl _) _ _ _ _ _⟩
end Go.Proofs.Ytekoicbjpoeijaa
