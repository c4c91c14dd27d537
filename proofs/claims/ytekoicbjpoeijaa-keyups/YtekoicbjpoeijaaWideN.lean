/- Of, Left, Right, Cmp and Add of package wide. No conditions beyond the words' ranges. -/
import Derived.Test.YtekoicbjpoeijaaF0
import Derived.Test.YtekoicbjpoeijaaNum2
namespace Go.Proofs.Ytekoicbjpoeijaa
set_option linter.unusedVariables false
set_option linter.unusedSimpArgs false
open Go.RowKit
theorem bcell {W w1 : World} (hb : Below W.heap.size W w1) : (∀ b o, b < W.heap.size → w1.cell? ⟨b, o, none⟩ = W.cell? ⟨b, o, none⟩) ∧ (∀ b o, b < W.heap.size → w1.frozen? ⟨b, o, none⟩ = W.frozen? ⟨b, o, none⟩) :=
  ⟨fun b o h => hb.cell (p := ⟨b, o, none⟩) h, fun b o h => hb.frozen (p := ⟨b, o, none⟩) h⟩

set_option maxHeartbeats 400000 in
theorem of_any (n : Int) (w : World) :
    Calls Try.prog 54 #[.int .u64 n] w fun e w' => e = .returned (.agg #[.int .u64 0, .int .u64 n]) ∧ Below w.heap.size w w' := by
  go_enter Try.func54, Try.ntmps54
  go_wp2
  exact bodyPost_ret (v := .agg #[.int .u64 0, .int .u64 n]) (by simp [results, Try.results54, go_sem]) rfl ⟨rfl, (by repeat (first | exact Below.refl _ _ | assumption | (with_reducible refine Below.setCell ?_ ?h _; case h => first | omega | (simp; done) | (simp; omega)) | (with_reducible refine Below.alloc ?_ ?h _; case h => first | omega | (simp; done) | (simp; omega)) | (with_reducible refine Below.drew ?_) | (with_reducible refine Below.trans ?_ (hb4.mono ?h); case h => first | omega | (simp; done) | (simp; omega)) | (with_reducible refine Below.trans ?_ (hb3.mono ?h); case h => first | omega | (simp; done) | (simp; omega)) | (with_reducible refine Below.trans ?_ (hb2.mono ?h); case h => first | omega | (simp; done) | (simp; omega)) | (with_reducible refine Below.trans ?_ (hb.mono ?h); case h => first | omega | (simp; done) | (simp; omega)) | (with_reducible refine Below.trans ?_ (hb0.mono ?h); case h => first | omega | (simp; done) | (simp; omega))))⟩

set_option maxHeartbeats 400000 in
theorem left_any (ah al n : Int) (h1 : Word ah) (h2 : Word al) (w : World) :
    Calls Try.prog 58 #[.agg #[.int .u64 ah, .int .u64 al], .int .i64 n] w fun e w' =>
      e = .returned (.agg #[.int .u64 (hi (wv ah al * 2 ^ n.toNat)), .int .u64 (lo (wv ah al * 2 ^ n.toNat))]) ∧ Below w.heap.size w w' := by
  by_cases c1 : n < 1
  · have e0 : n.toNat = 0 := by omega
    rw [e0, Int.pow_zero, Int.mul_one, hi_wv h1 h2, lo_wv h2]; clear e0 h1 h2
    go_enter Try.func58, Try.ntmps58
    go_wp2
    exact bodyPost_ret (v := .agg #[.int .u64 ah, .int .u64 al]) (by simp [results, Try.results58, go_sem]) rfl ⟨rfl, (by repeat (first | exact Below.refl _ _ | assumption | (with_reducible refine Below.setCell ?_ ?h _; case h => first | omega | (simp; done) | (simp; omega)) | (with_reducible refine Below.alloc ?_ ?h _; case h => first | omega | (simp; done) | (simp; omega)) | (with_reducible refine Below.drew ?_) | (with_reducible refine Below.trans ?_ (hb4.mono ?h); case h => first | omega | (simp; done) | (simp; omega)) | (with_reducible refine Below.trans ?_ (hb3.mono ?h); case h => first | omega | (simp; done) | (simp; omega)) | (with_reducible refine Below.trans ?_ (hb2.mono ?h); case h => first | omega | (simp; done) | (simp; omega)) | (with_reducible refine Below.trans ?_ (hb.mono ?h); case h => first | omega | (simp; done) | (simp; omega)) | (with_reducible refine Below.trans ?_ (hb0.mono ?h); case h => first | omega | (simp; done) | (simp; omega))))⟩
  by_cases c2 : 128 ≤ n
  · obtain ⟨P1, P2⟩ := shl_out (wv ah al) n c2
    rw [P1, P2]; clear P1 P2 h1 h2
    go_enter Try.func58, Try.ntmps58
    go_wp2
    exact bodyPost_ret (v := .agg #[.int .u64 0, .int .u64 0]) (by simp [results, Try.results58, go_sem]) rfl ⟨rfl, (by repeat (first | exact Below.refl _ _ | assumption | (with_reducible refine Below.setCell ?_ ?h _; case h => first | omega | (simp; done) | (simp; omega)) | (with_reducible refine Below.alloc ?_ ?h _; case h => first | omega | (simp; done) | (simp; omega)) | (with_reducible refine Below.drew ?_) | (with_reducible refine Below.trans ?_ (hb4.mono ?h); case h => first | omega | (simp; done) | (simp; omega)) | (with_reducible refine Below.trans ?_ (hb3.mono ?h); case h => first | omega | (simp; done) | (simp; omega)) | (with_reducible refine Below.trans ?_ (hb2.mono ?h); case h => first | omega | (simp; done) | (simp; omega)) | (with_reducible refine Below.trans ?_ (hb.mono ?h); case h => first | omega | (simp; done) | (simp; omega)) | (with_reducible refine Below.trans ?_ (hb0.mono ?h); case h => first | omega | (simp; done) | (simp; omega))))⟩
  by_cases c3 : 64 ≤ n
  · obtain ⟨P1, P2⟩ := shl_far ah al n h1 h2 c3
    rw [P1, P2]; clear P1 P2
    obtain ⟨b1, b2⟩ := h2; clear h1
    go_enter Try.func58, Try.ntmps58
    go_wp2
    exact bodyPost_ret (v := .agg #[.int .u64 (IntKind.u64.wrap (al * 2 ^ (n - 64).toNat)), .int .u64 0]) (by simp [results, Try.results58, go_sem]) rfl ⟨rfl, (by repeat (first | exact Below.refl _ _ | assumption | (with_reducible refine Below.setCell ?_ ?h _; case h => first | omega | (simp; done) | (simp; omega)) | (with_reducible refine Below.alloc ?_ ?h _; case h => first | omega | (simp; done) | (simp; omega)) | (with_reducible refine Below.drew ?_) | (with_reducible refine Below.trans ?_ (hb4.mono ?h); case h => first | omega | (simp; done) | (simp; omega)) | (with_reducible refine Below.trans ?_ (hb3.mono ?h); case h => first | omega | (simp; done) | (simp; omega)) | (with_reducible refine Below.trans ?_ (hb2.mono ?h); case h => first | omega | (simp; done) | (simp; omega)) | (with_reducible refine Below.trans ?_ (hb.mono ?h); case h => first | omega | (simp; done) | (simp; omega)) | (with_reducible refine Below.trans ?_ (hb0.mono ?h); case h => first | omega | (simp; done) | (simp; omega))))⟩
  obtain ⟨P1, P2⟩ := shl_pure ah al n h1 h2 (by omega) (by omega)
  rw [P1, P2]; clear P1 P2
  obtain ⟨a1, a2⟩ := h1; obtain ⟨b1, b2⟩ := h2
  go_enter Try.func58, Try.ntmps58
  go_wp2
  go_region
  all_goals go_wp2
  all_goals exact bodyPost_ret (v := .agg #[.int .u64 (bits .or .u64 (IntKind.u64.wrap (ah * 2 ^ n.toNat)) (al / 2 ^ (64 - n).toNat)), .int .u64 (IntKind.u64.wrap (al * 2 ^ n.toNat))]) (by simp [results, Try.results58, go_sem]) rfl ⟨rfl, (by repeat (first | exact Below.refl _ _ | assumption | (with_reducible refine Below.setCell ?_ ?h _; case h => first | omega | (simp; done) | (simp; omega)) | (with_reducible refine Below.alloc ?_ ?h _; case h => first | omega | (simp; done) | (simp; omega)) | (with_reducible refine Below.drew ?_) | (with_reducible refine Below.trans ?_ (hb4.mono ?h); case h => first | omega | (simp; done) | (simp; omega)) | (with_reducible refine Below.trans ?_ (hb3.mono ?h); case h => first | omega | (simp; done) | (simp; omega)) | (with_reducible refine Below.trans ?_ (hb2.mono ?h); case h => first | omega | (simp; done) | (simp; omega)) | (with_reducible refine Below.trans ?_ (hb.mono ?h); case h => first | omega | (simp; done) | (simp; omega)) | (with_reducible refine Below.trans ?_ (hb0.mono ?h); case h => first | omega | (simp; done) | (simp; omega))))⟩

set_option maxHeartbeats 400000 in
theorem right_any (ah al n : Int) (h1 : Word ah) (h2 : Word al) (w : World) :
    Calls Try.prog 96 #[.agg #[.int .u64 ah, .int .u64 al], .int .i64 n] w fun e w' =>
      e = .returned (.agg #[.int .u64 (hi (wv ah al / 2 ^ n.toNat)), .int .u64 (lo (wv ah al / 2 ^ n.toNat))]) ∧ Below w.heap.size w w' := by
  by_cases c1 : n < 1
  · have e0 : n.toNat = 0 := by omega
    rw [e0, Int.pow_zero, Int.ediv_one, hi_wv h1 h2, lo_wv h2]; clear e0 h1 h2
    go_enter Try.func96, Try.ntmps96
    go_wp2
    exact bodyPost_ret (v := .agg #[.int .u64 ah, .int .u64 al]) (by simp [results, Try.results96, go_sem]) rfl ⟨rfl, (by repeat (first | exact Below.refl _ _ | assumption | (with_reducible refine Below.setCell ?_ ?h _; case h => first | omega | (simp; done) | (simp; omega)) | (with_reducible refine Below.alloc ?_ ?h _; case h => first | omega | (simp; done) | (simp; omega)) | (with_reducible refine Below.drew ?_) | (with_reducible refine Below.trans ?_ (hb4.mono ?h); case h => first | omega | (simp; done) | (simp; omega)) | (with_reducible refine Below.trans ?_ (hb3.mono ?h); case h => first | omega | (simp; done) | (simp; omega)) | (with_reducible refine Below.trans ?_ (hb2.mono ?h); case h => first | omega | (simp; done) | (simp; omega)) | (with_reducible refine Below.trans ?_ (hb.mono ?h); case h => first | omega | (simp; done) | (simp; omega)) | (with_reducible refine Below.trans ?_ (hb0.mono ?h); case h => first | omega | (simp; done) | (simp; omega))))⟩
  by_cases c2 : 128 ≤ n
  · have P := shr_out (wv ah al) n (wv_nonneg h1 h2) (wv_lt h1 h2) c2
    rw [P, show hi 0 = 0 from rfl, show lo 0 = 0 from rfl]; clear P h1 h2
    go_enter Try.func96, Try.ntmps96
    go_wp2
    exact bodyPost_ret (v := .agg #[.int .u64 0, .int .u64 0]) (by simp [results, Try.results96, go_sem]) rfl ⟨rfl, (by repeat (first | exact Below.refl _ _ | assumption | (with_reducible refine Below.setCell ?_ ?h _; case h => first | omega | (simp; done) | (simp; omega)) | (with_reducible refine Below.alloc ?_ ?h _; case h => first | omega | (simp; done) | (simp; omega)) | (with_reducible refine Below.drew ?_) | (with_reducible refine Below.trans ?_ (hb4.mono ?h); case h => first | omega | (simp; done) | (simp; omega)) | (with_reducible refine Below.trans ?_ (hb3.mono ?h); case h => first | omega | (simp; done) | (simp; omega)) | (with_reducible refine Below.trans ?_ (hb2.mono ?h); case h => first | omega | (simp; done) | (simp; omega)) | (with_reducible refine Below.trans ?_ (hb.mono ?h); case h => first | omega | (simp; done) | (simp; omega)) | (with_reducible refine Below.trans ?_ (hb0.mono ?h); case h => first | omega | (simp; done) | (simp; omega))))⟩
  by_cases c3 : 64 ≤ n
  · obtain ⟨P1, P2⟩ := shr_far ah al n h1 h2 c3
    rw [P1, P2]; clear P1 P2
    obtain ⟨a1, a2⟩ := h1; clear h2
    go_enter Try.func96, Try.ntmps96
    go_wp2
    exact bodyPost_ret (v := .agg #[.int .u64 0, .int .u64 (ah / 2 ^ (n - 64).toNat)]) (by simp [results, Try.results96, go_sem]) rfl ⟨rfl, (by repeat (first | exact Below.refl _ _ | assumption | (with_reducible refine Below.setCell ?_ ?h _; case h => first | omega | (simp; done) | (simp; omega)) | (with_reducible refine Below.alloc ?_ ?h _; case h => first | omega | (simp; done) | (simp; omega)) | (with_reducible refine Below.drew ?_) | (with_reducible refine Below.trans ?_ (hb4.mono ?h); case h => first | omega | (simp; done) | (simp; omega)) | (with_reducible refine Below.trans ?_ (hb3.mono ?h); case h => first | omega | (simp; done) | (simp; omega)) | (with_reducible refine Below.trans ?_ (hb2.mono ?h); case h => first | omega | (simp; done) | (simp; omega)) | (with_reducible refine Below.trans ?_ (hb.mono ?h); case h => first | omega | (simp; done) | (simp; omega)) | (with_reducible refine Below.trans ?_ (hb0.mono ?h); case h => first | omega | (simp; done) | (simp; omega))))⟩
  obtain ⟨P1, P2⟩ := shr_pure ah al n h1 h2 (by omega) (by omega)
  rw [P1, P2]; clear P1 P2
  obtain ⟨a1, a2⟩ := h1; obtain ⟨b1, b2⟩ := h2
  go_enter Try.func96, Try.ntmps96
  go_wp2
  go_region
  all_goals go_wp2
  all_goals exact bodyPost_ret (v := .agg #[.int .u64 (ah / 2 ^ n.toNat), .int .u64 (bits .or .u64 (al / 2 ^ n.toNat) (IntKind.u64.wrap (ah * 2 ^ (64 - n).toNat)))]) (by simp [results, Try.results96, go_sem]) rfl ⟨rfl, (by repeat (first | exact Below.refl _ _ | assumption | (with_reducible refine Below.setCell ?_ ?h _; case h => first | omega | (simp; done) | (simp; omega)) | (with_reducible refine Below.alloc ?_ ?h _; case h => first | omega | (simp; done) | (simp; omega)) | (with_reducible refine Below.drew ?_) | (with_reducible refine Below.trans ?_ (hb4.mono ?h); case h => first | omega | (simp; done) | (simp; omega)) | (with_reducible refine Below.trans ?_ (hb3.mono ?h); case h => first | omega | (simp; done) | (simp; omega)) | (with_reducible refine Below.trans ?_ (hb2.mono ?h); case h => first | omega | (simp; done) | (simp; omega)) | (with_reducible refine Below.trans ?_ (hb.mono ?h); case h => first | omega | (simp; done) | (simp; omega)) | (with_reducible refine Below.trans ?_ (hb0.mono ?h); case h => first | omega | (simp; done) | (simp; omega))))⟩
theorem hi_mulmod (A k : Int) : hi (A % MM * k) = hi (A * k) := hi_congr (by rw [Int.mul_emod, Int.emod_emod, ← Int.mul_emod])
theorem lo_mulmod (A k : Int) : lo (A % MM * k) = lo (A * k) := lo_congr (by rw [Int.mul_emod, Int.emod_emod, ← Int.mul_emod])
theorem left_h (A n : Int) (w : World) :
    Calls Try.prog 58 #[.agg #[.int .u64 (hi A), .int .u64 (lo A)], .int .i64 n] w fun e w' =>
      e = .returned (.agg #[.int .u64 (hi (A * 2 ^ n.toNat)), .int .u64 (lo (A * 2 ^ n.toNat))]) ∧ Below w.heap.size w w' := by
  have h := left_any (hi A) (lo A) n (word_hi _) (word_lo _) w
  rw [wv_hi_lo, hi_mulmod, lo_mulmod] at h
  exact h
theorem right_h (A n : Int) (w : World) :
    Calls Try.prog 96 #[.agg #[.int .u64 (hi A), .int .u64 (lo A)], .int .i64 n] w fun e w' =>
      e = .returned (.agg #[.int .u64 (hi (A % MM / 2 ^ n.toNat)), .int .u64 (lo (A % MM / 2 ^ n.toNat))]) ∧ Below w.heap.size w w' := by
  have h := right_any (hi A) (lo A) n (word_hi _) (word_lo _) w
  rw [wv_hi_lo] at h
  exact h
theorem cmp_pure (ah al bh bl : Int) (h1 : Word ah) (h2 : Word al) (h3 : Word bh) (h4 : Word bl) :
    cmpI (wv ah al) (wv bh bl) = if ah = bh then (if al = bl then 0 else if al < bl then -1 else 1) else if ah < bh then -1 else 1 := by
  obtain ⟨a1, a2⟩ := h1; obtain ⟨b1, b2⟩ := h2; obtain ⟨c1, c2⟩ := h3; obtain ⟨d1, d2⟩ := h4
  unfold cmpI wv
  repeat' split
  all_goals omega

set_option maxHeartbeats 400000 in
theorem cmp_any (ah al bh bl : Int) (h1 : Word ah) (h2 : Word al) (h3 : Word bh) (h4 : Word bl) (w : World) :
    Calls Try.prog 64 #[.agg #[.int .u64 ah, .int .u64 al], .agg #[.int .u64 bh, .int .u64 bl]] w fun e w' =>
      e = .returned (.int .i64 (cmpI (wv ah al) (wv bh bl))) ∧ Below w.heap.size w w' := by
  have H := Lib.hid (cmp_pure ah al bh bl h1 h2 h3 h4)
  obtain ⟨a1, a2⟩ := h1; obtain ⟨b1, b2⟩ := h2; obtain ⟨c1, c2⟩ := h3; obtain ⟨d1, d2⟩ := h4
  go_enter Try.func64, Try.ntmps64
  go_wp2
  all_goals go_ret
  all_goals refine ⟨?_, (by repeat (first | exact Below.refl _ _ | assumption | (with_reducible refine Below.setCell ?_ ?h _; case h => first | omega | (simp; done) | (simp; omega)) | (with_reducible refine Below.alloc ?_ ?h _; case h => first | omega | (simp; done) | (simp; omega)) | (with_reducible refine Below.drew ?_) | (with_reducible refine Below.trans ?_ (hb4.mono ?h); case h => first | omega | (simp; done) | (simp; omega)) | (with_reducible refine Below.trans ?_ (hb3.mono ?h); case h => first | omega | (simp; done) | (simp; omega)) | (with_reducible refine Below.trans ?_ (hb2.mono ?h); case h => first | omega | (simp; done) | (simp; omega)) | (with_reducible refine Below.trans ?_ (hb.mono ?h); case h => first | omega | (simp; done) | (simp; omega)) | (with_reducible refine Below.trans ?_ (hb0.mono ?h); case h => first | omega | (simp; done) | (simp; omega))))⟩
  all_goals rw [H.out]
  all_goals (refine ret_int ?_; repeat' split)
  all_goals first | rfl | omega



def addB (a b : Int) : Bool := decide (MM ≤ a + b)
def subB (a b : Int) : Bool := decide (a < b)

theorem add_pure0 (ah al bh bl : Int) (h1 : Word ah) (h2 : Word al) (h3 : Word bh) (h4 : Word bl) (hc : al + bl < 18446744073709551616) :
    hi (wv ah al + wv bh bl) = IntKind.u64.wrap (ah + bh) ∧ lo (wv ah al + wv bh bl) = al + bl ∧
    decide (cmpI (wv (IntKind.u64.wrap (ah + bh)) (al + bl)) (wv ah al) < 0) = addB (wv ah al) (wv bh bl) := by
  obtain ⟨a1, a2⟩ := h1; obtain ⟨b1, b2⟩ := h2; obtain ⟨c1, c2⟩ := h3; obtain ⟨d1, d2⟩ := h4
  rw [cmpI_neg, IntKind.wrap_u64]; unfold hi lo wv addB MM
  refine ⟨by omega, by omega, ?_⟩
  rw [decide_eq_decide]; omega

theorem add_pure1 (ah al bh bl : Int) (h1 : Word ah) (h2 : Word al) (h3 : Word bh) (h4 : Word bl) (hc : ¬ al + bl < 18446744073709551616) :
    hi (wv ah al + wv bh bl) = IntKind.u64.wrap (IntKind.u64.wrap (ah + bh) + 1) ∧ lo (wv ah al + wv bh bl) = IntKind.u64.wrap (al + bl) ∧
    decide (cmpI (wv (IntKind.u64.wrap (IntKind.u64.wrap (ah + bh) + 1)) (IntKind.u64.wrap (al + bl))) (wv ah al) < 0) = addB (wv ah al) (wv bh bl) := by
  obtain ⟨a1, a2⟩ := h1; obtain ⟨b1, b2⟩ := h2; obtain ⟨c1, c2⟩ := h3; obtain ⟨d1, d2⟩ := h4
  rw [cmpI_neg]; simp only [IntKind.wrap_u64]; unfold hi lo wv addB MM
  refine ⟨by omega, by omega, ?_⟩
  rw [decide_eq_decide]; omega

theorem hi_addmod (A B : Int) : hi (A % MM + B % MM) = hi (A + B) := hi_congr (by simp)
theorem lo_addmod (A B : Int) : lo (A % MM + B % MM) = lo (A + B) := lo_congr (by simp)
theorem cmp_h (A B : Int) (w : World) :
    Calls Try.prog 64 #[.agg #[.int .u64 (hi A), .int .u64 (lo A)], .agg #[.int .u64 (hi B), .int .u64 (lo B)]] w fun e w' =>
      e = .returned (.int .i64 (cmpI (A % MM) (B % MM))) ∧ Below w.heap.size w w' := by
  have h := cmp_any (hi A) (lo A) (hi B) (lo B) (word_hi _) (word_lo _) (word_hi _) (word_lo _) w
  rw [wv_hi_lo, wv_hi_lo] at h
  exact h
end Go.Proofs.Ytekoicbjpoeijaa
