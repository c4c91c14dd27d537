/- Of, Left, Right, Cmp and Add of package wide. No conditions beyond the words' ranges. -/
import Derived.Test.YtbhaoafngneclaaDoorF0
import Derived.Test.YtbhaoafngneclaaDoorNum2
namespace Go.Proofs.YtbhaoafngneclaaDoor
set_option linter.unusedVariables false
set_option linter.unusedSimpArgs false
open Go.RowKit
theorem bcell {W w1 : World} (hb : Below W.heap.size W w1) : (∀ b o, b < W.heap.size → w1.cell? ⟨b, o, none⟩ = W.cell? ⟨b, o, none⟩) ∧ (∀ b o, b < W.heap.size → w1.frozen? ⟨b, o, none⟩ = W.frozen? ⟨b, o, none⟩) :=
  ⟨fun b o h => hb.cell (p := ⟨b, o, none⟩) h, fun b o h => hb.frozen (p := ⟨b, o, none⟩) h⟩

set_option maxHeartbeats 400000 in
theorem of_any (n : Int) (w : World) :
    Calls Tryd.prog 22 #[.int .u64 n] w fun e w' => e = .returned (.agg #[.int .u64 0, .int .u64 n]) ∧ Below w.heap.size w w' := by
  go_enter Tryd.func22, Tryd.ntmps22
  go_wp2
  exact bodyPost_ret (v := .agg #[.int .u64 0, .int .u64 n]) (by simp [results, Tryd.results22, go_sem]) rfl ⟨rfl, (by repeat (first | exact Below.refl _ _ | assumption | (with_reducible refine Below.setCell ?_ ?h _; case h => first | omega | (simp; done) | (simp; omega)) | (with_reducible refine Below.alloc ?_ ?h _; case h => first | omega | (simp; done) | (simp; omega)) | (with_reducible refine Below.drew ?_) | (with_reducible refine Below.trans ?_ (hb4.mono ?h); case h => first | omega | (simp; done) | (simp; omega)) | (with_reducible refine Below.trans ?_ (hb3.mono ?h); case h => first | omega | (simp; done) | (simp; omega)) | (with_reducible refine Below.trans ?_ (hb2.mono ?h); case h => first | omega | (simp; done) | (simp; omega)) | (with_reducible refine Below.trans ?_ (hb.mono ?h); case h => first | omega | (simp; done) | (simp; omega)) | (with_reducible refine Below.trans ?_ (hb0.mono ?h); case h => first | omega | (simp; done) | (simp; omega))))⟩

set_option maxHeartbeats 400000 in
theorem left_any (ah al n : Int) (h1 : Word ah) (h2 : Word al) (w : World) :
    Calls Tryd.prog 33 #[.agg #[.int .u64 ah, .int .u64 al], .int .i64 n] w fun e w' =>
      e = .returned (.agg #[.int .u64 (hi (wv ah al * 2 ^ n.toNat)), .int .u64 (lo (wv ah al * 2 ^ n.toNat))]) ∧ Below w.heap.size w w' := by
  by_cases c1 : n < 1
  · have e0 : n.toNat = 0 := by omega
    rw [e0, Int.pow_zero, Int.mul_one, hi_wv h1 h2, lo_wv h2]; clear e0 h1 h2
    go_enter Tryd.func33, Tryd.ntmps33
    go_wp2
    exact bodyPost_ret (v := .agg #[.int .u64 ah, .int .u64 al]) (by simp [results, Tryd.results33, go_sem]) rfl ⟨rfl, (by repeat (first | exact Below.refl _ _ | assumption | (with_reducible refine Below.setCell ?_ ?h _; case h => first | omega | (simp; done) | (simp; omega)) | (with_reducible refine Below.alloc ?_ ?h _; case h => first | omega | (simp; done) | (simp; omega)) | (with_reducible refine Below.drew ?_) | (with_reducible refine Below.trans ?_ (hb4.mono ?h); case h => first | omega | (simp; done) | (simp; omega)) | (with_reducible refine Below.trans ?_ (hb3.mono ?h); case h => first | omega | (simp; done) | (simp; omega)) | (with_reducible refine Below.trans ?_ (hb2.mono ?h); case h => first | omega | (simp; done) | (simp; omega)) | (with_reducible refine Below.trans ?_ (hb.mono ?h); case h => first | omega | (simp; done) | (simp; omega)) | (with_reducible refine Below.trans ?_ (hb0.mono ?h); case h => first | omega | (simp; done) | (simp; omega))))⟩
  by_cases c2 : 128 ≤ n
  · obtain ⟨P1, P2⟩ := shl_out (wv ah al) n c2
    rw [P1, P2]; clear P1 P2 h1 h2
    go_enter Tryd.func33, Tryd.ntmps33
    go_wp2
    exact bodyPost_ret (v := .agg #[.int .u64 0, .int .u64 0]) (by simp [results, Tryd.results33, go_sem]) rfl ⟨rfl, (by repeat (first | exact Below.refl _ _ | assumption | (with_reducible refine Below.setCell ?_ ?h _; case h => first | omega | (simp; done) | (simp; omega)) | (with_reducible refine Below.alloc ?_ ?h _; case h => first | omega | (simp; done) | (simp; omega)) | (with_reducible refine Below.drew ?_) | (with_reducible refine Below.trans ?_ (hb4.mono ?h); case h => first | omega | (simp; done) | (simp; omega)) | (with_reducible refine Below.trans ?_ (hb3.mono ?h); case h => first | omega | (simp; done) | (simp; omega)) | (with_reducible refine Below.trans ?_ (hb2.mono ?h); case h => first | omega | (simp; done) | (simp; omega)) | (with_reducible refine Below.trans ?_ (hb.mono ?h); case h => first | omega | (simp; done) | (simp; omega)) | (with_reducible refine Below.trans ?_ (hb0.mono ?h); case h => first | omega | (simp; done) | (simp; omega))))⟩
  by_cases c3 : 64 ≤ n
  · obtain ⟨P1, P2⟩ := shl_far ah al n h1 h2 c3
    rw [P1, P2]; clear P1 P2
    obtain ⟨b1, b2⟩ := h2; clear h1
    go_enter Tryd.func33, Tryd.ntmps33
    go_wp2
    exact bodyPost_ret (v := .agg #[.int .u64 (IntKind.u64.wrap (al * 2 ^ (n - 64).toNat)), .int .u64 0]) (by simp [results, Tryd.results33, go_sem]) rfl ⟨rfl, (by repeat (first | exact Below.refl _ _ | assumption | (with_reducible refine Below.setCell ?_ ?h _; case h => first | omega | (simp; done) | (simp; omega)) | (with_reducible refine Below.alloc ?_ ?h _; case h => first | omega | (simp; done) | (simp; omega)) | (with_reducible refine Below.drew ?_) | (with_reducible refine Below.trans ?_ (hb4.mono ?h); case h => first | omega | (simp; done) | (simp; omega)) | (with_reducible refine Below.trans ?_ (hb3.mono ?h); case h => first | omega | (simp; done) | (simp; omega)) | (with_reducible refine Below.trans ?_ (hb2.mono ?h); case h => first | omega | (simp; done) | (simp; omega)) | (with_reducible refine Below.trans ?_ (hb.mono ?h); case h => first | omega | (simp; done) | (simp; omega)) | (with_reducible refine Below.trans ?_ (hb0.mono ?h); case h => first | omega | (simp; done) | (simp; omega))))⟩
  obtain ⟨P1, P2⟩ := shl_pure ah al n h1 h2 (by omega) (by omega)
  rw [P1, P2]; clear P1 P2
  obtain ⟨a1, a2⟩ := h1; obtain ⟨b1, b2⟩ := h2
  go_enter Tryd.func33, Tryd.ntmps33
  go_wp2
  go_region
  all_goals go_wp2
  all_goals exact bodyPost_ret (v := .agg #[.int .u64 (bits .or .u64 (IntKind.u64.wrap (ah * 2 ^ n.toNat)) (al / 2 ^ (64 - n).toNat)), .int .u64 (IntKind.u64.wrap (al * 2 ^ n.toNat))]) (by simp [results, Tryd.results33, go_sem]) rfl ⟨rfl, (by repeat (first | exact Below.refl _ _ | assumption | (with_reducible refine Below.setCell ?_ ?h _; case h => first | omega | (simp; done) | (simp; omega)) | (with_reducible refine Below.alloc ?_ ?h _; case h => first | omega | (simp; done) | (simp; omega)) | (with_reducible refine Below.drew ?_) | (with_reducible refine Below.trans ?_ (hb4.mono ?h); case h => first | omega | (simp; done) | (simp; omega)) | (with_reducible refine Below.trans ?_ (hb3.mono ?h); case h => first | omega | (simp; done) | (simp; omega)) | (with_reducible refine Below.trans ?_ (hb2.mono ?h); case h => first | omega | (simp; done) | (simp; omega)) | (with_reducible refine Below.trans ?_ (hb.mono ?h); case h => first | omega | (simp; done) | (simp; omega)) | (with_reducible refine Below.trans ?_ (hb0.mono ?h); case h => first | omega | (simp; done) | (simp; omega))))⟩

set_option maxHeartbeats 400000 in
theorem right_any (ah al n : Int) (h1 : Word ah) (h2 : Word al) (w : World) :
    Calls Tryd.prog 31 #[.agg #[.int .u64 ah, .int .u64 al], .int .i64 n] w fun e w' =>
      e = .returned (.agg #[.int .u64 (hi (wv ah al / 2 ^ n.toNat)), .int .u64 (lo (wv ah al / 2 ^ n.toNat))]) ∧ Below w.heap.size w w' := by
  by_cases c1 : n < 1
  · have e0 : n.toNat = 0 := by omega
    rw [e0, Int.pow_zero, Int.ediv_one, hi_wv h1 h2, lo_wv h2]; clear e0 h1 h2
    go_enter Tryd.func31, Tryd.ntmps31
    go_wp2
    exact bodyPost_ret (v := .agg #[.int .u64 ah, .int .u64 al]) (by simp [results, Tryd.results31, go_sem]) rfl ⟨rfl, (by repeat (first | exact Below.refl _ _ | assumption | (with_reducible refine Below.setCell ?_ ?h _; case h => first | omega | (simp; done) | (simp; omega)) | (with_reducible refine Below.alloc ?_ ?h _; case h => first | omega | (simp; done) | (simp; omega)) | (with_reducible refine Below.drew ?_) | (with_reducible refine Below.trans ?_ (hb4.mono ?h); case h => first | omega | (simp; done) | (simp; omega)) | (with_reducible refine Below.trans ?_ (hb3.mono ?h); case h => first | omega | (simp; done) | (simp; omega)) | (with_reducible refine Below.trans ?_ (hb2.mono ?h); case h => first | omega | (simp; done) | (simp; omega)) | (with_reducible refine Below.trans ?_ (hb.mono ?h); case h => first | omega | (simp; done) | (simp; omega)) | (with_reducible refine Below.trans ?_ (hb0.mono ?h); case h => first | omega | (simp; done) | (simp; omega))))⟩
  by_cases c2 : 128 ≤ n
  · have P := shr_out (wv ah al) n (wv_nonneg h1 h2) (wv_lt h1 h2) c2
    rw [P, show hi 0 = 0 from rfl, show lo 0 = 0 from rfl]; clear P h1 h2
    go_enter Tryd.func31, Tryd.ntmps31
    go_wp2
    exact bodyPost_ret (v := .agg #[.int .u64 0, .int .u64 0]) (by simp [results, Tryd.results31, go_sem]) rfl ⟨rfl, (by repeat (first | exact Below.refl _ _ | assumption | (with_reducible refine Below.setCell ?_ ?h _; case h => first | omega | (simp; done) | (simp; omega)) | (with_reducible refine Below.alloc ?_ ?h _; case h => first | omega | (simp; done) | (simp; omega)) | (with_reducible refine Below.drew ?_) | (with_reducible refine Below.trans ?_ (hb4.mono ?h); case h => first | omega | (simp; done) | (simp; omega)) | (with_reducible refine Below.trans ?_ (hb3.mono ?h); case h => first | omega | (simp; done) | (simp; omega)) | (with_reducible refine Below.trans ?_ (hb2.mono ?h); case h => first | omega | (simp; done) | (simp; omega)) | (with_reducible refine Below.trans ?_ (hb.mono ?h); case h => first | omega | (simp; done) | (simp; omega)) | (with_reducible refine Below.trans ?_ (hb0.mono ?h); case h => first | omega | (simp; done) | (simp; omega))))⟩
  by_cases c3 : 64 ≤ n
  · obtain ⟨P1, P2⟩ := shr_far ah al n h1 h2 c3
    rw [P1, P2]; clear P1 P2
    obtain ⟨a1, a2⟩ := h1; clear h2
    go_enter Tryd.func31, Tryd.ntmps31
    go_wp2
    exact bodyPost_ret (v := .agg #[.int .u64 0, .int .u64 (ah / 2 ^ (n - 64).toNat)]) (by simp [results, Tryd.results31, go_sem]) rfl ⟨rfl, (by repeat (first | exact Below.refl _ _ | assumption | (with_reducible refine Below.setCell ?_ ?h _; case h => first | omega | (simp; done) | (simp; omega)) | (with_reducible refine Below.alloc ?_ ?h _; case h => first | omega | (simp; done) | (simp; omega)) | (with_reducible refine Below.drew ?_) | (with_reducible refine Below.trans ?_ (hb4.mono ?h); case h => first | omega | (simp; done) | (simp; omega)) | (with_reducible refine Below.trans ?_ (hb3.mono ?h); case h => first | omega | (simp; done) | (simp; omega)) | (with_reducible refine Below.trans ?_ (hb2.mono ?h); case h => first | omega | (simp; done) | (simp; omega)) | (with_reducible refine Below.trans ?_ (hb.mono ?h); case h => first | omega | (simp; done) | (simp; omega)) | (with_reducible refine Below.trans ?_ (hb0.mono ?h); case h => first | omega | (simp; done) | (simp; omega))))⟩
  obtain ⟨P1, P2⟩ := shr_pure ah al n h1 h2 (by omega) (by omega)
  rw [P1, P2]; clear P1 P2
  obtain ⟨a1, a2⟩ := h1; obtain ⟨b1, b2⟩ := h2
  go_enter Tryd.func31, Tryd.ntmps31
  go_wp2
  go_region
  all_goals go_wp2
  all_goals exact bodyPost_ret (v := .agg #[.int .u64 (ah / 2 ^ n.toNat), .int .u64 (bits .or .u64 (al / 2 ^ n.toNat) (IntKind.u64.wrap (ah * 2 ^ (64 - n).toNat)))]) (by simp [results, Tryd.results31, go_sem]) rfl ⟨rfl, (by repeat (first | exact Below.refl _ _ | assumption | (with_reducible refine Below.setCell ?_ ?h _; case h => first | omega | (simp; done) | (simp; omega)) | (with_reducible refine Below.alloc ?_ ?h _; case h => first | omega | (simp; done) | (simp; omega)) | (with_reducible refine Below.drew ?_) | (with_reducible refine Below.trans ?_ (hb4.mono ?h); case h => first | omega | (simp; done) | (simp; omega)) | (with_reducible refine Below.trans ?_ (hb3.mono ?h); case h => first | omega | (simp; done) | (simp; omega)) | (with_reducible refine Below.trans ?_ (hb2.mono ?h); case h => first | omega | (simp; done) | (simp; omega)) | (with_reducible refine Below.trans ?_ (hb.mono ?h); case h => first | omega | (simp; done) | (simp; omega)) | (with_reducible refine Below.trans ?_ (hb0.mono ?h); case h => first | omega | (simp; done) | (simp; omega))))⟩
theorem hi_mulmod (A k : Int) : hi (A % MM * k) = hi (A * k) := hi_congr (by rw [Int.mul_emod, Int.emod_emod, ← Int.mul_emod])
theorem lo_mulmod (A k : Int) : lo (A % MM * k) = lo (A * k) := lo_congr (by rw [Int.mul_emod, Int.emod_emod, ← Int.mul_emod])
theorem left_h (A n : Int) (w : World) :
    Calls Tryd.prog 33 #[.agg #[.int .u64 (hi A), .int .u64 (lo A)], .int .i64 n] w fun e w' =>
      e = .returned (.agg #[.int .u64 (hi (A * 2 ^ n.toNat)), .int .u64 (lo (A * 2 ^ n.toNat))]) ∧ Below w.heap.size w w' := by
  have h := left_any (hi A) (lo A) n (word_hi _) (word_lo _) w
  rw [wv_hi_lo, hi_mulmod, lo_mulmod] at h
  exact h
theorem right_h (A n : Int) (w : World) :
    Calls Tryd.prog 31 #[.agg #[.int .u64 (hi A), .int .u64 (lo A)], .int .i64 n] w fun e w' =>
      e = .returned (.agg #[.int .u64 (hi (A % MM / 2 ^ n.toNat)), .int .u64 (lo (A % MM / 2 ^ n.toNat))]) ∧ Below w.heap.size w w' := by
  have h := right_any (hi A) (lo A) n (word_hi _) (word_lo _) w
  rw [wv_hi_lo] at h
  exact h
theorem cmp_pure (ah al bh bl : Int) (h1 : Word ah) (h2 : Word al) (h3 : Word bh) (h4 : Word bl) :
    cmpI (wv ah al) (wv bh bl) = if ah = bh then (if al = bl then 0 else if al < bl then -1 else 1) else if ah < bh then -1 else 1 := by
  obtain ⟨a1, a2⟩ := h1; obtain ⟨b1, b2⟩ := h2; obtain ⟨c1, c2⟩ := h3; obtain ⟨d1, d2⟩ := h4
  unfold cmpI wv
  repeat' split
  all_goals omega

set_option maxHeartbeats 400000 in
theorem cmp_any (ah al bh bl : Int) (h1 : Word ah) (h2 : Word al) (h3 : Word bh) (h4 : Word bl) (w : World) :
    Calls Tryd.prog 17 #[.agg #[.int .u64 ah, .int .u64 al], .agg #[.int .u64 bh, .int .u64 bl]] w fun e w' =>
      e = .returned (.int .i64 (cmpI (wv ah al) (wv bh bl))) ∧ Below w.heap.size w w' := by
  have H := Lib.hid (cmp_pure ah al bh bl h1 h2 h3 h4)
  obtain ⟨a1, a2⟩ := h1; obtain ⟨b1, b2⟩ := h2; obtain ⟨c1, c2⟩ := h3; obtain ⟨d1, d2⟩ := h4
  go_enter Tryd.func17, Tryd.ntmps17
  go_wp2
  all_goals go_ret
  all_goals refine ⟨?_, (by repeat (first | exact Below.refl _ _ | assumption | (with_reducible refine Below.setCell ?_ ?h _; case h => first | omega | (simp; done) | (simp; omega)) | (with_reducible refine Below.alloc ?_ ?h _; case h => first | omega | (simp; done) | (simp; omega)) | (with_reducible refine Below.drew ?_) | (with_reducible refine Below.trans ?_ (hb4.mono ?h); case h => first | omega | (simp; done) | (simp; omega)) | (with_reducible refine Below.trans ?_ (hb3.mono ?h); case h => first | omega | (simp; done) | (simp; omega)) | (with_reducible refine Below.trans ?_ (hb2.mono ?h); case h => first | omega | (simp; done) | (simp; omega)) | (with_reducible refine Below.trans ?_ (hb.mono ?h); case h => first | omega | (simp; done) | (simp; omega)) | (with_reducible refine Below.trans ?_ (hb0.mono ?h); case h => first | omega | (simp; done) | (simp; omega))))⟩
  all_goals rw [H.out]
  all_goals (refine ret_int ?_; repeat' split)
  all_goals first | rfl | omega



def addB (a b : Int) : Bool := decide (MM ≤ a + b)
def subB (a b : Int) : Bool := decide (a < b)

theorem add_pure0 (ah al bh bl : Int) (h1 : Word ah) (h2 : Word al) (h3 : Word bh) (h4 : Word bl) (hc : al + bl < 18446744073709551616) :
    hi (wv ah al + wv bh bl) = IntKind.u64.wrap (ah + bh) ∧ lo (wv ah al + wv bh bl) = al + bl ∧
    decide (cmpI (wv (IntKind.u64.wrap (ah + bh)) (al + bl)) (wv ah al) < 0) = addB (wv ah al) (wv bh bl) := by
  obtain ⟨a1, a2⟩ := h1; obtain ⟨b1, b2⟩ := h2; obtain ⟨c1, c2⟩ := h3; obtain ⟨d1, d2⟩ := h4
  rw [cmpI_neg, IntKind.wrap_u64]; unfold hi lo wv addB MM
  refine ⟨by omega, by omega, ?_⟩
  rw [decide_eq_decide]; omega

theorem add_pure1 (ah al bh bl : Int) (h1 : Word ah) (h2 : Word al) (h3 : Word bh) (h4 : Word bl) (hc : ¬ al + bl < 18446744073709551616) :
    hi (wv ah al + wv bh bl) = IntKind.u64.wrap (IntKind.u64.wrap (ah + bh) + 1) ∧ lo (wv ah al + wv bh bl) = IntKind.u64.wrap (al + bl) ∧
    decide (cmpI (wv (IntKind.u64.wrap (IntKind.u64.wrap (ah + bh) + 1)) (IntKind.u64.wrap (al + bl))) (wv ah al) < 0) = addB (wv ah al) (wv bh bl) := by
  obtain ⟨a1, a2⟩ := h1; obtain ⟨b1, b2⟩ := h2; obtain ⟨c1, c2⟩ := h3; obtain ⟨d1, d2⟩ := h4
  rw [cmpI_neg]; simp only [IntKind.wrap_u64]; unfold hi lo wv addB MM
  refine ⟨by omega, by omega, ?_⟩
  rw [decide_eq_decide]; omega

set_option maxHeartbeats 400000 in
theorem add_any (ah al bh bl : Int) (h1 : Word ah) (h2 : Word al) (h3 : Word bh) (h4 : Word bl) (w : World) :
    Calls Tryd.prog 32 #[.agg #[.int .u64 ah, .int .u64 al], .agg #[.int .u64 bh, .int .u64 bl]] w fun e w' =>
      e = .returned (.tuple #[.agg #[.int .u64 (hi (wv ah al + wv bh bl)), .int .u64 (lo (wv ah al + wv bh bl))], .bool (addB (wv ah al) (wv bh bl))]) ∧ Below w.heap.size w w' := by
  have h1' := h1; have h2' := h2; have h3' := h3; have h4' := h4
  have hw := word_wrap (ah + bh)
  have hw1 := word_wrap (IntKind.u64.wrap (ah + bh) + 1)
  have hw2 := word_wrap (al + bl)
  have hl : al + bl < 18446744073709551616 → Word (al + bl) := fun h => ⟨by have := h2.1; have := h4.1; omega, h⟩
  by_cases hc : al + bl < 18446744073709551616
  · have hl := hl hc
    obtain ⟨P1, P2, P3⟩ := add_pure0 ah al bh bl h1 h2 h3 h4 hc
    rw [P1, P2, ← P3]; clear P1 P2 P3
    obtain ⟨a1, a2⟩ := h1; obtain ⟨b1, b2⟩ := h2; obtain ⟨c1, c2⟩ := h3; obtain ⟨d1, d2⟩ := h4
    go_enter Tryd.func32, Tryd.ntmps32
    go_wp2
    go_region_held3 (fun w' => w'.cell? ⟨w.heap.size + 1 + 1 + 1, 0, none⟩ = some (.int .u64 (IntKind.u64.wrap (ah + bh))) ∧ w'.cell? ⟨w.heap.size + 1 + 1 + 1, 1, none⟩ = some (.int .u64 (al + bl)) ∧ w'.cell? ⟨w.heap.size, 0, none⟩ = some (.int .u64 ah) ∧ w'.cell? ⟨w.heap.size, 1, none⟩ = some (.int .u64 al)) (first | (simp [go_sem, World.cell?_alloc_past]; done) | ((repeat' apply And.intro) <;> (repeat (first | assumption | (simp only [World.cell?_drew]) | (with_reducible refine (World.cell?_setCell_far _ _ _ _ ?h).trans ?_; case h => first | omega | (simp; done) | (simp; omega)) | (with_reducible refine (hb4.cell ?h).trans ?_; case h => first | omega | (simp; done) | (simp; omega)) | (with_reducible refine (hb3.cell ?h).trans ?_; case h => first | omega | (simp; done) | (simp; omega)) | (with_reducible refine (hb2.cell ?h).trans ?_; case h => first | omega | (simp; done) | (simp; omega)) | (with_reducible refine (hb.cell ?h).trans ?_; case h => first | omega | (simp; done) | (simp; omega)) | (with_reducible refine (hb0.cell ?h).trans ?_; case h => first | omega | (simp; done) | (simp; omega)))) <;> (try (simp [go_sem, World.cell?_alloc_past]))))
      (first
        | (go_at_call 17; refine (cmp_any _ _ _ _ hw hl h1' h2' _).mono ?_; rintro e w' ⟨rfl, hb⟩; obtain ⟨q1, q2⟩ := bcell hb))
    go_wp2
    refine bodyPost_ret (v := .tuple #[.agg #[.int .u64 (IntKind.u64.wrap (ah + bh)), .int .u64 (al + bl)], .bool (decide (cmpI (wv (IntKind.u64.wrap (ah + bh)) (al + bl)) (wv ah al) < 0))]) (by simp [results, Tryd.results32, go_sem, q1]) rfl ⟨rfl, ?_⟩
    refine Below.setCell (Below.setCell (Below.trans ?_ (hb.mono (by simp <;> omega))) (by simp <;> omega) _) (by simp <;> omega) _
    exact (by repeat (first | exact Below.refl _ _ | assumption | (with_reducible refine Below.setCell ?_ ?h _; case h => first | omega | (simp; done) | (simp; omega)) | (with_reducible refine Below.alloc ?_ ?h _; case h => first | omega | (simp; done) | (simp; omega)) | (with_reducible refine Below.drew ?_) | (with_reducible refine Below.trans ?_ (hb4.mono ?h); case h => first | omega | (simp; done) | (simp; omega)) | (with_reducible refine Below.trans ?_ (hb3.mono ?h); case h => first | omega | (simp; done) | (simp; omega)) | (with_reducible refine Below.trans ?_ (hb2.mono ?h); case h => first | omega | (simp; done) | (simp; omega)) | (with_reducible refine Below.trans ?_ (hb.mono ?h); case h => first | omega | (simp; done) | (simp; omega)) | (with_reducible refine Below.trans ?_ (hb0.mono ?h); case h => first | omega | (simp; done) | (simp; omega))))
  · obtain ⟨P1, P2, P3⟩ := add_pure1 ah al bh bl h1 h2 h3 h4 hc
    rw [P1, P2, ← P3]; clear P1 P2 P3
    obtain ⟨a1, a2⟩ := h1; obtain ⟨b1, b2⟩ := h2; obtain ⟨c1, c2⟩ := h3; obtain ⟨d1, d2⟩ := h4
    have hlt : IntKind.u64.wrap (al + bl) < al := by rw [IntKind.wrap_u64]; omega
    go_enter Tryd.func32, Tryd.ntmps32
    go_wp2
    go_region_held3 (fun w' => w'.cell? ⟨w.heap.size + 1 + 1 + 1, 0, none⟩ = some (.int .u64 (IntKind.u64.wrap (IntKind.u64.wrap (ah + bh) + 1))) ∧ w'.cell? ⟨w.heap.size + 1 + 1 + 1, 1, none⟩ = some (.int .u64 (IntKind.u64.wrap (al + bl))) ∧ w'.cell? ⟨w.heap.size, 0, none⟩ = some (.int .u64 ah) ∧ w'.cell? ⟨w.heap.size, 1, none⟩ = some (.int .u64 al)) (first | (simp [go_sem, World.cell?_alloc_past]; done) | ((repeat' apply And.intro) <;> (repeat (first | assumption | (simp only [World.cell?_drew]) | (with_reducible refine (World.cell?_setCell_far _ _ _ _ ?h).trans ?_; case h => first | omega | (simp; done) | (simp; omega)) | (with_reducible refine (hb4.cell ?h).trans ?_; case h => first | omega | (simp; done) | (simp; omega)) | (with_reducible refine (hb3.cell ?h).trans ?_; case h => first | omega | (simp; done) | (simp; omega)) | (with_reducible refine (hb2.cell ?h).trans ?_; case h => first | omega | (simp; done) | (simp; omega)) | (with_reducible refine (hb.cell ?h).trans ?_; case h => first | omega | (simp; done) | (simp; omega)) | (with_reducible refine (hb0.cell ?h).trans ?_; case h => first | omega | (simp; done) | (simp; omega)))) <;> (try (simp [go_sem, World.cell?_alloc_past]))))
      (first
        | (go_at_call 17; refine (cmp_any _ _ _ _ hw1 hw2 h1' h2' _).mono ?_; rintro e w' ⟨rfl, hb⟩; obtain ⟨q1, q2⟩ := bcell hb))
    go_wp2
    refine bodyPost_ret (v := .tuple #[.agg #[.int .u64 (IntKind.u64.wrap (IntKind.u64.wrap (ah + bh) + 1)), .int .u64 (IntKind.u64.wrap (al + bl))], .bool (decide (cmpI (wv (IntKind.u64.wrap (IntKind.u64.wrap (ah + bh) + 1)) (IntKind.u64.wrap (al + bl))) (wv ah al) < 0))]) (by simp [results, Tryd.results32, go_sem, q1]) rfl ⟨rfl, ?_⟩
    refine Below.setCell (Below.setCell (Below.trans ?_ (hb.mono (by simp <;> omega))) (by simp <;> omega) _) (by simp <;> omega) _
    exact (by repeat (first | exact Below.refl _ _ | assumption | (with_reducible refine Below.setCell ?_ ?h _; case h => first | omega | (simp; done) | (simp; omega)) | (with_reducible refine Below.alloc ?_ ?h _; case h => first | omega | (simp; done) | (simp; omega)) | (with_reducible refine Below.drew ?_) | (with_reducible refine Below.trans ?_ (hb4.mono ?h); case h => first | omega | (simp; done) | (simp; omega)) | (with_reducible refine Below.trans ?_ (hb3.mono ?h); case h => first | omega | (simp; done) | (simp; omega)) | (with_reducible refine Below.trans ?_ (hb2.mono ?h); case h => first | omega | (simp; done) | (simp; omega)) | (with_reducible refine Below.trans ?_ (hb.mono ?h); case h => first | omega | (simp; done) | (simp; omega)) | (with_reducible refine Below.trans ?_ (hb0.mono ?h); case h => first | omega | (simp; done) | (simp; omega))))

theorem hi_addmod (A B : Int) : hi (A % MM + B % MM) = hi (A + B) := hi_congr (by simp)
theorem lo_addmod (A B : Int) : lo (A % MM + B % MM) = lo (A + B) := lo_congr (by simp)
theorem add_h (A B : Int) (w : World) :
    Calls Tryd.prog 32 #[.agg #[.int .u64 (hi A), .int .u64 (lo A)], .agg #[.int .u64 (hi B), .int .u64 (lo B)]] w fun e w' =>
      e = .returned (.tuple #[.agg #[.int .u64 (hi (A + B)), .int .u64 (lo (A + B))], .bool (addB (A % MM) (B % MM))]) ∧ Below w.heap.size w w' := by
  have h := add_any (hi A) (lo A) (hi B) (lo B) (word_hi _) (word_lo _) (word_hi _) (word_lo _) w
  rw [wv_hi_lo, wv_hi_lo, hi_addmod, lo_addmod] at h
  exact h
theorem cmp_h (A B : Int) (w : World) :
    Calls Tryd.prog 17 #[.agg #[.int .u64 (hi A), .int .u64 (lo A)], .agg #[.int .u64 (hi B), .int .u64 (lo B)]] w fun e w' =>
      e = .returned (.int .i64 (cmpI (A % MM) (B % MM))) ∧ Below w.heap.size w w' := by
  have h := cmp_any (hi A) (lo A) (hi B) (lo B) (word_hi _) (word_lo _) (word_hi _) (word_lo _) w
  rw [wv_hi_lo, wv_hi_lo] at h
  exact h
end Go.Proofs.YtbhaoafngneclaaDoor
