/- Mul of package wide. No conditions beyond the words' ranges. -/
import Derived.Test.YtgioompelogopaaWide3
import Derived.Deep.DeepCutAuto
namespace Go.Proofs.Ytgioompelogopaa
set_option linter.unusedVariables false
set_option linter.unusedSimpArgs false
open Go.RowKit

def mulA (p q r : Int) : Int := wv p q + wv (hi (wv 0 r * 4294967296)) (lo (wv 0 r * 4294967296))
theorem mod_lt_mul {x y : Int} (hx : 0 ≤ x) (hx' : x < 4294967296) (hy : 0 ≤ y) (hy' : y < 4294967296) : 0 ≤ x * y ∧ x * y ≤ 18446744065119617025 := by
  refine ⟨Int.mul_nonneg hx hy, ?_⟩
  have h1 : x * y ≤ 4294967295 * y := Int.mul_le_mul_of_nonneg_right (by omega) hy
  omega
theorem hilo_mod {x y : Int} (h : x % MM = y % MM) : hi x = hi y ∧ lo x = lo y := ⟨hi_congr h, lo_congr h⟩
theorem mul_pure (a b p q r s v : Int) (h1 : Word a) (h2 : Word b) (hp : IntKind.u64.wrap (a / 4294967296 * (b / 4294967296)) = p) (hq : IntKind.u64.wrap (a % 4294967296 * (b % 4294967296)) = q)
    (hr : IntKind.u64.wrap (a / 4294967296 * (b % 4294967296)) = r) (hs : IntKind.u64.wrap (a % 4294967296 * (b / 4294967296)) = s) (hv : mulA p q r = v) :
    hi (mulA (hi v) (lo v) s) = hi (a * b) ∧ lo (mulA (hi v) (lo v) s) = lo (a * b) := by
  obtain ⟨a1, a2⟩ := h1; obtain ⟨b1, b2⟩ := h2
  have ea : a = a / 4294967296 * 4294967296 + a % 4294967296 := by omega
  have eb : b = b / 4294967296 * 4294967296 + b % 4294967296 := by omega
  have ka := mod_lt_mul (x := a / 4294967296) (y := b / 4294967296) (by omega) (by omega) (by omega) (by omega)
  have kb := mod_lt_mul (x := a % 4294967296) (y := b % 4294967296) (by omega) (by omega) (by omega) (by omega)
  have kc := mod_lt_mul (x := a / 4294967296) (y := b % 4294967296) (by omega) (by omega) (by omega) (by omega)
  have kd := mod_lt_mul (x := a % 4294967296) (y := b / 4294967296) (by omega) (by omega) (by omega) (by omega)
  have eab : a * b = a / 4294967296 * (b / 4294967296) * 18446744073709551616 + (a / 4294967296 * (b % 4294967296)) * 4294967296 + (a % 4294967296 * (b / 4294967296)) * 4294967296 + a % 4294967296 * (b % 4294967296) := by
    generalize a / 4294967296 = x at *; generalize a % 4294967296 = y at *; generalize b / 4294967296 = z at *; generalize b % 4294967296 = u at *
    rw [ea, eb, Int.add_mul, Int.mul_add, Int.mul_add]
    rw [show x * 4294967296 * (z * 4294967296) = x * z * 18446744073709551616 by rw [show (18446744073709551616 : Int) = 4294967296 * 4294967296 by decide]; simp only [Int.mul_assoc, Int.mul_comm, Int.mul_left_comm],
      show x * 4294967296 * u = x * u * 4294967296 by simp only [Int.mul_assoc, Int.mul_comm, Int.mul_left_comm], show y * (z * 4294967296) = y * z * 4294967296 by rw [Int.mul_assoc]]
    omega
  rw [IntKind.wrap_u64] at hp hq hr hs
  refine hilo_mod ?_
  rw [eab]
  generalize a / 4294967296 * (b / 4294967296) = A at *
  generalize a % 4294967296 * (b % 4294967296) = B at *
  generalize a / 4294967296 * (b % 4294967296) = C at *
  generalize a % 4294967296 * (b / 4294967296) = D at *
  have eA : p = A := by omega
  have eB : q = B := by omega
  have eC : r = C := by omega
  have eD : s = D := by omega
  subst eA eB eC eD
  clear hp hq hr hs ea eb eab
  unfold mulA at *
  rw [wv_hi_lo] at *
  rw [wv_hi_lo]
  subst hv
  unfold wv MM at *
  omega
theorem and_low (x : Int) (h : Word x) : bits .and .u64 x 4294967295 = x % 4294967296 := by
  rw [bits_and_w h (word_lit 4294967295 (by decide) (by decide))]; unfold andI
  rw [show (4294967295 : Int).toNat = 2 ^ 32 - 1 by rfl, Nat.and_two_pow_sub_one_eq_mod]
  have := h.1; omega

set_option maxRecDepth 100000 in
set_option maxHeartbeats 800000 in
theorem mul_any (a b : Int) (h1 : Word a) (h2 : Word b) (w : World) :
    Calls Try.prog 21 #[.int .u64 a, .int .u64 b] w fun e w' =>
      e = .returned (.agg #[.int .u64 (hi (a * b)), .int .u64 (lo (a * b))]) ∧ Below w.heap.size w w' := by
  have e1 := and_low a h1
  have e2 := and_low b h2
  obtain ⟨a1, a2⟩ := h1; obtain ⟨b1, b2⟩ := h2
  go_enter Try.func21, Try.ntmps21
  go_wp2
  have wp := word_wrap (a / 4294967296 * (b / 4294967296))
  have wq := word_wrap (a % 4294967296 * (b % 4294967296))
  have wr := word_wrap (a / 4294967296 * (b % 4294967296))
  have ws := word_wrap (a % 4294967296 * (b / 4294967296))
  generalize hp : IntKind.u64.wrap (a / 4294967296 * (b / 4294967296)) = p at *
  have HP := Lib.hid hp; clear hp
  generalize hq : IntKind.u64.wrap (a % 4294967296 * (b % 4294967296)) = q at *
  have HQ := Lib.hid hq; clear hq
  generalize hr : IntKind.u64.wrap (a / 4294967296 * (b % 4294967296)) = r at *
  have wp' := wp
  go_cut [] (fun wx => wx.cell? ⟨w.heap.size + 1, 0, none⟩ = some (.int .u64 (hi (mulA p q r))) ∧ wx.cell? ⟨w.heap.size + 1, 1, none⟩ = some (.int .u64 (lo (mulA p q r))) ∧ wx.frozen? ⟨w.heap.size + 1, 0, none⟩ = false ∧ wx.frozen? ⟨w.heap.size + 1, 1, none⟩ = false ∧ Below (w.heap.size + 1) (w.alloc (.cells #[.int .u64 0, .int .u64 0] 24)) wx ∧ w.heap.size + 2 ≤ wx.heap.size)
  case first =>
    go_region_with (first
      | (go_at_call 20; refine (of_any _ _).mono ?_; rintro e w' ⟨rfl, hb⟩; obtain ⟨q1, q2⟩ := bcell hb; have hz := hb.size; (try simp at hz))
      | (go_at_call 23; refine (left_any _ _ _ (word_lit 0 (by decide) (by decide)) wr _).mono ?_; rintro e w2 ⟨rfl, hb2x⟩; have hb2 := hb.trans (hb2x.mono hb.size); obtain ⟨q3, q4⟩ := bcell hb2; have hz2 := hb2.size; (try simp at hz2))
      | (go_at_call 12; refine (add_any _ _ _ _ wp wq (word_hi _) (word_lo _) _).mono ?_; rintro e w3 ⟨rfl, hb3x⟩; have hb3 := hb2.trans (hb3x.mono hb2.size); obtain ⟨q5, q6⟩ := bcell hb3; have hz3 := hb3.size; (try simp at hz3)))
    all_goals go_wp2_with fail
    all_goals go_meet
    all_goals exact ⟨by simp [go_sem, q5, mulA], by simp [go_sem, q5, mulA], by simp [go_sem, q6], by simp [go_sem, q6], (by repeat (first | exact Below.refl _ _ | assumption | (with_reducible refine Below.setCell ?_ ?h _; case h => first | omega | (simp; done) | (simp; omega)) | (with_reducible refine Below.alloc ?_ ?h _; case h => first | omega | (simp; done) | (simp; omega)) | (with_reducible refine Below.drew ?_) | (with_reducible refine Below.trans ?_ (hb4.mono ?h); case h => first | omega | (simp; done) | (simp; omega)) | (with_reducible refine Below.trans ?_ (hb3.mono ?h); case h => first | omega | (simp; done) | (simp; omega)) | (with_reducible refine Below.trans ?_ (hb2.mono ?h); case h => first | omega | (simp; done) | (simp; omega)) | (with_reducible refine Below.trans ?_ (hb.mono ?h); case h => first | omega | (simp; done) | (simp; omega)) | (with_reducible refine Below.trans ?_ (hb0.mono ?h); case h => first | omega | (simp; done) | (simp; omega)))), by simp [World.setCell]; omega⟩
  case rest =>
    obtain ⟨hc0, hc1, hf0, hf1, hb0, hz0⟩ := hcut
    have hz1 : w.heap.size + 1 < wc.heap.size := by omega
    have hz2' : w.heap.size < wc.heap.size := by omega
    generalize hv : mulA p q r = v at hc0 hc1
    have HV : Hid (mulA p q r = v) := hv
    clear hv
    go_wp2
    generalize hs : IntKind.u64.wrap (a % 4294967296 * (b / 4294967296)) = s at *
    go_cut [] (fun wx => wx.cell? ⟨w.heap.size + 1, 0, none⟩ = some (.int .u64 (hi (mulA (hi v) (lo v) s))) ∧ wx.cell? ⟨w.heap.size + 1, 1, none⟩ = some (.int .u64 (lo (mulA (hi v) (lo v) s))) ∧ Below (w.heap.size + 1) (w.alloc (.cells #[.int .u64 0, .int .u64 0] 24)) wx)
    case first =>
      go_region_with (first
      | (go_at_call 20; refine (of_any _ _).mono ?_; rintro e w' ⟨rfl, hb⟩; obtain ⟨q1, q2⟩ := bcell hb; have hz := hb.size; (try simp at hz); have ga0 : w'.cell? ⟨w.heap.size + 1, 0, none⟩ = some (.int .u64 (hi v)) := (q1 _ _ hz1).trans hc0; have ga1 : w'.cell? ⟨w.heap.size + 1, 1, none⟩ = some (.int .u64 (lo v)) := (q1 _ _ hz1).trans hc1)
      | (go_at_call 23; refine (left_any _ _ _ (word_lit 0 (by decide) (by decide)) ws _).mono ?_; rintro e w2 ⟨rfl, hb2x⟩; have hb2 := hb.trans (hb2x.mono hb.size); obtain ⟨q3, q4⟩ := bcell hb2; have hz2 := hb2.size; (try simp at hz2); have gb0 : w2.cell? ⟨w.heap.size + 1, 0, none⟩ = some (.int .u64 (hi v)) := (q3 _ _ hz1).trans hc0; have gb1 : w2.cell? ⟨w.heap.size + 1, 1, none⟩ = some (.int .u64 (lo v)) := (q3 _ _ hz1).trans hc1)
      | (go_at_call 12; refine (add_any _ _ _ _ (word_hi _) (word_lo _) (word_hi _) (word_lo _) _).mono ?_; rintro e w3 ⟨rfl, hb3x⟩; have hb3 := hb2.trans (hb3x.mono hb2.size); obtain ⟨q5, q6⟩ := bcell hb3; have hz3 := hb3.size; (try simp at hz3); have g0 : w3.cell? ⟨w.heap.size + 1, 0, none⟩ = some (.int .u64 (hi v)) := (q5 _ _ hz1).trans hc0; have g1 : w3.cell? ⟨w.heap.size + 1, 1, none⟩ = some (.int .u64 (lo v)) := (q5 _ _ hz1).trans hc1; have g2 : w3.frozen? ⟨w.heap.size + 1, 0, none⟩ = false := (q6 _ _ hz1).trans hf0; have g3 : w3.frozen? ⟨w.heap.size + 1, 1, none⟩ = false := (q6 _ _ hz1).trans hf1; clear q1 q2 q3 q4 q5 q6))
      all_goals go_wp2_with fail
      all_goals go_meet
      all_goals exact ⟨by simp [go_sem, g0, g1, mulA], by simp [go_sem, g0, g1, mulA], (by repeat (first | exact Below.refl _ _ | assumption | (with_reducible refine Below.setCell ?_ ?h _; case h => first | omega | (simp; done) | (simp; omega)) | (with_reducible refine Below.alloc ?_ ?h _; case h => first | omega | (simp; done) | (simp; omega)) | (with_reducible refine Below.drew ?_) | (with_reducible refine Below.trans ?_ (hb4.mono ?h); case h => first | omega | (simp; done) | (simp; omega)) | (with_reducible refine Below.trans ?_ (hb3.mono ?h); case h => first | omega | (simp; done) | (simp; omega)) | (with_reducible refine Below.trans ?_ (hb2.mono ?h); case h => first | omega | (simp; done) | (simp; omega)) | (with_reducible refine Below.trans ?_ (hb.mono ?h); case h => first | omega | (simp; done) | (simp; omega)) | (with_reducible refine Below.trans ?_ (hb0.mono ?h); case h => first | omega | (simp; done) | (simp; omega))))⟩
    case rest =>
      clear hb0 hc0 hc1 hf0 hf1
      obtain ⟨hc0, hc1, hb0⟩ := hcut
      obtain ⟨r1, r2⟩ := bcell' hb0
      go_wp2
      have HR := Lib.hid hr; have HS := Lib.hid hs; clear hr hs
      have hfin := mul_pure a b p q r s v ⟨a1, a2⟩ ⟨b1, b2⟩ HP.out HQ.out HR.out HS.out HV.out
      obtain ⟨f1, f2⟩ := hfin
      refine bodyPost_ret (v := .agg #[.int .u64 (hi (mulA (hi v) (lo v) s)), .int .u64 (lo (mulA (hi v) (lo v) s))]) (by simp [results, Try.results21, go_sem, r1]) rfl ⟨by rw [f1, f2], (by repeat (first | exact Below.refl _ _ | assumption | (with_reducible refine Below.setCell ?_ ?h _; case h => first | omega | (simp; done) | (simp; omega)) | (with_reducible refine Below.alloc ?_ ?h _; case h => first | omega | (simp; done) | (simp; omega)) | (with_reducible refine Below.drew ?_) | (with_reducible refine Below.trans ?_ (hb4.mono ?h); case h => first | omega | (simp; done) | (simp; omega)) | (with_reducible refine Below.trans ?_ (hb3.mono ?h); case h => first | omega | (simp; done) | (simp; omega)) | (with_reducible refine Below.trans ?_ (hb2.mono ?h); case h => first | omega | (simp; done) | (simp; omega)) | (with_reducible refine Below.trans ?_ (hb.mono ?h); case h => first | omega | (simp; done) | (simp; omega)) | (with_reducible refine Below.trans ?_ (hb0.mono ?h); case h => first | omega | (simp; done) | (simp; omega))))⟩
end Go.Proofs.Ytgioompelogopaa
