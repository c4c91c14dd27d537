/- Of of the reference of layer 7. No conditions beyond ranges and lengths. -/
import Derived.Test.YtekoicbjpoeijaaKR5
namespace Go.Proofs.Ytekoicbjpoeijaa
set_option linter.unusedVariables false
set_option linter.unusedSimpArgs false
open Go.RowKit
theorem tp_succ {A : Int} {i : Nat} (h0 : 0 ≤ A) (hi : i < 128) : tp A (i + 1) = tp A i + (if bitI A i = true then 2 ^ (127 - i) else 0) := by
  rw [bit_def A i hi]
  unfold tp
  have e : (2 : Int) ^ (128 - i) = 2 ^ (127 - i) * 2 := by rw [← Int.pow_succ]; congr 1; omega
  rw [show 128 - (i + 1) = 127 - i by omega, e, ← Int.ediv_ediv_of_nonneg (Int.le_of_lt (Int.pow_pos (by decide)))]
  generalize A / 2 ^ (127 - i) = q
  generalize (2 : Int) ^ (127 - i) = P
  have hq : q = q / 2 * 2 + q % 2 := by omega
  by_cases h : q % 2 = 1
  · rw [if_pos (by simpa using h)]
    rw [h] at hq
    generalize q / 2 = z at *
    subst hq
    rw [Int.add_mul, Int.one_mul, Int.mul_assoc, Int.mul_comm 2 P]
  · rw [if_neg (by simpa using h)]
    have h2 : q % 2 = 0 := by omega
    rw [h2] at hq
    generalize q / 2 = z at *
    rw [Int.add_zero] at hq
    subst hq
    rw [Int.mul_assoc, Int.mul_comm 2 P]; omega
theorem pow_pos2 (n : Nat) : (0 : Int) < 2 ^ n := Int.pow_pos (by decide)
theorem pow_word (q : Nat) (h : q < 64) : (1 : Int) ≤ 2 ^ q ∧ (2 : Int) ^ q ≤ 9223372036854775808 := by
  have h1 : (2 : Int) ^ 63 = 2 ^ q * 2 ^ (63 - q) := by rw [← Int.pow_add]; congr 1; omega
  have h2 : (2 : Int) ^ 63 = 9223372036854775808 := by decide
  have p1 := pow_pos2 q
  have p2 := pow_pos2 (63 - q)
  refine ⟨by omega, ?_⟩
  rw [← h2, h1]
  have p3 : (2 : Int) ^ q * 1 ≤ 2 ^ q * 2 ^ (63 - q) := Int.mul_le_mul_of_nonneg_left (by omega) (by omega)
  omega
/-- a set bit among the first 64 -/
theorem two64 : (18446744073709551616 : Int) = 2 ^ 64 := by decide
theorem tp_hi_set {A : Int} {i : Nat} (h0 : 0 ≤ A) (h1 : A < MM) (hi64 : i < 64) (hb : bitI A i = true) : hi (tp A (i + 1)) = hi (tp A i) + 2 ^ (63 - i) ∧ lo (tp A (i + 1)) = lo (tp A i) := by
  have e := tp_succ h0 (i := i) (by omega)
  rw [if_pos hb] at e
  have r := tp_range (n := i + 1) h0 h1
  have r0 := tp_range (n := i) h0 h1
  have e1 : (2 : Int) ^ (127 - i) = 2 ^ (63 - i) * 18446744073709551616 := by
    have h := Int.pow_add (2 : Int) (63 - i) 64
    rw [show 63 - i + 64 = 127 - i by omega] at h
    rw [two64]; exact h
  have p := pow_pos2 (63 - i)
  rw [e1] at e
  generalize (2 : Int) ^ (63 - i) = P at *
  unfold MM at h1
  generalize tp A (i + 1) = x at *
  generalize tp A i = y at *
  subst e
  unfold hi lo
  constructor <;> omega
theorem tp_lo_mul {A : Int} {i : Nat} (hi64 : 64 ≤ i) (hi2 : i < 128) : ∃ z : Int, tp A i = z * (2 * 2 ^ (127 - i)) := by
  unfold tp
  refine ⟨A / 2 ^ (128 - i), ?_⟩
  congr 1
  rw [← Int.pow_succ']; congr 1; omega
theorem tp_lo_set {A : Int} {i : Nat} (h0 : 0 ≤ A) (h1 : A < MM) (hi64 : 64 ≤ i) (hi2 : i < 128) (hb : bitI A i = true) : hi (tp A (i + 1)) = hi (tp A i) ∧ lo (tp A (i + 1)) = lo (tp A i) + 2 ^ (127 - i) := by
  have e := tp_succ h0 hi2
  rw [if_pos hb] at e
  have r := tp_range (n := i + 1) h0 h1
  have r0 := tp_range (n := i) h0 h1
  obtain ⟨z, hz⟩ := tp_lo_mul (A := A) hi64 hi2
  have e1 : (18446744073709551616 : Int) = 2 ^ (i - 64) * (2 * 2 ^ (127 - i)) := by
    have h := Int.pow_add (2 : Int) (i - 64) (127 - i + 1)
    rw [show i - 64 + (127 - i + 1) = 64 by omega, Int.pow_succ' (2 : Int) (127 - i)] at h
    rw [two64]; exact h
  have p := pow_pos2 (127 - i)
  have p2 := pow_pos2 (i - 64)
  -- the low word is a multiple of D, and so is 2^64
  have hl : ∃ u : Int, lo (tp A i) = u * (2 * 2 ^ (127 - i)) := by
    have hlo : lo (tp A i) = tp A i - 18446744073709551616 * (tp A i / 18446744073709551616) := by unfold lo; exact Int.emod_def _ _
    generalize tp A i / 18446744073709551616 = v at hlo
    refine ⟨z - 2 ^ (i - 64) * v, ?_⟩
    rw [hlo, hz, e1, Int.sub_mul, Int.mul_right_comm]
  obtain ⟨u, hu⟩ := hl
  have hlt : lo (tp A i) + 2 ^ (127 - i) < 18446744073709551616 := by
    have hlo : lo (tp A i) < 18446744073709551616 := by have := lo_le (tp A i); omega
    rw [hu] at hlo ⊢
    rw [e1] at hlo ⊢
    generalize (2 : Int) ^ (127 - i) = P at *
    generalize (2 : Int) ^ (i - 64) = Q at *
    have hD : (0 : Int) < 2 * P := by omega
    have huQ : u < Q := Int.lt_of_mul_lt_mul_right hlo (Int.le_of_lt hD)
    have : (u + 1) * (2 * P) ≤ Q * (2 * P) := Int.mul_le_mul_of_nonneg_right (by omega) (Int.le_of_lt hD)
    rw [Int.add_mul, Int.one_mul] at this
    omega
  rw [e]
  clear e e1 hz hu u z hb
  generalize (2 : Int) ^ (127 - i) = P at *
  generalize tp A i = y at *
  unfold hi lo at *
  constructor <;> omega
theorem tp_clear {A : Int} {i : Nat} (h0 : 0 ≤ A) (hi2 : i < 128) (hb : bitI A i = false) : tp A (i + 1) = tp A i := by
  rw [tp_succ h0 hi2, hb]; simp
theorem row_set2 {w : World} {g : Nat} {a b c d e v : Value} {t : TypeId} (h : Row w g #[a, b, c, d, e] t) : Row (w.setCell ⟨g, 2, none⟩ v) g #[a, b, v, d, e] t := by simpa using h.set 2 v
theorem row_set3 {w : World} {g : Nat} {a b c d e v : Value} {t : TypeId} (h : Row w g #[a, b, c, d, e] t) : Row (w.setCell ⟨g, 3, none⟩ v) g #[a, b, c, v, e] t := by simpa using h.set 3 v
theorem row_set4 {w : World} {g : Nat} {a b c d e v : Value} {t : TypeId} (h : Row w g #[a, b, c, d, e] t) : Row (w.setCell ⟨g, 4, none⟩ v) g #[a, b, c, d, v] t := by simpa using h.set 4 v
set_option maxRecDepth 100000 in
set_option maxHeartbeats 4000000 in
theorem rof_path (v : Value) (ls : List (List UInt8)) (h8 : ls.length ≤ 8) (hsl : ∀ x ∈ ls, x.length ≤ 16) (w : World) (hS : SS w v ls) : Calls Try.prog 56 #[.int .i64 3, v] w fun e w' => e = .returned (kv ⟨3, ls.length, 0, 0, jn ls⟩) ∧ Below w.heap.size w w' := by
  have HJ := Lib.hid (fun (w1 : World) (hS1 : SS w1 v ls) => rJoin_t v ls h8 hsl w1 hS1)
  have HS := Lib.hid (fun (w1 : World) (hb : Below w.heap.size w w1) => hS.later hb)
  obtain ⟨p, c, rfl, _, _⟩ := hS
  clear hsl
  generalize jn ls = q at *
  generalize hn : ls.length = n at *
  clear hn
  obtain ⟨R0, R1, hb0⟩ := two_rows w #[.int .i64 0, .int .i64 0, .int .u64 0, .int .u64 0, .string ⟨#[]⟩] #[.int .i64 3, .int .i64 n, .int .u64 0, .int .u64 0, .string ⟨#[]⟩] 24 24
  have HJ2 := Lib.hid (HJ.out _ (HS.out _ hb0))
  clear HJ HS
  have c0 := ((R0).cell 0).trans (show _ = some (Value.int .i64 0) from rfl)
  have cf0 := (R0).frozen 0
  have c1 := ((R0).cell 1).trans (show _ = some (Value.int .i64 0) from rfl)
  have cf1 := (R0).frozen 1
  have c2 := ((R0).cell 2).trans (show _ = some (Value.int .u64 0) from rfl)
  have cf2 := (R0).frozen 2
  have c3 := ((R0).cell 3).trans (show _ = some (Value.int .u64 0) from rfl)
  have cf3 := (R0).frozen 3
  have c4 := ((R0).cell 4).trans (show _ = some (Value.string ⟨#[]⟩) from rfl)
  have cf4 := (R0).frozen 4
  have d0 := ((R1).cell 0).trans (show _ = some (Value.int .i64 3) from rfl)
  have df0 := (R1).frozen 0
  have d1 := ((R1).cell 1).trans (show _ = some (Value.int .i64 n) from rfl)
  have df1 := (R1).frozen 1
  have d2 := ((R1).cell 2).trans (show _ = some (Value.int .u64 0) from rfl)
  have df2 := (R1).frozen 2
  have d3 := ((R1).cell 3).trans (show _ = some (Value.int .u64 0) from rfl)
  have df3 := (R1).frozen 3
  have d4 := ((R1).cell 4).trans (show _ = some (Value.string ⟨#[]⟩) from rfl)
  have df4 := (R1).frozen 4
  clear R0 R1
  unfold kv
  dsimp only
  go_enter Try.func56, Try.ntmps56
  go_wp2_with fail
  refine HJ2.out.mono ?_
  rintro e w1 ⟨rfl, rfl⟩
  clear HJ2
  go_wp2
  refine bodyPost_ret (v := .agg #[.int .i64 3, .int .i64 n, .int .u64 0, .int .u64 0, .string ⟨q.toArray⟩]) (by simp [results, Try.results56, go_sem]) rfl ⟨rfl, (by repeat (first | exact Below.refl _ _ | assumption | (with_reducible refine Below.setCell ?_ ?h _; case h => first | omega | (simp; done) | (simp; omega)) | (with_reducible refine Below.alloc ?_ ?h _; case h => first | omega | (simp; done) | (simp; omega)) | (with_reducible refine Below.drew ?_) | (with_reducible refine Below.trans ?_ (hb4.mono ?h); case h => first | omega | (simp; done) | (simp; omega)) | (with_reducible refine Below.trans ?_ (hb3.mono ?h); case h => first | omega | (simp; done) | (simp; omega)) | (with_reducible refine Below.trans ?_ (hb2.mono ?h); case h => first | omega | (simp; done) | (simp; omega)) | (with_reducible refine Below.trans ?_ (hb.mono ?h); case h => first | omega | (simp; done) | (simp; omega)) | (with_reducible refine Below.trans ?_ (hb0.mono ?h); case h => first | omega | (simp; done) | (simp; omega))))⟩
end Go.Proofs.Ytekoicbjpoeijaa
