/- K0, K1, K2, K3, K4, K5, K6, K7, KP, OpenKey, K8, KR1, KR2, LabR1, LabR2, LabR3, LabR4, KR3, D1, D2, KP2: what the theorem needs of these texts. No conditions beyond those that are written. -/
import Derived.Test.YtboinifeemghaaaGreatDoorAJN5
set_option linter.unusedSimpArgs false
set_option linter.unusedVariables false
set_option maxHeartbeats 8000000
set_option maxRecDepth 100000
namespace Go.Proofs.YtboinifeemghaaaGreatDoor
open Go.RowKit
structure Ke where
 kind : Int
 len : Int
 h : Int
 l : Int
 path : List UInt8
 deriving DecidableEq
def kv (k : Ke) : Value := .agg #[.int .i64 k.kind, .int .i64 k.len, .int .u64 k.h, .int .u64 k.l, .string ⟨k.path.toArray⟩]
def kz : Ke := ⟨0, 0, 0, 0, []⟩
def Ke.num (k : Ke) : Int := wv k.h k.l
def wid (kind : Int) : Int := if kind = 1 then 32 else if kind = 2 then 128 else if kind = 3 then 8 else 0
theorem wid_range (k : Int) : 0 ≤ wid k ∧ wid k ≤ 128 := by unfold wid; repeat' split <;> omega
def topK (k : Ke) (n : Int) : Ke := if k.kind = 3 then ⟨3, n, 0, 0, topL k.path n⟩ else ⟨k.kind, n, hi (andI k.num (maskI n)), lo (andI k.num (maskI n)), []⟩
def pathK (p : List UInt8) : Ke := ⟨3, (labsL p).length, 0, 0, p⟩
def rightK (k : Ke) : Bool := if k.kind = 1 ∨ k.kind = 2 then decide (0 ≤ k.len) && decide (k.len ≤ wid k.kind) && decide (k = topK k k.len) else if k.kind = 3 then rightB k.path && decide (k = pathK k.path) else false
def tp (A : Int) (n : Nat) : Int := A / 2 ^ (128 - n) * 2 ^ (128 - n)
theorem tp_eq (A n : Int) (h0 : 0 ≤ A) (h1 : A < MM) (n1 : n ≤ 128) : andI A (maskI n) = tp A n.toNat := by
 rw [topI A n h0 h1, show min n.toNat 128 = n.toNat by omega]; rfl
theorem tp_range {A : Int} {n : Nat} (h0 : 0 ≤ A) (h1 : A < MM) : 0 ≤ tp A n ∧ tp A n ≤ A := by
 unfold tp
 have hp : (0 : Int) < 2 ^ (128 - n) := Int.pow_pos (by decide)
 exact ⟨Int.mul_nonneg (Int.ediv_nonneg h0 (by omega)) (by omega), Int.ediv_mul_le A (by omega)⟩
theorem pow2_ne (n : Nat) : (2 : Int) ^ n ≠ 0 := Int.ne_of_gt (Int.pow_pos (by decide))
theorem tp_bit (A : Int) (n j : Nat) (hn : n ≤ 128) (hj : j < 128) : bitI (tp A n) j = if j < n then bitI A j else false := by
 rw [bit_def _ j hj, bit_def _ j hj]
 unfold tp
 by_cases h : j < n
 ·rw [if_pos h]
  have e : (2 : Int) ^ (127 - j) = 2 ^ (128 - n) * 2 ^ (n - 1 - j) := by rw [← Int.pow_add]; congr 1; omega
  rw [e, ← Int.ediv_ediv_of_nonneg (Int.pow_nonneg (by decide)), ← Int.ediv_ediv_of_nonneg (Int.pow_nonneg (by decide)), Int.mul_ediv_cancel _ (pow2_ne _)]
 ·rw [if_neg h]
  have e : (2 : Int) ^ (128 - n) = 2 ^ (j - n) * 2 * 2 ^ (127 - j) := by rw [← Int.pow_succ, ← Int.pow_add]; congr 1; omega
  rw [e, ← Int.mul_assoc, Int.mul_ediv_cancel _ (pow2_ne _)]
  generalize A / (2 ^ (j - n) * 2 * 2 ^ (127 - j)) = x
  generalize (2 : Int) ^ (j - n) = y
  rw [← Int.mul_assoc, decide_eq_false_iff_not]
  generalize x * y = z
  omega
theorem num_eq_of_bits {A B : Int} (a0 : 0 ≤ A) (a1 : A < MM) (b0 : 0 ≤ B) (b1 : B < MM) (h : ∀ j : Nat, j < 128 → bitI A j = bitI B j) : A = B := by
 have := div_same A B 128 (by omega) (by rw [big_div A a0 a1, big_div B b0 b1]) h
 simpa using this
theorem tp_tp {A : Int} {n m : Nat} (hn : n ≤ 128) (h0 : 0 ≤ A) (h1 : A < MM) (hm : m ≤ n) : tp (tp A n) m = tp A m := by
 have r := tp_range (n := n) h0 h1
 have r1 := tp_range (n := m) h0 h1
 have r2 := tp_range (A := tp A n) (n := m) r.1 (by omega)
 refine num_eq_of_bits r2.1 (by omega) r1.1 (by omega) fun j hj => ?_
 rw [tp_bit _ m j (by omega) hj, tp_bit _ m j (by omega) hj, tp_bit _ n j hn hj]
 by_cases h : j < m
 ·rw [if_pos h, if_pos h, if_pos (by omega)]
 ·rw [if_neg h, if_neg h]
structure Adr (k : Ke) : Prop where
 kind : k.kind = 1 ∨ k.kind = 2
 lo : 0 ≤ k.len
 up : k.len ≤ wid k.kind
 path : k.path = []
 h : Word k.h
 l : Word k.l
 num : k.num = tp k.num k.len.toNat
theorem num_range {k : Ke} (h : Word k.h) (l : Word k.l) : 0 ≤ k.num ∧ k.num < MM := by unfold Ke.num wv MM; unfold Word at *; omega
theorem Adr.range {k : Ke} (h : Adr k) : 0 ≤ k.num ∧ k.num < MM := num_range h.h h.l
theorem Adr.len {k : Ke} (h : Adr k) : k.len ≤ 128 := Int.le_trans h.up (wid_range _).2
theorem Adr.ne {k : Ke} (h : Adr k) : ¬ k.kind = 3 := by rcases h.kind with e | e <;> omega
theorem ke_ext {a b : Ke} (h1 : a.kind = b.kind) (h2 : a.len = b.len) (h3 : a.h = b.h) (h4 : a.l = b.l) (h5 : a.path = b.path) : a = b := by
 cases a; cases b; simp_all
theorem num_topK {k : Ke} (h3 : ¬ k.kind = 3) (hr : 0 ≤ k.num ∧ k.num < MM) (n : Int) (n1 : n ≤ 128) : (topK k n).num = tp k.num n.toNat := by
 unfold topK
 rw [if_neg h3]
 unfold Ke.num
 show wv (hi _) (lo _) = _
 have r := tp_range (n := n.toNat) hr.1 hr.2
 have e := tp_eq k.num n hr.1 hr.2 n1
 unfold Ke.num at *
 rw [wv_hi_lo, e, Int.emod_eq_of_lt r.1 (by omega)]
theorem adr_of_right {k : Ke} (h : rightK k = true) (hk : k.kind = 1 ∨ k.kind = 2) : Adr k := by
 unfold rightK at h
 rw [if_pos hk] at h
 simp only [Bool.and_eq_true, decide_eq_true_eq] at h
 obtain ⟨⟨h1, h2⟩, h3⟩ := h
 have hn : ¬ k.kind = 3 := by rcases hk with e | e <;> omega
 have e : topK k k.len = ⟨k.kind, k.len, hi (andI k.num (maskI k.len)), lo (andI k.num (maskI k.len)), []⟩ := by unfold topK; rw [if_neg hn]
 have wh : Word k.h := by rw [h3, e]; exact word_hi _
 have wl : Word k.l := by rw [h3, e]; exact word_lo _
 have hr := num_range wh wl
 have hw := (wid_range k.kind).2
 refine ⟨hk, h1, h2, by rw [h3, e], wh, wl, ?_⟩
 rw [← num_topK hn hr k.len (by omega), ← h3]
theorem right_of_adr {k : Ke} (h : Adr k) : rightK k = true := by
 unfold rightK
 rw [if_pos h.kind]
 simp only [Bool.and_eq_true, decide_eq_true_eq]
 refine ⟨⟨h.lo, h.up⟩, ?_⟩
 have e : topK k k.len = ⟨k.kind, k.len, hi (andI k.num (maskI k.len)), lo (andI k.num (maskI k.len)), []⟩ := by unfold topK; rw [if_neg h.ne]
 have hr := h.range
 rw [e, tp_eq k.num k.len hr.1 hr.2 h.len, ← h.num]
 refine ke_ext rfl rfl ?_ ?_ h.path
 ·exact (hi_wv h.h h.l).symm
 ·exact (lo_wv h.l).symm
theorem right_path {k : Ke} (h : rightK k = true) (hk : k.kind = 3) : rightB k.path = true ∧ k = pathK k.path := by
 unfold rightK at h
 rw [if_neg (by omega), if_pos hk] at h
 simpa using h
theorem right_pathK {p : List UInt8} (h : rightB p = true) : rightK (pathK p) = true := by
 unfold rightK
 rw [if_neg (by unfold pathK; simp), if_pos (show (pathK p).kind = 3 from rfl)]
 simp [pathK, h]
theorem right_kind {k : Ke} (h : rightK k = true) : (k.kind = 1 ∨ k.kind = 2) ∨ k.kind = 3 := by
 unfold rightK at h
 by_cases h1 : k.kind = 1 ∨ k.kind = 2
 ·exact .inl h1
 ·rw [if_neg h1] at h
  by_cases h2 : k.kind = 3
  ·exact .inr h2
  ·rw [if_neg h2] at h; cases h
def bitS (b : Bool) : List UInt8 := if b = true then [49] else [48]
theorem bitS_inj {a b : Bool} (h : bitS a = bitS b) : a = b := by cases a <;> cases b <;> simp_all [bitS]
def letK (k : Ke) : List (List UInt8) := if k.kind = 3 then labsL k.path else (List.range k.len.toNat).map fun i : Nat => bitS (bitI k.num i)
theorem letK_adr {k : Ke} (h : Adr k) : letK k = (List.range k.len.toNat).map fun i : Nat => bitS (bitI k.num i) := by unfold letK; rw [if_neg h.ne]
theorem letK_len {k : Ke} (h : rightK k = true) : ((letK k).length : Int) = k.len := by
 rcases right_kind h with hk | hk
 ·have a := adr_of_right h hk
  rw [letK_adr a]; simp; have := a.lo; omega
 ·obtain ⟨h1, h2⟩ := right_path h hk
  rw [h2]; rfl
theorem len_range {k : Ke} (h : rightK k = true) : 0 ≤ k.len ∧ k.len ≤ 128 := by
 rcases right_kind h with hk | hk
 ·have a := adr_of_right h hk
  exact ⟨a.lo, a.len⟩
 ·obtain ⟨h1, h2⟩ := right_path h hk
  rw [h2]; have := labsL_len k.path; unfold pathK; simp; omega
theorem ke_of_letters {a b : Ke} (ha : rightK a = true) (hb : rightK b = true) (hk : a.kind = b.kind) (h : letK a = letK b) : a = b := by
 have la := letK_len ha
 have lb := letK_len hb
 have hl : a.len = b.len := by rw [← la, ← lb, h]
 rcases right_kind ha with k1 | k1
 ·have A := adr_of_right ha k1
  have B := adr_of_right hb (hk ▸ k1)
  have hn : a.num = b.num := by
   refine num_eq_of_bits A.range.1 A.range.2 B.range.1 B.range.2 fun j hj => ?_
   rw [A.num, B.num, tp_bit _ _ j (by have := A.len; omega) hj, tp_bit _ _ j (by have := B.len; omega) hj, ← hl]
   by_cases hjl : j < a.len.toNat
   ·rw [if_pos hjl, if_pos hjl]
    rw [letK_adr A, letK_adr B, ← hl] at h
    have := congrArg (fun x => x[j]?) h
    simp [hjl] at this
    exact bitS_inj this
   ·rw [if_neg hjl, if_neg hjl]
  refine ke_ext hk hl ?_ ?_ (by rw [A.path, B.path])
  ·rw [← hi_wv A.h A.l, ← hi_wv B.h B.l]; exact congrArg hi hn
  ·rw [← lo_wv (h := a.h) A.l, ← lo_wv (h := b.h) B.l]; exact congrArg lo hn
 ·obtain ⟨a1, a2⟩ := right_path ha k1
  obtain ⟨b1, b2⟩ := right_path hb (hk ▸ k1)
  have hp : a.path = b.path := by
   unfold letK at h
   rw [if_pos k1, if_pos (hk ▸ k1)] at h
   rw [← jn_labs a1, ← jn_labs b1, h]
  rw [a2, b2, hp]
theorem topK_kind (k : Ke) (n : Int) : (topK k n).kind = k.kind := by unfold topK; split <;> simp_all
theorem topK_len (k : Ke) (n : Int) : (topK k n).len = n := by unfold topK; split <;> rfl
theorem top_right {k : Ke} (h : rightK k = true) (n : Int) (n0 : 0 ≤ n) (n1 : n ≤ k.len) : rightK (topK k n) = true ∧ letK (topK k n) = (letK k).take n.toNat := by
 rcases right_kind h with hk | hk
 ·have A := adr_of_right h hk
  have hl := A.len
  have hr := A.range
  have hN := num_topK A.ne hr n (by omega)
  have e : topK k n = ⟨k.kind, n, hi (andI k.num (maskI n)), lo (andI k.num (maskI n)), []⟩ := by unfold topK; rw [if_neg A.ne]
  have T : Adr (topK k n) := by
   refine ⟨by rw [topK_kind]; exact hk, by rw [topK_len]; exact n0, ?_, by rw [e], by rw [e]; exact word_hi _, by rw [e]; exact word_lo _, ?_⟩
   ·rw [topK_len, topK_kind]; have := A.up; omega
   ·rw [hN, topK_len, tp_tp (by omega) hr.1 hr.2 (Nat.le_refl _)]
  refine ⟨right_of_adr T, ?_⟩
  rw [letK_adr T, letK_adr A, topK_len, hN]
  apply List.ext_getElem?
  intro j
  by_cases hj : j < n.toNat
  ·have h1 : j < k.len.toNat := by omega
   simp [hj, h1, tp_bit k.num n.toNat j (by omega) (by omega)]
  ·have h2 : n.toNat ≤ j := by omega
   simp [List.getElem?_take, hj]
 ·obtain ⟨h1, h2⟩ := right_path h hk
  have e : topK k n = pathK (topL k.path n) := by
   unfold topK pathK
   rw [if_pos hk, labs_top, List.length_take]
   have : k.len = (labsL k.path).length := by rw [h2]; rfl
   congr 1
   omega
  rw [e]
  refine ⟨right_pathK (right_top _ _), ?_⟩
  unfold letK
  rw [if_pos (show (pathK _).kind = 3 from rfl), if_pos hk]
  exact labs_top _ _
theorem top_full {k : Ke} (h : rightK k = true) : topK k k.len = k := by
 have hl := len_range h
 obtain ⟨t1, t2⟩ := top_right h k.len hl.1 (Int.le_refl _)
 refine ke_of_letters t1 h (topK_kind _ _) ?_
 rw [t2, List.take_of_length_le]
 have := letK_len h; omega
def sameK (a b : Ke) : Int := if a.kind = 3 then (sameN (labsL a.path) (labsL b.path) : Nat) else min (min a.len b.len) (sameI a.num b.num : Nat)
def cutK (k : Ke) (n : Int) : Ke := if rightK k = true then (if k.len ≤ n then k else topK k (max n 0)) else kz
def overK (a b : Ke) : Bool := rightK a && (rightK b && (decide (a.kind = b.kind) && (decide (a.len ≤ b.len) && decide (a = topK b a.len))))
def meetB (a b : Ke) : Bool := decide (a.kind = b.kind) && (rightK a && rightK b)
def meetK (a b : Ke) : Ke := if meetB a b = true then topK a (sameK a b) else kz
theorem bw {w : World} : Below w.heap.size w w := Below.refl _ _
theorem bset5 {w w1 : World} {g : Nat} (hb : Below w.heap.size w w1) (hg : w.heap.size ≤ g) (a b c d e : Value) : Below w.heap.size w (((((w1.setCell ⟨g, 0, none⟩ a).setCell ⟨g, 1, none⟩ b).setCell ⟨g, 2, none⟩ c).setCell ⟨g, 3, none⟩ d).setCell ⟨g, 4, none⟩ e) :=
 ((((hb.setCell hg a).setCell hg b).setCell hg c).setCell hg d).setCell hg e
theorem width_t (k : Int) (w : World) : Calls Tryz.prog 24 #[.int .i64 k] w fun e w' => e = .returned (.int .i64 (wid k)) ∧ Below w.heap.size w w' := by
 by_cases h1 : k = 1
 ·subst h1
  go_enter Tryz.func24, Tryz.ntmps24
  go_wp2
  go_ret
  exact ⟨rfl, bw⟩
 by_cases h2 : k = 2
 ·subst h2
  go_enter Tryz.func24, Tryz.ntmps24
  go_wp2
  go_ret
  exact ⟨rfl, bw⟩
 by_cases h3 : k = 3
 ·subst h3
  go_enter Tryz.func24, Tryz.ntmps24
  go_wp2
  go_ret
  exact ⟨rfl, bw⟩
 have e : wid k = 0 := by unfold wid; rw [if_neg h1, if_neg h2, if_neg h3]
 rw [e]
 have b1 : (k == 1) = false := by simpa using h1
 have b2 : (k == 2) = false := by simpa using h2
 have b3 : (k == 3) = false := by simpa using h3
 go_enter Tryz.func24, Tryz.ntmps24
 go_wp2
 go_ret
 exact ⟨rfl, bw⟩
theorem ofBits_t (kd n h l : Int) (w : World) : Calls Tryz.prog 98 #[.int .i64 kd, .int .i64 n, .agg #[.int .u64 h, .int .u64 l]] w fun e w' => e = .returned (.agg #[.int .i64 kd, .int .i64 n, .int .u64 h, .int .u64 l, .string ⟨#[]⟩]) ∧ Below w.heap.size w w' := by
 go_enter Tryz.func98, Tryz.ntmps98
 go_wp2
 refine bodyPost_ret (v := .agg #[.int .i64 kd, .int .i64 n, .int .u64 h, .int .u64 l, .string ⟨#[]⟩]) (by simp [results, Tryz.results98, go_sem]) rfl ⟨rfl, (by repeat (first | exact Below.refl _ _ | assumption | (with_reducible refine Below.drew ?_) | ((with_reducible first | refine Below.setCell ?_ ?h _ | refine Below.alloc ?_ ?h _); case h => first | omega | (simp; done) | (simp; omega))))⟩
theorem bits_t (kd n h l : Int) (p : ByteArray) (w : World) : Calls Tryz.prog 113 #[.agg #[.int .i64 kd, .int .i64 n, .int .u64 h, .int .u64 l, .string p]] w fun e w' => e = .returned (.agg #[.int .u64 h, .int .u64 l]) ∧ Below w.heap.size w w' := by
 go_enter Tryz.func113, Tryz.ntmps113
 go_wp2
 refine bodyPost_ret (v := .agg #[.int .u64 h, .int .u64 l]) (by simp [results, Tryz.results113, go_sem]) rfl ⟨rfl, (by repeat (first | exact Below.refl _ _ | assumption | (with_reducible refine Below.drew ?_) | ((with_reducible first | refine Below.setCell ?_ ?h _ | refine Below.alloc ?_ ?h _); case h => first | omega | (simp; done) | (simp; omega))))⟩
theorem ofPath_t (p : List UInt8) (hp : p.length ≤ 140737488355328) (w : World) : Calls Tryz.prog 75 #[.string ⟨p.toArray⟩] w fun e w' => e = .returned (kv (pathK p)) ∧ Below w.heap.size w w' := by
 have hl := fun w1 => len_t p hp w1
 unfold kv pathK
 dsimp only
 generalize (labsL p).length = n at *
 go_enter Tryz.func75, Tryz.ntmps75
 go_wp2_with fail
 refine (hl _).mono ?_
 rintro e w1 ⟨rfl, hb⟩
 clear hl
 have R := (Row.new w #[.int .i64 0, .int .i64 0, .int .u64 0, .int .u64 0, .string ⟨#[]⟩] 26).later hb
 have hb1 : Below w.heap.size w w1 := below_step (by repeat (first | exact Below.refl _ _ | assumption | (with_reducible refine Below.drew ?_) | ((with_reducible first | refine Below.setCell ?_ ?h _ | refine Below.alloc ?_ ?h _ | refine Below.trans ?_ (hb.mono ?h)); case h => first | omega | (simp; done) | (simp; omega)))) hb
 have c0 := ((R).cell 0).trans (show _ = some (Value.int .i64 0) from rfl)
 have cf0 := (R).frozen 0
 have c1 := ((R).cell 1).trans (show _ = some (Value.int .i64 0) from rfl)
 have cf1 := (R).frozen 1
 have c2 := ((R).cell 2).trans (show _ = some (Value.int .u64 0) from rfl)
 have cf2 := (R).frozen 2
 have c3 := ((R).cell 3).trans (show _ = some (Value.int .u64 0) from rfl)
 have cf3 := (R).frozen 3
 have c4 := ((R).cell 4).trans (show _ = some (Value.string ⟨#[]⟩) from rfl)
 have cf4 := (R).frozen 4
 clear R hb
 go_wp2
 refine bodyPost_ret (v := .agg #[.int .i64 3, .int .i64 n, .int .u64 0, .int .u64 0, .string ⟨p.toArray⟩]) (by simp [results, Tryz.results75, go_sem, c0, c1, c2, c3, c4]) rfl ⟨rfl, bset5 hb1 (Nat.le_refl _) _ _ _ _ _⟩
theorem ktop_t (k : Ke) (n : Int) (hh : Word k.h) (hl : Word k.l) (hn : n ≤ 9223372036854775807) (hp : k.path.length ≤ 140737488355328) (w : World) : Calls Tryz.prog 73 #[kv k, .int .i64 n] w fun e w' => e = .returned (kv (topK k n)) ∧ Below w.heap.size w w' := by
 obtain ⟨kd, len, h, l, p⟩ := k
 dsimp only at hh hl hp
 have R0 : Row ((w.alloc (.cells #[.int .i64 kd, .int .i64 len, .int .u64 h, .int .u64 l, .string ⟨p.toArray⟩] 26)).alloc (.cells #[.int .i64 0, .int .i64 0, .int .u64 0, .int .u64 0, .string ⟨#[]⟩] 26)) w.heap.size #[.int .i64 kd, .int .i64 len, .int .u64 h, .int .u64 l, .string ⟨p.toArray⟩] 26 := (Row.new _ _ _).alloc _
 have R1 : Row ((w.alloc (.cells #[.int .i64 kd, .int .i64 len, .int .u64 h, .int .u64 l, .string ⟨p.toArray⟩] 26)).alloc (.cells #[.int .i64 0, .int .i64 0, .int .u64 0, .int .u64 0, .string ⟨#[]⟩] 26)) (w.heap.size + 1) #[.int .i64 0, .int .i64 0, .int .u64 0, .int .u64 0, .string ⟨#[]⟩] 26 := by
  have := Row.new (w.alloc (.cells #[.int .i64 kd, .int .i64 len, .int .u64 h, .int .u64 l, .string ⟨p.toArray⟩] 26)) #[.int .i64 0, .int .i64 0, .int .u64 0, .int .u64 0, .string ⟨#[]⟩] 26
  rwa [World.size_alloc] at this
 have hb0 : Below w.heap.size w ((w.alloc (.cells #[.int .i64 kd, .int .i64 len, .int .u64 h, .int .u64 l, .string ⟨p.toArray⟩] 26)).alloc (.cells #[.int .i64 0, .int .i64 0, .int .u64 0, .int .u64 0, .string ⟨#[]⟩] 26)) := (by repeat (first | exact Below.refl _ _ | assumption | (with_reducible refine Below.drew ?_) | ((with_reducible first | refine Below.setCell ?_ ?h _ | refine Below.alloc ?_ ?h _ | refine Below.trans ?_ (hb.mono ?h) | refine Below.trans ?_ (hb0.mono ?h)); case h => first | omega | (simp; done) | (simp; omega))))
 by_cases h3 : kd = 3
 ·subst h3
  have HT := fun w1 => top_t p hp n w1
  have e : kv (topK ⟨3, len, h, l, p⟩ n) = .agg #[.int .i64 3, .int .i64 n, .int .u64 0, .int .u64 0, .string ⟨(topL p n).toArray⟩] := by unfold topK; rw [if_pos rfl]; rfl
  rw [e]
  unfold kv
  dsimp only
  generalize topL p n = q at *
  go_enter Tryz.func73, Tryz.ntmps73
  go_wp2_with fail
  refine (HT _).mono ?_
  rintro e w1 ⟨rfl, hb⟩
  replace R1 := R1.later hb
  have hb1 := below_step hb0 hb
  clear HT hb R0 hb0
  have c0 := ((R1).cell 0).trans (show _ = some (Value.int .i64 0) from rfl)
  have cf0 := (R1).frozen 0
  have c1 := ((R1).cell 1).trans (show _ = some (Value.int .i64 0) from rfl)
  have cf1 := (R1).frozen 1
  have c2 := ((R1).cell 2).trans (show _ = some (Value.int .u64 0) from rfl)
  have cf2 := (R1).frozen 2
  have c3 := ((R1).cell 3).trans (show _ = some (Value.int .u64 0) from rfl)
  have cf3 := (R1).frozen 3
  have c4 := ((R1).cell 4).trans (show _ = some (Value.string ⟨#[]⟩) from rfl)
  have cf4 := (R1).frozen 4
  clear R1
  go_wp2
  refine bodyPost_ret (v := .agg #[.int .i64 3, .int .i64 n, .int .u64 0, .int .u64 0, .string ⟨q.toArray⟩]) (by simp [results, Tryz.results73, go_sem, c0, c1, c2, c3, c4]) rfl ⟨rfl, bset5 hb1 (by omega) _ _ _ _ _⟩
 ·have hk3 : (kd == 3) = false := by simpa using h3
  have HB := bits_t kd len h l ⟨p.toArray⟩
  have HT := top_any h l n hh hl hn
  have e : kv (topK ⟨kd, len, h, l, p⟩ n) = .agg #[.int .i64 kd, .int .i64 n, .int .u64 (hi (andI (wv h l) (maskI n))), .int .u64 (lo (andI (wv h l) (maskI n))), .string ⟨#[]⟩] := by unfold topK; rw [if_neg h3]; rfl
  rw [e]
  clear e
  unfold kv
  dsimp only
  generalize hi (andI (wv h l) (maskI n)) = H at *
  generalize lo (andI (wv h l) (maskI n)) = L at *
  have HO := ofBits_t kd n H L
  go_enter Tryz.func73, Tryz.ntmps73
  go_wp2_with fail
  have c0 := ((R0).cell 0).trans (show _ = some (Value.int .i64 kd) from rfl)
  have cf0 := (R0).frozen 0
  have c1 := ((R0).cell 1).trans (show _ = some (Value.int .i64 len) from rfl)
  have cf1 := (R0).frozen 1
  have c2 := ((R0).cell 2).trans (show _ = some (Value.int .u64 h) from rfl)
  have cf2 := (R0).frozen 2
  have c3 := ((R0).cell 3).trans (show _ = some (Value.int .u64 l) from rfl)
  have cf3 := (R0).frozen 3
  have c4 := ((R0).cell 4).trans (show _ = some (Value.string ⟨p.toArray⟩) from rfl)
  have cf4 := (R0).frozen 4
  generalize (w.alloc (.cells #[.int .i64 kd, .int .i64 len, .int .u64 h, .int .u64 l, .string ⟨p.toArray⟩] 26)).alloc (.cells #[.int .i64 0, .int .i64 0, .int .u64 0, .int .u64 0, .string ⟨#[]⟩] 26) = w0 at *
  replace R1 := R1.drew
  replace hb0 := hb0.drew
  refine wp_region_held_drew (S := (fun w' => w'.cell? ⟨w.heap.size, 0, none⟩ = some (.int .i64 kd) ∧ w'.cell? ⟨w.heap.size, 1, none⟩ = some (.int .i64 len) ∧ w'.cell? ⟨w.heap.size, 2, none⟩ = some (.int .u64 h) ∧ w'.cell? ⟨w.heap.size, 3, none⟩ = some (.int .u64 l) ∧ w'.cell? ⟨w.heap.size, 4, none⟩ = some (.string ⟨p.toArray⟩))) (by kernel_rfl) ?hSr1_ (fun hH => ?_)
  case hSr1_ => (first | exact ⟨c0, c1, c2, c3, c4⟩ | (exact kc hb (kc hb (kc hb (kc hb (cl hb)))) hH))
  refine tk 0 ⟨some 14, .fieldAddr 26 (.tmp 2) 0, 0, _, _, _⟩ hH ?_
  refine tk 1 ⟨some 15, .load 3 (.tmp 14), 3, _, _, _⟩ hH ?_
  refine tk 2 ⟨some 16, .move (.tmp 1), 3, _, _, _⟩ hH ?_
  refine tk 3 ⟨some 17, .load 26 (.tmp 2), 26, _, _, _⟩ hH ?_
  refine tk 5 ⟨some 19, .move (.tmp 1), 3, _, _, _⟩ hH ?_
  refine wpAnyH_ready (rs := [4]) (by kernel_rfl) (by simp) ?_
  refine AllReadyH.cons (o := ⟨some 18, .call { callee := .value (.func 113), args := #[.tmp 17], argTypes := #[26] }, 73, _, _, _⟩) rfl (fun K hK => ?_) AllReadyH.nil
  go_simp
  ((refine (HB _).mono ?_); (rintro e wn ⟨rfl, hb⟩); (replace R1 := R1.later hb); (replace hb0 := below_step hb0 hb))
  go_wp2_with fail
  refine hK.out _ _ ?hSr1_6_4 fun _ => ?_
  case hSr1_6_4 => (first | exact ⟨c0, c1, c2, c3, c4⟩ | (exact kc hb (kc hb (kc hb (kc hb (cl hb)))) hH))
  clear hK K hH; rename_i hH
  (try simp only [Act.put, nz1, nz2, nz3])
  refine wpAnyH_ready (rs := [6]) (by kernel_rfl) (by simp) ?_
  refine AllReadyH.cons (o := ⟨some 20, .call { callee := .value (.func 112), args := #[.tmp 18, .tmp 19], argTypes := #[73, 3] }, 73, _, _, _⟩) rfl (fun K hK => ?_) AllReadyH.nil
  go_simp
  ((refine (HT _).mono ?_); (rintro e wn ⟨rfl, hb⟩); (replace R1 := R1.later hb); (replace hb0 := below_step hb0 hb))
  go_wp2_with fail
  refine hK.out _ _ ?hSr1_7_6 fun _ => ?_
  case hSr1_7_6 => (first | exact ⟨c0, c1, c2, c3, c4⟩ | (exact kc hb (kc hb (kc hb (kc hb (cl hb)))) hH))
  clear hK K hH; rename_i hH
  (try simp only [Act.put, nz1, nz2, nz3])
  refine wpAnyH_ready (rs := [7]) (by kernel_rfl) (by simp) ?_
  refine AllReadyH.cons (o := ⟨some 21, .call { callee := .value (.func 98), args := #[.tmp 15, .tmp 16, .tmp 20], argTypes := #[3, 3, 73] }, 26, _, _, _⟩) rfl (fun K hK => ?_) AllReadyH.nil
  go_simp
  ((refine (HO _).mono ?_); (rintro e wn ⟨rfl, hb⟩); (replace R1 := R1.later hb); (replace hb0 := below_step hb0 hb))
  go_wp2_with fail
  refine hK.out _ _ ?hSr1_8_7 fun _ => ?_
  case hSr1_8_7 => (first | exact ⟨c0, c1, c2, c3, c4⟩ | (exact kc hb (kc hb (kc hb (kc hb (cl hb)))) hH))
  clear hK K hH; rename_i hH
  (try simp only [Act.put, nz1, nz2, nz3])
  refine wpAnyH_ready (rs := [8]) (by kernel_rfl) (by simp) ?_
  refine AllReadyH.cons (o := ⟨none, .store 26 (.tmp 4) (.tmp 21), 0, _, _, _⟩) rfl (fun K hK => ?_) AllReadyH.nil
  ((have z0 := R1.cell 0); (have z1 := R1.cell 1); (have z2 := R1.cell 2); (have z3 := R1.cell 3); (have z4 := R1.cell 4); (simp at z0 z1 z2 z3 z4); (have zf0 := R1.frozen 0); (have zf1 := R1.frozen 1); (have zf2 := R1.frozen 2); (have zf3 := R1.frozen 3); (have zf4 := R1.frozen 4); go_simp)
  refine hK.out _ _ ?hSr1_9_8 fun _ => ?_
  case hSr1_9_8 => (obtain ⟨s0, s1, s2, s3, s4⟩ := hH; exact ⟨by simp [go_sem, s0], by simp [go_sem, s1], by simp [go_sem, s2], by simp [go_sem, s3], by simp [go_sem, s4]⟩)
  clear hK K hH; rename_i hH
  (try simp only [Act.put, nz1, nz2, nz3])
  refine wpAnyH_done (by kernel_rfl) ?_ _
  (go_wp2_with fail; exact bodyPost_ret (v := .agg #[.int .i64 kd, .int .i64 n, .int .u64 H, .int .u64 L, .string ⟨#[]⟩]) (by simp [results, Tryz.results73, go_sem, z0, z1, z2, z3, z4]) rfl ⟨rfl, bset5 hb0 (by omega) _ _ _ _ _⟩)
def eqK (a0 a1 a2 a3 : Int) (a4 : ByteArray) (b0 b1 b2 b3 : Int) (b4 : ByteArray) : Bool := decide (a0 = b0 ∧ a1 = b1 ∧ a2 = b2 ∧ a3 = b3 ∧ a4 = b4)
theorem ba_ne {a b : ByteArray} (h : ¬ a = b) : ¬ a.toList = b.toList := fun e => h (by rw [ByteArray.toList_eq, ByteArray.toList_eq] at e; exact ByteArray.ext (Array.toList_inj.1 e))
theorem eql_key (a0 a1 a2 a3 : Int) (a4 : ByteArray) (b0 b1 b2 b3 : Int) (b4 : ByteArray) (w : World) : (binOp .eql 26 (.agg #[.int .i64 a0, .int .i64 a1, .int .u64 a2, .int .u64 a3, .string a4]) (.agg #[.int .i64 b0, .int .i64 b1, .int .u64 b2, .int .u64 b3, .string b4])).run Tryz.prog w = .ok (.bool (eqK a0 a1 a2 a3 a4 b0 b1 b2 b3 b4)) w := by
 unfold eqK
 by_cases h4 : a4 = b4
 ·by_cases h0 : a0 = b0 <;> by_cases h1 : a1 = b1 <;> by_cases h2 : a2 = b2 <;> by_cases h3 : a3 = b3 <;> simp [go_sem, h0, h1, h2, h3, h4]
 ·have h5 := ba_ne h4
  by_cases h0 : a0 = b0 <;> by_cases h1 : a1 = b1 <;> by_cases h2 : a2 = b2 <;> by_cases h3 : a3 = b3 <;> simp [go_sem, h0, h1, h2, h3, h4, h5]
theorem eqK_ke (a b : Ke) : eqK a.kind a.len a.h a.l ⟨a.path.toArray⟩ b.kind b.len b.h b.l ⟨b.path.toArray⟩ = decide (a = b) := by
 unfold eqK
 rw [decide_eq_decide]
 constructor
 ·rintro ⟨h0, h1, h2, h3, h4⟩; exact ke_ext h0 h1 h2 h3 ((str_eq _ _).1 h4)
 ·rintro rfl; exact ⟨rfl, rfl, rfl, rfl, rfl⟩
structure Ke.ok (k : Ke) : Prop where
 h : Word k.h
 l : Word k.l
 k0 : -9223372036854775808 ≤ k.kind
 k1 : k.kind ≤ 9223372036854775807
 n0 : -9223372036854775808 ≤ k.len
 n1 : k.len ≤ 9223372036854775807
 path : k.path.length ≤ 140737488355328
theorem kright_t (k : Ke) (ok : k.ok) (w : World) : Calls Tryz.prog 35 #[kv k] w fun e w' => e = .returned (.bool (rightK k)) ∧ Below w.heap.size w w' := by
 have HT := ktop_t k k.len ok.h ok.l ok.n1 ok.path
 have HP := ofPath_t k.path ok.path
 have HE := eqK_ke k (topK k k.len)
 have HF := eqK_ke k (pathK k.path)
 have HR := right_t k.path ok.path
 have HD : rightK k = if k.kind = 1 ∨ k.kind = 2 then decide (0 ≤ k.len) && decide (k.len ≤ wid k.kind) && decide (k = topK k k.len) else if k.kind = 3 then rightB k.path && decide (k = pathK k.path) else false := rfl
 rw [← HE, ← HF] at HD
 obtain ⟨kd, len, h, l, p⟩ := k
 have okn := ok.n1
 dsimp only at *
 unfold kv at HT HP
 generalize topK ⟨kd, len, h, l, p⟩ len = t at *
 generalize pathK p = u at *
 obtain ⟨t0, t1, t2, t3, t4⟩ := t
 obtain ⟨u0, u1, u2, u3, u4⟩ := u
 dsimp only at *
 clear ok HE HF
 generalize rightB p = rp at *
 generalize rightK _ = rk at *
 have R0 := (Row.new w #[.int .i64 kd, .int .i64 len, .int .u64 h, .int .u64 l, .string ⟨p.toArray⟩] 26).drew
 have hb0 : Below w.heap.size w (w.alloc (.cells #[.int .i64 kd, .int .i64 len, .int .u64 h, .int .u64 l, .string ⟨p.toArray⟩] 26)).drew := Below.drew (by repeat (first | exact Below.refl _ _ | assumption | (with_reducible refine Below.drew ?_) | ((with_reducible first | refine Below.setCell ?_ ?h _ | refine Below.alloc ?_ ?h _ | refine Below.trans ?_ (hb.mono ?h) | refine Below.trans ?_ (hb0.mono ?h)); case h => first | omega | (simp; done) | (simp; omega))))
 have c0 := ((R0).cell 0).trans (show _ = some (Value.int .i64 kd) from rfl)
 have cf0 := (R0).frozen 0
 have c1 := ((R0).cell 1).trans (show _ = some (Value.int .i64 len) from rfl)
 have cf1 := (R0).frozen 1
 have c2 := ((R0).cell 2).trans (show _ = some (Value.int .u64 h) from rfl)
 have cf2 := (R0).frozen 2
 have c3 := ((R0).cell 3).trans (show _ = some (Value.int .u64 l) from rfl)
 have cf3 := (R0).frozen 3
 have c4 := ((R0).cell 4).trans (show _ = some (Value.string ⟨p.toArray⟩) from rfl)
 have cf4 := (R0).frozen 4
 have q := eql_key
 unfold kv
 dsimp only
 have HW := width_t kd
 by_cases k1 : kd = 1 ∨ kd = 2
 ·rw [if_pos k1] at HD
  by_cases n0 : 0 ≤ len
  ·have d0 : decide (0 ≤ len) = true := by simpa using n0
   by_cases n1 : len ≤ wid kd
   ·have HD' : rk = eqK kd len h l ⟨p.toArray⟩ t0 t1 t2 t3 ⟨t4.toArray⟩ := by rw [HD]; simp [n0, n1]
    have d1 : decide (len ≤ wid kd) = true := by simpa using n1
    rw [HD']
    generalize wid kd = wd at *
    clear HD HD' HP HR u0 u1 u2 u3 u4
    rcases k1 with rfl | rfl
    ·go_enter Tryz.func35, Tryz.ntmps35
     go_wp2_with fail
     refine wp_region_held_drew (S := (fun w' => w'.cell? ⟨w.heap.size, 0, none⟩ = some (.int .i64 1) ∧ w'.cell? ⟨w.heap.size, 1, none⟩ = some (.int .i64 len) ∧ w'.cell? ⟨w.heap.size, 2, none⟩ = some (.int .u64 h) ∧ w'.cell? ⟨w.heap.size, 3, none⟩ = some (.int .u64 l) ∧ w'.cell? ⟨w.heap.size, 4, none⟩ = some (.string ⟨p.toArray⟩) ∧ Below w.heap.size w w')) (by kernel_rfl) ?hSr1_ (fun hH => ?_)
     case hSr1_ => (first | exact ⟨c0, c1, c2, c3, c4, hb0⟩ | (obtain ⟨s0, s1, s2, s3, s4, s5⟩ := hH; exact ⟨cl hb s0, cl hb s1, cl hb s2, cl hb s3, cl hb s4, below_step s5 hb⟩))
     refine tk 0 ⟨some 8, .fieldAddr 26 (.tmp 1) 1, 0, _, _, _⟩ hH ?_
     refine tk 1 ⟨some 9, .load 3 (.tmp 8), 3, _, _, _⟩ hH ?_
     refine tk 2 ⟨some 10, .binOp .geq 3 (.tmp 9) (.const (.int .i64 0)) 3, 4, _, _, _⟩ hH ?_
     refine tk 3 ⟨some 11, .move (.tmp 10), 4, _, _, _⟩ hH ?_
     refine tk 4 ⟨some 12, .fieldAddr 26 (.tmp 1) 1, 0, _, _, _⟩ hH ?_
     refine tk 5 ⟨some 13, .load 3 (.tmp 12), 3, _, _, _⟩ hH ?_
     refine tk 6 ⟨some 14, .fieldAddr 26 (.tmp 1) 0, 0, _, _, _⟩ hH ?_
     refine tk 7 ⟨some 15, .load 3 (.tmp 14), 3, _, _, _⟩ hH ?_
     refine wpAnyH_ready (rs := [8]) (by kernel_rfl) (by simp) ?_
     refine AllReadyH.cons (o := ⟨some 16, .call { callee := .value (.func 24), args := #[.tmp 15], argTypes := #[3] }, 3, _, _, _⟩) rfl (fun K hK => ?_) AllReadyH.nil
     go_simp
     ((refine (HW _).mono ?_); (rintro e wn ⟨rfl, hb⟩))
     go_wp2_with fail
     refine hK.out _ _ ?hSr1_9_8 fun _ => ?_
     case hSr1_9_8 => (first | exact ⟨c0, c1, c2, c3, c4, hb0⟩ | (obtain ⟨s0, s1, s2, s3, s4, s5⟩ := hH; exact ⟨cl hb s0, cl hb s1, cl hb s2, cl hb s3, cl hb s4, below_step s5 hb⟩))
     clear hK K hH; rename_i hH
     (try simp only [Act.put, nz1, nz2, nz3])
     refine tk 9 ⟨some 17, .binOp .leq 3 (.tmp 13) (.tmp 16) 3, 4, _, _, _⟩ hH ?_
     refine tk 10 ⟨some 18, .pick (.tmp 11) (.tmp 17) (.const (.bool false)), 4, _, _, _⟩ hH ?_
     refine tk 11 ⟨some 19, .move (.tmp 18), 4, _, _, _⟩ hH ?_
     refine tk 12 ⟨some 20, .load 26 (.tmp 1), 26, _, _, _⟩ hH ?_
     refine tk 13 ⟨some 21, .load 26 (.tmp 1), 26, _, _, _⟩ hH ?_
     refine tk 14 ⟨some 22, .fieldAddr 26 (.tmp 1) 1, 0, _, _, _⟩ hH ?_
     refine tk 15 ⟨some 23, .load 3 (.tmp 22), 3, _, _, _⟩ hH ?_
     refine wpAnyH_ready (rs := [16]) (by kernel_rfl) (by simp) ?_
     refine AllReadyH.cons (o := ⟨some 24, .call { callee := .value (.func 73), args := #[.tmp 21, .tmp 23], argTypes := #[26, 3] }, 26, _, _, _⟩) rfl (fun K hK => ?_) AllReadyH.nil
     go_simp
     ((refine (HT _).mono ?_); (rintro e wn ⟨rfl, hb⟩))
     go_wp2_with fail
     refine hK.out _ _ ?hSr1_17_16 fun _ => ?_
     case hSr1_17_16 => (first | exact ⟨c0, c1, c2, c3, c4, hb0⟩ | (obtain ⟨s0, s1, s2, s3, s4, s5⟩ := hH; exact ⟨cl hb s0, cl hb s1, cl hb s2, cl hb s3, cl hb s4, below_step s5 hb⟩))
     clear hK K hH; rename_i hH
     (try simp only [Act.put, nz1, nz2, nz3])
     refine tk 17 ⟨some 25, .binOp .eql 26 (.tmp 20) (.tmp 24) 26, 4, _, _, _⟩ hH ?_
     refine tk 18 ⟨some 26, .pick (.tmp 19) (.tmp 25) (.const (.bool false)), 4, _, _, _⟩ hH ?_
     refine tk 19 ⟨some 2, .assign (.tmp 26), 4, _, _, _⟩ hH ?_
     refine wpAnyH_done (by kernel_rfl) ?_ _
     go_wp2
     go_ret
     exact ⟨rfl, hH.2.2.2.2.2⟩
    ·go_enter Tryz.func35, Tryz.ntmps35
     go_wp2_with fail
     refine wp_region_held_drew (S := (fun w' => w'.cell? ⟨w.heap.size, 0, none⟩ = some (.int .i64 2) ∧ w'.cell? ⟨w.heap.size, 1, none⟩ = some (.int .i64 len) ∧ w'.cell? ⟨w.heap.size, 2, none⟩ = some (.int .u64 h) ∧ w'.cell? ⟨w.heap.size, 3, none⟩ = some (.int .u64 l) ∧ w'.cell? ⟨w.heap.size, 4, none⟩ = some (.string ⟨p.toArray⟩) ∧ Below w.heap.size w w')) (by kernel_rfl) ?hSr2_ (fun hH => ?_)
     case hSr2_ => (first | exact ⟨c0, c1, c2, c3, c4, hb0⟩ | (obtain ⟨s0, s1, s2, s3, s4, s5⟩ := hH; exact ⟨cl hb s0, cl hb s1, cl hb s2, cl hb s3, cl hb s4, below_step s5 hb⟩))
     refine tk 0 ⟨some 8, .fieldAddr 26 (.tmp 1) 1, 0, _, _, _⟩ hH ?_
     refine tk 1 ⟨some 9, .load 3 (.tmp 8), 3, _, _, _⟩ hH ?_
     refine tk 2 ⟨some 10, .binOp .geq 3 (.tmp 9) (.const (.int .i64 0)) 3, 4, _, _, _⟩ hH ?_
     refine tk 3 ⟨some 11, .move (.tmp 10), 4, _, _, _⟩ hH ?_
     refine tk 4 ⟨some 12, .fieldAddr 26 (.tmp 1) 1, 0, _, _, _⟩ hH ?_
     refine tk 5 ⟨some 13, .load 3 (.tmp 12), 3, _, _, _⟩ hH ?_
     refine tk 6 ⟨some 14, .fieldAddr 26 (.tmp 1) 0, 0, _, _, _⟩ hH ?_
     refine tk 7 ⟨some 15, .load 3 (.tmp 14), 3, _, _, _⟩ hH ?_
     refine wpAnyH_ready (rs := [8]) (by kernel_rfl) (by simp) ?_
     refine AllReadyH.cons (o := ⟨some 16, .call { callee := .value (.func 24), args := #[.tmp 15], argTypes := #[3] }, 3, _, _, _⟩) rfl (fun K hK => ?_) AllReadyH.nil
     go_simp
     ((refine (HW _).mono ?_); (rintro e wn ⟨rfl, hb⟩))
     go_wp2_with fail
     refine hK.out _ _ ?hSr2_9_8 fun _ => ?_
     case hSr2_9_8 => (first | exact ⟨c0, c1, c2, c3, c4, hb0⟩ | (obtain ⟨s0, s1, s2, s3, s4, s5⟩ := hH; exact ⟨cl hb s0, cl hb s1, cl hb s2, cl hb s3, cl hb s4, below_step s5 hb⟩))
     clear hK K hH; rename_i hH
     (try simp only [Act.put, nz1, nz2, nz3])
     refine tk 9 ⟨some 17, .binOp .leq 3 (.tmp 13) (.tmp 16) 3, 4, _, _, _⟩ hH ?_
     refine tk 10 ⟨some 18, .pick (.tmp 11) (.tmp 17) (.const (.bool false)), 4, _, _, _⟩ hH ?_
     refine tk 11 ⟨some 19, .move (.tmp 18), 4, _, _, _⟩ hH ?_
     refine tk 12 ⟨some 20, .load 26 (.tmp 1), 26, _, _, _⟩ hH ?_
     refine tk 13 ⟨some 21, .load 26 (.tmp 1), 26, _, _, _⟩ hH ?_
     refine tk 14 ⟨some 22, .fieldAddr 26 (.tmp 1) 1, 0, _, _, _⟩ hH ?_
     refine tk 15 ⟨some 23, .load 3 (.tmp 22), 3, _, _, _⟩ hH ?_
     refine wpAnyH_ready (rs := [16]) (by kernel_rfl) (by simp) ?_
     refine AllReadyH.cons (o := ⟨some 24, .call { callee := .value (.func 73), args := #[.tmp 21, .tmp 23], argTypes := #[26, 3] }, 26, _, _, _⟩) rfl (fun K hK => ?_) AllReadyH.nil
     go_simp
     ((refine (HT _).mono ?_); (rintro e wn ⟨rfl, hb⟩))
     go_wp2_with fail
     refine hK.out _ _ ?hSr2_17_16 fun _ => ?_
     case hSr2_17_16 => (first | exact ⟨c0, c1, c2, c3, c4, hb0⟩ | (obtain ⟨s0, s1, s2, s3, s4, s5⟩ := hH; exact ⟨cl hb s0, cl hb s1, cl hb s2, cl hb s3, cl hb s4, below_step s5 hb⟩))
     clear hK K hH; rename_i hH
     (try simp only [Act.put, nz1, nz2, nz3])
     refine tk 17 ⟨some 25, .binOp .eql 26 (.tmp 20) (.tmp 24) 26, 4, _, _, _⟩ hH ?_
     refine tk 18 ⟨some 26, .pick (.tmp 19) (.tmp 25) (.const (.bool false)), 4, _, _, _⟩ hH ?_
     refine tk 19 ⟨some 2, .assign (.tmp 26), 4, _, _, _⟩ hH ?_
     refine wpAnyH_done (by kernel_rfl) ?_ _
     go_wp2
     go_ret
     exact ⟨rfl, hH.2.2.2.2.2⟩
   ·have HD' : rk = false := by rw [HD]; simp [n0, n1]
    have d1 : decide (len ≤ wid kd) = false := by simpa using n1
    rw [HD']
    generalize wid kd = wd at *
    clear HD HD' HP HR u0 u1 u2 u3 u4
    rcases k1 with rfl | rfl
    ·go_enter Tryz.func35, Tryz.ntmps35
     go_wp2_with fail
     refine wp_region_held_drew (S := (fun w' => w'.cell? ⟨w.heap.size, 0, none⟩ = some (.int .i64 1) ∧ w'.cell? ⟨w.heap.size, 1, none⟩ = some (.int .i64 len) ∧ w'.cell? ⟨w.heap.size, 2, none⟩ = some (.int .u64 h) ∧ w'.cell? ⟨w.heap.size, 3, none⟩ = some (.int .u64 l) ∧ w'.cell? ⟨w.heap.size, 4, none⟩ = some (.string ⟨p.toArray⟩) ∧ Below w.heap.size w w')) (by kernel_rfl) ?hSr3_ (fun hH => ?_)
     case hSr3_ => (first | exact ⟨c0, c1, c2, c3, c4, hb0⟩ | (obtain ⟨s0, s1, s2, s3, s4, s5⟩ := hH; exact ⟨cl hb s0, cl hb s1, cl hb s2, cl hb s3, cl hb s4, below_step s5 hb⟩))
     refine tk 0 ⟨some 8, .fieldAddr 26 (.tmp 1) 1, 0, _, _, _⟩ hH ?_
     refine tk 1 ⟨some 9, .load 3 (.tmp 8), 3, _, _, _⟩ hH ?_
     refine tk 2 ⟨some 10, .binOp .geq 3 (.tmp 9) (.const (.int .i64 0)) 3, 4, _, _, _⟩ hH ?_
     refine tk 3 ⟨some 11, .move (.tmp 10), 4, _, _, _⟩ hH ?_
     refine tk 4 ⟨some 12, .fieldAddr 26 (.tmp 1) 1, 0, _, _, _⟩ hH ?_
     refine tk 5 ⟨some 13, .load 3 (.tmp 12), 3, _, _, _⟩ hH ?_
     refine tk 6 ⟨some 14, .fieldAddr 26 (.tmp 1) 0, 0, _, _, _⟩ hH ?_
     refine tk 7 ⟨some 15, .load 3 (.tmp 14), 3, _, _, _⟩ hH ?_
     refine wpAnyH_ready (rs := [8]) (by kernel_rfl) (by simp) ?_
     refine AllReadyH.cons (o := ⟨some 16, .call { callee := .value (.func 24), args := #[.tmp 15], argTypes := #[3] }, 3, _, _, _⟩) rfl (fun K hK => ?_) AllReadyH.nil
     go_simp
     ((refine (HW _).mono ?_); (rintro e wn ⟨rfl, hb⟩))
     go_wp2_with fail
     refine hK.out _ _ ?hSr3_9_8 fun _ => ?_
     case hSr3_9_8 => (first | exact ⟨c0, c1, c2, c3, c4, hb0⟩ | (obtain ⟨s0, s1, s2, s3, s4, s5⟩ := hH; exact ⟨cl hb s0, cl hb s1, cl hb s2, cl hb s3, cl hb s4, below_step s5 hb⟩))
     clear hK K hH; rename_i hH
     (try simp only [Act.put, nz1, nz2, nz3])
     refine tk 9 ⟨some 17, .binOp .leq 3 (.tmp 13) (.tmp 16) 3, 4, _, _, _⟩ hH ?_
     refine tk 10 ⟨some 18, .pick (.tmp 11) (.tmp 17) (.const (.bool false)), 4, _, _, _⟩ hH ?_
     refine tk 11 ⟨some 19, .move (.tmp 18), 4, _, _, _⟩ hH ?_
     refine ts 12 ⟨some 20, .load 26 (.tmp 1), 26, _, _, _⟩ hH ?_
     refine ts 13 ⟨some 21, .load 26 (.tmp 1), 26, _, _, _⟩ hH ?_
     refine ts 14 ⟨some 22, .fieldAddr 26 (.tmp 1) 1, 0, _, _, _⟩ hH ?_
     refine ts 15 ⟨some 23, .load 3 (.tmp 22), 3, _, _, _⟩ hH ?_
     refine ts 16 ⟨some 24, .call { callee := .value (.func 73), args := #[.tmp 21, .tmp 23], argTypes := #[26, 3] }, 26, _, _, _⟩ hH ?_
     refine ts 17 ⟨some 25, .binOp .eql 26 (.tmp 20) (.tmp 24) 26, 4, _, _, _⟩ hH ?_
     refine tk 18 ⟨some 26, .pick (.tmp 19) (.tmp 25) (.const (.bool false)), 4, _, _, _⟩ hH ?_
     refine tk 19 ⟨some 2, .assign (.tmp 26), 4, _, _, _⟩ hH ?_
     refine wpAnyH_done (by kernel_rfl) ?_ _
     go_wp2
     go_ret
     exact ⟨rfl, hH.2.2.2.2.2⟩
    ·go_enter Tryz.func35, Tryz.ntmps35
     go_wp2_with fail
     refine wp_region_held_drew (S := (fun w' => w'.cell? ⟨w.heap.size, 0, none⟩ = some (.int .i64 2) ∧ w'.cell? ⟨w.heap.size, 1, none⟩ = some (.int .i64 len) ∧ w'.cell? ⟨w.heap.size, 2, none⟩ = some (.int .u64 h) ∧ w'.cell? ⟨w.heap.size, 3, none⟩ = some (.int .u64 l) ∧ w'.cell? ⟨w.heap.size, 4, none⟩ = some (.string ⟨p.toArray⟩) ∧ Below w.heap.size w w')) (by kernel_rfl) ?hSr4_ (fun hH => ?_)
     case hSr4_ => (first | exact ⟨c0, c1, c2, c3, c4, hb0⟩ | (obtain ⟨s0, s1, s2, s3, s4, s5⟩ := hH; exact ⟨cl hb s0, cl hb s1, cl hb s2, cl hb s3, cl hb s4, below_step s5 hb⟩))
     refine tk 0 ⟨some 8, .fieldAddr 26 (.tmp 1) 1, 0, _, _, _⟩ hH ?_
     refine tk 1 ⟨some 9, .load 3 (.tmp 8), 3, _, _, _⟩ hH ?_
     refine tk 2 ⟨some 10, .binOp .geq 3 (.tmp 9) (.const (.int .i64 0)) 3, 4, _, _, _⟩ hH ?_
     refine tk 3 ⟨some 11, .move (.tmp 10), 4, _, _, _⟩ hH ?_
     refine tk 4 ⟨some 12, .fieldAddr 26 (.tmp 1) 1, 0, _, _, _⟩ hH ?_
     refine tk 5 ⟨some 13, .load 3 (.tmp 12), 3, _, _, _⟩ hH ?_
     refine tk 6 ⟨some 14, .fieldAddr 26 (.tmp 1) 0, 0, _, _, _⟩ hH ?_
     refine tk 7 ⟨some 15, .load 3 (.tmp 14), 3, _, _, _⟩ hH ?_
     refine wpAnyH_ready (rs := [8]) (by kernel_rfl) (by simp) ?_
     refine AllReadyH.cons (o := ⟨some 16, .call { callee := .value (.func 24), args := #[.tmp 15], argTypes := #[3] }, 3, _, _, _⟩) rfl (fun K hK => ?_) AllReadyH.nil
     go_simp
     ((refine (HW _).mono ?_); (rintro e wn ⟨rfl, hb⟩))
     go_wp2_with fail
     refine hK.out _ _ ?hSr4_9_8 fun _ => ?_
     case hSr4_9_8 => (first | exact ⟨c0, c1, c2, c3, c4, hb0⟩ | (obtain ⟨s0, s1, s2, s3, s4, s5⟩ := hH; exact ⟨cl hb s0, cl hb s1, cl hb s2, cl hb s3, cl hb s4, below_step s5 hb⟩))
     clear hK K hH; rename_i hH
     (try simp only [Act.put, nz1, nz2, nz3])
     refine tk 9 ⟨some 17, .binOp .leq 3 (.tmp 13) (.tmp 16) 3, 4, _, _, _⟩ hH ?_
     refine tk 10 ⟨some 18, .pick (.tmp 11) (.tmp 17) (.const (.bool false)), 4, _, _, _⟩ hH ?_
     refine tk 11 ⟨some 19, .move (.tmp 18), 4, _, _, _⟩ hH ?_
     refine ts 12 ⟨some 20, .load 26 (.tmp 1), 26, _, _, _⟩ hH ?_
     refine ts 13 ⟨some 21, .load 26 (.tmp 1), 26, _, _, _⟩ hH ?_
     refine ts 14 ⟨some 22, .fieldAddr 26 (.tmp 1) 1, 0, _, _, _⟩ hH ?_
     refine ts 15 ⟨some 23, .load 3 (.tmp 22), 3, _, _, _⟩ hH ?_
     refine ts 16 ⟨some 24, .call { callee := .value (.func 73), args := #[.tmp 21, .tmp 23], argTypes := #[26, 3] }, 26, _, _, _⟩ hH ?_
     refine ts 17 ⟨some 25, .binOp .eql 26 (.tmp 20) (.tmp 24) 26, 4, _, _, _⟩ hH ?_
     refine tk 18 ⟨some 26, .pick (.tmp 19) (.tmp 25) (.const (.bool false)), 4, _, _, _⟩ hH ?_
     refine tk 19 ⟨some 2, .assign (.tmp 26), 4, _, _, _⟩ hH ?_
     refine wpAnyH_done (by kernel_rfl) ?_ _
     go_wp2
     go_ret
     exact ⟨rfl, hH.2.2.2.2.2⟩
  ·have HD' : rk = false := by rw [HD]; simp [n0]
   have d0 : decide (0 ≤ len) = false := by simpa using n0
   rw [HD']
   clear HD HD' HP HR u0 u1 u2 u3 u4 HW
   rcases k1 with rfl | rfl
   ·go_enter Tryz.func35, Tryz.ntmps35
    go_wp2_with fail
    refine wp_region_held_drew (S := (fun w' => w'.cell? ⟨w.heap.size, 0, none⟩ = some (.int .i64 1) ∧ w'.cell? ⟨w.heap.size, 1, none⟩ = some (.int .i64 len) ∧ w'.cell? ⟨w.heap.size, 2, none⟩ = some (.int .u64 h) ∧ w'.cell? ⟨w.heap.size, 3, none⟩ = some (.int .u64 l) ∧ w'.cell? ⟨w.heap.size, 4, none⟩ = some (.string ⟨p.toArray⟩) ∧ Below w.heap.size w w')) (by kernel_rfl) ?hSr5_ (fun hH => ?_)
    case hSr5_ => (first | exact ⟨c0, c1, c2, c3, c4, hb0⟩ | (obtain ⟨s0, s1, s2, s3, s4, s5⟩ := hH; exact ⟨cl hb s0, cl hb s1, cl hb s2, cl hb s3, cl hb s4, below_step s5 hb⟩))
    refine tk 0 ⟨some 8, .fieldAddr 26 (.tmp 1) 1, 0, _, _, _⟩ hH ?_
    refine tk 1 ⟨some 9, .load 3 (.tmp 8), 3, _, _, _⟩ hH ?_
    refine tk 2 ⟨some 10, .binOp .geq 3 (.tmp 9) (.const (.int .i64 0)) 3, 4, _, _, _⟩ hH ?_
    refine tk 3 ⟨some 11, .move (.tmp 10), 4, _, _, _⟩ hH ?_
    refine ts 4 ⟨some 12, .fieldAddr 26 (.tmp 1) 1, 0, _, _, _⟩ hH ?_
    refine ts 5 ⟨some 13, .load 3 (.tmp 12), 3, _, _, _⟩ hH ?_
    refine ts 6 ⟨some 14, .fieldAddr 26 (.tmp 1) 0, 0, _, _, _⟩ hH ?_
    refine ts 7 ⟨some 15, .load 3 (.tmp 14), 3, _, _, _⟩ hH ?_
    refine ts 8 ⟨some 16, .call { callee := .value (.func 24), args := #[.tmp 15], argTypes := #[3] }, 3, _, _, _⟩ hH ?_
    refine ts 9 ⟨some 17, .binOp .leq 3 (.tmp 13) (.tmp 16) 3, 4, _, _, _⟩ hH ?_
    refine tk 10 ⟨some 18, .pick (.tmp 11) (.tmp 17) (.const (.bool false)), 4, _, _, _⟩ hH ?_
    refine tk 11 ⟨some 19, .move (.tmp 18), 4, _, _, _⟩ hH ?_
    refine ts 12 ⟨some 20, .load 26 (.tmp 1), 26, _, _, _⟩ hH ?_
    refine ts 13 ⟨some 21, .load 26 (.tmp 1), 26, _, _, _⟩ hH ?_
    refine ts 14 ⟨some 22, .fieldAddr 26 (.tmp 1) 1, 0, _, _, _⟩ hH ?_
    refine ts 15 ⟨some 23, .load 3 (.tmp 22), 3, _, _, _⟩ hH ?_
    refine ts 16 ⟨some 24, .call { callee := .value (.func 73), args := #[.tmp 21, .tmp 23], argTypes := #[26, 3] }, 26, _, _, _⟩ hH ?_
    refine ts 17 ⟨some 25, .binOp .eql 26 (.tmp 20) (.tmp 24) 26, 4, _, _, _⟩ hH ?_
    refine tk 18 ⟨some 26, .pick (.tmp 19) (.tmp 25) (.const (.bool false)), 4, _, _, _⟩ hH ?_
    refine tk 19 ⟨some 2, .assign (.tmp 26), 4, _, _, _⟩ hH ?_
    refine wpAnyH_done (by kernel_rfl) ?_ _
    go_wp2
    go_ret
    exact ⟨rfl, hH.2.2.2.2.2⟩
   ·go_enter Tryz.func35, Tryz.ntmps35
    go_wp2_with fail
    refine wp_region_held_drew (S := (fun w' => w'.cell? ⟨w.heap.size, 0, none⟩ = some (.int .i64 2) ∧ w'.cell? ⟨w.heap.size, 1, none⟩ = some (.int .i64 len) ∧ w'.cell? ⟨w.heap.size, 2, none⟩ = some (.int .u64 h) ∧ w'.cell? ⟨w.heap.size, 3, none⟩ = some (.int .u64 l) ∧ w'.cell? ⟨w.heap.size, 4, none⟩ = some (.string ⟨p.toArray⟩) ∧ Below w.heap.size w w')) (by kernel_rfl) ?hSr6_ (fun hH => ?_)
    case hSr6_ => (first | exact ⟨c0, c1, c2, c3, c4, hb0⟩ | (obtain ⟨s0, s1, s2, s3, s4, s5⟩ := hH; exact ⟨cl hb s0, cl hb s1, cl hb s2, cl hb s3, cl hb s4, below_step s5 hb⟩))
    refine tk 0 ⟨some 8, .fieldAddr 26 (.tmp 1) 1, 0, _, _, _⟩ hH ?_
    refine tk 1 ⟨some 9, .load 3 (.tmp 8), 3, _, _, _⟩ hH ?_
    refine tk 2 ⟨some 10, .binOp .geq 3 (.tmp 9) (.const (.int .i64 0)) 3, 4, _, _, _⟩ hH ?_
    refine tk 3 ⟨some 11, .move (.tmp 10), 4, _, _, _⟩ hH ?_
    refine ts 4 ⟨some 12, .fieldAddr 26 (.tmp 1) 1, 0, _, _, _⟩ hH ?_
    refine ts 5 ⟨some 13, .load 3 (.tmp 12), 3, _, _, _⟩ hH ?_
    refine ts 6 ⟨some 14, .fieldAddr 26 (.tmp 1) 0, 0, _, _, _⟩ hH ?_
    refine ts 7 ⟨some 15, .load 3 (.tmp 14), 3, _, _, _⟩ hH ?_
    refine ts 8 ⟨some 16, .call { callee := .value (.func 24), args := #[.tmp 15], argTypes := #[3] }, 3, _, _, _⟩ hH ?_
    refine ts 9 ⟨some 17, .binOp .leq 3 (.tmp 13) (.tmp 16) 3, 4, _, _, _⟩ hH ?_
    refine tk 10 ⟨some 18, .pick (.tmp 11) (.tmp 17) (.const (.bool false)), 4, _, _, _⟩ hH ?_
    refine tk 11 ⟨some 19, .move (.tmp 18), 4, _, _, _⟩ hH ?_
    refine ts 12 ⟨some 20, .load 26 (.tmp 1), 26, _, _, _⟩ hH ?_
    refine ts 13 ⟨some 21, .load 26 (.tmp 1), 26, _, _, _⟩ hH ?_
    refine ts 14 ⟨some 22, .fieldAddr 26 (.tmp 1) 1, 0, _, _, _⟩ hH ?_
    refine ts 15 ⟨some 23, .load 3 (.tmp 22), 3, _, _, _⟩ hH ?_
    refine ts 16 ⟨some 24, .call { callee := .value (.func 73), args := #[.tmp 21, .tmp 23], argTypes := #[26, 3] }, 26, _, _, _⟩ hH ?_
    refine ts 17 ⟨some 25, .binOp .eql 26 (.tmp 20) (.tmp 24) 26, 4, _, _, _⟩ hH ?_
    refine tk 18 ⟨some 26, .pick (.tmp 19) (.tmp 25) (.const (.bool false)), 4, _, _, _⟩ hH ?_
    refine tk 19 ⟨some 2, .assign (.tmp 26), 4, _, _, _⟩ hH ?_
    refine wpAnyH_done (by kernel_rfl) ?_ _
    go_wp2
    go_ret
    exact ⟨rfl, hH.2.2.2.2.2⟩
 ·rw [if_neg k1] at HD
  have b1 : (kd == 1) = false := by simp; omega
  have b2 : (kd == 2) = false := by simp; omega
  have b1' : ¬ kd = 1 := by omega
  have b2' : ¬ kd = 2 := by omega
  by_cases k3 : kd = 3
  ·rw [if_pos k3] at HD
   subst k3
   rw [HD]
   clear HD HW HT
   cases rp with
   | true =>
    rw [Bool.true_and]
    go_enter Tryz.func35, Tryz.ntmps35
    go_wp2_with fail
    refine wp_region_held_drew (S := (fun w' => w'.cell? ⟨w.heap.size, 0, none⟩ = some (.int .i64 3) ∧ w'.cell? ⟨w.heap.size, 1, none⟩ = some (.int .i64 len) ∧ w'.cell? ⟨w.heap.size, 2, none⟩ = some (.int .u64 h) ∧ w'.cell? ⟨w.heap.size, 3, none⟩ = some (.int .u64 l) ∧ w'.cell? ⟨w.heap.size, 4, none⟩ = some (.string ⟨p.toArray⟩) ∧ Below w.heap.size w w')) (by kernel_rfl) ?hSr7_ (fun hH => ?_)
    case hSr7_ => (first | exact ⟨c0, c1, c2, c3, c4, hb0⟩ | (obtain ⟨s0, s1, s2, s3, s4, s5⟩ := hH; exact ⟨cl hb s0, cl hb s1, cl hb s2, cl hb s3, cl hb s4, below_step s5 hb⟩))
    refine tk 0 ⟨some 29, .fieldAddr 26 (.tmp 1) 4, 0, _, _, _⟩ hH ?_
    refine tk 1 ⟨some 30, .load 9 (.tmp 29), 9, _, _, _⟩ hH ?_
    refine wpAnyH_ready (rs := [2]) (by kernel_rfl) (by simp) ?_
    refine AllReadyH.cons (o := ⟨some 31, .call { callee := .value (.func 74), args := #[.tmp 30], argTypes := #[9] }, 4, _, _, _⟩) rfl (fun K hK => ?_) AllReadyH.nil
    go_simp
    ((refine (HR _).mono ?_); (rintro e wn ⟨rfl, hb⟩))
    go_wp2_with fail
    refine hK.out _ _ ?hSr7_3_2 fun _ => ?_
    case hSr7_3_2 => (first | exact ⟨c0, c1, c2, c3, c4, hb0⟩ | (obtain ⟨s0, s1, s2, s3, s4, s5⟩ := hH; exact ⟨cl hb s0, cl hb s1, cl hb s2, cl hb s3, cl hb s4, below_step s5 hb⟩))
    clear hK K hH; rename_i hH
    (try simp only [Act.put, nz1, nz2, nz3])
    refine tk 3 ⟨some 32, .move (.tmp 31), 4, _, _, _⟩ hH ?_
    refine tk 4 ⟨some 33, .load 26 (.tmp 1), 26, _, _, _⟩ hH ?_
    refine tk 5 ⟨some 34, .fieldAddr 26 (.tmp 1) 4, 0, _, _, _⟩ hH ?_
    refine tk 6 ⟨some 35, .load 9 (.tmp 34), 9, _, _, _⟩ hH ?_
    refine wpAnyH_ready (rs := [7]) (by kernel_rfl) (by simp) ?_
    refine AllReadyH.cons (o := ⟨some 36, .call { callee := .value (.func 75), args := #[.tmp 35], argTypes := #[9] }, 26, _, _, _⟩) rfl (fun K hK => ?_) AllReadyH.nil
    go_simp
    ((refine (HP _).mono ?_); (rintro e wn ⟨rfl, hb⟩))
    go_wp2_with fail
    refine hK.out _ _ ?hSr7_8_7 fun _ => ?_
    case hSr7_8_7 => (first | exact ⟨c0, c1, c2, c3, c4, hb0⟩ | (obtain ⟨s0, s1, s2, s3, s4, s5⟩ := hH; exact ⟨cl hb s0, cl hb s1, cl hb s2, cl hb s3, cl hb s4, below_step s5 hb⟩))
    clear hK K hH; rename_i hH
    (try simp only [Act.put, nz1, nz2, nz3])
    refine tk 8 ⟨some 37, .binOp .eql 26 (.tmp 33) (.tmp 36) 26, 4, _, _, _⟩ hH ?_
    refine tk 9 ⟨some 38, .pick (.tmp 32) (.tmp 37) (.const (.bool false)), 4, _, _, _⟩ hH ?_
    refine tk 10 ⟨some 2, .assign (.tmp 38), 4, _, _, _⟩ hH ?_
    refine wpAnyH_done (by kernel_rfl) ?_ _
    go_wp2
    go_ret
    exact ⟨rfl, hH.2.2.2.2.2⟩
   | false =>
    rw [Bool.false_and]
    go_enter Tryz.func35, Tryz.ntmps35
    go_wp2_with fail
    refine wp_region_held_drew (S := (fun w' => w'.cell? ⟨w.heap.size, 0, none⟩ = some (.int .i64 3) ∧ w'.cell? ⟨w.heap.size, 1, none⟩ = some (.int .i64 len) ∧ w'.cell? ⟨w.heap.size, 2, none⟩ = some (.int .u64 h) ∧ w'.cell? ⟨w.heap.size, 3, none⟩ = some (.int .u64 l) ∧ w'.cell? ⟨w.heap.size, 4, none⟩ = some (.string ⟨p.toArray⟩) ∧ Below w.heap.size w w')) (by kernel_rfl) ?hSr8_ (fun hH => ?_)
    case hSr8_ => (first | exact ⟨c0, c1, c2, c3, c4, hb0⟩ | (obtain ⟨s0, s1, s2, s3, s4, s5⟩ := hH; exact ⟨cl hb s0, cl hb s1, cl hb s2, cl hb s3, cl hb s4, below_step s5 hb⟩))
    refine tk 0 ⟨some 29, .fieldAddr 26 (.tmp 1) 4, 0, _, _, _⟩ hH ?_
    refine tk 1 ⟨some 30, .load 9 (.tmp 29), 9, _, _, _⟩ hH ?_
    refine wpAnyH_ready (rs := [2]) (by kernel_rfl) (by simp) ?_
    refine AllReadyH.cons (o := ⟨some 31, .call { callee := .value (.func 74), args := #[.tmp 30], argTypes := #[9] }, 4, _, _, _⟩) rfl (fun K hK => ?_) AllReadyH.nil
    go_simp
    ((refine (HR _).mono ?_); (rintro e wn ⟨rfl, hb⟩))
    go_wp2_with fail
    refine hK.out _ _ ?hSr8_3_2 fun _ => ?_
    case hSr8_3_2 => (first | exact ⟨c0, c1, c2, c3, c4, hb0⟩ | (obtain ⟨s0, s1, s2, s3, s4, s5⟩ := hH; exact ⟨cl hb s0, cl hb s1, cl hb s2, cl hb s3, cl hb s4, below_step s5 hb⟩))
    clear hK K hH; rename_i hH
    (try simp only [Act.put, nz1, nz2, nz3])
    refine tk 3 ⟨some 32, .move (.tmp 31), 4, _, _, _⟩ hH ?_
    refine ts 4 ⟨some 33, .load 26 (.tmp 1), 26, _, _, _⟩ hH ?_
    refine ts 5 ⟨some 34, .fieldAddr 26 (.tmp 1) 4, 0, _, _, _⟩ hH ?_
    refine ts 6 ⟨some 35, .load 9 (.tmp 34), 9, _, _, _⟩ hH ?_
    refine ts 7 ⟨some 36, .call { callee := .value (.func 75), args := #[.tmp 35], argTypes := #[9] }, 26, _, _, _⟩ hH ?_
    refine ts 8 ⟨some 37, .binOp .eql 26 (.tmp 33) (.tmp 36) 26, 4, _, _, _⟩ hH ?_
    refine tk 9 ⟨some 38, .pick (.tmp 32) (.tmp 37) (.const (.bool false)), 4, _, _, _⟩ hH ?_
    refine tk 10 ⟨some 2, .assign (.tmp 38), 4, _, _, _⟩ hH ?_
    refine wpAnyH_done (by kernel_rfl) ?_ _
    go_wp2
    go_ret
    exact ⟨rfl, hH.2.2.2.2.2⟩
  ·rw [if_neg k3] at HD
   have b3 : (kd == 3) = false := by simpa using k3
   rw [HD]
   go_enter Tryz.func35, Tryz.ntmps35
   go_wp2
   go_ret
   exact ⟨rfl, (by repeat (first | exact Below.refl _ _ | assumption | (with_reducible refine Below.drew ?_) | ((with_reducible first | refine Below.setCell ?_ ?h _ | refine Below.alloc ?_ ?h _ | refine Below.trans ?_ (hb.mono ?h) | refine Below.trans ?_ (hb0.mono ?h)); case h => first | omega | (simp; done) | (simp; omega))))⟩
theorem two_rows (w : World) (a b : Array Value) (t u : TypeId) : Row ((w.alloc (.cells a t)).alloc (.cells b u)) w.heap.size a t ∧ Row ((w.alloc (.cells a t)).alloc (.cells b u)) (w.heap.size + 1) b u ∧ Below w.heap.size w ((w.alloc (.cells a t)).alloc (.cells b u)) := by
 refine ⟨(Row.new _ _ _).alloc _, ?_, (by repeat (first | exact Below.refl _ _ | assumption | (with_reducible refine Below.drew ?_) | ((with_reducible first | refine Below.setCell ?_ ?h _ | refine Below.alloc ?_ ?h _); case h => first | omega | (simp; done) | (simp; omega))))⟩
 have := Row.new (w.alloc (.cells a t)) b u
 rwa [World.size_alloc] at this
theorem three_rows (w : World) (a b c : Array Value) (t u v : TypeId) : Row (((w.alloc (.cells a t)).alloc (.cells b u)).alloc (.cells c v)) w.heap.size a t ∧ Row (((w.alloc (.cells a t)).alloc (.cells b u)).alloc (.cells c v)) (w.heap.size + 1) b u ∧ Row (((w.alloc (.cells a t)).alloc (.cells b u)).alloc (.cells c v)) (w.heap.size + 1 + 1) c v ∧ Below w.heap.size w (((w.alloc (.cells a t)).alloc (.cells b u)).alloc (.cells c v)) := by
 obtain ⟨h1, h2, h3⟩ := two_rows w a b t u
 refine ⟨h1.alloc _, h2.alloc _, ?_, h3.alloc h3.size _⟩
 have := Row.new ((w.alloc (.cells a t)).alloc (.cells b u)) c v
 rwa [World.size_alloc, World.size_alloc] at this
theorem kcut_t (k : Ke) (ok : k.ok) (n : Int) (hn : n ≤ 9223372036854775807) (w : World) : Calls Tryz.prog 65 #[kv k, .int .i64 n] w fun e w' => e = .returned (kv (cutK k n)) ∧ Below w.heap.size w w' := by
 have HR := kright_t k ok
 have HT := ktop_t k (max n 0) ok.h ok.l (by omega) ok.path
 have HD : cutK k n = if rightK k = true then (if k.len ≤ n then k else topK k (max n 0)) else kz := rfl
 rw [HD]
 clear HD
 generalize topK k (max n 0) = t at *
 generalize rightK k = r at *
 obtain ⟨kd, len, h, l, p⟩ := k
 obtain ⟨t0, t1, t2, t3, t4⟩ := t
 clear ok
 dsimp only
 unfold kv at HR HT
 dsimp only at *
 obtain ⟨R0, R1, hb0⟩ := two_rows w #[.int .i64 kd, .int .i64 len, .int .u64 h, .int .u64 l, .string ⟨p.toArray⟩] #[.int .i64 0, .int .i64 0, .int .u64 0, .int .u64 0, .string ⟨#[]⟩] 26 26
 cases r with
 | false =>
  rw [if_neg (by simp)]
  unfold kv kz
  dsimp only
  go_enter Tryz.func65, Tryz.ntmps65
  go_wp2_with fail
  refine (HR _).mono ?_
  rintro e w1 ⟨rfl, hb⟩
  replace R1 := R1.later hb
  replace hb0 := below_step hb0 hb
  clear HR HT hb R0
  have c0 := ((R1).cell 0).trans (show _ = some (Value.int .i64 0) from rfl)
  have cf0 := (R1).frozen 0
  have c1 := ((R1).cell 1).trans (show _ = some (Value.int .i64 0) from rfl)
  have cf1 := (R1).frozen 1
  have c2 := ((R1).cell 2).trans (show _ = some (Value.int .u64 0) from rfl)
  have cf2 := (R1).frozen 2
  have c3 := ((R1).cell 3).trans (show _ = some (Value.int .u64 0) from rfl)
  have cf3 := (R1).frozen 3
  have c4 := ((R1).cell 4).trans (show _ = some (Value.string ⟨#[]⟩) from rfl)
  have cf4 := (R1).frozen 4
  clear R1
  go_wp2
  refine bodyPost_ret (v := .agg #[.int .i64 0, .int .i64 0, .int .u64 0, .int .u64 0, .string ⟨#[]⟩]) (by simp [results, Tryz.results65, go_sem, c0, c1, c2, c3, c4]) rfl ⟨rfl, bset5 hb0 (by omega) _ _ _ _ _⟩
 | true =>
  rw [if_pos rfl]
  by_cases hc : len ≤ n
  ·rw [if_pos hc]
   unfold kv
   dsimp only
   go_enter Tryz.func65, Tryz.ntmps65
   go_wp2_with fail
   refine (HR _).mono ?_
   rintro e w1 ⟨rfl, hb⟩
   replace R1 := R1.later hb
   replace R0 := R0.later hb
   replace hb0 := below_step hb0 hb
   clear HR HT hb
   have c0 := ((R1).cell 0).trans (show _ = some (Value.int .i64 0) from rfl)
   have cf0 := (R1).frozen 0
   have c1 := ((R1).cell 1).trans (show _ = some (Value.int .i64 0) from rfl)
   have cf1 := (R1).frozen 1
   have c2 := ((R1).cell 2).trans (show _ = some (Value.int .u64 0) from rfl)
   have cf2 := (R1).frozen 2
   have c3 := ((R1).cell 3).trans (show _ = some (Value.int .u64 0) from rfl)
   have cf3 := (R1).frozen 3
   have c4 := ((R1).cell 4).trans (show _ = some (Value.string ⟨#[]⟩) from rfl)
   have cf4 := (R1).frozen 4
   have d0 := ((R0).cell 0).trans (show _ = some (Value.int .i64 kd) from rfl)
   have df0 := (R0).frozen 0
   have d1 := ((R0).cell 1).trans (show _ = some (Value.int .i64 len) from rfl)
   have df1 := (R0).frozen 1
   have d2 := ((R0).cell 2).trans (show _ = some (Value.int .u64 h) from rfl)
   have df2 := (R0).frozen 2
   have d3 := ((R0).cell 3).trans (show _ = some (Value.int .u64 l) from rfl)
   have df3 := (R0).frozen 3
   have d4 := ((R0).cell 4).trans (show _ = some (Value.string ⟨p.toArray⟩) from rfl)
   have df4 := (R0).frozen 4
   clear R1 R0
   go_wp2
   refine bodyPost_ret (v := .agg #[.int .i64 kd, .int .i64 len, .int .u64 h, .int .u64 l, .string ⟨p.toArray⟩]) (by simp [results, Tryz.results65, go_sem, c0, c1, c2, c3, c4]) rfl ⟨rfl, bset5 hb0 (by omega) _ _ _ _ _⟩
  ·rw [if_neg hc]
   unfold kv
   dsimp only
   go_enter Tryz.func65, Tryz.ntmps65
   go_wp2_with fail
   refine (HR _).mono ?_
   rintro e w1 ⟨rfl, hb⟩
   replace R1 := R1.later hb
   replace R0 := R0.later hb
   replace hb0 := below_step hb0 hb
   clear HR hb
   have d0 := ((R0).cell 0).trans (show _ = some (Value.int .i64 kd) from rfl)
   have df0 := (R0).frozen 0
   have d1 := ((R0).cell 1).trans (show _ = some (Value.int .i64 len) from rfl)
   have df1 := (R0).frozen 1
   have d2 := ((R0).cell 2).trans (show _ = some (Value.int .u64 h) from rfl)
   have df2 := (R0).frozen 2
   have d3 := ((R0).cell 3).trans (show _ = some (Value.int .u64 l) from rfl)
   have df3 := (R0).frozen 3
   have d4 := ((R0).cell 4).trans (show _ = some (Value.string ⟨p.toArray⟩) from rfl)
   have df4 := (R0).frozen 4
   clear R0
   go_wp2_with fail
   refine (HT _).mono ?_
   rintro e w2 ⟨rfl, hb⟩
   replace R1 := R1.later hb
   replace hb0 := below_step hb0 hb
   clear HT hb d0 d1 d2 d3 d4 df0 df1 df2 df3 df4
   have c0 := ((R1).cell 0).trans (show _ = some (Value.int .i64 0) from rfl)
   have cf0 := (R1).frozen 0
   have c1 := ((R1).cell 1).trans (show _ = some (Value.int .i64 0) from rfl)
   have cf1 := (R1).frozen 1
   have c2 := ((R1).cell 2).trans (show _ = some (Value.int .u64 0) from rfl)
   have cf2 := (R1).frozen 2
   have c3 := ((R1).cell 3).trans (show _ = some (Value.int .u64 0) from rfl)
   have cf3 := (R1).frozen 3
   have c4 := ((R1).cell 4).trans (show _ = some (Value.string ⟨#[]⟩) from rfl)
   have cf4 := (R1).frozen 4
   clear R1
   go_wp2
   refine bodyPost_ret (v := .agg #[.int .i64 t0, .int .i64 t1, .int .u64 t2, .int .u64 t3, .string ⟨t4.toArray⟩]) (by simp [results, Tryz.results65, go_sem, c0, c1, c2, c3, c4]) rfl ⟨rfl, bset5 hb0 (by omega) _ _ _ _ _⟩
def cmpB (a b : ByteArray) : Int := if Op.bytesLess a.toList b.toList = true then -1 else if a.toList = b.toList then 0 else 1
def cmpS (a b : List UInt8) : Int := if Op.bytesLess a b = true then -1 else if a = b then 0 else 1
theorem bytes_list (l : List UInt8) : (⟨l.toArray⟩ : ByteArray).toList = l := by rw [ByteArray.toList_eq]
def fnz : List Int → Int
 | [] => 0
 | x :: r => if x = 0 then fnz r else x
def cmpK (a b : Ke) : Int := fnz [cmpI a.kind b.kind, cmpI a.num b.num, cmpS a.path b.path, cmpI a.len b.len]
end Go.Proofs.YtboinifeemghaaaGreatDoor
namespace Go.Proofs.YtboinifeemghaaaGreatDoor
open Go.ChangeShapes Go.WideShapes Go.ChangeAt Go.RowKit Go.Joins Go.Deep
theorem cellsKey : Tryz.prog.cellsOf 26 = 5 := by kernel_rfl
theorem cellsDim : Tryz.prog.cellsOf 23 = 3 := by kernel_rfl
structure Ke.okL (k : Ke) : Prop where
 h : Word k.h
 l : Word k.l
 k0 : -9223372036854775808 ≤ k.kind
 k1 : k.kind ≤ 9223372036854775807
 n0 : -9223372036854775808 ≤ k.len
 n1 : k.len ≤ 9223372036854775807
section
variable {H : Type} {enc : TypeId × Value → H} {W : World} {base : Nat} {sp : Nat → Bool} {held : Bool}
theorem field_at {fs : Array Field} {t : TypeId} {fuel : Nat} {cs : List Value} {x : DataW H × List MemPlace} (hs : Tryz.prog.underlying t = some (.struct fs)) (hone : oneCellFields Tryz.prog fs = true)
  (hf : DataW.trod enc Tryz.prog W base sp held fuel t cs = some x) (i : Nat) (f : Field) (v : Value) (hi : fs[i]? = some f) (hv : cs[i]? = some v) : ∃ n y, DataW.trod enc Tryz.prog W base sp held n f.type [v] = some y ∧ ∃ ys : List (DataW H), x.1 = .agg ys ∧ ys.length = fs.size ∧ ys[i]? = some y.1 := by
 obtain ⟨xs, n, _, hx, _, hlen, hg⟩ := DataW.trod_struct hs hf
 obtain ⟨ho, hk⟩ := hone_of hone i f hi
 have h := hg i f hi
 have hil : i < fs.size := (Array.getElem?_eq_some_iff.1 hi).1
 rw [ho, hk, List.getElem?_eq_getElem (by omega)] at h
 have hc : (cs.drop i).take 1 = [v] := by
  obtain ⟨hlt, rfl⟩ := List.getElem?_eq_some_iff.1 hv
  rw [List.drop_eq_getElem_cons hlt]; rfl
 rw [hc] at h
 exact ⟨n, _, h, xs.map (·.1), by rw [hx], by simp [hlen], by rw [List.getElem?_map, List.getElem?_eq_getElem (by omega)]; rfl⟩
structure Dm where
 kind : Int
 side : Int
 step : Int
 deriving DecidableEq
def dv (d : Dm) : Value := .agg #[.int .i64 d.kind, .int .i64 d.side, .int .i64 d.step]
structure Dm.ok (d : Dm) : Prop where
 k0 : -9223372036854775808 ≤ d.kind
 k1 : d.kind ≤ 9223372036854775807
 s0 : -9223372036854775808 ≤ d.side
 s1 : d.side ≤ 9223372036854775807
 t0 : -9223372036854775808 ≤ d.step
 t1 : d.step ≤ 9223372036854775807
end
end Go.Proofs.YtboinifeemghaaaGreatDoor
namespace Go.Proofs.YtboinifeemghaaaGreatDoor
open Go.RowKit
def fourK (a : Int) : Ke := ⟨1, 32, hi (a * 2 ^ 96), lo (a * 2 ^ 96), []⟩
def sixK (h l : Int) : Ke := ⟨2, 128, h, l, []⟩
def rootK (kind : Int) : Ke := if wid kind = 0 then kz else ⟨kind, 0, 0, 0, []⟩
def pathE (p : List UInt8) : Int := if rightB p = true then 0 else 3
def pathR (p : List UInt8) : Ke := if rightB p = true then pathK p else kz
theorem kfour_t (a : Int) (h0 : 0 ≤ a) (h1 : a < 4294967296) (w : World) : Calls Tryz.prog 55 #[.int .u32 a] w fun e w' => e = .returned (kv (fourK a)) ∧ Below w.heap.size w w' := by
 have ha : Word a := by unfold Word; omega
 have HO := of_any a
 have HL := left_any 0 a 96 (by unfold Word; omega) ha
 have ew : wv 0 a = a := by unfold wv; omega
 rw [ew] at HL
 have e2 : (2 : Int) ^ (96 : Int).toNat = 2 ^ 96 := rfl
 rw [e2] at HL
 unfold kv fourK
 dsimp only
 generalize hi (a * 2 ^ 96) = H at *
 generalize lo (a * 2 ^ 96) = L at *
 have HB := ofBits_t 1 32 H L
 have wr : IntKind.u64.wrap a = a := by rw [IntKind.wrap_u64]; omega
 have hb0 : Below w.heap.size w (w.alloc (.cells #[.int .i64 0, .int .i64 0, .int .u64 0, .int .u64 0, .string ⟨#[]⟩] 26)) := (by repeat (first | exact Below.refl _ _ | assumption | (with_reducible refine Below.drew ?_) | ((with_reducible first | refine Below.setCell ?_ ?h _ | refine Below.alloc ?_ ?h _ | refine Below.trans ?_ (hb.mono ?h) | refine Below.trans ?_ (hb0.mono ?h)); case h => first | omega | (simp; done) | (simp; omega))))
 have R := Row.new w #[.int .i64 0, .int .i64 0, .int .u64 0, .int .u64 0, .string ⟨#[]⟩] 26
 go_enter Tryz.func55, Tryz.ntmps55
 go_wp2_with fail
 refine (HO _).mono ?_
 rintro e w1 ⟨rfl, hb⟩
 replace R := R.later hb
 replace hb0 := below_step hb0 hb
 clear hb HO
 go_wp2_with fail
 refine (HL _).mono ?_
 rintro e w2 ⟨rfl, hb⟩
 replace R := R.later hb
 replace hb0 := below_step hb0 hb
 clear hb HL
 go_wp2_with fail
 refine (HB _).mono ?_
 rintro e w3 ⟨rfl, hb⟩
 replace R := R.later hb
 replace hb0 := below_step hb0 hb
 clear hb HB
 have c0 := ((R).cell 0).trans (show _ = some (Value.int .i64 0) from rfl)
 have cf0 := (R).frozen 0
 have c1 := ((R).cell 1).trans (show _ = some (Value.int .i64 0) from rfl)
 have cf1 := (R).frozen 1
 have c2 := ((R).cell 2).trans (show _ = some (Value.int .u64 0) from rfl)
 have cf2 := (R).frozen 2
 have c3 := ((R).cell 3).trans (show _ = some (Value.int .u64 0) from rfl)
 have cf3 := (R).frozen 3
 have c4 := ((R).cell 4).trans (show _ = some (Value.string ⟨#[]⟩) from rfl)
 have cf4 := (R).frozen 4
 clear R
 go_wp2
 refine bodyPost_ret (v := .agg #[.int .i64 1, .int .i64 32, .int .u64 H, .int .u64 L, .string ⟨#[]⟩]) (by simp [results, Tryz.results55, go_sem, c0, c1, c2, c3, c4]) rfl ⟨rfl, bset5 hb0 (Nat.le_refl _) _ _ _ _ _⟩
theorem ksix_t (h l : Int) (w : World) : Calls Tryz.prog 58 #[.agg #[.int .u64 h, .int .u64 l]] w fun e w' => e = .returned (kv (sixK h l)) ∧ Below w.heap.size w w' := by
 have HB := ofBits_t 2 128 h l
 unfold kv sixK
 dsimp only
 have hb0 : Below w.heap.size w ((w.alloc (.cells #[.int .u64 h, .int .u64 l] 73)).alloc (.cells #[.int .i64 0, .int .i64 0, .int .u64 0, .int .u64 0, .string ⟨#[]⟩] 26)) := (by repeat (first | exact Below.refl _ _ | assumption | (with_reducible refine Below.drew ?_) | ((with_reducible first | refine Below.setCell ?_ ?h _ | refine Below.alloc ?_ ?h _ | refine Below.trans ?_ (hb.mono ?h) | refine Below.trans ?_ (hb0.mono ?h)); case h => first | omega | (simp; done) | (simp; omega))))
 obtain ⟨_, R, _⟩ := two_rows w #[.int .u64 h, .int .u64 l] #[.int .i64 0, .int .i64 0, .int .u64 0, .int .u64 0, .string ⟨#[]⟩] 73 26
 go_enter Tryz.func58, Tryz.ntmps58
 go_wp2_with fail
 refine (HB _).mono ?_
 rintro e w3 ⟨rfl, hb⟩
 replace R := R.later hb
 replace hb0 := below_step hb0 hb
 clear hb HB
 have c0 := ((R).cell 0).trans (show _ = some (Value.int .i64 0) from rfl)
 have cf0 := (R).frozen 0
 have c1 := ((R).cell 1).trans (show _ = some (Value.int .i64 0) from rfl)
 have cf1 := (R).frozen 1
 have c2 := ((R).cell 2).trans (show _ = some (Value.int .u64 0) from rfl)
 have cf2 := (R).frozen 2
 have c3 := ((R).cell 3).trans (show _ = some (Value.int .u64 0) from rfl)
 have cf3 := (R).frozen 3
 have c4 := ((R).cell 4).trans (show _ = some (Value.string ⟨#[]⟩) from rfl)
 have cf4 := (R).frozen 4
 clear R
 go_wp2
 refine bodyPost_ret (v := .agg #[.int .i64 2, .int .i64 128, .int .u64 h, .int .u64 l, .string ⟨#[]⟩]) (by simp [results, Tryz.results58, go_sem, c0, c1, c2, c3, c4]) rfl ⟨rfl, bset5 hb0 (by omega) _ _ _ _ _⟩
theorem kpath_t (p : List UInt8) (hp : p.length ≤ 140737488355328) (w : World) : Calls Tryz.prog 60 #[.string ⟨p.toArray⟩] w fun e w' => e = .returned (.tuple #[kv (pathR p), .int .i64 (pathE p)]) ∧ Below w.heap.size w w' := by
 have HR := right_t p hp
 have HP := ofPath_t p hp
 unfold pathR pathE
 generalize pathK p = u at *
 obtain ⟨u0, u1, u2, u3, u4⟩ := u
 generalize rightB p = r at *
 have hb0 : Below w.heap.size w (w.alloc (.cells #[.int .i64 0, .int .i64 0, .int .u64 0, .int .u64 0, .string ⟨#[]⟩] 26)) := (by repeat (first | exact Below.refl _ _ | assumption | (with_reducible refine Below.drew ?_) | ((with_reducible first | refine Below.setCell ?_ ?h _ | refine Below.alloc ?_ ?h _ | refine Below.trans ?_ (hb.mono ?h) | refine Below.trans ?_ (hb0.mono ?h)); case h => first | omega | (simp; done) | (simp; omega))))
 have R := Row.new w #[.int .i64 0, .int .i64 0, .int .u64 0, .int .u64 0, .string ⟨#[]⟩] 26
 cases r with
 | false =>
  rw [if_neg (by simp), if_neg (by simp)]
  unfold kv kz
  dsimp only
  go_enter Tryz.func60, Tryz.ntmps60
  go_wp2_with fail
  refine (HR _).mono ?_
  rintro e w1 ⟨rfl, hb⟩
  replace R := R.later hb
  replace hb0 := below_step hb0 hb
  clear hb HR HP
  have c0 := ((R).cell 0).trans (show _ = some (Value.int .i64 0) from rfl)
  have cf0 := (R).frozen 0
  have c1 := ((R).cell 1).trans (show _ = some (Value.int .i64 0) from rfl)
  have cf1 := (R).frozen 1
  have c2 := ((R).cell 2).trans (show _ = some (Value.int .u64 0) from rfl)
  have cf2 := (R).frozen 2
  have c3 := ((R).cell 3).trans (show _ = some (Value.int .u64 0) from rfl)
  have cf3 := (R).frozen 3
  have c4 := ((R).cell 4).trans (show _ = some (Value.string ⟨#[]⟩) from rfl)
  have cf4 := (R).frozen 4
  clear R
  go_wp2
  refine bodyPost_ret (v := .tuple #[.agg #[.int .i64 0, .int .i64 0, .int .u64 0, .int .u64 0, .string ⟨#[]⟩], .int .i64 3]) (by simp [results, Tryz.results60, go_sem, c0, c1, c2, c3, c4]) rfl ⟨rfl, bset5 hb0 (by omega) _ _ _ _ _⟩
 | true =>
  rw [if_pos rfl, if_pos rfl]
  unfold kv at *
  dsimp only at *
  go_enter Tryz.func60, Tryz.ntmps60
  go_wp2_with fail
  refine (HR _).mono ?_
  rintro e w1 ⟨rfl, hb⟩
  replace R := R.later hb
  replace hb0 := below_step hb0 hb
  clear hb HR
  go_wp2_with fail
  refine (HP _).mono ?_
  rintro e w2 ⟨rfl, hb⟩
  replace R := R.later hb
  replace hb0 := below_step hb0 hb
  clear hb HP
  have c0 := ((R).cell 0).trans (show _ = some (Value.int .i64 0) from rfl)
  have cf0 := (R).frozen 0
  have c1 := ((R).cell 1).trans (show _ = some (Value.int .i64 0) from rfl)
  have cf1 := (R).frozen 1
  have c2 := ((R).cell 2).trans (show _ = some (Value.int .u64 0) from rfl)
  have cf2 := (R).frozen 2
  have c3 := ((R).cell 3).trans (show _ = some (Value.int .u64 0) from rfl)
  have cf3 := (R).frozen 3
  have c4 := ((R).cell 4).trans (show _ = some (Value.string ⟨#[]⟩) from rfl)
  have cf4 := (R).frozen 4
  clear R
  go_wp2
  refine bodyPost_ret (v := .tuple #[.agg #[.int .i64 u0, .int .i64 u1, .int .u64 u2, .int .u64 u3, .string ⟨u4.toArray⟩], .int .i64 0]) (by simp [results, Tryz.results60, go_sem, c0, c1, c2, c3, c4]) rfl ⟨rfl, bset5 hb0 (by omega) _ _ _ _ _⟩
theorem kroot_t (k : Int) (w : World) : Calls Tryz.prog 34 #[.int .i64 k] w fun e w' => e = .returned (kv (rootK k)) ∧ Below w.heap.size w w' := by
 have HW := width_t k
 unfold rootK
 generalize wid k = d at *
 have hb0 : Below w.heap.size w (w.alloc (.cells #[.int .i64 0, .int .i64 0, .int .u64 0, .int .u64 0, .string ⟨#[]⟩] 26)) := (by repeat (first | exact Below.refl _ _ | assumption | (with_reducible refine Below.drew ?_) | ((with_reducible first | refine Below.setCell ?_ ?h _ | refine Below.alloc ?_ ?h _ | refine Below.trans ?_ (hb.mono ?h) | refine Below.trans ?_ (hb0.mono ?h)); case h => first | omega | (simp; done) | (simp; omega))))
 have R := Row.new w #[.int .i64 0, .int .i64 0, .int .u64 0, .int .u64 0, .string ⟨#[]⟩] 26
 by_cases h : d = 0
 ·subst h
  rw [if_pos rfl]
  unfold kv kz
  dsimp only
  go_enter Tryz.func34, Tryz.ntmps34
  go_wp2_with fail
  refine (HW _).mono ?_
  rintro e w1 ⟨rfl, hb⟩
  replace R := R.later hb
  replace hb0 := below_step hb0 hb
  clear hb HW
  have c0 := ((R).cell 0).trans (show _ = some (Value.int .i64 0) from rfl)
  have cf0 := (R).frozen 0
  have c1 := ((R).cell 1).trans (show _ = some (Value.int .i64 0) from rfl)
  have cf1 := (R).frozen 1
  have c2 := ((R).cell 2).trans (show _ = some (Value.int .u64 0) from rfl)
  have cf2 := (R).frozen 2
  have c3 := ((R).cell 3).trans (show _ = some (Value.int .u64 0) from rfl)
  have cf3 := (R).frozen 3
  have c4 := ((R).cell 4).trans (show _ = some (Value.string ⟨#[]⟩) from rfl)
  have cf4 := (R).frozen 4
  clear R
  go_wp2
  refine bodyPost_ret (v := .agg #[.int .i64 0, .int .i64 0, .int .u64 0, .int .u64 0, .string ⟨#[]⟩]) (by simp [results, Tryz.results34, go_sem, c0, c1, c2, c3, c4]) rfl ⟨rfl, bset5 hb0 (by omega) _ _ _ _ _⟩
 ·rw [if_neg h]
  have h' : (d == 0) = false := by simpa using h
  unfold kv
  dsimp only
  go_enter Tryz.func34, Tryz.ntmps34
  go_wp2_with fail
  refine (HW _).mono ?_
  rintro e w1 ⟨rfl, hb⟩
  replace R := R.later hb
  replace hb0 := below_step hb0 hb
  clear hb HW
  have c0 := ((R).cell 0).trans (show _ = some (Value.int .i64 0) from rfl)
  have cf0 := (R).frozen 0
  have c1 := ((R).cell 1).trans (show _ = some (Value.int .i64 0) from rfl)
  have cf1 := (R).frozen 1
  have c2 := ((R).cell 2).trans (show _ = some (Value.int .u64 0) from rfl)
  have cf2 := (R).frozen 2
  have c3 := ((R).cell 3).trans (show _ = some (Value.int .u64 0) from rfl)
  have cf3 := (R).frozen 3
  have c4 := ((R).cell 4).trans (show _ = some (Value.string ⟨#[]⟩) from rfl)
  have cf4 := (R).frozen 4
  clear R
  go_wp2
  refine bodyPost_ret (v := .agg #[.int .i64 k, .int .i64 0, .int .u64 0, .int .u64 0, .string ⟨#[]⟩]) (by simp [results, Tryz.results34, go_sem, c0, c1, c2, c3, c4]) rfl ⟨rfl, bset5 hb0 (by omega) _ _ _ _ _⟩
theorem rwidth_t (k : Int) (w : World) : Calls Tryz.prog 71 #[.int .i64 k] w fun e w' => e = .returned (.int .i64 (wid k)) ∧ Below w.heap.size w w' := by
 by_cases h1 : k = 1
 ·subst h1
  go_enter Tryz.func71, Tryz.ntmps71
  go_wp2
  go_ret
  exact ⟨rfl, bw⟩
 by_cases h2 : k = 2
 ·subst h2
  go_enter Tryz.func71, Tryz.ntmps71
  go_wp2
  go_ret
  exact ⟨rfl, bw⟩
 by_cases h3 : k = 3
 ·subst h3
  go_enter Tryz.func71, Tryz.ntmps71
  go_wp2
  go_ret
  exact ⟨rfl, bw⟩
 have e : wid k = 0 := by unfold wid; rw [if_neg h1, if_neg h2, if_neg h3]
 rw [e]
 have b1 : (k == 1) = false := by simpa using h1
 have b2 : (k == 2) = false := by simpa using h2
 have b3 : (k == 3) = false := by simpa using h3
 go_enter Tryz.func71, Tryz.ntmps71
 go_wp2
 go_ret
 exact ⟨rfl, bw⟩
def bit01 (b : Bool) : Int := if b = true then 1 else 0
theorem bit_hi {h l : Int} (hh : Word h) (hl : Word l) {j : Nat} (hj : j < 64) : h / 2 ^ (63 - j) % 2 = bit01 (bitI (wv h l) j) := by
 rw [bit_def _ j (by omega)]
 have e : wv h l / 2 ^ (127 - j) = h / 2 ^ (63 - j) := by
  unfold wv Word at *
  have e1 : (2 : Int) ^ (127 - j) = 18446744073709551616 * 2 ^ (63 - j) := by
   rw [show (18446744073709551616 : Int) = 2 ^ 64 from rfl, ← Int.pow_add]; congr 1; omega
  rw [e1, ← Int.ediv_ediv_of_nonneg (by decide)]
  congr 1
  omega
 rw [e]
 unfold bit01
 generalize h / 2 ^ (63 - j) = y
 by_cases hy : y % 2 = 1
 ·simp [hy]
 ·rw [if_neg (by simpa using hy)]; omega
theorem bit_lo {h l : Int} (hh : Word h) (hl : Word l) {j : Nat} (h64 : 64 ≤ j) (hj : j < 128) : l / 2 ^ (127 - j) % 2 = bit01 (bitI (wv h l) j) := by
 rw [bit_def _ j hj]
 have e1 : (18446744073709551616 : Int) = 2 ^ (j - 63) * 2 ^ (127 - j) := by
  rw [show (18446744073709551616 : Int) = 2 ^ 64 from rfl, ← Int.pow_add]; congr 1; omega
 have e : wv h l / 2 ^ (127 - j) = h * 2 ^ (j - 63) + l / 2 ^ (127 - j) := by
  unfold wv
  rw [e1, ← Int.mul_assoc, Int.add_comm, Int.add_mul_ediv_right _ _ (pow2_ne _)]; omega
 have e2 : (2 : Int) ^ (j - 63) = 2 * 2 ^ (j - 64) := by rw [← Int.pow_succ']; congr 1; omega
 rw [e, e2]
 unfold bit01
 generalize l / 2 ^ (127 - j) = y
 generalize (2 : Int) ^ (j - 64) = z
 rw [show h * (2 * z) = 2 * (h * z) by rw [Int.mul_left_comm]]
 generalize h * z = t
 by_cases hy : y % 2 = 1
 ·rw [hy, if_pos (by simp; omega)]
 ·rw [if_neg (by simp; omega)]; omega
theorem word_div_nn {h : Int} (hh : Word h) (n : Nat) : 0 ≤ h / 2 ^ n := Int.ediv_nonneg hh.1 (Int.le_of_lt (Int.pow_pos (by decide)))
theorem rbit_t (h l : Int) (hh : Word h) (hl : Word l) (j : Nat) (hj : j < 128) (w : World) : Calls Tryz.prog 120 #[.int .u64 h, .int .u64 l, .int .i64 j] w fun e w' => e = .returned (.int .u64 (bit01 (bitI (wv h l) j))) ∧ Below w.heap.size w w' := by
 by_cases h64 : j < 64
 ·have H := Lib.hid (bit_hi hh hl h64)
  have nn := word_div_nn hh (63 - j)
  have e1 : ((63 : Int) - (j : Int)).toNat = 63 - j := by omega
  have b1 := hh.1
  have b2 := hh.2
  have e2 : IntKind.u64.wrap (63 - (j : Int)) = 63 - (j : Int) := by rw [IntKind.wrap_u64]; omega
  clear hh hl
  go_enter Tryz.func120, Tryz.ntmps120
  go_wp2
  go_ret
  exact ⟨ret_int (by rw [← H.out]), bw⟩
 ·have H := Lib.hid (bit_lo hh hl (by omega) hj)
  have nn := word_div_nn hl (127 - j)
  have e1 : ((127 : Int) - (j : Int)).toNat = 127 - j := by omega
  have b1 := hl.1
  have b2 := hl.2
  have e2 : IntKind.u64.wrap (127 - (j : Int)) = 127 - (j : Int) := by rw [IntKind.wrap_u64]; omega
  clear hh hl
  go_enter Tryz.func120, Tryz.ntmps120
  go_wp2
  go_ret
  exact ⟨ret_int (by rw [← H.out]), bw⟩
def valsS (ls : List (List UInt8)) : List Value := ls.map fun x => Value.string ⟨x.toArray⟩
theorem valsS_length (ls : List (List UInt8)) : (valsS ls).length = ls.length := by simp [valsS]
theorem valsS_one (ls : List (List UInt8)) : ∀ x ∈ valsS ls, x.oneCell' = true := by
 intro x hx
 unfold valsS at hx
 obtain ⟨a, _, rfl⟩ := List.mem_map.1 hx
 rfl
def OwnS (base : Nat) (w : World) (v : Value) (ls : List (List UInt8)) : Prop := w.ownsRow base 9 1 v ls.length (valsS ls)
theorem OwnS.later {base : Nat} {w w' : World} {v : Value} {l : List (List UInt8)} (h : OwnS base w v l) (hb : Below w.heap.size w w') : OwnS base w' v l := by
 obtain ⟨hl, h⟩ := h
 refine ⟨hl, ?_⟩
 rcases h with h | ⟨g, cap, cur, hv, hbs, hg, h1⟩
 ·exact .inl h
 ·exact .inr ⟨g, cap, cur, hv, hbs, (Row.later (t := 9) hg hb), h1⟩
theorem OwnS.block {base : Nat} {w : World} {v : Value} {l : List (List UInt8)} (h : OwnS base w v l) (g : Nat) (hg : v.ownBlock = some g) : base ≤ g ∧ g < w.heap.size := by
 rcases h.2 with ⟨rfl, _⟩ | ⟨g', cap, cur, rfl, hbs, hr, _⟩
 ·cases hg
 ·have : g' = g := by simpa [Value.ownBlock] using hg
  subst this
  exact ⟨hbs, Row.lt (t := 9) hr⟩
theorem OwnS.nil (base : Nat) (w : World) : OwnS base w (.slice none 0 0) [] := ⟨rfl, .inl ⟨rfl, rfl⟩⟩
theorem OwnS.read {base : Nat} {w : World} {v : Value} {l : List (List UInt8)} (h : OwnS base w v l) : SS w v l := by
 obtain ⟨hl, h⟩ := h
 rcases h with ⟨rfl, h0⟩ | ⟨g, cap, cur, rfl, hb, hg, h1, h2, h3, h4⟩
 ·exact ⟨none, 0, by rw [h0], by omega, fun h => by omega⟩
 ·refine ⟨_, cap, rfl, by omega, fun _ => ⟨g, 0, rfl, Row.lt (t := 9) hg, fun j x hx => ?_⟩⟩
  rw [Nat.zero_add, cell_of_row w g j cur _ _ hg, ← Array.getElem?_toList]
  have hj : j < l.length := by rw [List.getElem?_eq_some_iff] at hx; exact hx.1
  have : (valsS l)[j]? = some (.string ⟨x.toArray⟩) := by unfold valsS; rw [List.getElem?_map, hx]; rfl
  rw [← h4, List.getElem?_take, if_pos (by omega)] at this
  exact this
theorem infoS : ∃ i, Tryz.prog.info? 9 = some i ∧ i.zero = some (.string ⟨#[]⟩) ∧ i.size = 1 ∧ i.bytes = 16 := by
 have h1 : (Tryz.prog.info? 9).bind (·.zero) = some (.string ⟨#[]⟩) := by kernel_rfl
 have h2 : (Tryz.prog.info? 9).map (·.size) = some 1 := by kernel_rfl
 have h3 : (Tryz.prog.info? 9).map (·.bytes) = some 16 := by kernel_rfl
 cases hq : Tryz.prog.info? 9 with
 | none => rw [hq] at h2; cases h2
 | some i =>
  rw [hq] at h1 h2 h3
  exact ⟨i, rfl, by simpa using h1, by simpa using h2, by simpa using h3⟩
theorem appS_run {base : Nat} {w : World} {v : Value} {l m : List (List UInt8)} (ty : TypeId) (ho : OwnS base w v l) (gs c : Nat) (hsrc : ∀ (j : Nat) x, m[j]? = some x → w.cell? ⟨gs, j, none⟩ = some (.string ⟨x.toArray⟩)) (hl : l.length + m.length ≤ 2147483647) (hbase : base ≤ w.heap.size) :
  ∃ v' w', (Builtin.append_ #[77, 77] ty #[v, .slice (some ⟨gs, 0, none⟩) m.length c]).run Tryz.prog w = .ok v' w' ∧ OwnS base w' v' (l ++ m) ∧ w.grownBy w' v.ownBlock := by
 obtain ⟨i, i1, i2, i3, i4⟩ := infoS
 have hs : ∀ j u, (valsS m)[j]? = some u → w.cell? ((⟨gs, 0, none⟩ : Addr).add j) = some u := by
  intro j u hu
  unfold valsS at hu
  rw [List.getElem?_map, Option.map_eq_some_iff] at hu
  obtain ⟨x, hx, rfl⟩ := hu
  rw [Addr.add_mid, Nat.zero_add]
  exact hsrc j x hx
 obtain ⟨v', w', hr, k1, k2, _, k4⟩ := run_append_own_at (P := Tryz.prog) w base 77 ty 9 i (.string ⟨#[]⟩) 1 16 Tryz.underlying77 i1 i2 i3 i4 rfl (by decide) v l.length (valsS l) ho ⟨gs, 0, none⟩ m.length c (valsS m) (by rw [valsS_length, Nat.mul_one]) hs (valsS_one m) (by unfold maxLen; omega) (by omega) hbase
 refine ⟨v', w', hr, ?_, k2⟩
 have hbm : valsS (l ++ m) = valsS l ++ valsS m := by unfold valsS; rw [List.map_append]
 unfold OwnS
 rw [List.length_append, hbm]
 exact k1
theorem appS_one {base : Nat} {w0 w : World} {v : Value} {l : List (List UInt8)} (x : List UInt8) (ho : OwnS base w v l) (hB : Below base w0 w) (hl : l.length ≤ 2147483600) (hbase : base ≤ w.heap.size) :
  ∃ v' w', (Builtin.append_ #[77, 77] 77 #[v, .slice (some ⟨w.heap.size, 0, none⟩) 1 1]).run Tryz.prog (w.alloc (.cells #[.string ⟨x.toArray⟩] 9)) = .ok v' w' ∧ OwnS base w' v' (l ++ [x]) ∧ Below base w0 w' := by
 have R1 := Row.new w #[.string ⟨x.toArray⟩] 9
 have hbn : Below w.heap.size w (w.alloc (.cells #[.string ⟨x.toArray⟩] 9)) := (Below.refl _ _).alloc (Nat.le_refl _) _
 obtain ⟨v', w2, hrun, hown, hgrow⟩ := appS_run (m := [x]) 77 (ho.later hbn) w.heap.size 1 (fun j y hy => by
  rcases j with _ | j
  ·cases hy; exact (R1.cell 0).trans rfl
  ·simp at hy) (by simp; omega) (Nat.le_trans hbase hbn.size)
 exact ⟨v', w2, hrun, hown, (hB.trans (hbn.mono hbase)).grown hgrow (Nat.le_trans hbase hbn.size) (fun k hk => ((ho.later hbn).block _ hk).1)⟩
theorem wp_appS {P : Program} {w w' : World} {o : Oper} {a : Act} {K : Act → World → Prop} {Q : Exit → Act → World → Prop} (s x : Operand) (t : TypeId) {v bv v' : Value}
  (ho : o.op = .call { callee := .builtin .append, args := #[s, x], argTypes := #[t, t] }) (hs : a.eval s = v) (hx : a.eval x = bv)
  (hr : (Builtin.append_ #[t, t] o.type #[v, bv]).run P w = .ok v' w') (h : K (a.put o.dst v') w') : o.wp P a w K Q := by
 unfold Oper.wp execOp
 simp only [ho, resolve, invoke, builtin, Sem.run_bind, Sem.run_pure, Result.andThen_ok, List.map_toArray, List.map_cons, List.map_nil, hs, hx, hr]
 exact h
theorem wpList_appS {P : Program} {w w' : World} {ops : Array Oper} {rest : List Oper} {o : Oper} {a : Act} {Q : Exit → Act → World → Prop} (hg : o.guard = none) (s x : Operand) (t : TypeId) (hop : o.op = .call { callee := .builtin .append, args := #[s, x], argTypes := #[t, t] })
  {v bv v' : Value} (hs : a.eval s = v) (hx : a.eval x = bv) (hr : (Builtin.append_ #[t, t] o.type #[v, bv]).run P w = .ok v' w') (hK : wpList P ops Q rest (a.put o.dst v') w') : wpList P ops Q (o :: rest) a w := by
 refine wpList_plain hg fun K hK' => ?_
 exact wp_appS s x t hop hs hx hr (hK' _ _ hK)
/-! the reference's IsLabel -/
theorem memB_bad {l : List UInt8} {j : Nat} (hj : j < l.length) (h : memB l[j] = false) : labB l = false := labB_bad hj (.inr h)
theorem rIsLabel_t (l : List UInt8) (hl : l.length ≤ 140737488355328) (w : World) : Calls Tryz.prog 108 #[.string ⟨l.toArray⟩] w fun e w' => e = .returned (.bool (labB l)) ∧ w = w' := by
 have hsz := bs_size l
 go_enter Tryz.func108, Tryz.ntmps108
 go_wp2_with fail
 go_loopw [3] (fun i wr => ∃ (j : Nat), j ≤ l.length ∧ i = .int .i64 j ∧ Hid (∀ i (hi : i < j) (hl : i < l.length), memB l[i] = true) ∧ wr = w) (fun i _ => l.length - (intOf i).toNat)
 case atStart => exact ⟨0, by omega, rfl, Lib.hid (fun i hi => by omega), rfl⟩
 case round =>
  obtain ⟨j, hj, rfl, hm, rfl⟩ := hrel
  by_cases hlt : j < l.length
  ·obtain ⟨c, hlj⟩ : ∃ c, l[j] = c := ⟨_, rfl⟩
   have hsp : j < (⟨l.toArray⟩ : ByteArray).size := by rw [hsz]; exact hlt
   have hch : (⟨l.toArray⟩ : ByteArray)[j]'hsp = c := hlj
   have hcn : c.toNat < 256 := c.toNat_lt
   have HT := Lib.hid (show memB c = true → ∀ i (hi : i < j + 1) (hl : i < l.length), memB l[i] = true from fun hmb i hi hl => by
     by_cases e : i = j
     ·subst e; rw [hlj]; exact hmb
     ·exact hm.out i (by omega) hl)
   have HF := Lib.hid (show memB c = false → labB l = false from fun h => memB_bad hlt (by rw [hlj]; exact h))
   clear hm hlj
   have hcase : (97 ≤ c.toNat ∧ c.toNat ≤ 122) ∨ (48 ≤ c.toNat ∧ c.toNat ≤ 57) ∨ c.toNat = 95 ∨ (122 < c.toNat) ∨ (c.toNat < 48) ∨ (57 < c.toNat ∧ c.toNat < 97 ∧ c.toNat ≠ 95) := by omega
   have hmb : memB c = ((decide (97 ≤ c.toNat) && decide (c.toNat ≤ 122)) || (decide (48 ≤ c.toNat) && decide (c.toNat ≤ 57)) || decide (c.toNat = 95)) := rfl
   rcases hcase with ⟨h1, h2⟩ | ⟨h1, h2⟩ | h1 | h1 | h1 | ⟨h1, h2, h3⟩
   ·have HN := Lib.hid (HT.out (by rw [hmb]; simp [h1, h2]))
    have h1' : (97 : Int) ≤ c.toNat := by omega
    have h2' : (c.toNat : Int) ≤ 122 := by omega
    clear HT HF hmb
    go_wp2
    exact ⟨⟨j + 1, by omega, by go_num, HN, trivial⟩, by simp [intOf]; omega⟩
   ·have HN := Lib.hid (HT.out (by rw [hmb]; simp [h1, h2]))
    have h1' : (48 : Int) ≤ c.toNat := by omega
    have h2' : (c.toNat : Int) ≤ 57 := by omega
    have h3' : ¬ (97 : Int) ≤ c.toNat := by omega
    clear HT HF hmb
    go_wp2
    exact ⟨⟨j + 1, by omega, by go_num, HN, trivial⟩, by simp [intOf]; omega⟩
   ·have HN := Lib.hid (HT.out (by rw [hmb]; simp [h1]))
    have h3' : ¬ (97 : Int) ≤ c.toNat := by omega
    have h4' : (48 : Int) ≤ c.toNat := by omega
    have h5' : ¬ (c.toNat : Int) ≤ 57 := by omega
    have h6' : ((c.toNat : Int) == 95) = true := by simp; omega
    have h7' : (c.toNat : Int) = 95 := by omega
    clear HT HF hmb
    go_wp2
    exact ⟨⟨j + 1, by omega, by go_num, HN, trivial⟩, by simp [intOf]; omega⟩
   ·have HB := Lib.hid (HF.out (by rw [hmb]; simp <;> omega))
    have h3' : (97 : Int) ≤ c.toNat := by omega
    have h4' : ¬ (c.toNat : Int) ≤ 122 := by omega
    have h5' : (48 : Int) ≤ c.toNat := by omega
    have h6' : ¬ (c.toNat : Int) ≤ 57 := by omega
    have h7' : ((c.toNat : Int) == 95) = false := by simp; omega
    have h8' : ¬ (c.toNat : Int) = 95 := by omega
    clear HT HF hmb
    go_wp2
    go_ret
    exact ⟨by rw [HB.out]; rfl, rfl⟩
   ·have HB := Lib.hid (HF.out (by rw [hmb]; simp <;> omega))
    have h3' : ¬ (97 : Int) ≤ c.toNat := by omega
    have h5' : ¬ (48 : Int) ≤ c.toNat := by omega
    have h7' : ((c.toNat : Int) == 95) = false := by simp; omega
    have h8' : ¬ (c.toNat : Int) = 95 := by omega
    clear HT HF hmb
    go_wp2
    go_ret
    exact ⟨by rw [HB.out]; rfl, rfl⟩
   ·have HB := Lib.hid (HF.out (by rw [hmb]; simp <;> omega))
    have h3' : ¬ (97 : Int) ≤ c.toNat := by omega
    have h5' : (48 : Int) ≤ c.toNat := by omega
    have h6' : ¬ (c.toNat : Int) ≤ 57 := by omega
    have h7' : ((c.toNat : Int) == 95) = false := by simp; omega
    have h8' : ¬ (c.toNat : Int) = 95 := by omega
    clear HT HF hmb
    go_wp2
    go_ret
    exact ⟨by rw [HB.out]; rfl, rfl⟩
  ·have hjl : j = l.length := by omega
   have hall : l.all memB = true := by rw [List.all_eq_true]; intro x hx; obtain ⟨i, hi, rfl⟩ := List.getElem_of_mem hx; exact hm.out i (by omega) hi
   have HB : Hid (labB l = (decide (0 < (l.length : Int)) && decide ((l.length : Int) < 17))) := Lib.hid (by
    unfold labB; rw [hall, Bool.eq_iff_iff]; simp
    constructor
    ·rintro ⟨a, b⟩; exact ⟨List.length_pos_iff.2 a, by omega⟩
    ·rintro ⟨a, b⟩; exact ⟨List.length_pos_iff.1 a, by omega⟩)
   clear hm hall
   subst hjl
   by_cases h0 : l = []
   ·subst h0
    go_wp2
    go_ret
    exact ⟨by rw [HB.out]; rfl, rfl⟩
   ·have hpos : (0 : Int) < (l.length : Int) := by have := List.length_pos_iff.2 h0; omega
    have hie : l.isEmpty = false := by cases l <;> simp_all
    go_wp2
    go_ret
    exact ⟨by rw [HB.out]; simp [h0]; intro _; omega, rfl⟩
theorem take_drop_succ (l : List UInt8) (fr j : Nat) (h : fr ≤ j) (hj : j < l.length) : (l.take (j + 1)).drop fr = (l.take j).drop fr ++ [l[j]] := by
 rw [List.take_add_one, List.getElem?_eq_getElem hj, List.drop_append_of_le_length (by simp; omega)]
 rfl
theorem drop_split (l : List UInt8) (fr j : Nat) (h : fr ≤ j) (hj : j < l.length) : l.drop fr = (l.take j).drop fr ++ l[j] :: l.drop (j + 1) := by
 have h1 : l.drop fr = (l.take j ++ l.drop j).drop fr := by rw [List.take_append_drop]
 rw [h1, List.drop_append_of_le_length (by simp; omega), List.drop_eq_getElem_cons hj]
def SpInv (l : List UInt8) (fr j : Nat) (vs : List (List UInt8)) : Prop :=
 (∀ x ∈ vs, labB x = true) ∧ ((fr ≤ j ∧ j ≤ l.length ∧ (46 : UInt8) ∉ (l.take j).drop fr ∧ splitD l = vs ++ splitD (l.drop fr)) ∨ (j = l.length + 1 ∧ splitD l = vs))
theorem SpInv.next {l : List UInt8} {fr j : Nat} {vs : List (List UInt8)} (h : SpInv l fr j vs) (hj : j < l.length) (hc : l[j] ≠ 46) : SpInv l fr (j + 1) vs := by
 refine ⟨h.1, ?_⟩
 rcases h.2 with ⟨h1, h2, h3, h4⟩ | ⟨h1, _⟩
 ·refine .inl ⟨by omega, by omega, ?_, h4⟩
  rw [take_drop_succ l fr j h1 hj]
  intro hm
  rcases List.mem_append.1 hm with hm | hm
  ·exact h3 hm
  ·simp at hm; exact hc hm.symm
 ·omega
def PartDo (l : List UInt8) (fr j : Nat) (vs : List (List UInt8)) (p : List UInt8) : Prop := fr ≤ j ∧ (labB p = true → vs.length < 8 → SpInv l (j + 1) (j + 1) (vs ++ [p])) ∧ (labB p = false ∨ 8 ≤ vs.length → rightB l = false)
theorem rb_false {l : List UInt8} (h0 : l ≠ []) {vs rest : List (List UInt8)} {p : List UInt8} (h : splitD l = vs ++ p :: rest) (hb : labB p = false ∨ 8 ≤ vs.length) : rightB l = false := by
 unfold rightB partsL
 rw [if_neg h0, h]
 rcases hb with hb | hb
 ·simp [hb]
 ·have : ¬ (vs ++ p :: rest).length ≤ 8 := by simp; omega
  simp only [this]; simp
theorem SpInv.part {l : List UInt8} {fr j : Nat} {vs : List (List UInt8)} (h0 : l ≠ []) (h : SpInv l fr j vs) (hj : j < l.length) (hc : l[j] = 46) : PartDo l fr j vs ((l.take j).drop fr) := by
 rcases h.2 with ⟨h1, h2, h3, h4⟩ | ⟨h1, _⟩
 ·have hs : splitD (l.drop fr) = (l.take j).drop fr :: splitD (l.drop (j + 1)) := by rw [drop_split l fr j h1 hj, hc, splitD_at _ _ h3]
  rw [hs] at h4
  refine ⟨h1, fun hl h8 => ⟨?_, .inl ⟨Nat.le_refl _, by omega, ?_, ?_⟩⟩, fun hb => rb_false h0 h4 hb⟩
  ·intro x hx
   rcases List.mem_append.1 hx with hx | hx
   ·exact h.1 x hx
   ·simp at hx; rw [hx]; exact hl
  ·rw [List.drop_eq_nil_of_le (by rw [List.length_take]; omega)]; simp
  ·rw [h4]; simp
 ·omega
theorem SpInv.last {l : List UInt8} {fr : Nat} {vs : List (List UInt8)} (h0 : l ≠ []) (h : SpInv l fr l.length vs) : PartDo l fr l.length vs ((l.take l.length).drop fr) := by
 rcases h.2 with ⟨h1, h2, h3, h4⟩ | ⟨h1, _⟩
 ·rw [List.take_length] at h3 ⊢
  rw [splitD_no _ h3] at h4
  refine ⟨h1, fun hl h8 => ⟨?_, .inr ⟨rfl, h4⟩⟩, fun hb => rb_false h0 h4 hb⟩
  intro x hx
  rcases List.mem_append.1 hx with hx | hx
  ·exact h.1 x hx
  ·simp at hx; rw [hx]; exact hl
 ·omega
theorem SpInv.done {l : List UInt8} {fr : Nat} {vs : List (List UInt8)} (h0 : l ≠ []) (h : SpInv l fr (l.length + 1) vs) (h8 : vs.length ≤ 8) : rightB l = true ∧ labsL l = vs := by
 rcases h.2 with ⟨_, h2, _⟩ | ⟨_, h4⟩
 ·omega
 ·have hr : rightB l = true := by
   unfold rightB partsL
   rw [if_neg h0, h4]
   simp [h8]; exact h.1
  exact ⟨hr, by unfold labsL partsL; rw [if_pos hr, if_neg h0, h4]⟩
theorem SpInv.zero (l : List UInt8) : SpInv l 0 0 [] := ⟨by simp, .inl ⟨Nat.le_refl _, by omega, by simp, by simp⟩⟩
def RSplitPost (l : List UInt8) (w : World) (e : Ending) (w' : World) : Prop := ∃ v, e = .returned (.tuple #[v, .bool (rightB l)]) ∧ SS w' v (labsL l) ∧ Below w.heap.size w w'
theorem RSplit_bad {l : List UInt8} {w w' : World} (h : rightB l = false) (hb : Below w.heap.size w w') : RSplitPost l w (.returned (.tuple #[.slice none 0 0, .bool false])) w' := by
 refine ⟨_, by rw [h], ?_, hb⟩
 have : labsL l = [] := by unfold labsL; rw [h]; simp
 rw [this]; exact SS.nil _
theorem rSplit_t (l : List UInt8) (hl : l.length ≤ 140737488355328) (w : World) : Calls Tryz.prog 70 #[.string ⟨l.toArray⟩] w (RSplitPost l w) := by
 have hsz := bs_size l
 by_cases h0 : l = []
 ·subst h0
  have hP : RSplitPost [] w (.returned (.tuple #[.slice none 0 0, .bool true])) w := ⟨_, rfl, SS.nil _, Below.refl _ _⟩
  have HP := Lib.hid hP
  clear hP
  go_enter Tryz.func70, Tryz.ntmps70
  go_wp2_with fail
  go_loopw [4, 5, 6] (fun o f i wr => o = .slice none 0 0 ∧ f = .int .i64 0 ∧ i = .int .i64 0 ∧ wr = w) (fun _ _ _ _ => 0)
  case atStart => exact ⟨rfl, rfl, rfl, rfl⟩
  case round =>
   obtain ⟨rfl, rfl, rfl, rfl⟩ := hrel
   go_wp2
   exact bodyPost_ret (v := .tuple #[.slice none 0 0, .bool true]) (by simp [results, Tryz.results70, go_sem]) rfl HP.out
 ·have hpos : 0 < l.length := List.length_pos_iff.2 h0
  have hpos' : (0 : Int) < (l.length : Int) := by omega
  have hie : l.isEmpty = false := by cases l <;> simp_all
  have HI0 := Lib.hid (SpInv.zero l)
  have HBAD := Lib.hid (show ∀ w', rightB l = false → Below w.heap.size w w' → RSplitPost l w (.returned (.tuple #[.slice none 0 0, .bool false])) w' from fun _ h hb => RSplit_bad h hb)
  have HEND : Hid (∀ fr vs v wr, SpInv l fr (l.length + 1) vs → vs.length ≤ 8 → OwnS w.heap.size wr v vs → Below w.heap.size w wr → RSplitPost l w (.returned (.tuple #[v, .bool true])) wr) := Lib.hid fun fr vs v wr hI h8 hO hB => by
   obtain ⟨hr, hls⟩ := hI.done h0 h8
   refine ⟨v, by rw [hr], ?_, hB⟩
   rw [hls]; exact hO.read
  have HP := Lib.hid (fun fr j vs => @SpInv.part l fr j vs h0)
  have HL := Lib.hid (fun fr vs => @SpInv.last l fr vs h0)
  clear h0
  go_enter Tryz.func70, Tryz.ntmps70
  go_wp2_with fail
  go_loopw [4, 5, 6] (fun o f i wr => ∃ (fr j : Nat) (vs : List (List UInt8)) (po : Option Addr) (co : Nat), o = .slice po vs.length co ∧ f = .int .i64 (fr : Nat) ∧ i = .int .i64 (j : Nat) ∧ j ≤ l.length + 1 ∧ vs.length ≤ 8 ∧ Hid (SpInv l fr j vs) ∧ Hid (OwnS w.heap.size wr (.slice po vs.length co) vs) ∧ Hid (Below w.heap.size w wr)) (fun _ _ i _ => l.length + 1 - (intOf i).toNat)
  case atStart => exact ⟨0, 0, [], none, 0, rfl, rfl, rfl, by omega, by simp, HI0, Lib.hid (OwnS.nil _ _), Lib.hid (Below.refl _ _)⟩
  case round =>
   clear HI0
   obtain ⟨fr, j, vs, po, co, rfl, rfl, rfl, hj1, hv8, hI, hO, hB⟩ := hrel
   by_cases hj2 : j = l.length + 1
   ·subst hj2
    have HE := Lib.hid (HEND.out fr vs _ wr hI.out hv8 hO.out hB.out)
    have hle' : ¬ ((l.length : Int) + 1) ≤ (l.length : Int) := by omega
    clear hI HEND HBAD HP HL
    go_wp2
    exact bodyPost_ret (v := .tuple #[.slice po vs.length co, .bool true]) (by simp [results, Tryz.results70, go_sem]) rfl HE.out
   have hle' : (j : Int) ≤ (l.length : Int) := by omega
   have hmain : (∃ c, c ≠ 46 ∧ ∃ h : j < l.length, l[j] = c) ∨ (PartDo l fr j vs ((l.take j).drop fr) ∧ ((∃ h : j < l.length, l[j] = 46) ∨ j = l.length)) := by
    by_cases hlt : j < l.length
    ·by_cases hc : l[j] = 46
     ·exact .inr ⟨HP.out fr j vs hI.out hlt hc, .inl ⟨hlt, hc⟩⟩
     ·exact .inl ⟨_, hc, hlt, rfl⟩
    ·have : j = l.length := by omega
     subst this
     exact .inr ⟨HL.out fr vs hI.out, .inr rfl⟩
   rcases hmain with ⟨c, hc, hlt, hlj⟩ | ⟨⟨hfj, hsome, hnone⟩, hw⟩
   ·have HN := Lib.hid (hI.out.next hlt (by rw [hlj]; exact hc))
    have hsp : j < (⟨l.toArray⟩ : ByteArray).size := by rw [hsz]; exact hlt
    have hch : (⟨l.toArray⟩ : ByteArray)[j]'hsp = c := hlj
    have hc46 : ¬ (c.toNat : Int) = 46 := fun e => hc (by apply UInt8.toNat_inj.1; show c.toNat = 46; omega)
    have hc46' : ((c.toNat : Int) == 46) = false := by simpa using hc46
    have hlt' : (j : Int) < (l.length : Int) := by omega
    clear hI HEND HBAD HP HL hlj
    go_wp2
    exact ⟨⟨fr, j + 1, vs, po, co, rfl, rfl, by go_num, by omega, hv8, HN, hO, hB⟩, by simp [intOf]; omega⟩
   ·have hpl : ((l.take j).drop fr).length ≤ 140737488355328 := by simp; omega
    have hG := rIsLabel_t ((l.take j).drop fr) hpl wr
    have hext := ext_l l fr j
    have hfj' : (fr : Int) ≤ (j : Int) := by omega
    have HS := Lib.hid hsome
    have HN := Lib.hid hnone
    have HG := Lib.hid hG
    clear hsome hnone hG hpl HP HL hI
    generalize (l.take j).drop fr = p at *
    have hw' : (∃ hsp : j < (⟨l.toArray⟩ : ByteArray).size, (⟨l.toArray⟩ : ByteArray)[j]'hsp = 46 ∧ (j : Int) < (l.length : Int)) ∨ j = l.length := by
     rcases hw with ⟨hlt, hlj⟩ | h
     ·exact .inl ⟨by rw [hsz]; exact hlt, hlj, by omega⟩
     ·exact .inr h
    clear hw
    rcases hw' with ⟨hsp, hch, hlt'⟩ | hjl
    all_goals
     try subst hjl
     go_wp2_with fail
     refine HG.out.mono ?_
     rintro e w1 ⟨rfl, rfl⟩
     cases hlb : labB p with
     | false =>
      have HE := Lib.hid (HBAD.out _ (HN.out (.inl hlb)) hB.out)
      clear HBAD HN HS HEND HG hlb
      go_wp2
      exact bodyPost_ret (v := .tuple #[.slice none 0 0, .bool false]) (by simp [results, Tryz.results70, go_sem]) rfl HE.out
     | true =>
      by_cases h8 : 8 ≤ vs.length
      ·have HE := Lib.hid (HBAD.out _ (HN.out (.inr h8)) hB.out)
       have h8' : (8 : Int) ≤ (vs.length : Int) := by omega
       clear HBAD HN HS HEND HG hlb
       go_wp2
       exact bodyPost_ret (v := .tuple #[.slice none 0 0, .bool false]) (by simp [results, Tryz.results70, go_sem]) rfl HE.out
      ·have HI := Lib.hid (HS.out hlb (by omega))
       have h8' : ¬ (8 : Int) ≤ (vs.length : Int) := by omega
       obtain ⟨v', w2, hrun, hown, hb2⟩ := appS_one p hO.out hB.out (by omega) hB.out.size
       obtain ⟨pv, cv, rfl, _, _⟩ := hown.read
       have HOW := Lib.hid hown
       have HB2 := Lib.hid hb2
       have HRUN := Lib.hid hrun
       clear HBAD HN HS HEND HG hlb hrun hown hb2
       have tok : True := trivial
       go_wp2_with (have _t := tok; at_builtin; refine wpList_appS rfl (.tmp 39) (.tmp 44) 77 rfl rfl rfl HRUN.out ?_; clear tok HRUN)
       refine ⟨⟨_, _, vs ++ [p], pv, cv, by simp, by go_num, by go_num, by omega, by simp; omega, HI, HOW, HB2⟩, ?_⟩
       simp [intOf] <;> omega
theorem one_row (w : World) (a : Array Value) (t : TypeId) : Row (w.alloc (.cells a t)) w.heap.size a t ∧ Below w.heap.size w (w.alloc (.cells a t)) := ⟨Row.new _ _ _, (by repeat (first | exact Below.refl _ _ | assumption | (with_reducible refine Below.drew ?_) | ((with_reducible first | refine Below.setCell ?_ ?h _ | refine Below.alloc ?_ ?h _); case h => first | omega | (simp; done) | (simp; omega))))⟩
def letR (k : Ke) : List (List UInt8) := if rightK k = true then letK k else []
def LetPost (k : Ke) (w : World) (e : Ending) (w' : World) : Prop := ∃ v, e = .returned (.tuple #[v, .bool (rightK k)]) ∧ SS w' v (letR k) ∧ Below w.heap.size w w'
theorem letPost_bad {k : Ke} {w w' : World} (h : rightK k = false) (hb : Below w.heap.size w w') : LetPost k w (.returned (.tuple #[.slice none 0 0, .bool false])) w' :=
 ⟨_, by rw [h], by unfold letR; rw [h]; exact SS.nil _, hb⟩
theorem letPost_ok {k : Ke} {w w' : World} {v : Value} (h : rightK k = true) (hs : SS w' v (letK k)) (hb : Below w.heap.size w w') : LetPost k w (.returned (.tuple #[v, .bool true])) w' :=
 ⟨v, by rw [h], by unfold letR; rw [h]; exact hs, hb⟩
theorem right3 (k : Ke) (hk : k.kind = 3) : rightK k = (rightB k.path && (decide (((labsL k.path).length : Int) = k.len) && (decide (k.h = 0) && decide (k.l = 0)))) := by
 obtain ⟨a, b, c, d, p⟩ := k
 dsimp only at hk
 subst hk
 unfold rightK pathK
 rw [if_neg (by simp), if_pos rfl, Bool.eq_iff_iff]
 simp only [Bool.and_eq_true, decide_eq_true_eq, Ke.mk.injEq, true_and, and_true]
 constructor
 ·rintro ⟨h1, h2, h3, h4⟩; exact ⟨h1, h2.symm, h3, h4⟩
 ·rintro ⟨h1, h2, h3, h4⟩; exact ⟨h1, h2.symm, h3, h4⟩
theorem right_adr (k : Ke) (h3 : ¬ k.kind = 3) : rightK k = true → wid k.kind ≠ 0 ∧ 0 ≤ k.len ∧ k.len ≤ wid k.kind ∧ k.path = [] := by
 intro h
 rcases right_kind h with hk | hk
 ·have A := adr_of_right h hk
  exact ⟨by unfold wid; rcases A.kind with e | e <;> rw [e] <;> decide, A.lo, A.up, A.path⟩
 ·exact absurd hk h3
def lets (A : Int) (n j : Nat) : List (List UInt8) := (List.range (min j n)).map fun i : Nat => bitS (bitI A i)
theorem lets_len (A : Int) (n j : Nat) : (lets A n j).length = min j n := by unfold lets; simp
theorem lets_more {A : Int} {n j : Nat} (h : j < n) : lets A n (j + 1) = lets A n j ++ [bitS (bitI A j)] := by
 unfold lets
 rw [show min (j + 1) n = min j n + 1 by omega, List.range_succ, List.map_append, show min j n = j by omega]
 rfl
theorem lets_stay {A : Int} {n j : Nat} (h : n ≤ j) : lets A n (j + 1) = lets A n j := by
 unfold lets
 rw [show min (j + 1) n = min j n by omega]
theorem adr_bits {k : Ke} {n : Nat} (hk : k.kind = 1 ∨ k.kind = 2) (hl : k.len = (n : Nat)) (hu : k.len ≤ wid k.kind) (hp : k.path = []) (hh : Word k.h) (hl2 : Word k.l) (hz : ∀ t : Nat, n ≤ t → t < 128 → bitI k.num t = false) : rightK k = true ∧ letK k = lets k.num n 128 := by
 have hw := (wid_range k.kind).2
 have hr := num_range hh hl2
 have A : Adr k := by
  refine ⟨hk, by omega, hu, hp, hh, hl2, ?_⟩
  have r := tp_range (n := k.len.toNat) hr.1 hr.2
  refine num_eq_of_bits hr.1 hr.2 r.1 (by omega) fun j hj => ?_
  rw [tp_bit _ _ j (by omega) hj]
  by_cases h : j < k.len.toNat
  ·rw [if_pos h]
  ·rw [if_neg h]; exact hz j (by omega) hj
 refine ⟨right_of_adr A, ?_⟩
 rw [letK_adr A]
 unfold lets
 rw [show min 128 n = k.len.toNat by omega]
theorem adr_bit_bad {k : Ke} {n t : Nat} (h3 : ¬ k.kind = 3) (hl : k.len = (n : Nat)) (ht : n ≤ t) (ht2 : t < 128) (hb : bitI k.num t = true) : rightK k = false := by
 cases h : rightK k with
 | false => rfl
 | true =>
  exfalso
  rcases right_kind h with hk | hk
  ·have A := adr_of_right h hk
   have := A.len
   rw [A.num, tp_bit _ _ t (by omega) ht2, if_neg (by omega)] at hb
   cases hb
  ·exact h3 hk
theorem letters_path (k : Ke) (hk : k.kind = 3) (hp : k.path.length ≤ 140737488355328) (w : World) : Calls Tryz.prog 81 #[kv k] w (LetPost k w) := by
 have hr := right3 k hk
 have HG := Lib.hid (fun (v : Value) (w' : World) (h : rightK k = true) (hs : SS w' v (letK k)) (hb : Below w.heap.size w w') => letPost_ok h hs hb)
 have HB := Lib.hid (fun (w' : World) (h : rightK k = false) (hb : Below w.heap.size w w') => letPost_bad h hb)
 have cs : ∀ w1, Calls Tryz.prog 70 #[.string ⟨k.path.toArray⟩] w1 fun e w' => ∃ v, e = .returned (.tuple #[v, .bool (rightB k.path)]) ∧ SS w' v (labsL k.path) ∧ Below w1.heap.size w1 w' := fun w1 => rSplit_t k.path hp w1
 have hlet : letK k = labsL k.path := by unfold letK; rw [if_pos hk]
 rw [hlet] at HG
 clear hlet
 obtain ⟨kd, len, h, l, p⟩ := k
 dsimp only at *
 subst hk
 generalize labsL p = ls at *
 generalize rightB p = rb at *
 generalize rightK ⟨3, len, h, l, p⟩ = rk at *
 generalize LetPost ⟨3, len, h, l, p⟩ w = PP at *
 replace hr := Lib.hid hr
 unfold kv
 dsimp only
 obtain ⟨RR0, hb0⟩ := one_row w #[.int .i64 3, .int .i64 len, .int .u64 h, .int .u64 l, .string ⟨p.toArray⟩] 26
 have c0 := (RR0.cell 0).trans (show _ = some (Value.int .i64 3) from rfl)
 have c1 := (RR0.cell 1).trans (show _ = some (Value.int .i64 len) from rfl)
 have c2 := (RR0.cell 2).trans (show _ = some (Value.int .u64 h) from rfl)
 have c3 := (RR0.cell 3).trans (show _ = some (Value.int .u64 l) from rfl)
 have c4 := (RR0.cell 4).trans (show _ = some (Value.string ⟨p.toArray⟩) from rfl)
 clear RR0
 cases rb with
 | false =>
  have HX := Lib.hid (fun w' => HB.out w' (by rw [hr.out]; rfl))
  clear HB HG hr
  go_enter Tryz.func81, Tryz.ntmps81
  go_wp2_with fail
  refine (cs _).mono ?_
  rintro e w1 ⟨v, rfl, hs, hb⟩
  obtain ⟨pp, cc, rfl, _, _⟩ := hs
  replace hb0 := below_step hb0 hb
  replace c1 := cl hb c1
  replace c2 := cl hb c2
  replace c3 := cl hb c3
  replace HX := Lib.hid (HX.out _ hb0)
  clear hb hb0 cs c0 c4
  go_wp2
  exact HX.out
 | true =>
  rw [Bool.true_and] at hr
  by_cases t1 : (ls.length : Int) = len ∧ h = 0 ∧ l = 0
  ·obtain ⟨t1, rfl, rfl⟩ := t1
   have HX := Lib.hid (fun v w' => HG.out v w' (by rw [hr.out]; simp [t1]))
   subst t1
   clear HB HG hr
   go_enter Tryz.func81, Tryz.ntmps81
   go_wp2_with fail
   refine (cs _).mono ?_
   rintro e w1 ⟨v, rfl, hs, hb⟩
   replace hb0 := below_step hb0 hb
   replace c1 := cl hb c1
   replace c2 := cl hb c2
   replace c3 := cl hb c3
   replace HX := Lib.hid (HX.out _ _ hs hb0)
   obtain ⟨pp, cc, rfl, _, _⟩ := hs
   clear hb hb0 cs c0 c4
   go_wp2
   exact HX.out
  ·have HX := Lib.hid (fun w' => HB.out w' (by
    rw [hr.out, Bool.eq_false_iff]
    intro e
    simp only [Bool.and_eq_true, decide_eq_true_eq] at e
    exact t1 e))
   have b1 : (¬ (ls.length : Int) = len) ∨ ((ls.length : Int) = len ∧ ¬ h = 0) ∨ ((ls.length : Int) = len ∧ h = 0 ∧ ¬ l = 0) := by omega
   clear HB HG hr t1
   rcases b1 with b1 | ⟨rfl, b1⟩ | ⟨rfl, rfl, b1⟩
   all_goals
    first
     | (have b2 : ((ls.length : Int) == len) = false := by simpa using b1)
     | (have b2 : (h == 0) = false := by simpa using b1)
     | (have b2 : (l == 0) = false := by simpa using b1)
    go_enter Tryz.func81, Tryz.ntmps81
    go_wp2_with fail
    refine (cs _).mono ?_
    rintro e w1 ⟨v, rfl, hs, hb⟩
    obtain ⟨pp, cc, rfl, _, _⟩ := hs
    replace hb0 := below_step hb0 hb
    replace c1 := cl hb c1
    replace c2 := cl hb c2
    replace c3 := cl hb c3
    replace HX := Lib.hid (HX.out _ hb0)
    clear hb hb0 cs c0 c4
    go_wp2
    exact HX.out
def rightD (d : Dm) : Bool := (decide (d.side = 1) || decide (d.side = 2)) && (decide (1 ≤ d.step) && decide (d.step ≤ wid d.kind))
def depthD (d : Dm) : Int := if rightD d = true then (wid d.kind + d.step - 1) / d.step else 0
def lenD (d : Dm) (l : Int) : Int := if rightD d = true ∧ 0 ≤ l ∧ l ≤ depthD d then max (wid d.kind - l * d.step) 0 else -1
theorem rightD_iff (d : Dm) : rightD d = true ↔ (d.side = 1 ∨ d.side = 2) ∧ 1 ≤ d.step ∧ d.step ≤ wid d.kind := by
 unfold rightD; simp
theorem depth_range {d : Dm} (h : rightD d = true) : 1 ≤ depthD d ∧ depthD d ≤ 128 ∧ wid d.kind ≤ depthD d * d.step ∧ (depthD d - 1) * d.step < wid d.kind := by
 obtain ⟨_, s1, s2⟩ := (rightD_iff d).1 h
 have hw := wid_range d.kind
 unfold depthD
 rw [if_pos h]
 generalize wid d.kind = W at *
 generalize d.step = s at *
 have hm := Int.mul_ediv_self_le (x := W + s - 1) (k := s) (by omega)
 have hl := Int.lt_mul_ediv_self_add (x := W + s - 1) (k := s) (by omega)
 generalize (W + s - 1) / s = q at *
 have e1 : s * q = q * s := Int.mul_comm _ _
 rw [e1] at hm hl
 have hq1 : 1 ≤ q := by
  by_cases h : q < 1
  ·exfalso
   have : q * s ≤ 0 * s := Int.mul_le_mul_of_nonneg_right (by omega) (by omega)
   omega
  ·omega
 have hq2 : q ≤ 128 := by
  by_cases h : 128 < q
  ·exfalso
   have h1 : (129 : Int) * s ≤ q * s := Int.mul_le_mul_of_nonneg_right (by omega) (by omega)
   omega
  ·omega
 refine ⟨hq1, hq2, by omega, ?_⟩
 rw [Int.sub_mul]; omega
theorem dright_t (d : Dm) (w : World) : Calls Tryz.prog 20 #[dv d] w fun e w' => e = .returned (.bool (rightD d)) ∧ Below w.heap.size w w' := by
 have HW := width_t d.kind
 have hd : rightD d = ((decide (d.side = 1) || decide (d.side = 2)) && (decide (1 ≤ d.step) && decide (d.step ≤ wid d.kind))) := rfl
 obtain ⟨kd, sd, st⟩ := d
 dsimp only at *
 generalize rightD ⟨kd, sd, st⟩ = r at *
 generalize wid kd = wd at *
 unfold dv
 dsimp only
 obtain ⟨RR0, hb0⟩ := one_row w #[.int .i64 kd, .int .i64 sd, .int .i64 st] 23
 have c0 := (RR0.cell 0).trans (show _ = some (Value.int .i64 kd) from rfl)
 have c1 := (RR0.cell 1).trans (show _ = some (Value.int .i64 sd) from rfl)
 have c2 := (RR0.cell 2).trans (show _ = some (Value.int .i64 st) from rfl)
 clear RR0
 by_cases s0 : sd = 1 ∨ sd = 2
 ·have hd2 : r = (decide (1 ≤ st) && decide (st ≤ wd)) := by rw [hd]; rcases s0 with e | e <;> subst e <;> simp
  clear hd
  by_cases t1 : 1 ≤ st
  ·by_cases t2 : st ≤ wd
   ·have e : r = true := by rw [hd2]; simp [t1, t2]
    subst e
    clear hd2
    rcases s0 with rfl | rfl
    ·go_enter Tryz.func20, Tryz.ntmps20
     go_wp2_with fail
     refine wp_region_held_drew (S := (fun w' => w'.cell? ⟨w.heap.size, 0, none⟩ = some (.int .i64 kd) ∧ w'.cell? ⟨w.heap.size, 1, none⟩ = some (.int .i64 1) ∧ w'.cell? ⟨w.heap.size, 2, none⟩ = some (.int .i64 st) ∧ Below w.heap.size w w')) (by kernel_rfl) ?hSr1_ (fun hH => ?_)
     case hSr1_ => (first | exact ⟨c0, c1, c2, hb0.drew⟩ | exact ⟨c0, c1, c2, hb0⟩ | (obtain ⟨c0, c1, c2, hb0⟩ := hH; exact ⟨cl hb c0, cl hb c1, cl hb c2, below_step hb0 hb⟩))
     refine tk 0 ⟨some 3, .fieldAddr 23 (.tmp 1) 1, 0, _, _, _⟩ hH ?_
     refine tk 1 ⟨some 4, .load 3 (.tmp 3), 3, _, _, _⟩ hH ?_
     refine tk 2 ⟨some 5, .binOp .eql 3 (.tmp 4) (.const (.int .i64 1)) 3, 4, _, _, _⟩ hH ?_
     refine tk 3 ⟨some 6, .move (.tmp 5), 4, _, _, _⟩ hH ?_
     refine ts 4 ⟨some 7, .fieldAddr 23 (.tmp 1) 1, 0, _, _, _⟩ hH ?_
     refine ts 5 ⟨some 8, .load 3 (.tmp 7), 3, _, _, _⟩ hH ?_
     refine ts 6 ⟨some 9, .binOp .eql 3 (.tmp 8) (.const (.int .i64 2)) 3, 4, _, _, _⟩ hH ?_
     refine tk 7 ⟨some 10, .pick (.tmp 6) (.const (.bool true)) (.tmp 9), 4, _, _, _⟩ hH ?_
     refine tk 8 ⟨some 11, .move (.tmp 10), 4, _, _, _⟩ hH ?_
     refine tk 9 ⟨some 12, .fieldAddr 23 (.tmp 1) 2, 0, _, _, _⟩ hH ?_
     refine tk 10 ⟨some 13, .load 3 (.tmp 12), 3, _, _, _⟩ hH ?_
     refine tk 11 ⟨some 14, .binOp .geq 3 (.tmp 13) (.const (.int .i64 1)) 3, 4, _, _, _⟩ hH ?_
     refine tk 12 ⟨some 15, .pick (.tmp 11) (.tmp 14) (.const (.bool false)), 4, _, _, _⟩ hH ?_
     refine tk 13 ⟨some 16, .move (.tmp 15), 4, _, _, _⟩ hH ?_
     refine tk 14 ⟨some 17, .fieldAddr 23 (.tmp 1) 2, 0, _, _, _⟩ hH ?_
     refine tk 15 ⟨some 18, .load 3 (.tmp 17), 3, _, _, _⟩ hH ?_
     refine tk 16 ⟨some 19, .fieldAddr 23 (.tmp 1) 0, 0, _, _, _⟩ hH ?_
     refine tk 17 ⟨some 20, .load 3 (.tmp 19), 3, _, _, _⟩ hH ?_
     refine wpAnyH_ready (rs := [18]) (by kernel_rfl) (by simp) ?_
     refine AllReadyH.cons (o := ⟨some 21, .call { callee := .value (.func 24), args := #[.tmp 20], argTypes := #[3] }, 3, _, _, _⟩) rfl (fun K hK => ?_) AllReadyH.nil
     (go_simp; (refine (HW _).mono ?_); (rintro e wn ⟨rfl, hb⟩); go_wp2_with fail)
     refine hK.out _ _ ?hSr1_19_18 fun _ => ?_
     case hSr1_19_18 => (first | exact ⟨c0, c1, c2, hb0.drew⟩ | exact ⟨c0, c1, c2, hb0⟩ | (obtain ⟨c0, c1, c2, hb0⟩ := hH; exact ⟨cl hb c0, cl hb c1, cl hb c2, below_step hb0 hb⟩))
     clear hK K hH; rename_i hH
     (try simp only [Act.put, nz1, nz2, nz3])
     refine tk 19 ⟨some 22, .binOp .leq 3 (.tmp 18) (.tmp 21) 3, 4, _, _, _⟩ hH ?_
     refine tk 20 ⟨some 23, .pick (.tmp 16) (.tmp 22) (.const (.bool false)), 4, _, _, _⟩ hH ?_
     refine tk 21 ⟨some 2, .assign (.tmp 23), 4, _, _, _⟩ hH ?_
     refine wpAnyH_done (by kernel_rfl) ?_ _
     clear c0 c1 c2 hb0
     obtain ⟨c0, c1, c2, hb0⟩ := hH
     go_wp2
     go_ret
     exact ⟨rfl, hb0⟩
    ·go_enter Tryz.func20, Tryz.ntmps20
     go_wp2_with fail
     refine wp_region_held_drew (S := (fun w' => w'.cell? ⟨w.heap.size, 0, none⟩ = some (.int .i64 kd) ∧ w'.cell? ⟨w.heap.size, 1, none⟩ = some (.int .i64 2) ∧ w'.cell? ⟨w.heap.size, 2, none⟩ = some (.int .i64 st) ∧ Below w.heap.size w w')) (by kernel_rfl) ?hSr2_ (fun hH => ?_)
     case hSr2_ => (first | exact ⟨c0, c1, c2, hb0.drew⟩ | exact ⟨c0, c1, c2, hb0⟩ | (obtain ⟨c0, c1, c2, hb0⟩ := hH; exact ⟨cl hb c0, cl hb c1, cl hb c2, below_step hb0 hb⟩))
     refine tk 0 ⟨some 3, .fieldAddr 23 (.tmp 1) 1, 0, _, _, _⟩ hH ?_
     refine tk 1 ⟨some 4, .load 3 (.tmp 3), 3, _, _, _⟩ hH ?_
     refine tk 2 ⟨some 5, .binOp .eql 3 (.tmp 4) (.const (.int .i64 1)) 3, 4, _, _, _⟩ hH ?_
     refine tk 3 ⟨some 6, .move (.tmp 5), 4, _, _, _⟩ hH ?_
     refine tk 4 ⟨some 7, .fieldAddr 23 (.tmp 1) 1, 0, _, _, _⟩ hH ?_
     refine tk 5 ⟨some 8, .load 3 (.tmp 7), 3, _, _, _⟩ hH ?_
     refine tk 6 ⟨some 9, .binOp .eql 3 (.tmp 8) (.const (.int .i64 2)) 3, 4, _, _, _⟩ hH ?_
     refine tk 7 ⟨some 10, .pick (.tmp 6) (.const (.bool true)) (.tmp 9), 4, _, _, _⟩ hH ?_
     refine tk 8 ⟨some 11, .move (.tmp 10), 4, _, _, _⟩ hH ?_
     refine tk 9 ⟨some 12, .fieldAddr 23 (.tmp 1) 2, 0, _, _, _⟩ hH ?_
     refine tk 10 ⟨some 13, .load 3 (.tmp 12), 3, _, _, _⟩ hH ?_
     refine tk 11 ⟨some 14, .binOp .geq 3 (.tmp 13) (.const (.int .i64 1)) 3, 4, _, _, _⟩ hH ?_
     refine tk 12 ⟨some 15, .pick (.tmp 11) (.tmp 14) (.const (.bool false)), 4, _, _, _⟩ hH ?_
     refine tk 13 ⟨some 16, .move (.tmp 15), 4, _, _, _⟩ hH ?_
     refine tk 14 ⟨some 17, .fieldAddr 23 (.tmp 1) 2, 0, _, _, _⟩ hH ?_
     refine tk 15 ⟨some 18, .load 3 (.tmp 17), 3, _, _, _⟩ hH ?_
     refine tk 16 ⟨some 19, .fieldAddr 23 (.tmp 1) 0, 0, _, _, _⟩ hH ?_
     refine tk 17 ⟨some 20, .load 3 (.tmp 19), 3, _, _, _⟩ hH ?_
     refine wpAnyH_ready (rs := [18]) (by kernel_rfl) (by simp) ?_
     refine AllReadyH.cons (o := ⟨some 21, .call { callee := .value (.func 24), args := #[.tmp 20], argTypes := #[3] }, 3, _, _, _⟩) rfl (fun K hK => ?_) AllReadyH.nil
     (go_simp; (refine (HW _).mono ?_); (rintro e wn ⟨rfl, hb⟩); go_wp2_with fail)
     refine hK.out _ _ ?hSr2_19_18 fun _ => ?_
     case hSr2_19_18 => (first | exact ⟨c0, c1, c2, hb0.drew⟩ | exact ⟨c0, c1, c2, hb0⟩ | (obtain ⟨c0, c1, c2, hb0⟩ := hH; exact ⟨cl hb c0, cl hb c1, cl hb c2, below_step hb0 hb⟩))
     clear hK K hH; rename_i hH
     (try simp only [Act.put, nz1, nz2, nz3])
     refine tk 19 ⟨some 22, .binOp .leq 3 (.tmp 18) (.tmp 21) 3, 4, _, _, _⟩ hH ?_
     refine tk 20 ⟨some 23, .pick (.tmp 16) (.tmp 22) (.const (.bool false)), 4, _, _, _⟩ hH ?_
     refine tk 21 ⟨some 2, .assign (.tmp 23), 4, _, _, _⟩ hH ?_
     refine wpAnyH_done (by kernel_rfl) ?_ _
     clear c0 c1 c2 hb0
     obtain ⟨c0, c1, c2, hb0⟩ := hH
     go_wp2
     go_ret
     exact ⟨rfl, hb0⟩
   ·have e : r = false := by rw [hd2]; simp [t2]
    have t2' : decide (st ≤ wd) = false := decide_eq_false t2
    subst e
    clear hd2
    rcases s0 with rfl | rfl
    ·go_enter Tryz.func20, Tryz.ntmps20
     go_wp2_with fail
     refine wp_region_held_drew (S := (fun w' => w'.cell? ⟨w.heap.size, 0, none⟩ = some (.int .i64 kd) ∧ w'.cell? ⟨w.heap.size, 1, none⟩ = some (.int .i64 1) ∧ w'.cell? ⟨w.heap.size, 2, none⟩ = some (.int .i64 st) ∧ Below w.heap.size w w')) (by kernel_rfl) ?hSr3_ (fun hH => ?_)
     case hSr3_ => (first | exact ⟨c0, c1, c2, hb0.drew⟩ | exact ⟨c0, c1, c2, hb0⟩ | (obtain ⟨c0, c1, c2, hb0⟩ := hH; exact ⟨cl hb c0, cl hb c1, cl hb c2, below_step hb0 hb⟩))
     refine tk 0 ⟨some 3, .fieldAddr 23 (.tmp 1) 1, 0, _, _, _⟩ hH ?_
     refine tk 1 ⟨some 4, .load 3 (.tmp 3), 3, _, _, _⟩ hH ?_
     refine tk 2 ⟨some 5, .binOp .eql 3 (.tmp 4) (.const (.int .i64 1)) 3, 4, _, _, _⟩ hH ?_
     refine tk 3 ⟨some 6, .move (.tmp 5), 4, _, _, _⟩ hH ?_
     refine ts 4 ⟨some 7, .fieldAddr 23 (.tmp 1) 1, 0, _, _, _⟩ hH ?_
     refine ts 5 ⟨some 8, .load 3 (.tmp 7), 3, _, _, _⟩ hH ?_
     refine ts 6 ⟨some 9, .binOp .eql 3 (.tmp 8) (.const (.int .i64 2)) 3, 4, _, _, _⟩ hH ?_
     refine tk 7 ⟨some 10, .pick (.tmp 6) (.const (.bool true)) (.tmp 9), 4, _, _, _⟩ hH ?_
     refine tk 8 ⟨some 11, .move (.tmp 10), 4, _, _, _⟩ hH ?_
     refine tk 9 ⟨some 12, .fieldAddr 23 (.tmp 1) 2, 0, _, _, _⟩ hH ?_
     refine tk 10 ⟨some 13, .load 3 (.tmp 12), 3, _, _, _⟩ hH ?_
     refine tk 11 ⟨some 14, .binOp .geq 3 (.tmp 13) (.const (.int .i64 1)) 3, 4, _, _, _⟩ hH ?_
     refine tk 12 ⟨some 15, .pick (.tmp 11) (.tmp 14) (.const (.bool false)), 4, _, _, _⟩ hH ?_
     refine tk 13 ⟨some 16, .move (.tmp 15), 4, _, _, _⟩ hH ?_
     refine tk 14 ⟨some 17, .fieldAddr 23 (.tmp 1) 2, 0, _, _, _⟩ hH ?_
     refine tk 15 ⟨some 18, .load 3 (.tmp 17), 3, _, _, _⟩ hH ?_
     refine tk 16 ⟨some 19, .fieldAddr 23 (.tmp 1) 0, 0, _, _, _⟩ hH ?_
     refine tk 17 ⟨some 20, .load 3 (.tmp 19), 3, _, _, _⟩ hH ?_
     refine wpAnyH_ready (rs := [18]) (by kernel_rfl) (by simp) ?_
     refine AllReadyH.cons (o := ⟨some 21, .call { callee := .value (.func 24), args := #[.tmp 20], argTypes := #[3] }, 3, _, _, _⟩) rfl (fun K hK => ?_) AllReadyH.nil
     (go_simp; (refine (HW _).mono ?_); (rintro e wn ⟨rfl, hb⟩); go_wp2_with fail)
     refine hK.out _ _ ?hSr3_19_18 fun _ => ?_
     case hSr3_19_18 => (first | exact ⟨c0, c1, c2, hb0.drew⟩ | exact ⟨c0, c1, c2, hb0⟩ | (obtain ⟨c0, c1, c2, hb0⟩ := hH; exact ⟨cl hb c0, cl hb c1, cl hb c2, below_step hb0 hb⟩))
     clear hK K hH; rename_i hH
     (try simp only [Act.put, nz1, nz2, nz3])
     refine tk 19 ⟨some 22, .binOp .leq 3 (.tmp 18) (.tmp 21) 3, 4, _, _, _⟩ hH ?_
     refine tk 20 ⟨some 23, .pick (.tmp 16) (.tmp 22) (.const (.bool false)), 4, _, _, _⟩ hH ?_
     refine tk 21 ⟨some 2, .assign (.tmp 23), 4, _, _, _⟩ hH ?_
     refine wpAnyH_done (by kernel_rfl) ?_ _
     clear c0 c1 c2 hb0
     obtain ⟨c0, c1, c2, hb0⟩ := hH
     go_wp2
     go_ret
     exact ⟨rfl, hb0⟩
    ·go_enter Tryz.func20, Tryz.ntmps20
     go_wp2_with fail
     refine wp_region_held_drew (S := (fun w' => w'.cell? ⟨w.heap.size, 0, none⟩ = some (.int .i64 kd) ∧ w'.cell? ⟨w.heap.size, 1, none⟩ = some (.int .i64 2) ∧ w'.cell? ⟨w.heap.size, 2, none⟩ = some (.int .i64 st) ∧ Below w.heap.size w w')) (by kernel_rfl) ?hSr4_ (fun hH => ?_)
     case hSr4_ => (first | exact ⟨c0, c1, c2, hb0.drew⟩ | exact ⟨c0, c1, c2, hb0⟩ | (obtain ⟨c0, c1, c2, hb0⟩ := hH; exact ⟨cl hb c0, cl hb c1, cl hb c2, below_step hb0 hb⟩))
     refine tk 0 ⟨some 3, .fieldAddr 23 (.tmp 1) 1, 0, _, _, _⟩ hH ?_
     refine tk 1 ⟨some 4, .load 3 (.tmp 3), 3, _, _, _⟩ hH ?_
     refine tk 2 ⟨some 5, .binOp .eql 3 (.tmp 4) (.const (.int .i64 1)) 3, 4, _, _, _⟩ hH ?_
     refine tk 3 ⟨some 6, .move (.tmp 5), 4, _, _, _⟩ hH ?_
     refine tk 4 ⟨some 7, .fieldAddr 23 (.tmp 1) 1, 0, _, _, _⟩ hH ?_
     refine tk 5 ⟨some 8, .load 3 (.tmp 7), 3, _, _, _⟩ hH ?_
     refine tk 6 ⟨some 9, .binOp .eql 3 (.tmp 8) (.const (.int .i64 2)) 3, 4, _, _, _⟩ hH ?_
     refine tk 7 ⟨some 10, .pick (.tmp 6) (.const (.bool true)) (.tmp 9), 4, _, _, _⟩ hH ?_
     refine tk 8 ⟨some 11, .move (.tmp 10), 4, _, _, _⟩ hH ?_
     refine tk 9 ⟨some 12, .fieldAddr 23 (.tmp 1) 2, 0, _, _, _⟩ hH ?_
     refine tk 10 ⟨some 13, .load 3 (.tmp 12), 3, _, _, _⟩ hH ?_
     refine tk 11 ⟨some 14, .binOp .geq 3 (.tmp 13) (.const (.int .i64 1)) 3, 4, _, _, _⟩ hH ?_
     refine tk 12 ⟨some 15, .pick (.tmp 11) (.tmp 14) (.const (.bool false)), 4, _, _, _⟩ hH ?_
     refine tk 13 ⟨some 16, .move (.tmp 15), 4, _, _, _⟩ hH ?_
     refine tk 14 ⟨some 17, .fieldAddr 23 (.tmp 1) 2, 0, _, _, _⟩ hH ?_
     refine tk 15 ⟨some 18, .load 3 (.tmp 17), 3, _, _, _⟩ hH ?_
     refine tk 16 ⟨some 19, .fieldAddr 23 (.tmp 1) 0, 0, _, _, _⟩ hH ?_
     refine tk 17 ⟨some 20, .load 3 (.tmp 19), 3, _, _, _⟩ hH ?_
     refine wpAnyH_ready (rs := [18]) (by kernel_rfl) (by simp) ?_
     refine AllReadyH.cons (o := ⟨some 21, .call { callee := .value (.func 24), args := #[.tmp 20], argTypes := #[3] }, 3, _, _, _⟩) rfl (fun K hK => ?_) AllReadyH.nil
     (go_simp; (refine (HW _).mono ?_); (rintro e wn ⟨rfl, hb⟩); go_wp2_with fail)
     refine hK.out _ _ ?hSr4_19_18 fun _ => ?_
     case hSr4_19_18 => (first | exact ⟨c0, c1, c2, hb0.drew⟩ | exact ⟨c0, c1, c2, hb0⟩ | (obtain ⟨c0, c1, c2, hb0⟩ := hH; exact ⟨cl hb c0, cl hb c1, cl hb c2, below_step hb0 hb⟩))
     clear hK K hH; rename_i hH
     (try simp only [Act.put, nz1, nz2, nz3])
     refine tk 19 ⟨some 22, .binOp .leq 3 (.tmp 18) (.tmp 21) 3, 4, _, _, _⟩ hH ?_
     refine tk 20 ⟨some 23, .pick (.tmp 16) (.tmp 22) (.const (.bool false)), 4, _, _, _⟩ hH ?_
     refine tk 21 ⟨some 2, .assign (.tmp 23), 4, _, _, _⟩ hH ?_
     refine wpAnyH_done (by kernel_rfl) ?_ _
     clear c0 c1 c2 hb0
     obtain ⟨c0, c1, c2, hb0⟩ := hH
     go_wp2
     go_ret
     exact ⟨rfl, hb0⟩
  ·have e : r = false := by rw [hd2]; simp [t1]
   have t1' : decide (1 ≤ st) = false := decide_eq_false t1
   subst e
   clear hd2
   rcases s0 with rfl | rfl
   ·go_enter Tryz.func20, Tryz.ntmps20
    go_wp2_with fail
    refine wp_region_held_drew (S := (fun w' => w'.cell? ⟨w.heap.size, 0, none⟩ = some (.int .i64 kd) ∧ w'.cell? ⟨w.heap.size, 1, none⟩ = some (.int .i64 1) ∧ w'.cell? ⟨w.heap.size, 2, none⟩ = some (.int .i64 st) ∧ Below w.heap.size w w')) (by kernel_rfl) ?hSr5_ (fun hH => ?_)
    case hSr5_ => (exact ⟨c0, c1, c2, hb0.drew⟩)
    (generalize World.drew _ = wn at *)
    refine tk 0 ⟨some 3, .fieldAddr 23 (.tmp 1) 1, 0, _, _, _⟩ hH ?_
    refine tk 1 ⟨some 4, .load 3 (.tmp 3), 3, _, _, _⟩ hH ?_
    refine tk 2 ⟨some 5, .binOp .eql 3 (.tmp 4) (.const (.int .i64 1)) 3, 4, _, _, _⟩ hH ?_
    refine tk 3 ⟨some 6, .move (.tmp 5), 4, _, _, _⟩ hH ?_
    refine ts 4 ⟨some 7, .fieldAddr 23 (.tmp 1) 1, 0, _, _, _⟩ hH ?_
    refine ts 5 ⟨some 8, .load 3 (.tmp 7), 3, _, _, _⟩ hH ?_
    refine ts 6 ⟨some 9, .binOp .eql 3 (.tmp 8) (.const (.int .i64 2)) 3, 4, _, _, _⟩ hH ?_
    refine tk 7 ⟨some 10, .pick (.tmp 6) (.const (.bool true)) (.tmp 9), 4, _, _, _⟩ hH ?_
    refine tk 8 ⟨some 11, .move (.tmp 10), 4, _, _, _⟩ hH ?_
    refine tk 9 ⟨some 12, .fieldAddr 23 (.tmp 1) 2, 0, _, _, _⟩ hH ?_
    refine tk 10 ⟨some 13, .load 3 (.tmp 12), 3, _, _, _⟩ hH ?_
    refine tk 11 ⟨some 14, .binOp .geq 3 (.tmp 13) (.const (.int .i64 1)) 3, 4, _, _, _⟩ hH ?_
    refine tk 12 ⟨some 15, .pick (.tmp 11) (.tmp 14) (.const (.bool false)), 4, _, _, _⟩ hH ?_
    refine tk 13 ⟨some 16, .move (.tmp 15), 4, _, _, _⟩ hH ?_
    refine ts 14 ⟨some 17, .fieldAddr 23 (.tmp 1) 2, 0, _, _, _⟩ hH ?_
    refine ts 15 ⟨some 18, .load 3 (.tmp 17), 3, _, _, _⟩ hH ?_
    refine ts 16 ⟨some 19, .fieldAddr 23 (.tmp 1) 0, 0, _, _, _⟩ hH ?_
    refine ts 17 ⟨some 20, .load 3 (.tmp 19), 3, _, _, _⟩ hH ?_
    refine ts 18 ⟨some 21, .call { callee := .value (.func 24), args := #[.tmp 20], argTypes := #[3] }, 3, _, _, _⟩ hH ?_
    refine ts 19 ⟨some 22, .binOp .leq 3 (.tmp 18) (.tmp 21) 3, 4, _, _, _⟩ hH ?_
    refine tk 20 ⟨some 23, .pick (.tmp 16) (.tmp 22) (.const (.bool false)), 4, _, _, _⟩ hH ?_
    refine tk 21 ⟨some 2, .assign (.tmp 23), 4, _, _, _⟩ hH ?_
    refine wpAnyH_done (by kernel_rfl) ?_ _
    clear c0 c1 c2 hb0
    obtain ⟨c0, c1, c2, hb0⟩ := hH
    go_wp2
    go_ret
    exact ⟨rfl, hb0⟩
   ·go_enter Tryz.func20, Tryz.ntmps20
    go_wp2_with fail
    refine wp_region_held_drew (S := (fun w' => w'.cell? ⟨w.heap.size, 0, none⟩ = some (.int .i64 kd) ∧ w'.cell? ⟨w.heap.size, 1, none⟩ = some (.int .i64 2) ∧ w'.cell? ⟨w.heap.size, 2, none⟩ = some (.int .i64 st) ∧ Below w.heap.size w w')) (by kernel_rfl) ?hSr6_ (fun hH => ?_)
    case hSr6_ => (exact ⟨c0, c1, c2, hb0.drew⟩)
    (generalize World.drew _ = wn at *)
    refine tk 0 ⟨some 3, .fieldAddr 23 (.tmp 1) 1, 0, _, _, _⟩ hH ?_
    refine tk 1 ⟨some 4, .load 3 (.tmp 3), 3, _, _, _⟩ hH ?_
    refine tk 2 ⟨some 5, .binOp .eql 3 (.tmp 4) (.const (.int .i64 1)) 3, 4, _, _, _⟩ hH ?_
    refine tk 3 ⟨some 6, .move (.tmp 5), 4, _, _, _⟩ hH ?_
    refine tk 4 ⟨some 7, .fieldAddr 23 (.tmp 1) 1, 0, _, _, _⟩ hH ?_
    refine tk 5 ⟨some 8, .load 3 (.tmp 7), 3, _, _, _⟩ hH ?_
    refine tk 6 ⟨some 9, .binOp .eql 3 (.tmp 8) (.const (.int .i64 2)) 3, 4, _, _, _⟩ hH ?_
    refine tk 7 ⟨some 10, .pick (.tmp 6) (.const (.bool true)) (.tmp 9), 4, _, _, _⟩ hH ?_
    refine tk 8 ⟨some 11, .move (.tmp 10), 4, _, _, _⟩ hH ?_
    refine tk 9 ⟨some 12, .fieldAddr 23 (.tmp 1) 2, 0, _, _, _⟩ hH ?_
    refine tk 10 ⟨some 13, .load 3 (.tmp 12), 3, _, _, _⟩ hH ?_
    refine tk 11 ⟨some 14, .binOp .geq 3 (.tmp 13) (.const (.int .i64 1)) 3, 4, _, _, _⟩ hH ?_
    refine tk 12 ⟨some 15, .pick (.tmp 11) (.tmp 14) (.const (.bool false)), 4, _, _, _⟩ hH ?_
    refine tk 13 ⟨some 16, .move (.tmp 15), 4, _, _, _⟩ hH ?_
    refine ts 14 ⟨some 17, .fieldAddr 23 (.tmp 1) 2, 0, _, _, _⟩ hH ?_
    refine ts 15 ⟨some 18, .load 3 (.tmp 17), 3, _, _, _⟩ hH ?_
    refine ts 16 ⟨some 19, .fieldAddr 23 (.tmp 1) 0, 0, _, _, _⟩ hH ?_
    refine ts 17 ⟨some 20, .load 3 (.tmp 19), 3, _, _, _⟩ hH ?_
    refine ts 18 ⟨some 21, .call { callee := .value (.func 24), args := #[.tmp 20], argTypes := #[3] }, 3, _, _, _⟩ hH ?_
    refine ts 19 ⟨some 22, .binOp .leq 3 (.tmp 18) (.tmp 21) 3, 4, _, _, _⟩ hH ?_
    refine tk 20 ⟨some 23, .pick (.tmp 16) (.tmp 22) (.const (.bool false)), 4, _, _, _⟩ hH ?_
    refine tk 21 ⟨some 2, .assign (.tmp 23), 4, _, _, _⟩ hH ?_
    refine wpAnyH_done (by kernel_rfl) ?_ _
    clear c0 c1 c2 hb0
    obtain ⟨c0, c1, c2, hb0⟩ := hH
    go_wp2
    go_ret
    exact ⟨rfl, hb0⟩
 ·have e : r = false := by
   rw [hd, decide_eq_false (fun h => s0 (.inl h)), decide_eq_false (fun h => s0 (.inr h))]; rfl
  have x1 : (sd == 1) = false := by simp; omega
  have x2 : (sd == 2) = false := by simp; omega
  subst e
  clear hd s0 HW
  go_enter Tryz.func20, Tryz.ntmps20
  go_wp2_with fail
  refine wp_region_held_drew (S := (fun w' => w'.cell? ⟨w.heap.size, 0, none⟩ = some (.int .i64 kd) ∧ w'.cell? ⟨w.heap.size, 1, none⟩ = some (.int .i64 sd) ∧ w'.cell? ⟨w.heap.size, 2, none⟩ = some (.int .i64 st) ∧ Below w.heap.size w w')) (by kernel_rfl) ?hSr7_ (fun hH => ?_)
  case hSr7_ => (exact ⟨c0, c1, c2, hb0.drew⟩)
  (generalize World.drew _ = wn at *)
  refine tk 0 ⟨some 3, .fieldAddr 23 (.tmp 1) 1, 0, _, _, _⟩ hH ?_
  refine tk 1 ⟨some 4, .load 3 (.tmp 3), 3, _, _, _⟩ hH ?_
  refine tk 2 ⟨some 5, .binOp .eql 3 (.tmp 4) (.const (.int .i64 1)) 3, 4, _, _, _⟩ hH ?_
  refine tk 3 ⟨some 6, .move (.tmp 5), 4, _, _, _⟩ hH ?_
  refine tk 4 ⟨some 7, .fieldAddr 23 (.tmp 1) 1, 0, _, _, _⟩ hH ?_
  refine tk 5 ⟨some 8, .load 3 (.tmp 7), 3, _, _, _⟩ hH ?_
  refine tk 6 ⟨some 9, .binOp .eql 3 (.tmp 8) (.const (.int .i64 2)) 3, 4, _, _, _⟩ hH ?_
  refine tk 7 ⟨some 10, .pick (.tmp 6) (.const (.bool true)) (.tmp 9), 4, _, _, _⟩ hH ?_
  refine tk 8 ⟨some 11, .move (.tmp 10), 4, _, _, _⟩ hH ?_
  refine ts 9 ⟨some 12, .fieldAddr 23 (.tmp 1) 2, 0, _, _, _⟩ hH ?_
  refine ts 10 ⟨some 13, .load 3 (.tmp 12), 3, _, _, _⟩ hH ?_
  refine ts 11 ⟨some 14, .binOp .geq 3 (.tmp 13) (.const (.int .i64 1)) 3, 4, _, _, _⟩ hH ?_
  refine tk 12 ⟨some 15, .pick (.tmp 11) (.tmp 14) (.const (.bool false)), 4, _, _, _⟩ hH ?_
  refine tk 13 ⟨some 16, .move (.tmp 15), 4, _, _, _⟩ hH ?_
  refine ts 14 ⟨some 17, .fieldAddr 23 (.tmp 1) 2, 0, _, _, _⟩ hH ?_
  refine ts 15 ⟨some 18, .load 3 (.tmp 17), 3, _, _, _⟩ hH ?_
  refine ts 16 ⟨some 19, .fieldAddr 23 (.tmp 1) 0, 0, _, _, _⟩ hH ?_
  refine ts 17 ⟨some 20, .load 3 (.tmp 19), 3, _, _, _⟩ hH ?_
  refine ts 18 ⟨some 21, .call { callee := .value (.func 24), args := #[.tmp 20], argTypes := #[3] }, 3, _, _, _⟩ hH ?_
  refine ts 19 ⟨some 22, .binOp .leq 3 (.tmp 18) (.tmp 21) 3, 4, _, _, _⟩ hH ?_
  refine tk 20 ⟨some 23, .pick (.tmp 16) (.tmp 22) (.const (.bool false)), 4, _, _, _⟩ hH ?_
  refine tk 21 ⟨some 2, .assign (.tmp 23), 4, _, _, _⟩ hH ?_
  refine wpAnyH_done (by kernel_rfl) ?_ _
  clear c0 c1 c2 hb0
  obtain ⟨c0, c1, c2, hb0⟩ := hH
  go_wp2
  go_ret
  exact ⟨rfl, hb0⟩
theorem ddepth_t (d : Dm) (w : World) : Calls Tryz.prog 87 #[dv d] w fun e w' => e = .returned (.int .i64 (depthD d)) ∧ Below w.heap.size w w' := by
 have HR := dright_t d
 have HW := width_t d.kind
 have hw := wid_range d.kind
 have hD : depthD d = if rightD d = true then (wid d.kind + d.step - 1) / d.step else 0 := rfl
 cases hr : rightD d with
 | false =>
  rw [hr] at HR hD
  rw [hD, if_neg (by simp)]
  clear hD hr
  unfold dv at *
  obtain ⟨RR0, hb0⟩ := one_row w #[.int .i64 d.kind, .int .i64 d.side, .int .i64 d.step] 23
  have c0 := (RR0.cell 0).trans (show _ = some (Value.int .i64 d.kind) from rfl)
  have c1 := (RR0.cell 1).trans (show _ = some (Value.int .i64 d.side) from rfl)
  have c2 := (RR0.cell 2).trans (show _ = some (Value.int .i64 d.step) from rfl)
  clear RR0
  go_enter Tryz.func87, Tryz.ntmps87
  go_wp2_with fail
  refine (HR _).mono ?_
  rintro e w1 ⟨rfl, hb⟩
  replace c0 := cl hb c0
  replace c1 := cl hb c1
  replace c2 := cl hb c2
  replace hb0 := below_step hb0 hb
  clear hb
  have lc := World.block_lt_of_cell? _ _ c0
  dsimp only at lc
  go_wp2
  go_ret
  exact ⟨rfl, hb0⟩
 | true =>
  obtain ⟨g1, g2, _, _⟩ := depth_range hr
  obtain ⟨_, s1, s2⟩ := (rightD_iff d).1 hr
  rw [hr] at HR
  rw [hr, if_pos rfl] at hD
  generalize depthD d = q at *
  obtain ⟨kd, sd, st⟩ := d
  dsimp only at *
  clear hr
  generalize wid kd = wd at *
  have t1 : IntKind.i64.wrap (wd + st) = wd + st := IntWalk.i64_in _ (by omega)
  have t2 : IntKind.i64.wrap (wd + st - 1) = wd + st - 1 := IntWalk.i64_in _ (by omega)
  have t3 : (wd + st - 1).tdiv st = q := by rw [Int.tdiv_eq_ediv_of_nonneg (by omega)]; exact hD.symm
  have t4 : IntKind.i64.wrap q = q := IntWalk.i64_in _ (by omega)
  have t5 : (st == 0) = false := by simp; omega
  have t6 : ¬ st = 0 := by omega
  clear hD s2 g1 g2 hw
  unfold dv at *
  dsimp only at *
  obtain ⟨RR0, hb0⟩ := one_row w #[.int .i64 kd, .int .i64 sd, .int .i64 st] 23
  have c0 := (RR0.cell 0).trans (show _ = some (Value.int .i64 kd) from rfl)
  have c1 := (RR0.cell 1).trans (show _ = some (Value.int .i64 sd) from rfl)
  have c2 := (RR0.cell 2).trans (show _ = some (Value.int .i64 st) from rfl)
  clear RR0
  go_enter Tryz.func87, Tryz.ntmps87
  go_wp2_with fail
  refine (HR _).mono ?_
  rintro e w2 ⟨rfl, hb⟩
  replace c0 := cl hb c0
  replace c1 := cl hb c1
  replace c2 := cl hb c2
  replace hb0 := below_step hb0 hb
  clear hb
  have lc := World.block_lt_of_cell? _ _ c0
  dsimp only at lc
  go_wp2_with fail
  refine wp_region_held_drew (S := (fun w' => w'.cell? ⟨w.heap.size, 0, none⟩ = some (.int .i64 kd) ∧ w'.cell? ⟨w.heap.size, 1, none⟩ = some (.int .i64 sd) ∧ w'.cell? ⟨w.heap.size, 2, none⟩ = some (.int .i64 st) ∧ Below w.heap.size w w')) (by kernel_rfl) ?hSr1_ (fun hH => ?_)
  case hSr1_ => (first | exact ⟨c0, c1, c2, hb0.drew⟩ | exact ⟨c0, c1, c2, hb0⟩ | (obtain ⟨c0, c1, c2, hb0⟩ := hH; exact ⟨cl hb c0, cl hb c1, cl hb c2, below_step hb0 hb⟩))
  refine tk 0 ⟨some 6, .fieldAddr 23 (.tmp 1) 0, 0, _, _, _⟩ hH ?_
  refine tk 1 ⟨some 7, .load 3 (.tmp 6), 3, _, _, _⟩ hH ?_
  refine tk 3 ⟨some 9, .fieldAddr 23 (.tmp 1) 2, 0, _, _, _⟩ hH ?_
  refine tk 4 ⟨some 10, .load 3 (.tmp 9), 3, _, _, _⟩ hH ?_
  refine tk 7 ⟨some 13, .fieldAddr 23 (.tmp 1) 2, 0, _, _, _⟩ hH ?_
  refine tk 8 ⟨some 14, .load 3 (.tmp 13), 3, _, _, _⟩ hH ?_
  refine wpAnyH_ready (rs := [2]) (by kernel_rfl) (by simp) ?_
  refine AllReadyH.cons (o := ⟨some 8, .call { callee := .value (.func 24), args := #[.tmp 7], argTypes := #[3] }, 3, _, _, _⟩) rfl (fun K hK => ?_) AllReadyH.nil
  (go_simp; (refine (HW _).mono ?_); (rintro e wn ⟨rfl, hb⟩); go_wp2_with fail)
  refine hK.out _ _ ?hSr1_7_2 fun _ => ?_
  case hSr1_7_2 => (first | exact ⟨c0, c1, c2, hb0.drew⟩ | exact ⟨c0, c1, c2, hb0⟩ | (obtain ⟨c0, c1, c2, hb0⟩ := hH; exact ⟨cl hb c0, cl hb c1, cl hb c2, below_step hb0 hb⟩))
  clear hK K hH; rename_i hH
  (try simp only [Act.put, nz1, nz2, nz3])
  refine tk 5 ⟨some 11, .binOp .add 3 (.tmp 8) (.tmp 10) 3, 3, _, _, _⟩ hH ?_
  refine tk 6 ⟨some 12, .binOp .sub 3 (.tmp 11) (.const (.int .i64 1)) 3, 3, _, _, _⟩ hH ?_
  refine tk 9 ⟨some 15, .binOp .quo 3 (.tmp 12) (.tmp 14) 3, 3, _, _, _⟩ hH ?_
  refine tk 10 ⟨some 2, .assign (.tmp 15), 3, _, _, _⟩ hH ?_
  refine wpAnyH_done (by kernel_rfl) ?_ _
  clear c0 c1 c2 hb0
  obtain ⟨c0, c1, c2, hb0⟩ := hH
  go_wp2
  go_ret
  exact ⟨rfl, hb0⟩
theorem dlen_t (d : Dm) (l : Int) (w : World) : Calls Tryz.prog 43 #[dv d, .int .i64 l] w fun e w' => e = .returned (.int .i64 (lenD d l)) ∧ Below w.heap.size w w' := by
 have HR := dright_t d
 have HE := ddepth_t d
 have HW := width_t d.kind
 have hw := wid_range d.kind
 have hD : lenD d l = if rightD d = true ∧ 0 ≤ l ∧ l ≤ depthD d then max (wid d.kind - l * d.step) 0 else -1 := rfl
 cases hr : rightD d with
 | false =>
  rw [hr] at HR hD
  rw [hD, if_neg (by simp)]
  clear hD hr HE HW
  unfold dv at *
  obtain ⟨RR0, hb0⟩ := one_row w #[.int .i64 d.kind, .int .i64 d.side, .int .i64 d.step] 23
  have c0 := (RR0.cell 0).trans (show _ = some (Value.int .i64 d.kind) from rfl)
  have c1 := (RR0.cell 1).trans (show _ = some (Value.int .i64 d.side) from rfl)
  have c2 := (RR0.cell 2).trans (show _ = some (Value.int .i64 d.step) from rfl)
  clear RR0
  go_enter Tryz.func43, Tryz.ntmps43
  go_wp2_with fail
  refine (HR _).mono ?_
  rintro e w3 ⟨rfl, hb⟩
  replace c0 := cl hb c0
  replace c1 := cl hb c1
  replace c2 := cl hb c2
  replace hb0 := below_step hb0 hb
  clear hb
  have lc := World.block_lt_of_cell? _ _ c0
  dsimp only at lc
  go_wp2
  go_ret
  exact ⟨rfl, hb0⟩
 | true =>
  obtain ⟨g1, g2, _, _⟩ := depth_range hr
  obtain ⟨_, s1, s2⟩ := (rightD_iff d).1 hr
  rw [hr] at HR hD
  generalize depthD d = q at *
  obtain ⟨kd, sd, st⟩ := d
  dsimp only at *
  clear hr
  generalize wid kd = wd at *
  unfold dv at *
  dsimp only at *
  obtain ⟨RR0, hb0⟩ := one_row w #[.int .i64 kd, .int .i64 sd, .int .i64 st] 23
  have c0 := (RR0.cell 0).trans (show _ = some (Value.int .i64 kd) from rfl)
  have c1 := (RR0.cell 1).trans (show _ = some (Value.int .i64 sd) from rfl)
  have c2 := (RR0.cell 2).trans (show _ = some (Value.int .i64 st) from rfl)
  clear RR0
  by_cases l0 : l < 0
  ·rw [hD, if_neg (by omega)]
   clear hD HE HW
   go_enter Tryz.func43, Tryz.ntmps43
   go_wp2_with fail
   refine (HR _).mono ?_
   rintro e w4 ⟨rfl, hb⟩
   replace c0 := cl hb c0
   replace c1 := cl hb c1
   replace c2 := cl hb c2
   replace hb0 := below_step hb0 hb
   clear hb
   have lc := World.block_lt_of_cell? _ _ c0
   dsimp only at lc
   go_wp2
   go_ret
   exact ⟨rfl, hb0⟩
  ·by_cases l1 : q < l
   ·rw [hD, if_neg (by omega)]
    clear hD HW
    go_enter Tryz.func43, Tryz.ntmps43
    go_wp2_with fail
    refine (HR _).mono ?_
    rintro e w5 ⟨rfl, hb⟩
    replace c0 := cl hb c0
    replace c1 := cl hb c1
    replace c2 := cl hb c2
    replace hb0 := below_step hb0 hb
    clear hb
    have lc := World.block_lt_of_cell? _ _ c0
    dsimp only at lc
    go_wp2_with fail
    refine (HE _).mono ?_
    rintro e w6 ⟨rfl, hb⟩
    replace c0 := cl hb c0
    replace c1 := cl hb c1
    replace c2 := cl hb c2
    replace hb0 := below_step hb0 hb
    clear hb
    have lc := World.block_lt_of_cell? _ _ c0
    dsimp only at lc
    go_wp2
    go_ret
    exact ⟨rfl, hb0⟩
   ·rw [if_pos ⟨rfl, by omega, by omega⟩] at hD
    rw [hD]
    have m0 : 0 ≤ l * st := Int.mul_nonneg (by omega) (by omega)
    have m1 : l * st ≤ 128 * 128 := Int.mul_le_mul (by omega) (by omega) (by omega) (by omega)
    have t1 : IntKind.i64.wrap (l * st) = l * st := IntWalk.i64_in _ (by omega)
    have t2 : IntKind.i64.wrap (wd - l * st) = wd - l * st := IntWalk.i64_in _ (by omega)
    obtain ⟨mx, hmx⟩ : ∃ mx, max (wd - l * st) 0 = mx := ⟨_, rfl⟩
    rw [hmx]
    have HM := Lib.hid hmx
    clear hD hmx m0 m1
    go_enter Tryz.func43, Tryz.ntmps43
    go_wp2_with fail
    refine (HR _).mono ?_
    rintro e w7 ⟨rfl, hb⟩
    replace c0 := cl hb c0
    replace c1 := cl hb c1
    replace c2 := cl hb c2
    replace hb0 := below_step hb0 hb
    clear hb
    have lc := World.block_lt_of_cell? _ _ c0
    dsimp only at lc
    go_wp2_with fail
    refine (HE _).mono ?_
    rintro e w8 ⟨rfl, hb⟩
    replace c0 := cl hb c0
    replace c1 := cl hb c1
    replace c2 := cl hb c2
    replace hb0 := below_step hb0 hb
    clear hb
    have lc := World.block_lt_of_cell? _ _ c0
    dsimp only at lc
    go_wp2_with fail
    refine wp_region_held_drew (S := (fun w' => w'.cell? ⟨w.heap.size, 0, none⟩ = some (.int .i64 kd) ∧ w'.cell? ⟨w.heap.size, 1, none⟩ = some (.int .i64 sd) ∧ w'.cell? ⟨w.heap.size, 2, none⟩ = some (.int .i64 st) ∧ Below w.heap.size w w')) (by kernel_rfl) ?hSr2_ (fun hH => ?_)
    case hSr2_ => (first | exact ⟨c0, c1, c2, hb0.drew⟩ | exact ⟨c0, c1, c2, hb0⟩ | (obtain ⟨c0, c1, c2, hb0⟩ := hH; exact ⟨cl hb c0, cl hb c1, cl hb c2, below_step hb0 hb⟩))
    refine tk 0 ⟨some 18, .fieldAddr 23 (.tmp 2) 0, 0, _, _, _⟩ hH ?_
    refine tk 1 ⟨some 19, .load 3 (.tmp 18), 3, _, _, _⟩ hH ?_
    refine tk 3 ⟨some 21, .move (.tmp 1), 3, _, _, _⟩ hH ?_
    refine tk 4 ⟨some 22, .fieldAddr 23 (.tmp 2) 2, 0, _, _, _⟩ hH ?_
    refine tk 5 ⟨some 23, .load 3 (.tmp 22), 3, _, _, _⟩ hH ?_
    refine tk 6 ⟨some 24, .binOp .mul 3 (.tmp 21) (.tmp 23) 3, 3, _, _, _⟩ hH ?_
    refine wpAnyH_ready (rs := [2]) (by kernel_rfl) (by simp) ?_
    refine AllReadyH.cons (o := ⟨some 20, .call { callee := .value (.func 24), args := #[.tmp 19], argTypes := #[3] }, 3, _, _, _⟩) rfl (fun K hK => ?_) AllReadyH.nil
    (go_simp; (refine (HW _).mono ?_); (rintro e wn ⟨rfl, hb⟩); go_wp2_with fail)
    refine hK.out _ _ ?hSr2_7_2 fun _ => ?_
    case hSr2_7_2 => (first | exact ⟨c0, c1, c2, hb0.drew⟩ | exact ⟨c0, c1, c2, hb0⟩ | (obtain ⟨c0, c1, c2, hb0⟩ := hH; exact ⟨cl hb c0, cl hb c1, cl hb c2, below_step hb0 hb⟩))
    clear hK K hH; rename_i hH
    (try simp only [Act.put, nz1, nz2, nz3])
    refine tk 7 ⟨some 25, .binOp .sub 3 (.tmp 20) (.tmp 24) 3, 3, _, _, _⟩ hH ?_
    refine tk 8 ⟨some 26, .call { callee := .builtin .max, args := #[.tmp 25, .const (.int .i64 0)], argTypes := #[3, 3] }, 3, _, _, _⟩ hH ?_ (v := ?vr2_9_8) (hy := ?yr2_9_8)
    case yr2_9_8 => (intro w hSw; (try dsimp only at hSw); go_simp; rw [HM.out])
    refine tk 9 ⟨some 4, .assign (.tmp 26), 3, _, _, _⟩ hH ?_
    refine wpAnyH_done (by kernel_rfl) ?_ _
    clear c0 c1 c2 hb0
    obtain ⟨c0, c1, c2, hb0⟩ := hH
    go_wp2
    go_ret
    exact ⟨rfl, hb0⟩
theorem kz_ok : kz.ok := ⟨by unfold Word kz; decide, by unfold Word kz; decide, by unfold kz; decide, by unfold kz; decide, by unfold kz; decide, by unfold kz; decide, by unfold kz; decide⟩
end Go.Proofs.YtboinifeemghaaaGreatDoor
