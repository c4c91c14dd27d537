/- Keys as plain data: their letters, tops, which are right, over and meet. No conditions. -/
import Derived.Test.YtekoicbjpoeijaaLabP
import Derived.Test.YtekoicbjpoeijaaWideK
namespace Go.Proofs.Ytekoicbjpoeijaa
set_option linter.unusedVariables false
set_option linter.unusedSimpArgs false
open Go.RowKit
structure Ke where
  kind : Int
  len : Int
  h : Int
  l : Int
  path : List UInt8
  deriving DecidableEq
def kv (k : Ke) : Value := .agg #[.int .i64 k.kind, .int .i64 k.len, .int .u64 k.h, .int .u64 k.l, .string ⟨k.path.toArray⟩]
/-- the zero key -/
def kz : Ke := ⟨0, 0, 0, 0, []⟩
def Ke.num (k : Ke) : Int := wv k.h k.l
def wid (kind : Int) : Int := if kind = 1 then 32 else if kind = 2 then 128 else if kind = 3 then 8 else 0
theorem wid_range (k : Int) : 0 ≤ wid k ∧ wid k ≤ 128 := by unfold wid; repeat' split <;> omega
/-- the first n bits or labels -/
def topK (k : Ke) (n : Int) : Ke := if k.kind = 3 then ⟨3, n, 0, 0, topL k.path n⟩ else ⟨k.kind, n, hi (andI k.num (maskI n)), lo (andI k.num (maskI n)), []⟩
def pathK (p : List UInt8) : Ke := ⟨3, (labsL p).length, 0, 0, p⟩
def rightK (k : Ke) : Bool := if k.kind = 1 ∨ k.kind = 2 then decide (0 ≤ k.len) && decide (k.len ≤ wid k.kind) && decide (k = topK k k.len) else if k.kind = 3 then rightB k.path && decide (k = pathK k.path) else false
/-- a number of which only the first n bits are left -/
def tp (A : Int) (n : Nat) : Int := A / 2 ^ (128 - n) * 2 ^ (128 - n)
theorem tp_eq (A n : Int) (h0 : 0 ≤ A) (h1 : A < MM) (n1 : n ≤ 128) : andI A (maskI n) = tp A n.toNat := by
  rw [topI A n h0 h1, show min n.toNat 128 = n.toNat by omega]; rfl
theorem tp_range {A : Int} {n : Nat} (h0 : 0 ≤ A) (h1 : A < MM) : 0 ≤ tp A n ∧ tp A n ≤ A := by
  unfold tp
  have hp : (0 : Int) < 2 ^ (128 - n) := Int.pow_pos (by decide)
  exact ⟨Int.mul_nonneg (Int.ediv_nonneg h0 (by omega)) (by omega), Int.ediv_mul_le A (by omega)⟩
theorem pow2_ne (n : Nat) : (2 : Int) ^ n ≠ 0 := Int.ne_of_gt (Int.pow_pos (by decide))
theorem tp_bit (A : Int) (n j : Nat) (hn : n ≤ 128) (hj : j < 128) : bitI (tp A n) j = if j < n then bitI A j else false := by
  rw [bit_def _ j hj, bit_def _ j hj]
  unfold tp
  by_cases h : j < n
  · rw [if_pos h]
    have e : (2 : Int) ^ (127 - j) = 2 ^ (128 - n) * 2 ^ (n - 1 - j) := by rw [← Int.pow_add]; congr 1; omega
    rw [e, ← Int.ediv_ediv_of_nonneg (Int.pow_nonneg (by decide)), ← Int.ediv_ediv_of_nonneg (Int.pow_nonneg (by decide)), Int.mul_ediv_cancel _ (pow2_ne _)]
  · rw [if_neg h]
    have e : (2 : Int) ^ (128 - n) = 2 ^ (j - n) * 2 * 2 ^ (127 - j) := by rw [← Int.pow_succ, ← Int.pow_add]; congr 1; omega
    rw [e, ← Int.mul_assoc, Int.mul_ediv_cancel _ (pow2_ne _)]
    generalize A / (2 ^ (j - n) * 2 * 2 ^ (127 - j)) = x
    generalize (2 : Int) ^ (j - n) = y
    rw [← Int.mul_assoc, decide_eq_false_iff_not]
    generalize x * y = z
    omega
theorem num_eq_of_bits {A B : Int} (a0 : 0 ≤ A) (a1 : A < MM) (b0 : 0 ≤ B) (b1 : B < MM) (h : ∀ j : Nat, j < 128 → bitI A j = bitI B j) : A = B := by
  have := div_same A B 128 (by omega) (by rw [big_div A a0 a1, big_div B b0 b1]) h
  simpa using this
theorem tp_tp {A : Int} {n m : Nat} (hn : n ≤ 128) (h0 : 0 ≤ A) (h1 : A < MM) (hm : m ≤ n) : tp (tp A n) m = tp A m := by
  have r := tp_range (n := n) h0 h1
  have r1 := tp_range (n := m) h0 h1
  have r2 := tp_range (A := tp A n) (n := m) r.1 (by omega)
  refine num_eq_of_bits r2.1 (by omega) r1.1 (by omega) fun j hj => ?_
  rw [tp_bit _ m j (by omega) hj, tp_bit _ m j (by omega) hj, tp_bit _ n j hn hj]
  by_cases h : j < m
  · rw [if_pos h, if_pos h, if_pos (by omega)]
  · rw [if_neg h, if_neg h]
/-- an address's right key -/
structure Adr (k : Ke) : Prop where
  kind : k.kind = 1 ∨ k.kind = 2
  lo : 0 ≤ k.len
  up : k.len ≤ wid k.kind
  path : k.path = []
  h : Word k.h
  l : Word k.l
  num : k.num = tp k.num k.len.toNat
theorem num_range {k : Ke} (h : Word k.h) (l : Word k.l) : 0 ≤ k.num ∧ k.num < MM := by unfold Ke.num wv MM; unfold Word at *; omega
theorem Adr.range {k : Ke} (h : Adr k) : 0 ≤ k.num ∧ k.num < MM := num_range h.h h.l
theorem Adr.len {k : Ke} (h : Adr k) : k.len ≤ 128 := Int.le_trans h.up (wid_range _).2
theorem Adr.ne {k : Ke} (h : Adr k) : ¬ k.kind = 3 := by rcases h.kind with e | e <;> omega
theorem ke_ext {a b : Ke} (h1 : a.kind = b.kind) (h2 : a.len = b.len) (h3 : a.h = b.h) (h4 : a.l = b.l) (h5 : a.path = b.path) : a = b := by
  cases a; cases b; simp_all
theorem num_topK {k : Ke} (h3 : ¬ k.kind = 3) (hr : 0 ≤ k.num ∧ k.num < MM) (n : Int) (n1 : n ≤ 128) : (topK k n).num = tp k.num n.toNat := by
  unfold topK
  rw [if_neg h3]
  unfold Ke.num
  show wv (hi _) (lo _) = _
  have r := tp_range (n := n.toNat) hr.1 hr.2
  have e := tp_eq k.num n hr.1 hr.2 n1
  unfold Ke.num at *
  rw [wv_hi_lo, e, Int.emod_eq_of_lt r.1 (by omega)]
theorem adr_of_right {k : Ke} (h : rightK k = true) (hk : k.kind = 1 ∨ k.kind = 2) : Adr k := by
  unfold rightK at h
  rw [if_pos hk] at h
  simp only [Bool.and_eq_true, decide_eq_true_eq] at h
  obtain ⟨⟨h1, h2⟩, h3⟩ := h
  have hn : ¬ k.kind = 3 := by rcases hk with e | e <;> omega
  have e : topK k k.len = ⟨k.kind, k.len, hi (andI k.num (maskI k.len)), lo (andI k.num (maskI k.len)), []⟩ := by unfold topK; rw [if_neg hn]
  have wh : Word k.h := by rw [h3, e]; exact word_hi _
  have wl : Word k.l := by rw [h3, e]; exact word_lo _
  have hr := num_range wh wl
  have hw := (wid_range k.kind).2
  refine ⟨hk, h1, h2, by rw [h3, e], wh, wl, ?_⟩
  rw [← num_topK hn hr k.len (by omega), ← h3]
theorem right_of_adr {k : Ke} (h : Adr k) : rightK k = true := by
  unfold rightK
  rw [if_pos h.kind]
  simp only [Bool.and_eq_true, decide_eq_true_eq]
  refine ⟨⟨h.lo, h.up⟩, ?_⟩
  have e : topK k k.len = ⟨k.kind, k.len, hi (andI k.num (maskI k.len)), lo (andI k.num (maskI k.len)), []⟩ := by unfold topK; rw [if_neg h.ne]
  have hr := h.range
  rw [e, tp_eq k.num k.len hr.1 hr.2 h.len, ← h.num]
  refine ke_ext rfl rfl ?_ ?_ h.path
  · exact (hi_wv h.h h.l).symm
  · exact (lo_wv h.l).symm
theorem right_path {k : Ke} (h : rightK k = true) (hk : k.kind = 3) : rightB k.path = true ∧ k = pathK k.path := by
  unfold rightK at h
  rw [if_neg (by omega), if_pos hk] at h
  simpa using h
theorem right_pathK {p : List UInt8} (h : rightB p = true) : rightK (pathK p) = true := by
  unfold rightK
  rw [if_neg (by unfold pathK; simp), if_pos (show (pathK p).kind = 3 from rfl)]
  simp [pathK, h]
theorem right_kind {k : Ke} (h : rightK k = true) : (k.kind = 1 ∨ k.kind = 2) ∨ k.kind = 3 := by
  unfold rightK at h
  by_cases h1 : k.kind = 1 ∨ k.kind = 2
  · exact .inl h1
  · rw [if_neg h1] at h
    by_cases h2 : k.kind = 3
    · exact .inr h2
    · rw [if_neg h2] at h; cases h
/-- a bit as a text -/
def bitS (b : Bool) : List UInt8 := if b = true then [49] else [48]
theorem bitS_inj {a b : Bool} (h : bitS a = bitS b) : a = b := by cases a <;> cases b <;> simp_all [bitS]
/-- a key's letters -/
def letK (k : Ke) : List (List UInt8) := if k.kind = 3 then labsL k.path else (List.range k.len.toNat).map fun i : Nat => bitS (bitI k.num i)
theorem letK_adr {k : Ke} (h : Adr k) : letK k = (List.range k.len.toNat).map fun i : Nat => bitS (bitI k.num i) := by unfold letK; rw [if_neg h.ne]
theorem letK_len {k : Ke} (h : rightK k = true) : ((letK k).length : Int) = k.len := by
  rcases right_kind h with hk | hk
  · have a := adr_of_right h hk
    rw [letK_adr a]; simp; have := a.lo; omega
  · obtain ⟨h1, h2⟩ := right_path h hk
    rw [h2]; rfl
theorem len_range {k : Ke} (h : rightK k = true) : 0 ≤ k.len ∧ k.len ≤ 128 := by
  rcases right_kind h with hk | hk
  · have a := adr_of_right h hk
    exact ⟨a.lo, a.len⟩
  · obtain ⟨h1, h2⟩ := right_path h hk
    rw [h2]; have := labsL_len k.path; unfold pathK; simp; omega
theorem len_wid {k : Ke} (h : rightK k = true) : k.len ≤ wid k.kind := by
  rcases right_kind h with hk | hk
  · exact (adr_of_right h hk).up
  · obtain ⟨h1, h2⟩ := right_path h hk
    rw [h2]; have := labsL_len k.path; unfold pathK wid; simp; omega
/-- equal letters, equal keys -/
theorem ke_of_letters {a b : Ke} (ha : rightK a = true) (hb : rightK b = true) (hk : a.kind = b.kind) (h : letK a = letK b) : a = b := by
  have la := letK_len ha
  have lb := letK_len hb
  have hl : a.len = b.len := by rw [← la, ← lb, h]
  rcases right_kind ha with k1 | k1
  · have A := adr_of_right ha k1
    have B := adr_of_right hb (hk ▸ k1)
    have hn : a.num = b.num := by
      refine num_eq_of_bits A.range.1 A.range.2 B.range.1 B.range.2 fun j hj => ?_
      rw [A.num, B.num, tp_bit _ _ j (by have := A.len; omega) hj, tp_bit _ _ j (by have := B.len; omega) hj, ← hl]
      by_cases hjl : j < a.len.toNat
      · rw [if_pos hjl, if_pos hjl]
        rw [letK_adr A, letK_adr B, ← hl] at h
        have := congrArg (fun x => x[j]?) h
        simp [hjl] at this
        exact bitS_inj this
      · rw [if_neg hjl, if_neg hjl]
    refine ke_ext hk hl ?_ ?_ (by rw [A.path, B.path])
    · rw [← hi_wv A.h A.l, ← hi_wv B.h B.l]; exact congrArg hi hn
    · rw [← lo_wv (h := a.h) A.l, ← lo_wv (h := b.h) B.l]; exact congrArg lo hn
  · obtain ⟨a1, a2⟩ := right_path ha k1
    obtain ⟨b1, b2⟩ := right_path hb (hk ▸ k1)
    have hp : a.path = b.path := by
      unfold letK at h
      rw [if_pos k1, if_pos (hk ▸ k1)] at h
      rw [← jn_labs a1, ← jn_labs b1, h]
    rw [a2, b2, hp]
theorem topK_kind (k : Ke) (n : Int) : (topK k n).kind = k.kind := by unfold topK; split <;> simp_all
theorem topK_len (k : Ke) (n : Int) : (topK k n).len = n := by unfold topK; split <;> rfl
/-- the top of a right key -/
theorem top_right {k : Ke} (h : rightK k = true) (n : Int) (n0 : 0 ≤ n) (n1 : n ≤ k.len) : rightK (topK k n) = true ∧ letK (topK k n) = (letK k).take n.toNat := by
  rcases right_kind h with hk | hk
  · have A := adr_of_right h hk
    have hl := A.len
    have hr := A.range
    have hN := num_topK A.ne hr n (by omega)
    have e : topK k n = ⟨k.kind, n, hi (andI k.num (maskI n)), lo (andI k.num (maskI n)), []⟩ := by unfold topK; rw [if_neg A.ne]
    have T : Adr (topK k n) := by
      refine ⟨by rw [topK_kind]; exact hk, by rw [topK_len]; exact n0, ?_, by rw [e], by rw [e]; exact word_hi _, by rw [e]; exact word_lo _, ?_⟩
      · rw [topK_len, topK_kind]; have := A.up; omega
      · rw [hN, topK_len, tp_tp (by omega) hr.1 hr.2 (Nat.le_refl _)]
    refine ⟨right_of_adr T, ?_⟩
    rw [letK_adr T, letK_adr A, topK_len, hN]
    apply List.ext_getElem?
    intro j
    by_cases hj : j < n.toNat
    · have h1 : j < k.len.toNat := by omega
      simp [hj, h1, tp_bit k.num n.toNat j (by omega) (by omega)]
    · have h2 : n.toNat ≤ j := by omega
      simp [List.getElem?_take, hj]
  · obtain ⟨h1, h2⟩ := right_path h hk
    have e : topK k n = pathK (topL k.path n) := by
      unfold topK pathK
      rw [if_pos hk, labs_top, List.length_take]
      have : k.len = (labsL k.path).length := by rw [h2]; rfl
      congr 1
      omega
    rw [e]
    refine ⟨right_pathK (right_top _ _), ?_⟩
    unfold letK
    rw [if_pos (show (pathK _).kind = 3 from rfl), if_pos hk]
    exact labs_top _ _
theorem top_full {k : Ke} (h : rightK k = true) : topK k k.len = k := by
  have hl := len_range h
  obtain ⟨t1, t2⟩ := top_right h k.len hl.1 (Int.le_refl _)
  refine ke_of_letters t1 h (topK_kind _ _) ?_
  rw [t2, List.take_of_length_le]
  have := letK_len h; omega
/-- how much two keys have in common -/
def sameK (a b : Ke) : Int := if a.kind = 3 then (sameN (labsL a.path) (labsL b.path) : Nat) else min (min a.len b.len) (sameI a.num b.num : Nat)
theorem sameK_eq {a b : Ke} (ha : rightK a = true) (hb : rightK b = true) (hk : a.kind = b.kind) : sameK a b = (sameN (letK a) (letK b) : Nat) := by
  rcases right_kind ha with k1 | k1
  · have A := adr_of_right ha k1
    have B := adr_of_right hb (hk ▸ k1)
    obtain ⟨s1, s2, s3⟩ := sameI_spec a.num b.num
    unfold sameK
    rw [if_neg A.ne]
    have a0 := A.lo
    have b0 := B.lo
    have al := A.len
    have hm : min (min a.len b.len) (sameI a.num b.num : Nat) = ((min (min a.len.toNat b.len.toNat) (sameI a.num b.num) : Nat) : Int) := by omega
    rw [hm]
    refine congrArg Int.ofNat (Eq.symm ?_)
    rw [letK_adr A, letK_adr B]
    generalize hs : sameI a.num b.num = s at *
    apply sameN_stop
    · intro i hi
      have h1 : i < a.len.toNat := by omega
      have h2 : i < b.len.toNat := by omega
      refine ⟨?_, by simpa using h1, by simpa using h2⟩
      simp [h1, h2, s2 i (by omega)]
    · by_cases hc : min (min a.len.toNat b.len.toNat) s < a.len.toNat ∧ min (min a.len.toNat b.len.toNat) s < b.len.toNat
      · refine .inr ?_
        have e : min (min a.len.toNat b.len.toNat) s = s := by omega
        rw [e] at hc ⊢
        simp only [List.getElem?_map, List.getElem?_range hc.1, List.getElem?_range hc.2, Option.map_some]
        intro he
        exact s3 (by omega) (bitS_inj (Option.some.inj he))
      · refine .inl ?_
        simpa using hc
  · unfold sameK letK
    rw [if_pos k1, if_pos k1, if_pos (hk ▸ k1)]
def cutK (k : Ke) (n : Int) : Ke := if rightK k = true then (if k.len ≤ n then k else topK k (max n 0)) else kz
def overK (a b : Ke) : Bool := rightK a && (rightK b && (decide (a.kind = b.kind) && (decide (a.len ≤ b.len) && decide (a = topK b a.len))))
def meetB (a b : Ke) : Bool := decide (a.kind = b.kind) && (rightK a && rightK b)
def meetK (a b : Ke) : Ke := if meetB a b = true then topK a (sameK a b) else kz
theorem cut_right {k : Ke} (h : rightK k = true) (n : Int) : rightK (cutK k n) = true ∧ (cutK k n).kind = k.kind ∧ letK (cutK k n) = (letK k).take n.toNat := by
  have hl := len_range h
  have hn := letK_len h
  unfold cutK
  rw [if_pos h]
  by_cases hc : k.len ≤ n
  · rw [if_pos hc]
    refine ⟨h, rfl, ?_⟩
    rw [List.take_of_length_le (by omega)]
  · rw [if_neg hc]
    obtain ⟨t1, t2⟩ := top_right h (max n 0) (by omega) (by omega)
    refine ⟨t1, topK_kind _ _, ?_⟩
    rw [t2]; congr 1; omega
theorem over_iff (a b : Ke) : overK a b = true ↔ rightK a = true ∧ rightK b = true ∧ a.kind = b.kind ∧ letK a <+: letK b := by
  unfold overK
  simp only [Bool.and_eq_true, decide_eq_true_eq]
  constructor
  · rintro ⟨ha, hb, hk, hl, he⟩
    have la := len_range ha
    refine ⟨ha, hb, hk, ?_⟩
    rw [he, (top_right hb a.len la.1 hl).2]
    exact List.take_prefix _ _
  · rintro ⟨ha, hb, hk, hp⟩
    have la := letK_len ha
    have lb := letK_len hb
    have l0 := len_range ha
    have hle := hp.length_le
    have hl : a.len ≤ b.len := by omega
    obtain ⟨t1, t2⟩ := top_right hb a.len l0.1 hl
    refine ⟨ha, hb, hk, hl, ke_of_letters ha t1 (by rw [topK_kind]; exact hk) ?_⟩
    rw [t2, List.prefix_iff_eq_take.1 hp]
    congr 1; omega
theorem meet_right {a b : Ke} (h : meetB a b = true) : rightK (meetK a b) = true ∧ (meetK a b).kind = a.kind ∧ letK (meetK a b) = (letK a).take (sameN (letK a) (letK b)) := by
  unfold meetK
  rw [if_pos h]
  unfold meetB at h
  simp only [Bool.and_eq_true, decide_eq_true_eq] at h
  obtain ⟨hk, ha, hb⟩ := h
  have hs := sameK_eq ha hb hk
  have hle := sameN_le (letK a) (letK b)
  have hn := letK_len ha
  obtain ⟨t1, t2⟩ := top_right ha (sameK a b) (by omega) (by omega)
  refine ⟨t1, topK_kind _ _, ?_⟩
  rw [t2, hs]; rfl
end Go.Proofs.Ytekoicbjpoeijaa
