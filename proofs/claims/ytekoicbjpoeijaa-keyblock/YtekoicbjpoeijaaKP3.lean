/- Keys as data: a key is ordered before what it covers, and covers what is ordered between. No conditions beyond rightness. -/
import Derived.Test.YtekoicbjpoeijaaKP2
namespace Go.Proofs.Ytekoicbjpoeijaa
set_option linter.unusedVariables false
set_option linter.unusedSimpArgs false
open Go.RowKit
theorem bless_self : ∀ (u : List UInt8), Op.bytesLess u u = false
  | [] => rfl
  | c :: u => by rw [Op.bytesLess]; simp [bless_self u, UInt8.lt_irrefl]
theorem bless_app : ∀ (u : List UInt8) (y z : List UInt8), Op.bytesLess (u ++ y) (u ++ z) = Op.bytesLess y z
  | [], _, _ => rfl
  | c :: u, y, z => by rw [List.cons_append, List.cons_append, Op.bytesLess, bless_app u y z]; simp [UInt8.lt_irrefl]
theorem bless_more (u : List UInt8) (c : UInt8) (v : List UInt8) : Op.bytesLess u (u ++ c :: v) = true := by
  have := bless_app u [] (c :: v)
  rw [List.append_nil] at this
  rw [this]; rfl
theorem bless_pre : ∀ (u x r : List UInt8), (Op.bytesLess u x = true ∨ u = x) → (Op.bytesLess x (u ++ r) = true ∨ x = u ++ r) → u <+: x
  | [], _, _, _, _ => List.nil_prefix
  | c :: u, [], _, h, _ => by rcases h with h | h <;> simp [Op.bytesLess] at h
  | c :: u, d :: x, r, h1, h2 => by
    have hcd : c = d ∧ (Op.bytesLess u x = true ∨ u = x) ∧ (Op.bytesLess x (u ++ r) = true ∨ x = u ++ r) := by
      simp only [List.cons_append, Op.bytesLess, Bool.or_eq_true, Bool.and_eq_true, decide_eq_true_eq, beq_iff_eq, List.cons.injEq] at h1 h2
      rw [UInt8.lt_iff_toNat_lt] at h1 h2
      have a1 : c.toNat ≤ d.toNat := by
        rcases h1 with (h | ⟨h, _⟩) | ⟨h, _⟩
        · omega
        · rw [h]; exact Nat.le_refl _
        · rw [h]; exact Nat.le_refl _
      have a2 : d.toNat ≤ c.toNat := by
        rcases h2 with (h | ⟨h, _⟩) | ⟨h, _⟩
        · omega
        · rw [h]; exact Nat.le_refl _
        · rw [h]; exact Nat.le_refl _
      have e : c = d := UInt8.toNat_inj.1 (by omega)
      refine ⟨e, ?_, ?_⟩
      · rcases h1 with (h | ⟨_, h⟩) | ⟨_, h⟩
        · exfalso; rw [e] at h; omega
        · exact .inl h
        · exact .inr h
      · rcases h2 with (h | ⟨_, h⟩) | ⟨_, h⟩
        · exfalso; rw [e] at h; omega
        · exact .inl h
        · exact .inr h
    obtain ⟨rfl, h1', h2'⟩ := hcd
    rw [List.cons_prefix_cons]
    exact ⟨rfl, bless_pre u x r h1' h2'⟩
theorem cmpS_le {a b : List UInt8} (h : cmpS a b ≤ 0) : Op.bytesLess a b = true ∨ a = b := by
  unfold cmpS at h
  by_cases h1 : Op.bytesLess a b = true
  · exact .inl h1
  · rw [if_neg h1] at h
    by_cases h2 : a = b
    · exact .inr h2
    · rw [if_neg h2] at h; omega
theorem cmpS_zero {a b : List UInt8} (h : cmpS a b = 0) : a = b := by
  unfold cmpS at h
  split at h
  · omega
  · split at h
    · assumption
    · omega
theorem cmpS_self (a : List UInt8) : cmpS a a = 0 := by unfold cmpS; rw [bless_self]; simp
theorem cmpI_le {a b : Int} : cmpI a b ≤ 0 ↔ a ≤ b := by unfold cmpI; split <;> (try split) <;> omega
theorem cmpI_zero {a b : Int} : cmpI a b = 0 ↔ a = b := by unfold cmpI; split <;> (try split) <;> omega
theorem cmpI_self (a : Int) : cmpI a a = 0 := cmpI_zero.2 rfl
theorem cmpI_lt {a b : Int} (h : a < b) : cmpI a b = -1 := by unfold cmpI; rw [if_pos h]
/-- what a comparison at most 0 says -/
theorem cmpK_le {a b : Ke} (h : cmpK a b ≤ 0) : a.kind ≤ b.kind ∧ (a.kind = b.kind → a.num ≤ b.num ∧ (a.num = b.num → cmpS a.path b.path ≤ 0 ∧ (a.path = b.path → a.len ≤ b.len))) := by
  unfold cmpK fnz fnz fnz fnz at h
  by_cases e0 : cmpI a.kind b.kind = 0
  · rw [if_pos e0] at h
    have k := cmpI_zero.1 e0
    refine ⟨by omega, fun _ => ?_⟩
    by_cases e1 : cmpI a.num b.num = 0
    · rw [if_pos e1] at h
      have n := cmpI_zero.1 e1
      refine ⟨by omega, fun _ => ?_⟩
      by_cases e2 : cmpS a.path b.path = 0
      · rw [if_pos e2] at h
        refine ⟨by omega, fun _ => ?_⟩
        split at h
        · rename_i e3; have := cmpI_zero.1 e3; omega
        · exact cmpI_le.1 h
      · rw [if_neg e2] at h
        exact ⟨h, fun e => absurd (by rw [e]; exact cmpS_self _) e2⟩
    · rw [if_neg e1] at h
      have n := cmpI_le.1 h
      exact ⟨n, fun e => absurd (cmpI_zero.2 e) e1⟩
  · rw [if_neg e0] at h
    have k := cmpI_le.1 h
    exact ⟨k, fun e => absurd (cmpI_zero.2 e) e0⟩
theorem cmpK_self (a : Ke) : cmpK a a = 0 := by
  unfold cmpK fnz fnz fnz fnz
  simp [cmpI_self, cmpS_self, fnz]
theorem cmpK_num {a b : Ke} (h : a.kind = b.kind) (hn : a.num < b.num) : cmpK a b = -1 := by
  unfold cmpK
  rw [fnz, if_pos (cmpI_zero.2 h), fnz, if_neg (by rw [cmpI_lt hn]; decide)]
  exact cmpI_lt hn
theorem cmpK_path {a b : Ke} (h : a.kind = b.kind) (hn : a.num = b.num) (hp : Op.bytesLess a.path b.path = true) : cmpK a b = -1 := by
  have e : cmpS a.path b.path = -1 := by unfold cmpS; rw [if_pos hp]
  unfold cmpK
  rw [fnz, if_pos (cmpI_zero.2 h), fnz, if_pos (cmpI_zero.2 hn), fnz, e]
  rfl
theorem cmpK_len {a b : Ke} (h : a.kind = b.kind) (hn : a.num = b.num) (hp : a.path = b.path) (hl : a.len < b.len) : cmpK a b = -1 := by
  unfold cmpK
  rw [fnz, if_pos (cmpI_zero.2 h), fnz, if_pos (cmpI_zero.2 hn), fnz, if_pos (by rw [hp]; exact cmpS_self _), fnz, cmpI_lt hl]
  rfl
theorem adr_ext {a b : Ke} (A : Adr a) (B : Adr b) (hk : a.kind = b.kind) (hl : a.len = b.len) (hn : a.num = b.num) : a = b := by
  refine ke_ext hk hl ?_ ?_ (by rw [A.path, B.path])
  · rw [← hi_wv A.h A.l, ← hi_wv B.h B.l]; exact congrArg hi hn
  · rw [← lo_wv (h := a.h) A.l, ← lo_wv (h := b.h) B.l]; exact congrArg lo hn
theorem tp_mono {A B : Int} (h : A ≤ B) (n : Nat) : tp A n ≤ tp B n := by
  unfold tp
  have hp : (0 : Int) < 2 ^ (128 - n) := Int.pow_pos (by decide)
  exact Int.mul_le_mul_of_nonneg_right (Int.ediv_le_ediv hp h) (by omega)
theorem tp_ge {A : Int} {n m : Nat} (hn : n ≤ 128) (h0 : 0 ≤ A) (h1 : A < MM) (hm : n ≤ m) (hm1 : m ≤ 128) : tp (tp A n) m = tp A n := by
  have r := tp_range (n := n) h0 h1
  have r2 := tp_range (A := tp A n) (n := m) r.1 (by omega)
  refine num_eq_of_bits r2.1 (by omega) r.1 (by omega) fun j hj => ?_
  rw [tp_bit _ m j (by omega) hj, tp_bit _ n j hn hj]
  by_cases h : j < n
  · rw [if_pos h, if_pos (by omega)]
  · rw [if_neg h]; split <;> rfl
/-- what covering says of addresses -/
theorem over_adr {a b : Ke} (h : overK a b = true) (hk : a.kind = 1 ∨ a.kind = 2) : Adr a ∧ Adr b ∧ a.kind = b.kind ∧ a.len ≤ b.len ∧ a.num = tp b.num a.len.toNat := by
  unfold overK at h
  simp only [Bool.and_eq_true, decide_eq_true_eq] at h
  obtain ⟨ra, rb, hkk, hl, he⟩ := h
  have A := adr_of_right ra hk
  have B := adr_of_right rb (hkk ▸ hk)
  refine ⟨A, B, hkk, hl, ?_⟩
  have := num_topK B.ne B.range a.len A.len
  rw [← he] at this
  exact this
theorem over_of_adr {a b : Ke} (A : Adr a) (B : Adr b) (hk : a.kind = b.kind) (hl : a.len ≤ b.len) (hn : a.num = tp b.num a.len.toNat) : overK a b = true := by
  unfold overK
  simp only [Bool.and_eq_true, decide_eq_true_eq]
  have ra := right_of_adr A
  have rb := right_of_adr B
  have t := (top_right rb a.len A.lo hl).1
  have T := adr_of_right t (by rw [topK_kind]; exact B.kind)
  refine ⟨ra, rb, hk, hl, adr_ext A T (by rw [topK_kind]; exact hk) (by rw [topK_len]) ?_⟩
  rw [num_topK B.ne B.range a.len A.len]
  exact hn
theorem path_num {k : Ke} (h : rightK k = true) (hk : k.kind = 3) : k.num = 0 := by
  obtain ⟨_, e⟩ := right_path h hk
  rw [e]; rfl
theorem jn_split_app : ∀ (ls : List (List UInt8)) (y : List UInt8), ls ≠ [] → (∀ x ∈ ls, labB x = true) → splitD (jn ls ++ 46 :: y) = ls ++ splitD y
  | [], _, h, _ => absurd rfl h
  | [x], y, _, h => by rw [jn_one]; exact splitD_at x y (labB_no46 (h x (by simp)))
  | x :: z :: r, y, _, h => by
    rw [jn_cons x (z :: r) (by simp), List.append_assoc, List.cons_append, splitD_at x _ (labB_no46 (h x (by simp))), jn_split_app (z :: r) y (by simp) (fun q hq => h q (List.mem_cons_of_mem _ hq))]
    rfl
theorem mem_jn : ∀ (ls : List (List UInt8)) (c : UInt8), c ∈ jn ls → c = 46 ∨ ∃ x ∈ ls, c ∈ x
  | [], c, h => by cases h
  | [x], c, h => by rw [jn_one] at h; exact .inr ⟨x, by simp, h⟩
  | x :: z :: r, c, h => by
    rw [jn_cons x (z :: r) (by simp)] at h
    rcases List.mem_append.1 h with h | h
    · exact .inr ⟨x, by simp, h⟩
    · rcases List.mem_cons.1 h with h | h
      · exact .inl h
      · rcases mem_jn (z :: r) c h with h | ⟨q, hq, hc⟩
        · exact .inl h
        · exact .inr ⟨q, List.mem_cons_of_mem _ hq, hc⟩
theorem path_byte {p : List UInt8} (h : rightB p = true) {c : UInt8} (hc : c ∈ p) : c = 46 ∨ 48 ≤ c.toNat := by
  rw [← jn_labs h] at hc
  rcases mem_jn _ c hc with h1 | ⟨x, hx, hcx⟩
  · exact .inl h1
  · have hb := labs_all p x hx
    unfold labB at hb
    simp at hb
    have := hb.1.1 c hcx
    unfold memB at this
    simp at this
    right; omega
theorem labs_ne {p : List UInt8} (h : rightB p = true) (hne : p ≠ []) : labsL p = splitD p := by
  unfold labsL partsL
  rw [if_pos h, if_neg hne]
/-- the bytes of a path that another covers -/
theorem path_more {la lb : List (List UInt8)} (h : la <+: lb) (hne : la ≠ []) (hd : la ≠ lb) : ∃ r, jn lb = jn la ++ 46 :: r := by
  obtain ⟨t, rfl⟩ := h
  have ht : t ≠ [] := fun e => hd (by rw [e, List.append_nil])
  exact ⟨jn t, jn_app la t hne ht⟩
theorem block_ahead {a b : Ke} (h : overK a b = true) (hne : a ≠ b) : cmpK a b = -1 := by
  have ho := (over_iff a b).1 h
  obtain ⟨ra, rb, hk, hp⟩ := ho
  rcases right_kind ra with k | k
  · obtain ⟨A, B, _, hl, hn⟩ := over_adr h k
    have hb := B.range
    have r := tp_range (n := a.len.toNat) hb.1 hb.2
    by_cases hlt : a.num < b.num
    · exact cmpK_num hk hlt
    · have e : a.num = b.num := by omega
      refine cmpK_len hk e (by rw [A.path, B.path]) ?_
      rcases Int.lt_or_eq_of_le hl with h1 | h1
      · exact h1
      · exact absurd (adr_ext A B hk h1 e) hne
  · have kb : b.kind = 3 := by omega
    obtain ⟨a1, a2⟩ := right_path ra k
    obtain ⟨b1, b2⟩ := right_path rb kb
    have la : letK a = labsL a.path := by unfold letK; rw [if_pos k]
    have lb : letK b = labsL b.path := by unfold letK; rw [if_pos kb]
    rw [la, lb] at hp
    have hd : labsL a.path ≠ labsL b.path := fun e => hne (ke_of_letters ra rb hk (by rw [la, lb, e]))
    refine cmpK_path hk (by rw [path_num ra k, path_num rb kb]) ?_
    by_cases h0 : labsL a.path = []
    · have ea : a.path = [] := by rw [← jn_labs a1, h0]; rfl
      have eb : b.path ≠ [] := fun e => hd (by rw [ea, e])
      rw [ea]
      cases hbp : b.path with
      | nil => exact absurd hbp eb
      | cons c r => rfl
    · obtain ⟨r, hr⟩ := path_more hp h0 hd
      rw [jn_labs a1, jn_labs b1] at hr
      rw [hr]
      exact bless_more _ _ _
theorem block_between {a b x : Ke} (h : overK a b = true) (rx : rightK x = true) (h1 : cmpK a x ≤ 0) (h2 : cmpK x b ≤ 0) : overK a x = true := by
  obtain ⟨ra, rb, hk, hp⟩ := (over_iff a b).1 h
  obtain ⟨k1, n1⟩ := cmpK_le h1
  obtain ⟨k2, n2⟩ := cmpK_le h2
  have kax : a.kind = x.kind := by omega
  have kxb : x.kind = b.kind := by omega
  obtain ⟨n1, p1⟩ := n1 kax
  obtain ⟨n2, p2⟩ := n2 kxb
  rcases right_kind ra with k | k
  · obtain ⟨A, B, _, hl, hn⟩ := over_adr h k
    have X := adr_of_right rx (kax ▸ k)
    have xr := X.range
    have br := B.range
    have a0 := A.lo; have a8 := A.len; have x0 := X.lo; have x8 := X.len
    have m1 := tp_mono n1 a.len.toNat
    have m2 := tp_mono n2 a.len.toNat
    have ea : tp a.num a.len.toNat = a.num := A.num.symm
    have ex : tp x.num a.len.toNat = a.num := by omega
    by_cases hlx : a.len ≤ x.len
    · exact over_of_adr A X kax hlx ex.symm
    · exfalso
      have e1 : x.num = tp x.num x.len.toNat := X.num
      have e2 : tp x.num a.len.toNat = x.num := by
        rw [e1]
        exact tp_ge (by omega) xr.1 xr.2 (by omega) (by omega)
      have := (p1 (by omega)).2 (by rw [A.path, X.path])
      omega
  · have kx : x.kind = 3 := by omega
    have kb : b.kind = 3 := by omega
    obtain ⟨a1, a2⟩ := right_path ra k
    obtain ⟨b1, b2⟩ := right_path rb kb
    obtain ⟨x1, x2⟩ := right_path rx kx
    have la : letK a = labsL a.path := by unfold letK; rw [if_pos k]
    have lb : letK b = labsL b.path := by unfold letK; rw [if_pos kb]
    have lx : letK x = labsL x.path := by unfold letK; rw [if_pos kx]
    rw [la, lb] at hp
    refine (over_iff a x).2 ⟨ra, rx, kax, ?_⟩
    rw [la, lx]
    by_cases h0 : labsL a.path = []
    · rw [h0]; exact List.nil_prefix
    · have c1 := cmpS_le (p1 (by rw [path_num ra k, path_num rx kx])).1
      have c2 := cmpS_le (p2 (by rw [path_num rx kx, path_num rb kb])).1
      by_cases hd : labsL a.path = labsL b.path
      · have e : a.path = b.path := by rw [← jn_labs a1, ← jn_labs b1, hd]
        rw [← e] at c2
        have hpre := bless_pre a.path x.path [] c1 (by rw [List.append_nil]; exact c2)
        have hpre2 := bless_pre x.path a.path [] c2 (by rw [List.append_nil]; exact c1)
        rw [hpre.eq_of_length_le hpre2.length_le]
        exact List.prefix_rfl
      · obtain ⟨r, hr⟩ := path_more hp h0 hd
        rw [jn_labs a1, jn_labs b1] at hr
        rw [hr] at c2
        obtain ⟨y, hy⟩ := bless_pre _ _ _ c1 c2
        rw [← hy] at c2
        have c3 : Op.bytesLess y (46 :: r) = true ∨ y = 46 :: r := by
          rcases c2 with c | c
          · left; rw [bless_app] at c; exact c
          · right; exact List.append_cancel_left c
        cases y with
        | nil => rw [List.append_nil] at hy; rw [hy]; exact List.prefix_rfl
        | cons c y =>
          have hc : c = 46 := by
            have hm := path_byte x1 (c := c) (by rw [← hy]; simp)
            rcases hm with hm | hm
            · exact hm
            · exfalso
              rcases c3 with c3 | c3
              · rw [Op.bytesLess] at c3
                simp only [Bool.or_eq_true, Bool.and_eq_true, decide_eq_true_eq, beq_iff_eq] at c3
                rw [UInt8.lt_iff_toNat_lt] at c3
                rcases c3 with c3 | ⟨c3, _⟩
                · have : (46 : UInt8).toNat = 46 := rfl
                  omega
                · rw [c3] at hm; exact absurd hm (by decide)
              · have := (List.cons.inj c3).1; rw [this] at hm; exact absurd hm (by decide)
          subst hc
          have hx : x.path ≠ [] := by rw [← hy]; simp
          have e : labsL x.path = labsL a.path ++ splitD y := by
            rw [labs_ne x1 hx, ← hy]
            have := jn_split_app (labsL a.path) y h0 (labs_all a.path)
            rw [jn_labs a1] at this
            exact this
          rw [e]; exact List.prefix_append _ _
end Go.Proofs.Ytekoicbjpoeijaa
