/- SixB, Six14, SixR1, SixR2, Four6, Four7, SixR4, SixR5, SixR6, SixR7, SixR8, RA, N1, N2, N3, N4: what the theorem needs of these texts. No conditions beyond those that are written. -/
import Derived.Test.YtboinifeemghaaaGreatDoorBJFour2
set_option linter.unusedSimpArgs false
set_option linter.unusedVariables false
set_option maxHeartbeats 4000000
set_option maxRecDepth 100000
namespace Go.Proofs.YtboinifeemghaaaGreatDoor
open Go.RowKit
theorem lastV_grp {d : Bool} {p : List UInt8} {v : Nat} (h : grpV p = some v) : lastV d p = some [v] := by
 unfold lastV
 rw [if_neg (fun h4 => by rw [grpV_dot h4.2] at h; cases h), h]
 rfl
structure IsText (t : List UInt8) (x : Nat) : Prop where
 ne : t ≠ []
 no : (58 : UInt8) ∉ t
 is : grpV t = some x
theorem index_tail : ∀ (ts : List (List UInt8)) (z : List UInt8), (∀ t ∈ ts, t ≠ [] ∧ (58 : UInt8) ∉ t) → Lib.index (Lib.joinTail [58] ts ++ z) [58, 58] = if Lib.index z [58, 58] = -1 then -1 else Lib.index z [58, 58] + (Lib.joinTail [58] ts).length
 | [], z, _ => by
  simp only [Lib.joinTail, List.map_nil, List.flatten_nil, List.nil_append]
  split
  ·assumption
  ·simp
 | y :: r, z, h => by
  obtain ⟨hy, hn⟩ := h y (by simp)
  have ih := index_tail r z (fun t ht => h t (List.mem_cons_of_mem _ ht))
  have e : Lib.joinTail [58] (y :: r) = 58 :: (y ++ Lib.joinTail [58] r) := by simp [Lib.joinTail]
  have hw := index_word [58, 58] 58 rfl y (Lib.joinTail [58] r ++ z) hn
  rw [e, List.cons_append, List.append_assoc, Lib.index, hw, ih]
  obtain ⟨c, y', rfl⟩ : ∃ c y', y = c :: y' := by cases y with | nil => exact absurd rfl hy | cons c y' => exact ⟨c, y', rfl⟩
  have hc : ¬ (58 : UInt8) = c := fun he => hn (by rw [he]; simp)
  have h1 : ([58, 58] : List UInt8).isPrefixOf (58 :: ((c :: y') ++ (Lib.joinTail [58] r ++ z))) = false := by simp [List.isPrefixOf, hc]
  have hge := Lib.index_ge z [58, 58]
  rw [h1]
  by_cases h2 : Lib.index z [58, 58] = -1
  ·simp [h2]
  ·have q1 : ¬ (Lib.index z [58, 58] + ((Lib.joinTail [58] r).length : Int)) = -1 := by omega
   have q2 : ((Lib.index z [58, 58] + ((Lib.joinTail [58] r).length : Int) + (((c :: y').length : Nat) : Int)) == -1) = false := by rw [beq_eq_false_iff_ne]; omega
   simp only [if_neg h2, if_neg q1, q2]
   simp
   omega
theorem index_join (ts : List (List UInt8)) (z : List UInt8) (h : ∀ t ∈ ts, t ≠ [] ∧ (58 : UInt8) ∉ t) : Lib.index (Lib.join ts [58] ++ z) [58, 58] = if Lib.index z [58, 58] = -1 then -1 else Lib.index z [58, 58] + (Lib.join ts [58]).length := by
 cases ts with
 | nil =>
  rw [Lib.join_nil, List.nil_append]
  split
  ·assumption
  ·simp
 | cons t r =>
  obtain ⟨ht, hn⟩ := h t (by simp)
  have hr := index_tail r z (fun t ht => h t (List.mem_cons_of_mem _ ht))
  have hw := index_word [58, 58] 58 rfl t (Lib.joinTail [58] r ++ z) hn
  have hge := Lib.index_ge z [58, 58]
  rw [Lib.join_cons, List.append_assoc, hw, hr]
  by_cases h2 : Lib.index z [58, 58] = -1
  ·simp [h2]
  ·have q1 : ¬ (Lib.index z [58, 58] + ((Lib.joinTail [58] r).length : Int)) = -1 := by omega
   simp only [if_neg h2, if_neg q1]
   simp
   omega
theorem cc_none (ts : List (List UInt8)) (h : ∀ t ∈ ts, t ≠ [] ∧ (58 : UInt8) ∉ t) : cc (Lib.join ts [58]) = (Lib.join ts [58], [], false) := by
 have hi := index_join ts [] h
 rw [List.append_nil] at hi
 unfold cc Lib.cut
 rw [hi]
 simp [Lib.index]
theorem cc_at (ts : List (List UInt8)) (z : List UInt8) (h : ∀ t ∈ ts, t ≠ [] ∧ (58 : UInt8) ∉ t) : cc (Lib.join ts [58] ++ [58, 58] ++ z) = (Lib.join ts [58], z, true) := by
 have h0 : Lib.index ([58, 58] ++ z) [58, 58] = 0 := by simp [Lib.index, List.isPrefixOf]
 have hi := index_join ts ([58, 58] ++ z) h
 rw [h0] at hi
 unfold cc Lib.cut
 rw [List.append_assoc, hi]
 simp
theorem split_tail : ∀ (t : List UInt8) (r : List (List UInt8)), (58 : UInt8) ∉ t → (∀ y ∈ r, (58 : UInt8) ∉ y) → splitC (t ++ Lib.joinTail [58] r) = t :: r
 | t, [], ht, _ => by simp [Lib.joinTail, split_no t ht]
 | t, y :: r, ht, h => by
  have e : Lib.joinTail [58] (y :: r) = 58 :: (y ++ Lib.joinTail [58] r) := by simp [Lib.joinTail]
  rw [e, split_at t _ ht, split_tail y r (h y (by simp)) (fun x hx => h x (List.mem_cons_of_mem _ hx))]
theorem seqV_texts (d : Bool) (τ : Nat → List UInt8) : ∀ (fs : List Nat), fs ≠ [] → (∀ x ∈ fs, IsText (τ x) x) → seqV d (fs.map τ) = some fs
 | [], h, _ => absurd rfl h
 | [x], _, h => by
  show seqV d [τ x] = _
  rw [seqV, lastV_grp (h x (by simp)).is]
 | x :: y :: r, _, h => by
  have ih := seqV_texts d τ (y :: r) (by simp) (fun z hz => h z (List.mem_cons_of_mem _ hz))
  rw [List.map_cons, seqV_cons d _ _ (by simp), ih, (h x (by simp)).is]
theorem readV_texts (d : Bool) (τ : Nat → List UInt8) (fs : List Nat) (h : ∀ x ∈ fs, IsText (τ x) x) : readV d (Lib.join (fs.map τ) [58]) = some fs := by
 cases fs with
 | nil => rfl
 | cons x r =>
  have hx := h x (by simp)
  unfold readV
  rw [List.map_cons, Lib.join_cons, if_neg (fun e => hx.ne (List.append_eq_nil_iff.1 e).1)]
  rw [split_tail (τ x) (r.map τ) hx.no (fun y hy => by obtain ⟨z, hz, rfl⟩ := List.mem_map.1 hy; exact (h z (List.mem_cons_of_mem _ hz)).no)]
  exact seqV_texts d τ (x :: r) (by simp) h
def joinT6 (τ : Nat → List UInt8) (fs : List Nat) : List UInt8 := Lib.join (fs.map τ) [58]
def printT (τ : Nat → List UInt8) (f : Nat → Int) : List UInt8 := if (runS f).2 = 0 then joinT6 τ (gl f) else joinT6 τ ((gl f).take (runS f).1) ++ [58, 58] ++ joinT6 τ ((gl f).drop ((runS f).1 + (runS f).2))
theorem gl_run (f : Nat → Int) : (gl f).take (runS f).1 ++ List.replicate (runS f).2 0 ++ (gl f).drop ((runS f).1 + (runS f).2) = gl f := by
 obtain ⟨h1, h2, _⟩ := runS_is f
 generalize runS f = r at *
 obtain ⟨p, n⟩ := r
 dsimp only at *
 apply List.ext_getElem?
 intro i
 by_cases c1 : i < p
 ·rw [List.append_assoc, List.getElem?_append_left (by simp [gl_len]; omega), List.getElem?_take_of_lt c1]
 ·by_cases c2 : i < p + n
  ·rw [List.getElem?_append_left (by simp [gl_len]; omega), List.getElem?_append_right (by simp [gl_len]; omega), gl_get f i (by omega), h2 i (by omega) c2]
   rw [List.getElem?_replicate, if_pos (by simp [gl_len]; omega)]
   rfl
  ·rw [List.getElem?_append_right (by simp [gl_len]; omega), List.getElem?_drop]
   congr 1
   simp [gl_len]
   omega
theorem parse_texts (τ : Nat → List UInt8) (f : Nat → Int) (h : ∀ x ∈ gl f, IsText (τ x) x) : parse6 (printT τ f) = some (gl f) := by
 obtain ⟨h1, _, h3⟩ := runS_is f
 have hgr := gl_run f
 have ht : ∀ fs : List Nat, (∀ x ∈ fs, x ∈ gl f) → ∀ t ∈ fs.map τ, t ≠ [] ∧ (58 : UInt8) ∉ t := fun fs hs t ht => by
  obtain ⟨x, hx, rfl⟩ := List.mem_map.1 ht
  exact ⟨(h x (hs x hx)).ne, (h x (hs x hx)).no⟩
 unfold printT parse6
 by_cases hn : (runS f).2 = 0
 ·rw [if_pos hn]
  unfold joinT6
  rw [cc_none _ (ht _ fun x hx => hx)]
  dsimp only
  rw [readV_texts _ τ (gl f) h]
  have : readV true [] = some [] := rfl
  rw [this]
  dsimp only
  rw [if_pos (by simp [fits, gl_len])]
  simp [gl_len]
 ·rw [if_neg hn]
  unfold joinT6
  rw [cc_at _ _ (ht _ fun x hx => List.mem_of_mem_take hx)]
  dsimp only
  rw [readV_texts _ τ _ (fun x hx => h x (List.mem_of_mem_take hx)), readV_texts _ τ _ (fun x hx => h x (List.mem_of_mem_drop hx))]
  dsimp only
  rw [if_pos (by simp [fits, gl_len]; omega)]
  have e : 8 - ((gl f).take (runS f).1).length - ((gl f).drop ((runS f).1 + (runS f).2)).length = (runS f).2 := by simp [gl_len]; omega
  rw [e, hgr]
/-! the texts of digits -/
theorem hexM_app (κ : UInt8) (k : Nat) (hk : hexV κ = some k) : ∀ (l : List UInt8) (acc v : Nat), hexM acc l = some v → hexM acc (l ++ [κ]) = if 65535 < v * 16 + k then none else some (v * 16 + k)
 | [], acc, v, h => by
  cases h
  rw [List.nil_append, hexM, hk]
  rfl
 | c :: r, acc, v, h => by
  rw [hexM] at h
  rw [List.cons_append, hexM]
  split at h
  ·cases h
  ·rename_i d hd
   split at h
   ·cases h
   ·rename_i hle
    simp only [if_neg hle]
    exact hexM_app κ k hk r _ v h
theorem hexD_ne (n : Nat) : hexD n ≠ [] := by
 by_cases h : n < 16
 ·rw [hexD_one n h]; simp
 ·rw [hexD_step n (by omega)]; simp
theorem hexD_all (n : Nat) : ∀ c ∈ hexD n, ∃ k, k < 16 ∧ c = hexC k := by
 induction n using Nat.strongRecOn with
 | _ n ih =>
  intro c hc
  by_cases h : n < 16
  ·rw [hexD_one n h] at hc; simp at hc; exact ⟨n, h, hc⟩
  ·rw [hexD_step n (by omega)] at hc
   rcases List.mem_append.1 hc with hc | hc
   ·exact ih (n / 16) (by omega) c hc
   ·simp at hc; exact ⟨n % 16, by omega, hc⟩
theorem hexM_hexD (κ : UInt8 → UInt8) (hκ : ∀ k, k < 16 → hexV (κ (hexC k)) = some k) (n : Nat) : n < 65536 → hexM 0 ((hexD n).map κ) = some n := by
 induction n using Nat.strongRecOn with
 | _ n ih =>
  intro hn
  by_cases h : n < 16
  ·rw [hexD_one n h, List.map_cons, List.map_nil, hexM, hκ n h]
   simp only [hexM]
   rw [if_neg (by omega)]
   simp
  ·rw [hexD_step n (by omega), List.map_append, List.map_cons, List.map_nil, hexM_app _ (n % 16) (hκ _ (by omega)) _ 0 (n / 16) (ih (n / 16) (by omega) (by omega)), if_neg (by omega)]
   congr 1
   omega
theorem text_hex (κ : UInt8 → UInt8) (hκ : ∀ k, k < 16 → hexV (κ (hexC k)) = some k) (n : Nat) (hn : n < 65536) : IsText ((hexD n).map κ) n := by
 refine ⟨fun e => hexD_ne n (List.map_eq_nil_iff.1 e), fun hm => ?_, ?_⟩
 ·obtain ⟨c, hc, he⟩ := List.mem_map.1 hm
  obtain ⟨k, hk, rfl⟩ := hexD_all n c hc
  have := hκ k hk
  rw [he, show hexV 58 = none by decide] at this
  cases this
 ·unfold grpV hexP
  rw [if_neg (by have := hexD_len n hn; simp; omega), if_neg (fun e => hexD_ne n (List.map_eq_nil_iff.1 e))]
  exact hexM_hexD κ hκ n hn
theorem map_tail (κ : UInt8 → UInt8) (h58 : κ 58 = 58) : ∀ ts : List (List UInt8), (Lib.joinTail [58] ts).map κ = Lib.joinTail [58] (ts.map (List.map κ))
 | [] => rfl
 | t :: r => by
  have e : ∀ (y : List UInt8) r, Lib.joinTail [58] (y :: r) = 58 :: (y ++ Lib.joinTail [58] r) := fun y r => by simp [Lib.joinTail]
  rw [e, List.map_cons, List.map_append, map_tail κ h58 r, List.map_cons, e, h58]
theorem map_join (κ : UInt8 → UInt8) (h58 : κ 58 = 58) (ts : List (List UInt8)) : (Lib.join ts [58]).map κ = Lib.join (ts.map (List.map κ)) [58] := by
 cases ts with
 | nil => rfl
 | cons t r => rw [Lib.join_cons, List.map_append, map_tail κ h58, List.map_cons, Lib.join_cons]
theorem map_print (κ : UInt8 → UInt8) (h58 : κ 58 = 58) (f : Nat → Int) : (print6 f).map κ = printT (fun x => (hexD x).map κ) f := by
 unfold print6 printT joinT6 joinH
 split
 ·rw [map_join κ h58, List.map_map]; rfl
 ·rw [List.map_append, List.map_append, map_join κ h58, map_join κ h58, List.map_map, List.map_map]
  simp only [List.map_cons, List.map_nil, h58]
  rfl
theorem back6 (κ : UInt8 → UInt8) (h58 : κ 58 = 58) (hκ : ∀ k, k < 16 → hexV (κ (hexC k)) = some k) (f : Nat → Int) (hf : ∀ k, 0 ≤ f k ∧ f k ≤ 65535) : parse6 ((print6 f).map κ) = some (gl f) := by
 rw [map_print κ h58]
 exact parse_texts _ f (fun x hx => text_hex κ hκ x (gl_lt hf x hx))
theorem back6_id (f : Nat → Int) (hf : ∀ k, 0 ≤ f k ∧ f k ≤ 65535) : parse6 (print6 f) = some (gl f) := by
 have h := back6 id rfl (fun k hk => by
  have : ∀ k : Fin 16, hexV (id (hexC k)) = some (k : Nat) := by decide
  exact this ⟨k, hk⟩) f hf
 rwa [List.map_id] at h
/-! groups and numbers -/
theorem lf_gl (f : Nat → Int) (hf : ∀ k, 0 ≤ f k ∧ f k ≤ 65535) (i : Nat) (h : i < 8) : lf (gl f) i = f i := by
 unfold lf
 rw [List.getD, gl_get f i h]
 have := hf i
 simp
 omega
theorem ofN_congr {f g : Nat → Int} : ∀ j, (∀ i, i < j → f i = g i) → ofN f j = ofN g j
 | 0, _ => rfl
 | j + 1, h => by rw [ofN, ofN, ofN_congr j (fun i hi => h i (by omega)), h j (by omega)]
theorem ofN_grp (A : Int) : ofN (grp A) 8 = A % MM := by
 have h0 : 0 ≤ A % MM := Int.emod_nonneg _ (by decide)
 have h1 : A % MM < MM := Int.emod_lt_of_pos _ (by decide)
 have hM : MM = 340282366920938463463374607431768211456 := rfl
 have g0 : grp A 0 = A % MM / 5192296858534827628530496329220096 % 65536 := rfl
 have g1 : grp A 1 = A % MM / 79228162514264337593543950336 % 65536 := rfl
 have g2 : grp A 2 = A % MM / 1208925819614629174706176 % 65536 := rfl
 have g3 : grp A 3 = A % MM / 18446744073709551616 % 65536 := rfl
 have g4 : grp A 4 = A % MM / 281474976710656 % 65536 := rfl
 have g5 : grp A 5 = A % MM / 4294967296 % 65536 := rfl
 have g6 : grp A 6 = A % MM / 65536 % 65536 := rfl
 have g7 : grp A 7 = A % MM / 1 % 65536 := rfl
 simp only [ofN]
 rw [g0, g1, g2, g3, g4, g5, g6, g7]
 generalize A % MM = a at *
 omega
def DigRel16 (N n : Nat) (l : List UInt8) : Prop := (l = [] ∧ n = N) ∨ (l ≠ [] ∧ hexD N = (if n = 0 then [] else hexD n) ++ l)
theorem DigRel16.step {N n : Nat} {l : List UInt8} (h : DigRel16 N n l) (hc : 0 < n ∨ l = []) : DigRel16 N (n / 16) (hexC (n % 16) :: l) := by
 right
 refine ⟨by simp, ?_⟩
 have key : ∀ m : Nat, hexD m = (if m / 16 = 0 then [] else hexD (m / 16)) ++ [hexC (m % 16)] := by
  intro m
  by_cases hm : m < 16
  ·rw [if_pos (by omega), hexD_one m hm, Nat.mod_eq_of_lt hm]; rfl
  ·rw [if_neg (by omega)]; exact hexD_step m (by omega)
 rcases h with ⟨rfl, rfl⟩ | ⟨hl, h⟩
 ·exact key n
 ·have hn : 0 < n := by rcases hc with h | h; exact h; exact absurd h hl
  rw [h, if_neg (by omega), key n]
  simp
def zB (f : Nat → Int) (a : Nat) : Nat → Bool
 | 0 => true
 | n + 1 => decide (a ≤ 7) && decide (f a = 0) && zB f (a + 1) n
def inR (f : Nat → Int) (n : Nat) : Nat → Option Nat
 | 0 => none
 | k + 1 => if zB f (8 - (k + 1)) n = true then some (8 - (k + 1)) else inR f n k
/-! the two runs are the same -/
structure Mc where
 n : Nat
 a : Nat
 p : Nat
 k : Nat
def mstep (s : Mc) (c : UInt8) : Option Mc :=
 if c.toNat = 46 then (if s.k = 0 then none else some ⟨0, (256 * s.a + s.n) % 4294967296, s.p + 1, 0⟩)
 else if c.toNat < 48 ∨ 57 < c.toNat ∨ (0 < s.k ∧ s.n = 0) ∨ 2 < s.k ∨ 3 < s.p then none
 else if 255 < 10 * s.n + (c.toNat - 48) then none else some ⟨10 * s.n + (c.toNat - 48), s.a, s.p, s.k + 1⟩
def mrun : Mc → List UInt8 → Option Mc
 | s, [] => some s
 | s, c :: l => (mstep s c).bind fun s' => mrun s' l
def mEnd (s : Mc) : Option Nat := if s.p ≠ 3 ∨ s.k = 0 then none else some ((256 * s.a + s.n) % 4294967296)
def mach (l : List UInt8) : Option Nat := (mrun ⟨0, 0, 0, 0⟩ l).bind mEnd
theorem mrun_app (x y : List UInt8) : ∀ s, mrun s (x ++ y) = (mrun s x).bind fun s' => mrun s' y := by
 induction x with
 | nil => intro s; rfl
 | cons c x ih =>
  intro s
  rw [List.cons_append, mrun, mrun]
  cases h : mstep s c with
  | none => rfl
  | some s' => simp [ih]
theorem dig_toNat (d : Nat) (h : d < 10) : (UInt8.ofNat (48 + d)).toNat = 48 + d := by
 have : ∀ d : Fin 10, (UInt8.ofNat (48 + d)).toNat = 48 + d := by decide
 exact this ⟨d, h⟩
theorem mstep_dig (s : Mc) (d : Nat) (h : d < 10) (h1 : s.k = 0 ∨ s.n ≠ 0) (h2 : s.k ≤ 2) (h3 : s.p ≤ 3) (h4 : 10 * s.n + d ≤ 255) : mstep s (UInt8.ofNat (48 + d)) = some ⟨10 * s.n + d, s.a, s.p, s.k + 1⟩ := by
 have e := dig_toNat d h
 unfold mstep
 rw [e, if_neg (by omega), if_neg (by omega), if_neg (by omega), show 10 * s.n + (48 + d - 48) = 10 * s.n + d by omega]
theorem mstep_dot (s : Mc) (h : s.k ≠ 0) : mstep s 46 = some ⟨0, (256 * s.a + s.n) % 4294967296, s.p + 1, 0⟩ := by
 unfold mstep; rw [if_pos (by decide), if_neg h]
theorem dec_len2 : ∀ b : Fin 26, (Lib.decDigits b).length ≤ 2 := by decide +kernel
theorem dec_ne (b : Nat) : (Lib.decDigits b).length ≠ 0 := by
 rw [Lib.decDigits]; split <;> simp
theorem mrun_dec (a p : Nat) (hp : p ≤ 3) : ∀ (b : Nat), b ≤ 255 → mrun ⟨0, a, p, 0⟩ (Lib.decDigits b) = some ⟨b, a, p, (Lib.decDigits b).length⟩ := by
 have small : ∀ b : Nat, b < 10 → mrun ⟨0, a, p, 0⟩ (Lib.decDigits b) = some ⟨b, a, p, (Lib.decDigits b).length⟩ := by
  intro b h
  rw [dec_one b h, Nat.mod_eq_of_lt h]
  show (mstep _ _).bind _ = _
  rw [mstep_dig _ b h (.inl rfl) (by show (0 : Nat) ≤ 2; omega) hp (by show 10 * 0 + b ≤ 255; omega)]
  simp [mrun]
 have mid : ∀ b : Nat, b < 26 → mrun ⟨0, a, p, 0⟩ (Lib.decDigits b) = some ⟨b, a, p, (Lib.decDigits b).length⟩ := by
  intro b h
  by_cases h1 : b < 10
  ·exact small b h1
  ·rw [dec_step b (by omega), mrun_app, small (b / 10) (by omega)]
   have hl : (Lib.decDigits (b / 10)).length ≤ 2 := dec_len2 ⟨b / 10, by omega⟩
   show (mstep _ _).bind _ = _
   rw [mstep_dig _ (b % 10) (by omega) (.inr (by show b / 10 ≠ 0; omega)) hl hp (by show 10 * (b / 10) + b % 10 ≤ 255; omega)]
   simp [mrun]
   omega
 intro b h
 by_cases h1 : b < 26
 ·exact mid b h1
 ·rw [dec_step b (by omega), mrun_app, mid (b / 10) (by omega)]
  have hl : (Lib.decDigits (b / 10)).length ≤ 2 := dec_len2 ⟨b / 10, by omega⟩
  show (mstep _ _).bind _ = _
  rw [mstep_dig _ (b % 10) (by omega) (.inr (by show b / 10 ≠ 0; omega)) hl hp (by show 10 * (b / 10) + b % 10 ≤ 255; omega)]
  simp [mrun]
  omega
theorem mrun_txt (b0 b1 b2 b3 : Nat) (h0 : b0 ≤ 255) (h1 : b1 ≤ 255) (h2 : b2 ≤ 255) (h3 : b3 ≤ 255) :
  mach (Lib.decDigits b0 ++ 46 :: (Lib.decDigits b1 ++ 46 :: (Lib.decDigits b2 ++ 46 :: Lib.decDigits b3))) = some (((b0 * 256 + b1) * 256 + b2) * 256 + b3) := by
 unfold mach
 rw [mrun_app, mrun_dec 0 0 (by omega) b0 h0]
 show (((mstep _ _).bind _)).bind _ = _
 rw [mstep_dot _ (dec_ne b0)]
 show (mrun _ _).bind _ = _
 rw [mrun_app, mrun_dec _ 1 (by omega) b1 h1]
 show (((mstep _ _).bind _)).bind _ = _
 rw [mstep_dot _ (dec_ne b1)]
 show (mrun _ _).bind _ = _
 rw [mrun_app, mrun_dec _ 2 (by omega) b2 h2]
 show (((mstep _ _).bind _)).bind _ = _
 rw [mstep_dot _ (dec_ne b2)]
 show (mrun _ _).bind _ = _
 rw [mrun_dec _ 3 (by omega) b3 h3]
 show mEnd _ = _
 unfold mEnd
 rw [if_neg (fun h => h.elim (fun e => e rfl) (dec_ne b3))]
 simp
 omega
structure MInv (done : List Nat) (cur : List UInt8) (s : Mc) (pre : List UInt8) : Prop where
 pre : pre = (done.map fun b => Lib.decDigits b ++ [46]).flatten ++ cur
 p : s.p = done.length
 le : ∀ b ∈ done, b ≤ 255
 a : s.a = done.foldl (fun a b => (256 * a + b) % 4294967296) 0
 k : s.k = cur.length
 n0 : cur = [] → s.n = 0
 nc : cur ≠ [] → cur = Lib.decDigits s.n
 n : s.n ≤ 255
theorem MInv.step {done : List Nat} {cur : List UInt8} {s s' : Mc} {pre : List UInt8} {c : UInt8} (h : MInv done cur s pre) (hs : mstep s c = some s') : ∃ done' cur', MInv done' cur' s' (pre ++ [c]) := by
 unfold mstep at hs
 split at hs
 ·rename_i hc
  split at hs
  ·cases hs
  ·rename_i hk
   cases hs
   have hne : cur ≠ [] := fun e => hk (by rw [h.k, e]; rfl)
   have hcc : c = 46 := by apply UInt8.toNat.inj; simpa using hc
   refine ⟨done ++ [s.n], [], ?_, by simp [h.p], fun b hb => ?_, ?_, rfl, fun _ => rfl, fun e => absurd rfl e, by simp⟩
   ·rw [h.pre, hcc, h.nc hne]
    rw [← h.nc hne]
    conv => lhs; rw [h.nc hne]
    simp
   ·rcases List.mem_append.1 hb with h1 | h1
    ·exact h.le b h1
    ·simp at h1; rw [h1]; exact h.n
   ·rw [List.foldl_append, ← h.a]; rfl
 ·split at hs
  ·cases hs
  ·rename_i hc hd
   split at hs
   ·cases hs
   ·rename_i hn
    cases hs
    refine ⟨done, cur ++ [c], ?_, h.p, h.le, h.a, by simp [h.k], fun e => by simp at e, fun _ => ?_, by show 10 * s.n + (c.toNat - 48) ≤ 255; omega⟩
    ·rw [h.pre, List.append_assoc]
    ·show cur ++ [c] = Lib.decDigits (10 * s.n + (c.toNat - 48))
     have hcd : UInt8.ofNat (48 + (c.toNat - 48)) = c := by
      rw [show 48 + (c.toNat - 48) = c.toNat by omega]; simp
     by_cases he : cur = []
     ·rw [he, h.n0 he, dec_one _ (by omega), show (10 * 0 + (c.toNat - 48)) % 10 = c.toNat - 48 by omega, hcd]; rfl
     ·have hk : 0 < s.k := by rw [h.k]; cases cur with | nil => exact absurd rfl he | cons _ _ => simp
      have hn0 : s.n ≠ 0 := fun e => hd (.inr (.inr (.inl ⟨hk, e⟩)))
      rw [dec_step _ (by omega), show (10 * s.n + (c.toNat - 48)) / 10 = s.n by omega, show (10 * s.n + (c.toNat - 48)) % 10 = c.toNat - 48 by omega, hcd, ← h.nc he]
theorem MInv.run : ∀ (l : List UInt8) {done : List Nat} {cur : List UInt8} {s s' : Mc} {pre : List UInt8}, MInv done cur s pre → mrun s l = some s' → ∃ done' cur', MInv done' cur' s' (pre ++ l)
 | [], done, cur, s, s', pre, h, hr => by
  cases hr
  exact ⟨done, cur, by simpa using h⟩
 | c :: l, done, cur, s, s', pre, h, hr => by
  rw [mrun] at hr
  cases hq : mstep s c with
  | none => rw [hq] at hr; cases hr
  | some s1 =>
   rw [hq] at hr
   obtain ⟨d1, c1, h1⟩ := h.step hq
   obtain ⟨d2, c2, h2⟩ := MInv.run l h1 hr
   exact ⟨d2, c2, by simpa using h2⟩
theorem mach_some {l : List UInt8} {v : Nat} (h : mach l = some v) : parse4 l = ((v : Int), 0) := by
 unfold mach at h
 cases hr : mrun ⟨0, 0, 0, 0⟩ l with
 | none => rw [hr] at h; cases h
 | some s =>
  rw [hr] at h
  have hi : MInv [] [] ⟨0, 0, 0, 0⟩ [] := ⟨rfl, rfl, (fun b hb => by cases hb), rfl, rfl, fun _ => rfl, fun e => absurd rfl e, by simp⟩
  obtain ⟨done, cur, hv⟩ := MInv.run l hi hr
  replace h : mEnd s = some v := h
  unfold mEnd at h
  split at h
  ·cases h
  ·rename_i hc
   have hp : done.length = 3 := by rw [← hv.p]; omega
   have hk : cur ≠ [] := fun e => by have := hv.k; rw [e] at this; simp at this; omega
   match done, hp with
   | [b0, b1, b2], _ =>
    have q0 := hv.le b0 (by simp)
    have q1 := hv.le b1 (by simp)
    have q2 := hv.le b2 (by simp)
    have q3 := hv.n
    have ha := hv.a
    simp at ha
    have hpre := hv.pre
    rw [hv.nc hk] at hpre
    have e : l = txt4 b0 b1 b2 s.n := by
     rw [txt4_is]
     simpa using hpre
    rw [e, parse_txt _ _ _ _ ⟨by omega, by omega⟩ ⟨by omega, by omega⟩ ⟨by omega, by omega⟩ ⟨by omega, by omega⟩]
    have hvv : (256 * s.a + s.n) % 4294967296 = v := Option.some.inj h
    rw [ha] at hvv
    simp only [part4]
    rw [← hvv]
    refine Prod.ext ?_ rfl
    show (((b0 : Int) * 256 + b1) * 256 + b2) * 256 + s.n = _
    omega
theorem mach_none {l : List UInt8} (h : mach l = none) : parse4 l = (0, 3) := by
 by_cases hc : all4 l ∧ print4 (adr l) = l
 ·exfalso
  have hp := hc.2
  unfold print4 at hp
  rw [txt4_is] at hp
  have r0 := byteI_range (adr l) 0
  have r1 := byteI_range (adr l) 1
  have r2 := byteI_range (adr l) 2
  have r3 := byteI_range (adr l) 3
  have := mrun_txt (byteI (adr l) 0).toNat (byteI (adr l) 1).toNat (byteI (adr l) 2).toNat (byteI (adr l) 3).toNat (by omega) (by omega) (by omega) (by omega)
  rw [hp, h] at this
  cases this
 ·unfold parse4; rw [if_neg hc]
theorem mrun_next (l : List UInt8) (j : Nat) (c : UInt8) (s : Mc) (h : l[j]? = some c) (hs : mrun ⟨0, 0, 0, 0⟩ (l.take j) = some s) : mrun ⟨0, 0, 0, 0⟩ (l.take (j + 1)) = mstep s c := by
 rw [List.take_add_one, h]
 show mrun _ (l.take j ++ [c]) = _
 rw [mrun_app, hs]
 show (mstep s c).bind _ = _
 cases mstep s c <;> rfl
theorem mrun_stop (l : List UInt8) (j : Nat) (h : mrun ⟨0, 0, 0, 0⟩ (l.take (j + 1)) = none) : mach l = none := by
 unfold mach
 have e := List.take_append_drop (j + 1) l
 rw [← e, mrun_app, h]; rfl
def rp (o : Option Nat) : Value := match o with
 | some v => .tuple #[.int .u32 v, .bool true]
 | none => .tuple #[.int .u32 0, .bool false]
theorem rparse4_t (l : List UInt8) (hl : l.length ≤ 2000000) (w : World) : Calls Tryz.prog 66 #[.string ⟨l.toArray⟩] w fun e w' => e = .returned (rp (mach l)) ∧ w = w' := by
 have hsz := bs_size4 l
 go_enter Tryz.func66, Tryz.ntmps66
 go_wp2_with fail
 go_loopw [4, 5, 6, 7, 8] (fun vn va vp vk i wr => ∃ (j : Nat) (s : Mc), j ≤ l.length ∧ i = .int .i64 j ∧ mrun ⟨0, 0, 0, 0⟩ (l.take j) = some s ∧ vn = .int .u32 s.n ∧ va = .int .u32 s.a ∧ vp = .int .i64 s.p ∧ vk = .int .i64 s.k ∧ s.n ≤ 255 ∧ s.a < 4294967296 ∧ s.p ≤ j ∧ s.k ≤ j ∧ wr = w) (fun _ _ _ _ i _ => l.length - (intOf i).toNat)
 case atStart => exact ⟨0, ⟨0, 0, 0, 0⟩, by omega, rfl, rfl, rfl, rfl, rfl, rfl, by simp, by simp, by simp, by simp, rfl⟩
 case round =>
  obtain ⟨j, ⟨n, a, p, k⟩, hj, rfl, hrun, rfl, rfl, rfl, rfl, hn, ha, hp, hk, rfl⟩ := hrel
  dsimp only at hn ha hp hk hrun
  by_cases hlt : j < l.length
  ·have hx : l[j]? = some l[j] := List.getElem?_eq_getElem hlt
   have hnext := mrun_next l j _ _ hx hrun
   have hstop := mrun_stop l j
   obtain ⟨c, hlj⟩ : ∃ c, l[j] = c := ⟨_, rfl⟩
   rw [hlj] at hnext
   have HN := Lib.hid hnext
   have HS := Lib.hid hstop
   clear hnext hstop hrun hx
   have hcn : c.toNat < 256 := c.toNat_lt
   have hsp : j < (⟨l.toArray⟩ : ByteArray).size := by rw [hsz]; exact hlt
   have hch : (⟨l.toArray⟩ : ByteArray)[j]'hsp = c := hlj
   clear hlj
   by_cases hc : c.toNat = 46
   ·have e46 : ((c.toNat : Int) == 46) = true := by simp; omega
    by_cases hk0 : k = 0
    ·subst hk0
     go_wp2
     exact bodyPost_ret (v := .tuple #[.int .u32 0, .bool false]) (by simp [results, Tryz.results66, go_sem]) rfl ⟨by rw [HS.out (by rw [HN.out]; unfold mstep; rw [if_pos hc, if_pos rfl])]; rfl, rfl⟩
    ·have ek : ((k : Int) == 0) = false := by simp; omega
     go_wp2
     refine ⟨⟨j + 1, ⟨0, (256 * a + n) % 4294967296, p + 1, 0⟩, by omega, by go_num, ?_, rfl, ?_, by go_num, rfl, by simp, by show _ % _ < _; omega, by show p + 1 ≤ j + 1; omega, by show 0 ≤ j + 1; omega, trivial⟩, by simp [intOf]; omega⟩
     ·rw [HN.out]; unfold mstep; rw [if_pos hc, if_neg hk0]
     ·refine congrArg (Value.int .u32) ?_
      show 256 * (a : Int) % 4294967296 + (n : Int) = (((256 * a + n) % 4294967296 : Nat) : Int)
      omega
   ·have e46 : ((c.toNat : Int) == 46) = false := by simp; omega
    have hc' : ¬ (c.toNat : Int) = 46 := by omega
    by_cases b1 : c.toNat < 48
    ·have b1' : (c.toNat : Int) < 48 := by omega
     go_wp2
     exact bodyPost_ret (v := .tuple #[.int .u32 0, .bool false]) (by simp [results, Tryz.results66, go_sem]) rfl ⟨by rw [HS.out (by rw [HN.out]; unfold mstep; rw [if_neg hc, if_pos (.inl b1)])]; rfl, rfl⟩
    by_cases b2 : 57 < c.toNat
    ·have b1' : ¬ (c.toNat : Int) < 48 := by omega
     have b2' : (57 : Int) < (c.toNat : Int) := by omega
     go_wp2
     exact bodyPost_ret (v := .tuple #[.int .u32 0, .bool false]) (by simp [results, Tryz.results66, go_sem]) rfl ⟨by rw [HS.out (by rw [HN.out]; unfold mstep; rw [if_neg hc, if_pos (.inr (.inl b2))])]; rfl, rfl⟩
    have b1' : ¬ (c.toNat : Int) < 48 := by omega
    have b2' : ¬ (57 : Int) < (c.toNat : Int) := by omega
    by_cases b3 : 0 < k ∧ n = 0
    ·obtain ⟨k0, rfl⟩ := b3
     go_wp2
     exact bodyPost_ret (v := .tuple #[.int .u32 0, .bool false]) (by simp [results, Tryz.results66, go_sem]) rfl ⟨by rw [HS.out (by rw [HN.out]; unfold mstep; rw [if_neg hc, if_pos (.inr (.inr (.inl ⟨k0, rfl⟩)))])]; rfl, rfl⟩
    by_cases b4 : 2 < k
    ·have n0 : n ≠ 0 := fun e => b3 ⟨by omega, e⟩
     have k0 : 0 < k := by omega
     have b4' : (2 : Int) < (k : Int) := by omega
     go_wp2
     exact bodyPost_ret (v := .tuple #[.int .u32 0, .bool false]) (by simp [results, Tryz.results66, go_sem]) rfl ⟨by rw [HS.out (by rw [HN.out]; unfold mstep; rw [if_neg hc, if_pos (.inr (.inr (.inr (.inl b4))))])]; rfl, rfl⟩
    by_cases b5 : 3 < p
    ·have b5' : (3 : Int) < (p : Int) := by omega
     by_cases k0 : 0 < k
     ·have n0 : n ≠ 0 := fun e => b3 ⟨k0, e⟩
      go_wp2
      exact bodyPost_ret (v := .tuple #[.int .u32 0, .bool false]) (by simp [results, Tryz.results66, go_sem]) rfl ⟨by rw [HS.out (by rw [HN.out]; unfold mstep; rw [if_neg hc, if_pos (.inr (.inr (.inr (.inr b5))))])]; rfl, rfl⟩
     ·obtain rfl : k = 0 := by omega
      go_wp2
      exact bodyPost_ret (v := .tuple #[.int .u32 0, .bool false]) (by simp [results, Tryz.results66, go_sem]) rfl ⟨by rw [HS.out (by rw [HN.out]; unfold mstep; rw [if_neg hc, if_pos (.inr (.inr (.inr (.inr b5))))])]; rfl, rfl⟩
    have hbad : ¬ (c.toNat < 48 ∨ 57 < c.toNat ∨ (0 < k ∧ n = 0) ∨ 2 < k ∨ 3 < p) := fun h => by
     rcases h with h | h | h | h | h
     ·exact b1 h
     ·exact b2 h
     ·exact b3 h
     ·exact b4 h
     ·exact b5 h
    have HBAD := Lib.hid hbad
    clear hbad
    have b4' : ¬ (2 : Int) < (k : Int) := by omega
    have b5' : ¬ (3 : Int) < (p : Int) := by omega
    by_cases k0 : 0 < k
    ·have n0 : n ≠ 0 := fun e => b3 ⟨k0, e⟩
     by_cases big : 255 < 10 * n + (c.toNat - 48)
     ·have big' : (255 : Int) < 10 * (n : Int) + (c.toNat : Int) - 48 := by omega
      go_wp2
      exact bodyPost_ret (v := .tuple #[.int .u32 0, .bool false]) (by simp [results, Tryz.results66, go_sem]) rfl ⟨by rw [HS.out (by rw [HN.out]; unfold mstep; rw [if_neg hc, if_neg HBAD.out, if_pos big])]; rfl, rfl⟩
     ·have big' : ¬ (255 : Int) < 10 * (n : Int) + (c.toNat : Int) - 48 := by omega
      go_wp2
      refine ⟨⟨j + 1, ⟨10 * n + (c.toNat - 48), a, p, k + 1⟩, by omega, by go_num, by rw [HN.out]; unfold mstep; rw [if_neg hc, if_neg HBAD.out, if_neg big], ?_, rfl, rfl, by go_num, by show 10 * n + (c.toNat - 48) ≤ 255; omega, ha, by show p ≤ j + 1; omega, by show k + 1 ≤ j + 1; omega, trivial⟩, by simp [intOf]; omega⟩
      refine congrArg (Value.int .u32) ?_
      show _ = ((10 * n + (c.toNat - 48) : Nat) : Int)
      omega
    ·obtain rfl : k = 0 := by omega
     by_cases big : 255 < 10 * n + (c.toNat - 48)
     ·have big' : (255 : Int) < 10 * (n : Int) + (c.toNat : Int) - 48 := by omega
      go_wp2
      exact bodyPost_ret (v := .tuple #[.int .u32 0, .bool false]) (by simp [results, Tryz.results66, go_sem]) rfl ⟨by rw [HS.out (by rw [HN.out]; unfold mstep; rw [if_neg hc, if_neg HBAD.out, if_pos big])]; rfl, rfl⟩
     ·have big' : ¬ (255 : Int) < 10 * (n : Int) + (c.toNat : Int) - 48 := by omega
      go_wp2
      refine ⟨⟨j + 1, ⟨10 * n + (c.toNat - 48), a, p, 0 + 1⟩, by omega, by go_num, by rw [HN.out]; unfold mstep; rw [if_neg hc, if_neg HBAD.out, if_neg big], ?_, rfl, rfl, by go_num, by show 10 * n + (c.toNat - 48) ≤ 255; omega, ha, by show p ≤ j + 1; omega, by show 0 + 1 ≤ j + 1; omega, trivial⟩, by simp [intOf]; omega⟩
      refine congrArg (Value.int .u32) ?_
      show _ = ((10 * n + (c.toNat - 48) : Nat) : Int)
      omega
  ·have hje : j = l.length := by omega
   subst hje
   rw [List.take_length] at hrun
   have hm : mach l = mEnd ⟨n, a, p, k⟩ := by unfold mach; rw [hrun]; rfl
   have HM := Lib.hid hm
   clear hm hrun
   by_cases p3 : p = 3
   ·subst p3
    by_cases k0 : k = 0
    ·subst k0
     go_wp2
     exact bodyPost_ret (v := .tuple #[.int .u32 0, .bool false]) (by simp [results, Tryz.results66, go_sem]) rfl ⟨by rw [HM.out]; rfl, rfl⟩
    ·have ek : ((k : Int) == 0) = false := by simp; omega
     have he : mEnd ⟨n, a, 3, k⟩ = some ((256 * a + n) % 4294967296) := by unfold mEnd; rw [if_neg (fun h => h.elim (fun e => e rfl) k0)]
     have hv : 256 * (a : Int) % 4294967296 + (n : Int) = (((256 * a + n) % 4294967296 : Nat) : Int) := by omega
     have HE := Lib.hid he
     have HV := Lib.hid hv
     clear he hv
     go_wp2
     refine bodyPost_ret (v := .tuple #[.int .u32 (256 * (a : Int) % 4294967296 + (n : Int)), .bool true]) (by simp [results, Tryz.results66, go_sem]) rfl ⟨?_, rfl⟩
     rw [HM.out, HE.out, HV.out]; rfl
   ·have ep : ((p : Int) != 3) = true := by simp; omega
    have ep2 : ¬ (p : Int) = 3 := by omega
    have he : mEnd ⟨n, a, p, k⟩ = none := by unfold mEnd; rw [if_pos (.inl p3)]
    have HE := Lib.hid he
    clear he
    go_wp2
    exact bodyPost_ret (v := .tuple #[.int .u32 0, .bool false]) (by simp [results, Tryz.results66, go_sem]) rfl ⟨by rw [HM.out, HE.out]; rfl, rfl⟩
def gAcc : Nat → List UInt8 → Option Nat
 | acc, [] => some acc
 | acc, c :: r => match hexV c with
  | none => none
  | some d => gAcc ((16 * acc + d) % 65536) r
theorem gAcc_hexM : ∀ (l : List UInt8) (k acc : Nat), acc < 16 ^ k → l.length + k ≤ 4 → hexM acc l = gAcc acc l
 | [], _, _, _, _ => rfl
 | c :: r, k, acc, h, hl => by
  rw [hexM, gAcc]
  cases hv : hexV c with
  | none => rfl
  | some d =>
   have hd := hexV_lt hv
   have hk : k + 1 ≤ 4 := by simp at hl; omega
   have h16 : 16 * acc + d < 16 ^ (k + 1) := by rw [Nat.pow_succ]; omega
   have hp : 16 ^ (k + 1) ≤ 16 ^ 4 := Nat.pow_le_pow_right (by decide) hk
   have h65 : (16 : Nat) ^ 4 = 65536 := by decide
   dsimp only
   rw [if_neg (by omega), Nat.mod_eq_of_lt (by omega), show acc * 16 + d = 16 * acc + d by omega]
   exact gAcc_hexM r (k + 1) _ h16 (by simp at hl; omega)
theorem grpV_acc (l : List UInt8) : grpV l = if 0 < l.length ∧ l.length < 5 then gAcc 0 l else none := by
 unfold grpV hexP
 by_cases h4 : 4 < l.length
 ·rw [if_pos h4, if_neg (by omega)]
 ·rw [if_neg h4]
  by_cases h0 : l = []
  ·rw [if_pos h0, if_neg (by rw [h0]; simp)]
  ·have : 0 < l.length := List.length_pos_iff.2 h0
   rw [if_neg h0, if_pos (by omega), gAcc_hexM l 0 0 (by decide) (by omega)]
theorem gAcc_no {acc : Nat} {c : UInt8} (r : List UInt8) (h : hexV c = none) : gAcc acc (c :: r) = none := by rw [gAcc, h]
theorem gAcc_ok {acc d : Nat} {c : UInt8} (r : List UInt8) (h : hexV c = some d) : gAcc acc (c :: r) = gAcc ((16 * acc + d) % 65536) r := by rw [gAcc, h]
def GrpPost (o : Option Nat) (e : Ending) : Prop := match o with
 | some v => e = .returned (.tuple #[.int .u16 v, .bool true])
 | none => ∃ x, e = .returned (.tuple #[.int .u16 x, .bool false])
theorem group_t (l : List UInt8) (hl : l.length ≤ 2000000) (w : World) : Calls Tryz.prog 136 #[.string ⟨l.toArray⟩] w fun e w' => GrpPost (grpV l) e ∧ w = w' := by
 have hsz := bs_size4 l
 have HGV := Lib.hid (grpV_acc l)
 generalize grpV l = gv at *
 go_enter Tryz.func136, Tryz.ntmps136
 go_wp2_with fail
 go_loopw [4, 5] (fun vn i wr => ∃ (j acc : Nat), j ≤ l.length ∧ acc < 65536 ∧ i = .int .i64 (j : Nat) ∧ vn = .int .u16 (acc : Nat) ∧ Hid (gAcc 0 l = gAcc acc (l.drop j)) ∧ wr = w) (fun _ i _ => l.length - (intOf i).toNat)
 case atStart => exact ⟨0, 0, by omega, by omega, rfl, rfl, Lib.hid rfl, rfl⟩
 case round =>
  obtain ⟨j, acc, hj, hacc, rfl, rfl, hg, rfl⟩ := hrel
  by_cases hlt : j < l.length
  ·have hdrop : l.drop j = l[j] :: l.drop (j + 1) := List.drop_eq_getElem_cons hlt
   have hg2 := hg.out
   rw [hdrop] at hg2
   have hsp : j < (⟨l.toArray⟩ : ByteArray).size := by rw [hsz]; exact hlt
   have hch : (⟨l.toArray⟩ : ByteArray)[j]'hsp = l[j] := rfl
   have hlt' : (j : Int) < (l.length : Int) := by omega
   generalize l[j] = c at *
   have hcn : c.toNat < 256 := c.toNat_lt
   clear hdrop hg
   rcases hexV_cases c with ⟨hd0, hd1, hv⟩ | ⟨hd0, hd1, _, hv⟩ | ⟨hd0, hd1, _, hv⟩ | ⟨hdig, hlo, hv⟩
   ·rw [gAcc_ok _ hv] at hg2
    have HG := Lib.hid hg2
    have i0 : (48 : Int) ≤ (c.toNat : Int) := by omega
    have i1 : (c.toNat : Int) ≤ 57 := by omega
    clear hg2 hv
    go_wp2
    exact ⟨⟨j + 1, (16 * acc + (c.toNat - 48)) % 65536, by omega, Nat.mod_lt _ (by decide), by go_num, congrArg (Value.int .u16) (by simp [IntKind.wrap, IntKind.bits, IntKind.signed]; omega), HG, trivial⟩, by simp [intOf]; omega⟩
   ·rw [gAcc_ok _ hv] at hg2
    have HG := Lib.hid hg2
    have i0 : (97 : Int) ≤ (c.toNat : Int) := by omega
    have i1 : (c.toNat : Int) ≤ 102 := by omega
    clear hg2 hv
    go_wp2
    exact ⟨⟨j + 1, (16 * acc + (c.toNat - 87)) % 65536, by omega, Nat.mod_lt _ (by decide), by go_num, congrArg (Value.int .u16) (by simp [IntKind.wrap, IntKind.bits, IntKind.signed]; omega), HG, trivial⟩, by simp [intOf]; omega⟩
   ·rw [gAcc_ok _ hv] at hg2
    have HG := Lib.hid hg2
    have i0 : (65 : Int) ≤ (c.toNat : Int) := by omega
    have i1 : (c.toNat : Int) ≤ 70 := by omega
    clear hg2 hv
    go_wp2
    exact ⟨⟨j + 1, (16 * acc + (c.toNat - 55)) % 65536, by omega, Nat.mod_lt _ (by decide), by go_num, congrArg (Value.int .u16) (by simp [IntKind.wrap, IntKind.bits, IntKind.signed]; omega), HG, trivial⟩, by simp [intOf]; omega⟩
   ·rw [gAcc_no _ hv] at hg2
    have hgn : gv = none := by rw [HGV.out, hg2]; simp
    have hnx : ¬ (48 ≤ c.toNat ∧ c.toNat ≤ 57) ∧ ¬ (97 ≤ c.toNat ∧ c.toNat ≤ 102) ∧ ¬ (65 ≤ c.toNat ∧ c.toNat ≤ 70) := by
     unfold hexV at hv
     refine ⟨hdig, fun h => ?_, fun h => ?_⟩
     ·rw [if_neg hdig, if_pos h] at hv; cases hv
     ·rw [if_neg hdig, if_neg (by omega), if_pos h] at hv; cases hv
    clear hv hlo hg2 hdig
    have HGN := Lib.hid hgn
    clear hgn
    have hcs : c.toNat < 48 ∨ (57 < c.toNat ∧ c.toNat < 65) ∨ (70 < c.toNat ∧ c.toNat < 97) ∨ 102 < c.toNat := by omega
    clear hnx
    rcases hcs with h | ⟨h, h'⟩ | ⟨h, h'⟩ | h
    ·have i0 : (c.toNat : Int) < 48 := by omega
     go_wp2
     go_ret2
     exact ⟨by rw [HGN.out]; exact ⟨_, rfl⟩, rfl⟩
    ·have i0 : (57 : Int) < (c.toNat : Int) := by omega
     have i1 : (c.toNat : Int) < 65 := by omega
     go_wp2
     go_ret2
     exact ⟨by rw [HGN.out]; exact ⟨_, rfl⟩, rfl⟩
    ·have i0 : (70 : Int) < (c.toNat : Int) := by omega
     have i1 : (c.toNat : Int) < 97 := by omega
     go_wp2
     go_ret2
     exact ⟨by rw [HGN.out]; exact ⟨_, rfl⟩, rfl⟩
    ·have i0 : (102 : Int) < (c.toNat : Int) := by omega
     go_wp2
     go_ret2
     exact ⟨by rw [HGN.out]; exact ⟨_, rfl⟩, rfl⟩
  ·have hjj : j = l.length := by omega
   have hg2 := hg.out
   rw [hjj, List.drop_eq_nil_of_le (Nat.le_refl _)] at hg2
   have hlt' : ¬ (j : Int) < (l.length : Int) := by omega
   have hgv : gv = if 0 < l.length ∧ l.length < 5 then some acc else none := by rw [HGV.out, hg2]; rfl
   have HGV2 := Lib.hid hgv
   clear hgv hg2 hg hjj
   by_cases h0 : 0 < l.length
   ·have h0' : (0 : Int) < (l.length : Int) := by omega
    by_cases h5 : l.length < 5
    ·have h5' : (l.length : Int) < 5 := by omega
     go_wp2
     go_ret2
     exact ⟨by rw [HGV2.out, if_pos ⟨h0, h5⟩]; rfl, rfl⟩
    ·have h5' : ¬ (l.length : Int) < 5 := by omega
     go_wp2
     go_ret2
     exact ⟨by rw [HGV2.out, if_neg (fun h => h5 h.2)]; exact ⟨_, rfl⟩, rfl⟩
   ·have h0' : ¬ (0 : Int) < (l.length : Int) := by omega
    go_wp2
    go_ret2
    exact ⟨by rw [HGV2.out, if_neg (fun h => h0 h.1)]; exact ⟨_, rfl⟩, rfl⟩
theorem occ2 (l : List UInt8) (k : Nat) (h : k + 1 < l.length) : Lib.occAt l [58, 58] k = (decide (l[k] = 58) && decide (l[k + 1] = 58)) := by
 unfold Lib.occAt
 rw [List.drop_eq_getElem_cons (show k < l.length by omega), List.drop_eq_getElem_cons h]
 have e : ∀ x : UInt8, ((58 : UInt8) == x) = decide (x = 58) := fun x => by
  by_cases h : x = 58
  ·subst h; rfl
  ·rw [decide_eq_false h]; exact beq_eq_false_iff_ne.2 (fun he => h he.symm)
 show (((58 : UInt8) == l[k]) && (((58 : UInt8) == l[k + 1]) && true)) = _
 rw [Bool.and_true, e, e]
theorem occ_end (l : List UInt8) (k : Nat) (h : l.length ≤ k + 1) : Lib.occAt l [58, 58] k = false := by
 cases hq : Lib.occAt l [58, 58] k with
 | false => rfl
 | true =>
  rcases Lib.occAt_room hq with h1 | h1
  ·simp at h1; omega
  ·cases h1
theorem rcut_t (l : List UInt8) (hl : l.length ≤ 2000000) (w : World) : Calls Tryz.prog 105 #[.string ⟨l.toArray⟩] w fun e w' => e = .returned (.int .i64 (Lib.index l [58, 58])) ∧ w = w' := by
 have hsz := bs_size4 l
 obtain ⟨ix, hix⟩ : ∃ ix, ix = Lib.index l [58, 58] := ⟨_, rfl⟩
 rw [← hix]
 have HI := Lib.hid hix
 clear hix
 go_enter Tryz.func105, Tryz.ntmps105
 go_wp2_with fail
 go_loopw [3] (fun i wr => ∃ (j : Nat), j ≤ l.length ∧ i = .int .i64 (j : Nat) ∧ Hid (∀ k, k < j → Lib.occAt l [58, 58] k = false) ∧ wr = w) (fun i _ => l.length - (intOf i).toNat)
 case atStart => exact ⟨0, by omega, rfl, Lib.hid (fun k h => by omega), rfl⟩
 case round =>
  obtain ⟨j, hj, rfl, hno, rfl⟩ := hrel
  by_cases hlt : j + 1 < l.length
  ·have hlt' : (j : Int) + 1 < (l.length : Int) := by omega
   have hoc := occ2 l j hlt
   have hsp : j < (⟨l.toArray⟩ : ByteArray).size := by rw [hsz]; omega
   have hch : (⟨l.toArray⟩ : ByteArray)[j]'hsp = l[j] := rfl
   have hsp2 : j + 1 < (⟨l.toArray⟩ : ByteArray).size := by rw [hsz]; omega
   have hch2 : (⟨l.toArray⟩ : ByteArray)[j + 1]'hsp2 = l[j + 1] := rfl
   have q2 : ((j : Int) + 1).toNat = j + 1 := by omega
   have HOC := Lib.hid hoc
   clear hoc
   generalize l[j] = c at *
   generalize l[j + 1] = c2 at *
   have hc1 := c.toNat_lt
   have hc2 := c2.toNat_lt
   have t58 : ∀ x : UInt8, x = 58 ↔ x.toNat = 58 := fun x => ⟨fun h => by rw [h]; rfl, fun h => UInt8.toNat_inj.1 h⟩
   by_cases h1 : c.toNat = 58
   ·by_cases h2 : c2.toNat = 58
    ·have hres : ix = (j : Int) := by
      rw [HI.out]
      exact Lib.index_first (by omega) (by rw [HOC.out]; simp [(t58 c).2 h1, (t58 c2).2 h2]) hno.out
     have HRES := Lib.hid hres
     have e1 : ((c.toNat : Int) == 58) = true := by simp; omega
     have e2 : ((c2.toNat : Int) == 58) = true := by simp; omega
     obtain rfl := (t58 c).2 h1
     obtain rfl := (t58 c2).2 h2
     clear hres t58
     go_wp2
     go_ret
     exact ⟨by rw [HRES.out]; rfl, rfl⟩
    ·have hocf : Lib.occAt l [58, 58] j = false := by rw [HOC.out, decide_eq_false (fun h => h2 ((t58 c2).1 h)), Bool.and_false]
     have e2 : ((c2.toNat : Int) == 58) = false := by simp; omega
     have e2' : ¬ (c2.toNat : Int) = 58 := by omega
     obtain rfl := (t58 c).2 h1
     have HN : Hid (∀ k, k < j + 1 → Lib.occAt l [58, 58] k = false) := Lib.hid (fun k hk => by
      by_cases e : k < j
      ·exact hno.out k e
      ·obtain rfl : k = j := by omega
       exact hocf)
     clear hocf t58
     go_wp2
     exact ⟨⟨j + 1, by omega, by go_num, HN, trivial⟩, by simp [intOf]; omega⟩
   ·have hocf : Lib.occAt l [58, 58] j = false := by rw [HOC.out, decide_eq_false (fun h => h1 ((t58 c).1 h)), Bool.false_and]
    have e1 : ((c.toNat : Int) == 58) = false := by simp; omega
    have e1' : ¬ (c.toNat : Int) = 58 := by omega
    have HN : Hid (∀ k, k < j + 1 → Lib.occAt l [58, 58] k = false) := Lib.hid (fun k hk => by
     by_cases e : k < j
     ·exact hno.out k e
     ·obtain rfl : k = j := by omega
      exact hocf)
    clear hocf t58
    go_wp2
    exact ⟨⟨j + 1, by omega, by go_num, HN, trivial⟩, by simp [intOf]; omega⟩
  ·have hlt' : ¬ (j : Int) + 1 < (l.length : Int) := by omega
   have hres : ix = -1 := by
    rw [HI.out]
    exact Lib.index_none (fun k _ => by
     by_cases e : k < j
     ·exact hno.out k e
     ·exact occ_end l k (by omega))
   have HRES := Lib.hid hres
   clear hres
   go_wp2
   go_ret
   exact ⟨by rw [HRES.out]; rfl, rfl⟩
def OwnU (base : Nat) (w : World) (v : Value) (vs : List Nat) : Prop := w.ownsRow base 106 1 v vs.length (valsV vs)
theorem OwnU.later {base : Nat} {w w' : World} {v : Value} {l : List Nat} (h : OwnU base w v l) (hb : Below w.heap.size w w') : OwnU base w' v l := by
 obtain ⟨hl, h⟩ := h
 refine ⟨hl, ?_⟩
 rcases h with h | ⟨g, cap, cur, hv, hbs, hg, h1⟩
 ·exact .inl h
 ·exact .inr ⟨g, cap, cur, hv, hbs, (Row.later (t := 106) hg hb), h1⟩
theorem OwnU.block {base : Nat} {w : World} {v : Value} {l : List Nat} (h : OwnU base w v l) (g : Nat) (hg : v.ownBlock = some g) : base ≤ g ∧ g < w.heap.size := by
 rcases h.2 with ⟨rfl, _⟩ | ⟨g', cap, cur, rfl, hbs, hr, _⟩
 ·cases hg
 ·have : g' = g := by simpa [Value.ownBlock] using hg
  subst this
  exact ⟨hbs, Row.lt (t := 106) hr⟩
theorem OwnU.nil (base : Nat) (w : World) : OwnU base w (.slice none 0 0) [] := ⟨rfl, .inl ⟨rfl, rfl⟩⟩
theorem valsV_length (vs : List Nat) : (valsV vs).length = vs.length := by simp [valsV]
theorem OwnU.read {base : Nat} {w : World} {v : Value} {l : List Nat} (h : OwnU base w v l) : ∃ p c, v = .slice p l.length c ∧ (0 < l.length → ∃ g, p = some ⟨g, 0, none⟩ ∧ base ≤ g ∧ g < w.heap.size ∧ ∀ (j x : Nat), l[j]? = some x → w.cell? ⟨g, j, none⟩ = some (.int .u16 (x : Int))) := by
 obtain ⟨hl, h⟩ := h
 rcases h with ⟨rfl, h0⟩ | ⟨g, cap, cur, rfl, hb, hg, h1, h2, h3, h4⟩
 ·exact ⟨none, 0, by rw [h0], fun h => by omega⟩
 ·refine ⟨_, cap, rfl, fun _ => ⟨g, rfl, hb, Row.lt (t := 106) hg, fun j x hx => ?_⟩⟩
  rw [cell_of_row w g j cur _ _ hg, ← Array.getElem?_toList]
  have hj : j < l.length := by rw [List.getElem?_eq_some_iff] at hx; exact hx.1
  have : (valsV l)[j]? = some (.int .u16 (x : Int)) := by unfold valsV; rw [List.getElem?_map, hx]; rfl
  rw [← h4, List.getElem?_take, if_pos (by omega)] at this
  exact this
theorem info16 : ∃ i, Tryz.prog.info? 106 = some i ∧ i.zero = some (.int .u16 0) ∧ i.size = 1 ∧ i.bytes = 2 := by
 have h1 : (Tryz.prog.info? 106).bind (·.zero) = some (.int .u16 0) := by kernel_rfl
 have h2 : (Tryz.prog.info? 106).map (·.size) = some 1 := by kernel_rfl
 have h3 : (Tryz.prog.info? 106).map (·.bytes) = some 2 := by kernel_rfl
 cases hq : Tryz.prog.info? 106 with
 | none => rw [hq] at h2; cases h2
 | some i =>
  rw [hq] at h1 h2 h3
  exact ⟨i, rfl, by simpa using h1, by simpa using h2, by simpa using h3⟩
theorem appU_run {base : Nat} {w : World} {v : Value} {l m : List Nat} (ty : TypeId) (ho : OwnU base w v l) (gs c : Nat) (hsrc : ∀ (j x : Nat), m[j]? = some x → w.cell? ⟨gs, j, none⟩ = some (.int .u16 (x : Int))) (hl : l.length + m.length ≤ 2147483647) (hbase : base ≤ w.heap.size) :
  ∃ v' w', (Builtin.append_ #[112, 112] ty #[v, .slice (some ⟨gs, 0, none⟩) m.length c]).run Tryz.prog w = .ok v' w' ∧ OwnU base w' v' (l ++ m) ∧ w.grownBy w' v.ownBlock := by
 obtain ⟨i, i1, i2, i3, i4⟩ := info16
 have hs : ∀ j u, (valsV m)[j]? = some u → w.cell? ((⟨gs, 0, none⟩ : Addr).add j) = some u := by
  intro j u hu
  unfold valsV at hu
  rw [List.getElem?_map, Option.map_eq_some_iff] at hu
  obtain ⟨x, hx, rfl⟩ := hu
  rw [Addr.add_mid, Nat.zero_add]
  exact hsrc j x hx
 obtain ⟨v', w', hr, k1, k2, _, k4⟩ := run_append_own_at (P := Tryz.prog) w base 112 ty 106 i (.int .u16 0) 1 2 Tryz.underlying112 i1 i2 i3 i4 rfl (by decide) v l.length (valsV l) ho ⟨gs, 0, none⟩ m.length c (valsV m) (by rw [valsV_length, Nat.mul_one]) hs (valsV_one m) (by unfold maxLen; omega) (by omega) hbase
 refine ⟨v', w', hr, ?_, k2⟩
 have hbm : valsV (l ++ m) = valsV l ++ valsV m := by unfold valsV; rw [List.map_append]
 unfold OwnU
 rw [List.length_append, hbm]
 exact k1
theorem wp_appU {P : Program} {w w' : World} {o : Oper} {a : Act} {K : Act → World → Prop} {Q : Exit → Act → World → Prop} (s x : Operand) (t : TypeId) {v bv v' : Value}
  (ho : o.op = .call { callee := .builtin .append, args := #[s, x], argTypes := #[t, t] }) (hs : a.eval s = v) (hx : a.eval x = bv)
  (hr : (Builtin.append_ #[t, t] o.type #[v, bv]).run P w = .ok v' w') (h : K (a.put o.dst v') w') : o.wp P a w K Q := by
 unfold Oper.wp execOp
 simp only [ho, resolve, invoke, builtin, Sem.run_bind, Sem.run_pure, Result.andThen_ok, List.map_toArray, List.map_cons, List.map_nil, hs, hx, hr]
 exact h
theorem wpList_appU {P : Program} {w w' : World} {ops : Array Oper} {rest : List Oper} {o : Oper} {a : Act} {Q : Exit → Act → World → Prop} (hg : o.guard = none) (s x : Operand) (t : TypeId) (hop : o.op = .call { callee := .builtin .append, args := #[s, x], argTypes := #[t, t] })
  {v bv v' : Value} (hs : a.eval s = v) (hx : a.eval x = bv) (hr : (Builtin.append_ #[t, t] o.type #[v, bv]).run P w = .ok v' w') (hK : wpList P ops Q rest (a.put o.dst v') w') : wpList P ops Q (o :: rest) a w := by
 refine wpList_plain hg fun K hK' => ?_
 exact wp_appU s x t hop hs hx hr (hK' _ _ hK)
theorem ext_l6 (l : List UInt8) (a b : Nat) : (⟨l.toArray⟩ : ByteArray).extract a b = ⟨((l.take b).drop a).toArray⟩ := by
 apply ByteArray.ext
 simp [ByteArray.extract, ByteArray.copySlice]
 rw [List.drop_take]
def RdInv (d : Bool) (l : List UInt8) (fr j : Nat) (vs : List Nat) : Prop :=
 (fr ≤ j ∧ j ≤ l.length ∧ (58 : UInt8) ∉ (l.take j).drop fr ∧ seqV d (splitC l) = (seqV d (splitC (l.drop fr))).map fun us => vs ++ us) ∨ (j = l.length + 1 ∧ seqV d (splitC l) = some vs)
theorem take_drop_succ6 (l : List UInt8) (fr j : Nat) (h : fr ≤ j) (hj : j < l.length) : (l.take (j + 1)).drop fr = (l.take j).drop fr ++ [l[j]] := by
 rw [List.take_add_one, List.getElem?_eq_getElem hj, List.drop_append_of_le_length (by simp; omega)]
 rfl
theorem drop_split6 (l : List UInt8) (fr j : Nat) (h : fr ≤ j) (hj : j < l.length) : l.drop fr = (l.take j).drop fr ++ l[j] :: l.drop (j + 1) := by
 have h1 : l.drop fr = (l.take j ++ l.drop j).drop fr := by rw [List.take_append_drop]
 rw [h1, List.drop_append_of_le_length (by simp; omega), List.drop_eq_getElem_cons hj]
theorem RdInv.next {d : Bool} {l : List UInt8} {fr j : Nat} {vs : List Nat} (h : RdInv d l fr j vs) (hj : j < l.length) (hc : l[j] ≠ 58) : RdInv d l fr (j + 1) vs := by
 rcases h with ⟨h1, h2, h3, h4⟩ | ⟨h1, _⟩
 ·refine .inl ⟨by omega, by omega, ?_, h4⟩
  rw [take_drop_succ6 l fr j h1 hj]
  intro hm
  rcases List.mem_append.1 hm with hm | hm
  ·exact h3 hm
  ·simp at hm; exact hc hm.symm
 ·omega
theorem RdInv.part {d : Bool} {l : List UInt8} {fr j : Nat} {vs : List Nat} (h : RdInv d l fr j vs) (hj : j < l.length) (hc : l[j] = 58) : fr ≤ j ∧ (∀ v, grpV ((l.take j).drop fr) = some v → RdInv d l (j + 1) (j + 1) (vs ++ [v])) ∧ (grpV ((l.take j).drop fr) = none → seqV d (splitC l) = none) := by
 rcases h with ⟨h1, h2, h3, h4⟩ | ⟨h1, _⟩
 ·have hs : splitC (l.drop fr) = (l.take j).drop fr :: splitC (l.drop (j + 1)) := by rw [drop_split6 l fr j h1 hj, hc, split_at _ _ h3]
  rw [hs, seqV_cons d _ _ (split_ne _)] at h4
  refine ⟨h1, fun v hv => .inl ⟨Nat.le_refl _, by omega, ?_, ?_⟩, fun hv => ?_⟩
  ·rw [List.drop_eq_nil_of_le (by rw [List.length_take]; omega)]; simp
  ·rw [hv] at h4
   rw [h4]
   cases seqV d (splitC (l.drop (j + 1))) with
   | none => rfl
   | some us => simp
  ·rw [hv] at h4
   rw [h4]; rfl
 ·omega
theorem RdInv.last {d : Bool} {l : List UInt8} {fr : Nat} {vs : List Nat} (h : RdInv d l fr l.length vs) : fr ≤ l.length ∧ seqV d (splitC l) = (lastV d ((l.take l.length).drop fr)).map fun us => vs ++ us := by
 rcases h with ⟨h1, h2, h3, h4⟩ | ⟨h1, _⟩
 ·rw [List.take_length] at h3 ⊢
  refine ⟨h1, ?_⟩
  rw [h4, split_no _ h3, seqV]
 ·omega
def ReadPost (o : Option (List Nat)) (w : World) (e : Ending) (w' : World) : Prop := (match o with
 | some vs => ∃ v, e = .returned (.tuple #[v, .bool true]) ∧ OwnU w.heap.size w' v vs
 | none => e = .returned (.tuple #[.slice none 0 0, .bool false])) ∧ Below w.heap.size w w'
theorem mach_part (p : List UInt8) : (∃ v, mach p = some v ∧ parse4 p = ((v : Int), 0) ∧ v < 4294967296) ∨ (mach p = none ∧ (parse4 p).2 = 3) := by
 cases h : mach p with
 | none => exact .inr ⟨rfl, by rw [mach_none h]⟩
 | some v =>
  have h1 := mach_some h
  have h2 := (parse_range p).2
  rw [h1] at h2
  exact .inl ⟨v, rfl, h1, by dsimp only at h2; omega⟩
theorem read_t (d : Bool) (l : List UInt8) (hl : l.length ≤ 2000000) (w : World) : Calls Tryz.prog 106 #[.string ⟨l.toArray⟩, .bool d] w (ReadPost (readV d l) w) := by
 have hsz := bs_size4 l
 by_cases h0 : l = []
 ·subst h0
  have hr : readV d [] = some [] := rfl
  rw [hr]
  go_enter Tryz.func106, Tryz.ntmps106
  go_wp2_with fail
  go_loopw [6, 8] (fun o i wr => o = .slice none 0 0 ∧ i = .int .i64 0 ∧ wr = w) (fun _ _ _ => 0)
  case atStart => exact ⟨rfl, rfl, rfl⟩
  case round =>
   obtain ⟨rfl, rfl, rfl⟩ := hrel
   go_wp2
   go_ret2
   exact ⟨⟨_, rfl, OwnU.nil _ _⟩, Below.refl _ _⟩
 ·have hpos : 0 < l.length := List.length_pos_iff.2 h0
  have hpos' : (0 : Int) < (l.length : Int) := by omega
  have hrv : readV d l = seqV d (splitC l) := by unfold readV; rw [if_neg h0]
  rw [hrv]
  clear hrv h0
  have HI0 : Hid (RdInv d l 0 0 []) := Lib.hid (.inl ⟨Nat.le_refl _, by omega, by simp, by simp⟩)
  go_enter Tryz.func106, Tryz.ntmps106
  go_wp2_with fail
  go_loopw [6, 7, 8] (fun o f i wr => ∃ (fr j : Nat) (vs : List Nat), f = .int .i64 (fr : Nat) ∧ i = .int .i64 (j : Nat) ∧ j ≤ l.length + 1 ∧ vs.length ≤ j ∧ Hid (RdInv d l fr j vs) ∧ Hid (OwnU w.heap.size wr o vs) ∧ Hid (Below w.heap.size w wr)) (fun _ _ i _ => l.length + 1 - (intOf i).toNat)
  case atStart => exact ⟨0, 0, [], rfl, rfl, by omega, by simp, HI0, Lib.hid (OwnU.nil _ _), Lib.hid (Below.refl _ _)⟩
  case round =>
   clear HI0
   obtain ⟨fr, j, vs, rfl, rfl, hj1, hvj, hI, hO, hB⟩ := hrel
   by_cases hlt : j < l.length
   ·have hle' : (j : Int) ≤ (l.length : Int) := by omega
    have hlt' : (j : Int) < (l.length : Int) := by omega
    have hsp : j < (⟨l.toArray⟩ : ByteArray).size := by rw [hsz]; exact hlt
    have hch : (⟨l.toArray⟩ : ByteArray)[j]'hsp = l[j] := rfl
    have hnx := hI.out.next hlt
    have hpt := hI.out.part hlt
    have HNX := Lib.hid hnx
    have HPT := Lib.hid hpt
    clear hnx hpt hI
    generalize l[j] = c at *
    have hcn := c.toNat_lt
    by_cases hc : c = 58
    ·subst hc
     obtain ⟨hfj, hsome, hnone⟩ := HPT.out rfl
     have hfj' : (fr : Int) ≤ (j : Int) := by omega
     have hneq : ¬ (j : Int) = (l.length : Int) := by omega
     have hnb : ((j : Int) == (l.length : Int)) = false := by rw [beq_eq_false_iff_ne]; exact hneq
     have hpl : ((l.take j).drop fr).length ≤ 2000000 := by simp; omega
     have hP := rparse4_t ((l.take j).drop fr) hpl
     have hG := group_t ((l.take j).drop fr) hpl
     rw [← ext_l6] at hP hG
     have HS := Lib.hid hsome
     have HN := Lib.hid hnone
     have HP := Lib.hid hP
     have HG := Lib.hid hG
     have HM := Lib.hid (mach_part ((l.take j).drop fr))
     clear hsome hnone hP hG hpl HNX HPT
     generalize (l.take j).drop fr = p at *
     go_wp2_with fail
     refine (HP.out _).mono ?_
     rintro e w1 ⟨rfl, rfl⟩
     rcases HM.out with ⟨av, hm, _, _⟩ | ⟨hm, _⟩
     ·cases d
      all_goals
       rw [hm]
       unfold rp
       dsimp only
       clear HP HM
       go_wp2_with fail
       refine (HG.out _).mono ?_
       rintro e w1 ⟨hg, rfl⟩
       clear HG hm
       cases hgv : grpV p with
       | none =>
        rw [hgv] at hg
        obtain ⟨x, rfl⟩ := hg
        have HR := Lib.hid (HN.out hgv)
        clear hgv HN HS
        go_wp2
        go_ret2
        exact ⟨by rw [HR.out]; rfl, hB.out⟩
       | some v =>
        rw [hgv] at hg
        obtain rfl : e = .returned (.tuple #[.int .u16 v, .bool true]) := hg
        have HR := Lib.hid (HS.out v hgv)
        clear hgv HN HS
        have R1 := Row.new wr #[.int .u16 (v : Int)] 106
        have hbn : Below wr.heap.size wr (wr.alloc (.cells #[.int .u16 (v : Int)] 106)) := (Below.refl _ _).alloc (Nat.le_refl _) _
        obtain ⟨v', w2, hrun, hown, hgrow⟩ := appU_run (m := [v]) 112 (hO.out.later hbn) wr.heap.size 1 (fun j x hx => by
         rcases j with _ | j
         ·cases hx; exact (R1.cell 0).trans rfl
         ·simp at hx) (by simp; omega) (Nat.le_trans hB.out.size hbn.size)
        have hb2 := (below_step hB.out hbn).grown hgrow (Nat.le_trans hB.out.size hbn.size) (fun k hk => ((hO.out.later hbn).block _ hk).1)
        have HOW := Lib.hid hown
        have HB2 := Lib.hid hb2
        clear R1 hbn hgrow hown hb2
        have HRUN := Lib.hid hrun
        clear hrun
        have tok : True := trivial
        go_wp2_with (have _t := tok; at_builtin; refine wpList_appU rfl (.tmp 72) (.tmp 74) 112 rfl rfl rfl HRUN.out ?_; clear tok HRUN)
        exact ⟨⟨j + 1, j + 1, vs ++ [v], by go_num, by go_num, by omega, by simp; omega, HR, HOW, HB2⟩, by simp [intOf]; omega⟩
     all_goals
      rw [hm]
      unfold rp
      dsimp only
      clear HP HM
      go_wp2_with fail
      refine (HG.out _).mono ?_
      rintro e w1 ⟨hg, rfl⟩
      clear HG hm
      cases hgv : grpV p with
      | none =>
       rw [hgv] at hg
       obtain ⟨x, rfl⟩ := hg
       have HR := Lib.hid (HN.out hgv)
       clear hgv HN HS
       go_wp2
       go_ret2
       exact ⟨by rw [HR.out]; rfl, hB.out⟩
      | some v =>
       rw [hgv] at hg
       obtain rfl : e = .returned (.tuple #[.int .u16 v, .bool true]) := hg
       have HR := Lib.hid (HS.out v hgv)
       clear hgv HN HS
       have R1 := Row.new wr #[.int .u16 (v : Int)] 106
       have hbn : Below wr.heap.size wr (wr.alloc (.cells #[.int .u16 (v : Int)] 106)) := (Below.refl _ _).alloc (Nat.le_refl _) _
       obtain ⟨v', w2, hrun, hown, hgrow⟩ := appU_run (m := [v]) 112 (hO.out.later hbn) wr.heap.size 1 (fun j x hx => by
        rcases j with _ | j
        ·cases hx; exact (R1.cell 0).trans rfl
        ·simp at hx) (by simp; omega) (Nat.le_trans hB.out.size hbn.size)
       have hb2 := (below_step hB.out hbn).grown hgrow (Nat.le_trans hB.out.size hbn.size) (fun k hk => ((hO.out.later hbn).block _ hk).1)
       have HOW := Lib.hid hown
       have HB2 := Lib.hid hb2
       clear R1 hbn hgrow hown hb2
       have HRUN := Lib.hid hrun
       clear hrun
       have tok : True := trivial
       go_wp2_with (have _t := tok; at_builtin; refine wpList_appU rfl (.tmp 72) (.tmp 74) 112 rfl rfl rfl HRUN.out ?_; clear tok HRUN)
       exact ⟨⟨j + 1, j + 1, vs ++ [v], by go_num, by go_num, by omega, by simp; omega, HR, HOW, HB2⟩, by simp [intOf]; omega⟩
    ·have e1 : ¬ (c.toNat : Int) = 58 := fun h => hc (UInt8.toNat_inj.1 (by show c.toNat = 58; omega))
     have e2 : ((c.toNat : Int) == 58) = false := by rw [beq_eq_false_iff_ne]; exact e1
     have e3 : ((c.toNat : Int) != 58) = true := by simpa using e1
     have HN := Lib.hid (HNX.out hc)
     clear HNX HPT hc
     go_wp2
     exact ⟨⟨fr, j + 1, vs, rfl, by go_num, by omega, by omega, HN, hO, hB⟩, by simp [intOf]; omega⟩
   ·by_cases hend : j = l.length
    ·subst hend
     have hle' : (l.length : Int) ≤ (l.length : Int) := by omega
     obtain ⟨hfj, hlast⟩ := hI.out.last
     have hfj' : (fr : Int) ≤ (l.length : Int) := by omega
     have hpl : ((l.take l.length).drop fr).length ≤ 2000000 := by simp; omega
     have hP := rparse4_t ((l.take l.length).drop fr) hpl
     have hG := group_t ((l.take l.length).drop fr) hpl
     rw [← ext_l6] at hP hG
     have HP := Lib.hid hP
     have HG := Lib.hid hG
     have HL := Lib.hid hlast
     have HM := Lib.hid (mach_part ((l.take l.length).drop fr))
     clear hP hG hpl hlast hI
     generalize (l.take l.length).drop fr = p at *
     go_wp2_with fail
     refine (HP.out _).mono ?_
     rintro e w1 ⟨rfl, rfl⟩
     rcases HM.out with ⟨av, hm, hp4, hav⟩ | ⟨hm, hp4⟩
     ·cases d
      ·have HL2 : Hid (seqV false (splitC l) = ((grpV p).map fun v => [v]).map fun us => vs ++ us) := Lib.hid (by rw [HL.out]; unfold lastV; rw [if_neg (by simp)])
       clear HL hp4
       rw [hm]
       unfold rp
       dsimp only
       clear HP HM
       go_wp2_with fail
       refine (HG.out _).mono ?_
       rintro e w1 ⟨hg, rfl⟩
       clear HG hm
       cases hgv : grpV p with
       | none =>
        rw [hgv] at hg
        obtain ⟨x, rfl⟩ := hg
        have HR := Lib.hid (HL2.out.trans (by first | (rw [hgv]; done) | (rw [hgv]; rfl)))
        clear hgv HL2
        go_wp2
        go_ret2
        exact ⟨by rw [HR.out]; rfl, hB.out⟩
       | some v =>
        rw [hgv] at hg
        obtain rfl : e = .returned (.tuple #[.int .u16 v, .bool true]) := hg
        have HR := Lib.hid (HL2.out.trans (by rw [hgv]; rfl : _ = some (vs ++ [v])))
        clear hgv HL2
        have R1 := Row.new wr #[.int .u16 (v : Int)] 106
        have hbn : Below wr.heap.size wr (wr.alloc (.cells #[.int .u16 (v : Int)] 106)) := (Below.refl _ _).alloc (Nat.le_refl _) _
        obtain ⟨v', w2, hrun, hown, hgrow⟩ := appU_run (m := [v]) 112 (hO.out.later hbn) wr.heap.size 1 (fun j x hx => by
         rcases j with _ | j
         ·cases hx; exact (R1.cell 0).trans rfl
         ·simp at hx) (by simp; omega) (Nat.le_trans hB.out.size hbn.size)
        have hb2 := (below_step hB.out hbn).grown hgrow (Nat.le_trans hB.out.size hbn.size) (fun k hk => ((hO.out.later hbn).block _ hk).1)
        have HOW := Lib.hid hown
        have HB2 := Lib.hid hb2
        clear R1 hbn hgrow hown hb2
        have HRUN := Lib.hid hrun
        clear hrun
        have tok : True := trivial
        go_wp2_with (have _t := tok; at_builtin; refine wpList_appU rfl (.tmp 72) (.tmp 74) 112 rfl rfl rfl HRUN.out ?_; clear tok HRUN)
        exact ⟨⟨l.length + 1, l.length + 1, vs ++ [v], by go_num, by go_num, by omega, by simp; omega, Lib.hid (.inr ⟨rfl, HR.out⟩), HOW, HB2⟩, by simp [intOf]⟩
      ·have HL2 : Hid (seqV true (splitC l) = some (vs ++ [av / 65536, av % 65536])) := Lib.hid (by rw [HL.out]; unfold lastV; rw [hp4, if_pos ⟨rfl, rfl⟩]; simp)
       rw [hm]
       unfold rp
       dsimp only
       clear HL hp4 HP HM HG hm
       have a0 : 0 ≤ (av : Int) := by omega
       have a1 : (av : Int) < 4294967296 := by omega
       have q1 : IntKind.u16.wrap ((av : Int) / 65536) = (av : Int) / 65536 := by simp [IntKind.wrap, IntKind.bits, IntKind.signed]; omega
       have q2 : IntKind.u16.wrap ((av : Int) % 65536) = (av : Int) % 65536 := by simp [IntKind.wrap, IntKind.bits, IntKind.signed]
       have R1 := Row.new wr #[.int .u16 ((av : Int) / 65536), .int .u16 ((av : Int) % 65536)] 106
       have hbn : Below wr.heap.size wr (wr.alloc (.cells #[.int .u16 ((av : Int) / 65536), .int .u16 ((av : Int) % 65536)] 106)) := (Below.refl _ _).alloc (Nat.le_refl _) _
       obtain ⟨v', w2, hrun, hown, hgrow⟩ := appU_run (m := [av / 65536, av % 65536]) 112 (hO.out.later hbn) wr.heap.size 2 (fun j x hx => by
        rcases j with _ | _ | j
        ·cases hx; exact (R1.cell 0).trans (congrArg (fun z => some (Value.int .u16 z)) (by omega))
        ·cases hx; exact (R1.cell 1).trans (congrArg (fun z => some (Value.int .u16 z)) (by omega))
        ·simp at hx) (by simp; omega) (Nat.le_trans hB.out.size hbn.size)
       have hb2 := (below_step hB.out hbn).grown hgrow (Nat.le_trans hB.out.size hbn.size) (fun k hk => ((hO.out.later hbn).block _ hk).1)
       have HOW := Lib.hid hown
       have HB2 := Lib.hid hb2
       clear R1 hbn hgrow hown hb2
       have HRUN := Lib.hid hrun
       clear hrun
       have tok : True := trivial
       go_wp2_with (have _t := tok; at_builtin; refine wpList_appU rfl (.tmp 56) (.tmp 63) 112 rfl rfl rfl HRUN.out ?_; clear tok HRUN)
       go_ret2
       exact ⟨by rw [HL2.out]; exact ⟨_, rfl, HOW.out⟩, HB2.out⟩
     ·have HL2 : Hid (seqV d (splitC l) = ((grpV p).map fun v => [v]).map fun us => vs ++ us) := Lib.hid (by rw [HL.out]; unfold lastV; rw [if_neg (by rw [hp4]; simp)])
      clear HL hp4
      rw [hm]
      unfold rp
      dsimp only
      clear HP HM
      go_wp2_with fail
      refine (HG.out _).mono ?_
      rintro e w1 ⟨hg, rfl⟩
      clear HG hm
      cases hgv : grpV p with
      | none =>
       rw [hgv] at hg
       obtain ⟨x, rfl⟩ := hg
       have HR := Lib.hid (HL2.out.trans (by first | (rw [hgv]; done) | (rw [hgv]; rfl)))
       clear hgv HL2
       go_wp2
       go_ret2
       exact ⟨by rw [HR.out]; rfl, hB.out⟩
      | some v =>
       rw [hgv] at hg
       obtain rfl : e = .returned (.tuple #[.int .u16 v, .bool true]) := hg
       have HR := Lib.hid (HL2.out.trans (by rw [hgv]; rfl : _ = some (vs ++ [v])))
       clear hgv HL2
       have R1 := Row.new wr #[.int .u16 (v : Int)] 106
       have hbn : Below wr.heap.size wr (wr.alloc (.cells #[.int .u16 (v : Int)] 106)) := (Below.refl _ _).alloc (Nat.le_refl _) _
       obtain ⟨v', w2, hrun, hown, hgrow⟩ := appU_run (m := [v]) 112 (hO.out.later hbn) wr.heap.size 1 (fun j x hx => by
        rcases j with _ | j
        ·cases hx; exact (R1.cell 0).trans rfl
        ·simp at hx) (by simp; omega) (Nat.le_trans hB.out.size hbn.size)
       have hb2 := (below_step hB.out hbn).grown hgrow (Nat.le_trans hB.out.size hbn.size) (fun k hk => ((hO.out.later hbn).block _ hk).1)
       have HOW := Lib.hid hown
       have HB2 := Lib.hid hb2
       clear R1 hbn hgrow hown hb2
       have HRUN := Lib.hid hrun
       clear hrun
       have tok : True := trivial
       go_wp2_with (have _t := tok; at_builtin; refine wpList_appU rfl (.tmp 72) (.tmp 74) 112 rfl rfl rfl HRUN.out ?_; clear tok HRUN)
       exact ⟨⟨l.length + 1, l.length + 1, vs ++ [v], by go_num, by go_num, by omega, by simp; omega, Lib.hid (.inr ⟨rfl, HR.out⟩), HOW, HB2⟩, by simp [intOf]⟩
    ·have hj2 : j = l.length + 1 := by omega
     have hres : seqV d (splitC l) = some vs := by
      rcases hI.out with ⟨_, h, _⟩ | ⟨_, h⟩
      ·omega
      ·exact h
     have HR := Lib.hid hres
     have hgt : ¬ (j : Int) ≤ (l.length : Int) := by omega
     have hgt2 : (l.length : Int) < (j : Int) := by omega
     clear hres hI hj2 hend
     go_wp2
     go_ret2
     exact ⟨by rw [HR.out]; exact ⟨_, rfl, hO.out⟩, hB.out⟩
def sh4 (f : Nat → Int) (i : Nat) : Int := f (4 + i)
theorem ofN_half (f : Nat → Int) (hf : ∀ k, 0 ≤ f k ∧ f k ≤ 65535) : hi (ofN f 8) = ofN f 4 ∧ lo (ofN f 8) = ofN (sh4 f) 4 := by
 have h4 := ofN_range f hf 4
 have k4 := ofN_range (sh4 f) (fun k => hf (4 + k)) 4
 rw [show (65536 : Int) ^ 4 = 18446744073709551616 from rfl] at h4 k4
 have e : ofN f 8 = 18446744073709551616 * ofN f 4 + ofN (sh4 f) 4 := by
  have o4 : ofN f 5 = 65536 * ofN f 4 + f 4 := rfl
  have o5 : ofN f 6 = 65536 * ofN f 5 + f 5 := rfl
  have o6 : ofN f 7 = 65536 * ofN f 6 + f 6 := rfl
  have o7 : ofN f 8 = 65536 * ofN f 7 + f 7 := rfl
  have s0 : ofN (sh4 f) 1 = 65536 * ofN (sh4 f) 0 + f 4 := rfl
  have s1 : ofN (sh4 f) 2 = 65536 * ofN (sh4 f) 1 + f 5 := rfl
  have s2 : ofN (sh4 f) 3 = 65536 * ofN (sh4 f) 2 + f 6 := rfl
  have s3 : ofN (sh4 f) 4 = 65536 * ofN (sh4 f) 3 + f 7 := rfl
  have s : ofN (sh4 f) 0 = 0 := rfl
  omega
 unfold hi lo
 omega
theorem rof_t (f : Nat → Int) (hf : ∀ k, 0 ≤ f k ∧ f k ≤ 65535) (w : World) : Calls Tryz.prog 107 #[arr8 f] w fun e w' => e = .returned (.agg #[.int .u64 (hi (ofN f 8)), .int .u64 (lo (ofN f 8))]) ∧ Below w.heap.size w w' := by
 rw [(ofN_half f hf).1, (ofN_half f hf).2]
 unfold arr8
 go_enter Tryz.func107, Tryz.ntmps107
 go_wp2_with fail
 have Rg0 : Row (((w.alloc (.cells #[.int .u16 (f 0), .int .u16 (f 1), .int .u16 (f 2), .int .u16 (f 3), .int .u16 (f 4), .int .u16 (f 5), .int .u16 (f 6), .int .u16 (f 7)] 107)).alloc (.cells #[.int .u64 0, .int .u64 0] 75)).alloc (.cells #[.int .u64 0, .int .u64 0] 75)) w.heap.size #[.int .u16 (f 0), .int .u16 (f 1), .int .u16 (f 2), .int .u16 (f 3), .int .u16 (f 4), .int .u16 (f 5), .int .u16 (f 6), .int .u16 (f 7)] 107 := ((Row.new w _ _).alloc _).alloc _
 have Rr0 : Row (((w.alloc (.cells #[.int .u16 (f 0), .int .u16 (f 1), .int .u16 (f 2), .int .u16 (f 3), .int .u16 (f 4), .int .u16 (f 5), .int .u16 (f 6), .int .u16 (f 7)] 107)).alloc (.cells #[.int .u64 0, .int .u64 0] 75)).alloc (.cells #[.int .u64 0, .int .u64 0] 75)) (w.heap.size + 1) #[.int .u64 0, .int .u64 0] 75 := by simpa using (Row.new (w.alloc (.cells #[.int .u16 (f 0), .int .u16 (f 1), .int .u16 (f 2), .int .u16 (f 3), .int .u16 (f 4), .int .u16 (f 5), .int .u16 (f 6), .int .u16 (f 7)] 107)) #[.int .u64 0, .int .u64 0] 75).alloc (.cells #[.int .u64 0, .int .u64 0] 75)
 have Ra0 : Row (((w.alloc (.cells #[.int .u16 (f 0), .int .u16 (f 1), .int .u16 (f 2), .int .u16 (f 3), .int .u16 (f 4), .int .u16 (f 5), .int .u16 (f 6), .int .u16 (f 7)] 107)).alloc (.cells #[.int .u64 0, .int .u64 0] 75)).alloc (.cells #[.int .u64 0, .int .u64 0] 75)) (w.heap.size + 2) #[.int .u64 (ofN f 0), .int .u64 (ofN (sh4 f) 0)] 75 := by
  have h := Row.new ((w.alloc (.cells #[.int .u16 (f 0), .int .u16 (f 1), .int .u16 (f 2), .int .u16 (f 3), .int .u16 (f 4), .int .u16 (f 5), .int .u16 (f 6), .int .u16 (f 7)] 107)).alloc (.cells #[.int .u64 0, .int .u64 0] 75)) #[.int .u64 0, .int .u64 0] 75
  rw [show ((w.alloc (.cells #[.int .u16 (f 0), .int .u16 (f 1), .int .u16 (f 2), .int .u16 (f 3), .int .u16 (f 4), .int .u16 (f 5), .int .u16 (f 6), .int .u16 (f 7)] 107)).alloc (.cells #[.int .u64 0, .int .u64 0] 75)).heap.size = w.heap.size + 2 by simp] at h
  exact h
 have hb0 : Below w.heap.size w (((w.alloc (.cells #[.int .u16 (f 0), .int .u16 (f 1), .int .u16 (f 2), .int .u16 (f 3), .int .u16 (f 4), .int .u16 (f 5), .int .u16 (f 6), .int .u16 (f 7)] 107)).alloc (.cells #[.int .u64 0, .int .u64 0] 75)).alloc (.cells #[.int .u64 0, .int .u64 0] 75)) := (by repeat (first | exact Below.refl _ _ | assumption | (with_reducible refine Below.drew ?_) | ((with_reducible first | refine Below.setCell ?_ ?h _ | refine Below.alloc ?_ ?h _ | refine Below.trans ?_ (hb.mono ?h) | refine Below.trans ?_ (hb0.mono ?h)); case h => first | omega | (simp; done) | (simp; omega))))
 generalize ((w.alloc (.cells #[.int .u16 (f 0), .int .u16 (f 1), .int .u16 (f 2), .int .u16 (f 3), .int .u16 (f 4), .int .u16 (f 5), .int .u16 (f 6), .int .u16 (f 7)] 107)).alloc (.cells #[.int .u64 0, .int .u64 0] 75)).alloc (.cells #[.int .u64 0, .int .u64 0] 75) = w0 at *
 go_loopw [4] (fun i wr => ∃ (j : Nat), j ≤ 4 ∧ i = .int .i64 j ∧ Row wr w.heap.size #[.int .u16 (f 0), .int .u16 (f 1), .int .u16 (f 2), .int .u16 (f 3), .int .u16 (f 4), .int .u16 (f 5), .int .u16 (f 6), .int .u16 (f 7)] 107 ∧ Row wr (w.heap.size + 1) #[.int .u64 0, .int .u64 0] 75 ∧ Row wr (w.heap.size + 2) #[.int .u64 (ofN f j), .int .u64 (ofN (sh4 f) j)] 75 ∧ Below w.heap.size w wr) (fun i _ => 4 - (intOf i).toNat)
 case atStart => exact ⟨0, by omega, rfl, Rg0, Rr0, Ra0, hb0⟩
 case round =>
  clear Rg0 Rr0 Ra0 hb0
  obtain ⟨j, hj, rfl, Rg, Rr, Ra, hb⟩ := hrel
  rcases j with _ | _ | _ | _ | _ | j
  ·replace Ra : Row wr (w.heap.size + 2) #[.int .u64 (ofN f 0), .int .u64 (ofN (sh4 f) 0)] 75 := Ra
   have x0 := (Ra.cell 0).trans (show _ = some (Value.int .u64 (ofN f 0)) from rfl)
   have x1 := (Ra.cell 1).trans (show _ = some (Value.int .u64 (ofN (sh4 f) 0)) from rfl)
   have xf0 := Ra.frozen 0
   have xf1 := Ra.frozen 1
   have g0 := (Rg.cell 0).trans (show _ = some (Value.int .u16 (f 0)) from rfl)
   have g1 := (Rg.cell 4).trans (show _ = some (Value.int .u16 (f 4)) from rfl)
   have HX1 : Hid (ofN f 1 = 65536 * ofN f 0 + f 0) := Lib.hid rfl
   have HY1 : Hid (ofN (sh4 f) 1 = 65536 * ofN (sh4 f) 0 + f 4) := Lib.hid rfl
   have rx := ofN_range f hf 0
   have ry := ofN_range (sh4 f) (fun k => hf (4 + k)) 0
   have y0 := hf 0
   have y1 := hf 4
   rw [show (65536 : Int) ^ 0 = 1 from rfl] at rx ry
   have HG := Lib.hid Rg
   have HR := Lib.hid Rr
   have HA := Lib.hid Ra
   have HB := Lib.hid hb
   have HF := Lib.hid hf
   clear Rg Rr Ra hb hf
   generalize ofN f 0 = x at *
   generalize ofN (sh4 f) 0 = y at *
   generalize f 0 = u at *
   generalize f 4 = v at *
   have wx : IntKind.u64.wrap (65536 * x) = 65536 * x := by simp [IntKind.wrap, IntKind.bits, IntKind.signed]; omega
   have wy : IntKind.u64.wrap (65536 * y) = 65536 * y := by simp [IntKind.wrap, IntKind.bits, IntKind.signed]; omega
   have wu : IntKind.u64.wrap u = u := by simp [IntKind.wrap, IntKind.bits, IntKind.signed]; omega
   have wv : IntKind.u64.wrap v = v := by simp [IntKind.wrap, IntKind.bits, IntKind.signed]; omega
   have wxu : IntKind.u64.wrap (65536 * x + u) = 65536 * x + u := by simp [IntKind.wrap, IntKind.bits, IntKind.signed]; omega
   have wyv : IntKind.u64.wrap (65536 * y + v) = 65536 * y + v := by simp [IntKind.wrap, IntKind.bits, IntKind.signed]; omega
   go_wp2_with fail
   go_region
   go_wp2
   refine ⟨⟨1, by omega, by go_num, ((HG.out.set_far _ _ (by dsimp only; omega)).set_far _ _ (by dsimp only; omega)).drew, ((HR.out.set_far _ _ (by dsimp only; omega)).set_far _ _ (by dsimp only; omega)).drew, ?_, ((HB.out.setCell (by dsimp only; omega) _).setCell (by dsimp only; omega) _).drew⟩, by simp [intOf]⟩
   have h := ((HA.out.set 0 (.int .u64 (65536 * x + u))).set 1 (.int .u64 (65536 * y + v))).drew
   show Row _ _ #[.int .u64 (ofN f 1), .int .u64 (ofN (sh4 f) 1)] _
   rw [HX1.out, HY1.out]
   simpa using h
  ·replace Ra : Row wr (w.heap.size + 2) #[.int .u64 (ofN f 1), .int .u64 (ofN (sh4 f) 1)] 75 := Ra
   have x0 := (Ra.cell 0).trans (show _ = some (Value.int .u64 (ofN f 1)) from rfl)
   have x1 := (Ra.cell 1).trans (show _ = some (Value.int .u64 (ofN (sh4 f) 1)) from rfl)
   have xf0 := Ra.frozen 0
   have xf1 := Ra.frozen 1
   have g0 := (Rg.cell 1).trans (show _ = some (Value.int .u16 (f 1)) from rfl)
   have g1 := (Rg.cell 5).trans (show _ = some (Value.int .u16 (f 5)) from rfl)
   have HX1 : Hid (ofN f 2 = 65536 * ofN f 1 + f 1) := Lib.hid rfl
   have HY1 : Hid (ofN (sh4 f) 2 = 65536 * ofN (sh4 f) 1 + f 5) := Lib.hid rfl
   have rx := ofN_range f hf 1
   have ry := ofN_range (sh4 f) (fun k => hf (4 + k)) 1
   have y0 := hf 1
   have y1 := hf 5
   rw [show (65536 : Int) ^ 1 = 65536 from rfl] at rx ry
   have HG := Lib.hid Rg
   have HR := Lib.hid Rr
   have HA := Lib.hid Ra
   have HB := Lib.hid hb
   have HF := Lib.hid hf
   clear Rg Rr Ra hb hf
   generalize ofN f 1 = x at *
   generalize ofN (sh4 f) 1 = y at *
   generalize f 1 = u at *
   generalize f 5 = v at *
   have wx : IntKind.u64.wrap (65536 * x) = 65536 * x := by simp [IntKind.wrap, IntKind.bits, IntKind.signed]; omega
   have wy : IntKind.u64.wrap (65536 * y) = 65536 * y := by simp [IntKind.wrap, IntKind.bits, IntKind.signed]; omega
   have wu : IntKind.u64.wrap u = u := by simp [IntKind.wrap, IntKind.bits, IntKind.signed]; omega
   have wv : IntKind.u64.wrap v = v := by simp [IntKind.wrap, IntKind.bits, IntKind.signed]; omega
   have wxu : IntKind.u64.wrap (65536 * x + u) = 65536 * x + u := by simp [IntKind.wrap, IntKind.bits, IntKind.signed]; omega
   have wyv : IntKind.u64.wrap (65536 * y + v) = 65536 * y + v := by simp [IntKind.wrap, IntKind.bits, IntKind.signed]; omega
   go_wp2_with fail
   go_region
   go_wp2
   refine ⟨⟨2, by omega, by go_num, ((HG.out.set_far _ _ (by dsimp only; omega)).set_far _ _ (by dsimp only; omega)).drew, ((HR.out.set_far _ _ (by dsimp only; omega)).set_far _ _ (by dsimp only; omega)).drew, ?_, ((HB.out.setCell (by dsimp only; omega) _).setCell (by dsimp only; omega) _).drew⟩, by simp [intOf]⟩
   have h := ((HA.out.set 0 (.int .u64 (65536 * x + u))).set 1 (.int .u64 (65536 * y + v))).drew
   show Row _ _ #[.int .u64 (ofN f 2), .int .u64 (ofN (sh4 f) 2)] _
   rw [HX1.out, HY1.out]
   simpa using h
  ·replace Ra : Row wr (w.heap.size + 2) #[.int .u64 (ofN f 2), .int .u64 (ofN (sh4 f) 2)] 75 := Ra
   have x0 := (Ra.cell 0).trans (show _ = some (Value.int .u64 (ofN f 2)) from rfl)
   have x1 := (Ra.cell 1).trans (show _ = some (Value.int .u64 (ofN (sh4 f) 2)) from rfl)
   have xf0 := Ra.frozen 0
   have xf1 := Ra.frozen 1
   have g0 := (Rg.cell 2).trans (show _ = some (Value.int .u16 (f 2)) from rfl)
   have g1 := (Rg.cell 6).trans (show _ = some (Value.int .u16 (f 6)) from rfl)
   have HX1 : Hid (ofN f 3 = 65536 * ofN f 2 + f 2) := Lib.hid rfl
   have HY1 : Hid (ofN (sh4 f) 3 = 65536 * ofN (sh4 f) 2 + f 6) := Lib.hid rfl
   have rx := ofN_range f hf 2
   have ry := ofN_range (sh4 f) (fun k => hf (4 + k)) 2
   have y0 := hf 2
   have y1 := hf 6
   rw [show (65536 : Int) ^ 2 = 4294967296 from rfl] at rx ry
   have HG := Lib.hid Rg
   have HR := Lib.hid Rr
   have HA := Lib.hid Ra
   have HB := Lib.hid hb
   have HF := Lib.hid hf
   clear Rg Rr Ra hb hf
   generalize ofN f 2 = x at *
   generalize ofN (sh4 f) 2 = y at *
   generalize f 2 = u at *
   generalize f 6 = v at *
   have wx : IntKind.u64.wrap (65536 * x) = 65536 * x := by simp [IntKind.wrap, IntKind.bits, IntKind.signed]; omega
   have wy : IntKind.u64.wrap (65536 * y) = 65536 * y := by simp [IntKind.wrap, IntKind.bits, IntKind.signed]; omega
   have wu : IntKind.u64.wrap u = u := by simp [IntKind.wrap, IntKind.bits, IntKind.signed]; omega
   have wv : IntKind.u64.wrap v = v := by simp [IntKind.wrap, IntKind.bits, IntKind.signed]; omega
   have wxu : IntKind.u64.wrap (65536 * x + u) = 65536 * x + u := by simp [IntKind.wrap, IntKind.bits, IntKind.signed]; omega
   have wyv : IntKind.u64.wrap (65536 * y + v) = 65536 * y + v := by simp [IntKind.wrap, IntKind.bits, IntKind.signed]; omega
   go_wp2_with fail
   go_region
   go_wp2
   refine ⟨⟨3, by omega, by go_num, ((HG.out.set_far _ _ (by dsimp only; omega)).set_far _ _ (by dsimp only; omega)).drew, ((HR.out.set_far _ _ (by dsimp only; omega)).set_far _ _ (by dsimp only; omega)).drew, ?_, ((HB.out.setCell (by dsimp only; omega) _).setCell (by dsimp only; omega) _).drew⟩, by simp [intOf]⟩
   have h := ((HA.out.set 0 (.int .u64 (65536 * x + u))).set 1 (.int .u64 (65536 * y + v))).drew
   show Row _ _ #[.int .u64 (ofN f 3), .int .u64 (ofN (sh4 f) 3)] _
   rw [HX1.out, HY1.out]
   simpa using h
  ·replace Ra : Row wr (w.heap.size + 2) #[.int .u64 (ofN f 3), .int .u64 (ofN (sh4 f) 3)] 75 := Ra
   have x0 := (Ra.cell 0).trans (show _ = some (Value.int .u64 (ofN f 3)) from rfl)
   have x1 := (Ra.cell 1).trans (show _ = some (Value.int .u64 (ofN (sh4 f) 3)) from rfl)
   have xf0 := Ra.frozen 0
   have xf1 := Ra.frozen 1
   have g0 := (Rg.cell 3).trans (show _ = some (Value.int .u16 (f 3)) from rfl)
   have g1 := (Rg.cell 7).trans (show _ = some (Value.int .u16 (f 7)) from rfl)
   have HX1 : Hid (ofN f 4 = 65536 * ofN f 3 + f 3) := Lib.hid rfl
   have HY1 : Hid (ofN (sh4 f) 4 = 65536 * ofN (sh4 f) 3 + f 7) := Lib.hid rfl
   have rx := ofN_range f hf 3
   have ry := ofN_range (sh4 f) (fun k => hf (4 + k)) 3
   have y0 := hf 3
   have y1 := hf 7
   rw [show (65536 : Int) ^ 3 = 281474976710656 from rfl] at rx ry
   have HG := Lib.hid Rg
   have HR := Lib.hid Rr
   have HA := Lib.hid Ra
   have HB := Lib.hid hb
   have HF := Lib.hid hf
   clear Rg Rr Ra hb hf
   generalize ofN f 3 = x at *
   generalize ofN (sh4 f) 3 = y at *
   generalize f 3 = u at *
   generalize f 7 = v at *
   have wx : IntKind.u64.wrap (65536 * x) = 65536 * x := by simp [IntKind.wrap, IntKind.bits, IntKind.signed]; omega
   have wy : IntKind.u64.wrap (65536 * y) = 65536 * y := by simp [IntKind.wrap, IntKind.bits, IntKind.signed]; omega
   have wu : IntKind.u64.wrap u = u := by simp [IntKind.wrap, IntKind.bits, IntKind.signed]; omega
   have wv : IntKind.u64.wrap v = v := by simp [IntKind.wrap, IntKind.bits, IntKind.signed]; omega
   have wxu : IntKind.u64.wrap (65536 * x + u) = 65536 * x + u := by simp [IntKind.wrap, IntKind.bits, IntKind.signed]; omega
   have wyv : IntKind.u64.wrap (65536 * y + v) = 65536 * y + v := by simp [IntKind.wrap, IntKind.bits, IntKind.signed]; omega
   go_wp2_with fail
   go_region
   go_wp2
   refine ⟨⟨4, by omega, by go_num, ((HG.out.set_far _ _ (by dsimp only; omega)).set_far _ _ (by dsimp only; omega)).drew, ((HR.out.set_far _ _ (by dsimp only; omega)).set_far _ _ (by dsimp only; omega)).drew, ?_, ((HB.out.setCell (by dsimp only; omega) _).setCell (by dsimp only; omega) _).drew⟩, by simp [intOf]⟩
   have h := ((HA.out.set 0 (.int .u64 (65536 * x + u))).set 1 (.int .u64 (65536 * y + v))).drew
   show Row _ _ #[.int .u64 (ofN f 4), .int .u64 (ofN (sh4 f) 4)] _
   rw [HX1.out, HY1.out]
   simpa using h
  ·replace Ra : Row wr (w.heap.size + 2) #[.int .u64 (ofN f 4), .int .u64 (ofN (sh4 f) 4)] 75 := Ra
   have x0 := (Ra.cell 0).trans (show _ = some (Value.int .u64 (ofN f 4)) from rfl)
   have x1 := (Ra.cell 1).trans (show _ = some (Value.int .u64 (ofN (sh4 f) 4)) from rfl)
   have r0 := (Rr.cell 0).trans (show _ = some (Value.int .u64 0) from rfl)
   have r1 := (Rr.cell 1).trans (show _ = some (Value.int .u64 0) from rfl)
   have f0 := Rr.frozen 0
   have f1 := Rr.frozen 1
   have HR := Lib.hid Rr
   have HB := Lib.hid hb
   clear Rg Rr Ra hb hf
   generalize hx4 : ofN f 4 = x at *
   generalize hy4 : ofN (sh4 f) 4 = y at *
   have HX4 := Lib.hid hx4
   have HY4 := Lib.hid hy4
   clear hx4 hy4
   go_wp2
   have Q := (HR.out.set 0 (.int .u64 x)).set 1 (.int .u64 y)
   have s0 := (Q.cell 0).trans (show _ = some (Value.int .u64 x) from rfl)
   have s1 := (Q.cell 1).trans (show _ = some (Value.int .u64 y) from rfl)
   clear r0 r1
   exact bodyPost_ret (v := .agg #[.int .u64 x, .int .u64 y]) (by simp only [results, Tryz.results107]; simp [go_sem, s0, s1]) rfl ⟨by rw [HX4.out, HY4.out], (HB.out.setCell (p := ⟨w.heap.size + 1, 0, none⟩) (by dsimp only; omega) _).setCell (p := ⟨w.heap.size + 1, 1, none⟩) (by dsimp only; omega) _⟩
  ·omega
def RParPost (o : Option (List Nat)) (w : World) (e : Ending) (w' : World) : Prop := (match o with
 | some gs => e = .returned (.tuple #[.agg #[.int .u64 (hi (ofN (lf gs) 8)), .int .u64 (lo (ofN (lf gs) 8))], .bool true])
 | none => e = .returned (.tuple #[.agg #[.int .u64 0, .int .u64 0], .bool false])) ∧ Below w.heap.size w w'
theorem lf_pad (u : List Nat) (k : Nat) : lf (u ++ List.replicate k 0) = lf u := by
 funext i
 unfold lf
 by_cases h : i < u.length
 ·simp [List.getElem?_append_left h]
 ·rw [List.getD, List.getD, List.getElem?_append_right (by omega), List.getElem?_eq_none (show u.length ≤ i by omega), List.getElem?_replicate]
  split <;> rfl
theorem cellsV_pad (u : List Nat) (k : Nat) : cellsV (u ++ List.replicate k 0 ++ []) = cellsV u := by
 rw [List.append_nil]
 unfold cellsV
 rw [lf_pad]
theorem cellsV_take (v : List Nat) (j : Nat) (h : j < v.length) (h8 : j < 8) : (cellsV (v.take j)).setIfInBounds j (.int .u16 (v[j] : Int)) = cellsV (v.take (j + 1)) := by
 have h1 := cellsV_set (v.take j) v[j] (by rw [List.length_take]; omega)
 rw [show (v.take j).length = j by rw [List.length_take]; omega] at h1
 rw [h1, List.take_add_one, List.getElem?_eq_getElem h]
 rfl
theorem cellsV_more (u v : List Nat) (j : Nat) (hs : u.length + v.length ≤ 7) (h : j < v.length) : (cellsV (u ++ List.replicate (8 - u.length - v.length) 0 ++ v.take j)).setIfInBounds (8 - v.length + j) (.int .u16 (v[j] : Int)) = cellsV (u ++ List.replicate (8 - u.length - v.length) 0 ++ v.take (j + 1)) := by
 have hlen : (u ++ List.replicate (8 - u.length - v.length) 0 ++ v.take j).length = 8 - v.length + j := by simp; omega
 have h1 := cellsV_set (u ++ List.replicate (8 - u.length - v.length) 0 ++ v.take j) v[j] (by rw [hlen]; omega)
 rw [hlen] at h1
 rw [h1, List.take_add_one, List.getElem?_eq_getElem h]
 simp [List.append_assoc]
theorem cc_index (l : List UInt8) : (Lib.index l [58, 58] = -1 ∧ cc l = (l, [], false)) ∨ (∃ k : Nat, Lib.index l [58, 58] = (k : Int) ∧ k + 2 ≤ l.length ∧ cc l = (l.take k, l.drop (k + 2), true)) := by
 have hge := Lib.index_ge l [58, 58]
 by_cases h : 0 ≤ Lib.index l [58, 58]
 ·have hr := Lib.index_room l [58, 58] h
  refine .inr ⟨(Lib.index l [58, 58]).toNat, by omega, by simp at hr; omega, ?_⟩
  unfold cc Lib.cut
  rw [if_pos h]
  rfl
 ·refine .inl ⟨by omega, ?_⟩
  unfold cc Lib.cut
  rw [if_neg h]
theorem splitC_len : ∀ l : List UInt8, (splitC l).length ≤ l.length + 1
 | [] => by simp [splitC]
 | c :: r => by
  have ih := splitC_len r
  rw [splitC]
  split
  ·simp; omega
  ·split
   ·rename_i h t he; rw [he] at ih; simp at ih ⊢; omega
   ·simp
theorem lastV_len {d : Bool} {p : List UInt8} {vs : List Nat} (h : lastV d p = some vs) : vs.length ≤ 2 := by
 unfold lastV at h
 split at h
 ·cases h; simp
 ·cases hg : grpV p with
  | none => rw [hg] at h; cases h
  | some v => rw [hg] at h; cases h; simp
theorem seqV_len (d : Bool) : ∀ (ps : List (List UInt8)) (vs : List Nat), seqV d ps = some vs → vs.length ≤ ps.length + 1
 | [], vs, h => by cases h; simp
 | [p], vs, h => by have := lastV_len h; simp; omega
 | p :: q :: r, vs, h => by
  rw [seqV_cons d p (q :: r) (by simp)] at h
  split at h
  ·rename_i v us h1 h2
   cases h
   have := seqV_len d (q :: r) us h2
   simp at this ⊢
   omega
  ·cases h
theorem readV_len {d : Bool} {l : List UInt8} {vs : List Nat} (h : readV d l = some vs) : vs.length ≤ l.length + 2 := by
 unfold readV at h
 split at h
 ·cases h; simp
 ·have h1 := seqV_len d _ _ h
  have h2 := splitC_len l
  omega
theorem read_use (d : Bool) (l : List UInt8) (hl : l.length ≤ 2000000) (w : World) : Calls Tryz.prog 106 #[.string ⟨l.toArray⟩, .bool d] w fun e w' => (match readV d l with
  | some vs => ∃ p c g, vs.length ≤ 2000002 ∧ e = .returned (.tuple #[.slice p vs.length c, .bool true]) ∧ (0 < vs.length → p = some ⟨g, 0, none⟩) ∧ w.heap.size ≤ g ∧ (0 < vs.length → ∀ (k x : Nat), vs[k]? = some x → w'.cell? ⟨g, k, none⟩ = some (.int .u16 (x : Int)))
  | none => e = .returned (.tuple #[.slice none 0 0, .bool false])) ∧ Below w.heap.size w w' := by
 refine (read_t d l hl w).mono ?_
 intro e w' hP
 cases hq : readV d l with
 | none => rw [hq] at hP; exact hP
 | some vs =>
  rw [hq] at hP
  obtain ⟨⟨v, rfl, ho⟩, hb⟩ := hP
  obtain ⟨p, c, rfl, hr⟩ := ho.read
  refine ⟨?_, hb⟩
  by_cases h : 0 < vs.length
  ·obtain ⟨g, rfl, hg, _, hc⟩ := hr h
   exact ⟨_, c, g, Nat.le_trans (readV_len hq) (by omega), rfl, fun _ => rfl, hg, fun _ => hc⟩
  ·exact ⟨p, c, w.heap.size, Nat.le_trans (readV_len hq) (by omega), rfl, fun h' => absurd h' h, Nat.le_refl _, fun h' => absurd h' h⟩
theorem region_any {P : Program} {ops : Array Oper} {Q : Exit → Act → World → Prop} {S : World → Prop} {id : Nat} {a : Act} {w : World} (hm : P.follows .mixedOrders = true) (hS : S w.drew)
  (h : ∀ wq, S wq → wpAnyH P .any ops Q S ops.size (Array.replicate ops.size false) a wq) : (Code.region id ops true).wp P Q a w :=
 wp_region_held_drew hm hS (fun hs => h _ hs)
theorem lz10 (w : World) : Calls Tryz.prog 163 #[.int .u64 10] w fun e w' => e = .returned (.int .i64 60) ∧ w = w' := by
 refine (Tryz.bits_LeadingZeros64 10 w (by decide) (by decide)).mono ?_
 rintro e w' ⟨rfl, rfl⟩
 exact ⟨by rw [show Lib.bitLen (10 : Int).toNat = 4 by decide +kernel]; rfl, rfl⟩
theorem or60 (h l : Int) (h0 : 0 ≤ h) (h1 : h < 10) (l0 : 0 ≤ l) (l1 : l < 1152921504606846976) : bits .or .u64 (h * 1152921504606846976) l = h * 1152921504606846976 + l := by
 rw [bits_or_w ⟨by omega, by omega⟩ ⟨by omega, by omega⟩]
 unfold orI
 have e := Nat.two_pow_add_eq_or_of_lt (b := l.toNat) (i := 60) (by omega) h.toNat
 rw [show (h * 1152921504606846976).toNat = 2 ^ 60 * h.toNat by omega, ← e]
 omega
theorem and32w (x : Int) (h0 : 0 ≤ x) (h1 : x < 18446744073709551616) : bits .and .u64 x 4294967295 = x % 4294967296 := by
 rw [bits_and_w ⟨h0, h1⟩ ⟨by omega, by omega⟩]
 unfold andI
 rw [show (4294967295 : Int).toNat = 2 ^ 32 - 1 by decide, Nat.and_two_pow_sub_one_eq_mod]
 omega
theorem div10_pure (h l U q1 V q0 : Int) (h0 : 0 ≤ h) (h1 : h < 10) (l0 : 0 ≤ l) (l1 : l < 18446744073709551616) (hU : U = h * 1152921504606846976 + l / 16) (hq1 : q1 = U / 2684354560) (hV : V = U % 2684354560 * 4294967296 + l % 16 * 268435456) (hq0 : q0 = V / 2684354560) :
  q1 * 4294967296 + q0 = (h * 18446744073709551616 + l) / 10 ∧ V % 2684354560 / 268435456 = (h * 18446744073709551616 + l) % 10 := by
 have e1 : U * 4294967296 + l % 16 * 268435456 = (h * 18446744073709551616 + l) * 268435456 := by omega
 have e2 : q1 * 4294967296 * 2684354560 + V = (h * 18446744073709551616 + l) * 268435456 := by omega
 generalize h * 18446744073709551616 + l = N at *
 omega
theorem div10_t (h l : Int) (h0 : 0 ≤ h) (h1 : h < 10) (l0 : 0 ≤ l) (l1 : l < 18446744073709551616) (w : World) : Calls Tryz.prog 143 #[.int .u64 h, .int .u64 l, .int .u64 10] w fun e w' => e = .returned (.tuple #[.int .u64 ((h * 18446744073709551616 + l) / 10), .int .u64 ((h * 18446744073709551616 + l) % 10)]) ∧ Below w.heap.size w w' := by
 by_cases hz : h = 0
 ·subst hz
  have hq : ¬ (10 : Int) ≤ 0 := by omega
  go_enter Tryz.func143, Tryz.ntmps143
  go_wp2_with fail
  go_quiet (fail)
  go_wp2
  exact bodyPost_ret (v := .tuple #[.int .u64 (l / 10), .int .u64 (l % 10)]) (by simp [results, Tryz.results143, go_sem]) rfl ⟨by rw [Int.zero_mul, Int.zero_add], below_drewN (Below.refl _ _) _⟩
 ·have hq : ¬ (10 : Int) ≤ h := by omega
  have hz' : (h == 0) = false := by simpa using hz
  have w1 : IntKind.u64.wrap (h * 1152921504606846976) = h * 1152921504606846976 := by rw [IntKind.wrap_u64]; omega
  have o1 := or60 h (l / 16) h0 h1 (by omega) (by omega)
  have a0 : bits .and .u64 11529215046068469760 4294967295 = 0 := and32w 11529215046068469760 (by omega) (by omega)
  have w2 : IntKind.u64.wrap (l * 1152921504606846976) = l % 16 * 1152921504606846976 := by rw [IntKind.wrap_u64]; omega
  have a1 : bits .and .u64 (l % 16 * 1152921504606846976) 4294967295 = 0 := (and32w _ (by omega) (by omega)).trans (by omega)
  have d1 : l % 16 * 1152921504606846976 / 4294967296 = l % 16 * 268435456 := by omega
  have r1 : 0 ≤ l % 16 ∧ l % 16 ≤ 15 := by omega
  have HP := Lib.hid (div10_pure h l (h * 1152921504606846976 + l / 16) _ _ _ h0 h1 l0 l1 rfl rfl rfl rfl)
  generalize hA : (h * 18446744073709551616 + l) / 10 = A at *
  generalize hB : (h * 18446744073709551616 + l) % 10 = B at *
  clear hA hB
  go_enter Tryz.func143, Tryz.ntmps143
  go_wp2_with fail
  refine (lz10 w).mono ?_
  rintro e w2' ⟨rfl, rfl⟩
  go_wp2_with fail
  have u0 : 0 ≤ h * 1152921504606846976 + l / 16 ∧ h * 1152921504606846976 + l / 16 < 11529215046068469760 := by omega
  clear o1 w1
  generalize h * 1152921504606846976 + l / 16 = U at *
  generalize l % 16 = m at *
  have e1 : U - U / 2684354560 * 2684354560 = U % 2684354560 := by omega
  have b1 : 0 ≤ U / 2684354560 ∧ U / 2684354560 < 4294967296 := by omega
  have b2 : 0 ≤ U % 2684354560 ∧ U % 2684354560 < 2684354560 := by omega
  have hUq : U = U / 2684354560 * 2684354560 + U % 2684354560 := by omega
  rw [e1]
  clear e1
  generalize U / 2684354560 = q at *
  generalize U % 2684354560 = r at *
  have f3 : IntKind.u64.wrap (IntKind.u64.wrap (IntKind.u64.wrap (U * 4294967296) + m * 268435456) - IntKind.u64.wrap (q * 11529215046068469760)) = r * 4294967296 + m * 268435456 := by simp only [IntKind.wrap_u64]; omega
  have v0 : 0 ≤ r * 4294967296 + m * 268435456 ∧ r * 4294967296 + m * 268435456 < 11529215046068469760 := by omega
  have g2 : 4294967296 * r + m * 268435456 < 18446744073709551616 := by omega
  have g3 : ¬ 4294967296 * r + m * 268435456 < 0 := by omega
  generalize r * 4294967296 + m * 268435456 = V at *
  have HU := Lib.hid hUq
  clear hUq
  go_loopw [15, 16] (fun a b wr => a = .int .u64 q ∧ b = .int .u64 r ∧ wr = w) (fun _ _ _ => 0)
  case atStart => exact ⟨rfl, rfl, rfl⟩
  case round =>
   obtain ⟨rfl, rfl, rfl⟩ := hrel
   have g1 : ¬ (4294967296 : Int) ≤ q := by omega
   have s1 : V - V / 2684354560 * 2684354560 = V % 2684354560 := by omega
   have s2 : 0 ≤ V / 2684354560 ∧ V / 2684354560 < 4294967296 := by omega
   have s3 : 0 ≤ V % 2684354560 ∧ V % 2684354560 < 2684354560 := by omega
   have s4 : V = V / 2684354560 * 2684354560 + V % 2684354560 := by omega
   have f5 : IntKind.u64.wrap (IntKind.u64.wrap (IntKind.u64.wrap (V * 4294967296)) - IntKind.u64.wrap (V / 2684354560 * 11529215046068469760)) = V % 2684354560 * 4294967296 := by simp only [IntKind.wrap_u64]; omega
   have HS4 := Lib.hid s4
   clear s4
   go_wp2_with fail
   clear s1
   generalize V / 2684354560 = q0 at *
   generalize V % 2684354560 = r0 at *
   go_loopw [18, 16] (fun a b wr' => a = .int .u64 q0 ∧ b = .int .u64 r0 ∧ wr' = wr) (fun _ _ _ => 0)
   case atStart => exact ⟨rfl, rfl, rfl⟩
   case round =>
    obtain ⟨rfl, rfl, rfl⟩ := hrel
    have g4 : ¬ (4294967296 : Int) ≤ q0 := by omega
    have g5 : 4294967296 * r0 < 18446744073709551616 := by omega
    have g6 : ¬ 4294967296 * r0 < 0 := by omega
    have f6 : r0 * 4294967296 / 1152921504606846976 = r0 / 268435456 := by omega
    go_wp2_with fail
    exact bodyPost_ret (v := .tuple #[.int .u64 (q * 4294967296 + q0), .int .u64 (r0 / 268435456)]) (by simp [results, Tryz.results143, go_sem, f5, f6]) rfl ⟨by rw [HP.out.1, HP.out.2], Below.refl _ _⟩
theorem bs_sizeN (l : List UInt8) : (⟨l.toArray⟩ : ByteArray).size = l.length := by simp [ByteArray.size]
theorem tenth_pure (A : Int) (h0 : 0 ≤ A) (h1 : A < MM) : hi (A / 10) = hi A / 10 ∧ lo (A / 10) = (hi A % 10 * 18446744073709551616 + lo A) / 10 ∧ A % 10 = (hi A % 10 * 18446744073709551616 + lo A) % 10 := by
 have e := wv_hi_lo A
 rw [Int.emod_eq_of_lt h0 h1] at e
 unfold wv at e
 have a1 := hi_nonneg A
 have a2 := hi_le A
 have a3 := lo_nonneg A
 have a4 := lo_le A
 generalize hi A = H at *
 generalize lo A = L at *
 obtain ⟨u, v, hu, hv0, hv1⟩ : ∃ u v, H = 10 * u + v ∧ 0 ≤ v ∧ v < 10 := ⟨H / 10, H % 10, by omega, by omega, by omega⟩
 have e1 : H / 10 = u := by omega
 have e2 : H % 10 = v := by omega
 rw [e1, e2]
 obtain ⟨D, r, hD, hr0, hr1⟩ : ∃ D r, v * 18446744073709551616 + L = 10 * D + r ∧ 0 ≤ r ∧ r < 10 := ⟨(v * 18446744073709551616 + L) / 10, (v * 18446744073709551616 + L) % 10, by omega, by omega, by omega⟩
 have e3 : (v * 18446744073709551616 + L) / 10 = D := by omega
 have e4 : (v * 18446744073709551616 + L) % 10 = r := by omega
 have e5 : A = 10 * (u * 18446744073709551616 + D) + r := by omega
 have e6 : A / 10 = u * 18446744073709551616 + D := by omega
 have e7 : A % 10 = r := by omega
 rw [e3, e4, e6, e7]
 have d0 : 0 ≤ D ∧ D < 18446744073709551616 := by omega
 have u0 : 0 ≤ u ∧ u < 18446744073709551616 := by omega
 exact ⟨hi_wv (h := u) (l := D) u0 d0, lo_wv (h := u) (l := D) d0, rfl⟩
theorem tenth_t (A : Int) (h0 : 0 ≤ A) (h1 : A < MM) (w : World) : Calls Tryz.prog 122 #[.agg #[.int .u64 (hi A), .int .u64 (lo A)]] w fun e w' => e = .returned (.tuple #[.agg #[.int .u64 (hi (A / 10)), .int .u64 (lo (A / 10))], .int .u8 (A % 10)]) ∧ Below w.heap.size w w' := by
 obtain ⟨p1, p2, p3⟩ := tenth_pure A h0 h1
 rw [p1, p2, p3]
 have a1 := hi_nonneg A
 have a2 := hi_le A
 have a3 := lo_nonneg A
 have a4 := lo_le A
 generalize hi A = h at *
 generalize lo A = l at *
 clear p1 p2 p3 h0 h1
 have b1 : 0 ≤ h % 10 ∧ h % 10 < 10 := by omega
 have hd := fun w => div10_t (h % 10) l b1.1 b1.2 a3 (by omega) w
 have q1 : 0 ≤ (h % 10 * 18446744073709551616 + l) % 10 ∧ (h % 10 * 18446744073709551616 + l) % 10 < 10 := by omega
 generalize (h % 10 * 18446744073709551616 + l) % 10 = R at *
 generalize (h % 10 * 18446744073709551616 + l) / 10 = Q at *
 have wR : IntKind.u8.wrap R = R := by simp [IntKind.wrap, IntKind.bits, IntKind.signed]; omega
 have hb0 : Below w.heap.size w ((w.alloc (.cells #[.int .u64 h, .int .u64 l] 73)).alloc (.cells #[.int .u64 0, .int .u64 0] 73)) := (by repeat (first | exact Below.refl _ _ | assumption | (with_reducible refine Below.drew ?_) | ((with_reducible first | refine Below.setCell ?_ ?h _ | refine Below.alloc ?_ ?h _ | refine Below.trans ?_ (hb2.mono ?h) | refine Below.trans ?_ (hb.mono ?h) | refine Below.trans ?_ (hb0.mono ?h)); case h => first | omega | (simp; done) | (simp; omega))))
 have R0 : Row ((w.alloc (.cells #[.int .u64 h, .int .u64 l] 73)).alloc (.cells #[.int .u64 0, .int .u64 0] 73)) w.heap.size #[.int .u64 h, .int .u64 l] 73 := (Row.new w _ _).alloc _
 have R1 : Row ((w.alloc (.cells #[.int .u64 h, .int .u64 l] 73)).alloc (.cells #[.int .u64 0, .int .u64 0] 73)) (w.heap.size + 1) #[.int .u64 0, .int .u64 0] 73 := by
  have := Row.new (w.alloc (.cells #[.int .u64 h, .int .u64 l] 73)) #[.int .u64 0, .int .u64 0] 73
  rwa [World.size_alloc] at this
 have HR := Lib.hid (And.intro R0 (And.intro R1 hb0))
 clear R0 R1 hb0
 go_enter Tryz.func122, Tryz.ntmps122
 go_wp2_with fail
 obtain ⟨R0, R1, hb⟩ := HR.out
 clear HR
 generalize (w.alloc (.cells #[.int .u64 h, .int .u64 l] 73)).alloc (.cells #[.int .u64 0, .int .u64 0] 73) = w0 at *
 refine (hd w0).mono ?_
 rintro e w1 ⟨rfl, hb2⟩
 replace R0 := R0.later hb2
 replace R1 := R1.later hb2
 replace hb := below_step hb hb2
 clear hb2 hd
 have c0 := (R0.cell 0).trans (show _ = some (Value.int .u64 h) from rfl)
 have d0 := (R1.cell 0).trans (show _ = some (Value.int .u64 0) from rfl)
 have d1 := (R1.cell 1).trans (show _ = some (Value.int .u64 0) from rfl)
 have f0 := R1.frozen 0
 have f1 := R1.frozen 1
 have HR := Lib.hid R1
 clear R0 R1
 go_wp2
 have Rf := (HR.out.set 0 (.int .u64 (h / 10))).set 1 (.int .u64 Q)
 have e0 := (Rf.cell 0).trans (show _ = some (Value.int .u64 (h / 10)) from rfl)
 have e1 := (Rf.cell 1).trans (show _ = some (Value.int .u64 Q) from rfl)
 exact bodyPost_ret (v := .tuple #[.agg #[.int .u64 (h / 10), .int .u64 Q], .int .u8 R]) (by simp only [results, Tryz.results122]; simp [go_sem, e0, e1]) rfl ⟨rfl, (hb.setCell (by dsimp only; omega) _).setCell (by dsimp only; omega) _⟩
/-! digits -/
def dg (n : Nat) : UInt8 := UInt8.ofNat (48 + n % 10)
theorem dg_toNat (n : Nat) : (dg n).toNat = 48 + n % 10 := by unfold dg; rw [UInt8.toNat_ofNat']; omega
def decN (n : Nat) : List UInt8 := if h : n < 10 then [dg n] else decN (n / 10) ++ [dg n]
termination_by n
decreasing_by omega
theorem decN_small {n : Nat} (h : n < 10) : decN n = [dg n] := by rw [decN, dif_pos h]
theorem decN_big {n : Nat} (h : ¬ n < 10) : decN n = decN (n / 10) ++ [dg n] := by rw [decN, dif_neg h]
def digsL : Nat → Nat → List UInt8
 | 0, _ => []
 | k + 1, n => digsL k (n / 10) ++ [dg n]
theorem digsL_length : ∀ (k n : Nat), (digsL k n).length = k
 | 0, _ => rfl
 | k + 1, n => by rw [digsL, List.length_append, digsL_length k]; rfl
theorem digsL_zero : ∀ (k : Nat), (digsL k 0).dropWhile (· == 48) = []
 | 0 => rfl
 | k + 1 => by
  have ih := digsL_zero k
  rw [digsL, Nat.zero_div, List.dropWhile_append, ih]
  decide
theorem dg_ne {n : Nat} (h : n % 10 ≠ 0) : (dg n == 48) = false := by
 rw [beq_eq_false_iff_ne]
 intro e
 have := congrArg UInt8.toNat e
 rw [dg_toNat] at this
 have h48 : (48 : UInt8).toNat = 48 := rfl
 omega
theorem decN_ne (n : Nat) : decN n ≠ [] := by
 by_cases h : n < 10
 ·rw [decN_small h]; simp
 ·rw [decN_big h]; simp
theorem digsL_trim : ∀ (k n : Nat), n < 10 ^ k → n ≠ 0 → (digsL k n).dropWhile (· == 48) = decN n
 | 0, n, h, h0 => by simp at h; exact absurd h h0
 | k + 1, n, h, h0 => by
  rw [digsL, List.dropWhile_append]
  by_cases hs : n < 10
  ·rw [show n / 10 = 0 by omega, digsL_zero k, decN_small hs]
   simp [List.dropWhile, dg_ne (n := n) (by omega)]
  ·have ih := digsL_trim k (n / 10) (by rw [Nat.pow_succ] at h; omega) (by omega)
   rw [ih, decN_big hs]
   have := decN_ne (n / 10)
   cases hq : decN (n / 10) with
   | nil => exact absurd hq this
   | cons a b => simp
theorem trim_last (n : Nat) (h : n < 10 ^ 39) : (digsL 38 (n / 10)).dropWhile (· == 48) ++ [dg n] = decN n := by
 by_cases hs : n < 10
 ·rw [show n / 10 = 0 by omega, digsL_zero, decN_small hs]; rfl
 ·rw [digsL_trim 38 (n / 10) (by rw [show (39 : Nat) = 38 + 1 from rfl, Nat.pow_succ] at h; omega) (by omega), decN_big hs]
def cell39 (n i p : Nat) : Value := .int .u8 (if 39 ≤ p + i then ((48 + n / 10 ^ (38 - p) % 10 : Nat) : Int) else 0)
def cells39 (n i : Nat) : Array Value := ((List.range 39).map (cell39 n i)).toArray
theorem cells39_size (n i : Nat) : (cells39 n i).size = 39 := by simp [cells39]
theorem cells39_get (n i p : Nat) (h : p < 39) : (cells39 n i)[p]? = some (cell39 n i p) := by simp [cells39, h]
theorem cells39_set (n i : Nat) (h : i < 39) : (cells39 n i).setIfInBounds (38 - i) (.int .u8 ((48 + n / 10 ^ i % 10 : Nat) : Int)) = cells39 n (i + 1) := by
 apply Array.ext_getElem?
 intro p
 by_cases hp : p < 39
 ·rw [cells39_get _ _ p hp, Array.getElem?_setIfInBounds]
  by_cases he : 38 - i = p
  ·rw [if_pos he, if_pos (by rw [cells39_size]; omega)]
   unfold cell39
   rw [if_pos (by omega), show 38 - p = i by omega]
  ·rw [if_neg he, cells39_get _ _ p hp]
   unfold cell39
   by_cases h1 : 39 ≤ p + i
   ·rw [if_pos h1, if_pos (by omega)]
   ·rw [if_neg h1, if_neg (by omega)]
 ·rw [Array.getElem?_eq_none (by simp [cells39_size]; omega), Array.getElem?_eq_none (by rw [cells39_size]; omega)]
theorem digsL_get : ∀ (k n j : Nat), j < k → (digsL k n)[j]? = some (dg (n / 10 ^ (k - 1 - j)))
 | 0, _, _, h => by omega
 | k + 1, n, j, h => by
  rw [digsL]
  by_cases hj : j < k
  ·rw [List.getElem?_append_left (by rw [digsL_length]; exact hj), digsL_get k (n / 10) j hj, Nat.div_div_eq_div_mul, ← Nat.pow_succ', show k + 1 - 1 - j = (k - 1 - j) + 1 by omega]
  ·rw [show j = k by omega, List.getElem?_append_right (by rw [digsL_length]; exact Nat.le_refl _), digsL_length]
   simp
theorem cells39_zero (n : Nat) : cells39 n 0 = #[.int .u8 0, .int .u8 0, .int .u8 0, .int .u8 0, .int .u8 0, .int .u8 0, .int .u8 0, .int .u8 0, .int .u8 0, .int .u8 0, .int .u8 0, .int .u8 0, .int .u8 0, .int .u8 0, .int .u8 0, .int .u8 0, .int .u8 0, .int .u8 0, .int .u8 0, .int .u8 0, .int .u8 0, .int .u8 0, .int .u8 0, .int .u8 0, .int .u8 0, .int .u8 0, .int .u8 0, .int .u8 0, .int .u8 0, .int .u8 0, .int .u8 0, .int .u8 0, .int .u8 0, .int .u8 0, .int .u8 0, .int .u8 0, .int .u8 0, .int .u8 0, .int .u8 0] := by kernel_rfl
theorem cutA39l (w : World) (g : Nat) : (Instr.sliceAt 155 (.pointer (some ⟨g, 0, none⟩)) (some (.int .i64 38)) none none).run Tryz.prog w = .ok (.slice (some ⟨g, 38, none⟩) 1 1) w := by
 have ha : Tryz.prog.arrayLen 155 = 39 := by kernel_rfl
 have he : Tryz.prog.elem 155 = 5 := by kernel_rfl
 have hu : Tryz.prog.underlying 155 = some (.array (Tryz.prog.arrayLen 155) (Tryz.prog.elem 155)) := by rw [ha, he]; exact Tryz.underlying155
 rw [run_sliceAt_array_l (P := Tryz.prog) w 155 ⟨g, 0, none⟩ hu .i64 38 (by omega) (by rw [ha]; omega)]
 rw [ha, he]
 simp [go_sem]
theorem cutA39h (w : World) (g : Nat) : (Instr.sliceAt 155 (.pointer (some ⟨g, 0, none⟩)) none (some (.int .i64 38)) none).run Tryz.prog w = .ok (.slice (some ⟨g, 0, none⟩) 38 39) w := by
 have ha : Tryz.prog.arrayLen 155 = 39 := by kernel_rfl
 have he : Tryz.prog.elem 155 = 5 := by kernel_rfl
 have hu : Tryz.prog.underlying 155 = some (.array (Tryz.prog.arrayLen 155) (Tryz.prog.elem 155)) := by rw [ha, he]; exact Tryz.underlying155
 rw [run_sliceAt_array_h (P := Tryz.prog) w 155 ⟨g, 0, none⟩ hu .i64 38 (by omega) (by rw [ha]; omega)]
 rw [ha, he]
 simp [go_sem]
theorem cell39_dg (n p : Nat) : cell39 n 39 p = .int .u8 ((dg (n / 10 ^ (38 - p))).toNat : Int) := by
 unfold cell39
 rw [if_pos (by omega), dg_toNat]
theorem conv39a (n : Nat) {w : World} {g : Nat} (R : Row w g (cells39 n 39) 155) : (convert 118 9 (.slice (some ⟨g, 0, none⟩) 38 39)).run Tryz.prog w = .ok (.string ⟨(digsL 38 (n / 10)).toArray⟩) w := by
 have h := run_convert_bytes_back (P := Tryz.prog) w 118 9 5 ⟨g, 0, none⟩ 39 (digsL 38 (n / 10)) Tryz.underlying118 Tryz.underlying5 Tryz.underlying9 (fun j hj => by
  rw [digsL_length] at hj
  have e := digsL_get 38 (n / 10) j hj
  rw [List.getElem?_eq_getElem (by rw [digsL_length]; exact hj)] at e
  rw [Option.some.inj e, Addr.add_mid, R.cell, Nat.zero_add, cells39_get _ _ _ (by omega), cell39_dg, Nat.div_div_eq_div_mul, ← Nat.pow_succ', show (38 - 1 - j).succ = 38 - j by omega])
 rwa [digsL_length] at h
theorem conv39b (n : Nat) {w : World} {g : Nat} (R : Row w g (cells39 n 39) 155) : (convert 118 9 (.slice (some ⟨g, 38, none⟩) 1 1)).run Tryz.prog w = .ok (.string ⟨[dg n].toArray⟩) w := by
 refine run_convert_bytes_back (P := Tryz.prog) w 118 9 5 ⟨g, 38, none⟩ 1 [dg n] Tryz.underlying118 Tryz.underlying5 Tryz.underlying9 (fun j hj => ?_)
 obtain rfl : j = 0 := by simpa using hj
 rw [Addr.add_mid, R.cell, Nat.add_zero, cells39_get _ _ _ (by omega), cell39_dg]
 simp
theorem Row.drewN {w : World} {g : Nat} {cs : Array Value} {t : TypeId} (h : Row w g cs t) (n : Nat) : Row (w.drewN n) g cs t := h
theorem ba_add (a b : List UInt8) : (⟨a.toArray⟩ : ByteArray) ++ ⟨b.toArray⟩ = ⟨(a ++ b).toArray⟩ := by apply ByteArray.ext; simp
theorem nwide_t (n : Nat) (hn : (n : Int) < MM) (w : World) : Calls Tryz.prog 86 #[.agg #[.int .u64 (hi n), .int .u64 (lo n)]] w fun e w' => e = .returned (.string ⟨(decN n).toArray⟩) ∧ Below w.heap.size w w' := by
  go_enter Tryz.func86, Tryz.ntmps86
  go_wp2_with fail
  go_loopw [7] (fun i wr => ∃ k : Nat, k ≤ 39 ∧ i = .int .i64 (k : Nat) ∧ Row wr w.heap.size #[.int .u64 (hi (n / 10 ^ k : Nat)), .int .u64 (lo (n / 10 ^ k : Nat))] 73 ∧ Row wr (w.heap.size + 1) (cells39 n k) 155 ∧ Below w.heap.size w wr) (fun i _ => 39 - (intOf i).toNat)
  case atStart =>
    refine ⟨0, by omega, rfl, ?_, ?_, (by repeat (first | exact Below.refl _ _ | assumption | (with_reducible refine Below.drew ?_) | ((with_reducible first | refine Below.setCell ?_ ?h _ | refine Below.alloc ?_ ?h _ | refine Below.trans ?_ (hb2.mono ?h) | refine Below.trans ?_ (hb.mono ?h)); case h => first | omega | (simp; done) | (simp; omega))))⟩
    · rw [Nat.pow_zero, Nat.div_one]; exact (Row.new w _ _).alloc _
    · rw [cells39_zero]
      have := Row.new (w.alloc (.cells #[.int .u64 (hi n), .int .u64 (lo n)] 73)) #[.int .u8 0, .int .u8 0, .int .u8 0, .int .u8 0, .int .u8 0, .int .u8 0, .int .u8 0, .int .u8 0, .int .u8 0, .int .u8 0, .int .u8 0, .int .u8 0, .int .u8 0, .int .u8 0, .int .u8 0, .int .u8 0, .int .u8 0, .int .u8 0, .int .u8 0, .int .u8 0, .int .u8 0, .int .u8 0, .int .u8 0, .int .u8 0, .int .u8 0, .int .u8 0, .int .u8 0, .int .u8 0, .int .u8 0, .int .u8 0, .int .u8 0, .int .u8 0, .int .u8 0, .int .u8 0, .int .u8 0, .int .u8 0, .int .u8 0, .int .u8 0, .int .u8 0] 155
      rwa [World.size_alloc] at this
  case round =>
    obtain ⟨k, hk, rfl, R0, R1, hb⟩ := hrel
    by_cases hlt : k < 39
    · have hkb : (k : Int) < 39 := by omega
      have c0 := (R0.cell 0).trans (show _ = some (Value.int .u64 (hi (n / 10 ^ k : Nat))) from rfl)
      have c1 := (R0.cell 1).trans (show _ = some (Value.int .u64 (lo (n / 10 ^ k : Nat))) from rfl)
      have hm : ((n / 10 ^ k : Nat) : Int) < MM := by
        have := Nat.div_le_self n (10 ^ k)
        omega
      have hset := cells39_set n k hlt
      have hnx : n / 10 ^ (k + 1) = n / 10 ^ k / 10 := by rw [Nat.pow_succ, Nat.div_div_eq_div_mul]
      generalize n / 10 ^ k = m at *
      have ht := fun w => tenth_t (m : Int) (by omega) hm w
      rw [show (m : Int) / 10 = ((m / 10 : Nat) : Int) by omega] at ht
      have HR := Lib.hid (And.intro R0 (And.intro R1 hb))
      have HS := Lib.hid (And.intro hset hnx)
      clear R0 R1 hb hset hnx
      go_wp2_with fail
      refine (ht _).mono ?_
      rintro e w1 ⟨rfl, hb2⟩
      obtain ⟨R0, R1, hb⟩ := HR.out
      replace R0 := R0.later hb2
      replace R1 := R1.later hb2
      replace hb := below_step hb hb2
      clear hb2 ht HR c0 c1
      have c0 := (R0.cell 0).trans (show _ = some (Value.int .u64 (hi (m : Nat))) from rfl)
      have c1 := (R0.cell 1).trans (show _ = some (Value.int .u64 (lo (m : Nat))) from rfl)
      have f0 := R0.frozen 0
      have f1 := R0.frozen 1
      have d0 := (R1.cell (38 - k)).trans (cells39_get n k (38 - k) (by omega))
      have f2 := R1.frozen (38 - k)
      have q1 : (38 - (k : Int)) = ((38 - k : Nat) : Int) := by omega
      have q2 : 0 ≤ (m : Int) % 10 ∧ (m : Int) % 10 < 10 := by omega
      have q3 : ((48 + m % 10 : Nat) : Int) = 48 + (m : Int) % 10 := by omega
      rw [q3] at HS
      generalize (m : Int) % 10 = r at *
      have q4 : IntKind.u8.wrap (48 + r) = 48 + r := by simp [IntKind.wrap, IntKind.bits, IntKind.signed]; omega
      have HR := Lib.hid (And.intro R0 (And.intro R1 hb))
      clear R0 R1 hb q3 
      go_wp2
      obtain ⟨R0, R1, hb⟩ := HR.out
      obtain ⟨hset, hnx⟩ := HS.out
      refine ⟨⟨k + 1, by omega, by go_num, ?_, ?_, ?_⟩, by simp [intOf]; omega⟩
      · rw [hnx]
        exact ((R0.set 0 (.int .u64 (hi (m / 10 : Nat)))).set 1 (.int .u64 (lo (m / 10 : Nat)))).set_far _ _ (by simp)
      · rw [← hset]
        exact ((R1.set_far _ _ (by simp)).set_far _ _ (by simp)).set _ _
      · exact (by repeat (first | exact Below.refl _ _ | assumption | (with_reducible refine Below.drew ?_) | ((with_reducible first | refine Below.setCell ?_ ?h _ | refine Below.alloc ?_ ?h _ | refine Below.trans ?_ (hb2.mono ?h) | refine Below.trans ?_ (hb.mono ?h)); case h => first | omega | (simp; done) | (simp; omega))))
    · obtain rfl : k = 39 := by omega
      have hA := fun q => conv39a n (R1.drewN q)
      have hB := fun q => conv39b n (R1.drewN q)
      have s1 := fun q => cutA39l (wr.drewN q) (w.heap.size + 1)
      have s2 := fun q => cutA39h (wr.drewN q) (w.heap.size + 1)
      have ht := fun q => Calls.quiet_of_same (n := q) (Tryz.strings_TrimLeft_one ⟨(digsL 38 (n / 10)).toArray⟩ 48 (by decide) (wr.drewN q))
      have htr := trim_last n (by have h : (MM : Int) = 340282366920938463463374607431768211456 := rfl; have : (10 : Nat) ^ 39 = 1000000000000000000000000000000000000000 := by rfl
                                  omega)
      unfold Lib.trimLeftB at ht
      dsimp only at ht
      have htl : ((digsL 38 (n / 10)).dropWhile (· == 48)).length ≤ 38 := by
        have := (List.dropWhile_sublist (l := digsL 38 (n / 10)) (· == 48)).length_le
        rwa [digsL_length] at this
      generalize (digsL 38 (n / 10)).dropWhile (· == 48) = tl at *
      have hle : ¬ 9223372036854775807 < tl.length + 1 := by omega
      have hle2 : ¬ 9223372036854775807 < (⟨tl.toArray⟩ : ByteArray).size + (⟨#[dg n]⟩ : ByteArray).size := by rw [bs_sizeN]; exact hle
      have HB := Lib.hid hb
      have HT := Lib.hid htr
      clear htr R0 R1 hb
      go_wp2_with fail
      go_quiet (first | (go_at_call 123; exact ht _))
      go_wp2
      go_ret
      refine ⟨?_, below_drewN HB.out _⟩
      rw [← HT.out, ba_add]; rfl
theorem nprint_t (n : Nat) (hn : n < 18446744073709551616) (w : World) : Calls Tryz.prog 42 #[.int .u64 (n : Int)] w fun e w' => e = .returned (.string ⟨(decN n).toArray⟩) ∧ Below w.heap.size w w' := by
 have h1 : hi (n : Int) = 0 := by unfold hi; omega
 have h2 : lo (n : Int) = n := by unfold lo; omega
 have hw := fun w => nwide_t n (by have h : (MM : Int) = 340282366920938463463374607431768211456 := rfl; omega) w
 rw [h1, h2] at hw
 have hb : Below w.heap.size w w := Below.refl _ _
 go_enter Tryz.func42, Tryz.ntmps42
 go_wp2_with fail
 refine (of_any (n : Int) _).mono ?_
 rintro e w1 ⟨rfl, hb2⟩
 replace hb := below_step hb hb2
 clear hb2 
 go_wp2_with fail
 refine (hw _).mono ?_
 rintro e w2 ⟨rfl, hb2⟩
 replace hb := below_step hb hb2
 clear hb2 
 go_wp2
 go_ret
 exact ⟨rfl, hb⟩
def dgB (c : UInt8) : Bool := decide (48 ≤ c.toNat) && decide (c.toNat ≤ 57)
def txB (l : List UInt8) : Bool := l.all dgB && (l == [48] || (!l.isEmpty && l.head? != some 48))
theorem txB_bad {l : List UInt8} {j : Nat} (hj : j < l.length) (h : dgB l[j] = false) : txB l = false := by
 unfold txB
 have : l.all dgB = false := by rw [List.all_eq_false]; exact ⟨l[j], List.getElem_mem hj, by simp [h]⟩
 simp [this]
theorem txB_ok {l : List UInt8} (h : ∀ i (hi : i < l.length), dgB l[i] = true) : txB l = (l == [48] || (!l.isEmpty && l.head? != some 48)) := by
 unfold txB
 have : l.all dgB = true := by rw [List.all_eq_true]; intro x hx; obtain ⟨i, hi, rfl⟩ := List.getElem_of_mem hx; exact h i hi
 simp [this]
theorem isText_t (l : List UInt8) (hl : l.length ≤ 2000000) (w : World) : Calls Tryz.prog 102 #[.string ⟨l.toArray⟩] w fun e w' => e = .returned (.bool (txB l)) ∧ Below w.heap.size w w' := by
 have hsz := bs_sizeN l
 go_enter Tryz.func102, Tryz.ntmps102
 go_wp2_with fail
 go_loopw [6] (fun i wr => ∃ (j : Nat), j ≤ l.length ∧ i = .int .i64 j ∧ Hid (∀ i (hi : i < j) (hl : i < l.length), dgB l[i] = true) ∧ wr = w) (fun i _ => l.length - (intOf i).toNat)
 case atStart => exact ⟨0, by omega, rfl, Lib.hid (fun i hi => by omega), rfl⟩
 case round =>
  obtain ⟨j, hj, rfl, hm, rfl⟩ := hrel
  by_cases hlt : j < l.length
  ·obtain ⟨c, hlj⟩ : ∃ c, l[j] = c := ⟨_, rfl⟩
   have hsp : j < (⟨l.toArray⟩ : ByteArray).size := by rw [hsz]; exact hlt
   have hch : (⟨l.toArray⟩ : ByteArray)[j]'hsp = c := hlj
   have HJ := Lib.hid hlj
   clear hlj
   have hc : c.toNat < 256 := c.toNat_lt
   by_cases h1 : 48 ≤ c.toNat
   ·by_cases h2 : c.toNat ≤ 57
    ·have h1' : ¬ (c.toNat : Int) < 48 := by omega
     have h2' : ¬ (57 : Int) < (c.toNat : Int) := by omega
     have HD := Lib.hid (show dgB c = true by simp [dgB, h1, h2])
     clear h1 h2
     go_wp2
     refine ⟨⟨j + 1, by omega, by go_num, Lib.hid (fun i hi hl => ?_), by first | rfl | trivial⟩, by simp [intOf]; omega⟩
     by_cases hij : i = j
     ·subst hij; rw [HJ.out]; exact HD.out
     ·exact hm.out i (by omega) hl
    ·have h1' : ¬ (c.toNat : Int) < 48 := by omega
     have h2' : (57 : Int) < (c.toNat : Int) := by omega
     have HB := Lib.hid (txB_bad hlt (by rw [HJ.out]; simp [dgB, h2]))
     clear h1 h2
     go_wp2
     go_ret
     exact ⟨by rw [HB.out]; rfl, Below.refl _ _⟩
   ·have h1' : (c.toNat : Int) < 48 := by omega
    have HB := Lib.hid (txB_bad hlt (by rw [HJ.out]; simp [dgB, h1]))
    clear h1
    go_wp2
    go_ret
    exact ⟨by rw [HB.out]; rfl, Below.refl _ _⟩
  ·have HB := Lib.hid (txB_ok (l := l) (fun i hi => hm.out i (by omega) hi))
   have hlt' : ¬ (j : Int) < (l.length : Int) := by omega
   clear hm
   by_cases e1 : l = [48]
   ·have b1 : (l == [48]) = true := by rw [e1]; rfl
    have HC := Lib.hid (show txB l = true by rw [HB.out]; simp [e1])
    have h0 : l.length = 1 := by rw [e1]; rfl
    clear e1 HB
    go_wp2
    go_ret
    exact ⟨by rw [HC.out]; rfl, Below.refl _ _⟩
   ·have b1 : (l == [48]) = false := by rw [beq_eq_false_iff_ne]; exact e1
    by_cases e2 : l = []
    ·have HC := Lib.hid (show txB l = false by rw [HB.out]; simp [e2])
     have he : l.isEmpty = true := by rw [e2]; rfl
     clear e1 HB e2
     go_wp2
     go_ret
     exact ⟨by rw [HC.out]; rfl, Below.refl _ _⟩
    ·have he : l.isEmpty = false := by simpa using e2
     have h0 : 0 < l.length := List.length_pos_iff.2 e2
     obtain ⟨c, hlj⟩ : ∃ c, l[0] = c := ⟨_, rfl⟩
     have hsp : 0 < (⟨l.toArray⟩ : ByteArray).size := by rw [hsz]; exact h0
     have hch : (⟨l.toArray⟩ : ByteArray)[0]'hsp = c := hlj
     have hhd : l.head? = some c := by rw [List.head?_eq_getElem?, List.getElem?_eq_getElem h0, hlj]
     by_cases e3 : c = 48
     ·have HC := Lib.hid (show txB l = false by rw [HB.out, hhd]; simp [e1, e3])
      have e3' : c.toNat = 48 := by rw [e3]; rfl
      have e3'' : ((c.toNat : Int) == 48) = true := by rw [e3']; rfl
      have HQ := Lib.hid (show ((c.toNat : Int) != 48) = !((c.toNat : Int) == 48) from rfl)
      rw [e3''] at HQ
      clear HB e3 hlj hhd e1 e2 e3'
      go_wp2
      go_ret
      exact ⟨by rw [HC.out]; exact congrArg (fun b => Ending.returned (Value.bool b)) HQ.out, Below.refl _ _⟩
     ·have HC := Lib.hid (show txB l = true by rw [HB.out, hhd]; simp [e1, e2, e3])
      have e3' : ¬ c.toNat = 48 := fun h => e3 (UInt8.toNat_inj.1 h)
      have e3'' : ((c.toNat : Int) == 48) = false := by rw [beq_eq_false_iff_ne]; omega
      have HQ := Lib.hid (show ((c.toNat : Int) != 48) = !((c.toNat : Int) == 48) from rfl)
      rw [e3''] at HQ
      clear HB e3 hlj hhd e1 e2 e3'
      go_wp2
      go_ret
      exact ⟨by rw [HC.out]; exact congrArg (fun b => Ending.returned (Value.bool b)) HQ.out, Below.refl _ _⟩
end Go.Proofs.YtboinifeemghaaaGreatDoor
