/- Printed texts of package six read back, also with other letters for the same digits. No conditions beyond ranges. -/
import Derived.Test.YtkenkjdelhmaoaaDoorSix13
namespace Go.Proofs.YtkenkjdelhmaoaaDoor
set_option linter.unusedVariables false
set_option linter.unusedSimpArgs false
open Go.RowKit
theorem lastV_grp {d : Bool} {p : List UInt8} {v : Nat} (h : grpV p = some v) : lastV d p = some [v] := by
  unfold lastV
  rw [if_neg (fun h4 => by rw [grpV_dot h4.2] at h; cases h), h]
  rfl
/-- a text of a group -/
structure IsText (t : List UInt8) (x : Nat) : Prop where
  ne : t ≠ []
  no : (58 : UInt8) ∉ t
  is : grpV t = some x
theorem index_tail : ∀ (ts : List (List UInt8)) (z : List UInt8), (∀ t ∈ ts, t ≠ [] ∧ (58 : UInt8) ∉ t) → Lib.index (Lib.joinTail [58] ts ++ z) [58, 58] = if Lib.index z [58, 58] = -1 then -1 else Lib.index z [58, 58] + (Lib.joinTail [58] ts).length
  | [], z, _ => by
    simp only [Lib.joinTail, List.map_nil, List.flatten_nil, List.nil_append]
    split
    · assumption
    · simp
  | y :: r, z, h => by
    obtain ⟨hy, hn⟩ := h y (by simp)
    have ih := index_tail r z (fun t ht => h t (List.mem_cons_of_mem _ ht))
    have e : Lib.joinTail [58] (y :: r) = 58 :: (y ++ Lib.joinTail [58] r) := by simp [Lib.joinTail]
    have hw := index_word [58, 58] 58 rfl y (Lib.joinTail [58] r ++ z) hn
    rw [e, List.cons_append, List.append_assoc, Lib.index, hw, ih]
    obtain ⟨c, y', rfl⟩ : ∃ c y', y = c :: y' := by cases y with | nil => exact absurd rfl hy | cons c y' => exact ⟨c, y', rfl⟩
    have hc : ¬ (58 : UInt8) = c := fun he => hn (by rw [he]; simp)
    have h1 : ([58, 58] : List UInt8).isPrefixOf (58 :: ((c :: y') ++ (Lib.joinTail [58] r ++ z))) = false := by simp [List.isPrefixOf, hc]
    have hge := Lib.index_ge z [58, 58]
    rw [h1]
    by_cases h2 : Lib.index z [58, 58] = -1
    · simp [h2]
    · have q1 : ¬ (Lib.index z [58, 58] + ((Lib.joinTail [58] r).length : Int)) = -1 := by omega
      have q2 : ((Lib.index z [58, 58] + ((Lib.joinTail [58] r).length : Int) + (((c :: y').length : Nat) : Int)) == -1) = false := by rw [beq_eq_false_iff_ne]; omega
      simp only [if_neg h2, if_neg q1, q2]
      simp
      omega
theorem index_join (ts : List (List UInt8)) (z : List UInt8) (h : ∀ t ∈ ts, t ≠ [] ∧ (58 : UInt8) ∉ t) : Lib.index (Lib.join ts [58] ++ z) [58, 58] = if Lib.index z [58, 58] = -1 then -1 else Lib.index z [58, 58] + (Lib.join ts [58]).length := by
  cases ts with
  | nil =>
    rw [Lib.join_nil, List.nil_append]
    split
    · assumption
    · simp
  | cons t r =>
    obtain ⟨ht, hn⟩ := h t (by simp)
    have hr := index_tail r z (fun t ht => h t (List.mem_cons_of_mem _ ht))
    have hw := index_word [58, 58] 58 rfl t (Lib.joinTail [58] r ++ z) hn
    have hge := Lib.index_ge z [58, 58]
    rw [Lib.join_cons, List.append_assoc, hw, hr]
    by_cases h2 : Lib.index z [58, 58] = -1
    · simp [h2]
    · have q1 : ¬ (Lib.index z [58, 58] + ((Lib.joinTail [58] r).length : Int)) = -1 := by omega
      simp only [if_neg h2, if_neg q1]
      simp
      omega
theorem cc_none (ts : List (List UInt8)) (h : ∀ t ∈ ts, t ≠ [] ∧ (58 : UInt8) ∉ t) : cc (Lib.join ts [58]) = (Lib.join ts [58], [], false) := by
  have hi := index_join ts [] h
  rw [List.append_nil] at hi
  unfold cc Lib.cut
  rw [hi]
  simp [Lib.index]
theorem cc_at (ts : List (List UInt8)) (z : List UInt8) (h : ∀ t ∈ ts, t ≠ [] ∧ (58 : UInt8) ∉ t) : cc (Lib.join ts [58] ++ [58, 58] ++ z) = (Lib.join ts [58], z, true) := by
  have h0 : Lib.index ([58, 58] ++ z) [58, 58] = 0 := by simp [Lib.index, List.isPrefixOf]
  have hi := index_join ts ([58, 58] ++ z) h
  rw [h0] at hi
  unfold cc Lib.cut
  rw [List.append_assoc, hi]
  simp
theorem split_tail : ∀ (t : List UInt8) (r : List (List UInt8)), (58 : UInt8) ∉ t → (∀ y ∈ r, (58 : UInt8) ∉ y) → splitC (t ++ Lib.joinTail [58] r) = t :: r
  | t, [], ht, _ => by simp [Lib.joinTail, split_no t ht]
  | t, y :: r, ht, h => by
    have e : Lib.joinTail [58] (y :: r) = 58 :: (y ++ Lib.joinTail [58] r) := by simp [Lib.joinTail]
    rw [e, split_at t _ ht, split_tail y r (h y (by simp)) (fun x hx => h x (List.mem_cons_of_mem _ hx))]
theorem seqV_texts (d : Bool) (τ : Nat → List UInt8) : ∀ (fs : List Nat), fs ≠ [] → (∀ x ∈ fs, IsText (τ x) x) → seqV d (fs.map τ) = some fs
  | [], h, _ => absurd rfl h
  | [x], _, h => by
    show seqV d [τ x] = _
    rw [seqV, lastV_grp (h x (by simp)).is]
  | x :: y :: r, _, h => by
    have ih := seqV_texts d τ (y :: r) (by simp) (fun z hz => h z (List.mem_cons_of_mem _ hz))
    rw [List.map_cons, seqV_cons d _ _ (by simp), ih, (h x (by simp)).is]
theorem readV_texts (d : Bool) (τ : Nat → List UInt8) (fs : List Nat) (h : ∀ x ∈ fs, IsText (τ x) x) : readV d (Lib.join (fs.map τ) [58]) = some fs := by
  cases fs with
  | nil => rfl
  | cons x r =>
    have hx := h x (by simp)
    unfold readV
    rw [List.map_cons, Lib.join_cons, if_neg (fun e => hx.ne (List.append_eq_nil_iff.1 e).1)]
    rw [split_tail (τ x) (r.map τ) hx.no (fun y hy => by obtain ⟨z, hz, rfl⟩ := List.mem_map.1 hy; exact (h z (List.mem_cons_of_mem _ hz)).no)]
    exact seqV_texts d τ (x :: r) (by simp) h
def joinT (τ : Nat → List UInt8) (fs : List Nat) : List UInt8 := Lib.join (fs.map τ) [58]
def printT (τ : Nat → List UInt8) (f : Nat → Int) : List UInt8 := if (runS f).2 = 0 then joinT τ (gl f) else joinT τ ((gl f).take (runS f).1) ++ [58, 58] ++ joinT τ ((gl f).drop ((runS f).1 + (runS f).2))
theorem gl_run (f : Nat → Int) : (gl f).take (runS f).1 ++ List.replicate (runS f).2 0 ++ (gl f).drop ((runS f).1 + (runS f).2) = gl f := by
  obtain ⟨h1, h2, _⟩ := runS_is f
  generalize runS f = r at *
  obtain ⟨p, n⟩ := r
  dsimp only at *
  apply List.ext_getElem?
  intro i
  by_cases c1 : i < p
  · rw [List.append_assoc, List.getElem?_append_left (by simp [gl_len]; omega), List.getElem?_take_of_lt c1]
  · by_cases c2 : i < p + n
    · rw [List.getElem?_append_left (by simp [gl_len]; omega), List.getElem?_append_right (by simp [gl_len]; omega), gl_get f i (by omega), h2 i (by omega) c2]
      rw [List.getElem?_replicate, if_pos (by simp [gl_len]; omega)]
      rfl
    · rw [List.getElem?_append_right (by simp [gl_len]; omega), List.getElem?_drop]
      congr 1
      simp [gl_len]
      omega
theorem parse_texts (τ : Nat → List UInt8) (f : Nat → Int) (h : ∀ x ∈ gl f, IsText (τ x) x) : parse6 (printT τ f) = some (gl f) := by
  obtain ⟨h1, _, h3⟩ := runS_is f
  have hgr := gl_run f
  have ht : ∀ fs : List Nat, (∀ x ∈ fs, x ∈ gl f) → ∀ t ∈ fs.map τ, t ≠ [] ∧ (58 : UInt8) ∉ t := fun fs hs t ht => by
    obtain ⟨x, hx, rfl⟩ := List.mem_map.1 ht
    exact ⟨(h x (hs x hx)).ne, (h x (hs x hx)).no⟩
  unfold printT parse6
  by_cases hn : (runS f).2 = 0
  · rw [if_pos hn]
    unfold joinT
    rw [cc_none _ (ht _ fun x hx => hx)]
    dsimp only
    rw [readV_texts _ τ (gl f) h]
    have : readV true [] = some [] := rfl
    rw [this]
    dsimp only
    rw [if_pos (by simp [fits, gl_len])]
    simp [gl_len]
  · rw [if_neg hn]
    unfold joinT
    rw [cc_at _ _ (ht _ fun x hx => List.mem_of_mem_take hx)]
    dsimp only
    rw [readV_texts _ τ _ (fun x hx => h x (List.mem_of_mem_take hx)), readV_texts _ τ _ (fun x hx => h x (List.mem_of_mem_drop hx))]
    dsimp only
    rw [if_pos (by simp [fits, gl_len]; omega)]
    have e : 8 - ((gl f).take (runS f).1).length - ((gl f).drop ((runS f).1 + (runS f).2)).length = (runS f).2 := by simp [gl_len]; omega
    rw [e, hgr]
/-! the texts of digits -/
theorem hexM_app (κ : UInt8) (k : Nat) (hk : hexV κ = some k) : ∀ (l : List UInt8) (acc v : Nat), hexM acc l = some v → hexM acc (l ++ [κ]) = if 65535 < v * 16 + k then none else some (v * 16 + k)
  | [], acc, v, h => by
    cases h
    rw [List.nil_append, hexM, hk]
    rfl
  | c :: r, acc, v, h => by
    rw [hexM] at h
    rw [List.cons_append, hexM]
    split at h
    · cases h
    · rename_i d hd
      split at h
      · cases h
      · rename_i hle
        simp only [if_neg hle]
        exact hexM_app κ k hk r _ v h
theorem hexD_ne (n : Nat) : hexD n ≠ [] := by
  by_cases h : n < 16
  · rw [hexD_one n h]; simp
  · rw [hexD_step n (by omega)]; simp
theorem hexD_all (n : Nat) : ∀ c ∈ hexD n, ∃ k, k < 16 ∧ c = hexC k := by
  induction n using Nat.strongRecOn with
  | _ n ih =>
    intro c hc
    by_cases h : n < 16
    · rw [hexD_one n h] at hc; simp at hc; exact ⟨n, h, hc⟩
    · rw [hexD_step n (by omega)] at hc
      rcases List.mem_append.1 hc with hc | hc
      · exact ih (n / 16) (by omega) c hc
      · simp at hc; exact ⟨n % 16, by omega, hc⟩
theorem hexM_hexD (κ : UInt8 → UInt8) (hκ : ∀ k, k < 16 → hexV (κ (hexC k)) = some k) (n : Nat) : n < 65536 → hexM 0 ((hexD n).map κ) = some n := by
  induction n using Nat.strongRecOn with
  | _ n ih =>
    intro hn
    by_cases h : n < 16
    · rw [hexD_one n h, List.map_cons, List.map_nil, hexM, hκ n h]
      simp only [hexM]
      rw [if_neg (by omega)]
      simp
    · rw [hexD_step n (by omega), List.map_append, List.map_cons, List.map_nil, hexM_app _ (n % 16) (hκ _ (by omega)) _ 0 (n / 16) (ih (n / 16) (by omega) (by omega)), if_neg (by omega)]
      congr 1
      omega
theorem text_hex (κ : UInt8 → UInt8) (hκ : ∀ k, k < 16 → hexV (κ (hexC k)) = some k) (n : Nat) (hn : n < 65536) : IsText ((hexD n).map κ) n := by
  refine ⟨fun e => hexD_ne n (List.map_eq_nil_iff.1 e), fun hm => ?_, ?_⟩
  · obtain ⟨c, hc, he⟩ := List.mem_map.1 hm
    obtain ⟨k, hk, rfl⟩ := hexD_all n c hc
    have := hκ k hk
    rw [he, show hexV 58 = none by decide] at this
    cases this
  · unfold grpV hexP
    rw [if_neg (by have := hexD_len n hn; simp; omega), if_neg (fun e => hexD_ne n (List.map_eq_nil_iff.1 e))]
    exact hexM_hexD κ hκ n hn
theorem map_tail (κ : UInt8 → UInt8) (h58 : κ 58 = 58) : ∀ ts : List (List UInt8), (Lib.joinTail [58] ts).map κ = Lib.joinTail [58] (ts.map (List.map κ))
  | [] => rfl
  | t :: r => by
    have e : ∀ (y : List UInt8) r, Lib.joinTail [58] (y :: r) = 58 :: (y ++ Lib.joinTail [58] r) := fun y r => by simp [Lib.joinTail]
    rw [e, List.map_cons, List.map_append, map_tail κ h58 r, List.map_cons, e, h58]
theorem map_join (κ : UInt8 → UInt8) (h58 : κ 58 = 58) (ts : List (List UInt8)) : (Lib.join ts [58]).map κ = Lib.join (ts.map (List.map κ)) [58] := by
  cases ts with
  | nil => rfl
  | cons t r => rw [Lib.join_cons, List.map_append, map_tail κ h58, List.map_cons, Lib.join_cons]
theorem map_print (κ : UInt8 → UInt8) (h58 : κ 58 = 58) (f : Nat → Int) : (print6 f).map κ = printT (fun x => (hexD x).map κ) f := by
  unfold print6 printT joinT joinH
  split
  · rw [map_join κ h58, List.map_map]; rfl
  · rw [List.map_append, List.map_append, map_join κ h58, map_join κ h58, List.map_map, List.map_map]
    simp only [List.map_cons, List.map_nil, h58]
    rfl
/-- what is printed is read, whatever letters stand for the digits -/
theorem back6 (κ : UInt8 → UInt8) (h58 : κ 58 = 58) (hκ : ∀ k, k < 16 → hexV (κ (hexC k)) = some k) (f : Nat → Int) (hf : ∀ k, 0 ≤ f k ∧ f k ≤ 65535) : parse6 ((print6 f).map κ) = some (gl f) := by
  rw [map_print κ h58]
  exact parse_texts _ f (fun x hx => text_hex κ hκ x (gl_lt hf x hx))
theorem back6_id (f : Nat → Int) (hf : ∀ k, 0 ≤ f k ∧ f k ≤ 65535) : parse6 (print6 f) = some (gl f) := by
  have h := back6 id rfl (fun k hk => by
    have : ∀ k : Fin 16, hexV (id (hexC k)) = some (k : Nat) := by decide
    exact this ⟨k, hk⟩) f hf
  rwa [List.map_id] at h
/-! groups and numbers -/
theorem lf_gl (f : Nat → Int) (hf : ∀ k, 0 ≤ f k ∧ f k ≤ 65535) (i : Nat) (h : i < 8) : lf (gl f) i = f i := by
  unfold lf
  rw [List.getD, gl_get f i h]
  have := hf i
  simp
  omega
theorem ofN_congr {f g : Nat → Int} : ∀ j, (∀ i, i < j → f i = g i) → ofN f j = ofN g j
  | 0, _ => rfl
  | j + 1, h => by rw [ofN, ofN, ofN_congr j (fun i hi => h i (by omega)), h j (by omega)]
theorem scan_congr {f g : Nat → Int} : ∀ j, (∀ i, i < j → f i = g i) → scan f j = scan g j
  | 0, _ => rfl
  | j + 1, h => by rw [scan, scan, scan_congr j (fun i hi => h i (by omega)), h j (by omega)]
theorem runS_congr {f g : Nat → Int} (h : ∀ i, i < 8 → f i = g i) : runS f = runS g := by unfold runS; rw [scan_congr 8 h]
theorem gl_congr {f g : Nat → Int} (h : ∀ i, i < 8 → f i = g i) : gl f = gl g := by
  unfold gl
  apply List.map_congr_left
  intro i hi
  rw [h i (List.mem_range.1 hi)]
theorem print6_congr {f g : Nat → Int} (h : ∀ i, i < 8 → f i = g i) : print6 f = print6 g := by unfold print6; rw [runS_congr h, gl_congr h]
theorem grp_ofN (f : Nat → Int) (hf : ∀ k, 0 ≤ f k ∧ f k ≤ 65535) (i : Nat) (h : i < 8) : grp (ofN f 8) i = f i := by
  have h0 := hf 0
  have h1 := hf 1
  have h2 := hf 2
  have h3 := hf 3
  have h4 := hf 4
  have h5 := hf 5
  have h6 := hf 6
  have h7 := hf 7
  have o0 : ofN f 1 = 65536 * ofN f 0 + f 0 := rfl
  have o1 : ofN f 2 = 65536 * ofN f 1 + f 1 := rfl
  have o2 : ofN f 3 = 65536 * ofN f 2 + f 2 := rfl
  have o3 : ofN f 4 = 65536 * ofN f 3 + f 3 := rfl
  have o4 : ofN f 5 = 65536 * ofN f 4 + f 4 := rfl
  have o5 : ofN f 6 = 65536 * ofN f 5 + f 5 := rfl
  have o6 : ofN f 7 = 65536 * ofN f 6 + f 6 := rfl
  have o7 : ofN f 8 = 65536 * ofN f 7 + f 7 := rfl
  have oz : ofN f 0 = 0 := rfl
  have hM : MM = 340282366920938463463374607431768211456 := rfl
  unfold grp
  rcases i with _ | _ | _ | _ | _ | _ | _ | _ | i
  · show (ofN f 8) % MM / ((2 : Int) ^ 112) % 65536 = f 0
    rw [show (2 : Int) ^ 112 = 5192296858534827628530496329220096 from rfl, hM]
    omega
  · show (ofN f 8) % MM / ((2 : Int) ^ 96) % 65536 = f 1
    rw [show (2 : Int) ^ 96 = 79228162514264337593543950336 from rfl, hM]
    omega
  · show (ofN f 8) % MM / ((2 : Int) ^ 80) % 65536 = f 2
    rw [show (2 : Int) ^ 80 = 1208925819614629174706176 from rfl, hM]
    omega
  · show (ofN f 8) % MM / ((2 : Int) ^ 64) % 65536 = f 3
    rw [show (2 : Int) ^ 64 = 18446744073709551616 from rfl, hM]
    omega
  · show (ofN f 8) % MM / ((2 : Int) ^ 48) % 65536 = f 4
    rw [show (2 : Int) ^ 48 = 281474976710656 from rfl, hM]
    omega
  · show (ofN f 8) % MM / ((2 : Int) ^ 32) % 65536 = f 5
    rw [show (2 : Int) ^ 32 = 4294967296 from rfl, hM]
    omega
  · show (ofN f 8) % MM / ((2 : Int) ^ 16) % 65536 = f 6
    rw [show (2 : Int) ^ 16 = 65536 from rfl, hM]
    omega
  · show (ofN f 8) % MM / ((2 : Int) ^ 0) % 65536 = f 7
    rw [show (2 : Int) ^ 0 = 1 from rfl, hM]
    omega
  · omega
theorem ofN_grp (A : Int) : ofN (grp A) 8 = A % MM := by
  have h0 : 0 ≤ A % MM := Int.emod_nonneg _ (by decide)
  have h1 : A % MM < MM := Int.emod_lt_of_pos _ (by decide)
  have hM : MM = 340282366920938463463374607431768211456 := rfl
  have g0 : grp A 0 = A % MM / 5192296858534827628530496329220096 % 65536 := rfl
  have g1 : grp A 1 = A % MM / 79228162514264337593543950336 % 65536 := rfl
  have g2 : grp A 2 = A % MM / 1208925819614629174706176 % 65536 := rfl
  have g3 : grp A 3 = A % MM / 18446744073709551616 % 65536 := rfl
  have g4 : grp A 4 = A % MM / 281474976710656 % 65536 := rfl
  have g5 : grp A 5 = A % MM / 4294967296 % 65536 := rfl
  have g6 : grp A 6 = A % MM / 65536 % 65536 := rfl
  have g7 : grp A 7 = A % MM / 1 % 65536 := rfl
  simp only [ofN]
  rw [g0, g1, g2, g3, g4, g5, g6, g7]
  generalize A % MM = a at *
  omega
end Go.Proofs.YtkenkjdelhmaoaaDoor
