/- G0, RangeNA, RangeRA, G1, P4: what the theorem needs of these texts. No conditions beyond those that are written. -/
import Derived.Test.YtbekocknfpekoaaBP3
namespace Go.Proofs.Ytbekocknfpekoaa
set_option linter.unusedVariables false
set_option linter.unusedSimpArgs false
/-- the integers from lo to hi -/
def ivl (lo hi : Int) : List Int := (List.range (hi - lo + 1).toNat).map (fun k : Nat => lo + (k : Int))
theorem ivl_length (lo hi : Int) : (ivl lo hi).length = (hi - lo + 1).toNat := by simp [ivl]
theorem ivl_get {lo hi : Int} {k : Nat} (h : k < (hi - lo + 1).toNat) : (ivl lo hi)[k]? = some (lo + (k : Int)) := by
  unfold ivl
  rw [List.getElem?_map, List.getElem?_range h]; rfl
theorem ivl_none {lo hi : Int} (h : hi < lo) : ivl lo hi = [] := by
  unfold ivl
  rw [show (hi - lo + 1).toNat = 0 by omega]; rfl
theorem ivl_cons {lo hi : Int} (h : lo ≤ hi) : ivl lo hi = lo :: ivl (lo + 1) hi := by
  unfold ivl
  rw [show (hi - lo + 1).toNat = (hi - (lo + 1) + 1).toNat + 1 by omega, List.range_succ_eq_map, List.map_cons, List.map_map]
  congr 1
  · simp
  · apply List.map_congr_left; intro k _; simp; omega
theorem filter_ivl (l u hi : Int) : ∀ (n : Nat) (lo : Int), (hi - lo + 1).toNat = n → (ivl lo hi).filter (fun x => decide (l ≤ x) && decide (x ≤ u)) = ivl (max lo l) (min hi u)
  | 0, lo, h => by
    rw [ivl_none (by omega), ivl_none (by omega)]; rfl
  | n + 1, lo, h => by
    rw [ivl_cons (by omega), List.filter_cons, filter_ivl l u hi n (lo + 1) (by omega)]
    by_cases h1 : l ≤ lo
    · by_cases h2 : lo ≤ u
      · rw [if_pos (by simp [h1, h2]), show max (lo + 1) l = lo + 1 by omega, show max lo l = lo by omega, ← ivl_cons (by omega)]
      · rw [if_neg (by simp [h2]), ivl_none (by omega), ivl_none (by omega)]
    · rw [if_neg (by simp [h1]), show max (lo + 1) l = max lo l by omega]
theorem map_ivl (c lo hi : Int) : (ivl lo hi).map (fun x => x + c) = ivl (lo + c) (hi + c) := by
  unfold ivl
  rw [List.map_map, show hi + c - (lo + c) + 1 = hi - lo + 1 by omega]
  apply List.map_congr_left; intro k _; simp; omega
/-- the nodes on a height, of two chains up to a and b -/
def lineN (a b h : Int) : List (Int × Int) := (ivl (max (h - b) 0) (min h a)).map (fun x => (x, h - x))
/-- how many -/
def cntH (a b h : Int) : Nat := (min h a - max (h - b) 0 + 1).toNat
theorem lineN_length (a b h : Int) : (lineN a b h).length = cntH a b h := by unfold lineN; rw [List.length_map, ivl_length]; rfl
theorem lineN_get {a b h : Int} {k : Nat} (hk : k < cntH a b h) : (lineN a b h)[k]? = some (max (h - b) 0 + (k : Int), h - (max (h - b) 0 + (k : Int))) := by
  unfold lineN
  rw [List.getElem?_map, ivl_get hk]; rfl
/-- the nodes on the heights ahead of H -/
def upto (a b : Int) (H : Nat) : List (Int × Int) := (List.range H).flatMap (fun h : Nat => lineN a b (h : Int))
def posF (a b : Int) : Nat → Nat
  | 0 => 0
  | H + 1 => posF a b H + cntH a b (H : Int)
/-- all nodes -/
def walkN (a b : Int) : List (Int × Int) := upto a b (a + b + 1).toNat
theorem upto_succ (a b : Int) (H : Nat) : upto a b (H + 1) = upto a b H ++ lineN a b (H : Int) := by
  unfold upto
  rw [List.range_succ, List.flatMap_append]; simp
theorem upto_length (a b : Int) : ∀ H, (upto a b H).length = posF a b H
  | 0 => rfl
  | H + 1 => by rw [upto_succ, List.length_append, upto_length a b H, lineN_length]; rfl
theorem posF_mono (a b : Int) {H H' : Nat} (h : H ≤ H') : posF a b H ≤ posF a b H' := by
  induction h with
  | refl => exact Nat.le_refl _
  | step _ ih => exact Nat.le_trans ih (Nat.le_add_right _ _)
theorem upto_get (a b : Int) {H H' k : Nat} (h : H < H') (hk : k < cntH a b (H : Int)) : (upto a b H')[posF a b H + k]? = some (max ((H : Int) - b) 0 + (k : Int), (H : Int) - (max ((H : Int) - b) 0 + (k : Int))) := by
  induction h with
  | refl =>
    show (upto a b (H + 1))[_]? = _
    rw [upto_succ, List.getElem?_append_right (by rw [upto_length]; omega), upto_length, Nat.add_sub_cancel_left]
    exact lineN_get hk
  | @step m hm ih =>
    rw [upto_succ, List.getElem?_append_left (by
      rw [upto_length]
      have := posF_mono a b hm
      show posF a b H + k < posF a b m
      have e : posF a b (H + 1) = posF a b H + cntH a b (H : Int) := rfl
      have e2 : posF a b H.succ = posF a b (H + 1) := rfl
      omega)]
    exact ih
/-- what stands at a place lies on some height -/
theorem upto_find (a b : Int) : ∀ (H i : Nat), i < posF a b H → ∃ h k : Nat, h < H ∧ k < cntH a b (h : Int) ∧ i = posF a b h + k
  | 0, i, h => by cases h
  | H + 1, i, h => by
    by_cases h1 : i < posF a b H
    · obtain ⟨h', k, h2, h3, h4⟩ := upto_find a b H i h1
      exact ⟨h', k, by omega, h3, h4⟩
    · have e : posF a b (H + 1) = posF a b H + cntH a b (H : Int) := rfl
      exact ⟨H, i - posF a b H, by omega, by omega, by omega⟩
/-- how many nodes there are -/
theorem posF_grow (a b : Int) (ha : 0 ≤ a) (hb : 0 ≤ b) : ∀ H : Nat, (posF (a + 1) b H : Int) = posF a b H + max 0 (min ((H : Int) - (a + 1)) (b + 1))
  | 0 => by show (0 : Int) = 0 + _; omega
  | H + 1 => by
    have ih := posF_grow a b ha hb H
    have e1 : posF (a + 1) b (H + 1) = posF (a + 1) b H + cntH (a + 1) b (H : Int) := rfl
    have e2 : posF a b (H + 1) = posF a b H + cntH a b (H : Int) := rfl
    rw [e1, e2]
    unfold cntH
    omega
theorem posF_zero (b : Int) (hb : 0 ≤ b) : ∀ H : Nat, (posF 0 b H : Int) = min (H : Int) (b + 1)
  | 0 => by show (0 : Int) = _; omega
  | H + 1 => by
    have ih := posF_zero b hb H
    have e1 : posF 0 b (H + 1) = posF 0 b H + cntH 0 b (H : Int) := rfl
    rw [e1]
    unfold cntH
    omega
theorem posF_all (b : Int) (hb : 0 ≤ b) : ∀ (a : Nat) (H : Nat), (a : Int) + b + 1 ≤ H → (posF a b H : Int) = ((a : Int) + 1) * (b + 1)
  | 0, H, h => by
    have := posF_zero b hb H
    rw [Int.natCast_zero, this]
    simp at h ⊢
    omega
  | a + 1, H, h => by
    have h1 := posF_grow a b (by omega) hb H
    have h2 := posF_all b hb a H (by omega)
    rw [Int.natCast_succ, h1, h2]
    have : ((a : Int) + 1 + 1) * (b + 1) = ((a : Int) + 1) * (b + 1) + (b + 1) := by rw [Int.add_mul ((a : Int) + 1) 1]; omega
    omega
theorem walkN_length {a b : Int} (ha : 0 ≤ a) (hb : 0 ≤ b) : ((walkN a b).length : Int) = (a + 1) * (b + 1) := by
  unfold walkN
  rw [upto_length]
  obtain ⟨n, rfl⟩ : ∃ n : Nat, a = n := ⟨a.toNat, by omega⟩
  exact posF_all b hb n _ (by omega)
/-- a node's place -/
def placeN (a b x y : Int) : Int := if 0 ≤ x ∧ x ≤ a ∧ 0 ≤ y ∧ y ≤ b then (posF a b (x + y).toNat : Int) + (x - max (x + y - b) 0) else -1
theorem walkN_get {a b : Int} (ha : -1 ≤ a) (hb : 0 ≤ b) {i : Nat} (h : i < (walkN a b).length) : ∃ x y, (walkN a b)[i]? = some (x, y) ∧ (0 ≤ x ∧ x ≤ a ∧ 0 ≤ y ∧ y ≤ b) ∧ placeN a b x y = i := by
  unfold walkN at *
  rw [upto_length] at h
  obtain ⟨H, k, h1, h2, rfl⟩ := upto_find a b _ _ h
  have g := @upto_get a b H _ k h1 h2
  unfold cntH at h2
  refine ⟨_, _, g, by omega, ?_⟩
  unfold placeN
  rw [if_pos (by omega)]
  rw [show (max ((H : Int) - b) 0 + (k : Int) + ((H : Int) - (max ((H : Int) - b) 0 + (k : Int)))) = H by omega, Int.toNat_natCast]
  omega
/-- the nodes above one: those of the rest of both chains -/
theorem filter_above_line {a b x0 y0 h : Int} (hx : 0 ≤ x0) (hy : 0 ≤ y0) : (lineN a b h).filter (fun p => decide (x0 ≤ p.1) && decide (y0 ≤ p.2)) = (lineN (a - x0) (b - y0) (h - x0 - y0)).map (fun p => (p.1 + x0, p.2 + y0)) := by
  unfold lineN
  rw [List.filter_map, List.map_map]
  have : ((fun p : Int × Int => decide (x0 ≤ p.1) && decide (y0 ≤ p.2)) ∘ fun x => (x, h - x)) = fun x => decide (x0 ≤ x) && decide (x ≤ h - y0) := by
    funext x
    simp only [Function.comp]
    congr 1
    rw [decide_eq_decide]; omega
  rw [this, filter_ivl _ _ _ _ _ rfl]
  have e : ((fun p : Int × Int => (p.1 + x0, p.2 + y0)) ∘ fun x => (x, h - x0 - y0 - x)) = (fun x => (x, h - x)) ∘ fun x => x + x0 := by
    funext x
    simp only [Function.comp, Prod.mk.injEq]
    exact ⟨trivial, by omega⟩
  rw [e, ← List.map_map, map_ivl]
  congr 2
  · omega
  · omega
theorem filter_above_upto {a b x0 y0 : Int} (hx : 0 ≤ x0) (hy : 0 ≤ y0) : ∀ H : Nat, (upto a b H).filter (fun p => decide (x0 ≤ p.1) && decide (y0 ≤ p.2)) = (upto (a - x0) (b - y0) ((H : Int) - x0 - y0).toNat).map (fun p => (p.1 + x0, p.2 + y0))
  | 0 => by
    rw [show (((0 : Nat) : Int) - x0 - y0).toNat = 0 by omega]; rfl
  | H + 1 => by
    rw [upto_succ, List.filter_append, filter_above_upto hx hy H, filter_above_line hx hy]
    by_cases e : x0 + y0 ≤ (H : Int)
    · rw [show (((H + 1 : Nat) : Int) - x0 - y0).toNat = ((H : Int) - x0 - y0).toNat + 1 by omega, upto_succ, List.map_append]
      congr 3
      omega
    · rw [show (((H + 1 : Nat) : Int) - x0 - y0).toNat = ((H : Int) - x0 - y0).toNat by omega]
      have : lineN (a - x0) (b - y0) ((H : Int) - x0 - y0) = [] := by
        unfold lineN; rw [ivl_none (by omega)]; rfl
      rw [this]; simp
theorem filter_above {a b x0 y0 : Int} (hx : 0 ≤ x0) (hy : 0 ≤ y0) (ha : x0 ≤ a) (hb : y0 ≤ b) : (walkN a b).filter (fun p => decide (x0 ≤ p.1) && decide (y0 ≤ p.2)) = (walkN (a - x0) (b - y0)).map (fun p => (p.1 + x0, p.2 + y0)) := by
  unfold walkN
  rw [filter_above_upto hx hy]
  congr 2
  omega
end Go.Proofs.Ytbekocknfpekoaa
namespace Go.Proofs.Ytbekocknfpekoaa
set_option linter.unusedVariables false
set_option linter.unusedSimpArgs false
open Go.RowKit
/-- the loop's variable is a new block each round: ob k, at the end of the heap -/
theorem wpIn_rangeNA {F : Fence} {n : Nat} {P : Program} {g : Operand} {ps : Array Tmp} {assign body : Code} {Q : Exit → Act → World → Prop} {a : Act} {w : World}
    (hro : F.round = none) (h1 : 1 ≤ n) {gf : Nat} {lb : Array Value} (hg : a.eval g = .func (.func gf) #[] lb) (hFg : F.fn gf) (eg : ∀ args w, (callFunc gf args).run P w = .ok (.enter gf args) w)
    {f : Nat → Array Value} {Kp : World → World → Prop} {N : Nat} {w0 : World} (hseq : SeqN F (n - 1) P gf lb f Kp N w0)
    (hKt : ∀ {A B C : World}, Kp A B → Kp B C → Kp A C) (hKb : ∀ (W : World) (l : Nat) (o o' : Obj), w.heap.size ≤ l → W.heap[l]? = some o → o.isCells = false → o.isWalk = false → Kp W (W.putObj l o')) (hKa : ∀ (W : World) (o : Obj), w.heap.size ≤ W.heap.size → Kp W (W.alloc o)) (hb0 : Below w0.heap.size w0 w) (hps : ∀ k, (f k).size = ps.size)
    (I : Nat → World → Prop) (Ix : Code → Nat → World → Prop) (hI : OwnFrom w.heap.size I) (hIx : ∀ c, OwnFrom w.heap.size (Ix c)) (h0 : I 0 w) (ob : Nat → Obj) (a1 : Nat → Nat → Act)
    (hassign : ∀ (l k : Nat) (W : World) (K : Act → World → Prop), K (a1 k W.heap.size) (W.alloc (ob k)) →
      assign.wpIn (F.inRound l) (n - 1 - 1) P (Exit.then K (fun _ _ _ => False)) { tmps := (ps.zip (f k)).foldl (fun t (p, v) => t.setIfInBounds p v) a.tmps, defers := [] } W)
    (hbody : ∀ (l k b : Nat) (W : World), k < N → I k W → W.heap[b]? = some (ob k) → w.heap.size ≤ b → body.wpIn (F.inRound l) (n - 1 - 1) P (roundQ w.heap.size Kp I Ix k W) (a1 k b) W)
    (hdone : ∀ (D : Nat) (W : World), w.heap.size ≤ D → I N W → W.heap[D]? = some (.deferred (some [])) → Q .normal { a with defers := { target := .collected D, args := #[] } :: a.defers } W)
    (hstop : ∀ (D : Nat) (c : Code) (k : Nat) (W : World), w.heap.size ≤ D → k ≤ N → Ix c k W → W.heap[D]? = some (.deferred (some [])) → c.wpIn F n P Q { a with defers := { target := .collected D, args := #[] } :: a.defers } W) :
    (Code.rangeFunc g ps assign body).wpIn F n P Q a w := by
  refine wpIn_rangeFunc fun fn hfn => ?_
  rw [hro]
  -- the loop's record, the block for deferred calls below it
  obtain ⟨rec, hrec⟩ : ∃ rec : LoopState → Option Code → Loop, rec = fun st pe => { state := st, pending := pe, fn, tmps := a.tmps, params := ps, assign, body, defers := w.heap.size } := ⟨_, rfl⟩
  obtain ⟨V, hV⟩ : ∃ V, (w.alloc (.deferred (some []))).alloc (.loop (rec .ready none)) = V := ⟨_, rfl⟩
  have rec1 : V.heap[w.heap.size + 1]? = some (.loop (rec .ready none)) := by
    rw [← hV]; have := World.alloc_heap_new (w.alloc (.deferred (some []))) (.loop (rec .ready none)); rwa [World.size_alloc] at this
  have def1 : V.heap[w.heap.size]? = some (.deferred (some [])) := by
    rw [← hV]; exact (Below.heap_alloc _ _ _ (by simp)).trans (World.alloc_heap_new w _)
  have I1 : I 0 V := by rw [← hV]; exact hI.alloc _ (hI.alloc _ h0)
  have B1 : Below w0.heap.size w0 V := by
    rw [← hV]; exact hb0.trans ((((Below.refl _ w).alloc (Nat.le_refl _) _).alloc (by simp) _).mono hb0.size)
  have away : ∀ {A : World} {row : Option Nat}, (∀ r, row = some r → V.heap.size ≤ r ∧ ∃ o : Obj, A.heap[r]? = some o ∧ o.isWalk = true) → (∀ r, row = some r → w.heap.size ≤ r ∧ ∃ o : Obj, A.heap[r]? = some o ∧ o.isCells = false) :=
    fun hr r e => by obtain ⟨hB, o, ho, hw⟩ := hr r e; exact ⟨by rw [← hV] at hB; simp at hB; omega, o, ho, Obj.not_cells_of_walk hw⟩
  refine ⟨w.heap.size + 1, [{ target := .collected w.heap.size, args := #[] }], V, { target := .fn (.func gf) lb, args := #[.func (.yield (w.heap.size + 1)) #[] #[]] }, V, gf,
    #[.func (.yield (w.heap.size + 1)) #[] #[]] ++ lb, V, ?_, ?_, ?_, ?_, fun _ => h1, ?_⟩
  · rw [← hV, hrec]; exact run_enterLoop_outer _ _ _ _ _
  · simp only [resolve, hg]; simp [go_sem]
  · intro f' hf'; simp [Target.leads] at hf'; subst hf'; exact hFg
  · simp [invoke, go_sem, eg]
  refine (hseq (w.heap.size + 1)
    (fun k W => I k W ∧ W.heap[w.heap.size + 1]? = some (.loop (rec .ready none)) ∧ W.heap[w.heap.size]? = some (.deferred (some [])))
    (fun k W => ∃ c, Ix c k W ∧ W.heap[w.heap.size + 1]? = some (.loop (rec .done (some c))) ∧ W.heap[w.heap.size]? = some (.deferred (some [])))
    V B1
    (fun s A B row hs hg' hr => ⟨hI s A B row hs.1 hg' (away hr), (grownBy_keeps hg' (fun r e => (hr r e).2) hs.2.1 rfl).trans hs.2.1, (grownBy_keeps hg' (fun r e => (hr r e).2) hs.2.2 rfl).trans hs.2.2⟩)
    (fun s A B row hs hg' hr => hs.elim fun c hc => ⟨c, hIx c s A B row hc.1 hg' (away hr), (grownBy_keeps hg' (fun r e => (hr r e).2) hc.2.1 rfl).trans hc.2.1, (grownBy_keeps hg' (fun r e => (hr r e).2) hc.2.2 rfl).trans hc.2.2⟩)
    ?_ ⟨I1, rec1, def1⟩).mono ?_
  · rintro k W hk ⟨hi, hl, hd⟩
    have hlt : w.heap.size + 1 < W.heap.size := (Array.getElem?_eq_some_iff.1 hl).1
    have hy := run_yield (P := P) (args := f k) hl (by rw [hrec]; exact hps k)
    rw [hrec] at hy
    have hlA : (W.alloc (ob k)).heap[w.heap.size + 1]? = some (.loop (rec .ready none)) := (Below.heap_alloc W (ob k) _ hlt).trans hl
    have hdA : (W.alloc (ob k)).heap[w.heap.size]? = some (.deferred (some [])) := (Below.heap_alloc W (ob k) _ (by omega)).trans hd
    have hbA := World.alloc_heap_new W (ob k)
    refine ⟨fn, _, assign, body, hy, roundIn_of_wpIn hfn (hassign _ k W _ ⟨_, run_beginRound hlA (by rw [hrec]), ?_⟩)⟩
    obtain ⟨U, hU⟩ : ∃ U, (W.alloc (ob k)).putObj (w.heap.size + 1) (.loop { rec .ready none with state := .busy }) = U := ⟨_, rfl⟩
    have l2 : U.heap[w.heap.size + 1]? = some (.loop { rec .ready none with state := .busy }) := by rw [← hU]; exact World.putObj_heap_same (by simp; omega)
    have d2 : U.heap[w.heap.size]? = some (.deferred (some [])) := by rw [← hU]; exact (World.putObj_heap_other (by omega)).trans hdA
    have k2 : Kp W U := by rw [← hU]; exact hKt (hKa W _ (by omega)) (hKb _ _ _ _ (by omega) hlA rfl rfl)
    have i2 : I k U := by rw [← hU]; exact hI.putObj _ (hI.alloc _ hi) (by omega) hlA rfl
    have b2 : U.heap[W.heap.size]? = some (ob k) := by rw [← hU]; exact (World.putObj_heap_other (by omega)).trans hbA
    rw [hU]
    refine wpIn_mono (hbody _ k W.heap.size U hk i2 b2 (by omega)) ?_
    have fin : ∀ (jump : Option Code) (X : World), KeepsFrom w.heap.size U X →
        (Instr.endRound (w.heap.size + 1) jump).run P X = .ok (.bool jump.isNone) (X.putObj (w.heap.size + 1) (.loop (rec (if jump.isNone then .ready else .done) jump))) ∧
        X.heap[w.heap.size + 1]? = some (.loop { rec .ready none with state := .busy }) ∧
        (X.putObj (w.heap.size + 1) (.loop (rec (if jump.isNone then .ready else .done) jump))).heap[w.heap.size + 1]? = some (.loop (rec (if jump.isNone then .ready else .done) jump)) ∧
        (X.putObj (w.heap.size + 1) (.loop (rec (if jump.isNone then .ready else .done) jump))).heap[w.heap.size]? = some (.deferred (some [])) := fun jump X hX => by
      have l3 := hX.same _ _ (by omega) l2 rfl
      have := run_endRound (P := P) jump l3
      rw [hrec] at this ⊢
      exact ⟨this, by rw [hrec] at l3; exact l3, World.putObj_heap_same (Array.getElem?_eq_some_iff.1 l3).1, (World.putObj_heap_other (by omega)).trans (hX.same _ _ (Nat.le_refl _) d2 rfl)⟩
    rintro e b X hp
    cases e with
    | normal =>
      obtain ⟨r, l3, l4, d4⟩ := fin none X hp.1
      exact ⟨_, _, r, .inl ⟨rfl, ⟨hI.putObj _ hp.2.2 (by omega) l3 rfl, l4, d4⟩, hKt (hKt k2 hp.2.1) (hKb _ _ _ _ (by omega) l3 rfl rfl)⟩⟩
    | ret =>
      obtain ⟨r, l3, l4, d4⟩ := fin (some .ret) X hp.1
      exact ⟨_, _, r, .inr ⟨rfl, .ret, (hIx _).putObj _ hp.2 (by omega) l3 rfl, l4, d4⟩⟩
    | exit id =>
      obtain ⟨r, l3, l4, d4⟩ := fin (some (.exit id)) X hp.1
      exact ⟨_, _, r, .inr ⟨rfl, .exit id, (hIx _).putObj _ hp.2 (by omega) l3 rfl, l4, d4⟩⟩
    | goto t =>
      obtain ⟨r, l3, l4, d4⟩ := fin (some (.goto t)) X hp.1
      exact ⟨_, _, r, .inr ⟨rfl, .goto t, (hIx _).putObj _ hp.2 (by omega) l3 rfl, l4, d4⟩⟩
    | panic ch => exact hp.elim
    | outgrown => exact hp.elim
  · rintro e X ⟨⟨v, rfl⟩, (⟨hi, hl, hd⟩ | ⟨k, hk, c, hi, hl, hd⟩)⟩
    · exact ⟨none, _, by have := run_endLoop (P := P) hl (by rw [hrec]; simp); rw [hrec] at this; exact this, hdone _ _ (Nat.le_refl _) (hI.putObj _ hi (by omega) hl rfl) ((World.putObj_heap_other (by omega)).trans hd)⟩
    · exact ⟨some c, _, by have := run_endLoop (P := P) hl (by rw [hrec]; simp); rw [hrec] at this; exact this, hstop _ c k _ (Nat.le_refl _) hk ((hIx c).putObj _ hi (by omega) hl rfl) ((World.putObj_heap_other (by omega)).trans hd)⟩
end Go.Proofs.Ytbekocknfpekoaa
namespace Go.Proofs.Ytbekocknfpekoaa
set_option linter.unusedVariables false
set_option linter.unusedSimpArgs false
open Go.RowKit
/-- what a round may turn: nothing that lay from L on but the row ρ; its row afterwards is that one or a new one -/
structure Turn (L : Nat) (ρ ρ' : Option Nat) (V V' : World) : Prop where
  size : V.heap.size ≤ V'.heap.size
  same : ∀ j, L ≤ j → j < V.heap.size → ρ ≠ some j → V'.heap[j]? = V.heap[j]?
  row : ρ' = ρ ∨ ∃ r, ρ' = some r ∧ V.heap.size ≤ r
/-- ρ is a block of cells -/
def Cellsy (ρ : Option Nat) (V : World) : Prop := ∀ r, ρ = some r → ∃ o : Obj, V.heap[r]? = some o ∧ o.isCells = true
theorem Cellsy.lt {ρ : Option Nat} {V : World} (h : Cellsy ρ V) {r : Nat} (e : ρ = some r) : r < V.heap.size := by
  obtain ⟨o, h1, _⟩ := h r e
  exact (Array.getElem?_eq_some_iff.1 h1).1
theorem Cellsy.ne {ρ : Option Nat} {V : World} (h : Cellsy ρ V) {j : Nat} {o : Obj} (ho : V.heap[j]? = some o) (hn : o.isCells = false) : ρ ≠ some j := fun e => by
  obtain ⟨o', h1, h2⟩ := h j e
  rw [ho] at h1; cases h1; rw [hn] at h2; cases h2
theorem Turn.keeps {L : Nat} {ρ ρ' : Option Nat} {V V' : World} (h : Turn L ρ ρ' V V') (hc : Cellsy ρ V) : KeepsFrom L V V' :=
  ⟨h.size, fun j o hj ho hn => (h.same j hj (Array.getElem?_eq_some_iff.1 ho).1 (hc.ne ho hn)).trans ho⟩
theorem Turn.mono {L L' : Nat} {ρ ρ' : Option Nat} {V V' : World} (h : Turn L ρ ρ' V V') (hl : L ≤ L') : Turn L' ρ ρ' V V' := ⟨h.size, fun j hj => h.same j (Nat.le_trans hl hj), h.row⟩
/-- all that lay below L, and the row ρ, lie as they lay -/
structure Stays (L : Nat) (ρ : Option Nat) (V V' : World) : Prop where
  os : V'.os = V.os
  tape : V'.tape = V.tape
  output : V'.output = V.output
  size : V.heap.size ≤ V'.heap.size
  block : ∀ j, j < V.heap.size → (j < L ∨ ρ = some j) → V'.heap[j]? = V.heap[j]?
theorem Stays.mono {L L' : Nat} {ρ : Option Nat} {V V' : World} (h : Stays L' ρ V V') (hl : L ≤ L') : Stays L ρ V V' :=
  ⟨h.os, h.tape, h.output, h.size, fun j hj hd => h.block j hj (hd.imp (fun x => Nat.lt_of_lt_of_le x hl) id)⟩
theorem Stays.trans {L : Nat} {ρ : Option Nat} {A B C : World} (h : Stays L ρ A B) (k : Stays L ρ B C) : Stays L ρ A C :=
  ⟨k.os.trans h.os, k.tape.trans h.tape, k.output.trans h.output, Nat.le_trans h.size k.size, fun j hj hd => (k.block j (Nat.lt_of_lt_of_le hj h.size) hd).trans (h.block j hj hd)⟩
theorem Stays.of_below {L : Nat} {ρ : Option Nat} {V V' : World} (h : Below V.heap.size V V') : Stays L ρ V V' := ⟨h.os, h.tape, h.output, h.size, fun j hj _ => h.block j hj⟩
theorem Stays.alloc {L : Nat} {ρ : Option Nat} (V : World) (o : Obj) : Stays L ρ V (V.alloc o) := .of_below ((Below.refl _ V).alloc (Nat.le_refl _) o)
theorem Stays.grown {L : Nat} {ρ row : Option Nat} {V V' : World} (hg : V.grownBy V' row) (hr : ∀ r, row = some r → L ≤ r ∧ ρ ≠ some r) : Stays L ρ V V' :=
  ⟨hg.os, hg.tape, hg.output, hg.size, fun j hj hd => hg.block j hj (fun e => by
    obtain ⟨h1, h2⟩ := hr j e.symm
    rcases hd with h | h
    · omega
    · exact h2 h)⟩
theorem Stays.putObj {L : Nat} {ρ : Option Nat} (V : World) {l : Nat} (o' : Obj) (hL : L ≤ l) (hn : ρ ≠ some l) : Stays L ρ V (V.putObj l o') :=
  .grown (grownBy_putObj' V l o') (fun r e => by cases e; exact ⟨hL, hn⟩)
theorem Stays.setCell {L : Nat} {ρ : Option Nat} (V : World) {p : Addr} (v : Value) (hL : L ≤ p.block) (hn : ρ ≠ some p.block) : Stays L ρ V (V.setCell p v) :=
  ⟨rfl, rfl, rfl, by show _ ≤ (V.heap.modify _ _).size; rw [Array.size_modify]; exact Nat.le_refl _, fun j hj hd => heap_setCell_other _ _ _ _ (fun e => by
    rcases hd with h | h
    · omega
    · exact hn (h.trans (by rw [e])))⟩
/-- the invariant speaks of what lies below L and of the row alone -/
def Local (L : Nat) (J : Nat → Option Nat → World → Prop) : Prop := ∀ k ρ V V', J k ρ V → Stays L ρ V V' → J k ρ V'
theorem Local.mono {L L' : Nat} {J : Nat → Option Nat → World → Prop} (h : Local L J) (hl : L ≤ L') : Local L' J := fun k ρ V V' hj hs => h k ρ V V' hj (hs.mono hl)
/-- the iterator hands yield f 0, f 1, .. up to N rounds, and stops where a round says no; the caller tells of its row -/
def SeqR (F : Fence) (n : Nat) (P : Program) (g : Nat) (lb : Array Value) (f : Nat → Array Value) (Kp : World → World → Prop) (N : Nat) (w : World) : Prop :=
  ∀ (l : Nat) (J Jx : Nat → Option Nat → World → Prop) (ρ0 : Option Nat) (W : World), Below w.heap.size w W → Local W.heap.size J → Local W.heap.size Jx → (∀ k ρ V, J k ρ V → Cellsy ρ V) → (∀ k ρ V, Jx k ρ V → Cellsy ρ V) →
    (∀ k ρ V, k < N → J k ρ V → YieldAt F (n - 1) P l (f k) V fun e V' => (e = .returned (.bool true) ∧ ∃ ρ', J (k + 1) ρ' V' ∧ Turn W.heap.size ρ ρ' V V' ∧ Kp V V') ∨ (e = .returned (.bool false) ∧ (∃ ρ', Jx (k + 1) ρ' V') ∧ KeepsFrom W.heap.size V V')) →
    J 0 ρ0 W → CallsIn F n P g (#[.func (.yield l) #[] #[]] ++ lb) W fun e W' => (∃ v, e = .returned v) ∧ ((∃ ρ, J N ρ W') ∨ ∃ k ρ, k ≤ N ∧ Jx k ρ W')
/-- how a round's body may be left -/
def roundR (B : Nat) (Kp : World → World → Prop) (I : Nat → Option Nat → World → Prop) (Ix : Code → Nat → Option Nat → World → Prop) (k : Nat) (ρ : Option Nat) (W : World) : Exit → Act → World → Prop
  | .normal, _, W' => Kp W W' ∧ ∃ ρ', I (k + 1) ρ' W' ∧ Turn B ρ ρ' W W'
  | .ret, _, W' => KeepsFrom B W W' ∧ ∃ ρ', Ix .ret (k + 1) ρ' W'
  | .exit id, _, W' => KeepsFrom B W W' ∧ ∃ ρ', Ix (.exit id) (k + 1) ρ' W'
  | .goto t, _, W' => KeepsFrom B W W' ∧ ∃ ρ', Ix (.goto t) (k + 1) ρ' W'
  | .panic _, _, _ => False
  | .outgrown, _, _ => False
/-- the loop's variable is a new block each round: ob k, at the end of the heap -/
theorem wpIn_rangeRA {F : Fence} {n : Nat} {P : Program} {g : Operand} {ps : Array Tmp} {assign body : Code} {Q : Exit → Act → World → Prop} {a : Act} {w : World}
    (hro : F.round = none) (h1 : 1 ≤ n) {gf : Nat} {lb : Array Value} (hg : a.eval g = .func (.func gf) #[] lb) (hFg : F.fn gf) (eg : ∀ args w, (callFunc gf args).run P w = .ok (.enter gf args) w)
    {f : Nat → Array Value} {Kp : World → World → Prop} {N : Nat} {w0 : World} (hseq : SeqR F (n - 1) P gf lb f Kp N w0)
    (hKt : ∀ {A B C : World}, Kp A B → Kp B C → Kp A C) (hKb : ∀ (W : World) (l : Nat) (o o' : Obj), w.heap.size ≤ l → W.heap[l]? = some o → o.isCells = false → o.isWalk = false → Kp W (W.putObj l o')) (hKa : ∀ (W : World) (o : Obj), w.heap.size ≤ W.heap.size → Kp W (W.alloc o)) (hb0 : Below w0.heap.size w0 w) (hps : ∀ k, (f k).size = ps.size)
    (I : Nat → Option Nat → World → Prop) (Ix : Code → Nat → Option Nat → World → Prop) (hI : Local w.heap.size I) (hIx : ∀ c, Local w.heap.size (Ix c)) (hIc : ∀ k ρ W, I k ρ W → Cellsy ρ W) (hIxc : ∀ c k ρ W, Ix c k ρ W → Cellsy ρ W) (ρ0 : Option Nat) (h0 : I 0 ρ0 w) (ob : Nat → Obj) (a1 : Nat → Nat → Act)
    (hassign : ∀ (l k : Nat) (W : World) (K : Act → World → Prop), K (a1 k W.heap.size) (W.alloc (ob k)) →
      assign.wpIn (F.inRound l) (n - 1 - 1) P (Exit.then K (fun _ _ _ => False)) { tmps := (ps.zip (f k)).foldl (fun t (p, v) => t.setIfInBounds p v) a.tmps, defers := [] } W)
    (hbody : ∀ (l k b : Nat) (ρ : Option Nat) (W : World), k < N → I k ρ W → W.heap[b]? = some (ob k) → w.heap.size ≤ b → ρ ≠ some b → body.wpIn (F.inRound l) (n - 1 - 1) P (roundR w.heap.size Kp I Ix k ρ W) (a1 k b) W)
    (hdone : ∀ (D : Nat) (ρ : Option Nat) (W : World), w.heap.size ≤ D → I N ρ W → W.heap[D]? = some (.deferred (some [])) → Q .normal { a with defers := { target := .collected D, args := #[] } :: a.defers } W)
    (hstop : ∀ (D : Nat) (c : Code) (k : Nat) (ρ : Option Nat) (W : World), w.heap.size ≤ D → k ≤ N → Ix c k ρ W → W.heap[D]? = some (.deferred (some [])) → c.wpIn F n P Q { a with defers := { target := .collected D, args := #[] } :: a.defers } W) :
    (Code.rangeFunc g ps assign body).wpIn F n P Q a w := by
  refine wpIn_rangeFunc fun fn hfn => ?_
  rw [hro]
  -- the loop's record, the block for deferred calls below it
  obtain ⟨rec, hrec⟩ : ∃ rec : LoopState → Option Code → Loop, rec = fun st pe => { state := st, pending := pe, fn, tmps := a.tmps, params := ps, assign, body, defers := w.heap.size } := ⟨_, rfl⟩
  obtain ⟨V, hV⟩ : ∃ V, (w.alloc (.deferred (some []))).alloc (.loop (rec .ready none)) = V := ⟨_, rfl⟩
  have rec1 : V.heap[w.heap.size + 1]? = some (.loop (rec .ready none)) := by
    rw [← hV]; have := World.alloc_heap_new (w.alloc (.deferred (some []))) (.loop (rec .ready none)); rwa [World.size_alloc] at this
  have def1 : V.heap[w.heap.size]? = some (.deferred (some [])) := by
    rw [← hV]; exact (Below.heap_alloc _ _ _ (by simp)).trans (World.alloc_heap_new w _)
  have I1 : I 0 ρ0 V := by rw [← hV]; exact hI _ _ _ _ (hI _ _ _ _ h0 (.alloc _ _)) (.alloc _ _)
  have Vs : V.heap.size = w.heap.size + 2 := by rw [← hV]; simp
  have B1 : Below w0.heap.size w0 V := by
    rw [← hV]; exact hb0.trans ((((Below.refl _ w).alloc (Nat.le_refl _) _).alloc (by simp) _).mono hb0.size)
  refine ⟨w.heap.size + 1, [{ target := .collected w.heap.size, args := #[] }], V, { target := .fn (.func gf) lb, args := #[.func (.yield (w.heap.size + 1)) #[] #[]] }, V, gf,
    #[.func (.yield (w.heap.size + 1)) #[] #[]] ++ lb, V, ?_, ?_, ?_, ?_, fun _ => h1, ?_⟩
  · rw [← hV, hrec]; exact run_enterLoop_outer _ _ _ _ _
  · simp only [resolve, hg]; simp [go_sem]
  · intro f' hf'; simp [Target.leads] at hf'; subst hf'; exact hFg
  · simp [invoke, go_sem, eg]
  refine (hseq (w.heap.size + 1)
    (fun k ρ W => I k ρ W ∧ W.heap[w.heap.size + 1]? = some (.loop (rec .ready none)) ∧ W.heap[w.heap.size]? = some (.deferred (some [])))
    (fun k ρ W => ∃ c, Ix c k ρ W ∧ W.heap[w.heap.size + 1]? = some (.loop (rec .done (some c))) ∧ W.heap[w.heap.size]? = some (.deferred (some [])))
    ρ0 V B1
    (fun k ρ A B hs hst => by
      have b1 := (Array.getElem?_eq_some_iff.1 hs.2.1).1
      exact ⟨hI _ _ _ _ hs.1 (hst.mono (by omega)), (hst.block _ b1 (.inl (by omega))).trans hs.2.1, (hst.block _ (by omega) (.inl (by omega))).trans hs.2.2⟩)
    (fun k ρ A B hs hst => by
      obtain ⟨c, hs⟩ := hs
      have b1 := (Array.getElem?_eq_some_iff.1 hs.2.1).1
      exact ⟨c, hIx c _ _ _ _ hs.1 (hst.mono (by omega)), (hst.block _ b1 (.inl (by omega))).trans hs.2.1, (hst.block _ (by omega) (.inl (by omega))).trans hs.2.2⟩)
    (fun k ρ W h => hIc k ρ W h.1) (fun k ρ W h => by obtain ⟨c, h⟩ := h; exact hIxc c k ρ W h.1) ?_ ⟨I1, rec1, def1⟩).mono ?_
  · rintro k ρ W hk ⟨hi, hl, hd⟩
    have hcy := hIc k ρ W hi
    have hlt : w.heap.size + 1 < W.heap.size := (Array.getElem?_eq_some_iff.1 hl).1
    have hy := run_yield (P := P) (args := f k) hl (by rw [hrec]; exact hps k)
    rw [hrec] at hy
    have hlA : (W.alloc (ob k)).heap[w.heap.size + 1]? = some (.loop (rec .ready none)) := (Below.heap_alloc W (ob k) _ hlt).trans hl
    have hdA : (W.alloc (ob k)).heap[w.heap.size]? = some (.deferred (some [])) := (Below.heap_alloc W (ob k) _ (by omega)).trans hd
    have hbA := World.alloc_heap_new W (ob k)
    refine ⟨fn, _, assign, body, hy, roundIn_of_wpIn hfn (hassign _ k W _ ⟨_, run_beginRound hlA (by rw [hrec]), ?_⟩)⟩
    obtain ⟨U, hU⟩ : ∃ U, (W.alloc (ob k)).putObj (w.heap.size + 1) (.loop { rec .ready none with state := .busy }) = U := ⟨_, rfl⟩
    have l2 : U.heap[w.heap.size + 1]? = some (.loop { rec .ready none with state := .busy }) := by rw [← hU]; exact World.putObj_heap_same (by simp; omega)
    have d2 : U.heap[w.heap.size]? = some (.deferred (some [])) := by rw [← hU]; exact (World.putObj_heap_other (by omega)).trans hdA
    have k2 : Kp W U := by rw [← hU]; exact hKt (hKa W _ (by omega)) (hKb _ _ _ _ (by omega) hlA rfl rfl)
    have i2 : I k ρ U := by rw [← hU]; exact hI _ _ _ _ (hI _ _ _ _ hi (.alloc _ _)) (.putObj _ _ (by omega) (hcy.ne hl rfl))
    have us : U.heap.size = W.heap.size + 1 := by rw [← hU]; simp
    have u2 : ∀ j, V.heap.size ≤ j → j < W.heap.size → U.heap[j]? = W.heap[j]? := fun j h1 h2 => by
      rw [← hU]; exact (World.putObj_heap_other (by omega)).trans (Below.heap_alloc W (ob k) j h2)
    have nb : ρ ≠ some W.heap.size := fun e => by have := hcy.lt e; omega
    have b2 : U.heap[W.heap.size]? = some (ob k) := by rw [← hU]; exact (World.putObj_heap_other (by omega)).trans hbA
    rw [hU]
    refine wpIn_mono (hbody _ k W.heap.size ρ U hk i2 b2 (by omega) nb) ?_
    have fin : ∀ (jump : Option Code) (X : World), KeepsFrom w.heap.size U X →
        (Instr.endRound (w.heap.size + 1) jump).run P X = .ok (.bool jump.isNone) (X.putObj (w.heap.size + 1) (.loop (rec (if jump.isNone then .ready else .done) jump))) ∧
        X.heap[w.heap.size + 1]? = some (.loop { rec .ready none with state := .busy }) ∧
        (X.putObj (w.heap.size + 1) (.loop (rec (if jump.isNone then .ready else .done) jump))).heap[w.heap.size + 1]? = some (.loop (rec (if jump.isNone then .ready else .done) jump)) ∧
        (X.putObj (w.heap.size + 1) (.loop (rec (if jump.isNone then .ready else .done) jump))).heap[w.heap.size]? = some (.deferred (some [])) := fun jump X hX => by
      have l3 := hX.same _ _ (by omega) l2 rfl
      have := run_endRound (P := P) jump l3
      rw [hrec] at this ⊢
      exact ⟨this, by rw [hrec] at l3; exact l3, World.putObj_heap_same (Array.getElem?_eq_some_iff.1 l3).1, (World.putObj_heap_other (by omega)).trans (hX.same _ _ (Nat.le_refl _) d2 rfl)⟩
    have kW : ∀ (o : Obj) (X : World), KeepsFrom w.heap.size U X → KeepsFrom V.heap.size W (X.putObj (w.heap.size + 1) o) := fun o X hX =>
      ⟨by have := hX.size; simp; omega, fun j o' hj h0 hc => by
        have hjW := (Array.getElem?_eq_some_iff.1 h0).1
        exact (World.putObj_heap_other (by omega)).trans (hX.same j o' (by omega) ((u2 j hj hjW).trans h0) hc)⟩
    rintro e b X hp
    cases e with
    | normal =>
      obtain ⟨hk3, ρ', hi3, ht3⟩ := hp
      have hkf := ht3.keeps (hIc k ρ U i2)
      obtain ⟨r, l3, l4, d4⟩ := fin none X hkf
      refine ⟨_, _, r, .inl ⟨rfl, ρ', ⟨hI _ _ _ _ hi3 (.putObj _ _ (by omega) ((hIc _ _ _ hi3).ne l3 rfl)), l4, d4⟩, ⟨(kW _ X hkf).size, fun j h1 h2 h3 => ?_, ?_⟩, hKt (hKt k2 hk3) (hKb _ _ _ _ (by omega) l3 rfl rfl)⟩⟩
      · exact (World.putObj_heap_other (by omega)).trans ((ht3.same j (by omega) (by omega) h3).trans (u2 j h1 h2))
      · rcases ht3.row with h | ⟨r', h1, h2⟩
        · exact .inl h
        · exact .inr ⟨r', h1, by omega⟩
    | ret =>
      obtain ⟨r, l3, l4, d4⟩ := fin (some .ret) X hp.1
      obtain ⟨hk3, ρ', hi3⟩ := hp
      exact ⟨_, _, r, .inr ⟨rfl, ⟨ρ', .ret, hIx _ _ _ _ _ hi3 (.putObj _ _ (by omega) ((hIxc _ _ _ _ hi3).ne l3 rfl)), l4, d4⟩, kW _ X hk3⟩⟩
    | exit id =>
      obtain ⟨r, l3, l4, d4⟩ := fin (some (.exit id)) X hp.1
      obtain ⟨hk3, ρ', hi3⟩ := hp
      exact ⟨_, _, r, .inr ⟨rfl, ⟨ρ', .exit id, hIx _ _ _ _ _ hi3 (.putObj _ _ (by omega) ((hIxc _ _ _ _ hi3).ne l3 rfl)), l4, d4⟩, kW _ X hk3⟩⟩
    | goto t =>
      obtain ⟨r, l3, l4, d4⟩ := fin (some (.goto t)) X hp.1
      obtain ⟨hk3, ρ', hi3⟩ := hp
      exact ⟨_, _, r, .inr ⟨rfl, ⟨ρ', .goto t, hIx _ _ _ _ _ hi3 (.putObj _ _ (by omega) ((hIxc _ _ _ _ hi3).ne l3 rfl)), l4, d4⟩, kW _ X hk3⟩⟩
    | panic ch => exact hp.elim
    | outgrown => exact hp.elim
  · rintro e X ⟨⟨v, rfl⟩, (⟨ρ, hi, hl, hd⟩ | ⟨k, ρ, hk, c, hi, hl, hd⟩)⟩
    · exact ⟨none, _, by have := run_endLoop (P := P) hl (by rw [hrec]; simp); rw [hrec] at this; exact this, hdone _ ρ _ (Nat.le_refl _) (hI _ _ _ _ hi (.putObj _ _ (by omega) ((hIc _ _ _ hi).ne hl rfl))) ((World.putObj_heap_other (by omega)).trans hd)⟩
    · exact ⟨some c, _, by have := run_endLoop (P := P) hl (by rw [hrec]; simp); rw [hrec] at this; exact this, hstop _ c k ρ _ (Nat.le_refl _) hk (hIx c _ _ _ _ hi (.putObj _ _ (by omega) ((hIxc _ _ _ _ hi).ne hl rfl))) ((World.putObj_heap_other (by omega)).trans hd)⟩
end Go.Proofs.Ytbekocknfpekoaa
namespace Go.Proofs.Ytbekocknfpekoaa
set_option linter.unusedVariables false
set_option linter.unusedSimpArgs false
open Go.RowKit
attribute [local go_sem] Oper.semAt_some
theorem wpListIn_appR {F : Fence} {n : Nat} {P : Program} {w w' : World} {ops : Array Oper} {rest : List Oper} {o : Oper} {a : Act} {Q : Exit → Act → World → Prop} (hg : o.guard = none) (s x : Operand) (t : TypeId) (hop : o.op = .call { callee := .builtin .append, args := #[s, x], argTypes := #[t, t] })
    {v bv v' : Value} (hs : a.eval s = v) (hx : a.eval x = bv) (hr : (Builtin.append_ #[t, t] o.type #[v, bv]).run P w = .ok v' w') (hK : wpListIn F n P ops Q rest (a.put o.dst v') w') : wpListIn F n P ops Q (o :: rest) a w := by
  refine wpListIn_plain hg fun K hK' => ?_
  unfold Oper.wpIn
  refine ⟨by simp [Oper.about, hop, resolve, Target.leads, Sem.run_pure], ?_⟩
  rw [Oper.semAt_plain F _ _ (by rw [hop]; intro c hc; cases hc)]
  unfold execOp
  simp only [hop, resolve, invoke, builtin, Sem.run_bind, Sem.run_pure, Result.andThen_ok, List.map_toArray, List.map_cons, List.map_nil, hs, hx, hr]
  exact hK' _ _ hK

theorem appK_below {base : Nat} {w0 w w' : World} {v : Value} {l : List Ke} {o : Obj} (ho : OwnK base w v l) (hB : Below base w0 w) (hbase : base ≤ w.heap.size) (hg : (w.alloc o).grownBy w' v.ownBlock) : Below base w0 w' := by
  have hbn : Below w.heap.size w (w.alloc o) := (Below.refl _ _).alloc (Nat.le_refl _) _
  exact (hB.trans (hbn.mono hbase)).grown hg (Nat.le_trans hbase hbn.size) (fun k hk => (ho.block _ hk).1)

theorem OwnK.grown {base : Nat} {w w' : World} {v : Value} {l : List Ke} {row : Option Nat} (h : OwnK base w v l) (hg : w.grownBy w' row) (hrow : ∀ r, row = some r → ∃ o : Obj, w.heap[r]? = some o ∧ o.isCells = false) : OwnK base w' v l :=
  h.kept (fun g cs t fr hgc => (hg.block g (Array.getElem?_eq_some_iff.1 hgc).1 (fun e => by obtain ⟨o, ho, hc⟩ := hrow g e.symm; rw [hgc] at ho; cases ho; cases hc)).trans hgc)
theorem OwnK.set {base : Nat} {w : World} {v : Value} {l : List Ke} (h : OwnK base w v l) {g : Nat} (i : Nat) (u : Value) (hg : g < base) : OwnK base (w.setCell ⟨g, i, none⟩ u) v l := by
  obtain ⟨hl, h⟩ := h
  refine ⟨hl, ?_⟩
  rcases h with h | ⟨g', cap, cur, hv, hbs, hr, h1⟩
  · exact .inl h
  · exact .inr ⟨g', cap, cur, hv, hbs, (heap_setCell_other w _ g' _ (by simp; omega)).trans hr, h1⟩
theorem rowK_app {base : Nat} {w w' : World} {v : Value} {l : List Ke} {o : Obj} (ho : OwnK base w v l) (hg : (w.alloc o).grownBy w' v.ownBlock) {g : Nat} {cs : Array Value} {t : TypeId} (R : Row w g cs t) (hb : g < base) : Row w' g cs t := by
  have R2 := R.alloc o
  exact (hg.block g R2.lt (fun e => by have := (ho.block g e.symm).1; omega)).trans R2
def cellsT (k : (Int × Int)) : List Value := [.int .i64 k.1, .int .i64 k.2]
def valsT (ls : List (Int × Int)) : List Value := ls.flatMap cellsT
theorem valsT_cons (k : (Int × Int)) (ls : List (Int × Int)) : valsT (k :: ls) = cellsT k ++ valsT ls := by unfold valsT; rw [List.flatMap_cons]
theorem valsT_app (a b : List (Int × Int)) : valsT (a ++ b) = valsT a ++ valsT b := by unfold valsT; rw [List.flatMap_append]
theorem valsT_length : ∀ (ls : List (Int × Int)), (valsT ls).length = ls.length * 2
  | [] => rfl
  | k :: r => by rw [valsT_cons, List.length_append, valsT_length r, List.length_cons]; show 2 + _ = _; omega
theorem valsT_one : ∀ (ls : List (Int × Int)), ∀ x ∈ valsT ls, x.oneCell' = true
  | [], x, h => by cases h
  | k :: r, x, h => by
    rw [valsT_cons] at h
    rcases List.mem_append.1 h with h | h
    · simp only [cellsT, List.mem_cons, List.not_mem_nil, or_false] at h
      rcases h with rfl | rfl <;> rfl
    · exact valsT_one r x h
theorem valsT_get : ∀ (ls : List (Int × Int)) (j i : Nat) (k : (Int × Int)), ls[j]? = some k → i < 2 → (valsT ls)[j * 2 + i]? = (cellsT k)[i]?
  | [], j, i, k, h, _ => by simp at h
  | a :: r, 0, i, k, h, hi => by
    simp at h; subst h
    rw [valsT_cons, Nat.zero_mul, Nat.zero_add, List.getElem?_append_left (by show i < 2; exact hi)]
  | a :: r, j + 1, i, k, h, hi => by
    rw [valsT_cons, List.getElem?_append_right (by show 2 ≤ _; omega)]
    rw [show (j + 1) * 2 + i - (cellsT a).length = j * 2 + i by show (j + 1) * 2 + i - 2 = _; omega]
    exact valsT_get r j i k (by simpa using h) hi
/-- the value v, a slice, reads as the keys ls -/
def TS (w : World) (v : Value) (ls : List (Int × Int)) : Prop := ∃ p c, v = .slice p ls.length c ∧ ls.length ≤ c ∧ (0 < ls.length → ∃ g o, p = some ⟨g, o, none⟩ ∧ g < w.heap.size ∧ ∀ (j : Nat) k, ls[j]? = some k → ∀ i x, (cellsT k)[i]? = some x → w.cell? ⟨g, o + (j * 2 + i), none⟩ = some x)
theorem TS.later {w w' : World} {v : Value} {ls : List (Int × Int)} (h : TS w v ls) (hb : Below w.heap.size w w') : TS w' v ls := by
  obtain ⟨p, c, rfl, h1, h2⟩ := h
  refine ⟨p, c, rfl, h1, fun h0 => ?_⟩
  obtain ⟨g, o, rfl, h3, h4⟩ := h2 h0
  exact ⟨g, o, rfl, Nat.lt_of_lt_of_le h3 hb.size, fun j k hk i x hx => cell_later hb (h4 j k hk i x hx)⟩
theorem TS.nil (w : World) : TS w (.slice none 0 0) [] := ⟨none, 0, rfl, Nat.le_refl _, fun h => by cases h⟩
def OwnT (base : Nat) (w : World) (v : Value) (ls : List (Int × Int)) : Prop := w.ownsRow base 27 2 v ls.length (valsT ls)
theorem OwnT.nil (base : Nat) (w : World) : OwnT base w (.slice none 0 0) [] := ⟨rfl, .inl ⟨rfl, rfl⟩⟩
/-- the row's block stands in another world as it stood -/
theorem OwnT.kept {base : Nat} {w w' : World} {v : Value} {l : List (Int × Int)} (h : OwnT base w v l) (hb : ∀ (g : Nat) (cs : Array Value) (t : TypeId) (fr : Nat × Nat), w.heap[g]? = some (.cells cs t fr) → w'.heap[g]? = some (.cells cs t fr)) : OwnT base w' v l := by
  obtain ⟨hl, h⟩ := h
  refine ⟨hl, ?_⟩
  rcases h with h | ⟨g, cap, cur, hv, hbs, hg, h1⟩
  · exact .inl h
  · exact .inr ⟨g, cap, cur, hv, hbs, hb _ _ _ _ hg, h1⟩
theorem OwnT.later {base : Nat} {w w' : World} {v : Value} {l : List (Int × Int)} (h : OwnT base w v l) (hb : Below w.heap.size w w') : OwnT base w' v l :=
  h.kept (fun g cs t fr hg => (hb.block g (Array.getElem?_eq_some_iff.1 hg).1).trans hg)
theorem OwnT.block {base : Nat} {w : World} {v : Value} {l : List (Int × Int)} (h : OwnT base w v l) (g : Nat) (hg : v.ownBlock = some g) : base ≤ g ∧ g < w.heap.size ∧ ∃ o : Obj, w.heap[g]? = some o ∧ o.isCells = true := by
  rcases h.2 with ⟨rfl, _⟩ | ⟨g', cap, cur, rfl, hbs, hr, _⟩
  · cases hg
  · have : g' = g := by simpa [Value.ownBlock] using hg
    subst this
    exact ⟨hbs, Row.lt (t := 27) hr, _, hr, rfl⟩
theorem OwnT.read {base : Nat} {w : World} {v : Value} {l : List (Int × Int)} (h : OwnT base w v l) : TS w v l := by
  obtain ⟨hl, h⟩ := h
  rcases h with ⟨rfl, h0⟩ | ⟨g, cap, cur, rfl, hb, hg, h1, h2, h3, h4⟩
  · exact ⟨none, 0, by rw [h0], by omega, fun h => by omega⟩
  · refine ⟨_, cap, rfl, by omega, fun _ => ⟨g, 0, rfl, Row.lt (t := 27) hg, fun j k hk i x hx => ?_⟩⟩
    rw [Nat.zero_add, cell_of_row w g _ cur _ _ hg, ← Array.getElem?_toList]
    have hj : j < l.length := (List.getElem?_eq_some_iff.1 hk).1
    have hi : i < 2 := (List.getElem?_eq_some_iff.1 hx).1
    have := valsT_get l j i k hk hi
    rw [hx, ← h4, List.getElem?_take, if_pos (by omega)] at this
    exact this
theorem infoT : ∃ i, Try.prog.info? 27 = some i ∧ i.zero = some (.agg #[.int .i64 0, .int .i64 0]) ∧ i.size = 2 ∧ i.bytes = 16 := by
  have h1 : (Try.prog.info? 27).bind (·.zero) = some (.agg #[.int .i64 0, .int .i64 0]) := by kernel_rfl
  have h2 : (Try.prog.info? 27).map (·.size) = some 2 := by kernel_rfl
  have h3 : (Try.prog.info? 27).map (·.bytes) = some 16 := by kernel_rfl
  cases hq : Try.prog.info? 27 with
  | none => rw [hq] at h2; cases h2
  | some i =>
    rw [hq] at h1 h2 h3
    exact ⟨i, rfl, by simpa using h1, by simpa using h2, by simpa using h3⟩
/-- one key appended that lies in a new block -/
theorem appT_one {base : Nat} {w : World} {v : Value} {l : List (Int × Int)} (k : (Int × Int)) (ho : OwnT base w v l) (hl : l.length ≤ 1000000) (hbase : base ≤ w.heap.size) :
    ∃ v' w', (Builtin.append_ #[49, 49] 49 #[v, .slice (some ⟨w.heap.size, 0, none⟩) 1 1]).run Try.prog (w.alloc (.cells #[.int .i64 k.1, .int .i64 k.2] 27)) = .ok v' w' ∧ OwnT base w' v' (l ++ [k]) ∧
      (w.alloc (.cells #[.int .i64 k.1, .int .i64 k.2] 27)).grownBy w' v.ownBlock := by
  have R1 := Row.new w #[.int .i64 k.1, .int .i64 k.2] 27
  have hbn : Below w.heap.size w (w.alloc (.cells #[.int .i64 k.1, .int .i64 k.2] 27)) := (Below.refl _ _).alloc (Nat.le_refl _) _
  have ho2 := ho.later hbn
  obtain ⟨i, i1, i2, i3, i4⟩ := infoT
  have hs : ∀ j u, (valsT [k])[j]? = some u → (w.alloc (.cells #[.int .i64 k.1, .int .i64 k.2] 27)).cell? ((⟨w.heap.size, 0, none⟩ : Addr).add j) = some u := by
    intro j u hu
    rw [Addr.add_mid, Nat.zero_add, R1.cell j]
    rw [valsT_cons] at hu
    have e : cellsT k ++ valsT [] = cellsT k := by show cellsT k ++ [] = _; rw [List.append_nil]
    rw [e] at hu
    rw [← hu, ← Array.getElem?_toList]
    rfl
  obtain ⟨v', w2, hr, k1, k2, _, k4⟩ := run_append_own_at (P := Try.prog) _ base 49 49 27 i (.agg #[.int .i64 0, .int .i64 0]) 2 16 Try.underlying49 i1 i2 i3 i4 rfl (by decide) v l.length (valsT l) ho2 ⟨w.heap.size, 0, none⟩ 1 1 (valsT [k]) (by rw [valsT_length]; rfl) hs (valsT_one [k]) (by unfold maxLen; omega) (by omega) (Nat.le_trans hbase hbn.size)
  refine ⟨v', w2, hr, ?_, k2⟩
  unfold OwnT
  rw [List.length_append, valsT_app]
  exact k1

theorem appT_below {base : Nat} {w0 w w' : World} {v : Value} {l : List (Int × Int)} {o : Obj} (ho : OwnT base w v l) (hB : Below base w0 w) (hbase : base ≤ w.heap.size) (hg : (w.alloc o).grownBy w' v.ownBlock) : Below base w0 w' := by
  have hbn : Below w.heap.size w (w.alloc o) := (Below.refl _ _).alloc (Nat.le_refl _) _
  exact (hB.trans (hbn.mono hbase)).grown hg (Nat.le_trans hbase hbn.size) (fun k hk => (ho.block _ hk).1)

theorem OwnT.grown {base : Nat} {w w' : World} {v : Value} {l : List (Int × Int)} {row : Option Nat} (h : OwnT base w v l) (hg : w.grownBy w' row) (hrow : ∀ r, row = some r → ∃ o : Obj, w.heap[r]? = some o ∧ o.isCells = false) : OwnT base w' v l :=
  h.kept (fun g cs t fr hgc => (hg.block g (Array.getElem?_eq_some_iff.1 hgc).1 (fun e => by obtain ⟨o, ho, hc⟩ := hrow g e.symm; rw [hgc] at ho; cases ho; cases hc)).trans hgc)
theorem OwnT.set {base : Nat} {w : World} {v : Value} {l : List (Int × Int)} (h : OwnT base w v l) {g : Nat} (i : Nat) (u : Value) (hg : g < base) : OwnT base (w.setCell ⟨g, i, none⟩ u) v l := by
  obtain ⟨hl, h⟩ := h
  refine ⟨hl, ?_⟩
  rcases h with h | ⟨g', cap, cur, hv, hbs, hr, h1⟩
  · exact .inl h
  · exact .inr ⟨g', cap, cur, hv, hbs, (heap_setCell_other w _ g' _ (by simp; omega)).trans hr, h1⟩
/-- what an append onto the own row, behind a new block, leaves of the rest -/
theorem keepsT_app {base : Nat} {w w' : World} {v : Value} {l : List (Int × Int)} {o : Obj} (ho : OwnT base w v l) (hg : (w.alloc o).grownBy w' v.ownBlock) (B : Nat) : KeepsFrom B w w' := by
  have hbn : Below w.heap.size w (w.alloc o) := (Below.refl _ _).alloc (Nat.le_refl _) _
  refine ⟨Nat.le_trans hbn.size hg.size, fun k o' _ hk hc => ?_⟩
  have hlt := (Array.getElem?_eq_some_iff.1 hk).1
  refine (hg.block k (Nat.lt_of_lt_of_le hlt hbn.size) (fun e => ?_)).trans ((hbn.block k hlt).trans hk)
  obtain ⟨_, _, o2, h2, h3⟩ := ho.block k e.symm
  rw [hk] at h2; cases h2; rw [hc] at h3; cases h3
theorem rowT_app {base : Nat} {w w' : World} {v : Value} {l : List (Int × Int)} {o : Obj} (ho : OwnT base w v l) (hg : (w.alloc o).grownBy w' v.ownBlock) {g : Nat} {cs : Array Value} {t : TypeId} (R : Row w g cs t) (hb : g < base) : Row w' g cs t := by
  have R2 := R.alloc o
  exact (hg.block g R2.lt (fun e => by have := (ho.block g e.symm).1; omega)).trans R2
theorem blockT_app {base : Nat} {w w' : World} {v : Value} {l : List (Int × Int)} {o : Obj} (ho : OwnT base w v l) (hg : (w.alloc o).grownBy w' v.ownBlock) {g : Nat} (hgw : g < w.heap.size) (hb : g < base) : w'.heap[g]? = w.heap[g]? :=
  (hg.block g (by simp; omega) (fun e => by have := (ho.block g e.symm).1; omega)).trans (Below.heap_alloc w o g hgw)

def cellsX (k : Px) : List Value := [.int .i64 k.a0, .int .i64 k.a1, .int .i64 k.k0.kind, .int .i64 k.k0.len, .int .u64 k.k0.h, .int .u64 k.k0.l, .string ⟨k.k0.path.toArray⟩, .int .i64 k.k1.kind, .int .i64 k.k1.len, .int .u64 k.k1.h, .int .u64 k.k1.l, .string ⟨k.k1.path.toArray⟩]
def valsX (ls : List Px) : List Value := ls.flatMap cellsX
theorem valsX_cons (k : Px) (ls : List Px) : valsX (k :: ls) = cellsX k ++ valsX ls := by unfold valsX; rw [List.flatMap_cons]
theorem valsX_app (a b : List Px) : valsX (a ++ b) = valsX a ++ valsX b := by unfold valsX; rw [List.flatMap_append]
theorem valsX_length : ∀ (ls : List Px), (valsX ls).length = ls.length * 12
  | [] => rfl
  | k :: r => by rw [valsX_cons, List.length_append, valsX_length r, List.length_cons]; show 12 + _ = _; omega
theorem valsX_one : ∀ (ls : List Px), ∀ x ∈ valsX ls, x.oneCell' = true
  | [], x, h => by cases h
  | k :: r, x, h => by
    rw [valsX_cons] at h
    rcases List.mem_append.1 h with h | h
    · simp only [cellsX, List.mem_cons, List.not_mem_nil, or_false] at h
      rcases h with rfl | rfl | rfl | rfl | rfl | rfl | rfl | rfl | rfl | rfl | rfl | rfl <;> rfl
    · exact valsX_one r x h
theorem valsX_get : ∀ (ls : List Px) (j i : Nat) (k : Px), ls[j]? = some k → i < 12 → (valsX ls)[j * 12 + i]? = (cellsX k)[i]?
  | [], j, i, k, h, _ => by simp at h
  | a :: r, 0, i, k, h, hi => by
    simp at h; subst h
    rw [valsX_cons, Nat.zero_mul, Nat.zero_add, List.getElem?_append_left (by show i < 12; exact hi)]
  | a :: r, j + 1, i, k, h, hi => by
    rw [valsX_cons, List.getElem?_append_right (by show 12 ≤ _; omega)]
    rw [show (j + 1) * 12 + i - (cellsX a).length = j * 12 + i by show (j + 1) * 12 + i - 12 = _; omega]
    exact valsX_get r j i k (by simpa using h) hi
/-- the value v, a slice, reads as the keys ls -/
def XS (w : World) (v : Value) (ls : List Px) : Prop := ∃ p c, v = .slice p ls.length c ∧ ls.length ≤ c ∧ (0 < ls.length → ∃ g o, p = some ⟨g, o, none⟩ ∧ g < w.heap.size ∧ ∀ (j : Nat) k, ls[j]? = some k → ∀ i x, (cellsX k)[i]? = some x → w.cell? ⟨g, o + (j * 12 + i), none⟩ = some x)
theorem XS.later {w w' : World} {v : Value} {ls : List Px} (h : XS w v ls) (hb : Below w.heap.size w w') : XS w' v ls := by
  obtain ⟨p, c, rfl, h1, h2⟩ := h
  refine ⟨p, c, rfl, h1, fun h0 => ?_⟩
  obtain ⟨g, o, rfl, h3, h4⟩ := h2 h0
  exact ⟨g, o, rfl, Nat.lt_of_lt_of_le h3 hb.size, fun j k hk i x hx => cell_later hb (h4 j k hk i x hx)⟩
theorem XS.nil (w : World) : XS w (.slice none 0 0) [] := ⟨none, 0, rfl, Nat.le_refl _, fun h => by cases h⟩
def OwnX (base : Nat) (w : World) (v : Value) (ls : List Px) : Prop := w.ownsRow base 33 12 v ls.length (valsX ls)
theorem OwnX.nil (base : Nat) (w : World) : OwnX base w (.slice none 0 0) [] := ⟨rfl, .inl ⟨rfl, rfl⟩⟩
/-- the row's block stands in another world as it stood -/
theorem OwnX.kept {base : Nat} {w w' : World} {v : Value} {l : List Px} (h : OwnX base w v l) (hb : ∀ (g : Nat) (cs : Array Value) (t : TypeId) (fr : Nat × Nat), w.heap[g]? = some (.cells cs t fr) → w'.heap[g]? = some (.cells cs t fr)) : OwnX base w' v l := by
  obtain ⟨hl, h⟩ := h
  refine ⟨hl, ?_⟩
  rcases h with h | ⟨g, cap, cur, hv, hbs, hg, h1⟩
  · exact .inl h
  · exact .inr ⟨g, cap, cur, hv, hbs, hb _ _ _ _ hg, h1⟩
theorem OwnX.later {base : Nat} {w w' : World} {v : Value} {l : List Px} (h : OwnX base w v l) (hb : Below w.heap.size w w') : OwnX base w' v l :=
  h.kept (fun g cs t fr hg => (hb.block g (Array.getElem?_eq_some_iff.1 hg).1).trans hg)
theorem OwnX.block {base : Nat} {w : World} {v : Value} {l : List Px} (h : OwnX base w v l) (g : Nat) (hg : v.ownBlock = some g) : base ≤ g ∧ g < w.heap.size ∧ ∃ o : Obj, w.heap[g]? = some o ∧ o.isCells = true := by
  rcases h.2 with ⟨rfl, _⟩ | ⟨g', cap, cur, rfl, hbs, hr, _⟩
  · cases hg
  · have : g' = g := by simpa [Value.ownBlock] using hg
    subst this
    exact ⟨hbs, Row.lt (t := 33) hr, _, hr, rfl⟩
theorem OwnX.read {base : Nat} {w : World} {v : Value} {l : List Px} (h : OwnX base w v l) : XS w v l := by
  obtain ⟨hl, h⟩ := h
  rcases h with ⟨rfl, h0⟩ | ⟨g, cap, cur, rfl, hb, hg, h1, h2, h3, h4⟩
  · exact ⟨none, 0, by rw [h0], by omega, fun h => by omega⟩
  · refine ⟨_, cap, rfl, by omega, fun _ => ⟨g, 0, rfl, Row.lt (t := 33) hg, fun j k hk i x hx => ?_⟩⟩
    rw [Nat.zero_add, cell_of_row w g _ cur _ _ hg, ← Array.getElem?_toList]
    have hj : j < l.length := (List.getElem?_eq_some_iff.1 hk).1
    have hi : i < 12 := (List.getElem?_eq_some_iff.1 hx).1
    have := valsX_get l j i k hk hi
    rw [hx, ← h4, List.getElem?_take, if_pos (by omega)] at this
    exact this
theorem infoX : ∃ i, Try.prog.info? 33 = some i ∧ i.zero = some (.agg #[.int .i64 0, .int .i64 0, .int .i64 0, .int .i64 0, .int .u64 0, .int .u64 0, .string ⟨#[]⟩, .int .i64 0, .int .i64 0, .int .u64 0, .int .u64 0, .string ⟨#[]⟩]) ∧ i.size = 12 ∧ i.bytes = 112 := by
  have h1 : (Try.prog.info? 33).bind (·.zero) = some (.agg #[.int .i64 0, .int .i64 0, .int .i64 0, .int .i64 0, .int .u64 0, .int .u64 0, .string ⟨#[]⟩, .int .i64 0, .int .i64 0, .int .u64 0, .int .u64 0, .string ⟨#[]⟩]) := by kernel_rfl
  have h2 : (Try.prog.info? 33).map (·.size) = some 12 := by kernel_rfl
  have h3 : (Try.prog.info? 33).map (·.bytes) = some 112 := by kernel_rfl
  cases hq : Try.prog.info? 33 with
  | none => rw [hq] at h2; cases h2
  | some i =>
    rw [hq] at h1 h2 h3
    exact ⟨i, rfl, by simpa using h1, by simpa using h2, by simpa using h3⟩
/-- one key appended that lies in a new block -/
theorem appX_one {base : Nat} {w : World} {v : Value} {l : List Px} (k : Px) (ho : OwnX base w v l) (hl : l.length ≤ 1000000) (hbase : base ≤ w.heap.size) :
    ∃ v' w', (Builtin.append_ #[60, 60] 60 #[v, .slice (some ⟨w.heap.size, 0, none⟩) 1 1]).run Try.prog (w.alloc (.cells #[.int .i64 k.a0, .int .i64 k.a1, .int .i64 k.k0.kind, .int .i64 k.k0.len, .int .u64 k.k0.h, .int .u64 k.k0.l, .string ⟨k.k0.path.toArray⟩, .int .i64 k.k1.kind, .int .i64 k.k1.len, .int .u64 k.k1.h, .int .u64 k.k1.l, .string ⟨k.k1.path.toArray⟩] 33)) = .ok v' w' ∧ OwnX base w' v' (l ++ [k]) ∧
      (w.alloc (.cells #[.int .i64 k.a0, .int .i64 k.a1, .int .i64 k.k0.kind, .int .i64 k.k0.len, .int .u64 k.k0.h, .int .u64 k.k0.l, .string ⟨k.k0.path.toArray⟩, .int .i64 k.k1.kind, .int .i64 k.k1.len, .int .u64 k.k1.h, .int .u64 k.k1.l, .string ⟨k.k1.path.toArray⟩] 33)).grownBy w' v.ownBlock := by
  have R1 := Row.new w #[.int .i64 k.a0, .int .i64 k.a1, .int .i64 k.k0.kind, .int .i64 k.k0.len, .int .u64 k.k0.h, .int .u64 k.k0.l, .string ⟨k.k0.path.toArray⟩, .int .i64 k.k1.kind, .int .i64 k.k1.len, .int .u64 k.k1.h, .int .u64 k.k1.l, .string ⟨k.k1.path.toArray⟩] 33
  have hbn : Below w.heap.size w (w.alloc (.cells #[.int .i64 k.a0, .int .i64 k.a1, .int .i64 k.k0.kind, .int .i64 k.k0.len, .int .u64 k.k0.h, .int .u64 k.k0.l, .string ⟨k.k0.path.toArray⟩, .int .i64 k.k1.kind, .int .i64 k.k1.len, .int .u64 k.k1.h, .int .u64 k.k1.l, .string ⟨k.k1.path.toArray⟩] 33)) := (Below.refl _ _).alloc (Nat.le_refl _) _
  have ho2 := ho.later hbn
  obtain ⟨i, i1, i2, i3, i4⟩ := infoX
  have hs : ∀ j u, (valsX [k])[j]? = some u → (w.alloc (.cells #[.int .i64 k.a0, .int .i64 k.a1, .int .i64 k.k0.kind, .int .i64 k.k0.len, .int .u64 k.k0.h, .int .u64 k.k0.l, .string ⟨k.k0.path.toArray⟩, .int .i64 k.k1.kind, .int .i64 k.k1.len, .int .u64 k.k1.h, .int .u64 k.k1.l, .string ⟨k.k1.path.toArray⟩] 33)).cell? ((⟨w.heap.size, 0, none⟩ : Addr).add j) = some u := by
    intro j u hu
    rw [Addr.add_mid, Nat.zero_add, R1.cell j]
    rw [valsX_cons] at hu
    have e : cellsX k ++ valsX [] = cellsX k := by show cellsX k ++ [] = _; rw [List.append_nil]
    rw [e] at hu
    rw [← hu, ← Array.getElem?_toList]
    rfl
  obtain ⟨v', w2, hr, k1, k2, _, k4⟩ := run_append_own_at (P := Try.prog) _ base 60 60 33 i (.agg #[.int .i64 0, .int .i64 0, .int .i64 0, .int .i64 0, .int .u64 0, .int .u64 0, .string ⟨#[]⟩, .int .i64 0, .int .i64 0, .int .u64 0, .int .u64 0, .string ⟨#[]⟩]) 12 112 Try.underlying60 i1 i2 i3 i4 rfl (by decide) v l.length (valsX l) ho2 ⟨w.heap.size, 0, none⟩ 1 1 (valsX [k]) (by rw [valsX_length]; rfl) hs (valsX_one [k]) (by unfold maxLen; omega) (by omega) (Nat.le_trans hbase hbn.size)
  refine ⟨v', w2, hr, ?_, k2⟩
  unfold OwnX
  rw [List.length_append, valsX_app]
  exact k1

theorem appX_below {base : Nat} {w0 w w' : World} {v : Value} {l : List Px} {o : Obj} (ho : OwnX base w v l) (hB : Below base w0 w) (hbase : base ≤ w.heap.size) (hg : (w.alloc o).grownBy w' v.ownBlock) : Below base w0 w' := by
  have hbn : Below w.heap.size w (w.alloc o) := (Below.refl _ _).alloc (Nat.le_refl _) _
  exact (hB.trans (hbn.mono hbase)).grown hg (Nat.le_trans hbase hbn.size) (fun k hk => (ho.block _ hk).1)

theorem OwnX.grown {base : Nat} {w w' : World} {v : Value} {l : List Px} {row : Option Nat} (h : OwnX base w v l) (hg : w.grownBy w' row) (hrow : ∀ r, row = some r → ∃ o : Obj, w.heap[r]? = some o ∧ o.isCells = false) : OwnX base w' v l :=
  h.kept (fun g cs t fr hgc => (hg.block g (Array.getElem?_eq_some_iff.1 hgc).1 (fun e => by obtain ⟨o, ho, hc⟩ := hrow g e.symm; rw [hgc] at ho; cases ho; cases hc)).trans hgc)
theorem OwnX.set {base : Nat} {w : World} {v : Value} {l : List Px} (h : OwnX base w v l) {g : Nat} (i : Nat) (u : Value) (hg : g < base) : OwnX base (w.setCell ⟨g, i, none⟩ u) v l := by
  obtain ⟨hl, h⟩ := h
  refine ⟨hl, ?_⟩
  rcases h with h | ⟨g', cap, cur, hv, hbs, hr, h1⟩
  · exact .inl h
  · exact .inr ⟨g', cap, cur, hv, hbs, (heap_setCell_other w _ g' _ (by simp; omega)).trans hr, h1⟩
theorem OwnK.cellsy {base : Nat} {w : World} {v : Value} {l : List Ke} (h : OwnK base w v l) : Cellsy v.ownBlock w := fun r e => by
  obtain ⟨_, _, o, h1, h2⟩ := h.block r e
  exact ⟨o, h1, h2⟩
theorem OwnK.stays {base B : Nat} {w w' : World} {v : Value} {l : List Ke} (h : OwnK base w v l) (hs : Stays B v.ownBlock w w') : OwnK base w' v l := by
  obtain ⟨hl, h⟩ := h
  refine ⟨hl, ?_⟩
  rcases h with h | ⟨g, cap, cur, rfl, hbs, hg, h1⟩
  · exact .inl h
  · exact .inr ⟨g, cap, cur, rfl, hbs, (hs.block g (Row.lt hg) (.inr rfl)).trans hg, h1⟩
theorem OwnK.make {base : Nat} {w : World} {g cap : Nat} {cs : Array Value} (R : Row w g cs 30) (hb : base ≤ g) (hc : cap ≤ maxLen) (hs : cs.size = cap * 5) : OwnK base w (.slice (some ⟨g, 0, none⟩) 0 cap) [] :=
  ⟨by rfl, .inr ⟨g, cap, cs, rfl, hb, R, Nat.zero_le _, hc, hs, by simp [valsK]⟩⟩
theorem appT_row {base : Nat} {w : World} {v : Value} {l : List (Int × Int)} (k : (Int × Int)) (ho : OwnT base w v l) (hl : l.length ≤ 1000000) (hbase : base ≤ w.heap.size) :
    ∃ v' w', (Builtin.append_ #[49, 49] 49 #[v, .slice (some ⟨w.heap.size, 0, none⟩) 1 1]).run Try.prog (w.alloc (.cells #[.int .i64 k.1, .int .i64 k.2] 27)) = .ok v' w' ∧ OwnT base w' v' (l ++ [k]) ∧
      (w.alloc (.cells #[.int .i64 k.1, .int .i64 k.2] 27)).grownBy w' v.ownBlock ∧ (v'.ownBlock = v.ownBlock ∨ v'.ownBlock = some (w.heap.size + 1)) := by
  have R1 := Row.new w #[.int .i64 k.1, .int .i64 k.2] 27
  have hbn : Below w.heap.size w (w.alloc (.cells #[.int .i64 k.1, .int .i64 k.2] 27)) := (Below.refl _ _).alloc (Nat.le_refl _) _
  have ho2 := ho.later hbn
  obtain ⟨i, i1, i2, i3, i4⟩ := infoT
  have hs : ∀ j u, (valsT [k])[j]? = some u → (w.alloc (.cells #[.int .i64 k.1, .int .i64 k.2] 27)).cell? ((⟨w.heap.size, 0, none⟩ : Addr).add j) = some u := by
    intro j u hu
    rw [Addr.add_mid, Nat.zero_add, R1.cell j]
    rw [valsT_cons] at hu
    have e : cellsT k ++ valsT [] = cellsT k := by show cellsT k ++ [] = _; rw [List.append_nil]
    rw [e] at hu
    rw [← hu, ← Array.getElem?_toList]
    rfl
  obtain ⟨v', w2, hr, k1, k2, _, k4⟩ := run_append_own_at (P := Try.prog) _ base 49 49 27 i (.agg #[.int .i64 0, .int .i64 0]) 2 16 Try.underlying49 i1 i2 i3 i4 rfl (by decide) v l.length (valsT l) ho2 ⟨w.heap.size, 0, none⟩ 1 1 (valsT [k]) (by rw [valsT_length]; rfl) hs (valsT_one [k]) (by unfold maxLen; omega) (by omega) (Nat.le_trans hbase hbn.size)
  refine ⟨v', w2, hr, ?_, k2, by simpa using k4⟩
  unfold OwnT
  rw [List.length_append, valsT_app]
  exact k1

theorem turnT_app {base B : Nat} {w w' : World} {v v' : Value} {l : List (Int × Int)} {o : Obj} (ho : OwnT base w v l) (hg : (w.alloc o).grownBy w' v.ownBlock) (hr : v'.ownBlock = v.ownBlock ∨ v'.ownBlock = some (w.heap.size + 1)) {g : Nat} (i : Nat) (u : Value) (hgB : g < B) : Turn B v.ownBlock v'.ownBlock w (w'.setCell ⟨g, i, none⟩ u) := by
  have h1 : w.heap.size ≤ w'.heap.size := Nat.le_trans (by simp) hg.size
  refine ⟨?_, fun j hj hlt hne => ?_, ?_⟩
  · show w.heap.size ≤ (w'.heap.modify _ _).size; rw [Array.size_modify]; exact h1
  · exact (heap_setCell_other _ _ _ _ (by simp; omega)).trans ((hg.block j (by simp; omega) (fun e => hne e.symm)).trans (Below.heap_alloc w o j hlt))
  · rcases hr with h | h
    · exact .inl h
    · exact .inr ⟨_, h, by omega⟩
theorem OwnT.cellsy {base : Nat} {w : World} {v : Value} {l : List (Int × Int)} (h : OwnT base w v l) : Cellsy v.ownBlock w := fun r e => by
  obtain ⟨_, _, o, h1, h2⟩ := h.block r e
  exact ⟨o, h1, h2⟩
theorem OwnT.stays {base B : Nat} {w w' : World} {v : Value} {l : List (Int × Int)} (h : OwnT base w v l) (hs : Stays B v.ownBlock w w') : OwnT base w' v l := by
  obtain ⟨hl, h⟩ := h
  refine ⟨hl, ?_⟩
  rcases h with h | ⟨g, cap, cur, rfl, hbs, hg, h1⟩
  · exact .inl h
  · exact .inr ⟨g, cap, cur, rfl, hbs, (hs.block g (Row.lt hg) (.inr rfl)).trans hg, h1⟩
theorem OwnT.make {base : Nat} {w : World} {g cap : Nat} {cs : Array Value} (R : Row w g cs 27) (hb : base ≤ g) (hc : cap ≤ maxLen) (hs : cs.size = cap * 2) : OwnT base w (.slice (some ⟨g, 0, none⟩) 0 cap) [] :=
  ⟨by rfl, .inr ⟨g, cap, cs, rfl, hb, R, Nat.zero_le _, hc, hs, by simp [valsT]⟩⟩
theorem appX_row {base : Nat} {w : World} {v : Value} {l : List Px} (k : Px) (ho : OwnX base w v l) (hl : l.length ≤ 1000000) (hbase : base ≤ w.heap.size) :
    ∃ v' w', (Builtin.append_ #[60, 60] 60 #[v, .slice (some ⟨w.heap.size, 0, none⟩) 1 1]).run Try.prog (w.alloc (.cells #[.int .i64 k.a0, .int .i64 k.a1, .int .i64 k.k0.kind, .int .i64 k.k0.len, .int .u64 k.k0.h, .int .u64 k.k0.l, .string ⟨k.k0.path.toArray⟩, .int .i64 k.k1.kind, .int .i64 k.k1.len, .int .u64 k.k1.h, .int .u64 k.k1.l, .string ⟨k.k1.path.toArray⟩] 33)) = .ok v' w' ∧ OwnX base w' v' (l ++ [k]) ∧
      (w.alloc (.cells #[.int .i64 k.a0, .int .i64 k.a1, .int .i64 k.k0.kind, .int .i64 k.k0.len, .int .u64 k.k0.h, .int .u64 k.k0.l, .string ⟨k.k0.path.toArray⟩, .int .i64 k.k1.kind, .int .i64 k.k1.len, .int .u64 k.k1.h, .int .u64 k.k1.l, .string ⟨k.k1.path.toArray⟩] 33)).grownBy w' v.ownBlock ∧ (v'.ownBlock = v.ownBlock ∨ v'.ownBlock = some (w.heap.size + 1)) := by
  have R1 := Row.new w #[.int .i64 k.a0, .int .i64 k.a1, .int .i64 k.k0.kind, .int .i64 k.k0.len, .int .u64 k.k0.h, .int .u64 k.k0.l, .string ⟨k.k0.path.toArray⟩, .int .i64 k.k1.kind, .int .i64 k.k1.len, .int .u64 k.k1.h, .int .u64 k.k1.l, .string ⟨k.k1.path.toArray⟩] 33
  have hbn : Below w.heap.size w (w.alloc (.cells #[.int .i64 k.a0, .int .i64 k.a1, .int .i64 k.k0.kind, .int .i64 k.k0.len, .int .u64 k.k0.h, .int .u64 k.k0.l, .string ⟨k.k0.path.toArray⟩, .int .i64 k.k1.kind, .int .i64 k.k1.len, .int .u64 k.k1.h, .int .u64 k.k1.l, .string ⟨k.k1.path.toArray⟩] 33)) := (Below.refl _ _).alloc (Nat.le_refl _) _
  have ho2 := ho.later hbn
  obtain ⟨i, i1, i2, i3, i4⟩ := infoX
  have hs : ∀ j u, (valsX [k])[j]? = some u → (w.alloc (.cells #[.int .i64 k.a0, .int .i64 k.a1, .int .i64 k.k0.kind, .int .i64 k.k0.len, .int .u64 k.k0.h, .int .u64 k.k0.l, .string ⟨k.k0.path.toArray⟩, .int .i64 k.k1.kind, .int .i64 k.k1.len, .int .u64 k.k1.h, .int .u64 k.k1.l, .string ⟨k.k1.path.toArray⟩] 33)).cell? ((⟨w.heap.size, 0, none⟩ : Addr).add j) = some u := by
    intro j u hu
    rw [Addr.add_mid, Nat.zero_add, R1.cell j]
    rw [valsX_cons] at hu
    have e : cellsX k ++ valsX [] = cellsX k := by show cellsX k ++ [] = _; rw [List.append_nil]
    rw [e] at hu
    rw [← hu, ← Array.getElem?_toList]
    rfl
  obtain ⟨v', w2, hr, k1, k2, _, k4⟩ := run_append_own_at (P := Try.prog) _ base 60 60 33 i (.agg #[.int .i64 0, .int .i64 0, .int .i64 0, .int .i64 0, .int .u64 0, .int .u64 0, .string ⟨#[]⟩, .int .i64 0, .int .i64 0, .int .u64 0, .int .u64 0, .string ⟨#[]⟩]) 12 112 Try.underlying60 i1 i2 i3 i4 rfl (by decide) v l.length (valsX l) ho2 ⟨w.heap.size, 0, none⟩ 1 1 (valsX [k]) (by rw [valsX_length]; rfl) hs (valsX_one [k]) (by unfold maxLen; omega) (by omega) (Nat.le_trans hbase hbn.size)
  refine ⟨v', w2, hr, ?_, k2, by simpa using k4⟩
  unfold OwnX
  rw [List.length_append, valsX_app]
  exact k1

theorem turnX_app {base B : Nat} {w w' : World} {v v' : Value} {l : List Px} {o : Obj} (ho : OwnX base w v l) (hg : (w.alloc o).grownBy w' v.ownBlock) (hr : v'.ownBlock = v.ownBlock ∨ v'.ownBlock = some (w.heap.size + 1)) {g : Nat} (i : Nat) (u : Value) (hgB : g < B) : Turn B v.ownBlock v'.ownBlock w (w'.setCell ⟨g, i, none⟩ u) := by
  have h1 : w.heap.size ≤ w'.heap.size := Nat.le_trans (by simp) hg.size
  refine ⟨?_, fun j hj hlt hne => ?_, ?_⟩
  · show w.heap.size ≤ (w'.heap.modify _ _).size; rw [Array.size_modify]; exact h1
  · exact (heap_setCell_other _ _ _ _ (by simp; omega)).trans ((hg.block j (by simp; omega) (fun e => hne e.symm)).trans (Below.heap_alloc w o j hlt))
  · rcases hr with h | h
    · exact .inl h
    · exact .inr ⟨_, h, by omega⟩
theorem OwnX.cellsy {base : Nat} {w : World} {v : Value} {l : List Px} (h : OwnX base w v l) : Cellsy v.ownBlock w := fun r e => by
  obtain ⟨_, _, o, h1, h2⟩ := h.block r e
  exact ⟨o, h1, h2⟩
theorem OwnX.stays {base B : Nat} {w w' : World} {v : Value} {l : List Px} (h : OwnX base w v l) (hs : Stays B v.ownBlock w w') : OwnX base w' v l := by
  obtain ⟨hl, h⟩ := h
  refine ⟨hl, ?_⟩
  rcases h with h | ⟨g, cap, cur, rfl, hbs, hg, h1⟩
  · exact .inl h
  · exact .inr ⟨g, cap, cur, rfl, hbs, (hs.block g (Row.lt hg) (.inr rfl)).trans hg, h1⟩
theorem OwnX.make {base : Nat} {w : World} {g cap : Nat} {cs : Array Value} (R : Row w g cs 33) (hb : base ≤ g) (hc : cap ≤ maxLen) (hs : cs.size = cap * 12) : OwnX base w (.slice (some ⟨g, 0, none⟩) 0 cap) [] :=
  ⟨by rfl, .inr ⟨g, cap, cs, rfl, hb, R, Nat.zero_le _, hc, hs, by simp [valsX]⟩⟩
end Go.Proofs.Ytbekocknfpekoaa
namespace Go.Proofs.Ytbekocknfpekoaa
set_option linter.unusedVariables false
set_option linter.unusedSimpArgs false
open Go.RowKit
def leafP (s : Sp) (a b : Ke) : Px := if rightP s ⟨0, 0, a, b⟩ = true then ⟨0, 0, a, b⟩ else pz
def heightP (s : Sp) (p : Px) : Int := if rightP s p = true then p.a0 + p.a1 else 0
set_option maxRecDepth 100000 in
set_option maxHeartbeats 8000000 in
theorem leaf_false (s : Sp) (a b : Ke) (HR : ∀ w, Calls Try.prog 20 #[sv s, pv ⟨0, 0, a, b⟩] w fun e w' => e = .returned (.bool false) ∧ Below w.heap.size w w') (w : World) : Calls Try.prog 16 #[sv s, kv a, kv b] w fun e w' => e = .returned (.tuple #[.agg #[.int .i64 0, .int .i64 0, .int .i64 0, .int .i64 0, .int .u64 0, .int .u64 0, .string ⟨#[]⟩, .int .i64 0, .int .i64 0, .int .u64 0, .int .u64 0, .string ⟨#[]⟩], .bool false]) ∧ Below w.heap.size w w' := by
  unfold sv pv at *
  unfold kv
  dsimp only at *
  obtain ⟨RR0, RR1, RR2, RR3, hb0⟩ := four_rows w #[.int .i64 s.n, .int .i64 s.d0.kind, .int .i64 s.d0.side, .int .i64 s.d0.step, .int .i64 s.d1.kind, .int .i64 s.d1.side, .int .i64 s.d1.step] #[.int .i64 a.kind, .int .i64 a.len, .int .u64 a.h, .int .u64 a.l, .string ⟨a.path.toArray⟩] #[.int .i64 b.kind, .int .i64 b.len, .int .u64 b.h, .int .u64 b.l, .string ⟨b.path.toArray⟩] #[.int .i64 0, .int .i64 0, .int .i64 0, .int .i64 0, .int .u64 0, .int .u64 0, .string ⟨#[]⟩, .int .i64 0, .int .i64 0, .int .u64 0, .int .u64 0, .string ⟨#[]⟩] 26 30 30 33
  have c0 := (RR0.cell 0).trans (show _ = some (Value.int .i64 s.n) from rfl)
  have c1 := (RR0.cell 1).trans (show _ = some (Value.int .i64 s.d0.kind) from rfl)
  have c2 := (RR0.cell 2).trans (show _ = some (Value.int .i64 s.d0.side) from rfl)
  have c3 := (RR0.cell 3).trans (show _ = some (Value.int .i64 s.d0.step) from rfl)
  have c4 := (RR0.cell 4).trans (show _ = some (Value.int .i64 s.d1.kind) from rfl)
  have c5 := (RR0.cell 5).trans (show _ = some (Value.int .i64 s.d1.side) from rfl)
  have c6 := (RR0.cell 6).trans (show _ = some (Value.int .i64 s.d1.step) from rfl)
  have d0 := (RR1.cell 0).trans (show _ = some (Value.int .i64 a.kind) from rfl)
  have d1 := (RR1.cell 1).trans (show _ = some (Value.int .i64 a.len) from rfl)
  have d2 := (RR1.cell 2).trans (show _ = some (Value.int .u64 a.h) from rfl)
  have d3 := (RR1.cell 3).trans (show _ = some (Value.int .u64 a.l) from rfl)
  have d4 := (RR1.cell 4).trans (show _ = some (Value.string ⟨a.path.toArray⟩) from rfl)
  have e0 := (RR2.cell 0).trans (show _ = some (Value.int .i64 b.kind) from rfl)
  have e1 := (RR2.cell 1).trans (show _ = some (Value.int .i64 b.len) from rfl)
  have e2 := (RR2.cell 2).trans (show _ = some (Value.int .u64 b.h) from rfl)
  have e3 := (RR2.cell 3).trans (show _ = some (Value.int .u64 b.l) from rfl)
  have e4 := (RR2.cell 4).trans (show _ = some (Value.string ⟨b.path.toArray⟩) from rfl)
  have r0 := (RR3.cell 0).trans (show _ = some (Value.int .i64 0) from rfl)
  have r1 := (RR3.cell 1).trans (show _ = some (Value.int .i64 0) from rfl)
  have r2 := (RR3.cell 2).trans (show _ = some (Value.int .i64 0) from rfl)
  have r3 := (RR3.cell 3).trans (show _ = some (Value.int .i64 0) from rfl)
  have r4 := (RR3.cell 4).trans (show _ = some (Value.int .u64 0) from rfl)
  have r5 := (RR3.cell 5).trans (show _ = some (Value.int .u64 0) from rfl)
  have r6 := (RR3.cell 6).trans (show _ = some (Value.string ⟨#[]⟩) from rfl)
  have r7 := (RR3.cell 7).trans (show _ = some (Value.int .i64 0) from rfl)
  have r8 := (RR3.cell 8).trans (show _ = some (Value.int .i64 0) from rfl)
  have r9 := (RR3.cell 9).trans (show _ = some (Value.int .u64 0) from rfl)
  have r10 := (RR3.cell 10).trans (show _ = some (Value.int .u64 0) from rfl)
  have r11 := (RR3.cell 11).trans (show _ = some (Value.string ⟨#[]⟩) from rfl)
  have Rr := RR3
  clear RR0 RR1 RR2 RR3
  go_enter Try.func16, Try.ntmps16
  go_wp2_with fail
  refine (HR _).mono ?_
  rintro e w1 ⟨rfl, hb⟩
  replace c0 := cell_later hb (cell_later ((Below.refl _ _).alloc (Nat.le_refl _) _) c0)
  replace c1 := cell_later hb (cell_later ((Below.refl _ _).alloc (Nat.le_refl _) _) c1)
  replace c2 := cell_later hb (cell_later ((Below.refl _ _).alloc (Nat.le_refl _) _) c2)
  replace c3 := cell_later hb (cell_later ((Below.refl _ _).alloc (Nat.le_refl _) _) c3)
  replace c4 := cell_later hb (cell_later ((Below.refl _ _).alloc (Nat.le_refl _) _) c4)
  replace c5 := cell_later hb (cell_later ((Below.refl _ _).alloc (Nat.le_refl _) _) c5)
  replace c6 := cell_later hb (cell_later ((Below.refl _ _).alloc (Nat.le_refl _) _) c6)
  replace d0 := cell_later hb (cell_later ((Below.refl _ _).alloc (Nat.le_refl _) _) d0)
  replace d1 := cell_later hb (cell_later ((Below.refl _ _).alloc (Nat.le_refl _) _) d1)
  replace d2 := cell_later hb (cell_later ((Below.refl _ _).alloc (Nat.le_refl _) _) d2)
  replace d3 := cell_later hb (cell_later ((Below.refl _ _).alloc (Nat.le_refl _) _) d3)
  replace d4 := cell_later hb (cell_later ((Below.refl _ _).alloc (Nat.le_refl _) _) d4)
  replace e0 := cell_later hb (cell_later ((Below.refl _ _).alloc (Nat.le_refl _) _) e0)
  replace e1 := cell_later hb (cell_later ((Below.refl _ _).alloc (Nat.le_refl _) _) e1)
  replace e2 := cell_later hb (cell_later ((Below.refl _ _).alloc (Nat.le_refl _) _) e2)
  replace e3 := cell_later hb (cell_later ((Below.refl _ _).alloc (Nat.le_refl _) _) e3)
  replace e4 := cell_later hb (cell_later ((Below.refl _ _).alloc (Nat.le_refl _) _) e4)
  replace r0 := cell_later hb (cell_later ((Below.refl _ _).alloc (Nat.le_refl _) _) r0)
  replace r1 := cell_later hb (cell_later ((Below.refl _ _).alloc (Nat.le_refl _) _) r1)
  replace r2 := cell_later hb (cell_later ((Below.refl _ _).alloc (Nat.le_refl _) _) r2)
  replace r3 := cell_later hb (cell_later ((Below.refl _ _).alloc (Nat.le_refl _) _) r3)
  replace r4 := cell_later hb (cell_later ((Below.refl _ _).alloc (Nat.le_refl _) _) r4)
  replace r5 := cell_later hb (cell_later ((Below.refl _ _).alloc (Nat.le_refl _) _) r5)
  replace r6 := cell_later hb (cell_later ((Below.refl _ _).alloc (Nat.le_refl _) _) r6)
  replace r7 := cell_later hb (cell_later ((Below.refl _ _).alloc (Nat.le_refl _) _) r7)
  replace r8 := cell_later hb (cell_later ((Below.refl _ _).alloc (Nat.le_refl _) _) r8)
  replace r9 := cell_later hb (cell_later ((Below.refl _ _).alloc (Nat.le_refl _) _) r9)
  replace r10 := cell_later hb (cell_later ((Below.refl _ _).alloc (Nat.le_refl _) _) r10)
  replace r11 := cell_later hb (cell_later ((Below.refl _ _).alloc (Nat.le_refl _) _) r11)
  replace Rr := (Rr.alloc _).later hb
  have f0 := ((Row.later (Row.new _ _ _) hb).cell 0).trans (show _ = some (Value.int .i64 0) from rfl)
  have f1 := ((Row.later (Row.new _ _ _) hb).cell 1).trans (show _ = some (Value.int .i64 0) from rfl)
  have f2 := ((Row.later (Row.new _ _ _) hb).cell 2).trans (show _ = some (Value.int .i64 a.kind) from rfl)
  have f3 := ((Row.later (Row.new _ _ _) hb).cell 3).trans (show _ = some (Value.int .i64 a.len) from rfl)
  have f4 := ((Row.later (Row.new _ _ _) hb).cell 4).trans (show _ = some (Value.int .u64 a.h) from rfl)
  have f5 := ((Row.later (Row.new _ _ _) hb).cell 5).trans (show _ = some (Value.int .u64 a.l) from rfl)
  have f6 := ((Row.later (Row.new _ _ _) hb).cell 6).trans (show _ = some (Value.string ⟨a.path.toArray⟩) from rfl)
  have f7 := ((Row.later (Row.new _ _ _) hb).cell 7).trans (show _ = some (Value.int .i64 b.kind) from rfl)
  have f8 := ((Row.later (Row.new _ _ _) hb).cell 8).trans (show _ = some (Value.int .i64 b.len) from rfl)
  have f9 := ((Row.later (Row.new _ _ _) hb).cell 9).trans (show _ = some (Value.int .u64 b.h) from rfl)
  have f10 := ((Row.later (Row.new _ _ _) hb).cell 10).trans (show _ = some (Value.int .u64 b.l) from rfl)
  have f11 := ((Row.later (Row.new _ _ _) hb).cell 11).trans (show _ = some (Value.string ⟨b.path.toArray⟩) from rfl)
  simp only [World.size_alloc] at f0
  simp only [World.size_alloc] at f1
  simp only [World.size_alloc] at f2
  simp only [World.size_alloc] at f3
  simp only [World.size_alloc] at f4
  simp only [World.size_alloc] at f5
  simp only [World.size_alloc] at f6
  simp only [World.size_alloc] at f7
  simp only [World.size_alloc] at f8
  simp only [World.size_alloc] at f9
  simp only [World.size_alloc] at f10
  simp only [World.size_alloc] at f11
  replace hb0 := below_step (hb0.alloc (Nat.le_trans hb0.size (Nat.le_refl _)) _) hb
  clear hb
  have lc := World.block_lt_of_cell? _ _ c0
  dsimp only at lc
  have ld := World.block_lt_of_cell? _ _ d0
  dsimp only at ld
  have le := World.block_lt_of_cell? _ _ e0
  dsimp only at le
  have lr := World.block_lt_of_cell? _ _ r0
  dsimp only at lr
  have lf := World.block_lt_of_cell? _ _ f0
  dsimp only at lf
  have rf0 := Rr.frozen 0
  have rf1 := Rr.frozen 1
  have rf2 := Rr.frozen 2
  have rf3 := Rr.frozen 3
  have rf4 := Rr.frozen 4
  have rf5 := Rr.frozen 5
  have rf6 := Rr.frozen 6
  have rf7 := Rr.frozen 7
  have rf8 := Rr.frozen 8
  have rf9 := Rr.frozen 9
  have rf10 := Rr.frozen 10
  have rf11 := Rr.frozen 11
  go_wp2
  have RF := set12 Rr rfl (Value.int .i64 0) (Value.int .i64 0) (Value.int .i64 0) (Value.int .i64 0) (Value.int .u64 0) (Value.int .u64 0) (Value.string ⟨#[]⟩) (Value.int .i64 0) (Value.int .i64 0) (Value.int .u64 0) (Value.int .u64 0) (Value.string ⟨#[]⟩)
  have hbF := bset12 (g := (w.heap.size + 1 + 1 + 1)) hb0 (by omega) (Value.int .i64 0) (Value.int .i64 0) (Value.int .i64 0) (Value.int .i64 0) (Value.int .u64 0) (Value.int .u64 0) (Value.string ⟨#[]⟩) (Value.int .i64 0) (Value.int .i64 0) (Value.int .u64 0) (Value.int .u64 0) (Value.string ⟨#[]⟩)
  generalize hWF : (World.setCell (World.setCell (World.setCell (World.setCell (World.setCell (World.setCell (World.setCell (World.setCell (World.setCell (World.setCell (World.setCell (World.setCell w1 ⟨(w.heap.size + 1 + 1 + 1), 0, none⟩ (Value.int .i64 0)) ⟨(w.heap.size + 1 + 1 + 1), 1, none⟩ (Value.int .i64 0)) ⟨(w.heap.size + 1 + 1 + 1), 2, none⟩ (Value.int .i64 0)) ⟨(w.heap.size + 1 + 1 + 1), 3, none⟩ (Value.int .i64 0)) ⟨(w.heap.size + 1 + 1 + 1), 4, none⟩ (Value.int .u64 0)) ⟨(w.heap.size + 1 + 1 + 1), 5, none⟩ (Value.int .u64 0)) ⟨(w.heap.size + 1 + 1 + 1), 6, none⟩ (Value.string ⟨#[]⟩)) ⟨(w.heap.size + 1 + 1 + 1), 7, none⟩ (Value.int .i64 0)) ⟨(w.heap.size + 1 + 1 + 1), 8, none⟩ (Value.int .i64 0)) ⟨(w.heap.size + 1 + 1 + 1), 9, none⟩ (Value.int .u64 0)) ⟨(w.heap.size + 1 + 1 + 1), 10, none⟩ (Value.int .u64 0)) ⟨(w.heap.size + 1 + 1 + 1), 11, none⟩ (Value.string ⟨#[]⟩)) = wF at *
  have z0 := (RF.cell 0).trans (show _ = some (Value.int .i64 0) from rfl)
  have z1 := (RF.cell 1).trans (show _ = some (Value.int .i64 0) from rfl)
  have z2 := (RF.cell 2).trans (show _ = some (Value.int .i64 0) from rfl)
  have z3 := (RF.cell 3).trans (show _ = some (Value.int .i64 0) from rfl)
  have z4 := (RF.cell 4).trans (show _ = some (Value.int .u64 0) from rfl)
  have z5 := (RF.cell 5).trans (show _ = some (Value.int .u64 0) from rfl)
  have z6 := (RF.cell 6).trans (show _ = some (Value.string ⟨#[]⟩) from rfl)
  have z7 := (RF.cell 7).trans (show _ = some (Value.int .i64 0) from rfl)
  have z8 := (RF.cell 8).trans (show _ = some (Value.int .i64 0) from rfl)
  have z9 := (RF.cell 9).trans (show _ = some (Value.int .u64 0) from rfl)
  have z10 := (RF.cell 10).trans (show _ = some (Value.int .u64 0) from rfl)
  have z11 := (RF.cell 11).trans (show _ = some (Value.string ⟨#[]⟩) from rfl)
  refine bodyPost_ret (v := .tuple #[.agg #[.int .i64 0, .int .i64 0, .int .i64 0, .int .i64 0, .int .u64 0, .int .u64 0, .string ⟨#[]⟩, .int .i64 0, .int .i64 0, .int .u64 0, .int .u64 0, .string ⟨#[]⟩], .bool false]) (by simp [results, Try.results16, go_sem, z0, z1, z2, z3, z4, z5, z6, z7, z8, z9, z10, z11]) rfl ⟨rfl, hbF⟩
set_option maxRecDepth 100000 in
set_option maxHeartbeats 8000000 in
theorem leaf_true (s : Sp) (a b : Ke) (HR : ∀ w, Calls Try.prog 20 #[sv s, pv ⟨0, 0, a, b⟩] w fun e w' => e = .returned (.bool true) ∧ Below w.heap.size w w') (w : World) : Calls Try.prog 16 #[sv s, kv a, kv b] w fun e w' => e = .returned (.tuple #[.agg #[.int .i64 0, .int .i64 0, .int .i64 a.kind, .int .i64 a.len, .int .u64 a.h, .int .u64 a.l, .string ⟨a.path.toArray⟩, .int .i64 b.kind, .int .i64 b.len, .int .u64 b.h, .int .u64 b.l, .string ⟨b.path.toArray⟩], .bool true]) ∧ Below w.heap.size w w' := by
  unfold sv pv at *
  unfold kv
  dsimp only at *
  obtain ⟨RR0, RR1, RR2, RR3, hb0⟩ := four_rows w #[.int .i64 s.n, .int .i64 s.d0.kind, .int .i64 s.d0.side, .int .i64 s.d0.step, .int .i64 s.d1.kind, .int .i64 s.d1.side, .int .i64 s.d1.step] #[.int .i64 a.kind, .int .i64 a.len, .int .u64 a.h, .int .u64 a.l, .string ⟨a.path.toArray⟩] #[.int .i64 b.kind, .int .i64 b.len, .int .u64 b.h, .int .u64 b.l, .string ⟨b.path.toArray⟩] #[.int .i64 0, .int .i64 0, .int .i64 0, .int .i64 0, .int .u64 0, .int .u64 0, .string ⟨#[]⟩, .int .i64 0, .int .i64 0, .int .u64 0, .int .u64 0, .string ⟨#[]⟩] 26 30 30 33
  have c0 := (RR0.cell 0).trans (show _ = some (Value.int .i64 s.n) from rfl)
  have c1 := (RR0.cell 1).trans (show _ = some (Value.int .i64 s.d0.kind) from rfl)
  have c2 := (RR0.cell 2).trans (show _ = some (Value.int .i64 s.d0.side) from rfl)
  have c3 := (RR0.cell 3).trans (show _ = some (Value.int .i64 s.d0.step) from rfl)
  have c4 := (RR0.cell 4).trans (show _ = some (Value.int .i64 s.d1.kind) from rfl)
  have c5 := (RR0.cell 5).trans (show _ = some (Value.int .i64 s.d1.side) from rfl)
  have c6 := (RR0.cell 6).trans (show _ = some (Value.int .i64 s.d1.step) from rfl)
  have d0 := (RR1.cell 0).trans (show _ = some (Value.int .i64 a.kind) from rfl)
  have d1 := (RR1.cell 1).trans (show _ = some (Value.int .i64 a.len) from rfl)
  have d2 := (RR1.cell 2).trans (show _ = some (Value.int .u64 a.h) from rfl)
  have d3 := (RR1.cell 3).trans (show _ = some (Value.int .u64 a.l) from rfl)
  have d4 := (RR1.cell 4).trans (show _ = some (Value.string ⟨a.path.toArray⟩) from rfl)
  have e0 := (RR2.cell 0).trans (show _ = some (Value.int .i64 b.kind) from rfl)
  have e1 := (RR2.cell 1).trans (show _ = some (Value.int .i64 b.len) from rfl)
  have e2 := (RR2.cell 2).trans (show _ = some (Value.int .u64 b.h) from rfl)
  have e3 := (RR2.cell 3).trans (show _ = some (Value.int .u64 b.l) from rfl)
  have e4 := (RR2.cell 4).trans (show _ = some (Value.string ⟨b.path.toArray⟩) from rfl)
  have r0 := (RR3.cell 0).trans (show _ = some (Value.int .i64 0) from rfl)
  have r1 := (RR3.cell 1).trans (show _ = some (Value.int .i64 0) from rfl)
  have r2 := (RR3.cell 2).trans (show _ = some (Value.int .i64 0) from rfl)
  have r3 := (RR3.cell 3).trans (show _ = some (Value.int .i64 0) from rfl)
  have r4 := (RR3.cell 4).trans (show _ = some (Value.int .u64 0) from rfl)
  have r5 := (RR3.cell 5).trans (show _ = some (Value.int .u64 0) from rfl)
  have r6 := (RR3.cell 6).trans (show _ = some (Value.string ⟨#[]⟩) from rfl)
  have r7 := (RR3.cell 7).trans (show _ = some (Value.int .i64 0) from rfl)
  have r8 := (RR3.cell 8).trans (show _ = some (Value.int .i64 0) from rfl)
  have r9 := (RR3.cell 9).trans (show _ = some (Value.int .u64 0) from rfl)
  have r10 := (RR3.cell 10).trans (show _ = some (Value.int .u64 0) from rfl)
  have r11 := (RR3.cell 11).trans (show _ = some (Value.string ⟨#[]⟩) from rfl)
  have Rr := RR3
  clear RR0 RR1 RR2 RR3
  go_enter Try.func16, Try.ntmps16
  go_wp2_with fail
  refine (HR _).mono ?_
  rintro e w2 ⟨rfl, hb⟩
  replace c0 := cell_later hb (cell_later ((Below.refl _ _).alloc (Nat.le_refl _) _) c0)
  replace c1 := cell_later hb (cell_later ((Below.refl _ _).alloc (Nat.le_refl _) _) c1)
  replace c2 := cell_later hb (cell_later ((Below.refl _ _).alloc (Nat.le_refl _) _) c2)
  replace c3 := cell_later hb (cell_later ((Below.refl _ _).alloc (Nat.le_refl _) _) c3)
  replace c4 := cell_later hb (cell_later ((Below.refl _ _).alloc (Nat.le_refl _) _) c4)
  replace c5 := cell_later hb (cell_later ((Below.refl _ _).alloc (Nat.le_refl _) _) c5)
  replace c6 := cell_later hb (cell_later ((Below.refl _ _).alloc (Nat.le_refl _) _) c6)
  replace d0 := cell_later hb (cell_later ((Below.refl _ _).alloc (Nat.le_refl _) _) d0)
  replace d1 := cell_later hb (cell_later ((Below.refl _ _).alloc (Nat.le_refl _) _) d1)
  replace d2 := cell_later hb (cell_later ((Below.refl _ _).alloc (Nat.le_refl _) _) d2)
  replace d3 := cell_later hb (cell_later ((Below.refl _ _).alloc (Nat.le_refl _) _) d3)
  replace d4 := cell_later hb (cell_later ((Below.refl _ _).alloc (Nat.le_refl _) _) d4)
  replace e0 := cell_later hb (cell_later ((Below.refl _ _).alloc (Nat.le_refl _) _) e0)
  replace e1 := cell_later hb (cell_later ((Below.refl _ _).alloc (Nat.le_refl _) _) e1)
  replace e2 := cell_later hb (cell_later ((Below.refl _ _).alloc (Nat.le_refl _) _) e2)
  replace e3 := cell_later hb (cell_later ((Below.refl _ _).alloc (Nat.le_refl _) _) e3)
  replace e4 := cell_later hb (cell_later ((Below.refl _ _).alloc (Nat.le_refl _) _) e4)
  replace r0 := cell_later hb (cell_later ((Below.refl _ _).alloc (Nat.le_refl _) _) r0)
  replace r1 := cell_later hb (cell_later ((Below.refl _ _).alloc (Nat.le_refl _) _) r1)
  replace r2 := cell_later hb (cell_later ((Below.refl _ _).alloc (Nat.le_refl _) _) r2)
  replace r3 := cell_later hb (cell_later ((Below.refl _ _).alloc (Nat.le_refl _) _) r3)
  replace r4 := cell_later hb (cell_later ((Below.refl _ _).alloc (Nat.le_refl _) _) r4)
  replace r5 := cell_later hb (cell_later ((Below.refl _ _).alloc (Nat.le_refl _) _) r5)
  replace r6 := cell_later hb (cell_later ((Below.refl _ _).alloc (Nat.le_refl _) _) r6)
  replace r7 := cell_later hb (cell_later ((Below.refl _ _).alloc (Nat.le_refl _) _) r7)
  replace r8 := cell_later hb (cell_later ((Below.refl _ _).alloc (Nat.le_refl _) _) r8)
  replace r9 := cell_later hb (cell_later ((Below.refl _ _).alloc (Nat.le_refl _) _) r9)
  replace r10 := cell_later hb (cell_later ((Below.refl _ _).alloc (Nat.le_refl _) _) r10)
  replace r11 := cell_later hb (cell_later ((Below.refl _ _).alloc (Nat.le_refl _) _) r11)
  replace Rr := (Rr.alloc _).later hb
  have f0 := ((Row.later (Row.new _ _ _) hb).cell 0).trans (show _ = some (Value.int .i64 0) from rfl)
  have f1 := ((Row.later (Row.new _ _ _) hb).cell 1).trans (show _ = some (Value.int .i64 0) from rfl)
  have f2 := ((Row.later (Row.new _ _ _) hb).cell 2).trans (show _ = some (Value.int .i64 a.kind) from rfl)
  have f3 := ((Row.later (Row.new _ _ _) hb).cell 3).trans (show _ = some (Value.int .i64 a.len) from rfl)
  have f4 := ((Row.later (Row.new _ _ _) hb).cell 4).trans (show _ = some (Value.int .u64 a.h) from rfl)
  have f5 := ((Row.later (Row.new _ _ _) hb).cell 5).trans (show _ = some (Value.int .u64 a.l) from rfl)
  have f6 := ((Row.later (Row.new _ _ _) hb).cell 6).trans (show _ = some (Value.string ⟨a.path.toArray⟩) from rfl)
  have f7 := ((Row.later (Row.new _ _ _) hb).cell 7).trans (show _ = some (Value.int .i64 b.kind) from rfl)
  have f8 := ((Row.later (Row.new _ _ _) hb).cell 8).trans (show _ = some (Value.int .i64 b.len) from rfl)
  have f9 := ((Row.later (Row.new _ _ _) hb).cell 9).trans (show _ = some (Value.int .u64 b.h) from rfl)
  have f10 := ((Row.later (Row.new _ _ _) hb).cell 10).trans (show _ = some (Value.int .u64 b.l) from rfl)
  have f11 := ((Row.later (Row.new _ _ _) hb).cell 11).trans (show _ = some (Value.string ⟨b.path.toArray⟩) from rfl)
  simp only [World.size_alloc] at f0
  simp only [World.size_alloc] at f1
  simp only [World.size_alloc] at f2
  simp only [World.size_alloc] at f3
  simp only [World.size_alloc] at f4
  simp only [World.size_alloc] at f5
  simp only [World.size_alloc] at f6
  simp only [World.size_alloc] at f7
  simp only [World.size_alloc] at f8
  simp only [World.size_alloc] at f9
  simp only [World.size_alloc] at f10
  simp only [World.size_alloc] at f11
  replace hb0 := below_step (hb0.alloc (Nat.le_trans hb0.size (Nat.le_refl _)) _) hb
  clear hb
  have lc := World.block_lt_of_cell? _ _ c0
  dsimp only at lc
  have ld := World.block_lt_of_cell? _ _ d0
  dsimp only at ld
  have le := World.block_lt_of_cell? _ _ e0
  dsimp only at le
  have lr := World.block_lt_of_cell? _ _ r0
  dsimp only at lr
  have lf := World.block_lt_of_cell? _ _ f0
  dsimp only at lf
  have rf0 := Rr.frozen 0
  have rf1 := Rr.frozen 1
  have rf2 := Rr.frozen 2
  have rf3 := Rr.frozen 3
  have rf4 := Rr.frozen 4
  have rf5 := Rr.frozen 5
  have rf6 := Rr.frozen 6
  have rf7 := Rr.frozen 7
  have rf8 := Rr.frozen 8
  have rf9 := Rr.frozen 9
  have rf10 := Rr.frozen 10
  have rf11 := Rr.frozen 11
  go_wp2
  have RF := set12 Rr rfl (Value.int .i64 0) (Value.int .i64 0) (Value.int .i64 a.kind) (Value.int .i64 a.len) (Value.int .u64 a.h) (Value.int .u64 a.l) (Value.string ⟨a.path.toArray⟩) (Value.int .i64 b.kind) (Value.int .i64 b.len) (Value.int .u64 b.h) (Value.int .u64 b.l) (Value.string ⟨b.path.toArray⟩)
  have hbF := bset12 (g := (w.heap.size + 1 + 1 + 1)) hb0 (by omega) (Value.int .i64 0) (Value.int .i64 0) (Value.int .i64 a.kind) (Value.int .i64 a.len) (Value.int .u64 a.h) (Value.int .u64 a.l) (Value.string ⟨a.path.toArray⟩) (Value.int .i64 b.kind) (Value.int .i64 b.len) (Value.int .u64 b.h) (Value.int .u64 b.l) (Value.string ⟨b.path.toArray⟩)
  generalize hWF : (World.setCell (World.setCell (World.setCell (World.setCell (World.setCell (World.setCell (World.setCell (World.setCell (World.setCell (World.setCell (World.setCell (World.setCell w2 ⟨(w.heap.size + 1 + 1 + 1), 0, none⟩ (Value.int .i64 0)) ⟨(w.heap.size + 1 + 1 + 1), 1, none⟩ (Value.int .i64 0)) ⟨(w.heap.size + 1 + 1 + 1), 2, none⟩ (Value.int .i64 a.kind)) ⟨(w.heap.size + 1 + 1 + 1), 3, none⟩ (Value.int .i64 a.len)) ⟨(w.heap.size + 1 + 1 + 1), 4, none⟩ (Value.int .u64 a.h)) ⟨(w.heap.size + 1 + 1 + 1), 5, none⟩ (Value.int .u64 a.l)) ⟨(w.heap.size + 1 + 1 + 1), 6, none⟩ (Value.string ⟨a.path.toArray⟩)) ⟨(w.heap.size + 1 + 1 + 1), 7, none⟩ (Value.int .i64 b.kind)) ⟨(w.heap.size + 1 + 1 + 1), 8, none⟩ (Value.int .i64 b.len)) ⟨(w.heap.size + 1 + 1 + 1), 9, none⟩ (Value.int .u64 b.h)) ⟨(w.heap.size + 1 + 1 + 1), 10, none⟩ (Value.int .u64 b.l)) ⟨(w.heap.size + 1 + 1 + 1), 11, none⟩ (Value.string ⟨b.path.toArray⟩)) = wF at *
  have z0 := (RF.cell 0).trans (show _ = some (Value.int .i64 0) from rfl)
  have z1 := (RF.cell 1).trans (show _ = some (Value.int .i64 0) from rfl)
  have z2 := (RF.cell 2).trans (show _ = some (Value.int .i64 a.kind) from rfl)
  have z3 := (RF.cell 3).trans (show _ = some (Value.int .i64 a.len) from rfl)
  have z4 := (RF.cell 4).trans (show _ = some (Value.int .u64 a.h) from rfl)
  have z5 := (RF.cell 5).trans (show _ = some (Value.int .u64 a.l) from rfl)
  have z6 := (RF.cell 6).trans (show _ = some (Value.string ⟨a.path.toArray⟩) from rfl)
  have z7 := (RF.cell 7).trans (show _ = some (Value.int .i64 b.kind) from rfl)
  have z8 := (RF.cell 8).trans (show _ = some (Value.int .i64 b.len) from rfl)
  have z9 := (RF.cell 9).trans (show _ = some (Value.int .u64 b.h) from rfl)
  have z10 := (RF.cell 10).trans (show _ = some (Value.int .u64 b.l) from rfl)
  have z11 := (RF.cell 11).trans (show _ = some (Value.string ⟨b.path.toArray⟩) from rfl)
  refine bodyPost_ret (v := .tuple #[.agg #[.int .i64 0, .int .i64 0, .int .i64 a.kind, .int .i64 a.len, .int .u64 a.h, .int .u64 a.l, .string ⟨a.path.toArray⟩, .int .i64 b.kind, .int .i64 b.len, .int .u64 b.h, .int .u64 b.l, .string ⟨b.path.toArray⟩], .bool true]) (by simp [results, Try.results16, go_sem, z0, z1, z2, z3, z4, z5, z6, z7, z8, z9, z10, z11]) rfl ⟨rfl, hbF⟩
theorem leaf_t (s : Sp) (a b : Ke) (oa : a.ok) (ob : b.ok) (w : World) : Calls Try.prog 16 #[sv s, kv a, kv b] w fun e w' => e = .returned (.tuple #[pv (leafP s a b), .bool (rightP s ⟨0, 0, a, b⟩)]) ∧ Below w.heap.size w w' := by
  have HR := right9_t s ⟨0, 0, a, b⟩ ⟨oa, ob, (by dsimp only; omega), (by dsimp only; omega), (by dsimp only; omega), (by dsimp only; omega)⟩
  unfold leafP
  cases h : rightP s ⟨0, 0, a, b⟩ with
  | false => rw [h] at HR; exact leaf_false s a b HR w
  | true => rw [h] at HR; exact leaf_true s a b HR w
end Go.Proofs.Ytbekocknfpekoaa
