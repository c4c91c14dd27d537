/- Own rows of keys. No conditions. -/
import Derived.Test.YtekoicbjpoeijaaLabR1
import Derived.Test.YtekoicbjpoeijaaKR8
namespace Go.Proofs.Ytekoicbjpoeijaa
set_option linter.unusedVariables false
set_option linter.unusedSimpArgs false
open Go.RowKit
def cellsK (k : Ke) : List Value := [.int .i64 k.kind, .int .i64 k.len, .int .u64 k.h, .int .u64 k.l, .string ⟨k.path.toArray⟩]
def valsK (ls : List Ke) : List Value := ls.flatMap cellsK
theorem valsK_cons (k : Ke) (ls : List Ke) : valsK (k :: ls) = cellsK k ++ valsK ls := by unfold valsK; rw [List.flatMap_cons]
theorem valsK_app (a b : List Ke) : valsK (a ++ b) = valsK a ++ valsK b := by unfold valsK; rw [List.flatMap_append]
theorem valsK_length : ∀ (ls : List Ke), (valsK ls).length = ls.length * 5
  | [] => rfl
  | k :: r => by rw [valsK_cons, List.length_append, valsK_length r, List.length_cons]; show 5 + _ = _; omega
theorem valsK_one : ∀ (ls : List Ke), ∀ x ∈ valsK ls, x.oneCell' = true
  | [], x, h => by cases h
  | k :: r, x, h => by
    rw [valsK_cons] at h
    rcases List.mem_append.1 h with h | h
    · simp only [cellsK, List.mem_cons, List.not_mem_nil, or_false] at h
      rcases h with rfl | rfl | rfl | rfl | rfl <;> rfl
    · exact valsK_one r x h
theorem valsK_get : ∀ (ls : List Ke) (j i : Nat) (k : Ke), ls[j]? = some k → i < 5 → (valsK ls)[j * 5 + i]? = (cellsK k)[i]?
  | [], j, i, k, h, _ => by simp at h
  | a :: r, 0, i, k, h, hi => by
    simp at h; subst h
    rw [valsK_cons, Nat.zero_mul, Nat.zero_add, List.getElem?_append_left (by show i < 5; exact hi)]
  | a :: r, j + 1, i, k, h, hi => by
    rw [valsK_cons, List.getElem?_append_right (by show 5 ≤ _; omega)]
    rw [show (j + 1) * 5 + i - (cellsK a).length = j * 5 + i by show (j + 1) * 5 + i - 5 = _; omega]
    exact valsK_get r j i k (by simpa using h) hi
/-- the value v, a slice, reads as the keys ls -/
def KS (w : World) (v : Value) (ls : List Ke) : Prop := ∃ p c, v = .slice p ls.length c ∧ ls.length ≤ c ∧ (0 < ls.length → ∃ g o, p = some ⟨g, o, none⟩ ∧ g < w.heap.size ∧ ∀ (j : Nat) k, ls[j]? = some k → ∀ i x, (cellsK k)[i]? = some x → w.cell? ⟨g, o + (j * 5 + i), none⟩ = some x)
theorem KS.later {w w' : World} {v : Value} {ls : List Ke} (h : KS w v ls) (hb : Below w.heap.size w w') : KS w' v ls := by
  obtain ⟨p, c, rfl, h1, h2⟩ := h
  refine ⟨p, c, rfl, h1, fun h0 => ?_⟩
  obtain ⟨g, o, rfl, h3, h4⟩ := h2 h0
  exact ⟨g, o, rfl, Nat.lt_of_lt_of_le h3 hb.size, fun j k hk i x hx => cell_later hb (h4 j k hk i x hx)⟩
theorem KS.nil (w : World) : KS w (.slice none 0 0) [] := ⟨none, 0, rfl, Nat.le_refl _, fun h => by cases h⟩
def OwnK (base : Nat) (w : World) (v : Value) (ls : List Ke) : Prop := w.ownsRow base 24 5 v ls.length (valsK ls)
theorem OwnK.nil (base : Nat) (w : World) : OwnK base w (.slice none 0 0) [] := ⟨rfl, .inl ⟨rfl, rfl⟩⟩
/-- the row's block stands in another world as it stood -/
theorem OwnK.kept {base : Nat} {w w' : World} {v : Value} {l : List Ke} (h : OwnK base w v l) (hb : ∀ (g : Nat) (cs : Array Value) (t : TypeId) (fr : Nat × Nat), w.heap[g]? = some (.cells cs t fr) → w'.heap[g]? = some (.cells cs t fr)) : OwnK base w' v l := by
  obtain ⟨hl, h⟩ := h
  refine ⟨hl, ?_⟩
  rcases h with h | ⟨g, cap, cur, hv, hbs, hg, h1⟩
  · exact .inl h
  · exact .inr ⟨g, cap, cur, hv, hbs, hb _ _ _ _ hg, h1⟩
theorem OwnK.later {base : Nat} {w w' : World} {v : Value} {l : List Ke} (h : OwnK base w v l) (hb : Below w.heap.size w w') : OwnK base w' v l :=
  h.kept (fun g cs t fr hg => (hb.block g (Array.getElem?_eq_some_iff.1 hg).1).trans hg)
theorem OwnK.block {base : Nat} {w : World} {v : Value} {l : List Ke} (h : OwnK base w v l) (g : Nat) (hg : v.ownBlock = some g) : base ≤ g ∧ g < w.heap.size ∧ ∃ o : Obj, w.heap[g]? = some o ∧ o.isCells = true := by
  rcases h.2 with ⟨rfl, _⟩ | ⟨g', cap, cur, rfl, hbs, hr, _⟩
  · cases hg
  · have : g' = g := by simpa [Value.ownBlock] using hg
    subst this
    exact ⟨hbs, Row.lt (t := 24) hr, _, hr, rfl⟩
theorem OwnK.read {base : Nat} {w : World} {v : Value} {l : List Ke} (h : OwnK base w v l) : KS w v l := by
  obtain ⟨hl, h⟩ := h
  rcases h with ⟨rfl, h0⟩ | ⟨g, cap, cur, rfl, hb, hg, h1, h2, h3, h4⟩
  · exact ⟨none, 0, by rw [h0], by omega, fun h => by omega⟩
  · refine ⟨_, cap, rfl, by omega, fun _ => ⟨g, 0, rfl, Row.lt (t := 24) hg, fun j k hk i x hx => ?_⟩⟩
    rw [Nat.zero_add, cell_of_row w g _ cur _ _ hg, ← Array.getElem?_toList]
    have hj : j < l.length := (List.getElem?_eq_some_iff.1 hk).1
    have hi : i < 5 := (List.getElem?_eq_some_iff.1 hx).1
    have := valsK_get l j i k hk hi
    rw [hx, ← h4, List.getElem?_take, if_pos (by omega)] at this
    exact this
theorem infoK : ∃ i, Try.prog.info? 24 = some i ∧ i.zero = some (.agg #[.int .i64 0, .int .i64 0, .int .u64 0, .int .u64 0, .string ⟨#[]⟩]) ∧ i.size = 5 ∧ i.bytes = 48 := by
  have h1 : (Try.prog.info? 24).bind (·.zero) = some (.agg #[.int .i64 0, .int .i64 0, .int .u64 0, .int .u64 0, .string ⟨#[]⟩]) := by kernel_rfl
  have h2 : (Try.prog.info? 24).map (·.size) = some 5 := by kernel_rfl
  have h3 : (Try.prog.info? 24).map (·.bytes) = some 48 := by kernel_rfl
  cases hq : Try.prog.info? 24 with
  | none => rw [hq] at h2; cases h2
  | some i =>
    rw [hq] at h1 h2 h3
    exact ⟨i, rfl, by simpa using h1, by simpa using h2, by simpa using h3⟩
/-- one key appended that lies in a new block -/
theorem appK_one {base : Nat} {w : World} {v : Value} {l : List Ke} (k : Ke) (ho : OwnK base w v l) (hl : l.length ≤ 1000000) (hbase : base ≤ w.heap.size) :
    ∃ v' w', (Builtin.append_ #[44, 44] 44 #[v, .slice (some ⟨w.heap.size, 0, none⟩) 1 1]).run Try.prog (w.alloc (.cells #[.int .i64 k.kind, .int .i64 k.len, .int .u64 k.h, .int .u64 k.l, .string ⟨k.path.toArray⟩] 24)) = .ok v' w' ∧ OwnK base w' v' (l ++ [k]) ∧
      (w.alloc (.cells #[.int .i64 k.kind, .int .i64 k.len, .int .u64 k.h, .int .u64 k.l, .string ⟨k.path.toArray⟩] 24)).grownBy w' v.ownBlock := by
  have R1 := Row.new w #[.int .i64 k.kind, .int .i64 k.len, .int .u64 k.h, .int .u64 k.l, .string ⟨k.path.toArray⟩] 24
  have hbn : Below w.heap.size w (w.alloc (.cells #[.int .i64 k.kind, .int .i64 k.len, .int .u64 k.h, .int .u64 k.l, .string ⟨k.path.toArray⟩] 24)) := (Below.refl _ _).alloc (Nat.le_refl _) _
  have ho2 := ho.later hbn
  obtain ⟨i, i1, i2, i3, i4⟩ := infoK
  have hs : ∀ j u, (valsK [k])[j]? = some u → (w.alloc (.cells #[.int .i64 k.kind, .int .i64 k.len, .int .u64 k.h, .int .u64 k.l, .string ⟨k.path.toArray⟩] 24)).cell? ((⟨w.heap.size, 0, none⟩ : Addr).add j) = some u := by
    intro j u hu
    rw [Addr.add_mid, Nat.zero_add, R1.cell j]
    rw [valsK_cons] at hu
    have e : cellsK k ++ valsK [] = cellsK k := by show cellsK k ++ [] = _; rw [List.append_nil]
    rw [e] at hu
    rw [← hu, ← Array.getElem?_toList]
    rfl
  obtain ⟨v', w2, hr, k1, k2, _, k4⟩ := run_append_own_at (P := Try.prog) _ base 44 44 24 i (.agg #[.int .i64 0, .int .i64 0, .int .u64 0, .int .u64 0, .string ⟨#[]⟩]) 5 48 Try.underlying44 i1 i2 i3 i4 rfl (by decide) v l.length (valsK l) ho2 ⟨w.heap.size, 0, none⟩ 1 1 (valsK [k]) (by rw [valsK_length]; rfl) hs (valsK_one [k]) (by unfold maxLen; omega) (by omega) (Nat.le_trans hbase hbn.size)
  refine ⟨v', w2, hr, ?_, k2⟩
  unfold OwnK
  rw [List.length_append, valsK_app]
  exact k1
end Go.Proofs.Ytekoicbjpoeijaa
