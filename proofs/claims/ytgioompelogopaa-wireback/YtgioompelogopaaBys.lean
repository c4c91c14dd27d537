/- Byte slices: what they read as, and what a later world leaves of them; the contracts of clone, limited and size. No conditions beyond lengths. -/
import Derived.Test.YtgioompelogopaaRowy
import Derived.OwnWalk
import Derived.Laws.CopyOwn
import Derived.Deep.AppendLies
namespace Go.Proofs.Ytgioompelogopaa
set_option linter.unusedVariables false
set_option linter.unusedSimpArgs false
open Go.RowKit
theorem cell_at8 {w : World} {g : Nat} {cs : Array Value} {t : TypeId} (h : Row w g cs t) (j : Nat) (hj : j < cs.size) : w.cell? ⟨g, j, none⟩ = some cs[j] := by
  rw [h.cell j, Array.getElem?_eq_getElem hj]
def bys (l : List Int) : List Value := l.map (Value.int .u8)
theorem bys_length (l : List Int) : (bys l).length = l.length := by simp [bys]
theorem bys_one (l : List Int) : ∀ v ∈ bys l, v.oneCell' = true := by
  intro v hv; unfold bys at hv; rw [List.mem_map] at hv; obtain ⟨x, _, rfl⟩ := hv; rfl
theorem bys_get (l : List Int) (j : Nat) (v : Value) (h : (bys l)[j]? = some v) : ∃ x, l[j]? = some x ∧ v = .int .u8 x := by
  unfold bys at h; rw [List.getElem?_map, Option.map_eq_some_iff] at h; obtain ⟨x, h1, h2⟩ := h; exact ⟨x, h1, h2.symm⟩
def Byte (x : Int) : Prop := 0 ≤ x ∧ x ≤ 255
/-- the value v, a slice, reads as the bytes l -/
def BS (w : World) (v : Value) (l : List Int) : Prop :=
  ∃ p c, v = .slice p l.length c ∧ l.length ≤ c ∧ c ≤ maxLen ∧ (0 < l.length → ∃ g o, p = some ⟨g, o, none⟩ ∧ ∀ j x, l[j]? = some x → w.cell? ⟨g, o + j, none⟩ = some (.int .u8 x)) ∧ (∀ x ∈ l, Byte x) ∧ (p = none → c = 0)
/-- the value v, a slice, is a row of its own from block base on, and reads as the bytes l -/
def Own (base : Nat) (w : World) (v : Value) (l : List Int) : Prop := w.ownsRow base 5 1 v l.length (bys l) ∧ ∀ x ∈ l, Byte x
theorem BS.nil (w : World) : BS w (.slice none 0 0) [] := ⟨none, 0, rfl, Nat.le_refl _, by decide, fun h => absurd h (by simp), fun _ h => (by cases h), fun _ => rfl⟩
theorem BS.later {w w' : World} {v : Value} {l : List Int} (h : BS w v l) (hb : Below w.heap.size w w') : BS w' v l := by
  obtain ⟨p, c, rfl, h1, h2, h3, h4, h6⟩ := h
  refine ⟨p, c, rfl, h1, h2, fun hl => ?_, h4, h6⟩
  obtain ⟨g, o, rfl, h5⟩ := h3 hl
  exact ⟨g, o, rfl, fun j x hx => cell_later hb (h5 j x hx)⟩
theorem Own.bs {base : Nat} {w : World} {v : Value} {l : List Int} (h : Own base w v l) : BS w v l := by
  obtain ⟨⟨hl, h⟩, hr⟩ := h
  rcases h with ⟨rfl, h0⟩ | ⟨g, cap, cur, rfl, hb, hg, h1, h2, h3, h4⟩
  · have : l = [] := List.eq_nil_of_length_eq_zero h0
    subst this; exact BS.nil w
  · refine ⟨_, cap, rfl, h1, h2, fun _ => ⟨g, 0, rfl, fun j x hx => ?_⟩, hr, fun h => (by cases h)⟩
    rw [Nat.zero_add, cell_of_row w g j cur _ _ hg, ← Array.getElem?_toList]
    have hj : j < l.length := by rw [List.getElem?_eq_some_iff] at hx; exact hx.1
    have : (bys l)[j]? = some (.int .u8 x) := by unfold bys; rw [List.getElem?_map, hx]; rfl
    rw [← h4, List.getElem?_take, if_pos (by omega)] at this
    exact this
theorem Own.later {base : Nat} {w w' : World} {v : Value} {l : List Int} (h : Own base w v l) (hb : Below w.heap.size w w') : Own base w' v l := by
  obtain ⟨⟨hl, h⟩, hr⟩ := h
  refine ⟨⟨hl, ?_⟩, hr⟩
  rcases h with h | ⟨g, cap, cur, hv, hbs, hg, h1⟩
  · exact .inl h
  · exact .inr ⟨g, cap, cur, hv, hbs, (Row.later (t := 5) hg hb), h1⟩
def RetOwn (w : World) (l : List Int) (e : Ending) (w' : World) : Prop := ∃ v', e = .returned v' ∧ Own w.heap.size w' v' l ∧ Below w.heap.size w w'
theorem info8 : ∃ i, Try.prog.info? 5 = some i ∧ i.zero = some (.int .u8 0) ∧ i.size = 1 ∧ i.bytes = 1 := by
  have h1 : (Try.prog.info? 5).bind (·.zero) = some (.int .u8 0) := by kernel_rfl
  have h2 : (Try.prog.info? 5).map (·.size) = some 1 := by kernel_rfl
  have h3 : (Try.prog.info? 5).map (·.bytes) = some 1 := by kernel_rfl
  cases hq : Try.prog.info? 5 with
  | none => rw [hq] at h2; cases h2
  | some i =>
    rw [hq] at h1 h2 h3
    exact ⟨i, rfl, by simpa using h1, by simpa using h2, by simpa using h3⟩
theorem made_row {base : Nat} {w : World} {e : TypeId} {g n c : Nat} {xs : List Value} (h : w.ownsRow base e 1 (.slice (some ⟨g, 0, none⟩) n c) n xs) : ∃ cur : List Value, w.heap[g]? = some (.cells cur.toArray e (0, 0)) ∧ cur.length = c ∧ n ≤ c ∧ c ≤ maxLen ∧ cur.take n = xs := by
  rcases h.2 with ⟨h0, _⟩ | ⟨g', cap, cur, hv, _, hg, h1, h2, h3, h4⟩
  · cases h0
  · cases hv
    exact ⟨cur.toList, by simpa using hg, by simp; omega, h1, h2, by simpa using h4⟩
theorem splice_all (cur cs : List Value) (h : cs.length = cur.length) : splice cur 0 cs = cs := by
  unfold splice; simp [h]
theorem own_row {base : Nat} {w : World} {g : Nat} {l : List Int} (hb : base ≤ g) (hl : l.length ≤ maxLen) (hr : w.heap[g]? = some (.cells (bys l).toArray 5 (0, 0))) (hx : ∀ x ∈ l, Byte x) : Own base w (.slice (some ⟨g, 0, none⟩) l.length l.length) l :=
  ⟨⟨by rw [bys_length, Nat.mul_one], .inr ⟨g, l.length, (bys l).toArray, rfl, hb, hr, Nat.le_refl _, hl, by simp [bys_length], by simp [← bys_length]⟩⟩, hx⟩
/-- a slice that reads as l, copied over a row of its length -/
theorem copy_run {w : World} {p : Option Addr} {c g : Nat} {l : List Int} {cur : List Value} (ty : TypeId) (hb : BS w (.slice p l.length c) l) (hrow : w.heap[g]? = some (.cells cur.toArray 5 (0, 0))) (hcur : cur.length = l.length) (B : Nat) (w0 : World) (h0 : Below B w0 w) (hB : B ≤ g) :
    ∃ w2, (Builtin.copy_ #[56, 56] ty #[.slice (some ⟨g, 0, none⟩) l.length l.length, .slice p l.length c]).run Try.prog w = .ok (.int .i64 l.length) w2 ∧ w2.heap[g]? = some (.cells (bys l).toArray 5 (0, 0)) ∧ Below B w0 w2 := by
  have hsz : (Try.prog.info? 5).map (·.size) = some 1 := by kernel_rfl
  obtain ⟨p', c', hv, h1, h2, h3, h4, _⟩ := hb
  cases hv
  by_cases hl : l.length = 0
  · have hn := run_copy_none (P := Try.prog) w 56 56 ty 5 (some ⟨g, 0, none⟩) p l.length l.length l.length c Try.underlying56 hsz (by rw [hl]; rfl)
    obtain rfl : l = [] := List.eq_nil_of_length_eq_zero hl
    obtain rfl : cur = [] := List.eq_nil_of_length_eq_zero hcur
    exact ⟨w, hn, hrow, h0⟩
  · obtain ⟨g', o', rfl, h5⟩ := h3 (by omega)
    have hr := run_copy_row (P := Try.prog) w 56 56 ty 5 g 0 l.length l.length ⟨g', o', none⟩ l.length c cur.toArray 5 (bys l) Try.underlying56 hsz hrow (by rw [bys_length]; exact (Nat.min_self _).symm)
      (fun j u hu => by obtain ⟨x, hx, rfl⟩ := bys_get l j u hu; rw [Addr.add_mid]; exact h5 j x hx) (by rw [bys_length]; simp [hcur]) (bys_one l)
    have hs : (cur.toArray.toList.take 0 ++ bys l ++ cur.toArray.toList.drop (0 + (bys l).length)) = bys l := by simp [bys_length, hcur]
    rw [hs, bys_length] at hr
    exact ⟨w.setRow g (bys l).toArray, hr, setRow_heap w g cur.toArray (bys l).toArray 5 (0, 0) hrow, below_setRow h0 hB _⟩
set_option maxRecDepth 100000 in
set_option maxHeartbeats 1000000 in
theorem clone_t (v : Value) (l : List Int) (w : World) (h : BS w v l) (hl : l.length ≤ 2147483647) : Calls Try.prog 62 #[v] w (RetOwn w l) := by
  have hbs := h
  obtain ⟨p, c, rfl, h1, h2, h3, h4, _⟩ := h
  obtain ⟨i, i1, i2, i3, i4⟩ := info8
  go_enter Try.func62, Try.ntmps62
  have tok : True := trivial
  clear h3
  go_wp2_with (have _t := tok; refine wpList_make_full _ rfl (.tmp 5) (.tmp 5) 56 rfl w.heap.size 5 i (.int .u8 0) 1 Try.underlying56 i1 i2 i3 .i64 .i64 _ _ l.length rfl rfl rfl rfl (by rw [i4]; omega) (by unfold maxLen; omega) (Nat.le_refl _) ?_; clear tok; intro w1 ho hg; obtain ⟨cur, hrow, hcur, _, _, _⟩ := made_row ho; have hb1 : Below w.heap.size w w1 := Below.grown (Below.refl _ _) hg (Nat.le_refl _) (fun k hk => by cases hk); obtain ⟨w2, hrun, hrow2, hb2⟩ := copy_run 3 (hbs.later hb1) hrow hcur w.heap.size w hb1 (Nat.le_refl _); have HR := Lib.hid hrow2; clear ho hg hrow hrow2 hcur)
  go_ret
  exact ⟨_, rfl, own_row (Nat.le_refl _) (by unfold maxLen; omega) HR.out h4, hb2⟩
set_option maxHeartbeats 400000 in
theorem limited_t (n : Int) (w : World) : Calls Try.prog 63 #[.int .i64 n] w fun e w' => e = .returned (.int .i64 (max 1 (min n 8))) ∧ w = w' := by
  go_enter Try.func63, Try.ntmps63
  go_wp2
  all_goals go_ret
  all_goals exact ⟨ret_int (by split at * <;> omega), rfl⟩
set_option maxHeartbeats 400000 in
theorem refSize_t (n : Int) (w : World) : Calls Try.prog 71 #[.int .i64 n] w fun e w' => e = .returned (.int .i64 (max 1 (min n 8))) ∧ w = w' := by
  go_enter Try.func71, Try.ntmps71
  go_wp2
  all_goals go_ret
  all_goals exact ⟨ret_int (by omega), rfl⟩
end Go.Proofs.Ytgioompelogopaa
