/- Right of package label. No conditions beyond lengths. -/
import Derived.Test.YtekoicbjpoeijaaLab2
namespace Go.Proofs.Ytekoicbjpoeijaa
set_option linter.unusedVariables false
set_option linter.unusedSimpArgs false
open Go.RowKit
attribute [local go_sem] Oper.semAt_some
/-- is it a path -/
def rightB (l : List UInt8) : Bool := decide ((partsL l).length ≤ 8) && (partsL l).all labB
theorem rightB_bad {l : List UInt8} {k : Nat} (hk : k < (partsL l).length) (h : k = 8 ∨ labB ((partsL l)[k]?.getD []) = false) : rightB l = false := by
  unfold rightB
  rcases h with rfl | h
  · have : ¬ (partsL l).length ≤ 8 := by omega
    simp [this]
  · rw [List.getElem?_eq_getElem hk] at h
    have : (partsL l).all labB = false := by rw [List.all_eq_false]; exact ⟨_, List.getElem_mem hk, by simpa using h⟩
    simp [this]
theorem rightB_ok {l : List UInt8} (h : ∀ k, k < (partsL l).length → labB ((partsL l)[k]?.getD []) = true) (hl : (partsL l).length ≤ 8) : rightB l = true := by
  unfold rightB
  have : (partsL l).all labB = true := by
    rw [List.all_eq_true]; intro x hx; obtain ⟨i, hi, rfl⟩ := List.getElem_of_mem hx
    have := h i hi
    rwa [List.getElem?_eq_getElem hi] at this
  simp [this, hl]
theorem splitD_part : ∀ (l : List UInt8), ∀ p ∈ splitD l, p.length ≤ l.length
  | [], p, h => by simp [splitD] at h; simp [h]
  | c :: r, p, h => by
    rw [splitD] at h
    split at h
    · rcases List.mem_cons.1 h with rfl | h
      · simp
      · have := splitD_part r p h; simp; omega
    · cases hs : splitD r with
      | nil => rw [hs] at h; simp at h; subst h; simp
      | cons a t =>
        rw [hs] at h
        rcases List.mem_cons.1 h with rfl | h
        · have := splitD_part r a (by rw [hs]; simp); simp; omega
        · have := splitD_part r p (by rw [hs]; simp [h]); simp; omega
theorem part_len (l : List UInt8) (k : Nat) : ((partsL l)[k]?.getD []).length ≤ l.length := by
  cases hq : (partsL l)[k]? with
  | none => simp
  | some p =>
    have hm := List.mem_of_getElem? hq
    unfold partsL at hm
    split at hm
    · cases hm
    · exact splitD_part l p hm
theorem row_kept {W W' : World} {row : Option Nat} {g : Nat} {cs : Array Value} {t : TypeId} (h : Row W g cs t) (hg : W.grownBy W' row) (hrow : ∀ r, row = some r → ∃ o : Obj, W.heap[r]? = some o ∧ o.isCells = false) : Row W' g cs t :=
  (hg.block g h.lt (fun e => by obtain ⟨o, ho, hc⟩ := hrow g e.symm; unfold Row at h; rw [h] at ho; cases ho; cases hc)).trans h
theorem row_put {W : World} {g D : Nat} {cs : Array Value} {t : TypeId} (h : Row W g cs t) {o : Obj} (o' : Obj) (hD : W.heap[D]? = some o) (ho : o.isCells = false) : Row (W.putObj D o') g cs t :=
  row_kept h (grownBy_putObj' _ D o') (fun r e => by cases e; exact ⟨_, hD, ho⟩)
set_option maxRecDepth 100000 in
set_option maxHeartbeats 2000000 in
theorem right_t (l : List UInt8) (hl : l.length ≤ 140737488355328) (w : World) : Calls Try.prog 51 #[.string ⟨l.toArray⟩] w fun e w' => e = .returned (.bool (rightB l)) ∧ Below w.heap.size w w' := by
  refine (callsIn_wide (n := 3)).1 ?_
  refine callsIn_of_wp_marks Try.func51 rfl trivial ?_ rfl
  simp only [Try.ntmps51, List.size_toArray, List.length_cons, List.length_nil, Nat.reduceAdd, Nat.reduceSub, Array.replicate_succ, Array.replicate_zero, List.push_toArray, List.append_toArray, List.nil_append, List.cons_append]
  gi_wp2
  refine ⟨trivial, (callsIn_wide.2 (parts_t _ _)).mono ?_⟩
  rintro e w1 ⟨rfl, rfl⟩
  gi_wp2
  have R0 : Row ((w.alloc (.cells #[.bool false] 4)).alloc (.cells #[.string ⟨l.toArray⟩] 9)) w.heap.size #[.bool false] 4 := (Row.new w _ _).alloc _
  have R1 : Row ((w.alloc (.cells #[.bool false] 4)).alloc (.cells #[.string ⟨l.toArray⟩] 9)) (w.heap.size + 1) #[.string ⟨l.toArray⟩] 9 := by simpa using Row.new (w.alloc (.cells #[.bool false] 4)) #[.string ⟨l.toArray⟩] 9
  have hB0 : Below w.heap.size w ((w.alloc (.cells #[.bool false] 4)).alloc (.cells #[.string ⟨l.toArray⟩] 9)) := ((Below.refl _ w).alloc (Nat.le_refl _) _).alloc (by simp) _
  have hs0 : w.heap.size ≤ ((w.alloc (.cells #[.bool false] 4)).alloc (.cells #[.string ⟨l.toArray⟩] 9)).heap.size := hB0.size
  generalize (w.alloc (.cells #[.bool false] 4)).alloc (.cells #[.string ⟨l.toArray⟩] 9) = w0 at *
  refine wpIn_rangeN rfl (by omega) (gf := 83) (lb := #[.pointer (some ⟨w.heap.size + 1, 0, none⟩)]) rfl trivial (enters_of Try.func83 (by kernel_rfl) rfl)
    (parts1_in l hl _ (w.heap.size + 1) w0 ((R1.cell 0).trans rfl) R1.lt) (fun _ _ => trivial) (fun _ _ _ _ _ _ _ _ => trivial) (Below.refl _ _) (fun _ => rfl)
    (fun k W => ((∀ j, j < k → labB ((partsL l)[j]?.getD []) = true) ∧ k ≤ 8 ∧ Row W w.heap.size #[.bool false] 4) ∧ Below w.heap.size w W)
    (fun c _ W => (c = .ret ∧ rightB l = false ∧ Row W w.heap.size #[.bool false] 4) ∧ Below w.heap.size w W)
    (OwnFrom.and (Own.from (fun s A B row hs hg hr => ⟨hs.1, hs.2.1, row_kept hs.2.2 hg hr⟩) _) (ownFrom_below (Nat.le_refl _) hs0))
    (fun c => OwnFrom.and (Own.from (fun s A B row hs hg hr => ⟨hs.1, hs.2.1, row_kept hs.2.2 hg hr⟩) _) (ownFrom_below (Nat.le_refl _) hs0))
    ⟨⟨fun j hj => by omega, by omega, R0⟩, hB0⟩
    (fun k => { tmps := #[.string ⟨l.toArray⟩, undef, .pointer (some ⟨w.heap.size, 0, none⟩), .int .i64 k, .string ⟨((partsL l)[k]?.getD []).toArray⟩, .string ⟨l.toArray⟩, .func (.func 83) #[] #[.pointer (some ⟨w.heap.size + 1, 0, none⟩)], .int .i64 k, .string ⟨((partsL l)[k]?.getD []).toArray⟩, undef, undef, undef, undef, undef, undef, undef], defers := [] }) ?assign ?body ?done ?stop
  case assign =>
    intro i k W K hK
    unfold partF
    gi_wp2
    exact hK
  case body =>
    rintro i k W hkN ⟨⟨hp, h8, R⟩, hB⟩
    have hbad := rightB_bad hkN
    have hpl := part_len l k
    have hnx : labB ((partsL l)[k]?.getD []) = true → ∀ j, j < k + 1 → labB ((partsL l)[j]?.getD []) = true := fun h j hj => by
      by_cases e : j = k
      · subst e; exact h
      · exact hp j (by omega)
    have HN := Lib.hid hnx
    have hcr := (R.cell 0).trans (show _ = some (Value.bool false) from rfl)
    have hfr := R.frozen 0
    have HR := Lib.hid R
    have HB := Lib.hid hB
    clear hp hnx R hB R0 R1 hB0
    generalize (partsL l)[k]?.getD [] = p at *
    by_cases hk8 : k = 8
    · have HBD := Lib.hid (hbad (.inl hk8))
      subst hk8
      clear hbad
      gi_wp2
      refine ⟨trivial, ?_⟩
      gi_wp2
      exact ⟨(KeepsOthers.setCell _ _ _).from _, ⟨rfl, HBD.out, HR.out.set 0 (.bool false)⟩, HB.out.setCell (Nat.le_refl _) _⟩
    · have e8 : ((k : Int) == 8) = false := by simp; omega
      have e8' : ¬ (k : Int) = 8 := by omega
      gi_wp2
      refine ⟨trivial, (CallsIn.inRound i (callsIn_wide.2 (isLabel_t p (by omega) W))).mono ?_⟩
      rintro e w2 ⟨rfl, rfl⟩
      cases hlb : labB p with
      | true =>
        have HI := Lib.hid (HN.out hlb)
        clear HN hbad hlb
        gi_wp2
        exact ⟨KeepsFrom.refl _ _, trivial, ⟨HI.out, by omega, HR.out⟩, HB.out⟩
      | false =>
        have HBD := Lib.hid (hbad (.inr hlb))
        clear HN hbad hlb
        gi_wp2
        exact ⟨(KeepsOthers.setCell _ _ _).from _, ⟨rfl, HBD.out, HR.out.set 0 (.bool false)⟩, HB.out.setCell (Nat.le_refl _) _⟩
  case done =>
    rintro D W hD ⟨⟨hp, h8, R⟩, hB⟩ hK
    have HR := Lib.hid (rightB_ok hp h8)
    have hcr := (R.cell 0).trans (show _ = some (Value.bool false) from rfl)
    have hfr := R.frozen 0
    have HRR := Lib.hid R
    clear hp R R0 R1 hB0
    gi_wp2
    have hK' := (KeepsOthers.setCell W ⟨w.heap.size, 0, none⟩ (.bool true)).same D _ hK rfl
    refine ⟨by simp, .inl ⟨_, _, rfl, run_takeDeferred hK', ?_⟩⟩
    have hc5 := ((row_put (HRR.out.set 0 (.bool true)) (.deferred none) hK' rfl).cell 0).trans (show _ = some (Value.bool true) from rfl)
    refine ⟨.bool true, ?_, by rw [HR.out], (hB.setCell (p := ⟨w.heap.size, 0, none⟩) (Nat.le_refl _) _).trans (belowK_b (w := w) (Nat.le_refl _) _ D _ _ (by omega) hK' rfl rfl)⟩
    simp only [results, Try.results51]
    simp [go_sem, hc5]
  case stop =>
    rintro D c k W hD _ ⟨⟨rfl, hf, R⟩, hB⟩ hK
    gi_wp2
    refine ⟨by simp, .inl ⟨_, _, rfl, run_takeDeferred hK, ?_⟩⟩
    have hc5 := ((row_put R (.deferred none) hK rfl).cell 0).trans (show _ = some (Value.bool false) from rfl)
    refine ⟨.bool false, ?_, by rw [hf], hB.trans (belowK_b (w := w) (Nat.le_refl _) W D _ _ (by omega) hK rfl rfl)⟩
    simp only [results, Try.results51]
    simp [go_sem, hc5]
end Go.Proofs.Ytekoicbjpoeijaa
