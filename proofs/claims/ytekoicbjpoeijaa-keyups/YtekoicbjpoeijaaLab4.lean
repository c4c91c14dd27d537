/- Len and Split of package label. No conditions beyond lengths. -/
import Derived.Test.YtekoicbjpoeijaaLab3
namespace Go.Proofs.Ytekoicbjpoeijaa
set_option linter.unusedVariables false
set_option linter.unusedSimpArgs false
open Go.RowKit
attribute [local go_sem] Oper.semAt_some
theorem splitD_count : ∀ (l : List UInt8), (splitD l).length = l.count 46 + 1
  | [] => rfl
  | c :: r => by
    have ih := splitD_count r
    rw [splitD]
    by_cases h : c = 46
    · subst h; rw [if_pos rfl]; simp [ih]
    · rw [if_neg h, List.count_cons_of_ne (by simpa using h)]
      cases hs : splitD r with
      | nil => exact absurd hs (splitD_ne r)
      | cons a t => rw [hs] at ih; simpa using ih
/-- the labels of a path; none where it is no path -/
def labsL (l : List UInt8) : List (List UInt8) := if rightB l = true then partsL l else []
theorem labsL_len (l : List UInt8) : (labsL l).length ≤ 8 := by
  unfold labsL
  split
  · rename_i h; unfold rightB at h; simp at h; exact h.1
  · simp
theorem len_t (l : List UInt8) (hl : l.length ≤ 140737488355328) (w : World) : Calls Try.prog 71 #[.string ⟨l.toArray⟩] w fun e w' => e = .returned (.int .i64 ((labsL l).length : Nat)) ∧ Below w.heap.size w w' := by
  by_cases h0 : l = []
  · subst h0
    go_enter Try.func71, Try.ntmps71
    go_wp2
    go_ret
    exact ⟨rfl, Below.refl _ _⟩
  · have hne : ¬ (⟨l.toArray⟩ : ByteArray) = ⟨#[]⟩ := fun h => h0 ((ne_empty l).1 h)
    have hie : l.isEmpty = false := by cases l <;> simp_all
    cases hr : rightB l with
    | false =>
      have HL : labsL l = [] := by unfold labsL; rw [hr]; simp
      rw [HL]
      clear HL
      go_enter Try.func71, Try.ntmps71
      go_wp2_with fail
      refine (right_t l hl w).mono ?_
      rintro e w1 ⟨rfl, hb⟩
      rw [hr]
      go_wp2
      go_ret
      exact ⟨rfl, hb⟩
    | true =>
      have HL : labsL l = partsL l := by unfold labsL; rw [hr]; simp
      have HC : (partsL l).length = l.count 46 + 1 := by unfold partsL; rw [if_neg h0]; exact splitD_count l
      have hcnt : l.count 46 ≤ l.length := List.count_le_length
      have hx := Try.strings_Count_one ⟨l.toArray⟩ 46
      rw [show (⟨l.toArray⟩ : ByteArray).data.toList = l by simp] at hx
      unfold Lib.countByte at hx
      rw [HL, HC]
      clear HL HC
      generalize l.count 46 = n at *
      go_enter Try.func71, Try.ntmps71
      go_wp2_with fail
      refine (right_t l hl w).mono ?_
      rintro e w1 ⟨rfl, hb⟩
      rw [hr]
      go_wp2_with fail
      refine (hx w1).mono ?_
      rintro e w2 ⟨rfl, rfl⟩
      clear hx
      go_wp2
      go_ret
      exact ⟨rfl, hb⟩
/-- the cells of a list of texts of which k are laid -/
def strsA (ls : List (List UInt8)) (k : Nat) : Array Value := ((List.range ls.length).map fun j => Value.string ⟨(if j < k then ls[j]?.getD [] else []).toArray⟩).toArray
theorem strsA_size (ls : List (List UInt8)) (k : Nat) : (strsA ls k).size = ls.length := by simp [strsA]
theorem strsA_get (ls : List (List UInt8)) (k j : Nat) (h : j < ls.length) : (strsA ls k)[j]? = some (.string ⟨(if j < k then ls[j]?.getD [] else []).toArray⟩) := by
  simp [strsA, h]
theorem strsA_set (ls : List (List UInt8)) (k : Nat) (h : k < ls.length) : (strsA ls k).setIfInBounds k (.string ⟨(ls[k]?.getD []).toArray⟩) = strsA ls (k + 1) := by
  apply Array.ext_getElem?
  intro i
  by_cases hi : i < ls.length
  · rw [strsA_get _ _ i hi, Array.getElem?_setIfInBounds]
    by_cases he : k = i
    · subst he; rw [if_pos rfl, if_pos (by rw [strsA_size]; exact hi), if_pos (by omega)]
    · rw [if_neg he, strsA_get _ _ i hi]
      by_cases h1 : i < k
      · rw [if_pos h1, if_pos (by omega)]
      · rw [if_neg h1, if_neg (by omega)]
  · rw [Array.getElem?_eq_none (by simp [strsA_size]; omega), Array.getElem?_eq_none (by rw [strsA_size]; omega)]
theorem strsA_zero (ls : List (List UInt8)) : strsA ls 0 = Array.replicate ls.length (.string ⟨#[]⟩) := by
  apply Array.ext_getElem?
  intro i
  by_cases hi : i < ls.length
  · rw [strsA_get _ _ i hi]; simp [hi]
  · rw [Array.getElem?_eq_none (by rw [strsA_size]; omega), Array.getElem?_eq_none (by simp; omega)]
theorem mk8 (n : Nat) (h : n ≤ 8) (w : World) : (Instr.makeSlice 64 (.int .i64 (n : Nat)) (.int .i64 (n : Nat))).run Try.prog w = .ok (.slice (some ⟨w.heap.size, 0, none⟩) n n) (w.alloc (.cells (Array.replicate n (.string ⟨#[]⟩)) 9)) := by
  rcases n with _ | _ | _ | _ | _ | _ | _ | _ | _ | n
  all_goals first | omega | kernel_rfl
/-- a slice that reads as the texts ls -/
def SS (w : World) (v : Value) (ls : List (List UInt8)) : Prop := ∃ p c, v = .slice p ls.length c ∧ ls.length ≤ c ∧ (0 < ls.length → ∃ g o, p = some ⟨g, o, none⟩ ∧ g < w.heap.size ∧ ∀ (j : Nat) x, ls[j]? = some x → w.cell? ⟨g, o + j, none⟩ = some (.string ⟨x.toArray⟩))
theorem SS.later {w w' : World} {v : Value} {ls : List (List UInt8)} (h : SS w v ls) (hb : Below w.heap.size w w') : SS w' v ls := by
  obtain ⟨p, c, rfl, h1, h2⟩ := h
  refine ⟨p, c, rfl, h1, fun h0 => ?_⟩
  obtain ⟨g, o, rfl, h3, h4⟩ := h2 h0
  exact ⟨g, o, rfl, Nat.lt_of_lt_of_le h3 hb.size, fun j x hx => cell_later hb (h4 j x hx)⟩
theorem SS.nil (w : World) : SS w (.slice none 0 0) [] := ⟨none, 0, rfl, Nat.le_refl _, fun h => by cases h⟩
theorem SS.of_row {w : World} {g : Nat} {ls : List (List UInt8)} (h : Row w g (strsA ls ls.length) 9) : SS w (.slice (some ⟨g, 0, none⟩) ls.length ls.length) ls := by
  refine ⟨_, _, rfl, Nat.le_refl _, fun h0 => ⟨g, 0, rfl, h.lt, fun j x hx => ?_⟩⟩
  have hj : j < ls.length := by rw [List.getElem?_eq_some_iff] at hx; exact hx.1
  rw [Nat.zero_add, h.cell j, strsA_get _ _ j hj, if_pos hj, hx]
  rfl
def splE (l : List UInt8) : Int := if rightB l = true then 0 else 3
/-- the answer of Split -/
def SplitPost (l : List UInt8) (w : World) (e : Ending) (w' : World) : Prop := ∃ v, e = .returned (.tuple #[v, .int .i64 (splE l)]) ∧ SS w' v (labsL l) ∧ Below w.heap.size w w'
set_option maxRecDepth 100000 in
set_option maxHeartbeats 2000000 in
theorem split_t (l : List UInt8) (hl : l.length ≤ 140737488355328) (w : World) : Calls Try.prog 90 #[.string ⟨l.toArray⟩] w (SplitPost l w) := by
  refine (callsIn_wide (n := 3)).1 ?_
  refine callsIn_of_wp_marks Try.func90 rfl trivial ?_ rfl
  simp only [Try.ntmps90, List.size_toArray, List.length_cons, List.length_nil, Nat.reduceAdd, Nat.reduceSub, Array.replicate_succ, Array.replicate_zero, List.push_toArray, List.append_toArray, List.nil_append, List.cons_append]
  gi_wp2
  refine ⟨trivial, (callsIn_wide.2 (right_t l hl w)).mono ?_⟩
  rintro e w1 ⟨rfl, hb1⟩
  cases hr : rightB l with
  | false =>
    have HP : ∀ W, Below w.heap.size w W → SplitPost l w (.returned (.tuple #[.slice none 0 0, .int .i64 3])) W := fun W hb => by
      refine ⟨.slice none 0 0, by unfold splE; rw [hr]; rfl, ?_, hb⟩
      have HL : labsL l = [] := by unfold labsL; rw [hr]; simp
      rw [HL]; exact SS.nil _
    gi_wp2
    exact ⟨_, by simp [results, Try.results90, go_sem], HP _ hb1⟩
  | true =>
    have HL : labsL l = partsL l := by unfold labsL; rw [hr]; simp
    have hlen := len_t l hl w1
    have h8 := labsL_len l
    have hP : ∀ W g, Below w.heap.size w W → Row W g (strsA (partsL l) (partsL l).length) 9 → SplitPost l w (.returned (.tuple #[.slice (some ⟨g, 0, none⟩) (partsL l).length (partsL l).length, .int .i64 0])) W := fun W g hb R => by
      refine ⟨_, by unfold splE; rw [hr]; rfl, ?_, hb⟩
      rw [HL]; exact SS.of_row R
    rw [HL] at hlen h8
    have HP := Lib.hid hP
    have hset := Lib.hid (strsA_set (partsL l))
    have hget := Lib.hid (strsA_get (partsL l))
    have hz0 := strsA_zero (partsL l)
    have hpf : ∀ k, partF l k = #[.int .i64 k, .string ⟨((partsL l)[k]?.getD []).toArray⟩] := fun _ => rfl
    have hit := Lib.hid (parts1_in l hl)
    clear HL hr hP
    gi_wp2
    refine ⟨trivial, (callsIn_wide.2 hlen).mono ?_⟩
    rintro e w2 ⟨rfl, hb2⟩
    have hmk := mk8 _ h8 w2
    rw [← hz0] at hmk
    clear hlen hz0
    generalize hPL : partsL l = ps at *
    have HPL := Lib.hid hPL
    clear hPL
    gi_wp2
    refine ⟨trivial, (callsIn_wide.2 (parts_t _ _)).mono ?_⟩
    rintro e w3 ⟨rfl, rfl⟩
    clear hmk
    gi_wp2
    have RG : Row (((w2.alloc (.cells (strsA ps 0) 9)).alloc (.cells #[.slice (some ⟨w2.heap.size, 0, none⟩) ps.length ps.length] 64)).alloc (.cells #[.string ⟨l.toArray⟩] 9)) w2.heap.size (strsA ps 0) 9 := ((Row.new w2 _ _).alloc _).alloc _
    have RB : Row (((w2.alloc (.cells (strsA ps 0) 9)).alloc (.cells #[.slice (some ⟨w2.heap.size, 0, none⟩) ps.length ps.length] 64)).alloc (.cells #[.string ⟨l.toArray⟩] 9)) (w2.heap.size + 1) #[.slice (some ⟨w2.heap.size, 0, none⟩) ps.length ps.length] 64 := by
      have h := (Row.new (w2.alloc (.cells (strsA ps 0) 9)) #[.slice (some ⟨w2.heap.size, 0, none⟩) ps.length ps.length] 64).alloc (.cells #[.string ⟨l.toArray⟩] 9)
      rwa [World.size_alloc] at h
    have RS : Row (((w2.alloc (.cells (strsA ps 0) 9)).alloc (.cells #[.slice (some ⟨w2.heap.size, 0, none⟩) ps.length ps.length] 64)).alloc (.cells #[.string ⟨l.toArray⟩] 9)) (w2.heap.size + 1 + 1) #[.string ⟨l.toArray⟩] 9 := by
      have h := Row.new ((w2.alloc (.cells (strsA ps 0) 9)).alloc (.cells #[.slice (some ⟨w2.heap.size, 0, none⟩) ps.length ps.length] 64)) #[.string ⟨l.toArray⟩] 9
      rwa [World.size_alloc, World.size_alloc] at h
    have hb3 : Below w.heap.size w (((w2.alloc (.cells (strsA ps 0) 9)).alloc (.cells #[.slice (some ⟨w2.heap.size, 0, none⟩) ps.length ps.length] 64)).alloc (.cells #[.string ⟨l.toArray⟩] 9)) := (((below_step hb1 hb2).alloc (below_step hb1 hb2).size _).alloc (by have := (below_step hb1 hb2).size; simp; omega) _).alloc (by have := (below_step hb1 hb2).size; simp; omega) _
    have hg2 : w.heap.size ≤ w2.heap.size := (below_step hb1 hb2).size
    clear hb1 hb2
    generalize ((w2.alloc (.cells (strsA ps 0) 9)).alloc (.cells #[.slice (some ⟨w2.heap.size, 0, none⟩) ps.length ps.length] 64)).alloc (.cells #[.string ⟨l.toArray⟩] 9) = w0 at *
    generalize w2.heap.size = g at *
    have hs0 : w.heap.size ≤ w0.heap.size := hb3.size
    refine wpIn_rangeN rfl (by omega) (gf := 83) (lb := #[.pointer (some ⟨g + 1 + 1, 0, none⟩)]) rfl trivial (enters_of Try.func83 (by kernel_rfl) rfl)
      (hit.out _ (g + 1 + 1) w0 ((RS.cell 0).trans rfl) RS.lt) (fun _ _ => trivial) (fun _ _ _ _ _ _ _ _ => trivial) (Below.refl _ _) (fun _ => rfl)
      (fun k W => (Row W g (strsA ps k) 9 ∧ Row W (g + 1) #[.slice (some ⟨g, 0, none⟩) ps.length ps.length] 64) ∧ Below w.heap.size w W)
      (fun c _ W => False)
      (OwnFrom.and (Own.from (fun s A B row hs hg hr => ⟨row_kept hs.1 hg hr, row_kept hs.2 hg hr⟩) _) (ownFrom_below (Nat.le_refl _) hs0))
      (fun c s A B row hs _ _ => hs)
      ⟨⟨RG, RB⟩, hb3⟩
      (fun k => { tmps := #[.string ⟨l.toArray⟩, undef, .slice none 0 0, .int .i64 0, .pointer (some ⟨g + 1, 0, none⟩), .int .i64 k, .string ⟨(ps[k]?.getD []).toArray⟩, .string ⟨l.toArray⟩, .bool true, .bool false, .string ⟨l.toArray⟩, .int .i64 (ps.length : Nat), .slice (some ⟨g, 0, none⟩) ps.length ps.length, .string ⟨l.toArray⟩, .func (.func 83) #[] #[.pointer (some ⟨g + 1 + 1, 0, none⟩)], .int .i64 k, .string ⟨(ps[k]?.getD []).toArray⟩, undef, undef, undef, undef, undef], defers := [] }) ?assign ?body ?done ?stop
    case assign =>
      intro i k W K hK
      rw [hpf]
      gi_wp2
      exact hK
    case body =>
      rintro i k W hkN ⟨⟨R, RB'⟩, hB⟩
      have hst := hset.out k hkN
      obtain ⟨q, hq⟩ : ∃ q, ps[k]?.getD [] = q := ⟨_, rfl⟩
      rw [hq] at hst ⊢
      clear hq
      have c0 := (R.cell k).trans (hget.out k k hkN)
      have f0 := R.frozen k
      have b0 := (RB'.cell 0).trans (show _ = some (Value.slice (some ⟨g, 0, none⟩) ps.length ps.length) from rfl)
      have HR := Lib.hid R
      have HRB := Lib.hid RB'
      have HB := Lib.hid hB
      have HST := Lib.hid hst
      have HKN := Lib.hid hkN
      have hki : (k : Int) < (ps.length : Int) := by omega
      clear R RB' hB hst RG RB RS hb3 hit hpf
      gi_wp2
      refine ⟨(KeepsOthers.setCell _ _ _).from _, trivial, ⟨?_, HRB.out.set_far _ _ (by dsimp only; omega)⟩, HB.out.setCell (by dsimp only; omega) _⟩
      rw [← HST.out]
      exact HR.out.set k _
    case done =>
      rintro D W hD ⟨⟨R, RB'⟩, hB⟩ hK
      have b0 := (RB'.cell 0).trans (show _ = some (Value.slice (some ⟨g, 0, none⟩) ps.length ps.length) from rfl)
      have hHP := HP.out
      clear RG RB RS hb3 hit hpf
      gi_wp2
      refine ⟨by simp, .inl ⟨_, _, rfl, run_takeDeferred hK, ?_⟩⟩
      refine ⟨.tuple #[.slice (some ⟨g, 0, none⟩) ps.length ps.length, .int .i64 0], ?_, hHP _ g (hB.trans (belowK_b (w := w) (Nat.le_refl _) W D _ _ (by omega) hK rfl rfl)) (row_put R _ hK rfl)⟩
      simp [results, Try.results90, go_sem]
    case stop =>
      rintro D c k W hD _ h _
      exact h.elim
end Go.Proofs.Ytekoicbjpoeijaa
