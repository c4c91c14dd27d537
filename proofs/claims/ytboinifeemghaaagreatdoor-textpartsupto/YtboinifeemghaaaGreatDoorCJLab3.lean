/- Lab3, Lab4, Lab5, Lab6, LabP, T0, Num3, Num4, WideK, K0, K1, K2, K3, K4, K5, K6, K7, KP, OpenKey, K8, KR1, KR2, LabR1: what the theorem needs of these texts. No conditions beyond those that are written. -/
import Derived.Test.YtboinifeemghaaaGreatDoorCJSixR7
set_option linter.unusedSimpArgs false
set_option linter.unusedVariables false
set_option maxHeartbeats 4000000
set_option maxRecDepth 100000
namespace Go.Proofs.YtboinifeemghaaaGreatDoor
open Go.RowKit
attribute [local go_sem] Oper.semAt_some
def rightB (l : List UInt8) : Bool := decide ((partsL l).length ≤ 8) && (partsL l).all labB
theorem rightB_bad {l : List UInt8} {k : Nat} (hk : k < (partsL l).length) (h : k = 8 ∨ labB ((partsL l)[k]?.getD []) = false) : rightB l = false := by
 unfold rightB
 rcases h with rfl | h
 ·have : ¬ (partsL l).length ≤ 8 := by omega
  simp [this]
 ·rw [List.getElem?_eq_getElem hk] at h
  have : (partsL l).all labB = false := by rw [List.all_eq_false]; exact ⟨_, List.getElem_mem hk, by simpa using h⟩
  simp [this]
theorem rightB_ok {l : List UInt8} (h : ∀ k, k < (partsL l).length → labB ((partsL l)[k]?.getD []) = true) (hl : (partsL l).length ≤ 8) : rightB l = true := by
 unfold rightB
 have : (partsL l).all labB = true := by
  rw [List.all_eq_true]; intro x hx; obtain ⟨i, hi, rfl⟩ := List.getElem_of_mem hx
  have := h i hi
  rwa [List.getElem?_eq_getElem hi] at this
 simp [this, hl]
theorem splitD_part : ∀ (l : List UInt8), ∀ p ∈ splitD l, p.length ≤ l.length
 | [], p, h => by simp [splitD] at h; simp [h]
 | c :: r, p, h => by
  rw [splitD] at h
  split at h
  ·rcases List.mem_cons.1 h with rfl | h
   ·simp
   ·have := splitD_part r p h; simp; omega
  ·cases hs : splitD r with
   | nil => rw [hs] at h; simp at h; subst h; simp
   | cons a t =>
    rw [hs] at h
    rcases List.mem_cons.1 h with rfl | h
    ·have := splitD_part r a (by rw [hs]; simp); simp; omega
    ·have := splitD_part r p (by rw [hs]; simp [h]); simp; omega
theorem part_len (l : List UInt8) (k : Nat) : ((partsL l)[k]?.getD []).length ≤ l.length := by
 cases hq : (partsL l)[k]? with
 | none => simp
 | some p =>
  have hm := List.mem_of_getElem? hq
  unfold partsL at hm
  split at hm
  ·cases hm
  ·exact splitD_part l p hm
theorem row_kept {W W' : World} {row : Option Nat} {g : Nat} {cs : Array Value} {t : TypeId} (h : Row W g cs t) (hg : W.grownBy W' row) (hrow : ∀ r, row = some r → ∃ o : Obj, W.heap[r]? = some o ∧ o.isCells = false) : Row W' g cs t :=
 (hg.block g h.lt (fun e => by obtain ⟨o, ho, hc⟩ := hrow g e.symm; unfold Row at h; rw [h] at ho; cases ho; cases hc)).trans h
theorem row_put {W : World} {g D : Nat} {cs : Array Value} {t : TypeId} (h : Row W g cs t) {o : Obj} (o' : Obj) (hD : W.heap[D]? = some o) (ho : o.isCells = false) : Row (W.putObj D o') g cs t :=
 row_kept h (grownBy_putObj' _ D o') (fun r e => by cases e; exact ⟨_, hD, ho⟩)
theorem right_t (l : List UInt8) (hl : l.length ≤ 140737488355328) (w : World) : Calls Tryz.prog 74 #[.string ⟨l.toArray⟩] w fun e w' => e = .returned (.bool (rightB l)) ∧ Below w.heap.size w w' := by
 refine (callsIn_wide (n := 3)).1 ?_
 refine callsIn_of_wp_marks Tryz.func74 rfl trivial ?_ rfl
 simp only [Tryz.ntmps74, List.size_toArray, List.length_cons, List.length_nil, Nat.reduceAdd, Nat.reduceSub, Array.replicate_succ, Array.replicate_zero, List.push_toArray, List.append_toArray, List.nil_append, List.cons_append]
 gi_wp2
 refine ⟨trivial, (callsIn_wide.2 (parts_t _ _)).mono ?_⟩
 rintro e w1 ⟨rfl, rfl⟩
 gi_wp2
 have R0 : Row ((w.alloc (.cells #[.bool false] 4)).alloc (.cells #[.string ⟨l.toArray⟩] 9)) w.heap.size #[.bool false] 4 := (Row.new w _ _).alloc _
 have R1 : Row ((w.alloc (.cells #[.bool false] 4)).alloc (.cells #[.string ⟨l.toArray⟩] 9)) (w.heap.size + 1) #[.string ⟨l.toArray⟩] 9 := by simpa using Row.new (w.alloc (.cells #[.bool false] 4)) #[.string ⟨l.toArray⟩] 9
 have hB0 : Below w.heap.size w ((w.alloc (.cells #[.bool false] 4)).alloc (.cells #[.string ⟨l.toArray⟩] 9)) := ((Below.refl _ w).alloc (Nat.le_refl _) _).alloc (by simp) _
 have hs0 : w.heap.size ≤ ((w.alloc (.cells #[.bool false] 4)).alloc (.cells #[.string ⟨l.toArray⟩] 9)).heap.size := hB0.size
 generalize (w.alloc (.cells #[.bool false] 4)).alloc (.cells #[.string ⟨l.toArray⟩] 9) = w0 at *
 refine wpIn_rangeN rfl (by omega) (gf := 139) (lb := #[.pointer (some ⟨w.heap.size + 1, 0, none⟩)]) rfl trivial (enters_of Tryz.func139 (by kernel_rfl) rfl)
  (parts1_in l hl _ (w.heap.size + 1) w0 ((R1.cell 0).trans rfl) R1.lt) (fun _ _ => trivial) (fun _ _ _ _ _ _ _ _ => trivial) (Below.refl _ _) (fun _ => rfl)
  (fun k W => ((∀ j, j < k → labB ((partsL l)[j]?.getD []) = true) ∧ k ≤ 8 ∧ Row W w.heap.size #[.bool false] 4) ∧ Below w.heap.size w W)
  (fun c _ W => (c = .ret ∧ rightB l = false ∧ Row W w.heap.size #[.bool false] 4) ∧ Below w.heap.size w W)
  (OwnFrom.and (Own.from (fun s A B row hs hg hr => ⟨hs.1, hs.2.1, row_kept hs.2.2 hg hr⟩) _) (ownFrom_below (Nat.le_refl _) hs0))
  (fun c => OwnFrom.and (Own.from (fun s A B row hs hg hr => ⟨hs.1, hs.2.1, row_kept hs.2.2 hg hr⟩) _) (ownFrom_below (Nat.le_refl _) hs0))
  ⟨⟨fun j hj => by omega, by omega, R0⟩, hB0⟩
  (fun k => { tmps := #[.string ⟨l.toArray⟩, undef, .pointer (some ⟨w.heap.size, 0, none⟩), .int .i64 k, .string ⟨((partsL l)[k]?.getD []).toArray⟩, .string ⟨l.toArray⟩, .func (.func 139) #[] #[.pointer (some ⟨w.heap.size + 1, 0, none⟩)], .int .i64 k, .string ⟨((partsL l)[k]?.getD []).toArray⟩, undef, undef, undef, undef, undef, undef, undef], defers := [] }) ?assign ?body ?done ?stop
 case assign =>
  intro i k W K hK
  unfold partF
  gi_wp2
  exact hK
 case body =>
  rintro i k W hkN ⟨⟨hp, h8, R⟩, hB⟩
  have hbad := rightB_bad hkN
  have hpl := part_len l k
  have hnx : labB ((partsL l)[k]?.getD []) = true → ∀ j, j < k + 1 → labB ((partsL l)[j]?.getD []) = true := fun h j hj => by
   by_cases e : j = k
   ·subst e; exact h
   ·exact hp j (by omega)
  have HN := Lib.hid hnx
  have hcr := (R.cell 0).trans (show _ = some (Value.bool false) from rfl)
  have hfr := R.frozen 0
  have HR := Lib.hid R
  have HB := Lib.hid hB
  clear hp hnx R hB R0 R1 hB0
  generalize (partsL l)[k]?.getD [] = p at *
  by_cases hk8 : k = 8
  ·have HBD := Lib.hid (hbad (.inl hk8))
   subst hk8
   clear hbad
   gi_wp2
   refine ⟨trivial, ?_⟩
   gi_wp2
   exact ⟨(KeepsOthers.setCell _ _ _).from _, ⟨rfl, HBD.out, HR.out.set 0 (.bool false)⟩, HB.out.setCell (Nat.le_refl _) _⟩
  ·have e8 : ((k : Int) == 8) = false := by simp; omega
   have e8' : ¬ (k : Int) = 8 := by omega
   gi_wp2
   refine ⟨trivial, (CallsIn.inRound i (callsIn_wide.2 (isLabel_t p (by omega) W))).mono ?_⟩
   rintro e w2 ⟨rfl, rfl⟩
   cases hlb : labB p with
   | true =>
    have HI := Lib.hid (HN.out hlb)
    clear HN hbad hlb
    gi_wp2
    exact ⟨KeepsFrom.refl _ _, trivial, ⟨HI.out, by omega, HR.out⟩, HB.out⟩
   | false =>
    have HBD := Lib.hid (hbad (.inr hlb))
    clear HN hbad hlb
    gi_wp2
    exact ⟨(KeepsOthers.setCell _ _ _).from _, ⟨rfl, HBD.out, HR.out.set 0 (.bool false)⟩, HB.out.setCell (Nat.le_refl _) _⟩
 case done =>
  rintro D W hD ⟨⟨hp, h8, R⟩, hB⟩ hK
  have HR := Lib.hid (rightB_ok hp h8)
  have hcr := (R.cell 0).trans (show _ = some (Value.bool false) from rfl)
  have hfr := R.frozen 0
  have HRR := Lib.hid R
  clear hp R R0 R1 hB0
  gi_wp2
  have hK' := (KeepsOthers.setCell W ⟨w.heap.size, 0, none⟩ (.bool true)).same D _ hK rfl
  refine ⟨by simp, .inl ⟨_, _, rfl, run_takeDeferred hK', ?_⟩⟩
  have hc5 := ((row_put (HRR.out.set 0 (.bool true)) (.deferred none) hK' rfl).cell 0).trans (show _ = some (Value.bool true) from rfl)
  refine ⟨.bool true, ?_, by rw [HR.out], (hB.setCell (p := ⟨w.heap.size, 0, none⟩) (Nat.le_refl _) _).trans (belowK_b (w := w) (Nat.le_refl _) _ D _ _ (by omega) hK' rfl rfl)⟩
  simp only [results, Tryz.results74]
  simp [go_sem, hc5]
 case stop =>
  rintro D c k W hD _ ⟨⟨rfl, hf, R⟩, hB⟩ hK
  gi_wp2
  refine ⟨by simp, .inl ⟨_, _, rfl, run_takeDeferred hK, ?_⟩⟩
  have hc5 := ((row_put R (.deferred none) hK rfl).cell 0).trans (show _ = some (Value.bool false) from rfl)
  refine ⟨.bool false, ?_, by rw [hf], hB.trans (belowK_b (w := w) (Nat.le_refl _) W D _ _ (by omega) hK rfl rfl)⟩
  simp only [results, Tryz.results74]
  simp [go_sem, hc5]
attribute [local go_sem] Oper.semAt_some
theorem splitD_count : ∀ (l : List UInt8), (splitD l).length = l.count 46 + 1
 | [] => rfl
 | c :: r => by
  have ih := splitD_count r
  rw [splitD]
  by_cases h : c = 46
  ·subst h; rw [if_pos rfl]; simp [ih]
  ·rw [if_neg h, List.count_cons_of_ne (by simpa using h)]
   cases hs : splitD r with
   | nil => exact absurd hs (splitD_ne r)
   | cons a t => rw [hs] at ih; simpa using ih
def labsL (l : List UInt8) : List (List UInt8) := if rightB l = true then partsL l else []
theorem labsL_len (l : List UInt8) : (labsL l).length ≤ 8 := by
 unfold labsL
 split
 ·rename_i h; unfold rightB at h; simp at h; exact h.1
 ·simp
theorem len_t (l : List UInt8) (hl : l.length ≤ 140737488355328) (w : World) : Calls Tryz.prog 116 #[.string ⟨l.toArray⟩] w fun e w' => e = .returned (.int .i64 ((labsL l).length : Nat)) ∧ Below w.heap.size w w' := by
 by_cases h0 : l = []
 ·subst h0
  go_enter Tryz.func116, Tryz.ntmps116
  go_wp2
  go_ret
  exact ⟨rfl, Below.refl _ _⟩
 ·have hne : ¬ (⟨l.toArray⟩ : ByteArray) = ⟨#[]⟩ := fun h => h0 ((ne_empty l).1 h)
  have hie : l.isEmpty = false := by cases l <;> simp_all
  cases hr : rightB l with
  | false =>
   have HL : labsL l = [] := by unfold labsL; rw [hr]; simp
   rw [HL]
   clear HL
   go_enter Tryz.func116, Tryz.ntmps116
   go_wp2_with fail
   refine (right_t l hl w).mono ?_
   rintro e w1 ⟨rfl, hb⟩
   rw [hr]
   go_wp2
   go_ret
   exact ⟨rfl, hb⟩
  | true =>
   have HL : labsL l = partsL l := by unfold labsL; rw [hr]; simp
   have HC : (partsL l).length = l.count 46 + 1 := by unfold partsL; rw [if_neg h0]; exact splitD_count l
   have hcnt : l.count 46 ≤ l.length := List.count_le_length
   have hx := Tryz.strings_Count_one ⟨l.toArray⟩ 46
   rw [show (⟨l.toArray⟩ : ByteArray).data.toList = l by simp] at hx
   unfold Lib.countByte at hx
   rw [HL, HC]
   clear HL HC
   generalize l.count 46 = n at *
   go_enter Tryz.func116, Tryz.ntmps116
   go_wp2_with fail
   refine (right_t l hl w).mono ?_
   rintro e w1 ⟨rfl, hb⟩
   rw [hr]
   go_wp2_with fail
   refine (hx w1).mono ?_
   rintro e w2 ⟨rfl, rfl⟩
   clear hx
   go_wp2
   go_ret
   exact ⟨rfl, hb⟩
def strsA (ls : List (List UInt8)) (k : Nat) : Array Value := ((List.range ls.length).map fun j => Value.string ⟨(if j < k then ls[j]?.getD [] else []).toArray⟩).toArray
theorem mk8 (n : Nat) (h : n ≤ 8) (w : World) : (Instr.makeSlice 77 (.int .i64 (n : Nat)) (.int .i64 (n : Nat))).run Tryz.prog w = .ok (.slice (some ⟨w.heap.size, 0, none⟩) n n) (w.alloc (.cells (Array.replicate n (.string ⟨#[]⟩)) 9)) := by
 rcases n with _ | _ | _ | _ | _ | _ | _ | _ | _ | n
 all_goals first | omega | kernel_rfl
def SS (w : World) (v : Value) (ls : List (List UInt8)) : Prop := ∃ p c, v = .slice p ls.length c ∧ ls.length ≤ c ∧ (0 < ls.length → ∃ g o, p = some ⟨g, o, none⟩ ∧ g < w.heap.size ∧ ∀ (j : Nat) x, ls[j]? = some x → w.cell? ⟨g, o + j, none⟩ = some (.string ⟨x.toArray⟩))
theorem SS.later {w w' : World} {v : Value} {ls : List (List UInt8)} (h : SS w v ls) (hb : Below w.heap.size w w') : SS w' v ls := by
 obtain ⟨p, c, rfl, h1, h2⟩ := h
 refine ⟨p, c, rfl, h1, fun h0 => ?_⟩
 obtain ⟨g, o, rfl, h3, h4⟩ := h2 h0
 exact ⟨g, o, rfl, Nat.lt_of_lt_of_le h3 hb.size, fun j x hx => cell_later hb (h4 j x hx)⟩
theorem SS.nil (w : World) : SS w (.slice none 0 0) [] := ⟨none, 0, rfl, Nat.le_refl _, fun h => by cases h⟩
def splE (l : List UInt8) : Int := if rightB l = true then 0 else 3
def SplitPost (l : List UInt8) (w : World) (e : Ending) (w' : World) : Prop := ∃ v, e = .returned (.tuple #[v, .int .i64 (splE l)]) ∧ SS w' v (labsL l) ∧ Below w.heap.size w w'
attribute [local go_sem] Oper.semAt_some
def jn (ps : List (List UInt8)) : List UInt8 := Lib.join ps [46]
theorem jn_one (p : List UInt8) : jn [p] = p := Lib.join_one p [46]
theorem jn_cons (p : List UInt8) (ps : List (List UInt8)) (h : ps ≠ []) : jn (p :: ps) = p ++ 46 :: jn ps := by
 cases ps with
 | nil => exact absurd rfl h
 | cons q r => unfold jn Lib.join; rw [List.intercalate_cons_cons]; simp
theorem jn_app : ∀ (a b : List (List UInt8)), a ≠ [] → b ≠ [] → jn (a ++ b) = jn a ++ 46 :: jn b
 | [], _, h, _ => absurd rfl h
 | [p], b, _, hb => by rw [List.singleton_append, jn_cons p b hb, jn_one]
 | p :: q :: r, b, _, hb => by
  rw [List.cons_append, jn_cons p ((q :: r) ++ b) (by simp), jn_app (q :: r) b (by simp) hb, jn_cons p (q :: r) (by simp)]
  simp
theorem jn_split : ∀ (l : List UInt8), jn (splitD l) = l
 | [] => by rw [splitD]; exact jn_one []
 | c :: r => by
  have ih := jn_split r
  rw [splitD]
  by_cases h : c = 46
  ·rw [if_pos h, jn_cons [] _ (splitD_ne r), ih, h]; rfl
  ·rw [if_neg h]
   cases hs : splitD r with
   | nil => exact absurd hs (splitD_ne r)
   | cons a t =>
    rw [hs] at ih
    cases t with
    | nil => rw [jn_one] at ih ⊢; simp [ih]
    | cons b t => rw [jn_cons _ _ (by simp)] at ih ⊢; simp [ih]
theorem jn_parts (l : List UInt8) : jn (partsL l) = l := by
 unfold partsL
 split
 ·rename_i h; subst h; rfl
 ·exact jn_split l
def endN (ps : List (List UInt8)) (k : Nat) : Nat := ((ps.take k).map fun p => p.length + 1).sum
theorem endN_succ (ps : List (List UInt8)) (k : Nat) (h : k < ps.length) : endN ps (k + 1) = endN ps k + ((ps[k]?.getD []).length + 1) := by
 unfold endN
 rw [List.take_add_one, List.getElem?_eq_getElem h, List.map_append, List.sum_append]
 simp only [Option.toList_some, List.map_cons, List.map_nil, List.sum_cons, List.sum_nil, Option.getD_some]
 omega
theorem jn_len : ∀ (a : List (List UInt8)), a ≠ [] → (jn a).length + 1 = (a.map fun p => p.length + 1).sum
 | [], h => absurd rfl h
 | [p], _ => by rw [jn_one]; simp
 | p :: q :: r, _ => by
  have ih := jn_len (q :: r) (by simp)
  rw [jn_cons p (q :: r) (by simp), List.map_cons, List.sum_cons, ← ih]
  simp; omega
theorem endN_len (ps : List (List UInt8)) (k : Nat) (h1 : 1 ≤ k) (h2 : ps ≠ []) : (jn (ps.take k)).length + 1 = endN ps k := jn_len _ (by cases ps <;> cases k <;> simp_all)
theorem endN_take (ps : List (List UInt8)) (k : Nat) (h1 : 1 ≤ k) (h2 : k < ps.length) : (jn ps).take (jn (ps.take k)).length = jn (ps.take k) := by
 have ha : ps.take k ≠ [] := by cases ps <;> cases k <;> simp_all
 have hb : ps.drop k ≠ [] := by simp; omega
 have := jn_app (ps.take k) (ps.drop k) ha hb
 rw [List.take_append_drop] at this
 rw [this, List.take_left]
theorem jn_take_len (ps : List (List UInt8)) (k : Nat) (h1 : 1 ≤ k) (h2 : k < ps.length) : (jn (ps.take k)).length ≤ (jn ps).length := by
 rw [← endN_take ps k h1 h2, List.length_take]; omega
theorem endN_le (ps : List (List UInt8)) (k : Nat) (h : k ≤ ps.length) : endN ps k ≤ (jn ps).length + 1 := by
 rcases Nat.eq_zero_or_pos k with rfl | hk
 ·simp [endN]
 ·have h2 : ps ≠ [] := by intro e; subst e; simp at h; omega
  rw [← endN_len ps k hk h2]
  rcases Nat.lt_or_ge k ps.length with hlt | hge
  ·have := jn_take_len ps k hk hlt; omega
  ·rw [List.take_of_length_le hge]; exact Nat.le_refl _
def topL (l : List UInt8) (n : Int) : List UInt8 := jn ((labsL l).take n.toNat)
theorem top_t (l : List UInt8) (hl : l.length ≤ 140737488355328) (n : Int) (w : World) : Calls Tryz.prog 111 #[.string ⟨l.toArray⟩, .int .i64 n] w fun e w' => e = .returned (.string ⟨(topL l n).toArray⟩) ∧ Below w.heap.size w w' := by
 refine (callsIn_wide (n := 3)).1 ?_
 refine callsIn_of_wp_marks Tryz.func111 rfl trivial ?_ rfl
 simp only [Tryz.ntmps111, List.size_toArray, List.length_cons, List.length_nil, Nat.reduceAdd, Nat.reduceSub, Array.replicate_succ, Array.replicate_zero, List.push_toArray, List.append_toArray, List.nil_append, List.cons_append]
 by_cases hn : n < 1
 ·have HT : topL l n = [] := by unfold topL; rw [show n.toNat = 0 by omega]; rfl
  rw [HT]
  clear HT
  gi_wp2
  refine ⟨trivial, ?_⟩
  gi_wp2
  exact ⟨.string ⟨#[]⟩, by simp only [results, Tryz.results111]; simp [go_sem], rfl, (by repeat (first | exact Below.refl _ _ | assumption | (with_reducible refine Below.drew ?_) | ((with_reducible first | refine Below.setCell ?_ ?h _ | refine Below.alloc ?_ ?h _ | refine Below.trans ?_ (hb4.mono ?h) | refine Below.trans ?_ (hb0.mono ?h)); case h => first | omega | (simp; done) | (simp; omega))))⟩
 ·have hn1 : ¬ n < 1 := hn
  have P0 : Row (((w.alloc (.cells #[.string ⟨l.toArray⟩] 9)).alloc (.cells #[.int .i64 n] 3)).alloc (.cells #[.string ⟨#[]⟩] 9)) w.heap.size #[.string ⟨l.toArray⟩] 9 := ((Row.new w _ _).alloc _).alloc _
  have P1 : Row (((w.alloc (.cells #[.string ⟨l.toArray⟩] 9)).alloc (.cells #[.int .i64 n] 3)).alloc (.cells #[.string ⟨#[]⟩] 9)) (w.heap.size + 1) #[.int .i64 n] 3 := by
   have h := (Row.new (w.alloc (.cells #[.string ⟨l.toArray⟩] 9)) #[.int .i64 n] 3).alloc (.cells #[.string ⟨#[]⟩] 9)
   rwa [World.size_alloc] at h
  have P2 : Row (((w.alloc (.cells #[.string ⟨l.toArray⟩] 9)).alloc (.cells #[.int .i64 n] 3)).alloc (.cells #[.string ⟨#[]⟩] 9)) (w.heap.size + 1 + 1) #[.string ⟨#[]⟩] 9 := by
   have h := Row.new ((w.alloc (.cells #[.string ⟨l.toArray⟩] 9)).alloc (.cells #[.int .i64 n] 3)) #[.string ⟨#[]⟩] 9
   rwa [World.size_alloc, World.size_alloc] at h
  have hb0 : Below w.heap.size w (((w.alloc (.cells #[.string ⟨l.toArray⟩] 9)).alloc (.cells #[.int .i64 n] 3)).alloc (.cells #[.string ⟨#[]⟩] 9)) := (by repeat (first | exact Below.refl _ _ | assumption | (with_reducible refine Below.drew ?_) | ((with_reducible first | refine Below.setCell ?_ ?h _ | refine Below.alloc ?_ ?h _ | refine Below.trans ?_ (hb4.mono ?h) | refine Below.trans ?_ (hb0.mono ?h)); case h => first | omega | (simp; done) | (simp; omega))))
  gi_wp2
  generalize ((w.alloc (.cells #[.string ⟨l.toArray⟩] 9)).alloc (.cells #[.int .i64 n] 3)).alloc (.cells #[.string ⟨#[]⟩] 9) = w0 at *
  refine ⟨trivial, (callsIn_wide.2 (right_t l hl w0)).mono ?_⟩
  rintro e w1 ⟨rfl, hb1⟩
  replace P0 := P0.later hb1
  replace P1 := P1.later hb1
  replace P2 := P2.later hb1
  have hbw := below_step hb0 hb1
  clear hb0 hb1
  have c0 := (P0.cell 0).trans (show _ = some (Value.string ⟨l.toArray⟩) from rfl)
  have c1 := (P1.cell 0).trans (show _ = some (Value.int .i64 n) from rfl)
  have c2 := (P2.cell 0).trans (show _ = some (Value.string ⟨#[]⟩) from rfl)
  have f2 := P2.frozen 0
  cases hr : rightB l with
  | false =>
   have HT : topL l n = [] := by unfold topL labsL; rw [hr]; simp; rfl
   have HTT := Lib.hid HT
   have HP2 := Lib.hid P2
   clear HT hr P0 P1 P2
   gi_wp2
   refine ⟨.string ⟨#[]⟩, ?_, by rw [HTT.out], hbw.setCell (by dsimp only; omega) _⟩
   have hc5 := ((HP2.out.set 0 (.string ⟨#[]⟩)).cell 0).trans (show _ = some (Value.string ⟨#[]⟩) from rfl)
   simp only [results, Tryz.results111]
   simp [go_sem, hc5]
  | true =>
   have HL : labsL l = partsL l := by unfold labsL; rw [hr]; simp
   have HTT := Lib.hid (show topL l n = jn ((partsL l).take n.toNat) by unfold topL; rw [HL])
   have hjp := jn_parts l
   have Q0 := (P0.alloc (.cells #[.int .i64 0] 3)).alloc (.cells #[.string ⟨l.toArray⟩] 9)
   have Q1 := (P1.alloc (.cells #[.int .i64 0] 3)).alloc (.cells #[.string ⟨l.toArray⟩] 9)
   have Q2 := (P2.alloc (.cells #[.int .i64 0] 3)).alloc (.cells #[.string ⟨l.toArray⟩] 9)
   have Q3 := (Row.new w1 #[.int .i64 0] 3).alloc (.cells #[.string ⟨l.toArray⟩] 9)
   have Q4 := Row.new (w1.alloc (.cells #[.int .i64 0] 3)) #[.string ⟨l.toArray⟩] 9
   rw [World.size_alloc] at Q4
   have hb4 : Below w.heap.size w ((w1.alloc (.cells #[.int .i64 0] 3)).alloc (.cells #[.string ⟨l.toArray⟩] 9)) := (hbw.alloc hbw.size _).alloc (by have := hbw.size; simp; omega) _
   have d0 := ((P0.alloc (.cells #[.int .i64 0] 3)).cell 0).trans (show _ = some (Value.string ⟨l.toArray⟩) from rfl)
   have l2 := P2.lt
   have HH := Lib.hid (And.intro Q0 (And.intro Q1 (And.intro Q2 (And.intro Q3 (And.intro Q4 hb4)))))
   have hle := Lib.hid (endN_le (partsL l))
   have hes := Lib.hid (endN_succ (partsL l))
   have hel := Lib.hid (endN_len (partsL l))
   have het := Lib.hid (endN_take (partsL l))
   have hbl := Lib.hid (jn_take_len (partsL l))
   have hpf : ∀ k, partF l k = #[.int .i64 k, .string ⟨((partsL l)[k]?.getD []).toArray⟩] := fun _ => rfl
   have hpl := Lib.hid (part_len l)
   have hit := Lib.hid (parts1_in l hl)
   clear HL hr P0 P1 P2 c0 c1 c2 f2 Q0 Q1 Q2 Q3 Q4 hb4
   gi_wp2
   refine ⟨trivial, (callsIn_wide.2 (parts_t _ _)).mono ?_⟩
   rintro e w3 ⟨rfl, rfl⟩
   clear d0
   gi_wp2
   obtain ⟨Q0, Q1, Q2, Q3, Q4, hb4⟩ := HH.out
   generalize (w1.alloc (.cells #[.int .i64 0] 3)).alloc (.cells #[.string ⟨l.toArray⟩] 9) = w4 at *
   generalize partsL l = ps at *
   have hs0 : w.heap.size ≤ w4.heap.size := hb4.size
   have hg2 : w.heap.size + 1 + 1 < w1.heap.size := l2
   clear HH l2 hbw
   generalize w1.heap.size = g at *
   refine wpIn_rangeN rfl (by omega) (gf := 139) (lb := #[.pointer (some ⟨g + 1, 0, none⟩)]) rfl trivial (enters_of Tryz.func139 (by kernel_rfl) rfl)
    (hit.out _ (g + 1) w4 ((Q4.cell 0).trans rfl) Q4.lt) (fun _ _ => trivial) (fun _ _ _ _ _ _ _ _ => trivial) (Below.refl _ _) (fun _ => rfl)
    (fun k W => ((k : Int) ≤ n ∧ Row W w.heap.size #[.string ⟨l.toArray⟩] 9 ∧ Row W (w.heap.size + 1) #[.int .i64 n] 3 ∧ Row W (w.heap.size + 1 + 1) #[.string ⟨#[]⟩] 9 ∧ Row W g #[.int .i64 (endN ps k : Nat)] 3) ∧ Below w.heap.size w W)
    (fun c _ W => (c = .ret ∧ Row W (w.heap.size + 1 + 1) #[.string ⟨(topL l n).toArray⟩] 9) ∧ Below w.heap.size w W)
    (OwnFrom.and (Own.from (fun s A B row hs hg hr => ⟨hs.1, row_kept hs.2.1 hg hr, row_kept hs.2.2.1 hg hr, row_kept hs.2.2.2.1 hg hr, row_kept hs.2.2.2.2 hg hr⟩) _) (ownFrom_below (Nat.le_refl _) hs0))
    (fun c => OwnFrom.and (Own.from (fun s A B row hs hg hr => ⟨hs.1, row_kept hs.2 hg hr⟩) _) (ownFrom_below (Nat.le_refl _) hs0))
    ⟨⟨by omega, Q0, Q1, Q2, Q3⟩, hb4⟩
    (fun k => { tmps := #[.string ⟨l.toArray⟩, .int .i64 n, .pointer (some ⟨w.heap.size, 0, none⟩), .pointer (some ⟨w.heap.size + 1, 0, none⟩), .pointer (some ⟨w.heap.size + 1 + 1, 0, none⟩), .pointer (some ⟨g, 0, none⟩), .int .i64 k, .string ⟨(ps[k]?.getD []).toArray⟩, .int .i64 n, .bool false, .bool false, .string ⟨l.toArray⟩, .bool true, .bool false, .bool false, .string ⟨l.toArray⟩, .func (.func 139) #[] #[.pointer (some ⟨g + 1, 0, none⟩)], .int .i64 k, .string ⟨(ps[k]?.getD []).toArray⟩, undef, undef, undef, undef, undef, undef, undef, undef, undef, undef, undef, undef, undef], defers := [] }) ?assign ?body ?done ?stop
   case assign =>
    intro i k W K hK
    rw [hpf]
    gi_wp2
    exact hK
   case body =>
    rintro i k W hkN ⟨⟨hkn, R0, R1, R2, R3⟩, hB⟩
    have c0 := (R0.cell 0).trans (show _ = some (Value.string ⟨l.toArray⟩) from rfl)
    have c1 := (R1.cell 0).trans (show _ = some (Value.int .i64 n) from rfl)
    have c2 := (R2.cell 0).trans (show _ = some (Value.string ⟨#[]⟩) from rfl)
    have c3 := (R3.cell 0).trans (show _ = some (Value.int .i64 (endN ps k : Nat)) from rfl)
    have f2 := R2.frozen 0
    have f3 := R3.frozen 0
    have HR := Lib.hid (And.intro R0 (And.intro R1 (And.intro R2 (And.intro R3 hB))))
    clear R0 R1 R2 R3 hB Q0 Q1 Q2 Q3 Q4 hb4 hit hpf
    by_cases hk : (k : Int) = n
    ·subst hk
     have hk1 : 1 ≤ k := by omega
     have hps : ps ≠ [] := by intro e; subst e; simp at hkN
     have e1 := hel.out k hk1 hps
     have e2 := het.out k hk1 hkN
     have e3 := hbl.out k hk1 hkN
     have hT := HTT.out
     rw [Int.toNat_natCast] at hT
     rw [hjp] at e2 e3
     rw [← e1] at c3
     have HF := Lib.hid hT
     clear e1 hT HTT hle hes hel het hbl hpl
     generalize jn (ps.take k) = q at *
     have hx : (⟨l.toArray⟩ : ByteArray).extract 0 q.length = ⟨q.toArray⟩ := by rw [ext_l, e2, List.drop_zero]
     have hsz := bs_size l
     generalize q.length = m at *
     clear e2
     gi_wp2
     refine ⟨(KeepsOthers.setCell _ _ _).from _, ⟨rfl, ?_⟩, HR.out.2.2.2.2.setCell (by dsimp only; omega) _⟩
     rw [HF.out]
     exact HR.out.2.2.1.set 0 (.string ⟨q.toArray⟩)
    ·have hk' : ((k : Int) == n) = false := by simp; exact hk
     have e1 := hes.out k hkN
     have e2 := hle.out (k + 1) hkN
     have e3 := hpl.out k
     rw [hjp] at e2
     generalize ps[k]?.getD [] = q at *
     have hE := Lib.hid e1
     have hsz := bs_size q
     have hb1 : endN ps k ≤ 140737488355329 := by omega
     clear hes hle hel het hbl hpl HTT e1
     generalize hEE : endN ps k = E at *
     have HEE := Lib.hid hEE
     clear hEE
     gi_wp2
     refine ⟨(KeepsOthers.setCell _ _ _).from _, trivial, ⟨by omega, HR.out.1.set_far _ _ (by dsimp only; omega), HR.out.2.1.set_far _ _ (by dsimp only; omega), HR.out.2.2.1.set_far _ _ (by dsimp only; omega), ?_⟩, HR.out.2.2.2.2.setCell (by dsimp only; omega) _⟩
     rw [hE.out]
     have := HR.out.2.2.2.1.set 0 (.int .i64 ((E : Int) + ((q.length : Int) + 1)))
     simpa using this
   case done =>
    rintro D W hD ⟨⟨hkn, R0, R1, R2, R3⟩, hB⟩ hK
    have c0 := (R0.cell 0).trans (show _ = some (Value.string ⟨l.toArray⟩) from rfl)
    have c2 := (R2.cell 0).trans (show _ = some (Value.string ⟨#[]⟩) from rfl)
    have f2 := R2.frozen 0
    have hT := HTT.out
    rw [List.take_of_length_le (by omega), hjp] at hT
    have HF := Lib.hid hT
    have HR := Lib.hid R2
    clear hT HTT hle hes hel het hbl hpl Q0 Q1 Q2 Q3 Q4 hb4 hit hpf R0 R1 R2 R3
    gi_wp2
    have hK' := (KeepsOthers.setCell W ⟨w.heap.size + 1 + 1, 0, none⟩ (.string ⟨l.toArray⟩)).same D _ hK rfl
    refine ⟨by simp, .inl ⟨_, _, rfl, run_takeDeferred hK', ?_⟩⟩
    have hc5 := ((row_put (HR.out.set 0 (.string ⟨l.toArray⟩)) (.deferred none) hK' rfl).cell 0).trans (show _ = some (Value.string ⟨l.toArray⟩) from rfl)
    refine ⟨.string ⟨l.toArray⟩, ?_, by rw [HF.out], (hB.setCell (p := ⟨w.heap.size + 1 + 1, 0, none⟩) (by dsimp only; omega) _).trans (belowK_b (w := w) (Nat.le_refl _) _ D _ _ (by omega) hK' rfl rfl)⟩
    simp only [results, Tryz.results111]
    simp [go_sem, hc5]
   case stop =>
    rintro D c k W hD _ ⟨⟨rfl, R2⟩, hB⟩ hK
    gi_wp2
    refine ⟨by simp, .inl ⟨_, _, rfl, run_takeDeferred hK, ?_⟩⟩
    have hc5 := ((row_put R2 (.deferred none) hK rfl).cell 0).trans (show _ = some (Value.string ⟨(topL l n).toArray⟩) from rfl)
    refine ⟨.string ⟨(topL l n).toArray⟩, ?_, rfl, hB.trans (belowK_b (w := w) (Nat.le_refl _) W D _ _ (by omega) hK rfl rfl)⟩
    simp only [results, Tryz.results111]
    simp [go_sem, hc5]
def sameN : List (List UInt8) → List (List UInt8) → Nat
 | x :: a, y :: b => if x = y then sameN a b + 1 else 0
 | _, _ => 0
theorem str_eq (x y : List UInt8) : (⟨x.toArray⟩ : ByteArray) = ⟨y.toArray⟩ ↔ x = y := by
 constructor
 ·intro h
  have := congrArg (fun b : ByteArray => b.data.toList) h
  simpa using this
 ·rintro rfl; rfl
def joinE (ls : List (List UInt8)) : Int := if ls.all labB = false then 3 else if 8 < ls.length then 2 else 0
def joinT (ls : List (List UInt8)) : List UInt8 := if joinE ls = 0 then jn ls else []
theorem labB_no46 {x : List UInt8} (h : labB x = true) : (46 : UInt8) ∉ x := by
 unfold labB at h
 simp at h
 intro hm
 have := h.1.1 46 hm
 exact absurd this (by decide)
theorem labB_ne {x : List UInt8} (h : labB x = true) : x ≠ [] := by unfold labB at h; simp at h; exact h.1.2
theorem split_jn : ∀ (ls : List (List UInt8)), ls ≠ [] → (∀ x ∈ ls, labB x = true) → splitD (jn ls) = ls
 | [], h, _ => absurd rfl h
 | [x], _, h => by rw [jn_one]; exact splitD_no x (labB_no46 (h x (by simp)))
 | x :: y :: r, _, h => by
  rw [jn_cons x (y :: r) (by simp), splitD_at x _ (labB_no46 (h x (by simp))), split_jn (y :: r) (by simp) (fun z hz => h z (List.mem_cons_of_mem _ hz))]
theorem jn_ne {ls : List (List UInt8)} (h : ls ≠ []) (hl : ∀ x ∈ ls, labB x = true) : jn ls ≠ [] := by
 cases ls with
 | nil => exact absurd rfl h
 | cons x r =>
  have hx := labB_ne (hl x (by simp))
  cases r with
  | nil => rw [jn_one]; exact hx
  | cons y r => rw [jn_cons x (y :: r) (by simp)]; simp
theorem parts_jn {ls : List (List UInt8)} (hl : ∀ x ∈ ls, labB x = true) : partsL (jn ls) = ls := by
 unfold partsL
 by_cases h : ls = []
 ·subst h; rfl
 ·rw [if_neg (jn_ne h hl), split_jn ls h hl]
theorem right_jn {ls : List (List UInt8)} (hl : ∀ x ∈ ls, labB x = true) (h8 : ls.length ≤ 8) : rightB (jn ls) = true := by
 unfold rightB
 rw [parts_jn hl]
 simp [h8]
 exact hl
theorem labs_jn {ls : List (List UInt8)} (hl : ∀ x ∈ ls, labB x = true) (h8 : ls.length ≤ 8) : labsL (jn ls) = ls := by
 unfold labsL
 rw [if_pos (right_jn hl h8), parts_jn hl]
theorem labs_all (l : List UInt8) : ∀ x ∈ labsL l, labB x = true := by
 unfold labsL
 split
 ·rename_i h; unfold rightB at h; simp at h; exact h.2
 ·intro x hx; cases hx
theorem labs_take_all (l : List UInt8) (n : Nat) : ∀ x ∈ (labsL l).take n, labB x = true := fun x hx => labs_all l x (List.mem_of_mem_take hx)
theorem labs_top (l : List UInt8) (n : Int) : labsL (topL l n) = (labsL l).take n.toNat := labs_jn (labs_take_all l _) (by have := labsL_len l; rw [List.length_take]; omega)
theorem right_top (l : List UInt8) (n : Int) : rightB (topL l n) = true := right_jn (labs_take_all l _) (by have := labsL_len l; rw [List.length_take]; omega)
theorem jn_labs {l : List UInt8} (h : rightB l = true) : jn (labsL l) = l := by unfold labsL; rw [if_pos h, jn_parts]
def okC (c : UInt8) : Prop := c ≠ 47 ∧ c ≠ 62
theorem okC_dig {c : UInt8} (h : 48 ≤ c.toNat ∧ c.toNat ≤ 57) : okC c := by
 constructor <;> (rintro rfl; revert h; decide)
theorem dec_chr : ∀ n : Fin 256, ∀ c ∈ Lib.decDigits n, 48 ≤ c.toNat ∧ c.toNat ≤ 57 := by decide +kernel
theorem byte_chr {b : Int} (h : 0 ≤ b ∧ b ≤ 255) {c : UInt8} (hc : c ∈ Lib.decDigits b.toNat) : okC c := okC_dig (dec_chr ⟨b.toNat, by omega⟩ c hc)
theorem print4_chr (a : Int) : ∀ c ∈ print4 a, okC c := by
 intro c hc
 unfold print4 at hc
 rw [txt4_is] at hc
 simp only [List.mem_append, List.mem_cons] at hc
 have h46 : okC 46 := ⟨by decide, by decide⟩
 rcases hc with h | h | h | h | h | h | h
 ·exact byte_chr (byteI_range a 0) h
 ·rw [h]; exact h46
 ·exact byte_chr (byteI_range a 1) h
 ·rw [h]; exact h46
 ·exact byte_chr (byteI_range a 2) h
 ·rw [h]; exact h46
 ·exact byte_chr (byteI_range a 3) h
theorem parse4_chr {l : List UInt8} (h : (parse4 l).2 = 0) : ∀ c ∈ l, okC c := by
 have e := (parse_ok h).1
 intro c hc
 rw [← e] at hc
 exact print4_chr _ c hc
theorem hexV_47 : hexV 47 = none := by decide
theorem hexV_62 : hexV 62 = none := by decide
theorem hexV_chr {c : UInt8} {d : Nat} (h : hexV c = some d) : okC c := by
 constructor
 ·rintro rfl; rw [hexV_47] at h; cases h
 ·rintro rfl; rw [hexV_62] at h; cases h
theorem hexM_chr : ∀ (l : List UInt8) (acc v : Nat), hexM acc l = some v → ∀ c ∈ l, okC c
 | [], _, _, _, c, hc => by cases hc
 | x :: r, acc, v, h, c, hc => by
  unfold hexM at h
  cases hx : hexV x with
  | none => rw [hx] at h; cases h
  | some d =>
   rw [hx] at h
   dsimp only at h
   split at h
   ·cases h
   ·rcases List.mem_cons.1 hc with rfl | hc
    ·exact hexV_chr hx
    ·exact hexM_chr r _ v h c hc
theorem grpV_chr {l : List UInt8} {v : Nat} (h : grpV l = some v) : ∀ c ∈ l, okC c := by
 unfold grpV hexP at h
 split at h
 ·cases h
 ·split at h
  ·rename_i e; rw [e]; simp
  ·exact hexM_chr l 0 v h
theorem lastV_chr {d : Bool} {p : List UInt8} {vs : List Nat} (h : lastV d p = some vs) : ∀ c ∈ p, okC c := by
 unfold lastV at h
 split at h
 ·rename_i e; exact parse4_chr e.2
 ·cases hg : grpV p with
  | none => rw [hg] at h; cases h
  | some v => exact grpV_chr hg
theorem seqV_chr (d : Bool) : ∀ (ps : List (List UInt8)) (vs : List Nat), seqV d ps = some vs → ∀ p ∈ ps, ∀ c ∈ p, okC c
 | [], _, _, p, hp => by cases hp
 | [q], vs, h, p, hp => by
  rw [List.mem_singleton] at hp
  subst hp
  exact lastV_chr h
 | q :: q' :: r, vs, h, p, hp => by
  unfold seqV at h
  cases h1 : grpV q with
  | none => rw [h1] at h; cases h
  | some v =>
   rw [h1] at h
   cases h2 : seqV d (q' :: r) with
   | none => rw [h2] at h; cases h
   | some us =>
    rcases List.mem_cons.1 hp with rfl | hp
    ·exact grpV_chr h1
    ·exact seqV_chr d (q' :: r) us h2 p hp
theorem splitC_mem : ∀ (l : List UInt8) (c : UInt8), c ∈ l → c ≠ 58 → ∃ p ∈ splitC l, c ∈ p
 | [], c, h, _ => by cases h
 | x :: r, c, h, hc => by
  unfold splitC
  by_cases hx : x = 58
  ·rw [if_pos hx]
   rcases List.mem_cons.1 h with rfl | h
   ·exact absurd hx hc
   ·obtain ⟨p, hp, hcp⟩ := splitC_mem r c h hc
    exact ⟨p, List.mem_cons_of_mem _ hp, hcp⟩
  ·rw [if_neg hx]
   cases hs : splitC r with
   | nil => exact absurd hs (split_ne r)
   | cons q t =>
    dsimp only
    rcases List.mem_cons.1 h with rfl | h
    ·exact ⟨c :: q, List.mem_cons_self, List.mem_cons_self⟩
    ·obtain ⟨p, hp, hcp⟩ := splitC_mem r c h hc
     rw [hs] at hp
     rcases List.mem_cons.1 hp with rfl | hp
     ·exact ⟨x :: p, List.mem_cons_self, List.mem_cons_of_mem _ hcp⟩
     ·exact ⟨p, List.mem_cons_of_mem _ hp, hcp⟩
theorem ok58 : okC 58 := ⟨by decide, by decide⟩
theorem readV_chr {d : Bool} {l : List UInt8} {vs : List Nat} (h : readV d l = some vs) : ∀ c ∈ l, okC c := by
 unfold readV at h
 split at h
 ·rename_i e; rw [e]; simp
 ·intro c hc
  by_cases h58 : c = 58
  ·rw [h58]; exact ok58
  ·obtain ⟨p, hp, hcp⟩ := splitC_mem l c hc h58
   exact seqV_chr d _ vs h p hp c hcp
theorem cc_split (l : List UInt8) : cc l = (l, [], false) ∨ (l = (cc l).1 ++ ([58, 58] ++ (cc l).2.1) ∧ (cc l).2.2 = true) := by
 rcases cc_index l with ⟨_, h⟩ | ⟨k, hk, hk2, h⟩
 ·exact .inl h
 ·refine .inr ⟨?_, by rw [h]⟩
  rw [h]
  dsimp only
  rcases Lib.index_spec l [58, 58] with ⟨e, _⟩ | ⟨i, e, hi, ho, _⟩
  ·rw [hk] at e; omega
  ·rw [hk] at e
   obtain rfl : k = i := by omega
   unfold Lib.occAt at ho
   obtain ⟨r, hr⟩ := List.isPrefixOf_iff_prefix.1 ho
   have e2 : l.drop (k + 2) = r := by rw [← List.drop_drop, ← hr]; rfl
   rw [e2, hr, List.take_append_drop]
theorem parse6_chr {l : List UInt8} {gs : List Nat} (h : parse6 l = some gs) : ∀ c ∈ l, okC c := by
 unfold parse6 at h
 cases h1 : readV (!(cc l).2.2) (cc l).1 with
 | none => rw [h1] at h; cases h
 | some u =>
  rw [h1] at h
  cases h2 : readV true (cc l).2.1 with
  | none => rw [h2] at h; cases h
  | some v =>
   rcases cc_split l with e | ⟨e, _⟩
   ·rw [e] at h1
    exact readV_chr h1
   ·intro c hc
    rw [e] at hc
    simp only [List.mem_append, List.mem_cons, List.not_mem_nil, or_false] at hc
    rcases hc with hc | (rfl | rfl) | hc
    ·exact readV_chr h1 c hc
    ·exact ok58
    ·exact ok58
    ·exact readV_chr h2 c hc
theorem print6_chr (f : Nat → Int) (hf : ∀ k, 0 ≤ f k ∧ f k ≤ 65535) : ∀ c ∈ print6 f, okC c := parse6_chr (back6_id f hf)
theorem mem_chr {c : UInt8} (h : memB c = true) : okC c := by
 constructor <;> (rintro rfl; revert h; decide)
theorem tail_chr : ∀ (ps : List (List UInt8)), (∀ p ∈ ps, ∀ c ∈ p, okC c) → ∀ c ∈ Lib.joinTail [46] ps, okC c := by
 intro ps h c hc
 unfold Lib.joinTail at hc
 rw [List.mem_flatten] at hc
 obtain ⟨q, hq, hcq⟩ := hc
 rw [List.mem_map] at hq
 obtain ⟨p, hp, rfl⟩ := hq
 rcases List.mem_append.1 hcq with h1 | h1
 ·rw [List.mem_singleton] at h1; rw [h1]; exact ⟨by decide, by decide⟩
 ·exact h p hp c h1
theorem path_chr {p : List UInt8} (h : rightB p = true) : ∀ c ∈ p, okC c := by
 have e := jn_labs h
 have hl : ∀ q ∈ labsL p, ∀ c ∈ q, okC c := by
  intro q hq c hc
  have hall : (partsL p).all labB = true := by unfold rightB at h; simp only [Bool.and_eq_true] at h; exact h.2
  unfold labsL at hq
  rw [if_pos h] at hq
  have hb := List.all_eq_true.1 hall q hq
  unfold labB at hb
  simp only [Bool.and_eq_true] at hb
  exact mem_chr (List.all_eq_true.1 hb.1.1 c hc)
 intro c hc
 rw [← e] at hc
 unfold jn at hc
 cases hs : labsL p with
 | nil => rw [hs, Lib.join_nil] at hc; cases hc
 | cons q r =>
  rw [hs] at hc hl
  rw [Lib.join_cons] at hc
  rcases List.mem_append.1 hc with h1 | h1
  ·exact hl q List.mem_cons_self c h1
  ·exact tail_chr r (fun p hp => hl p (List.mem_cons_of_mem _ hp)) c h1
theorem decN_chr (n : Nat) : ∀ c ∈ decN n, okC c := fun c hc => okC_dig (dec_digs n c hc)
theorem tx_chr {l : List UInt8} (h : txB l = true) : ∀ c ∈ l, okC c := by
 rw [← dec_val h]; exact decN_chr _
end Go.Proofs.YtboinifeemghaaaGreatDoor
namespace Go.Proofs.YtboinifeemghaaaGreatDoor
def maskI (n : Int) : Int := MM - 2 ^ (128 - min n.toNat 128)
def bitI (v i : Int) : Bool := decide (0 ≤ i ∧ i < 128 ∧ v / 2 ^ (127 - i).toNat % 2 = 1)
def sameI (a b : Int) : Nat := ((List.range 128).find? fun i : Nat => bitI a i != bitI b i).getD 128
theorem word_lit (n : Int) (h0 : 0 ≤ n) (h : n < 18446744073709551616) : Word n := ⟨h0, h⟩
theorem mask_mod (n : Int) (h : 1 ≤ n) : (wv 18446744073709551615 18446744073709551615 * 2 ^ (128 - n).toNat) % MM = maskI n % MM := by
 have e : (128 - n).toNat = 128 - min n.toNat 128 := by omega
 unfold maskI; rw [e]
 generalize (2 : Int) ^ (128 - min n.toNat 128) = z
 unfold wv MM; omega
theorem mask_range (n : Int) : 0 ≤ maskI n ∧ maskI n < MM := by
 unfold maskI
 have h1 : (2 : Int) ^ (128 - min n.toNat 128) ≤ 2 ^ 128 := by
  have := Nat.pow_le_pow_right (n := 2) (by decide) (show 128 - min n.toNat 128 ≤ 128 by omega)
  exact_mod_cast this
 have h2 : (0 : Int) < 2 ^ (128 - min n.toNat 128) := Int.pow_pos (by decide)
 rw [show (2 : Int) ^ 128 = MM by rfl] at h1
 generalize (2 : Int) ^ (128 - min n.toNat 128) = z at *; omega
theorem wv_mask (n : Int) : wv (hi (maskI n)) (lo (maskI n)) = maskI n := by
 rw [wv_hi_lo]; exact Int.emod_eq_of_lt (mask_range n).1 (mask_range n).2
theorem mask_zero (n : Int) (h : n < 1) : maskI n = 0 := by
 unfold maskI; rw [show n.toNat = 0 by omega]; rfl
theorem mask_nat (n : Int) : (maskI n).toNat = 2 ^ 128 - (2 ^ (128 - min n.toNat 128) - 1 + 1) := by
 have h := Nat.two_pow_pos (128 - min n.toNat 128)
 have e : maskI n = ((2 ^ 128 - 2 ^ (128 - min n.toNat 128) : Nat) : Int) := by
  unfold maskI MM
  have h1 : 2 ^ (128 - min n.toNat 128) ≤ 2 ^ 128 := Nat.pow_le_pow_right (by decide) (by omega)
  rw [Int.ofNat_sub h1]; simp
 rw [e, Int.toNat_natCast, Nat.sub_add_cancel h]
theorem top_nat (a j : Nat) (ha : a < 2 ^ 128) (hj : j ≤ 128) : a &&& (2 ^ 128 - (2 ^ j - 1 + 1)) = a / 2 ^ j * 2 ^ j := by
 apply Nat.eq_of_testBit_eq
 intro i
 have h1 : 2 ^ j - 1 < 2 ^ 128 := by
  have := Nat.two_pow_pos j
  have : 2 ^ j ≤ 2 ^ 128 := Nat.pow_le_pow_right (by decide) hj
  omega
 rw [Nat.testBit_and, Nat.testBit_two_pow_sub_succ h1, Nat.testBit_two_pow_sub_one, Nat.testBit_mul_two_pow, Nat.testBit_div_two_pow]
 by_cases hi : i < j
 ·have : ¬ j ≤ i := by omega
  simp [hi, this]
 ·have hji : j ≤ i := by omega
  by_cases h128 : i < 128
  ·simp [hi, hji, h128]
  ·have : a.testBit i = false := Nat.testBit_lt_two_pow (Nat.lt_of_lt_of_le ha (Nat.pow_le_pow_right (by decide) (by omega)))
   simp [hi, hji, h128, this]
theorem topI (a n : Int) (h0 : 0 ≤ a) (h1 : a < MM) : andI a (maskI n) = a / 2 ^ (128 - min n.toNat 128) * 2 ^ (128 - min n.toNat 128) := by
 obtain ⟨k, rfl⟩ := Int.eq_ofNat_of_zero_le h0
 unfold andI
 rw [mask_nat, Int.toNat_natCast, top_nat k _ (by unfold MM at h1; omega) (by omega)]
 simp
theorem div_step (a : Int) (k : Nat) (hk : k < 128) : a / 2 ^ (127 - k) = 2 * (a / 2 ^ (128 - k)) + a / 2 ^ (127 - k) % 2 := by
 have e : (2 : Int) ^ (128 - k) = 2 ^ (127 - k) * 2 := by rw [← Int.pow_succ]; congr 1; omega
 rw [e, ← Int.ediv_ediv_of_nonneg (Int.pow_nonneg (by decide))]
 generalize a / 2 ^ (127 - k) = z
 omega
theorem bit_def (a : Int) (k : Nat) (hk : k < 128) : bitI a k = decide (a / 2 ^ (127 - k) % 2 = 1) := by
 unfold bitI
 rw [show (127 - (k : Int)).toNat = 127 - k by omega]
 have : (k : Int) < 128 := by omega
 simp [this]
theorem div_same (a b : Int) (k : Nat) (hk : k ≤ 128) (h0 : a / 2 ^ 128 = b / 2 ^ 128) (h : ∀ j : Nat, j < k → bitI a j = bitI b j) : a / 2 ^ (128 - k) = b / 2 ^ (128 - k) := by
 induction k with
 | zero => exact h0
 | succ k ih =>
  have i := ih (by omega) (fun j hj => h j (by omega))
  have hb := h k (by omega)
  rw [bit_def a k (by omega), bit_def b k (by omega), decide_eq_decide] at hb
  rw [show 128 - (k + 1) = 127 - k by omega, div_step a k (by omega), div_step b k (by omega), i]
  generalize a / 2 ^ (127 - k) = x at *; generalize b / 2 ^ (127 - k) = y at *
  omega
theorem big_div (a : Int) (h0 : 0 ≤ a) (h1 : a < MM) : a / 2 ^ 128 = 0 := Int.ediv_eq_zero_of_lt h0 h1
end Go.Proofs.YtboinifeemghaaaGreatDoor
namespace Go.Proofs.YtboinifeemghaaaGreatDoor
open Go.RowKit
theorem and_any (ah al bh bl : Int) (h1 : Word ah) (h2 : Word al) (h3 : Word bh) (h4 : Word bl) (w : World) :
  Calls Tryz.prog 137 #[.agg #[.int .u64 ah, .int .u64 al], .agg #[.int .u64 bh, .int .u64 bl]] w fun e w' =>
   e = .returned (.agg #[.int .u64 (hi (andI (wv ah al) (wv bh bl))), .int .u64 (lo (andI (wv ah al) (wv bh bl)))]) ∧ Below w.heap.size w w' := by
 obtain ⟨P1, P2⟩ := and_pure h1 h2 h3 h4
 rw [P1, P2]; clear P1 P2 h1 h2 h3 h4
 go_enter Tryz.func137, Tryz.ntmps137
 go_wp2
 exact bodyPost_ret (v := .agg #[.int .u64 (bits .and .u64 ah bh), .int .u64 (bits .and .u64 al bl)]) (by simp [results, Tryz.results137, go_sem]) rfl ⟨rfl, (by repeat (first | exact Below.refl _ _ | assumption | (with_reducible refine Below.drew ?_) | ((with_reducible first | refine Below.setCell ?_ ?h _ | refine Below.alloc ?_ ?h _); case h => first | omega | (simp; done) | (simp; omega))))⟩
theorem mask_any (n : Int) (hn : n ≤ 9223372036854775807) (w : World) :
  Calls Tryz.prog 138 #[.int .i64 n] w fun e w' =>
   e = .returned (.agg #[.int .u64 (hi (maskI n)), .int .u64 (lo (maskI n))]) ∧ Below w.heap.size w w' := by
 by_cases c1 : n < 1
 ·rw [mask_zero n c1, show hi 0 = 0 from rfl, show lo 0 = 0 from rfl]
  go_enter Tryz.func138, Tryz.ntmps138
  go_wp2
  exact bodyPost_ret (v := .agg #[.int .u64 0, .int .u64 0]) (by simp [results, Tryz.results138, go_sem]) rfl ⟨rfl, (by repeat (first | exact Below.refl _ _ | assumption | (with_reducible refine Below.drew ?_) | ((with_reducible first | refine Below.setCell ?_ ?h _ | refine Below.alloc ?_ ?h _ | refine Below.trans ?_ (hb.mono ?h)); case h => first | omega | (simp; done) | (simp; omega))))⟩
 ·rw [hi_congr (mask_mod n (by omega)).symm, lo_congr (mask_mod n (by omega)).symm]
  go_enter Tryz.func138, Tryz.ntmps138
  go_wp2_with fail
  refine (left_any _ _ _ (word_lit 18446744073709551615 (by decide) (by decide)) (word_lit 18446744073709551615 (by decide) (by decide)) _).mono ?_
  rintro e w' ⟨rfl, hb⟩; obtain ⟨q1, q2⟩ := bcell hb; have hz := hb.size; (try simp at hz)
  go_wp2
  refine bodyPost_ret (v := .agg #[.int .u64 (hi (wv 18446744073709551615 18446744073709551615 * 2 ^ (128 - n).toNat)), .int .u64 (lo (wv 18446744073709551615 18446744073709551615 * 2 ^ (128 - n).toNat))]) (by simp [results, Tryz.results138, go_sem, q1]) rfl ⟨rfl, ?_⟩
  exact (by repeat (first | exact Below.refl _ _ | assumption | (with_reducible refine Below.drew ?_) | ((with_reducible first | refine Below.setCell ?_ ?h _ | refine Below.alloc ?_ ?h _ | refine Below.trans ?_ (hb.mono ?h)); case h => first | omega | (simp; done) | (simp; omega))))
theorem top_any (ah al n : Int) (h1 : Word ah) (h2 : Word al) (hn : n ≤ 9223372036854775807) (w : World) :
  Calls Tryz.prog 112 #[.agg #[.int .u64 ah, .int .u64 al], .int .i64 n] w fun e w' =>
   e = .returned (.agg #[.int .u64 (hi (andI (wv ah al) (maskI n))), .int .u64 (lo (andI (wv ah al) (maskI n)))]) ∧ Below w.heap.size w w' := by
 rw [← wv_mask n]
 go_enter Tryz.func112, Tryz.ntmps112
 go_wp2
 go_region_held3 (fun w' => w'.cell? ⟨w.heap.size, 0, none⟩ = some (.int .u64 ah) ∧ w'.cell? ⟨w.heap.size, 1, none⟩ = some (.int .u64 al)) (first | (simp [go_sem, World.cell?_alloc_past]; done) | ((repeat' apply And.intro) <;> (repeat (first | assumption | (simp only [World.cell?_drew]) | (with_reducible refine (World.cell?_setCell_far _ _ _ _ ?h).trans ?_; case h => first | omega | (simp; done) | (simp; omega)) | (with_reducible refine (hb4.cell ?h).trans ?_; case h => first | omega | (simp; done) | (simp; omega)) | (with_reducible refine (hb3.cell ?h).trans ?_; case h => first | omega | (simp; done) | (simp; omega)) | (with_reducible refine (hb2.cell ?h).trans ?_; case h => first | omega | (simp; done) | (simp; omega)) | (with_reducible refine (hb.cell ?h).trans ?_; case h => first | omega | (simp; done) | (simp; omega)) | (with_reducible refine (hb0.cell ?h).trans ?_; case h => first | omega | (simp; done) | (simp; omega)))) <;> (try (simp [go_sem, World.cell?_alloc_past]))))
  (first
   | (go_at_call 138; refine (mask_any n hn _).mono ?_; rintro e w' ⟨rfl, hb⟩; obtain ⟨q1, q2⟩ := bcell hb; have hz := hb.size; (try simp at hz))
   | (go_at_call 137; refine (and_any _ _ _ _ h1 h2 (word_hi _) (word_lo _) _).mono ?_; rintro e w2 ⟨rfl, hb2x⟩; have hb2 := hb.trans (hb2x.mono hb.size); obtain ⟨q3, q4⟩ := bcell hb2; have hz2 := hb2.size; (try simp at hz2)))
 go_wp2
 refine bodyPost_ret (v := .agg #[.int .u64 (hi (andI (wv ah al) (wv (hi (maskI n)) (lo (maskI n))))), .int .u64 (lo (andI (wv ah al) (wv (hi (maskI n)) (lo (maskI n)))))]) (by simp [results, Tryz.results112, go_sem, q3, q1]) rfl ⟨rfl, ?_⟩
 exact (by repeat (first | exact Below.refl _ _ | assumption | (with_reducible refine Below.drew ?_) | ((with_reducible first | refine Below.setCell ?_ ?h _ | refine Below.alloc ?_ ?h _ | refine Below.trans ?_ (hb4.mono ?h) | refine Below.trans ?_ (hb3.mono ?h) | refine Below.trans ?_ (hb2.mono ?h) | refine Below.trans ?_ (hb.mono ?h) | refine Below.trans ?_ (hb0.mono ?h)); case h => first | omega | (simp; done) | (simp; omega))))
structure Ke where
 kind : Int
 len : Int
 h : Int
 l : Int
 path : List UInt8
 deriving DecidableEq
def kv (k : Ke) : Value := .agg #[.int .i64 k.kind, .int .i64 k.len, .int .u64 k.h, .int .u64 k.l, .string ⟨k.path.toArray⟩]
def kz : Ke := ⟨0, 0, 0, 0, []⟩
def Ke.num (k : Ke) : Int := wv k.h k.l
def wid (kind : Int) : Int := if kind = 1 then 32 else if kind = 2 then 128 else if kind = 3 then 8 else 0
theorem wid_range (k : Int) : 0 ≤ wid k ∧ wid k ≤ 128 := by unfold wid; repeat' split <;> omega
def topK (k : Ke) (n : Int) : Ke := if k.kind = 3 then ⟨3, n, 0, 0, topL k.path n⟩ else ⟨k.kind, n, hi (andI k.num (maskI n)), lo (andI k.num (maskI n)), []⟩
def pathK (p : List UInt8) : Ke := ⟨3, (labsL p).length, 0, 0, p⟩
def rightK (k : Ke) : Bool := if k.kind = 1 ∨ k.kind = 2 then decide (0 ≤ k.len) && decide (k.len ≤ wid k.kind) && decide (k = topK k k.len) else if k.kind = 3 then rightB k.path && decide (k = pathK k.path) else false
def tp (A : Int) (n : Nat) : Int := A / 2 ^ (128 - n) * 2 ^ (128 - n)
theorem tp_eq (A n : Int) (h0 : 0 ≤ A) (h1 : A < MM) (n1 : n ≤ 128) : andI A (maskI n) = tp A n.toNat := by
 rw [topI A n h0 h1, show min n.toNat 128 = n.toNat by omega]; rfl
theorem tp_range {A : Int} {n : Nat} (h0 : 0 ≤ A) (h1 : A < MM) : 0 ≤ tp A n ∧ tp A n ≤ A := by
 unfold tp
 have hp : (0 : Int) < 2 ^ (128 - n) := Int.pow_pos (by decide)
 exact ⟨Int.mul_nonneg (Int.ediv_nonneg h0 (by omega)) (by omega), Int.ediv_mul_le A (by omega)⟩
theorem pow2_ne (n : Nat) : (2 : Int) ^ n ≠ 0 := Int.ne_of_gt (Int.pow_pos (by decide))
theorem tp_bit (A : Int) (n j : Nat) (hn : n ≤ 128) (hj : j < 128) : bitI (tp A n) j = if j < n then bitI A j else false := by
 rw [bit_def _ j hj, bit_def _ j hj]
 unfold tp
 by_cases h : j < n
 ·rw [if_pos h]
  have e : (2 : Int) ^ (127 - j) = 2 ^ (128 - n) * 2 ^ (n - 1 - j) := by rw [← Int.pow_add]; congr 1; omega
  rw [e, ← Int.ediv_ediv_of_nonneg (Int.pow_nonneg (by decide)), ← Int.ediv_ediv_of_nonneg (Int.pow_nonneg (by decide)), Int.mul_ediv_cancel _ (pow2_ne _)]
 ·rw [if_neg h]
  have e : (2 : Int) ^ (128 - n) = 2 ^ (j - n) * 2 * 2 ^ (127 - j) := by rw [← Int.pow_succ, ← Int.pow_add]; congr 1; omega
  rw [e, ← Int.mul_assoc, Int.mul_ediv_cancel _ (pow2_ne _)]
  generalize A / (2 ^ (j - n) * 2 * 2 ^ (127 - j)) = x
  generalize (2 : Int) ^ (j - n) = y
  rw [← Int.mul_assoc, decide_eq_false_iff_not]
  generalize x * y = z
  omega
theorem num_eq_of_bits {A B : Int} (a0 : 0 ≤ A) (a1 : A < MM) (b0 : 0 ≤ B) (b1 : B < MM) (h : ∀ j : Nat, j < 128 → bitI A j = bitI B j) : A = B := by
 have := div_same A B 128 (by omega) (by rw [big_div A a0 a1, big_div B b0 b1]) h
 simpa using this
theorem tp_tp {A : Int} {n m : Nat} (hn : n ≤ 128) (h0 : 0 ≤ A) (h1 : A < MM) (hm : m ≤ n) : tp (tp A n) m = tp A m := by
 have r := tp_range (n := n) h0 h1
 have r1 := tp_range (n := m) h0 h1
 have r2 := tp_range (A := tp A n) (n := m) r.1 (by omega)
 refine num_eq_of_bits r2.1 (by omega) r1.1 (by omega) fun j hj => ?_
 rw [tp_bit _ m j (by omega) hj, tp_bit _ m j (by omega) hj, tp_bit _ n j hn hj]
 by_cases h : j < m
 ·rw [if_pos h, if_pos h, if_pos (by omega)]
 ·rw [if_neg h, if_neg h]
structure Adr (k : Ke) : Prop where
 kind : k.kind = 1 ∨ k.kind = 2
 lo : 0 ≤ k.len
 up : k.len ≤ wid k.kind
 path : k.path = []
 h : Word k.h
 l : Word k.l
 num : k.num = tp k.num k.len.toNat
theorem num_range {k : Ke} (h : Word k.h) (l : Word k.l) : 0 ≤ k.num ∧ k.num < MM := by unfold Ke.num wv MM; unfold Word at *; omega
theorem Adr.range {k : Ke} (h : Adr k) : 0 ≤ k.num ∧ k.num < MM := num_range h.h h.l
theorem Adr.len {k : Ke} (h : Adr k) : k.len ≤ 128 := Int.le_trans h.up (wid_range _).2
theorem Adr.ne {k : Ke} (h : Adr k) : ¬ k.kind = 3 := by rcases h.kind with e | e <;> omega
theorem ke_ext {a b : Ke} (h1 : a.kind = b.kind) (h2 : a.len = b.len) (h3 : a.h = b.h) (h4 : a.l = b.l) (h5 : a.path = b.path) : a = b := by
 cases a; cases b; simp_all
theorem num_topK {k : Ke} (h3 : ¬ k.kind = 3) (hr : 0 ≤ k.num ∧ k.num < MM) (n : Int) (n1 : n ≤ 128) : (topK k n).num = tp k.num n.toNat := by
 unfold topK
 rw [if_neg h3]
 unfold Ke.num
 show wv (hi _) (lo _) = _
 have r := tp_range (n := n.toNat) hr.1 hr.2
 have e := tp_eq k.num n hr.1 hr.2 n1
 unfold Ke.num at *
 rw [wv_hi_lo, e, Int.emod_eq_of_lt r.1 (by omega)]
theorem adr_of_right {k : Ke} (h : rightK k = true) (hk : k.kind = 1 ∨ k.kind = 2) : Adr k := by
 unfold rightK at h
 rw [if_pos hk] at h
 simp only [Bool.and_eq_true, decide_eq_true_eq] at h
 obtain ⟨⟨h1, h2⟩, h3⟩ := h
 have hn : ¬ k.kind = 3 := by rcases hk with e | e <;> omega
 have e : topK k k.len = ⟨k.kind, k.len, hi (andI k.num (maskI k.len)), lo (andI k.num (maskI k.len)), []⟩ := by unfold topK; rw [if_neg hn]
 have wh : Word k.h := by rw [h3, e]; exact word_hi _
 have wl : Word k.l := by rw [h3, e]; exact word_lo _
 have hr := num_range wh wl
 have hw := (wid_range k.kind).2
 refine ⟨hk, h1, h2, by rw [h3, e], wh, wl, ?_⟩
 rw [← num_topK hn hr k.len (by omega), ← h3]
theorem right_of_adr {k : Ke} (h : Adr k) : rightK k = true := by
 unfold rightK
 rw [if_pos h.kind]
 simp only [Bool.and_eq_true, decide_eq_true_eq]
 refine ⟨⟨h.lo, h.up⟩, ?_⟩
 have e : topK k k.len = ⟨k.kind, k.len, hi (andI k.num (maskI k.len)), lo (andI k.num (maskI k.len)), []⟩ := by unfold topK; rw [if_neg h.ne]
 have hr := h.range
 rw [e, tp_eq k.num k.len hr.1 hr.2 h.len, ← h.num]
 refine ke_ext rfl rfl ?_ ?_ h.path
 ·exact (hi_wv h.h h.l).symm
 ·exact (lo_wv h.l).symm
theorem right_path {k : Ke} (h : rightK k = true) (hk : k.kind = 3) : rightB k.path = true ∧ k = pathK k.path := by
 unfold rightK at h
 rw [if_neg (by omega), if_pos hk] at h
 simpa using h
theorem right_pathK {p : List UInt8} (h : rightB p = true) : rightK (pathK p) = true := by
 unfold rightK
 rw [if_neg (by unfold pathK; simp), if_pos (show (pathK p).kind = 3 from rfl)]
 simp [pathK, h]
theorem right_kind {k : Ke} (h : rightK k = true) : (k.kind = 1 ∨ k.kind = 2) ∨ k.kind = 3 := by
 unfold rightK at h
 by_cases h1 : k.kind = 1 ∨ k.kind = 2
 ·exact .inl h1
 ·rw [if_neg h1] at h
  by_cases h2 : k.kind = 3
  ·exact .inr h2
  ·rw [if_neg h2] at h; cases h
def bitS (b : Bool) : List UInt8 := if b = true then [49] else [48]
theorem bitS_inj {a b : Bool} (h : bitS a = bitS b) : a = b := by cases a <;> cases b <;> simp_all [bitS]
def letK (k : Ke) : List (List UInt8) := if k.kind = 3 then labsL k.path else (List.range k.len.toNat).map fun i : Nat => bitS (bitI k.num i)
theorem letK_adr {k : Ke} (h : Adr k) : letK k = (List.range k.len.toNat).map fun i : Nat => bitS (bitI k.num i) := by unfold letK; rw [if_neg h.ne]
theorem letK_len {k : Ke} (h : rightK k = true) : ((letK k).length : Int) = k.len := by
 rcases right_kind h with hk | hk
 ·have a := adr_of_right h hk
  rw [letK_adr a]; simp; have := a.lo; omega
 ·obtain ⟨h1, h2⟩ := right_path h hk
  rw [h2]; rfl
theorem len_range {k : Ke} (h : rightK k = true) : 0 ≤ k.len ∧ k.len ≤ 128 := by
 rcases right_kind h with hk | hk
 ·have a := adr_of_right h hk
  exact ⟨a.lo, a.len⟩
 ·obtain ⟨h1, h2⟩ := right_path h hk
  rw [h2]; have := labsL_len k.path; unfold pathK; simp; omega
theorem ke_of_letters {a b : Ke} (ha : rightK a = true) (hb : rightK b = true) (hk : a.kind = b.kind) (h : letK a = letK b) : a = b := by
 have la := letK_len ha
 have lb := letK_len hb
 have hl : a.len = b.len := by rw [← la, ← lb, h]
 rcases right_kind ha with k1 | k1
 ·have A := adr_of_right ha k1
  have B := adr_of_right hb (hk ▸ k1)
  have hn : a.num = b.num := by
   refine num_eq_of_bits A.range.1 A.range.2 B.range.1 B.range.2 fun j hj => ?_
   rw [A.num, B.num, tp_bit _ _ j (by have := A.len; omega) hj, tp_bit _ _ j (by have := B.len; omega) hj, ← hl]
   by_cases hjl : j < a.len.toNat
   ·rw [if_pos hjl, if_pos hjl]
    rw [letK_adr A, letK_adr B, ← hl] at h
    have := congrArg (fun x => x[j]?) h
    simp [hjl] at this
    exact bitS_inj this
   ·rw [if_neg hjl, if_neg hjl]
  refine ke_ext hk hl ?_ ?_ (by rw [A.path, B.path])
  ·rw [← hi_wv A.h A.l, ← hi_wv B.h B.l]; exact congrArg hi hn
  ·rw [← lo_wv (h := a.h) A.l, ← lo_wv (h := b.h) B.l]; exact congrArg lo hn
 ·obtain ⟨a1, a2⟩ := right_path ha k1
  obtain ⟨b1, b2⟩ := right_path hb (hk ▸ k1)
  have hp : a.path = b.path := by
   unfold letK at h
   rw [if_pos k1, if_pos (hk ▸ k1)] at h
   rw [← jn_labs a1, ← jn_labs b1, h]
  rw [a2, b2, hp]
theorem topK_kind (k : Ke) (n : Int) : (topK k n).kind = k.kind := by unfold topK; split <;> simp_all
theorem topK_len (k : Ke) (n : Int) : (topK k n).len = n := by unfold topK; split <;> rfl
theorem top_right {k : Ke} (h : rightK k = true) (n : Int) (n0 : 0 ≤ n) (n1 : n ≤ k.len) : rightK (topK k n) = true ∧ letK (topK k n) = (letK k).take n.toNat := by
 rcases right_kind h with hk | hk
 ·have A := adr_of_right h hk
  have hl := A.len
  have hr := A.range
  have hN := num_topK A.ne hr n (by omega)
  have e : topK k n = ⟨k.kind, n, hi (andI k.num (maskI n)), lo (andI k.num (maskI n)), []⟩ := by unfold topK; rw [if_neg A.ne]
  have T : Adr (topK k n) := by
   refine ⟨by rw [topK_kind]; exact hk, by rw [topK_len]; exact n0, ?_, by rw [e], by rw [e]; exact word_hi _, by rw [e]; exact word_lo _, ?_⟩
   ·rw [topK_len, topK_kind]; have := A.up; omega
   ·rw [hN, topK_len, tp_tp (by omega) hr.1 hr.2 (Nat.le_refl _)]
  refine ⟨right_of_adr T, ?_⟩
  rw [letK_adr T, letK_adr A, topK_len, hN]
  apply List.ext_getElem?
  intro j
  by_cases hj : j < n.toNat
  ·have h1 : j < k.len.toNat := by omega
   simp [hj, h1, tp_bit k.num n.toNat j (by omega) (by omega)]
  ·have h2 : n.toNat ≤ j := by omega
   simp [List.getElem?_take, hj]
 ·obtain ⟨h1, h2⟩ := right_path h hk
  have e : topK k n = pathK (topL k.path n) := by
   unfold topK pathK
   rw [if_pos hk, labs_top, List.length_take]
   have : k.len = (labsL k.path).length := by rw [h2]; rfl
   congr 1
   omega
  rw [e]
  refine ⟨right_pathK (right_top _ _), ?_⟩
  unfold letK
  rw [if_pos (show (pathK _).kind = 3 from rfl), if_pos hk]
  exact labs_top _ _
theorem top_full {k : Ke} (h : rightK k = true) : topK k k.len = k := by
 have hl := len_range h
 obtain ⟨t1, t2⟩ := top_right h k.len hl.1 (Int.le_refl _)
 refine ke_of_letters t1 h (topK_kind _ _) ?_
 rw [t2, List.take_of_length_le]
 have := letK_len h; omega
def sameK (a b : Ke) : Int := if a.kind = 3 then (sameN (labsL a.path) (labsL b.path) : Nat) else min (min a.len b.len) (sameI a.num b.num : Nat)
def cutK (k : Ke) (n : Int) : Ke := if rightK k = true then (if k.len ≤ n then k else topK k (max n 0)) else kz
def overK (a b : Ke) : Bool := rightK a && (rightK b && (decide (a.kind = b.kind) && (decide (a.len ≤ b.len) && decide (a = topK b a.len))))
def meetB (a b : Ke) : Bool := decide (a.kind = b.kind) && (rightK a && rightK b)
def meetK (a b : Ke) : Ke := if meetB a b = true then topK a (sameK a b) else kz
theorem bw {w : World} : Below w.heap.size w w := Below.refl _ _
theorem bset5 {w w1 : World} {g : Nat} (hb : Below w.heap.size w w1) (hg : w.heap.size ≤ g) (a b c d e : Value) : Below w.heap.size w (((((w1.setCell ⟨g, 0, none⟩ a).setCell ⟨g, 1, none⟩ b).setCell ⟨g, 2, none⟩ c).setCell ⟨g, 3, none⟩ d).setCell ⟨g, 4, none⟩ e) :=
 ((((hb.setCell hg a).setCell hg b).setCell hg c).setCell hg d).setCell hg e
theorem width_t (k : Int) (w : World) : Calls Tryz.prog 24 #[.int .i64 k] w fun e w' => e = .returned (.int .i64 (wid k)) ∧ Below w.heap.size w w' := by
 by_cases h1 : k = 1
 ·subst h1
  go_enter Tryz.func24, Tryz.ntmps24
  go_wp2
  go_ret
  exact ⟨rfl, bw⟩
 by_cases h2 : k = 2
 ·subst h2
  go_enter Tryz.func24, Tryz.ntmps24
  go_wp2
  go_ret
  exact ⟨rfl, bw⟩
 by_cases h3 : k = 3
 ·subst h3
  go_enter Tryz.func24, Tryz.ntmps24
  go_wp2
  go_ret
  exact ⟨rfl, bw⟩
 have e : wid k = 0 := by unfold wid; rw [if_neg h1, if_neg h2, if_neg h3]
 rw [e]
 have b1 : (k == 1) = false := by simpa using h1
 have b2 : (k == 2) = false := by simpa using h2
 have b3 : (k == 3) = false := by simpa using h3
 go_enter Tryz.func24, Tryz.ntmps24
 go_wp2
 go_ret
 exact ⟨rfl, bw⟩
theorem ofBits_t (kd n h l : Int) (w : World) : Calls Tryz.prog 98 #[.int .i64 kd, .int .i64 n, .agg #[.int .u64 h, .int .u64 l]] w fun e w' => e = .returned (.agg #[.int .i64 kd, .int .i64 n, .int .u64 h, .int .u64 l, .string ⟨#[]⟩]) ∧ Below w.heap.size w w' := by
 go_enter Tryz.func98, Tryz.ntmps98
 go_wp2
 refine bodyPost_ret (v := .agg #[.int .i64 kd, .int .i64 n, .int .u64 h, .int .u64 l, .string ⟨#[]⟩]) (by simp [results, Tryz.results98, go_sem]) rfl ⟨rfl, (by repeat (first | exact Below.refl _ _ | assumption | (with_reducible refine Below.drew ?_) | ((with_reducible first | refine Below.setCell ?_ ?h _ | refine Below.alloc ?_ ?h _); case h => first | omega | (simp; done) | (simp; omega))))⟩
theorem bits_t (kd n h l : Int) (p : ByteArray) (w : World) : Calls Tryz.prog 113 #[.agg #[.int .i64 kd, .int .i64 n, .int .u64 h, .int .u64 l, .string p]] w fun e w' => e = .returned (.agg #[.int .u64 h, .int .u64 l]) ∧ Below w.heap.size w w' := by
 go_enter Tryz.func113, Tryz.ntmps113
 go_wp2
 refine bodyPost_ret (v := .agg #[.int .u64 h, .int .u64 l]) (by simp [results, Tryz.results113, go_sem]) rfl ⟨rfl, (by repeat (first | exact Below.refl _ _ | assumption | (with_reducible refine Below.drew ?_) | ((with_reducible first | refine Below.setCell ?_ ?h _ | refine Below.alloc ?_ ?h _); case h => first | omega | (simp; done) | (simp; omega))))⟩
theorem ofPath_t (p : List UInt8) (hp : p.length ≤ 140737488355328) (w : World) : Calls Tryz.prog 75 #[.string ⟨p.toArray⟩] w fun e w' => e = .returned (kv (pathK p)) ∧ Below w.heap.size w w' := by
 have hl := fun w1 => len_t p hp w1
 unfold kv pathK
 dsimp only
 generalize (labsL p).length = n at *
 go_enter Tryz.func75, Tryz.ntmps75
 go_wp2_with fail
 refine (hl _).mono ?_
 rintro e w1 ⟨rfl, hb⟩
 clear hl
 have R := (Row.new w #[.int .i64 0, .int .i64 0, .int .u64 0, .int .u64 0, .string ⟨#[]⟩] 26).later hb
 have hb1 : Below w.heap.size w w1 := below_step (by repeat (first | exact Below.refl _ _ | assumption | (with_reducible refine Below.drew ?_) | ((with_reducible first | refine Below.setCell ?_ ?h _ | refine Below.alloc ?_ ?h _ | refine Below.trans ?_ (hb.mono ?h)); case h => first | omega | (simp; done) | (simp; omega)))) hb
 have c0 := ((R).cell 0).trans (show _ = some (Value.int .i64 0) from rfl)
 have cf0 := (R).frozen 0
 have c1 := ((R).cell 1).trans (show _ = some (Value.int .i64 0) from rfl)
 have cf1 := (R).frozen 1
 have c2 := ((R).cell 2).trans (show _ = some (Value.int .u64 0) from rfl)
 have cf2 := (R).frozen 2
 have c3 := ((R).cell 3).trans (show _ = some (Value.int .u64 0) from rfl)
 have cf3 := (R).frozen 3
 have c4 := ((R).cell 4).trans (show _ = some (Value.string ⟨#[]⟩) from rfl)
 have cf4 := (R).frozen 4
 clear R hb
 go_wp2
 refine bodyPost_ret (v := .agg #[.int .i64 3, .int .i64 n, .int .u64 0, .int .u64 0, .string ⟨p.toArray⟩]) (by simp [results, Tryz.results75, go_sem, c0, c1, c2, c3, c4]) rfl ⟨rfl, bset5 hb1 (Nat.le_refl _) _ _ _ _ _⟩
theorem ktop_t (k : Ke) (n : Int) (hh : Word k.h) (hl : Word k.l) (hn : n ≤ 9223372036854775807) (hp : k.path.length ≤ 140737488355328) (w : World) : Calls Tryz.prog 73 #[kv k, .int .i64 n] w fun e w' => e = .returned (kv (topK k n)) ∧ Below w.heap.size w w' := by
 obtain ⟨kd, len, h, l, p⟩ := k
 dsimp only at hh hl hp
 have R0 : Row ((w.alloc (.cells #[.int .i64 kd, .int .i64 len, .int .u64 h, .int .u64 l, .string ⟨p.toArray⟩] 26)).alloc (.cells #[.int .i64 0, .int .i64 0, .int .u64 0, .int .u64 0, .string ⟨#[]⟩] 26)) w.heap.size #[.int .i64 kd, .int .i64 len, .int .u64 h, .int .u64 l, .string ⟨p.toArray⟩] 26 := (Row.new _ _ _).alloc _
 have R1 : Row ((w.alloc (.cells #[.int .i64 kd, .int .i64 len, .int .u64 h, .int .u64 l, .string ⟨p.toArray⟩] 26)).alloc (.cells #[.int .i64 0, .int .i64 0, .int .u64 0, .int .u64 0, .string ⟨#[]⟩] 26)) (w.heap.size + 1) #[.int .i64 0, .int .i64 0, .int .u64 0, .int .u64 0, .string ⟨#[]⟩] 26 := by
  have := Row.new (w.alloc (.cells #[.int .i64 kd, .int .i64 len, .int .u64 h, .int .u64 l, .string ⟨p.toArray⟩] 26)) #[.int .i64 0, .int .i64 0, .int .u64 0, .int .u64 0, .string ⟨#[]⟩] 26
  rwa [World.size_alloc] at this
 have hb0 : Below w.heap.size w ((w.alloc (.cells #[.int .i64 kd, .int .i64 len, .int .u64 h, .int .u64 l, .string ⟨p.toArray⟩] 26)).alloc (.cells #[.int .i64 0, .int .i64 0, .int .u64 0, .int .u64 0, .string ⟨#[]⟩] 26)) := (by repeat (first | exact Below.refl _ _ | assumption | (with_reducible refine Below.drew ?_) | ((with_reducible first | refine Below.setCell ?_ ?h _ | refine Below.alloc ?_ ?h _ | refine Below.trans ?_ (hb.mono ?h) | refine Below.trans ?_ (hb0.mono ?h)); case h => first | omega | (simp; done) | (simp; omega))))
 by_cases h3 : kd = 3
 ·subst h3
  have HT := fun w1 => top_t p hp n w1
  have e : kv (topK ⟨3, len, h, l, p⟩ n) = .agg #[.int .i64 3, .int .i64 n, .int .u64 0, .int .u64 0, .string ⟨(topL p n).toArray⟩] := by unfold topK; rw [if_pos rfl]; rfl
  rw [e]
  unfold kv
  dsimp only
  generalize topL p n = q at *
  go_enter Tryz.func73, Tryz.ntmps73
  go_wp2_with fail
  refine (HT _).mono ?_
  rintro e w1 ⟨rfl, hb⟩
  replace R1 := R1.later hb
  have hb1 := below_step hb0 hb
  clear HT hb R0 hb0
  have c0 := ((R1).cell 0).trans (show _ = some (Value.int .i64 0) from rfl)
  have cf0 := (R1).frozen 0
  have c1 := ((R1).cell 1).trans (show _ = some (Value.int .i64 0) from rfl)
  have cf1 := (R1).frozen 1
  have c2 := ((R1).cell 2).trans (show _ = some (Value.int .u64 0) from rfl)
  have cf2 := (R1).frozen 2
  have c3 := ((R1).cell 3).trans (show _ = some (Value.int .u64 0) from rfl)
  have cf3 := (R1).frozen 3
  have c4 := ((R1).cell 4).trans (show _ = some (Value.string ⟨#[]⟩) from rfl)
  have cf4 := (R1).frozen 4
  clear R1
  go_wp2
  refine bodyPost_ret (v := .agg #[.int .i64 3, .int .i64 n, .int .u64 0, .int .u64 0, .string ⟨q.toArray⟩]) (by simp [results, Tryz.results73, go_sem, c0, c1, c2, c3, c4]) rfl ⟨rfl, bset5 hb1 (by omega) _ _ _ _ _⟩
 ·have hk3 : (kd == 3) = false := by simpa using h3
  have HB := bits_t kd len h l ⟨p.toArray⟩
  have HT := top_any h l n hh hl hn
  have e : kv (topK ⟨kd, len, h, l, p⟩ n) = .agg #[.int .i64 kd, .int .i64 n, .int .u64 (hi (andI (wv h l) (maskI n))), .int .u64 (lo (andI (wv h l) (maskI n))), .string ⟨#[]⟩] := by unfold topK; rw [if_neg h3]; rfl
  rw [e]
  clear e
  unfold kv
  dsimp only
  generalize hi (andI (wv h l) (maskI n)) = H at *
  generalize lo (andI (wv h l) (maskI n)) = L at *
  have HO := ofBits_t kd n H L
  go_enter Tryz.func73, Tryz.ntmps73
  go_wp2_with fail
  have c0 := ((R0).cell 0).trans (show _ = some (Value.int .i64 kd) from rfl)
  have cf0 := (R0).frozen 0
  have c1 := ((R0).cell 1).trans (show _ = some (Value.int .i64 len) from rfl)
  have cf1 := (R0).frozen 1
  have c2 := ((R0).cell 2).trans (show _ = some (Value.int .u64 h) from rfl)
  have cf2 := (R0).frozen 2
  have c3 := ((R0).cell 3).trans (show _ = some (Value.int .u64 l) from rfl)
  have cf3 := (R0).frozen 3
  have c4 := ((R0).cell 4).trans (show _ = some (Value.string ⟨p.toArray⟩) from rfl)
  have cf4 := (R0).frozen 4
  generalize (w.alloc (.cells #[.int .i64 kd, .int .i64 len, .int .u64 h, .int .u64 l, .string ⟨p.toArray⟩] 26)).alloc (.cells #[.int .i64 0, .int .i64 0, .int .u64 0, .int .u64 0, .string ⟨#[]⟩] 26) = w0 at *
  replace R1 := R1.drew
  replace hb0 := hb0.drew
  refine wp_region_held_drew (S := (fun w' => w'.cell? ⟨w.heap.size, 0, none⟩ = some (.int .i64 kd) ∧ w'.cell? ⟨w.heap.size, 1, none⟩ = some (.int .i64 len) ∧ w'.cell? ⟨w.heap.size, 2, none⟩ = some (.int .u64 h) ∧ w'.cell? ⟨w.heap.size, 3, none⟩ = some (.int .u64 l) ∧ w'.cell? ⟨w.heap.size, 4, none⟩ = some (.string ⟨p.toArray⟩))) (by kernel_rfl) ?hSr1_ (fun hH => ?_)
  case hSr1_ => (first | exact ⟨c0, c1, c2, c3, c4⟩ | (exact kc hb (kc hb (kc hb (kc hb (cl hb)))) hH))
  refine tk 0 ⟨some 14, .fieldAddr 26 (.tmp 2) 0, 0, _, _, _⟩ hH ?_
  refine tk 1 ⟨some 15, .load 3 (.tmp 14), 3, _, _, _⟩ hH ?_
  refine tk 2 ⟨some 16, .move (.tmp 1), 3, _, _, _⟩ hH ?_
  refine tk 3 ⟨some 17, .load 26 (.tmp 2), 26, _, _, _⟩ hH ?_
  refine tk 5 ⟨some 19, .move (.tmp 1), 3, _, _, _⟩ hH ?_
  refine wpAnyH_ready (rs := [4]) (by kernel_rfl) (by simp) ?_
  refine AllReadyH.cons (o := ⟨some 18, .call { callee := .value (.func 113), args := #[.tmp 17], argTypes := #[26] }, 73, _, _, _⟩) rfl (fun K hK => ?_) AllReadyH.nil
  go_simp
  ((refine (HB _).mono ?_); (rintro e wn ⟨rfl, hb⟩); (replace R1 := R1.later hb); (replace hb0 := below_step hb0 hb))
  go_wp2_with fail
  refine hK.out _ _ ?hSr1_6_4 fun _ => ?_
  case hSr1_6_4 => (first | exact ⟨c0, c1, c2, c3, c4⟩ | (exact kc hb (kc hb (kc hb (kc hb (cl hb)))) hH))
  clear hK K hH; rename_i hH
  (try simp only [Act.put, nz1, nz2, nz3])
  refine wpAnyH_ready (rs := [6]) (by kernel_rfl) (by simp) ?_
  refine AllReadyH.cons (o := ⟨some 20, .call { callee := .value (.func 112), args := #[.tmp 18, .tmp 19], argTypes := #[73, 3] }, 73, _, _, _⟩) rfl (fun K hK => ?_) AllReadyH.nil
  go_simp
  ((refine (HT _).mono ?_); (rintro e wn ⟨rfl, hb⟩); (replace R1 := R1.later hb); (replace hb0 := below_step hb0 hb))
  go_wp2_with fail
  refine hK.out _ _ ?hSr1_7_6 fun _ => ?_
  case hSr1_7_6 => (first | exact ⟨c0, c1, c2, c3, c4⟩ | (exact kc hb (kc hb (kc hb (kc hb (cl hb)))) hH))
  clear hK K hH; rename_i hH
  (try simp only [Act.put, nz1, nz2, nz3])
  refine wpAnyH_ready (rs := [7]) (by kernel_rfl) (by simp) ?_
  refine AllReadyH.cons (o := ⟨some 21, .call { callee := .value (.func 98), args := #[.tmp 15, .tmp 16, .tmp 20], argTypes := #[3, 3, 73] }, 26, _, _, _⟩) rfl (fun K hK => ?_) AllReadyH.nil
  go_simp
  ((refine (HO _).mono ?_); (rintro e wn ⟨rfl, hb⟩); (replace R1 := R1.later hb); (replace hb0 := below_step hb0 hb))
  go_wp2_with fail
  refine hK.out _ _ ?hSr1_8_7 fun _ => ?_
  case hSr1_8_7 => (first | exact ⟨c0, c1, c2, c3, c4⟩ | (exact kc hb (kc hb (kc hb (kc hb (cl hb)))) hH))
  clear hK K hH; rename_i hH
  (try simp only [Act.put, nz1, nz2, nz3])
  refine wpAnyH_ready (rs := [8]) (by kernel_rfl) (by simp) ?_
  refine AllReadyH.cons (o := ⟨none, .store 26 (.tmp 4) (.tmp 21), 0, _, _, _⟩) rfl (fun K hK => ?_) AllReadyH.nil
  ((have z0 := R1.cell 0); (have z1 := R1.cell 1); (have z2 := R1.cell 2); (have z3 := R1.cell 3); (have z4 := R1.cell 4); (simp at z0 z1 z2 z3 z4); (have zf0 := R1.frozen 0); (have zf1 := R1.frozen 1); (have zf2 := R1.frozen 2); (have zf3 := R1.frozen 3); (have zf4 := R1.frozen 4); go_simp)
  refine hK.out _ _ ?hSr1_9_8 fun _ => ?_
  case hSr1_9_8 => (obtain ⟨s0, s1, s2, s3, s4⟩ := hH; exact ⟨by simp [go_sem, s0], by simp [go_sem, s1], by simp [go_sem, s2], by simp [go_sem, s3], by simp [go_sem, s4]⟩)
  clear hK K hH; rename_i hH
  (try simp only [Act.put, nz1, nz2, nz3])
  refine wpAnyH_done (by kernel_rfl) ?_ _
  (go_wp2_with fail; exact bodyPost_ret (v := .agg #[.int .i64 kd, .int .i64 n, .int .u64 H, .int .u64 L, .string ⟨#[]⟩]) (by simp [results, Tryz.results73, go_sem, z0, z1, z2, z3, z4]) rfl ⟨rfl, bset5 hb0 (by omega) _ _ _ _ _⟩)
def eqK (a0 a1 a2 a3 : Int) (a4 : ByteArray) (b0 b1 b2 b3 : Int) (b4 : ByteArray) : Bool := decide (a0 = b0 ∧ a1 = b1 ∧ a2 = b2 ∧ a3 = b3 ∧ a4 = b4)
theorem ba_ne {a b : ByteArray} (h : ¬ a = b) : ¬ a.toList = b.toList := fun e => h (by rw [ByteArray.toList_eq, ByteArray.toList_eq] at e; exact ByteArray.ext (Array.toList_inj.1 e))
theorem eql_key (a0 a1 a2 a3 : Int) (a4 : ByteArray) (b0 b1 b2 b3 : Int) (b4 : ByteArray) (w : World) : (binOp .eql 26 (.agg #[.int .i64 a0, .int .i64 a1, .int .u64 a2, .int .u64 a3, .string a4]) (.agg #[.int .i64 b0, .int .i64 b1, .int .u64 b2, .int .u64 b3, .string b4])).run Tryz.prog w = .ok (.bool (eqK a0 a1 a2 a3 a4 b0 b1 b2 b3 b4)) w := by
 unfold eqK
 by_cases h4 : a4 = b4
 ·by_cases h0 : a0 = b0 <;> by_cases h1 : a1 = b1 <;> by_cases h2 : a2 = b2 <;> by_cases h3 : a3 = b3 <;> simp [go_sem, h0, h1, h2, h3, h4]
 ·have h5 := ba_ne h4
  by_cases h0 : a0 = b0 <;> by_cases h1 : a1 = b1 <;> by_cases h2 : a2 = b2 <;> by_cases h3 : a3 = b3 <;> simp [go_sem, h0, h1, h2, h3, h4, h5]
theorem eqK_ke (a b : Ke) : eqK a.kind a.len a.h a.l ⟨a.path.toArray⟩ b.kind b.len b.h b.l ⟨b.path.toArray⟩ = decide (a = b) := by
 unfold eqK
 rw [decide_eq_decide]
 constructor
 ·rintro ⟨h0, h1, h2, h3, h4⟩; exact ke_ext h0 h1 h2 h3 ((str_eq _ _).1 h4)
 ·rintro rfl; exact ⟨rfl, rfl, rfl, rfl, rfl⟩
structure Ke.ok (k : Ke) : Prop where
 h : Word k.h
 l : Word k.l
 k0 : -9223372036854775808 ≤ k.kind
 k1 : k.kind ≤ 9223372036854775807
 n0 : -9223372036854775808 ≤ k.len
 n1 : k.len ≤ 9223372036854775807
 path : k.path.length ≤ 140737488355328
theorem kright_t (k : Ke) (ok : k.ok) (w : World) : Calls Tryz.prog 35 #[kv k] w fun e w' => e = .returned (.bool (rightK k)) ∧ Below w.heap.size w w' := by
 have HT := ktop_t k k.len ok.h ok.l ok.n1 ok.path
 have HP := ofPath_t k.path ok.path
 have HE := eqK_ke k (topK k k.len)
 have HF := eqK_ke k (pathK k.path)
 have HR := right_t k.path ok.path
 have HD : rightK k = if k.kind = 1 ∨ k.kind = 2 then decide (0 ≤ k.len) && decide (k.len ≤ wid k.kind) && decide (k = topK k k.len) else if k.kind = 3 then rightB k.path && decide (k = pathK k.path) else false := rfl
 rw [← HE, ← HF] at HD
 obtain ⟨kd, len, h, l, p⟩ := k
 have okn := ok.n1
 dsimp only at *
 unfold kv at HT HP
 generalize topK ⟨kd, len, h, l, p⟩ len = t at *
 generalize pathK p = u at *
 obtain ⟨t0, t1, t2, t3, t4⟩ := t
 obtain ⟨u0, u1, u2, u3, u4⟩ := u
 dsimp only at *
 clear ok HE HF
 generalize rightB p = rp at *
 generalize rightK _ = rk at *
 have R0 := (Row.new w #[.int .i64 kd, .int .i64 len, .int .u64 h, .int .u64 l, .string ⟨p.toArray⟩] 26).drew
 have hb0 : Below w.heap.size w (w.alloc (.cells #[.int .i64 kd, .int .i64 len, .int .u64 h, .int .u64 l, .string ⟨p.toArray⟩] 26)).drew := Below.drew (by repeat (first | exact Below.refl _ _ | assumption | (with_reducible refine Below.drew ?_) | ((with_reducible first | refine Below.setCell ?_ ?h _ | refine Below.alloc ?_ ?h _ | refine Below.trans ?_ (hb.mono ?h) | refine Below.trans ?_ (hb0.mono ?h)); case h => first | omega | (simp; done) | (simp; omega))))
 have c0 := ((R0).cell 0).trans (show _ = some (Value.int .i64 kd) from rfl)
 have cf0 := (R0).frozen 0
 have c1 := ((R0).cell 1).trans (show _ = some (Value.int .i64 len) from rfl)
 have cf1 := (R0).frozen 1
 have c2 := ((R0).cell 2).trans (show _ = some (Value.int .u64 h) from rfl)
 have cf2 := (R0).frozen 2
 have c3 := ((R0).cell 3).trans (show _ = some (Value.int .u64 l) from rfl)
 have cf3 := (R0).frozen 3
 have c4 := ((R0).cell 4).trans (show _ = some (Value.string ⟨p.toArray⟩) from rfl)
 have cf4 := (R0).frozen 4
 have q := eql_key
 unfold kv
 dsimp only
 have HW := width_t kd
 by_cases k1 : kd = 1 ∨ kd = 2
 ·rw [if_pos k1] at HD
  by_cases n0 : 0 ≤ len
  ·have d0 : decide (0 ≤ len) = true := by simpa using n0
   by_cases n1 : len ≤ wid kd
   ·have HD' : rk = eqK kd len h l ⟨p.toArray⟩ t0 t1 t2 t3 ⟨t4.toArray⟩ := by rw [HD]; simp [n0, n1]
    have d1 : decide (len ≤ wid kd) = true := by simpa using n1
    rw [HD']
    generalize wid kd = wd at *
    clear HD HD' HP HR u0 u1 u2 u3 u4
    rcases k1 with rfl | rfl
    ·go_enter Tryz.func35, Tryz.ntmps35
     go_wp2_with fail
     refine wp_region_held_drew (S := (fun w' => w'.cell? ⟨w.heap.size, 0, none⟩ = some (.int .i64 1) ∧ w'.cell? ⟨w.heap.size, 1, none⟩ = some (.int .i64 len) ∧ w'.cell? ⟨w.heap.size, 2, none⟩ = some (.int .u64 h) ∧ w'.cell? ⟨w.heap.size, 3, none⟩ = some (.int .u64 l) ∧ w'.cell? ⟨w.heap.size, 4, none⟩ = some (.string ⟨p.toArray⟩) ∧ Below w.heap.size w w')) (by kernel_rfl) ?hSr1_ (fun hH => ?_)
     case hSr1_ => (first | exact ⟨c0, c1, c2, c3, c4, hb0⟩ | (obtain ⟨s0, s1, s2, s3, s4, s5⟩ := hH; exact ⟨cl hb s0, cl hb s1, cl hb s2, cl hb s3, cl hb s4, below_step s5 hb⟩))
     refine tk 0 ⟨some 8, .fieldAddr 26 (.tmp 1) 1, 0, _, _, _⟩ hH ?_
     refine tk 1 ⟨some 9, .load 3 (.tmp 8), 3, _, _, _⟩ hH ?_
     refine tk 2 ⟨some 10, .binOp .geq 3 (.tmp 9) (.const (.int .i64 0)) 3, 4, _, _, _⟩ hH ?_
     refine tk 3 ⟨some 11, .move (.tmp 10), 4, _, _, _⟩ hH ?_
     refine tk 4 ⟨some 12, .fieldAddr 26 (.tmp 1) 1, 0, _, _, _⟩ hH ?_
     refine tk 5 ⟨some 13, .load 3 (.tmp 12), 3, _, _, _⟩ hH ?_
     refine tk 6 ⟨some 14, .fieldAddr 26 (.tmp 1) 0, 0, _, _, _⟩ hH ?_
     refine tk 7 ⟨some 15, .load 3 (.tmp 14), 3, _, _, _⟩ hH ?_
     refine wpAnyH_ready (rs := [8]) (by kernel_rfl) (by simp) ?_
     refine AllReadyH.cons (o := ⟨some 16, .call { callee := .value (.func 24), args := #[.tmp 15], argTypes := #[3] }, 3, _, _, _⟩) rfl (fun K hK => ?_) AllReadyH.nil
     go_simp
     ((refine (HW _).mono ?_); (rintro e wn ⟨rfl, hb⟩))
     go_wp2_with fail
     refine hK.out _ _ ?hSr1_9_8 fun _ => ?_
     case hSr1_9_8 => (first | exact ⟨c0, c1, c2, c3, c4, hb0⟩ | (obtain ⟨s0, s1, s2, s3, s4, s5⟩ := hH; exact ⟨cl hb s0, cl hb s1, cl hb s2, cl hb s3, cl hb s4, below_step s5 hb⟩))
     clear hK K hH; rename_i hH
     (try simp only [Act.put, nz1, nz2, nz3])
     refine tk 9 ⟨some 17, .binOp .leq 3 (.tmp 13) (.tmp 16) 3, 4, _, _, _⟩ hH ?_
     refine tk 10 ⟨some 18, .pick (.tmp 11) (.tmp 17) (.const (.bool false)), 4, _, _, _⟩ hH ?_
     refine tk 11 ⟨some 19, .move (.tmp 18), 4, _, _, _⟩ hH ?_
     refine tk 12 ⟨some 20, .load 26 (.tmp 1), 26, _, _, _⟩ hH ?_
     refine tk 13 ⟨some 21, .load 26 (.tmp 1), 26, _, _, _⟩ hH ?_
     refine tk 14 ⟨some 22, .fieldAddr 26 (.tmp 1) 1, 0, _, _, _⟩ hH ?_
     refine tk 15 ⟨some 23, .load 3 (.tmp 22), 3, _, _, _⟩ hH ?_
     refine wpAnyH_ready (rs := [16]) (by kernel_rfl) (by simp) ?_
     refine AllReadyH.cons (o := ⟨some 24, .call { callee := .value (.func 73), args := #[.tmp 21, .tmp 23], argTypes := #[26, 3] }, 26, _, _, _⟩) rfl (fun K hK => ?_) AllReadyH.nil
     go_simp
     ((refine (HT _).mono ?_); (rintro e wn ⟨rfl, hb⟩))
     go_wp2_with fail
     refine hK.out _ _ ?hSr1_17_16 fun _ => ?_
     case hSr1_17_16 => (first | exact ⟨c0, c1, c2, c3, c4, hb0⟩ | (obtain ⟨s0, s1, s2, s3, s4, s5⟩ := hH; exact ⟨cl hb s0, cl hb s1, cl hb s2, cl hb s3, cl hb s4, below_step s5 hb⟩))
     clear hK K hH; rename_i hH
     (try simp only [Act.put, nz1, nz2, nz3])
     refine tk 17 ⟨some 25, .binOp .eql 26 (.tmp 20) (.tmp 24) 26, 4, _, _, _⟩ hH ?_
     refine tk 18 ⟨some 26, .pick (.tmp 19) (.tmp 25) (.const (.bool false)), 4, _, _, _⟩ hH ?_
     refine tk 19 ⟨some 2, .assign (.tmp 26), 4, _, _, _⟩ hH ?_
     refine wpAnyH_done (by kernel_rfl) ?_ _
     go_wp2
     go_ret
     exact ⟨rfl, hH.2.2.2.2.2⟩
    ·go_enter Tryz.func35, Tryz.ntmps35
     go_wp2_with fail
     refine wp_region_held_drew (S := (fun w' => w'.cell? ⟨w.heap.size, 0, none⟩ = some (.int .i64 2) ∧ w'.cell? ⟨w.heap.size, 1, none⟩ = some (.int .i64 len) ∧ w'.cell? ⟨w.heap.size, 2, none⟩ = some (.int .u64 h) ∧ w'.cell? ⟨w.heap.size, 3, none⟩ = some (.int .u64 l) ∧ w'.cell? ⟨w.heap.size, 4, none⟩ = some (.string ⟨p.toArray⟩) ∧ Below w.heap.size w w')) (by kernel_rfl) ?hSr2_ (fun hH => ?_)
     case hSr2_ => (first | exact ⟨c0, c1, c2, c3, c4, hb0⟩ | (obtain ⟨s0, s1, s2, s3, s4, s5⟩ := hH; exact ⟨cl hb s0, cl hb s1, cl hb s2, cl hb s3, cl hb s4, below_step s5 hb⟩))
     refine tk 0 ⟨some 8, .fieldAddr 26 (.tmp 1) 1, 0, _, _, _⟩ hH ?_
     refine tk 1 ⟨some 9, .load 3 (.tmp 8), 3, _, _, _⟩ hH ?_
     refine tk 2 ⟨some 10, .binOp .geq 3 (.tmp 9) (.const (.int .i64 0)) 3, 4, _, _, _⟩ hH ?_
     refine tk 3 ⟨some 11, .move (.tmp 10), 4, _, _, _⟩ hH ?_
     refine tk 4 ⟨some 12, .fieldAddr 26 (.tmp 1) 1, 0, _, _, _⟩ hH ?_
     refine tk 5 ⟨some 13, .load 3 (.tmp 12), 3, _, _, _⟩ hH ?_
     refine tk 6 ⟨some 14, .fieldAddr 26 (.tmp 1) 0, 0, _, _, _⟩ hH ?_
     refine tk 7 ⟨some 15, .load 3 (.tmp 14), 3, _, _, _⟩ hH ?_
     refine wpAnyH_ready (rs := [8]) (by kernel_rfl) (by simp) ?_
     refine AllReadyH.cons (o := ⟨some 16, .call { callee := .value (.func 24), args := #[.tmp 15], argTypes := #[3] }, 3, _, _, _⟩) rfl (fun K hK => ?_) AllReadyH.nil
     go_simp
     ((refine (HW _).mono ?_); (rintro e wn ⟨rfl, hb⟩))
     go_wp2_with fail
     refine hK.out _ _ ?hSr2_9_8 fun _ => ?_
     case hSr2_9_8 => (first | exact ⟨c0, c1, c2, c3, c4, hb0⟩ | (obtain ⟨s0, s1, s2, s3, s4, s5⟩ := hH; exact ⟨cl hb s0, cl hb s1, cl hb s2, cl hb s3, cl hb s4, below_step s5 hb⟩))
     clear hK K hH; rename_i hH
     (try simp only [Act.put, nz1, nz2, nz3])
     refine tk 9 ⟨some 17, .binOp .leq 3 (.tmp 13) (.tmp 16) 3, 4, _, _, _⟩ hH ?_
     refine tk 10 ⟨some 18, .pick (.tmp 11) (.tmp 17) (.const (.bool false)), 4, _, _, _⟩ hH ?_
     refine tk 11 ⟨some 19, .move (.tmp 18), 4, _, _, _⟩ hH ?_
     refine tk 12 ⟨some 20, .load 26 (.tmp 1), 26, _, _, _⟩ hH ?_
     refine tk 13 ⟨some 21, .load 26 (.tmp 1), 26, _, _, _⟩ hH ?_
     refine tk 14 ⟨some 22, .fieldAddr 26 (.tmp 1) 1, 0, _, _, _⟩ hH ?_
     refine tk 15 ⟨some 23, .load 3 (.tmp 22), 3, _, _, _⟩ hH ?_
     refine wpAnyH_ready (rs := [16]) (by kernel_rfl) (by simp) ?_
     refine AllReadyH.cons (o := ⟨some 24, .call { callee := .value (.func 73), args := #[.tmp 21, .tmp 23], argTypes := #[26, 3] }, 26, _, _, _⟩) rfl (fun K hK => ?_) AllReadyH.nil
     go_simp
     ((refine (HT _).mono ?_); (rintro e wn ⟨rfl, hb⟩))
     go_wp2_with fail
     refine hK.out _ _ ?hSr2_17_16 fun _ => ?_
     case hSr2_17_16 => (first | exact ⟨c0, c1, c2, c3, c4, hb0⟩ | (obtain ⟨s0, s1, s2, s3, s4, s5⟩ := hH; exact ⟨cl hb s0, cl hb s1, cl hb s2, cl hb s3, cl hb s4, below_step s5 hb⟩))
     clear hK K hH; rename_i hH
     (try simp only [Act.put, nz1, nz2, nz3])
     refine tk 17 ⟨some 25, .binOp .eql 26 (.tmp 20) (.tmp 24) 26, 4, _, _, _⟩ hH ?_
     refine tk 18 ⟨some 26, .pick (.tmp 19) (.tmp 25) (.const (.bool false)), 4, _, _, _⟩ hH ?_
     refine tk 19 ⟨some 2, .assign (.tmp 26), 4, _, _, _⟩ hH ?_
     refine wpAnyH_done (by kernel_rfl) ?_ _
     go_wp2
     go_ret
     exact ⟨rfl, hH.2.2.2.2.2⟩
   ·have HD' : rk = false := by rw [HD]; simp [n0, n1]
    have d1 : decide (len ≤ wid kd) = false := by simpa using n1
    rw [HD']
    generalize wid kd = wd at *
    clear HD HD' HP HR u0 u1 u2 u3 u4
    rcases k1 with rfl | rfl
    ·go_enter Tryz.func35, Tryz.ntmps35
     go_wp2_with fail
     refine wp_region_held_drew (S := (fun w' => w'.cell? ⟨w.heap.size, 0, none⟩ = some (.int .i64 1) ∧ w'.cell? ⟨w.heap.size, 1, none⟩ = some (.int .i64 len) ∧ w'.cell? ⟨w.heap.size, 2, none⟩ = some (.int .u64 h) ∧ w'.cell? ⟨w.heap.size, 3, none⟩ = some (.int .u64 l) ∧ w'.cell? ⟨w.heap.size, 4, none⟩ = some (.string ⟨p.toArray⟩) ∧ Below w.heap.size w w')) (by kernel_rfl) ?hSr3_ (fun hH => ?_)
     case hSr3_ => (first | exact ⟨c0, c1, c2, c3, c4, hb0⟩ | (obtain ⟨s0, s1, s2, s3, s4, s5⟩ := hH; exact ⟨cl hb s0, cl hb s1, cl hb s2, cl hb s3, cl hb s4, below_step s5 hb⟩))
     refine tk 0 ⟨some 8, .fieldAddr 26 (.tmp 1) 1, 0, _, _, _⟩ hH ?_
     refine tk 1 ⟨some 9, .load 3 (.tmp 8), 3, _, _, _⟩ hH ?_
     refine tk 2 ⟨some 10, .binOp .geq 3 (.tmp 9) (.const (.int .i64 0)) 3, 4, _, _, _⟩ hH ?_
     refine tk 3 ⟨some 11, .move (.tmp 10), 4, _, _, _⟩ hH ?_
     refine tk 4 ⟨some 12, .fieldAddr 26 (.tmp 1) 1, 0, _, _, _⟩ hH ?_
     refine tk 5 ⟨some 13, .load 3 (.tmp 12), 3, _, _, _⟩ hH ?_
     refine tk 6 ⟨some 14, .fieldAddr 26 (.tmp 1) 0, 0, _, _, _⟩ hH ?_
     refine tk 7 ⟨some 15, .load 3 (.tmp 14), 3, _, _, _⟩ hH ?_
     refine wpAnyH_ready (rs := [8]) (by kernel_rfl) (by simp) ?_
     refine AllReadyH.cons (o := ⟨some 16, .call { callee := .value (.func 24), args := #[.tmp 15], argTypes := #[3] }, 3, _, _, _⟩) rfl (fun K hK => ?_) AllReadyH.nil
     go_simp
     ((refine (HW _).mono ?_); (rintro e wn ⟨rfl, hb⟩))
     go_wp2_with fail
     refine hK.out _ _ ?hSr3_9_8 fun _ => ?_
     case hSr3_9_8 => (first | exact ⟨c0, c1, c2, c3, c4, hb0⟩ | (obtain ⟨s0, s1, s2, s3, s4, s5⟩ := hH; exact ⟨cl hb s0, cl hb s1, cl hb s2, cl hb s3, cl hb s4, below_step s5 hb⟩))
     clear hK K hH; rename_i hH
     (try simp only [Act.put, nz1, nz2, nz3])
     refine tk 9 ⟨some 17, .binOp .leq 3 (.tmp 13) (.tmp 16) 3, 4, _, _, _⟩ hH ?_
     refine tk 10 ⟨some 18, .pick (.tmp 11) (.tmp 17) (.const (.bool false)), 4, _, _, _⟩ hH ?_
     refine tk 11 ⟨some 19, .move (.tmp 18), 4, _, _, _⟩ hH ?_
     refine ts 12 ⟨some 20, .load 26 (.tmp 1), 26, _, _, _⟩ hH ?_
     refine ts 13 ⟨some 21, .load 26 (.tmp 1), 26, _, _, _⟩ hH ?_
     refine ts 14 ⟨some 22, .fieldAddr 26 (.tmp 1) 1, 0, _, _, _⟩ hH ?_
     refine ts 15 ⟨some 23, .load 3 (.tmp 22), 3, _, _, _⟩ hH ?_
     refine ts 16 ⟨some 24, .call { callee := .value (.func 73), args := #[.tmp 21, .tmp 23], argTypes := #[26, 3] }, 26, _, _, _⟩ hH ?_
     refine ts 17 ⟨some 25, .binOp .eql 26 (.tmp 20) (.tmp 24) 26, 4, _, _, _⟩ hH ?_
     refine tk 18 ⟨some 26, .pick (.tmp 19) (.tmp 25) (.const (.bool false)), 4, _, _, _⟩ hH ?_
     refine tk 19 ⟨some 2, .assign (.tmp 26), 4, _, _, _⟩ hH ?_
     refine wpAnyH_done (by kernel_rfl) ?_ _
     go_wp2
     go_ret
     exact ⟨rfl, hH.2.2.2.2.2⟩
    ·go_enter Tryz.func35, Tryz.ntmps35
     go_wp2_with fail
     refine wp_region_held_drew (S := (fun w' => w'.cell? ⟨w.heap.size, 0, none⟩ = some (.int .i64 2) ∧ w'.cell? ⟨w.heap.size, 1, none⟩ = some (.int .i64 len) ∧ w'.cell? ⟨w.heap.size, 2, none⟩ = some (.int .u64 h) ∧ w'.cell? ⟨w.heap.size, 3, none⟩ = some (.int .u64 l) ∧ w'.cell? ⟨w.heap.size, 4, none⟩ = some (.string ⟨p.toArray⟩) ∧ Below w.heap.size w w')) (by kernel_rfl) ?hSr4_ (fun hH => ?_)
     case hSr4_ => (first | exact ⟨c0, c1, c2, c3, c4, hb0⟩ | (obtain ⟨s0, s1, s2, s3, s4, s5⟩ := hH; exact ⟨cl hb s0, cl hb s1, cl hb s2, cl hb s3, cl hb s4, below_step s5 hb⟩))
     refine tk 0 ⟨some 8, .fieldAddr 26 (.tmp 1) 1, 0, _, _, _⟩ hH ?_
     refine tk 1 ⟨some 9, .load 3 (.tmp 8), 3, _, _, _⟩ hH ?_
     refine tk 2 ⟨some 10, .binOp .geq 3 (.tmp 9) (.const (.int .i64 0)) 3, 4, _, _, _⟩ hH ?_
     refine tk 3 ⟨some 11, .move (.tmp 10), 4, _, _, _⟩ hH ?_
     refine tk 4 ⟨some 12, .fieldAddr 26 (.tmp 1) 1, 0, _, _, _⟩ hH ?_
     refine tk 5 ⟨some 13, .load 3 (.tmp 12), 3, _, _, _⟩ hH ?_
     refine tk 6 ⟨some 14, .fieldAddr 26 (.tmp 1) 0, 0, _, _, _⟩ hH ?_
     refine tk 7 ⟨some 15, .load 3 (.tmp 14), 3, _, _, _⟩ hH ?_
     refine wpAnyH_ready (rs := [8]) (by kernel_rfl) (by simp) ?_
     refine AllReadyH.cons (o := ⟨some 16, .call { callee := .value (.func 24), args := #[.tmp 15], argTypes := #[3] }, 3, _, _, _⟩) rfl (fun K hK => ?_) AllReadyH.nil
     go_simp
     ((refine (HW _).mono ?_); (rintro e wn ⟨rfl, hb⟩))
     go_wp2_with fail
     refine hK.out _ _ ?hSr4_9_8 fun _ => ?_
     case hSr4_9_8 => (first | exact ⟨c0, c1, c2, c3, c4, hb0⟩ | (obtain ⟨s0, s1, s2, s3, s4, s5⟩ := hH; exact ⟨cl hb s0, cl hb s1, cl hb s2, cl hb s3, cl hb s4, below_step s5 hb⟩))
     clear hK K hH; rename_i hH
     (try simp only [Act.put, nz1, nz2, nz3])
     refine tk 9 ⟨some 17, .binOp .leq 3 (.tmp 13) (.tmp 16) 3, 4, _, _, _⟩ hH ?_
     refine tk 10 ⟨some 18, .pick (.tmp 11) (.tmp 17) (.const (.bool false)), 4, _, _, _⟩ hH ?_
     refine tk 11 ⟨some 19, .move (.tmp 18), 4, _, _, _⟩ hH ?_
     refine ts 12 ⟨some 20, .load 26 (.tmp 1), 26, _, _, _⟩ hH ?_
     refine ts 13 ⟨some 21, .load 26 (.tmp 1), 26, _, _, _⟩ hH ?_
     refine ts 14 ⟨some 22, .fieldAddr 26 (.tmp 1) 1, 0, _, _, _⟩ hH ?_
     refine ts 15 ⟨some 23, .load 3 (.tmp 22), 3, _, _, _⟩ hH ?_
     refine ts 16 ⟨some 24, .call { callee := .value (.func 73), args := #[.tmp 21, .tmp 23], argTypes := #[26, 3] }, 26, _, _, _⟩ hH ?_
     refine ts 17 ⟨some 25, .binOp .eql 26 (.tmp 20) (.tmp 24) 26, 4, _, _, _⟩ hH ?_
     refine tk 18 ⟨some 26, .pick (.tmp 19) (.tmp 25) (.const (.bool false)), 4, _, _, _⟩ hH ?_
     refine tk 19 ⟨some 2, .assign (.tmp 26), 4, _, _, _⟩ hH ?_
     refine wpAnyH_done (by kernel_rfl) ?_ _
     go_wp2
     go_ret
     exact ⟨rfl, hH.2.2.2.2.2⟩
  ·have HD' : rk = false := by rw [HD]; simp [n0]
   have d0 : decide (0 ≤ len) = false := by simpa using n0
   rw [HD']
   clear HD HD' HP HR u0 u1 u2 u3 u4 HW
   rcases k1 with rfl | rfl
   ·go_enter Tryz.func35, Tryz.ntmps35
    go_wp2_with fail
    refine wp_region_held_drew (S := (fun w' => w'.cell? ⟨w.heap.size, 0, none⟩ = some (.int .i64 1) ∧ w'.cell? ⟨w.heap.size, 1, none⟩ = some (.int .i64 len) ∧ w'.cell? ⟨w.heap.size, 2, none⟩ = some (.int .u64 h) ∧ w'.cell? ⟨w.heap.size, 3, none⟩ = some (.int .u64 l) ∧ w'.cell? ⟨w.heap.size, 4, none⟩ = some (.string ⟨p.toArray⟩) ∧ Below w.heap.size w w')) (by kernel_rfl) ?hSr5_ (fun hH => ?_)
    case hSr5_ => (first | exact ⟨c0, c1, c2, c3, c4, hb0⟩ | (obtain ⟨s0, s1, s2, s3, s4, s5⟩ := hH; exact ⟨cl hb s0, cl hb s1, cl hb s2, cl hb s3, cl hb s4, below_step s5 hb⟩))
    refine tk 0 ⟨some 8, .fieldAddr 26 (.tmp 1) 1, 0, _, _, _⟩ hH ?_
    refine tk 1 ⟨some 9, .load 3 (.tmp 8), 3, _, _, _⟩ hH ?_
    refine tk 2 ⟨some 10, .binOp .geq 3 (.tmp 9) (.const (.int .i64 0)) 3, 4, _, _, _⟩ hH ?_
    refine tk 3 ⟨some 11, .move (.tmp 10), 4, _, _, _⟩ hH ?_
    refine ts 4 ⟨some 12, .fieldAddr 26 (.tmp 1) 1, 0, _, _, _⟩ hH ?_
    refine ts 5 ⟨some 13, .load 3 (.tmp 12), 3, _, _, _⟩ hH ?_
    refine ts 6 ⟨some 14, .fieldAddr 26 (.tmp 1) 0, 0, _, _, _⟩ hH ?_
    refine ts 7 ⟨some 15, .load 3 (.tmp 14), 3, _, _, _⟩ hH ?_
    refine ts 8 ⟨some 16, .call { callee := .value (.func 24), args := #[.tmp 15], argTypes := #[3] }, 3, _, _, _⟩ hH ?_
    refine ts 9 ⟨some 17, .binOp .leq 3 (.tmp 13) (.tmp 16) 3, 4, _, _, _⟩ hH ?_
    refine tk 10 ⟨some 18, .pick (.tmp 11) (.tmp 17) (.const (.bool false)), 4, _, _, _⟩ hH ?_
    refine tk 11 ⟨some 19, .move (.tmp 18), 4, _, _, _⟩ hH ?_
    refine ts 12 ⟨some 20, .load 26 (.tmp 1), 26, _, _, _⟩ hH ?_
    refine ts 13 ⟨some 21, .load 26 (.tmp 1), 26, _, _, _⟩ hH ?_
    refine ts 14 ⟨some 22, .fieldAddr 26 (.tmp 1) 1, 0, _, _, _⟩ hH ?_
    refine ts 15 ⟨some 23, .load 3 (.tmp 22), 3, _, _, _⟩ hH ?_
    refine ts 16 ⟨some 24, .call { callee := .value (.func 73), args := #[.tmp 21, .tmp 23], argTypes := #[26, 3] }, 26, _, _, _⟩ hH ?_
    refine ts 17 ⟨some 25, .binOp .eql 26 (.tmp 20) (.tmp 24) 26, 4, _, _, _⟩ hH ?_
    refine tk 18 ⟨some 26, .pick (.tmp 19) (.tmp 25) (.const (.bool false)), 4, _, _, _⟩ hH ?_
    refine tk 19 ⟨some 2, .assign (.tmp 26), 4, _, _, _⟩ hH ?_
    refine wpAnyH_done (by kernel_rfl) ?_ _
    go_wp2
    go_ret
    exact ⟨rfl, hH.2.2.2.2.2⟩
   ·go_enter Tryz.func35, Tryz.ntmps35
    go_wp2_with fail
    refine wp_region_held_drew (S := (fun w' => w'.cell? ⟨w.heap.size, 0, none⟩ = some (.int .i64 2) ∧ w'.cell? ⟨w.heap.size, 1, none⟩ = some (.int .i64 len) ∧ w'.cell? ⟨w.heap.size, 2, none⟩ = some (.int .u64 h) ∧ w'.cell? ⟨w.heap.size, 3, none⟩ = some (.int .u64 l) ∧ w'.cell? ⟨w.heap.size, 4, none⟩ = some (.string ⟨p.toArray⟩) ∧ Below w.heap.size w w')) (by kernel_rfl) ?hSr6_ (fun hH => ?_)
    case hSr6_ => (first | exact ⟨c0, c1, c2, c3, c4, hb0⟩ | (obtain ⟨s0, s1, s2, s3, s4, s5⟩ := hH; exact ⟨cl hb s0, cl hb s1, cl hb s2, cl hb s3, cl hb s4, below_step s5 hb⟩))
    refine tk 0 ⟨some 8, .fieldAddr 26 (.tmp 1) 1, 0, _, _, _⟩ hH ?_
    refine tk 1 ⟨some 9, .load 3 (.tmp 8), 3, _, _, _⟩ hH ?_
    refine tk 2 ⟨some 10, .binOp .geq 3 (.tmp 9) (.const (.int .i64 0)) 3, 4, _, _, _⟩ hH ?_
    refine tk 3 ⟨some 11, .move (.tmp 10), 4, _, _, _⟩ hH ?_
    refine ts 4 ⟨some 12, .fieldAddr 26 (.tmp 1) 1, 0, _, _, _⟩ hH ?_
    refine ts 5 ⟨some 13, .load 3 (.tmp 12), 3, _, _, _⟩ hH ?_
    refine ts 6 ⟨some 14, .fieldAddr 26 (.tmp 1) 0, 0, _, _, _⟩ hH ?_
    refine ts 7 ⟨some 15, .load 3 (.tmp 14), 3, _, _, _⟩ hH ?_
    refine ts 8 ⟨some 16, .call { callee := .value (.func 24), args := #[.tmp 15], argTypes := #[3] }, 3, _, _, _⟩ hH ?_
    refine ts 9 ⟨some 17, .binOp .leq 3 (.tmp 13) (.tmp 16) 3, 4, _, _, _⟩ hH ?_
    refine tk 10 ⟨some 18, .pick (.tmp 11) (.tmp 17) (.const (.bool false)), 4, _, _, _⟩ hH ?_
    refine tk 11 ⟨some 19, .move (.tmp 18), 4, _, _, _⟩ hH ?_
    refine ts 12 ⟨some 20, .load 26 (.tmp 1), 26, _, _, _⟩ hH ?_
    refine ts 13 ⟨some 21, .load 26 (.tmp 1), 26, _, _, _⟩ hH ?_
    refine ts 14 ⟨some 22, .fieldAddr 26 (.tmp 1) 1, 0, _, _, _⟩ hH ?_
    refine ts 15 ⟨some 23, .load 3 (.tmp 22), 3, _, _, _⟩ hH ?_
    refine ts 16 ⟨some 24, .call { callee := .value (.func 73), args := #[.tmp 21, .tmp 23], argTypes := #[26, 3] }, 26, _, _, _⟩ hH ?_
    refine ts 17 ⟨some 25, .binOp .eql 26 (.tmp 20) (.tmp 24) 26, 4, _, _, _⟩ hH ?_
    refine tk 18 ⟨some 26, .pick (.tmp 19) (.tmp 25) (.const (.bool false)), 4, _, _, _⟩ hH ?_
    refine tk 19 ⟨some 2, .assign (.tmp 26), 4, _, _, _⟩ hH ?_
    refine wpAnyH_done (by kernel_rfl) ?_ _
    go_wp2
    go_ret
    exact ⟨rfl, hH.2.2.2.2.2⟩
 ·rw [if_neg k1] at HD
  have b1 : (kd == 1) = false := by simp; omega
  have b2 : (kd == 2) = false := by simp; omega
  have b1' : ¬ kd = 1 := by omega
  have b2' : ¬ kd = 2 := by omega
  by_cases k3 : kd = 3
  ·rw [if_pos k3] at HD
   subst k3
   rw [HD]
   clear HD HW HT
   cases rp with
   | true =>
    rw [Bool.true_and]
    go_enter Tryz.func35, Tryz.ntmps35
    go_wp2_with fail
    refine wp_region_held_drew (S := (fun w' => w'.cell? ⟨w.heap.size, 0, none⟩ = some (.int .i64 3) ∧ w'.cell? ⟨w.heap.size, 1, none⟩ = some (.int .i64 len) ∧ w'.cell? ⟨w.heap.size, 2, none⟩ = some (.int .u64 h) ∧ w'.cell? ⟨w.heap.size, 3, none⟩ = some (.int .u64 l) ∧ w'.cell? ⟨w.heap.size, 4, none⟩ = some (.string ⟨p.toArray⟩) ∧ Below w.heap.size w w')) (by kernel_rfl) ?hSr7_ (fun hH => ?_)
    case hSr7_ => (first | exact ⟨c0, c1, c2, c3, c4, hb0⟩ | (obtain ⟨s0, s1, s2, s3, s4, s5⟩ := hH; exact ⟨cl hb s0, cl hb s1, cl hb s2, cl hb s3, cl hb s4, below_step s5 hb⟩))
    refine tk 0 ⟨some 29, .fieldAddr 26 (.tmp 1) 4, 0, _, _, _⟩ hH ?_
    refine tk 1 ⟨some 30, .load 9 (.tmp 29), 9, _, _, _⟩ hH ?_
    refine wpAnyH_ready (rs := [2]) (by kernel_rfl) (by simp) ?_
    refine AllReadyH.cons (o := ⟨some 31, .call { callee := .value (.func 74), args := #[.tmp 30], argTypes := #[9] }, 4, _, _, _⟩) rfl (fun K hK => ?_) AllReadyH.nil
    go_simp
    ((refine (HR _).mono ?_); (rintro e wn ⟨rfl, hb⟩))
    go_wp2_with fail
    refine hK.out _ _ ?hSr7_3_2 fun _ => ?_
    case hSr7_3_2 => (first | exact ⟨c0, c1, c2, c3, c4, hb0⟩ | (obtain ⟨s0, s1, s2, s3, s4, s5⟩ := hH; exact ⟨cl hb s0, cl hb s1, cl hb s2, cl hb s3, cl hb s4, below_step s5 hb⟩))
    clear hK K hH; rename_i hH
    (try simp only [Act.put, nz1, nz2, nz3])
    refine tk 3 ⟨some 32, .move (.tmp 31), 4, _, _, _⟩ hH ?_
    refine tk 4 ⟨some 33, .load 26 (.tmp 1), 26, _, _, _⟩ hH ?_
    refine tk 5 ⟨some 34, .fieldAddr 26 (.tmp 1) 4, 0, _, _, _⟩ hH ?_
    refine tk 6 ⟨some 35, .load 9 (.tmp 34), 9, _, _, _⟩ hH ?_
    refine wpAnyH_ready (rs := [7]) (by kernel_rfl) (by simp) ?_
    refine AllReadyH.cons (o := ⟨some 36, .call { callee := .value (.func 75), args := #[.tmp 35], argTypes := #[9] }, 26, _, _, _⟩) rfl (fun K hK => ?_) AllReadyH.nil
    go_simp
    ((refine (HP _).mono ?_); (rintro e wn ⟨rfl, hb⟩))
    go_wp2_with fail
    refine hK.out _ _ ?hSr7_8_7 fun _ => ?_
    case hSr7_8_7 => (first | exact ⟨c0, c1, c2, c3, c4, hb0⟩ | (obtain ⟨s0, s1, s2, s3, s4, s5⟩ := hH; exact ⟨cl hb s0, cl hb s1, cl hb s2, cl hb s3, cl hb s4, below_step s5 hb⟩))
    clear hK K hH; rename_i hH
    (try simp only [Act.put, nz1, nz2, nz3])
    refine tk 8 ⟨some 37, .binOp .eql 26 (.tmp 33) (.tmp 36) 26, 4, _, _, _⟩ hH ?_
    refine tk 9 ⟨some 38, .pick (.tmp 32) (.tmp 37) (.const (.bool false)), 4, _, _, _⟩ hH ?_
    refine tk 10 ⟨some 2, .assign (.tmp 38), 4, _, _, _⟩ hH ?_
    refine wpAnyH_done (by kernel_rfl) ?_ _
    go_wp2
    go_ret
    exact ⟨rfl, hH.2.2.2.2.2⟩
   | false =>
    rw [Bool.false_and]
    go_enter Tryz.func35, Tryz.ntmps35
    go_wp2_with fail
    refine wp_region_held_drew (S := (fun w' => w'.cell? ⟨w.heap.size, 0, none⟩ = some (.int .i64 3) ∧ w'.cell? ⟨w.heap.size, 1, none⟩ = some (.int .i64 len) ∧ w'.cell? ⟨w.heap.size, 2, none⟩ = some (.int .u64 h) ∧ w'.cell? ⟨w.heap.size, 3, none⟩ = some (.int .u64 l) ∧ w'.cell? ⟨w.heap.size, 4, none⟩ = some (.string ⟨p.toArray⟩) ∧ Below w.heap.size w w')) (by kernel_rfl) ?hSr8_ (fun hH => ?_)
    case hSr8_ => (first | exact ⟨c0, c1, c2, c3, c4, hb0⟩ | (obtain ⟨s0, s1, s2, s3, s4, s5⟩ := hH; exact ⟨cl hb s0, cl hb s1, cl hb s2, cl hb s3, cl hb s4, below_step s5 hb⟩))
    refine tk 0 ⟨some 29, .fieldAddr 26 (.tmp 1) 4, 0, _, _, _⟩ hH ?_
    refine tk 1 ⟨some 30, .load 9 (.tmp 29), 9, _, _, _⟩ hH ?_
    refine wpAnyH_ready (rs := [2]) (by kernel_rfl) (by simp) ?_
    refine AllReadyH.cons (o := ⟨some 31, .call { callee := .value (.func 74), args := #[.tmp 30], argTypes := #[9] }, 4, _, _, _⟩) rfl (fun K hK => ?_) AllReadyH.nil
    go_simp
    ((refine (HR _).mono ?_); (rintro e wn ⟨rfl, hb⟩))
    go_wp2_with fail
    refine hK.out _ _ ?hSr8_3_2 fun _ => ?_
    case hSr8_3_2 => (first | exact ⟨c0, c1, c2, c3, c4, hb0⟩ | (obtain ⟨s0, s1, s2, s3, s4, s5⟩ := hH; exact ⟨cl hb s0, cl hb s1, cl hb s2, cl hb s3, cl hb s4, below_step s5 hb⟩))
    clear hK K hH; rename_i hH
    (try simp only [Act.put, nz1, nz2, nz3])
    refine tk 3 ⟨some 32, .move (.tmp 31), 4, _, _, _⟩ hH ?_
    refine ts 4 ⟨some 33, .load 26 (.tmp 1), 26, _, _, _⟩ hH ?_
    refine ts 5 ⟨some 34, .fieldAddr 26 (.tmp 1) 4, 0, _, _, _⟩ hH ?_
    refine ts 6 ⟨some 35, .load 9 (.tmp 34), 9, _, _, _⟩ hH ?_
    refine ts 7 ⟨some 36, .call { callee := .value (.func 75), args := #[.tmp 35], argTypes := #[9] }, 26, _, _, _⟩ hH ?_
    refine ts 8 ⟨some 37, .binOp .eql 26 (.tmp 33) (.tmp 36) 26, 4, _, _, _⟩ hH ?_
    refine tk 9 ⟨some 38, .pick (.tmp 32) (.tmp 37) (.const (.bool false)), 4, _, _, _⟩ hH ?_
    refine tk 10 ⟨some 2, .assign (.tmp 38), 4, _, _, _⟩ hH ?_
    refine wpAnyH_done (by kernel_rfl) ?_ _
    go_wp2
    go_ret
    exact ⟨rfl, hH.2.2.2.2.2⟩
  ·rw [if_neg k3] at HD
   have b3 : (kd == 3) = false := by simpa using k3
   rw [HD]
   go_enter Tryz.func35, Tryz.ntmps35
   go_wp2
   go_ret
   exact ⟨rfl, (by repeat (first | exact Below.refl _ _ | assumption | (with_reducible refine Below.drew ?_) | ((with_reducible first | refine Below.setCell ?_ ?h _ | refine Below.alloc ?_ ?h _ | refine Below.trans ?_ (hb.mono ?h) | refine Below.trans ?_ (hb0.mono ?h)); case h => first | omega | (simp; done) | (simp; omega))))⟩
theorem two_rows (w : World) (a b : Array Value) (t u : TypeId) : Row ((w.alloc (.cells a t)).alloc (.cells b u)) w.heap.size a t ∧ Row ((w.alloc (.cells a t)).alloc (.cells b u)) (w.heap.size + 1) b u ∧ Below w.heap.size w ((w.alloc (.cells a t)).alloc (.cells b u)) := by
 refine ⟨(Row.new _ _ _).alloc _, ?_, (by repeat (first | exact Below.refl _ _ | assumption | (with_reducible refine Below.drew ?_) | ((with_reducible first | refine Below.setCell ?_ ?h _ | refine Below.alloc ?_ ?h _); case h => first | omega | (simp; done) | (simp; omega))))⟩
 have := Row.new (w.alloc (.cells a t)) b u
 rwa [World.size_alloc] at this
theorem three_rows (w : World) (a b c : Array Value) (t u v : TypeId) : Row (((w.alloc (.cells a t)).alloc (.cells b u)).alloc (.cells c v)) w.heap.size a t ∧ Row (((w.alloc (.cells a t)).alloc (.cells b u)).alloc (.cells c v)) (w.heap.size + 1) b u ∧ Row (((w.alloc (.cells a t)).alloc (.cells b u)).alloc (.cells c v)) (w.heap.size + 1 + 1) c v ∧ Below w.heap.size w (((w.alloc (.cells a t)).alloc (.cells b u)).alloc (.cells c v)) := by
 obtain ⟨h1, h2, h3⟩ := two_rows w a b t u
 refine ⟨h1.alloc _, h2.alloc _, ?_, h3.alloc h3.size _⟩
 have := Row.new ((w.alloc (.cells a t)).alloc (.cells b u)) c v
 rwa [World.size_alloc, World.size_alloc] at this
theorem kcut_t (k : Ke) (ok : k.ok) (n : Int) (hn : n ≤ 9223372036854775807) (w : World) : Calls Tryz.prog 65 #[kv k, .int .i64 n] w fun e w' => e = .returned (kv (cutK k n)) ∧ Below w.heap.size w w' := by
 have HR := kright_t k ok
 have HT := ktop_t k (max n 0) ok.h ok.l (by omega) ok.path
 have HD : cutK k n = if rightK k = true then (if k.len ≤ n then k else topK k (max n 0)) else kz := rfl
 rw [HD]
 clear HD
 generalize topK k (max n 0) = t at *
 generalize rightK k = r at *
 obtain ⟨kd, len, h, l, p⟩ := k
 obtain ⟨t0, t1, t2, t3, t4⟩ := t
 clear ok
 dsimp only
 unfold kv at HR HT
 dsimp only at *
 obtain ⟨R0, R1, hb0⟩ := two_rows w #[.int .i64 kd, .int .i64 len, .int .u64 h, .int .u64 l, .string ⟨p.toArray⟩] #[.int .i64 0, .int .i64 0, .int .u64 0, .int .u64 0, .string ⟨#[]⟩] 26 26
 cases r with
 | false =>
  rw [if_neg (by simp)]
  unfold kv kz
  dsimp only
  go_enter Tryz.func65, Tryz.ntmps65
  go_wp2_with fail
  refine (HR _).mono ?_
  rintro e w1 ⟨rfl, hb⟩
  replace R1 := R1.later hb
  replace hb0 := below_step hb0 hb
  clear HR HT hb R0
  have c0 := ((R1).cell 0).trans (show _ = some (Value.int .i64 0) from rfl)
  have cf0 := (R1).frozen 0
  have c1 := ((R1).cell 1).trans (show _ = some (Value.int .i64 0) from rfl)
  have cf1 := (R1).frozen 1
  have c2 := ((R1).cell 2).trans (show _ = some (Value.int .u64 0) from rfl)
  have cf2 := (R1).frozen 2
  have c3 := ((R1).cell 3).trans (show _ = some (Value.int .u64 0) from rfl)
  have cf3 := (R1).frozen 3
  have c4 := ((R1).cell 4).trans (show _ = some (Value.string ⟨#[]⟩) from rfl)
  have cf4 := (R1).frozen 4
  clear R1
  go_wp2
  refine bodyPost_ret (v := .agg #[.int .i64 0, .int .i64 0, .int .u64 0, .int .u64 0, .string ⟨#[]⟩]) (by simp [results, Tryz.results65, go_sem, c0, c1, c2, c3, c4]) rfl ⟨rfl, bset5 hb0 (by omega) _ _ _ _ _⟩
 | true =>
  rw [if_pos rfl]
  by_cases hc : len ≤ n
  ·rw [if_pos hc]
   unfold kv
   dsimp only
   go_enter Tryz.func65, Tryz.ntmps65
   go_wp2_with fail
   refine (HR _).mono ?_
   rintro e w1 ⟨rfl, hb⟩
   replace R1 := R1.later hb
   replace R0 := R0.later hb
   replace hb0 := below_step hb0 hb
   clear HR HT hb
   have c0 := ((R1).cell 0).trans (show _ = some (Value.int .i64 0) from rfl)
   have cf0 := (R1).frozen 0
   have c1 := ((R1).cell 1).trans (show _ = some (Value.int .i64 0) from rfl)
   have cf1 := (R1).frozen 1
   have c2 := ((R1).cell 2).trans (show _ = some (Value.int .u64 0) from rfl)
   have cf2 := (R1).frozen 2
   have c3 := ((R1).cell 3).trans (show _ = some (Value.int .u64 0) from rfl)
   have cf3 := (R1).frozen 3
   have c4 := ((R1).cell 4).trans (show _ = some (Value.string ⟨#[]⟩) from rfl)
   have cf4 := (R1).frozen 4
   have d0 := ((R0).cell 0).trans (show _ = some (Value.int .i64 kd) from rfl)
   have df0 := (R0).frozen 0
   have d1 := ((R0).cell 1).trans (show _ = some (Value.int .i64 len) from rfl)
   have df1 := (R0).frozen 1
   have d2 := ((R0).cell 2).trans (show _ = some (Value.int .u64 h) from rfl)
   have df2 := (R0).frozen 2
   have d3 := ((R0).cell 3).trans (show _ = some (Value.int .u64 l) from rfl)
   have df3 := (R0).frozen 3
   have d4 := ((R0).cell 4).trans (show _ = some (Value.string ⟨p.toArray⟩) from rfl)
   have df4 := (R0).frozen 4
   clear R1 R0
   go_wp2
   refine bodyPost_ret (v := .agg #[.int .i64 kd, .int .i64 len, .int .u64 h, .int .u64 l, .string ⟨p.toArray⟩]) (by simp [results, Tryz.results65, go_sem, c0, c1, c2, c3, c4]) rfl ⟨rfl, bset5 hb0 (by omega) _ _ _ _ _⟩
  ·rw [if_neg hc]
   unfold kv
   dsimp only
   go_enter Tryz.func65, Tryz.ntmps65
   go_wp2_with fail
   refine (HR _).mono ?_
   rintro e w1 ⟨rfl, hb⟩
   replace R1 := R1.later hb
   replace R0 := R0.later hb
   replace hb0 := below_step hb0 hb
   clear HR hb
   have d0 := ((R0).cell 0).trans (show _ = some (Value.int .i64 kd) from rfl)
   have df0 := (R0).frozen 0
   have d1 := ((R0).cell 1).trans (show _ = some (Value.int .i64 len) from rfl)
   have df1 := (R0).frozen 1
   have d2 := ((R0).cell 2).trans (show _ = some (Value.int .u64 h) from rfl)
   have df2 := (R0).frozen 2
   have d3 := ((R0).cell 3).trans (show _ = some (Value.int .u64 l) from rfl)
   have df3 := (R0).frozen 3
   have d4 := ((R0).cell 4).trans (show _ = some (Value.string ⟨p.toArray⟩) from rfl)
   have df4 := (R0).frozen 4
   clear R0
   go_wp2_with fail
   refine (HT _).mono ?_
   rintro e w2 ⟨rfl, hb⟩
   replace R1 := R1.later hb
   replace hb0 := below_step hb0 hb
   clear HT hb d0 d1 d2 d3 d4 df0 df1 df2 df3 df4
   have c0 := ((R1).cell 0).trans (show _ = some (Value.int .i64 0) from rfl)
   have cf0 := (R1).frozen 0
   have c1 := ((R1).cell 1).trans (show _ = some (Value.int .i64 0) from rfl)
   have cf1 := (R1).frozen 1
   have c2 := ((R1).cell 2).trans (show _ = some (Value.int .u64 0) from rfl)
   have cf2 := (R1).frozen 2
   have c3 := ((R1).cell 3).trans (show _ = some (Value.int .u64 0) from rfl)
   have cf3 := (R1).frozen 3
   have c4 := ((R1).cell 4).trans (show _ = some (Value.string ⟨#[]⟩) from rfl)
   have cf4 := (R1).frozen 4
   clear R1
   go_wp2
   refine bodyPost_ret (v := .agg #[.int .i64 t0, .int .i64 t1, .int .u64 t2, .int .u64 t3, .string ⟨t4.toArray⟩]) (by simp [results, Tryz.results65, go_sem, c0, c1, c2, c3, c4]) rfl ⟨rfl, bset5 hb0 (by omega) _ _ _ _ _⟩
def cmpB (a b : ByteArray) : Int := if Op.bytesLess a.toList b.toList = true then -1 else if a.toList = b.toList then 0 else 1
def cmpS (a b : List UInt8) : Int := if Op.bytesLess a b = true then -1 else if a = b then 0 else 1
theorem bytes_list (l : List UInt8) : (⟨l.toArray⟩ : ByteArray).toList = l := by rw [ByteArray.toList_eq]
def fnz : List Int → Int
 | [] => 0
 | x :: r => if x = 0 then fnz r else x
def cmpK (a b : Ke) : Int := fnz [cmpI a.kind b.kind, cmpI a.num b.num, cmpS a.path b.path, cmpI a.len b.len]
end Go.Proofs.YtboinifeemghaaaGreatDoor
namespace Go.Proofs.YtboinifeemghaaaGreatDoor
open Go.ChangeShapes Go.WideShapes Go.ChangeAt Go.RowKit Go.Joins Go.Deep
theorem cellsKey : Tryz.prog.cellsOf 26 = 5 := by kernel_rfl
theorem cellsDim : Tryz.prog.cellsOf 23 = 3 := by kernel_rfl
structure Ke.okL (k : Ke) : Prop where
 h : Word k.h
 l : Word k.l
 k0 : -9223372036854775808 ≤ k.kind
 k1 : k.kind ≤ 9223372036854775807
 n0 : -9223372036854775808 ≤ k.len
 n1 : k.len ≤ 9223372036854775807
section
variable {H : Type} {enc : TypeId × Value → H} {W : World} {base : Nat} {sp : Nat → Bool} {held : Bool}
theorem field_at {fs : Array Field} {t : TypeId} {fuel : Nat} {cs : List Value} {x : DataW H × List MemPlace} (hs : Tryz.prog.underlying t = some (.struct fs)) (hone : oneCellFields Tryz.prog fs = true)
  (hf : DataW.trod enc Tryz.prog W base sp held fuel t cs = some x) (i : Nat) (f : Field) (v : Value) (hi : fs[i]? = some f) (hv : cs[i]? = some v) : ∃ n y, DataW.trod enc Tryz.prog W base sp held n f.type [v] = some y ∧ ∃ ys : List (DataW H), x.1 = .agg ys ∧ ys.length = fs.size ∧ ys[i]? = some y.1 := by
 obtain ⟨xs, n, _, hx, _, hlen, hg⟩ := DataW.trod_struct hs hf
 obtain ⟨ho, hk⟩ := hone_of hone i f hi
 have h := hg i f hi
 have hil : i < fs.size := (Array.getElem?_eq_some_iff.1 hi).1
 rw [ho, hk, List.getElem?_eq_getElem (by omega)] at h
 have hc : (cs.drop i).take 1 = [v] := by
  obtain ⟨hlt, rfl⟩ := List.getElem?_eq_some_iff.1 hv
  rw [List.drop_eq_getElem_cons hlt]; rfl
 rw [hc] at h
 exact ⟨n, _, h, xs.map (·.1), by rw [hx], by simp [hlen], by rw [List.getElem?_map, List.getElem?_eq_getElem (by omega)]; rfl⟩
theorem key_of_trod {v : Value} {d : DataW H} {p : List MemPlace} {r : Reach} {b0 : Nat} (hv : Value.okWide Tryz.prog W r b0 26 v) (h : DataW.Trod enc Tryz.prog W base sp held 26 v d p) : ∃ k : Ke, v = kv k ∧ k.okL ∧ d = .agg [.lit (.int .i64 k.kind), .lit (.int .i64 k.len), .lit (.int .u64 k.h), .lit (.int .u64 k.l), .lit (.string k.path)] := by
 have hs := Tryz.underlying26
 obtain ⟨⟨l⟩, rfl, hsz⟩ := okWide_struct hs hv
 obtain ⟨fuel, hf⟩ := h
 match l, hsz.trans cellsKey with
 | [c0, c1, c2, c3, c4], _ =>
  have F := field_at hs (by kernel_rfl) hf
  obtain ⟨_, _, h0, d0⟩ := F 0 _ c0 rfl (by simp [Value.cells])
  obtain ⟨_, _, h1, d1⟩ := F 1 _ c1 rfl (by simp [Value.cells])
  obtain ⟨_, _, h2, d2⟩ := F 2 _ c2 rfl (by simp [Value.cells])
  obtain ⟨_, _, h3, d3⟩ := F 3 _ c3 rfl (by simp [Value.cells])
  obtain ⟨_, _, h4, d4⟩ := F 4 _ c4 rfl (by simp [Value.cells])
  obtain ⟨n0, e0, g0, w0⟩ := DataW.trod_int Tryz.underlying3 h0
  obtain ⟨n1, e1, g1, w1⟩ := DataW.trod_int Tryz.underlying3 h1
  obtain ⟨n2, e2, g2, w2⟩ := DataW.trod_int Tryz.underlying24 h2
  obtain ⟨n3, e3, g3, w3⟩ := DataW.trod_int Tryz.underlying24 h3
  obtain ⟨s, e4, g4, w4⟩ := DataW.trod_string Tryz.underlying9 h4
  subst g0 g1 g2 g3 g4
  simp only [List.cons.injEq, and_true] at e0 e1 e2 e3 e4
  subst e0 e1 e2 e3 e4
  simp [Lit.wf, IntKind.min, IntKind.max, IntKind.signed, IntKind.bits] at w0 w1 w2 w3
  refine ⟨⟨n0, n1, n2, n3, s.data.toList⟩, rfl, ?_, ?_⟩
  ·constructor <;> dsimp only
   ·unfold Word; omega
   ·unfold Word; omega
   ·omega
   ·omega
   ·omega
   ·omega
  ·obtain ⟨ys, hy, hl, z0⟩ := d0
   obtain ⟨y1, hy1, _, z1⟩ := d1
   obtain ⟨y2, hy2, _, z2⟩ := d2
   obtain ⟨y3, hy3, _, z3⟩ := d3
   obtain ⟨y4, hy4, _, z4⟩ := d4
   rw [hy] at hy1 hy2 hy3 hy4
   cases hy1; cases hy2; cases hy3; cases hy4
   dsimp only at hy
   subst hy
   match ys, hl with
   | [a, b, c, d, e], _ =>
    simp at z0 z1 z2 z3 z4
    rw [z0, z1, z2, z3, z4]
theorem key_sized {ts : List TypeId} {ds : List (DataW H)} {d : DataW H} {j : Nat} {k : Ke} (h : (DataW.weightsEach Tryz.prog ts ds).all (· ≤ reachBytes) = true) (ht : ts[j]? = some 26) (hd : ds[j]? = some d)
  (e : d = .agg [.lit (.int .i64 k.kind), .lit (.int .i64 k.len), .lit (.int .u64 k.h), .lit (.int .u64 k.l), .lit (.string k.path)]) (ok : k.okL) : k.ok := by
 subst e
 have hu := Tryz.underlying26
 have h1 := List.all_eq_true.1 h _ (DataW.weights_mem_each ht hd k.path.length (by simp [DataW.weights, DataW.weightsEach, hu]))
 have h2 : k.path.length ≤ reachBytes := by simpa using h1
 have h3 : reachBytes < 140737488355328 := by decide
 exact ⟨ok.h, ok.l, ok.k0, ok.k1, ok.n0, ok.n1, by omega⟩
structure Dm where
 kind : Int
 side : Int
 step : Int
 deriving DecidableEq
def dv (d : Dm) : Value := .agg #[.int .i64 d.kind, .int .i64 d.side, .int .i64 d.step]
structure Dm.ok (d : Dm) : Prop where
 k0 : -9223372036854775808 ≤ d.kind
 k1 : d.kind ≤ 9223372036854775807
 s0 : -9223372036854775808 ≤ d.side
 s1 : d.side ≤ 9223372036854775807
 t0 : -9223372036854775808 ≤ d.step
 t1 : d.step ≤ 9223372036854775807
theorem dim_of_trod {v : Value} {d : DataW H} {p : List MemPlace} {r : Reach} {b0 : Nat} (hv : Value.okWide Tryz.prog W r b0 23 v) (h : DataW.Trod enc Tryz.prog W base sp held 23 v d p) : ∃ k : Dm, v = dv k ∧ k.ok := by
 have hs := Tryz.underlying23
 obtain ⟨⟨l⟩, rfl, hsz⟩ := okWide_struct hs hv
 obtain ⟨fuel, hf⟩ := h
 match l, hsz.trans cellsDim with
 | [c0, c1, c2], _ =>
  have F := field_at hs (by kernel_rfl) hf
  obtain ⟨_, _, h0, d0⟩ := F 0 _ c0 rfl (by simp [Value.cells])
  obtain ⟨_, _, h1, d1⟩ := F 1 _ c1 rfl (by simp [Value.cells])
  obtain ⟨_, _, h2, d2⟩ := F 2 _ c2 rfl (by simp [Value.cells])
  obtain ⟨n0, e0, _, w0⟩ := DataW.trod_int Tryz.underlying3 h0
  obtain ⟨n1, e1, _, w1⟩ := DataW.trod_int Tryz.underlying3 h1
  obtain ⟨n2, e2, _, w2⟩ := DataW.trod_int Tryz.underlying3 h2
  simp only [List.cons.injEq, and_true] at e0 e1 e2
  subst e0 e1 e2
  simp [Lit.wf, IntKind.min, IntKind.max, IntKind.signed, IntKind.bits] at w0 w1 w2
  refine ⟨⟨n0, n1, n2⟩, rfl, ?_⟩
  constructor <;> dsimp only <;> omega
end
end Go.Proofs.YtboinifeemghaaaGreatDoor
namespace Go.Proofs.YtboinifeemghaaaGreatDoor
open Go.RowKit
def fourK (a : Int) : Ke := ⟨1, 32, hi (a * 2 ^ 96), lo (a * 2 ^ 96), []⟩
def sixK (h l : Int) : Ke := ⟨2, 128, h, l, []⟩
def rootK (kind : Int) : Ke := if wid kind = 0 then kz else ⟨kind, 0, 0, 0, []⟩
def pathE (p : List UInt8) : Int := if rightB p = true then 0 else 3
def pathR (p : List UInt8) : Ke := if rightB p = true then pathK p else kz
theorem kfour_t (a : Int) (h0 : 0 ≤ a) (h1 : a < 4294967296) (w : World) : Calls Tryz.prog 55 #[.int .u32 a] w fun e w' => e = .returned (kv (fourK a)) ∧ Below w.heap.size w w' := by
 have ha : Word a := by unfold Word; omega
 have HO := of_any a
 have HL := left_any 0 a 96 (by unfold Word; omega) ha
 have ew : wv 0 a = a := by unfold wv; omega
 rw [ew] at HL
 have e2 : (2 : Int) ^ (96 : Int).toNat = 2 ^ 96 := rfl
 rw [e2] at HL
 unfold kv fourK
 dsimp only
 generalize hi (a * 2 ^ 96) = H at *
 generalize lo (a * 2 ^ 96) = L at *
 have HB := ofBits_t 1 32 H L
 have wr : IntKind.u64.wrap a = a := by rw [IntKind.wrap_u64]; omega
 have hb0 : Below w.heap.size w (w.alloc (.cells #[.int .i64 0, .int .i64 0, .int .u64 0, .int .u64 0, .string ⟨#[]⟩] 26)) := (by repeat (first | exact Below.refl _ _ | assumption | (with_reducible refine Below.drew ?_) | ((with_reducible first | refine Below.setCell ?_ ?h _ | refine Below.alloc ?_ ?h _ | refine Below.trans ?_ (hb.mono ?h) | refine Below.trans ?_ (hb0.mono ?h)); case h => first | omega | (simp; done) | (simp; omega))))
 have R := Row.new w #[.int .i64 0, .int .i64 0, .int .u64 0, .int .u64 0, .string ⟨#[]⟩] 26
 go_enter Tryz.func55, Tryz.ntmps55
 go_wp2_with fail
 refine (HO _).mono ?_
 rintro e w1 ⟨rfl, hb⟩
 replace R := R.later hb
 replace hb0 := below_step hb0 hb
 clear hb HO
 go_wp2_with fail
 refine (HL _).mono ?_
 rintro e w2 ⟨rfl, hb⟩
 replace R := R.later hb
 replace hb0 := below_step hb0 hb
 clear hb HL
 go_wp2_with fail
 refine (HB _).mono ?_
 rintro e w3 ⟨rfl, hb⟩
 replace R := R.later hb
 replace hb0 := below_step hb0 hb
 clear hb HB
 have c0 := ((R).cell 0).trans (show _ = some (Value.int .i64 0) from rfl)
 have cf0 := (R).frozen 0
 have c1 := ((R).cell 1).trans (show _ = some (Value.int .i64 0) from rfl)
 have cf1 := (R).frozen 1
 have c2 := ((R).cell 2).trans (show _ = some (Value.int .u64 0) from rfl)
 have cf2 := (R).frozen 2
 have c3 := ((R).cell 3).trans (show _ = some (Value.int .u64 0) from rfl)
 have cf3 := (R).frozen 3
 have c4 := ((R).cell 4).trans (show _ = some (Value.string ⟨#[]⟩) from rfl)
 have cf4 := (R).frozen 4
 clear R
 go_wp2
 refine bodyPost_ret (v := .agg #[.int .i64 1, .int .i64 32, .int .u64 H, .int .u64 L, .string ⟨#[]⟩]) (by simp [results, Tryz.results55, go_sem, c0, c1, c2, c3, c4]) rfl ⟨rfl, bset5 hb0 (Nat.le_refl _) _ _ _ _ _⟩
theorem ksix_t (h l : Int) (w : World) : Calls Tryz.prog 58 #[.agg #[.int .u64 h, .int .u64 l]] w fun e w' => e = .returned (kv (sixK h l)) ∧ Below w.heap.size w w' := by
 have HB := ofBits_t 2 128 h l
 unfold kv sixK
 dsimp only
 have hb0 : Below w.heap.size w ((w.alloc (.cells #[.int .u64 h, .int .u64 l] 73)).alloc (.cells #[.int .i64 0, .int .i64 0, .int .u64 0, .int .u64 0, .string ⟨#[]⟩] 26)) := (by repeat (first | exact Below.refl _ _ | assumption | (with_reducible refine Below.drew ?_) | ((with_reducible first | refine Below.setCell ?_ ?h _ | refine Below.alloc ?_ ?h _ | refine Below.trans ?_ (hb.mono ?h) | refine Below.trans ?_ (hb0.mono ?h)); case h => first | omega | (simp; done) | (simp; omega))))
 obtain ⟨_, R, _⟩ := two_rows w #[.int .u64 h, .int .u64 l] #[.int .i64 0, .int .i64 0, .int .u64 0, .int .u64 0, .string ⟨#[]⟩] 73 26
 go_enter Tryz.func58, Tryz.ntmps58
 go_wp2_with fail
 refine (HB _).mono ?_
 rintro e w3 ⟨rfl, hb⟩
 replace R := R.later hb
 replace hb0 := below_step hb0 hb
 clear hb HB
 have c0 := ((R).cell 0).trans (show _ = some (Value.int .i64 0) from rfl)
 have cf0 := (R).frozen 0
 have c1 := ((R).cell 1).trans (show _ = some (Value.int .i64 0) from rfl)
 have cf1 := (R).frozen 1
 have c2 := ((R).cell 2).trans (show _ = some (Value.int .u64 0) from rfl)
 have cf2 := (R).frozen 2
 have c3 := ((R).cell 3).trans (show _ = some (Value.int .u64 0) from rfl)
 have cf3 := (R).frozen 3
 have c4 := ((R).cell 4).trans (show _ = some (Value.string ⟨#[]⟩) from rfl)
 have cf4 := (R).frozen 4
 clear R
 go_wp2
 refine bodyPost_ret (v := .agg #[.int .i64 2, .int .i64 128, .int .u64 h, .int .u64 l, .string ⟨#[]⟩]) (by simp [results, Tryz.results58, go_sem, c0, c1, c2, c3, c4]) rfl ⟨rfl, bset5 hb0 (by omega) _ _ _ _ _⟩
theorem kpath_t (p : List UInt8) (hp : p.length ≤ 140737488355328) (w : World) : Calls Tryz.prog 60 #[.string ⟨p.toArray⟩] w fun e w' => e = .returned (.tuple #[kv (pathR p), .int .i64 (pathE p)]) ∧ Below w.heap.size w w' := by
 have HR := right_t p hp
 have HP := ofPath_t p hp
 unfold pathR pathE
 generalize pathK p = u at *
 obtain ⟨u0, u1, u2, u3, u4⟩ := u
 generalize rightB p = r at *
 have hb0 : Below w.heap.size w (w.alloc (.cells #[.int .i64 0, .int .i64 0, .int .u64 0, .int .u64 0, .string ⟨#[]⟩] 26)) := (by repeat (first | exact Below.refl _ _ | assumption | (with_reducible refine Below.drew ?_) | ((with_reducible first | refine Below.setCell ?_ ?h _ | refine Below.alloc ?_ ?h _ | refine Below.trans ?_ (hb.mono ?h) | refine Below.trans ?_ (hb0.mono ?h)); case h => first | omega | (simp; done) | (simp; omega))))
 have R := Row.new w #[.int .i64 0, .int .i64 0, .int .u64 0, .int .u64 0, .string ⟨#[]⟩] 26
 cases r with
 | false =>
  rw [if_neg (by simp), if_neg (by simp)]
  unfold kv kz
  dsimp only
  go_enter Tryz.func60, Tryz.ntmps60
  go_wp2_with fail
  refine (HR _).mono ?_
  rintro e w1 ⟨rfl, hb⟩
  replace R := R.later hb
  replace hb0 := below_step hb0 hb
  clear hb HR HP
  have c0 := ((R).cell 0).trans (show _ = some (Value.int .i64 0) from rfl)
  have cf0 := (R).frozen 0
  have c1 := ((R).cell 1).trans (show _ = some (Value.int .i64 0) from rfl)
  have cf1 := (R).frozen 1
  have c2 := ((R).cell 2).trans (show _ = some (Value.int .u64 0) from rfl)
  have cf2 := (R).frozen 2
  have c3 := ((R).cell 3).trans (show _ = some (Value.int .u64 0) from rfl)
  have cf3 := (R).frozen 3
  have c4 := ((R).cell 4).trans (show _ = some (Value.string ⟨#[]⟩) from rfl)
  have cf4 := (R).frozen 4
  clear R
  go_wp2
  refine bodyPost_ret (v := .tuple #[.agg #[.int .i64 0, .int .i64 0, .int .u64 0, .int .u64 0, .string ⟨#[]⟩], .int .i64 3]) (by simp [results, Tryz.results60, go_sem, c0, c1, c2, c3, c4]) rfl ⟨rfl, bset5 hb0 (by omega) _ _ _ _ _⟩
 | true =>
  rw [if_pos rfl, if_pos rfl]
  unfold kv at *
  dsimp only at *
  go_enter Tryz.func60, Tryz.ntmps60
  go_wp2_with fail
  refine (HR _).mono ?_
  rintro e w1 ⟨rfl, hb⟩
  replace R := R.later hb
  replace hb0 := below_step hb0 hb
  clear hb HR
  go_wp2_with fail
  refine (HP _).mono ?_
  rintro e w2 ⟨rfl, hb⟩
  replace R := R.later hb
  replace hb0 := below_step hb0 hb
  clear hb HP
  have c0 := ((R).cell 0).trans (show _ = some (Value.int .i64 0) from rfl)
  have cf0 := (R).frozen 0
  have c1 := ((R).cell 1).trans (show _ = some (Value.int .i64 0) from rfl)
  have cf1 := (R).frozen 1
  have c2 := ((R).cell 2).trans (show _ = some (Value.int .u64 0) from rfl)
  have cf2 := (R).frozen 2
  have c3 := ((R).cell 3).trans (show _ = some (Value.int .u64 0) from rfl)
  have cf3 := (R).frozen 3
  have c4 := ((R).cell 4).trans (show _ = some (Value.string ⟨#[]⟩) from rfl)
  have cf4 := (R).frozen 4
  clear R
  go_wp2
  refine bodyPost_ret (v := .tuple #[.agg #[.int .i64 u0, .int .i64 u1, .int .u64 u2, .int .u64 u3, .string ⟨u4.toArray⟩], .int .i64 0]) (by simp [results, Tryz.results60, go_sem, c0, c1, c2, c3, c4]) rfl ⟨rfl, bset5 hb0 (by omega) _ _ _ _ _⟩
theorem kroot_t (k : Int) (w : World) : Calls Tryz.prog 34 #[.int .i64 k] w fun e w' => e = .returned (kv (rootK k)) ∧ Below w.heap.size w w' := by
 have HW := width_t k
 unfold rootK
 generalize wid k = d at *
 have hb0 : Below w.heap.size w (w.alloc (.cells #[.int .i64 0, .int .i64 0, .int .u64 0, .int .u64 0, .string ⟨#[]⟩] 26)) := (by repeat (first | exact Below.refl _ _ | assumption | (with_reducible refine Below.drew ?_) | ((with_reducible first | refine Below.setCell ?_ ?h _ | refine Below.alloc ?_ ?h _ | refine Below.trans ?_ (hb.mono ?h) | refine Below.trans ?_ (hb0.mono ?h)); case h => first | omega | (simp; done) | (simp; omega))))
 have R := Row.new w #[.int .i64 0, .int .i64 0, .int .u64 0, .int .u64 0, .string ⟨#[]⟩] 26
 by_cases h : d = 0
 ·subst h
  rw [if_pos rfl]
  unfold kv kz
  dsimp only
  go_enter Tryz.func34, Tryz.ntmps34
  go_wp2_with fail
  refine (HW _).mono ?_
  rintro e w1 ⟨rfl, hb⟩
  replace R := R.later hb
  replace hb0 := below_step hb0 hb
  clear hb HW
  have c0 := ((R).cell 0).trans (show _ = some (Value.int .i64 0) from rfl)
  have cf0 := (R).frozen 0
  have c1 := ((R).cell 1).trans (show _ = some (Value.int .i64 0) from rfl)
  have cf1 := (R).frozen 1
  have c2 := ((R).cell 2).trans (show _ = some (Value.int .u64 0) from rfl)
  have cf2 := (R).frozen 2
  have c3 := ((R).cell 3).trans (show _ = some (Value.int .u64 0) from rfl)
  have cf3 := (R).frozen 3
  have c4 := ((R).cell 4).trans (show _ = some (Value.string ⟨#[]⟩) from rfl)
  have cf4 := (R).frozen 4
  clear R
  go_wp2
  refine bodyPost_ret (v := .agg #[.int .i64 0, .int .i64 0, .int .u64 0, .int .u64 0, .string ⟨#[]⟩]) (by simp [results, Tryz.results34, go_sem, c0, c1, c2, c3, c4]) rfl ⟨rfl, bset5 hb0 (by omega) _ _ _ _ _⟩
 ·rw [if_neg h]
  have h' : (d == 0) = false := by simpa using h
  unfold kv
  dsimp only
  go_enter Tryz.func34, Tryz.ntmps34
  go_wp2_with fail
  refine (HW _).mono ?_
  rintro e w1 ⟨rfl, hb⟩
  replace R := R.later hb
  replace hb0 := below_step hb0 hb
  clear hb HW
  have c0 := ((R).cell 0).trans (show _ = some (Value.int .i64 0) from rfl)
  have cf0 := (R).frozen 0
  have c1 := ((R).cell 1).trans (show _ = some (Value.int .i64 0) from rfl)
  have cf1 := (R).frozen 1
  have c2 := ((R).cell 2).trans (show _ = some (Value.int .u64 0) from rfl)
  have cf2 := (R).frozen 2
  have c3 := ((R).cell 3).trans (show _ = some (Value.int .u64 0) from rfl)
  have cf3 := (R).frozen 3
  have c4 := ((R).cell 4).trans (show _ = some (Value.string ⟨#[]⟩) from rfl)
  have cf4 := (R).frozen 4
  clear R
  go_wp2
  refine bodyPost_ret (v := .agg #[.int .i64 k, .int .i64 0, .int .u64 0, .int .u64 0, .string ⟨#[]⟩]) (by simp [results, Tryz.results34, go_sem, c0, c1, c2, c3, c4]) rfl ⟨rfl, bset5 hb0 (by omega) _ _ _ _ _⟩
theorem rwidth_t (k : Int) (w : World) : Calls Tryz.prog 71 #[.int .i64 k] w fun e w' => e = .returned (.int .i64 (wid k)) ∧ Below w.heap.size w w' := by
 by_cases h1 : k = 1
 ·subst h1
  go_enter Tryz.func71, Tryz.ntmps71
  go_wp2
  go_ret
  exact ⟨rfl, bw⟩
 by_cases h2 : k = 2
 ·subst h2
  go_enter Tryz.func71, Tryz.ntmps71
  go_wp2
  go_ret
  exact ⟨rfl, bw⟩
 by_cases h3 : k = 3
 ·subst h3
  go_enter Tryz.func71, Tryz.ntmps71
  go_wp2
  go_ret
  exact ⟨rfl, bw⟩
 have e : wid k = 0 := by unfold wid; rw [if_neg h1, if_neg h2, if_neg h3]
 rw [e]
 have b1 : (k == 1) = false := by simpa using h1
 have b2 : (k == 2) = false := by simpa using h2
 have b3 : (k == 3) = false := by simpa using h3
 go_enter Tryz.func71, Tryz.ntmps71
 go_wp2
 go_ret
 exact ⟨rfl, bw⟩
theorem four_hi {a : Int} (h0 : 0 ≤ a) (h1 : a < 4294967296) : hi (a * 2 ^ 96) = a * 4294967296 ∧ lo (a * 2 ^ 96) = 0 := by
 have e : (2 : Int) ^ 96 = 79228162514264337593543950336 := by decide
 rw [e]
 unfold hi lo
 constructor
 ·rw [show a * 79228162514264337593543950336 = (a * 4294967296) * 18446744073709551616 by omega, Int.mul_ediv_cancel _ (by decide), Int.emod_eq_of_lt (by omega) (by omega)]
 ·rw [show a * 79228162514264337593543950336 = (a * 4294967296) * 18446744073709551616 by omega, Int.mul_emod_left]
theorem rfour_t (a : Int) (h0 : 0 ≤ a) (h1 : a < 4294967296) (w : World) : Calls Tryz.prog 67 #[.int .u32 a] w fun e w' => e = .returned (kv (fourK a)) ∧ Below w.heap.size w w' := by
 obtain ⟨e1, e2⟩ := four_hi h0 h1
 unfold kv fourK
 dsimp only
 rw [e1, e2]
 have wr : IntKind.u64.wrap a = a := by rw [IntKind.wrap_u64]; omega
 have wr2 : IntKind.u64.wrap (a * 4294967296) = a * 4294967296 := by rw [IntKind.wrap_u64]; omega
 clear e1 e2
 go_enter Tryz.func67, Tryz.ntmps67
 go_wp2
 refine bodyPost_ret (v := .agg #[.int .i64 1, .int .i64 32, .int .u64 (a * 4294967296), .int .u64 0, .string ⟨#[]⟩]) (by simp [results, Tryz.results67, go_sem]) rfl ⟨rfl, (by repeat (first | exact Below.refl _ _ | assumption | (with_reducible refine Below.drew ?_) | ((with_reducible first | refine Below.setCell ?_ ?h _ | refine Below.alloc ?_ ?h _); case h => first | omega | (simp; done) | (simp; omega))))⟩
theorem rsix_t (h l : Int) (w : World) : Calls Tryz.prog 69 #[.int .u64 h, .int .u64 l] w fun e w' => e = .returned (kv (sixK h l)) ∧ Below w.heap.size w w' := by
 unfold kv sixK
 dsimp only
 go_enter Tryz.func69, Tryz.ntmps69
 go_wp2
 refine bodyPost_ret (v := .agg #[.int .i64 2, .int .i64 128, .int .u64 h, .int .u64 l, .string ⟨#[]⟩]) (by simp [results, Tryz.results69, go_sem]) rfl ⟨rfl, (by repeat (first | exact Below.refl _ _ | assumption | (with_reducible refine Below.drew ?_) | ((with_reducible first | refine Below.setCell ?_ ?h _ | refine Below.alloc ?_ ?h _); case h => first | omega | (simp; done) | (simp; omega))))⟩
def bit01 (b : Bool) : Int := if b = true then 1 else 0
theorem bit_hi {h l : Int} (hh : Word h) (hl : Word l) {j : Nat} (hj : j < 64) : h / 2 ^ (63 - j) % 2 = bit01 (bitI (wv h l) j) := by
 rw [bit_def _ j (by omega)]
 have e : wv h l / 2 ^ (127 - j) = h / 2 ^ (63 - j) := by
  unfold wv Word at *
  have e1 : (2 : Int) ^ (127 - j) = 18446744073709551616 * 2 ^ (63 - j) := by
   rw [show (18446744073709551616 : Int) = 2 ^ 64 from rfl, ← Int.pow_add]; congr 1; omega
  rw [e1, ← Int.ediv_ediv_of_nonneg (by decide)]
  congr 1
  omega
 rw [e]
 unfold bit01
 generalize h / 2 ^ (63 - j) = y
 by_cases hy : y % 2 = 1
 ·simp [hy]
 ·rw [if_neg (by simpa using hy)]; omega
theorem bit_lo {h l : Int} (hh : Word h) (hl : Word l) {j : Nat} (h64 : 64 ≤ j) (hj : j < 128) : l / 2 ^ (127 - j) % 2 = bit01 (bitI (wv h l) j) := by
 rw [bit_def _ j hj]
 have e1 : (18446744073709551616 : Int) = 2 ^ (j - 63) * 2 ^ (127 - j) := by
  rw [show (18446744073709551616 : Int) = 2 ^ 64 from rfl, ← Int.pow_add]; congr 1; omega
 have e : wv h l / 2 ^ (127 - j) = h * 2 ^ (j - 63) + l / 2 ^ (127 - j) := by
  unfold wv
  rw [e1, ← Int.mul_assoc, Int.add_comm, Int.add_mul_ediv_right _ _ (pow2_ne _)]; omega
 have e2 : (2 : Int) ^ (j - 63) = 2 * 2 ^ (j - 64) := by rw [← Int.pow_succ']; congr 1; omega
 rw [e, e2]
 unfold bit01
 generalize l / 2 ^ (127 - j) = y
 generalize (2 : Int) ^ (j - 64) = z
 rw [show h * (2 * z) = 2 * (h * z) by rw [Int.mul_left_comm]]
 generalize h * z = t
 by_cases hy : y % 2 = 1
 ·rw [hy, if_pos (by simp; omega)]
 ·rw [if_neg (by simp; omega)]; omega
theorem word_div_nn {h : Int} (hh : Word h) (n : Nat) : 0 ≤ h / 2 ^ n := Int.ediv_nonneg hh.1 (Int.le_of_lt (Int.pow_pos (by decide)))
theorem rbit_t (h l : Int) (hh : Word h) (hl : Word l) (j : Nat) (hj : j < 128) (w : World) : Calls Tryz.prog 120 #[.int .u64 h, .int .u64 l, .int .i64 j] w fun e w' => e = .returned (.int .u64 (bit01 (bitI (wv h l) j))) ∧ Below w.heap.size w w' := by
 by_cases h64 : j < 64
 ·have H := Lib.hid (bit_hi hh hl h64)
  have nn := word_div_nn hh (63 - j)
  have e1 : ((63 : Int) - (j : Int)).toNat = 63 - j := by omega
  have b1 := hh.1
  have b2 := hh.2
  have e2 : IntKind.u64.wrap (63 - (j : Int)) = 63 - (j : Int) := by rw [IntKind.wrap_u64]; omega
  clear hh hl
  go_enter Tryz.func120, Tryz.ntmps120
  go_wp2
  go_ret
  exact ⟨ret_int (by rw [← H.out]), bw⟩
 ·have H := Lib.hid (bit_lo hh hl (by omega) hj)
  have nn := word_div_nn hl (127 - j)
  have e1 : ((127 : Int) - (j : Int)).toNat = 127 - j := by omega
  have b1 := hl.1
  have b2 := hl.2
  have e2 : IntKind.u64.wrap (127 - (j : Int)) = 127 - (j : Int) := by rw [IntKind.wrap_u64]; omega
  clear hh hl
  go_enter Tryz.func120, Tryz.ntmps120
  go_wp2
  go_ret
  exact ⟨ret_int (by rw [← H.out]), bw⟩
def valsS (ls : List (List UInt8)) : List Value := ls.map fun x => Value.string ⟨x.toArray⟩
theorem valsS_length (ls : List (List UInt8)) : (valsS ls).length = ls.length := by simp [valsS]
theorem valsS_one (ls : List (List UInt8)) : ∀ x ∈ valsS ls, x.oneCell' = true := by
 intro x hx
 unfold valsS at hx
 obtain ⟨a, _, rfl⟩ := List.mem_map.1 hx
 rfl
def OwnS (base : Nat) (w : World) (v : Value) (ls : List (List UInt8)) : Prop := w.ownsRow base 9 1 v ls.length (valsS ls)
theorem OwnS.later {base : Nat} {w w' : World} {v : Value} {l : List (List UInt8)} (h : OwnS base w v l) (hb : Below w.heap.size w w') : OwnS base w' v l := by
 obtain ⟨hl, h⟩ := h
 refine ⟨hl, ?_⟩
 rcases h with h | ⟨g, cap, cur, hv, hbs, hg, h1⟩
 ·exact .inl h
 ·exact .inr ⟨g, cap, cur, hv, hbs, (Row.later (t := 9) hg hb), h1⟩
theorem OwnS.block {base : Nat} {w : World} {v : Value} {l : List (List UInt8)} (h : OwnS base w v l) (g : Nat) (hg : v.ownBlock = some g) : base ≤ g ∧ g < w.heap.size := by
 rcases h.2 with ⟨rfl, _⟩ | ⟨g', cap, cur, rfl, hbs, hr, _⟩
 ·cases hg
 ·have : g' = g := by simpa [Value.ownBlock] using hg
  subst this
  exact ⟨hbs, Row.lt (t := 9) hr⟩
theorem OwnS.nil (base : Nat) (w : World) : OwnS base w (.slice none 0 0) [] := ⟨rfl, .inl ⟨rfl, rfl⟩⟩
theorem OwnS.read {base : Nat} {w : World} {v : Value} {l : List (List UInt8)} (h : OwnS base w v l) : SS w v l := by
 obtain ⟨hl, h⟩ := h
 rcases h with ⟨rfl, h0⟩ | ⟨g, cap, cur, rfl, hb, hg, h1, h2, h3, h4⟩
 ·exact ⟨none, 0, by rw [h0], by omega, fun h => by omega⟩
 ·refine ⟨_, cap, rfl, by omega, fun _ => ⟨g, 0, rfl, Row.lt (t := 9) hg, fun j x hx => ?_⟩⟩
  rw [Nat.zero_add, cell_of_row w g j cur _ _ hg, ← Array.getElem?_toList]
  have hj : j < l.length := by rw [List.getElem?_eq_some_iff] at hx; exact hx.1
  have : (valsS l)[j]? = some (.string ⟨x.toArray⟩) := by unfold valsS; rw [List.getElem?_map, hx]; rfl
  rw [← h4, List.getElem?_take, if_pos (by omega)] at this
  exact this
theorem infoS : ∃ i, Tryz.prog.info? 9 = some i ∧ i.zero = some (.string ⟨#[]⟩) ∧ i.size = 1 ∧ i.bytes = 16 := by
 have h1 : (Tryz.prog.info? 9).bind (·.zero) = some (.string ⟨#[]⟩) := by kernel_rfl
 have h2 : (Tryz.prog.info? 9).map (·.size) = some 1 := by kernel_rfl
 have h3 : (Tryz.prog.info? 9).map (·.bytes) = some 16 := by kernel_rfl
 cases hq : Tryz.prog.info? 9 with
 | none => rw [hq] at h2; cases h2
 | some i =>
  rw [hq] at h1 h2 h3
  exact ⟨i, rfl, by simpa using h1, by simpa using h2, by simpa using h3⟩
theorem appS_run {base : Nat} {w : World} {v : Value} {l m : List (List UInt8)} (ty : TypeId) (ho : OwnS base w v l) (gs c : Nat) (hsrc : ∀ (j : Nat) x, m[j]? = some x → w.cell? ⟨gs, j, none⟩ = some (.string ⟨x.toArray⟩)) (hl : l.length + m.length ≤ 2147483647) (hbase : base ≤ w.heap.size) :
  ∃ v' w', (Builtin.append_ #[77, 77] ty #[v, .slice (some ⟨gs, 0, none⟩) m.length c]).run Tryz.prog w = .ok v' w' ∧ OwnS base w' v' (l ++ m) ∧ w.grownBy w' v.ownBlock := by
 obtain ⟨i, i1, i2, i3, i4⟩ := infoS
 have hs : ∀ j u, (valsS m)[j]? = some u → w.cell? ((⟨gs, 0, none⟩ : Addr).add j) = some u := by
  intro j u hu
  unfold valsS at hu
  rw [List.getElem?_map, Option.map_eq_some_iff] at hu
  obtain ⟨x, hx, rfl⟩ := hu
  rw [Addr.add_mid, Nat.zero_add]
  exact hsrc j x hx
 obtain ⟨v', w', hr, k1, k2, _, k4⟩ := run_append_own_at (P := Tryz.prog) w base 77 ty 9 i (.string ⟨#[]⟩) 1 16 Tryz.underlying77 i1 i2 i3 i4 rfl (by decide) v l.length (valsS l) ho ⟨gs, 0, none⟩ m.length c (valsS m) (by rw [valsS_length, Nat.mul_one]) hs (valsS_one m) (by unfold maxLen; omega) (by omega) hbase
 refine ⟨v', w', hr, ?_, k2⟩
 have hbm : valsS (l ++ m) = valsS l ++ valsS m := by unfold valsS; rw [List.map_append]
 unfold OwnS
 rw [List.length_append, hbm]
 exact k1
theorem appS_one {base : Nat} {w0 w : World} {v : Value} {l : List (List UInt8)} (x : List UInt8) (ho : OwnS base w v l) (hB : Below base w0 w) (hl : l.length ≤ 2147483600) (hbase : base ≤ w.heap.size) :
  ∃ v' w', (Builtin.append_ #[77, 77] 77 #[v, .slice (some ⟨w.heap.size, 0, none⟩) 1 1]).run Tryz.prog (w.alloc (.cells #[.string ⟨x.toArray⟩] 9)) = .ok v' w' ∧ OwnS base w' v' (l ++ [x]) ∧ Below base w0 w' := by
 have R1 := Row.new w #[.string ⟨x.toArray⟩] 9
 have hbn : Below w.heap.size w (w.alloc (.cells #[.string ⟨x.toArray⟩] 9)) := (Below.refl _ _).alloc (Nat.le_refl _) _
 obtain ⟨v', w2, hrun, hown, hgrow⟩ := appS_run (m := [x]) 77 (ho.later hbn) w.heap.size 1 (fun j y hy => by
  rcases j with _ | j
  ·cases hy; exact (R1.cell 0).trans rfl
  ·simp at hy) (by simp; omega) (Nat.le_trans hbase hbn.size)
 exact ⟨v', w2, hrun, hown, (hB.trans (hbn.mono hbase)).grown hgrow (Nat.le_trans hbase hbn.size) (fun k hk => ((ho.later hbn).block _ hk).1)⟩
theorem wp_appS {P : Program} {w w' : World} {o : Oper} {a : Act} {K : Act → World → Prop} {Q : Exit → Act → World → Prop} (s x : Operand) (t : TypeId) {v bv v' : Value}
  (ho : o.op = .call { callee := .builtin .append, args := #[s, x], argTypes := #[t, t] }) (hs : a.eval s = v) (hx : a.eval x = bv)
  (hr : (Builtin.append_ #[t, t] o.type #[v, bv]).run P w = .ok v' w') (h : K (a.put o.dst v') w') : o.wp P a w K Q := by
 unfold Oper.wp execOp
 simp only [ho, resolve, invoke, builtin, Sem.run_bind, Sem.run_pure, Result.andThen_ok, List.map_toArray, List.map_cons, List.map_nil, hs, hx, hr]
 exact h
theorem wpList_appS {P : Program} {w w' : World} {ops : Array Oper} {rest : List Oper} {o : Oper} {a : Act} {Q : Exit → Act → World → Prop} (hg : o.guard = none) (s x : Operand) (t : TypeId) (hop : o.op = .call { callee := .builtin .append, args := #[s, x], argTypes := #[t, t] })
  {v bv v' : Value} (hs : a.eval s = v) (hx : a.eval x = bv) (hr : (Builtin.append_ #[t, t] o.type #[v, bv]).run P w = .ok v' w') (hK : wpList P ops Q rest (a.put o.dst v') w') : wpList P ops Q (o :: rest) a w := by
 refine wpList_plain hg fun K hK' => ?_
 exact wp_appS s x t hop hs hx hr (hK' _ _ hK)
/-! the reference's IsLabel -/
theorem memB_bad {l : List UInt8} {j : Nat} (hj : j < l.length) (h : memB l[j] = false) : labB l = false := labB_bad hj (.inr h)
theorem rIsLabel_t (l : List UInt8) (hl : l.length ≤ 140737488355328) (w : World) : Calls Tryz.prog 108 #[.string ⟨l.toArray⟩] w fun e w' => e = .returned (.bool (labB l)) ∧ w = w' := by
 have hsz := bs_size l
 go_enter Tryz.func108, Tryz.ntmps108
 go_wp2_with fail
 go_loopw [3] (fun i wr => ∃ (j : Nat), j ≤ l.length ∧ i = .int .i64 j ∧ Hid (∀ i (hi : i < j) (hl : i < l.length), memB l[i] = true) ∧ wr = w) (fun i _ => l.length - (intOf i).toNat)
 case atStart => exact ⟨0, by omega, rfl, Lib.hid (fun i hi => by omega), rfl⟩
 case round =>
  obtain ⟨j, hj, rfl, hm, rfl⟩ := hrel
  by_cases hlt : j < l.length
  ·obtain ⟨c, hlj⟩ : ∃ c, l[j] = c := ⟨_, rfl⟩
   have hsp : j < (⟨l.toArray⟩ : ByteArray).size := by rw [hsz]; exact hlt
   have hch : (⟨l.toArray⟩ : ByteArray)[j]'hsp = c := hlj
   have hcn : c.toNat < 256 := c.toNat_lt
   have HT := Lib.hid (show memB c = true → ∀ i (hi : i < j + 1) (hl : i < l.length), memB l[i] = true from fun hmb i hi hl => by
     by_cases e : i = j
     ·subst e; rw [hlj]; exact hmb
     ·exact hm.out i (by omega) hl)
   have HF := Lib.hid (show memB c = false → labB l = false from fun h => memB_bad hlt (by rw [hlj]; exact h))
   clear hm hlj
   have hcase : (97 ≤ c.toNat ∧ c.toNat ≤ 122) ∨ (48 ≤ c.toNat ∧ c.toNat ≤ 57) ∨ c.toNat = 95 ∨ (122 < c.toNat) ∨ (c.toNat < 48) ∨ (57 < c.toNat ∧ c.toNat < 97 ∧ c.toNat ≠ 95) := by omega
   have hmb : memB c = ((decide (97 ≤ c.toNat) && decide (c.toNat ≤ 122)) || (decide (48 ≤ c.toNat) && decide (c.toNat ≤ 57)) || decide (c.toNat = 95)) := rfl
   rcases hcase with ⟨h1, h2⟩ | ⟨h1, h2⟩ | h1 | h1 | h1 | ⟨h1, h2, h3⟩
   ·have HN := Lib.hid (HT.out (by rw [hmb]; simp [h1, h2]))
    have h1' : (97 : Int) ≤ c.toNat := by omega
    have h2' : (c.toNat : Int) ≤ 122 := by omega
    clear HT HF hmb
    go_wp2
    exact ⟨⟨j + 1, by omega, by go_num, HN, trivial⟩, by simp [intOf]; omega⟩
   ·have HN := Lib.hid (HT.out (by rw [hmb]; simp [h1, h2]))
    have h1' : (48 : Int) ≤ c.toNat := by omega
    have h2' : (c.toNat : Int) ≤ 57 := by omega
    have h3' : ¬ (97 : Int) ≤ c.toNat := by omega
    clear HT HF hmb
    go_wp2
    exact ⟨⟨j + 1, by omega, by go_num, HN, trivial⟩, by simp [intOf]; omega⟩
   ·have HN := Lib.hid (HT.out (by rw [hmb]; simp [h1]))
    have h3' : ¬ (97 : Int) ≤ c.toNat := by omega
    have h4' : (48 : Int) ≤ c.toNat := by omega
    have h5' : ¬ (c.toNat : Int) ≤ 57 := by omega
    have h6' : ((c.toNat : Int) == 95) = true := by simp; omega
    have h7' : (c.toNat : Int) = 95 := by omega
    clear HT HF hmb
    go_wp2
    exact ⟨⟨j + 1, by omega, by go_num, HN, trivial⟩, by simp [intOf]; omega⟩
   ·have HB := Lib.hid (HF.out (by rw [hmb]; simp <;> omega))
    have h3' : (97 : Int) ≤ c.toNat := by omega
    have h4' : ¬ (c.toNat : Int) ≤ 122 := by omega
    have h5' : (48 : Int) ≤ c.toNat := by omega
    have h6' : ¬ (c.toNat : Int) ≤ 57 := by omega
    have h7' : ((c.toNat : Int) == 95) = false := by simp; omega
    have h8' : ¬ (c.toNat : Int) = 95 := by omega
    clear HT HF hmb
    go_wp2
    go_ret
    exact ⟨by rw [HB.out]; rfl, rfl⟩
   ·have HB := Lib.hid (HF.out (by rw [hmb]; simp <;> omega))
    have h3' : ¬ (97 : Int) ≤ c.toNat := by omega
    have h5' : ¬ (48 : Int) ≤ c.toNat := by omega
    have h7' : ((c.toNat : Int) == 95) = false := by simp; omega
    have h8' : ¬ (c.toNat : Int) = 95 := by omega
    clear HT HF hmb
    go_wp2
    go_ret
    exact ⟨by rw [HB.out]; rfl, rfl⟩
   ·have HB := Lib.hid (HF.out (by rw [hmb]; simp <;> omega))
    have h3' : ¬ (97 : Int) ≤ c.toNat := by omega
    have h5' : (48 : Int) ≤ c.toNat := by omega
    have h6' : ¬ (c.toNat : Int) ≤ 57 := by omega
    have h7' : ((c.toNat : Int) == 95) = false := by simp; omega
    have h8' : ¬ (c.toNat : Int) = 95 := by omega
    clear HT HF hmb
    go_wp2
    go_ret
    exact ⟨by rw [HB.out]; rfl, rfl⟩
  ·have hjl : j = l.length := by omega
   have hall : l.all memB = true := by rw [List.all_eq_true]; intro x hx; obtain ⟨i, hi, rfl⟩ := List.getElem_of_mem hx; exact hm.out i (by omega) hi
   have HB : Hid (labB l = (decide (0 < (l.length : Int)) && decide ((l.length : Int) < 17))) := Lib.hid (by
    unfold labB; rw [hall, Bool.eq_iff_iff]; simp
    constructor
    ·rintro ⟨a, b⟩; exact ⟨List.length_pos_iff.2 a, by omega⟩
    ·rintro ⟨a, b⟩; exact ⟨List.length_pos_iff.1 a, by omega⟩)
   clear hm hall
   subst hjl
   by_cases h0 : l = []
   ·subst h0
    go_wp2
    go_ret
    exact ⟨by rw [HB.out]; rfl, rfl⟩
   ·have hpos : (0 : Int) < (l.length : Int) := by have := List.length_pos_iff.2 h0; omega
    have hie : l.isEmpty = false := by cases l <;> simp_all
    go_wp2
    go_ret
    exact ⟨by rw [HB.out]; simp [h0]; intro _; omega, rfl⟩
end Go.Proofs.YtboinifeemghaaaGreatDoor
