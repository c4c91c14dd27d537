/- Top of package label. No conditions beyond lengths. -/
import Derived.Test.YtekoicbjpoeijaaLab4
import Derived.Lib.Join
namespace Go.Proofs.Ytekoicbjpoeijaa
set_option linter.unusedVariables false
set_option linter.unusedSimpArgs false
open Go.RowKit
attribute [local go_sem] Oper.semAt_some
def jn (ps : List (List UInt8)) : List UInt8 := Lib.join ps [46]
theorem jn_one (p : List UInt8) : jn [p] = p := Lib.join_one p [46]
theorem jn_cons (p : List UInt8) (ps : List (List UInt8)) (h : ps ≠ []) : jn (p :: ps) = p ++ 46 :: jn ps := by
  cases ps with
  | nil => exact absurd rfl h
  | cons q r => unfold jn Lib.join; rw [List.intercalate_cons_cons]; simp
theorem jn_app : ∀ (a b : List (List UInt8)), a ≠ [] → b ≠ [] → jn (a ++ b) = jn a ++ 46 :: jn b
  | [], _, h, _ => absurd rfl h
  | [p], b, _, hb => by rw [List.singleton_append, jn_cons p b hb, jn_one]
  | p :: q :: r, b, _, hb => by
    rw [List.cons_append, jn_cons p ((q :: r) ++ b) (by simp), jn_app (q :: r) b (by simp) hb, jn_cons p (q :: r) (by simp)]
    simp
theorem jn_split : ∀ (l : List UInt8), jn (splitD l) = l
  | [] => by rw [splitD]; exact jn_one []
  | c :: r => by
    have ih := jn_split r
    rw [splitD]
    by_cases h : c = 46
    · rw [if_pos h, jn_cons [] _ (splitD_ne r), ih, h]; rfl
    · rw [if_neg h]
      cases hs : splitD r with
      | nil => exact absurd hs (splitD_ne r)
      | cons a t =>
        rw [hs] at ih
        cases t with
        | nil => rw [jn_one] at ih ⊢; simp [ih]
        | cons b t => rw [jn_cons _ _ (by simp)] at ih ⊢; simp [ih]
theorem jn_parts (l : List UInt8) : jn (partsL l) = l := by
  unfold partsL
  split
  · rename_i h; subst h; rfl
  · exact jn_split l
/-- the places that k parts and a period behind each take -/
def endN (ps : List (List UInt8)) (k : Nat) : Nat := ((ps.take k).map fun p => p.length + 1).sum
theorem endN_succ (ps : List (List UInt8)) (k : Nat) (h : k < ps.length) : endN ps (k + 1) = endN ps k + ((ps[k]?.getD []).length + 1) := by
  unfold endN
  rw [List.take_add_one, List.getElem?_eq_getElem h, List.map_append, List.sum_append]
  simp only [Option.toList_some, List.map_cons, List.map_nil, List.sum_cons, List.sum_nil, Option.getD_some]
  omega
theorem jn_len : ∀ (a : List (List UInt8)), a ≠ [] → (jn a).length + 1 = (a.map fun p => p.length + 1).sum
  | [], h => absurd rfl h
  | [p], _ => by rw [jn_one]; simp
  | p :: q :: r, _ => by
    have ih := jn_len (q :: r) (by simp)
    rw [jn_cons p (q :: r) (by simp), List.map_cons, List.sum_cons, ← ih]
    simp; omega
theorem endN_len (ps : List (List UInt8)) (k : Nat) (h1 : 1 ≤ k) (h2 : ps ≠ []) : (jn (ps.take k)).length + 1 = endN ps k := jn_len _ (by cases ps <;> cases k <;> simp_all)
theorem endN_take (ps : List (List UInt8)) (k : Nat) (h1 : 1 ≤ k) (h2 : k < ps.length) : (jn ps).take (jn (ps.take k)).length = jn (ps.take k) := by
  have ha : ps.take k ≠ [] := by cases ps <;> cases k <;> simp_all
  have hb : ps.drop k ≠ [] := by simp; omega
  have := jn_app (ps.take k) (ps.drop k) ha hb
  rw [List.take_append_drop] at this
  rw [this, List.take_left]
theorem jn_take_len (ps : List (List UInt8)) (k : Nat) (h1 : 1 ≤ k) (h2 : k < ps.length) : (jn (ps.take k)).length ≤ (jn ps).length := by
  rw [← endN_take ps k h1 h2, List.length_take]; omega
theorem endN_le (ps : List (List UInt8)) (k : Nat) (h : k ≤ ps.length) : endN ps k ≤ (jn ps).length + 1 := by
  rcases Nat.eq_zero_or_pos k with rfl | hk
  · simp [endN]
  · have h2 : ps ≠ [] := by intro e; subst e; simp at h; omega
    rw [← endN_len ps k hk h2]
    rcases Nat.lt_or_ge k ps.length with hlt | hge
    · have := jn_take_len ps k hk hlt; omega
    · rw [List.take_of_length_le hge]; exact Nat.le_refl _
/-- the first n labels of a path -/
def topL (l : List UInt8) (n : Int) : List UInt8 := jn ((labsL l).take n.toNat)
set_option maxRecDepth 100000 in
set_option maxHeartbeats 2000000 in
theorem top_t (l : List UInt8) (hl : l.length ≤ 140737488355328) (n : Int) (w : World) : Calls Try.prog 74 #[.string ⟨l.toArray⟩, .int .i64 n] w fun e w' => e = .returned (.string ⟨(topL l n).toArray⟩) ∧ Below w.heap.size w w' := by
  refine (callsIn_wide (n := 3)).1 ?_
  refine callsIn_of_wp_marks Try.func74 rfl trivial ?_ rfl
  simp only [Try.ntmps74, List.size_toArray, List.length_cons, List.length_nil, Nat.reduceAdd, Nat.reduceSub, Array.replicate_succ, Array.replicate_zero, List.push_toArray, List.append_toArray, List.nil_append, List.cons_append]
  by_cases hn : n < 1
  · have HT : topL l n = [] := by unfold topL; rw [show n.toNat = 0 by omega]; rfl
    rw [HT]
    clear HT
    gi_wp2
    refine ⟨trivial, ?_⟩
    gi_wp2
    exact ⟨.string ⟨#[]⟩, by simp only [results, Try.results74]; simp [go_sem], rfl, (by repeat (first | exact Below.refl _ _ | assumption | (with_reducible refine Below.setCell ?_ ?h _; case h => first | omega | (simp; done) | (simp; omega)) | (with_reducible refine Below.alloc ?_ ?h _; case h => first | omega | (simp; done) | (simp; omega)) | (with_reducible refine Below.drew ?_) | (with_reducible refine Below.trans ?_ (hb4.mono ?h); case h => first | omega | (simp; done) | (simp; omega)) | (with_reducible refine Below.trans ?_ (hb3.mono ?h); case h => first | omega | (simp; done) | (simp; omega)) | (with_reducible refine Below.trans ?_ (hb2.mono ?h); case h => first | omega | (simp; done) | (simp; omega)) | (with_reducible refine Below.trans ?_ (hb.mono ?h); case h => first | omega | (simp; done) | (simp; omega)) | (with_reducible refine Below.trans ?_ (hb0.mono ?h); case h => first | omega | (simp; done) | (simp; omega))))⟩
  · have hn1 : ¬ n < 1 := hn
    have P0 : Row (((w.alloc (.cells #[.string ⟨l.toArray⟩] 9)).alloc (.cells #[.int .i64 n] 3)).alloc (.cells #[.string ⟨#[]⟩] 9)) w.heap.size #[.string ⟨l.toArray⟩] 9 := ((Row.new w _ _).alloc _).alloc _
    have P1 : Row (((w.alloc (.cells #[.string ⟨l.toArray⟩] 9)).alloc (.cells #[.int .i64 n] 3)).alloc (.cells #[.string ⟨#[]⟩] 9)) (w.heap.size + 1) #[.int .i64 n] 3 := by
      have h := (Row.new (w.alloc (.cells #[.string ⟨l.toArray⟩] 9)) #[.int .i64 n] 3).alloc (.cells #[.string ⟨#[]⟩] 9)
      rwa [World.size_alloc] at h
    have P2 : Row (((w.alloc (.cells #[.string ⟨l.toArray⟩] 9)).alloc (.cells #[.int .i64 n] 3)).alloc (.cells #[.string ⟨#[]⟩] 9)) (w.heap.size + 1 + 1) #[.string ⟨#[]⟩] 9 := by
      have h := Row.new ((w.alloc (.cells #[.string ⟨l.toArray⟩] 9)).alloc (.cells #[.int .i64 n] 3)) #[.string ⟨#[]⟩] 9
      rwa [World.size_alloc, World.size_alloc] at h
    have hb0 : Below w.heap.size w (((w.alloc (.cells #[.string ⟨l.toArray⟩] 9)).alloc (.cells #[.int .i64 n] 3)).alloc (.cells #[.string ⟨#[]⟩] 9)) := (by repeat (first | exact Below.refl _ _ | assumption | (with_reducible refine Below.setCell ?_ ?h _; case h => first | omega | (simp; done) | (simp; omega)) | (with_reducible refine Below.alloc ?_ ?h _; case h => first | omega | (simp; done) | (simp; omega)) | (with_reducible refine Below.drew ?_) | (with_reducible refine Below.trans ?_ (hb4.mono ?h); case h => first | omega | (simp; done) | (simp; omega)) | (with_reducible refine Below.trans ?_ (hb3.mono ?h); case h => first | omega | (simp; done) | (simp; omega)) | (with_reducible refine Below.trans ?_ (hb2.mono ?h); case h => first | omega | (simp; done) | (simp; omega)) | (with_reducible refine Below.trans ?_ (hb.mono ?h); case h => first | omega | (simp; done) | (simp; omega)) | (with_reducible refine Below.trans ?_ (hb0.mono ?h); case h => first | omega | (simp; done) | (simp; omega))))
    gi_wp2
    generalize ((w.alloc (.cells #[.string ⟨l.toArray⟩] 9)).alloc (.cells #[.int .i64 n] 3)).alloc (.cells #[.string ⟨#[]⟩] 9) = w0 at *
    refine ⟨trivial, (callsIn_wide.2 (right_t l hl w0)).mono ?_⟩
    rintro e w1 ⟨rfl, hb1⟩
    replace P0 := P0.later hb1
    replace P1 := P1.later hb1
    replace P2 := P2.later hb1
    have hbw := below_step hb0 hb1
    clear hb0 hb1
    have c0 := (P0.cell 0).trans (show _ = some (Value.string ⟨l.toArray⟩) from rfl)
    have c1 := (P1.cell 0).trans (show _ = some (Value.int .i64 n) from rfl)
    have c2 := (P2.cell 0).trans (show _ = some (Value.string ⟨#[]⟩) from rfl)
    have f2 := P2.frozen 0
    cases hr : rightB l with
    | false =>
      have HT : topL l n = [] := by unfold topL labsL; rw [hr]; simp; rfl
      have HTT := Lib.hid HT
      have HP2 := Lib.hid P2
      clear HT hr P0 P1 P2
      gi_wp2
      refine ⟨.string ⟨#[]⟩, ?_, by rw [HTT.out], hbw.setCell (by dsimp only; omega) _⟩
      have hc5 := ((HP2.out.set 0 (.string ⟨#[]⟩)).cell 0).trans (show _ = some (Value.string ⟨#[]⟩) from rfl)
      simp only [results, Try.results74]
      simp [go_sem, hc5]
    | true =>
      have HL : labsL l = partsL l := by unfold labsL; rw [hr]; simp
      have HTT := Lib.hid (show topL l n = jn ((partsL l).take n.toNat) by unfold topL; rw [HL])
      have hjp := jn_parts l
      have Q0 := (P0.alloc (.cells #[.int .i64 0] 3)).alloc (.cells #[.string ⟨l.toArray⟩] 9)
      have Q1 := (P1.alloc (.cells #[.int .i64 0] 3)).alloc (.cells #[.string ⟨l.toArray⟩] 9)
      have Q2 := (P2.alloc (.cells #[.int .i64 0] 3)).alloc (.cells #[.string ⟨l.toArray⟩] 9)
      have Q3 := (Row.new w1 #[.int .i64 0] 3).alloc (.cells #[.string ⟨l.toArray⟩] 9)
      have Q4 := Row.new (w1.alloc (.cells #[.int .i64 0] 3)) #[.string ⟨l.toArray⟩] 9
      rw [World.size_alloc] at Q4
      have hb4 : Below w.heap.size w ((w1.alloc (.cells #[.int .i64 0] 3)).alloc (.cells #[.string ⟨l.toArray⟩] 9)) := (hbw.alloc hbw.size _).alloc (by have := hbw.size; simp; omega) _
      have d0 := ((P0.alloc (.cells #[.int .i64 0] 3)).cell 0).trans (show _ = some (Value.string ⟨l.toArray⟩) from rfl)
      have l2 := P2.lt
      have HH := Lib.hid (And.intro Q0 (And.intro Q1 (And.intro Q2 (And.intro Q3 (And.intro Q4 hb4)))))
      have hle := Lib.hid (endN_le (partsL l))
      have hes := Lib.hid (endN_succ (partsL l))
      have hel := Lib.hid (endN_len (partsL l))
      have het := Lib.hid (endN_take (partsL l))
      have hbl := Lib.hid (jn_take_len (partsL l))
      have hpf : ∀ k, partF l k = #[.int .i64 k, .string ⟨((partsL l)[k]?.getD []).toArray⟩] := fun _ => rfl
      have hpl := Lib.hid (part_len l)
      have hit := Lib.hid (parts1_in l hl)
      clear HL hr P0 P1 P2 c0 c1 c2 f2 Q0 Q1 Q2 Q3 Q4 hb4
      gi_wp2
      refine ⟨trivial, (callsIn_wide.2 (parts_t _ _)).mono ?_⟩
      rintro e w3 ⟨rfl, rfl⟩
      clear d0
      gi_wp2
      obtain ⟨Q0, Q1, Q2, Q3, Q4, hb4⟩ := HH.out
      generalize (w1.alloc (.cells #[.int .i64 0] 3)).alloc (.cells #[.string ⟨l.toArray⟩] 9) = w4 at *
      generalize partsL l = ps at *
      have hs0 : w.heap.size ≤ w4.heap.size := hb4.size
      have hg2 : w.heap.size + 1 + 1 < w1.heap.size := l2
      clear HH l2 hbw
      generalize w1.heap.size = g at *
      refine wpIn_rangeN rfl (by omega) (gf := 83) (lb := #[.pointer (some ⟨g + 1, 0, none⟩)]) rfl trivial (enters_of Try.func83 (by kernel_rfl) rfl)
        (hit.out _ (g + 1) w4 ((Q4.cell 0).trans rfl) Q4.lt) (fun _ _ => trivial) (fun _ _ _ _ _ _ _ _ => trivial) (Below.refl _ _) (fun _ => rfl)
        (fun k W => ((k : Int) ≤ n ∧ Row W w.heap.size #[.string ⟨l.toArray⟩] 9 ∧ Row W (w.heap.size + 1) #[.int .i64 n] 3 ∧ Row W (w.heap.size + 1 + 1) #[.string ⟨#[]⟩] 9 ∧ Row W g #[.int .i64 (endN ps k : Nat)] 3) ∧ Below w.heap.size w W)
        (fun c _ W => (c = .ret ∧ Row W (w.heap.size + 1 + 1) #[.string ⟨(topL l n).toArray⟩] 9) ∧ Below w.heap.size w W)
        (OwnFrom.and (Own.from (fun s A B row hs hg hr => ⟨hs.1, row_kept hs.2.1 hg hr, row_kept hs.2.2.1 hg hr, row_kept hs.2.2.2.1 hg hr, row_kept hs.2.2.2.2 hg hr⟩) _) (ownFrom_below (Nat.le_refl _) hs0))
        (fun c => OwnFrom.and (Own.from (fun s A B row hs hg hr => ⟨hs.1, row_kept hs.2 hg hr⟩) _) (ownFrom_below (Nat.le_refl _) hs0))
        ⟨⟨by omega, Q0, Q1, Q2, Q3⟩, hb4⟩
        (fun k => { tmps := #[.string ⟨l.toArray⟩, .int .i64 n, .pointer (some ⟨w.heap.size, 0, none⟩), .pointer (some ⟨w.heap.size + 1, 0, none⟩), .pointer (some ⟨w.heap.size + 1 + 1, 0, none⟩), .pointer (some ⟨g, 0, none⟩), .int .i64 k, .string ⟨(ps[k]?.getD []).toArray⟩, .int .i64 n, .bool false, .bool false, .string ⟨l.toArray⟩, .bool true, .bool false, .bool false, .string ⟨l.toArray⟩, .func (.func 83) #[] #[.pointer (some ⟨g + 1, 0, none⟩)], .int .i64 k, .string ⟨(ps[k]?.getD []).toArray⟩, undef, undef, undef, undef, undef, undef, undef, undef, undef, undef, undef, undef, undef], defers := [] }) ?assign ?body ?done ?stop
      case assign =>
        intro i k W K hK
        rw [hpf]
        gi_wp2
        exact hK
      case body =>
        rintro i k W hkN ⟨⟨hkn, R0, R1, R2, R3⟩, hB⟩
        have c0 := (R0.cell 0).trans (show _ = some (Value.string ⟨l.toArray⟩) from rfl)
        have c1 := (R1.cell 0).trans (show _ = some (Value.int .i64 n) from rfl)
        have c2 := (R2.cell 0).trans (show _ = some (Value.string ⟨#[]⟩) from rfl)
        have c3 := (R3.cell 0).trans (show _ = some (Value.int .i64 (endN ps k : Nat)) from rfl)
        have f2 := R2.frozen 0
        have f3 := R3.frozen 0
        have HR := Lib.hid (And.intro R0 (And.intro R1 (And.intro R2 (And.intro R3 hB))))
        clear R0 R1 R2 R3 hB Q0 Q1 Q2 Q3 Q4 hb4 hit hpf
        by_cases hk : (k : Int) = n
        · subst hk
          have hk1 : 1 ≤ k := by omega
          have hps : ps ≠ [] := by intro e; subst e; simp at hkN
          have e1 := hel.out k hk1 hps
          have e2 := het.out k hk1 hkN
          have e3 := hbl.out k hk1 hkN
          have hT := HTT.out
          rw [Int.toNat_natCast] at hT
          rw [hjp] at e2 e3
          rw [← e1] at c3
          have HF := Lib.hid hT
          clear e1 hT HTT hle hes hel het hbl hpl
          generalize jn (ps.take k) = q at *
          have hx : (⟨l.toArray⟩ : ByteArray).extract 0 q.length = ⟨q.toArray⟩ := by rw [ext_l, e2, List.drop_zero]
          have hsz := bs_size l
          generalize q.length = m at *
          clear e2
          gi_wp2
          refine ⟨(KeepsOthers.setCell _ _ _).from _, ⟨rfl, ?_⟩, HR.out.2.2.2.2.setCell (by dsimp only; omega) _⟩
          rw [HF.out]
          exact HR.out.2.2.1.set 0 (.string ⟨q.toArray⟩)
        · have hk' : ((k : Int) == n) = false := by simp; exact hk
          have e1 := hes.out k hkN
          have e2 := hle.out (k + 1) hkN
          have e3 := hpl.out k
          rw [hjp] at e2
          generalize ps[k]?.getD [] = q at *
          have hE := Lib.hid e1
          have hsz := bs_size q
          have hb1 : endN ps k ≤ 140737488355329 := by omega
          clear hes hle hel het hbl hpl HTT e1
          generalize hEE : endN ps k = E at *
          have HEE := Lib.hid hEE
          clear hEE
          gi_wp2
          refine ⟨(KeepsOthers.setCell _ _ _).from _, trivial, ⟨by omega, HR.out.1.set_far _ _ (by dsimp only; omega), HR.out.2.1.set_far _ _ (by dsimp only; omega), HR.out.2.2.1.set_far _ _ (by dsimp only; omega), ?_⟩, HR.out.2.2.2.2.setCell (by dsimp only; omega) _⟩
          rw [hE.out]
          have := HR.out.2.2.2.1.set 0 (.int .i64 ((E : Int) + ((q.length : Int) + 1)))
          simpa using this
      case done =>
        rintro D W hD ⟨⟨hkn, R0, R1, R2, R3⟩, hB⟩ hK
        have c0 := (R0.cell 0).trans (show _ = some (Value.string ⟨l.toArray⟩) from rfl)
        have c2 := (R2.cell 0).trans (show _ = some (Value.string ⟨#[]⟩) from rfl)
        have f2 := R2.frozen 0
        have hT := HTT.out
        rw [List.take_of_length_le (by omega), hjp] at hT
        have HF := Lib.hid hT
        have HR := Lib.hid R2
        clear hT HTT hle hes hel het hbl hpl Q0 Q1 Q2 Q3 Q4 hb4 hit hpf R0 R1 R2 R3
        gi_wp2
        have hK' := (KeepsOthers.setCell W ⟨w.heap.size + 1 + 1, 0, none⟩ (.string ⟨l.toArray⟩)).same D _ hK rfl
        refine ⟨by simp, .inl ⟨_, _, rfl, run_takeDeferred hK', ?_⟩⟩
        have hc5 := ((row_put (HR.out.set 0 (.string ⟨l.toArray⟩)) (.deferred none) hK' rfl).cell 0).trans (show _ = some (Value.string ⟨l.toArray⟩) from rfl)
        refine ⟨.string ⟨l.toArray⟩, ?_, by rw [HF.out], (hB.setCell (p := ⟨w.heap.size + 1 + 1, 0, none⟩) (by dsimp only; omega) _).trans (belowK_b (w := w) (Nat.le_refl _) _ D _ _ (by omega) hK' rfl rfl)⟩
        simp only [results, Try.results74]
        simp [go_sem, hc5]
      case stop =>
        rintro D c k W hD _ ⟨⟨rfl, R2⟩, hB⟩ hK
        gi_wp2
        refine ⟨by simp, .inl ⟨_, _, rfl, run_takeDeferred hK, ?_⟩⟩
        have hc5 := ((row_put R2 (.deferred none) hK rfl).cell 0).trans (show _ = some (Value.string ⟨(topL l n).toArray⟩) from rfl)
        refine ⟨.string ⟨(topL l n).toArray⟩, ?_, rfl, hB.trans (belowK_b (w := w) (Nat.le_refl _) W D _ _ (by omega) hK rfl rfl)⟩
        simp only [results, Try.results74]
        simp [go_sem, hc5]
end Go.Proofs.Ytekoicbjpoeijaa
