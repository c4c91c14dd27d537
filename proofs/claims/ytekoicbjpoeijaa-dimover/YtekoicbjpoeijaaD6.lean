/- Level of package dim. No conditions beyond ranges. -/
import Derived.Test.YtekoicbjpoeijaaD5
import Derived.Test.YtekoicbjpoeijaaLab3
namespace Go.Proofs.Ytekoicbjpoeijaa
set_option linter.unusedVariables false
set_option linter.unusedSimpArgs false
open Go.RowKit
attribute [local go_sem] Oper.semAt_some
/-- the first level of a length -/
def levelD (d : Dm) (n : Int) : Int := match (List.range (cntD d)).find? (fun i : Nat => decide (lenD d i = n)) with
  | some i => (i : Int)
  | none => -1
theorem levelD_at {d : Dm} {n : Int} {k : Nat} (h : ∀ j : Nat, j < k → lenD d j ≠ n) (hk : k < cntD d) (hn : lenD d k = n) : levelD d n = k := by
  unfold levelD
  have : (List.range (cntD d)).find? (fun i : Nat => decide (lenD d i = n)) = some k := by
    rw [List.find?_eq_some_iff_getElem]
    refine ⟨by simpa using hn, k, by simpa using hk, by simp, fun j hj => ?_⟩
    simp only [List.getElem_range]
    simpa using h j hj
  rw [this]
theorem levelD_no {d : Dm} {n : Int} (h : ∀ j : Nat, j < cntD d → lenD d j ≠ n) : levelD d n = -1 := by
  unfold levelD
  have : (List.range (cntD d)).find? (fun i : Nat => decide (lenD d i = n)) = none := by
    rw [List.find?_eq_none]
    intro x hx
    simpa using h x (by simpa using hx)
  rw [this]
set_option maxRecDepth 100000 in
set_option maxHeartbeats 4000000 in
theorem dlevel_t (d : Dm) (n : Int) (w : World) : Calls Try.prog 45 #[dv d, .int .i64 n] w fun e w' => e = .returned (.int .i64 (levelD d n)) ∧ Below w.heap.size w w' := by
  refine (callsIn_wide (n := 3)).1 ?_
  refine callsIn_of_wp_marks Try.func45 rfl trivial ?_ rfl
  simp only [Try.ntmps45, List.size_toArray, List.length_cons, List.length_nil, Nat.reduceAdd, Nat.reduceSub, Array.replicate_succ, Array.replicate_zero, List.push_toArray, List.append_toArray, List.nil_append, List.cons_append]
  have HLV := levels_t d
  have hat := @levelD_at d n
  have hno := @levelD_no d n
  generalize levelD d n = LV at *
  unfold dv at *
  gi_wp2
  refine ⟨trivial, (callsIn_wide.2 (HLV _)).mono ?_⟩
  rintro e w1 ⟨rfl, rfl⟩
  gi_wp2
  obtain ⟨_, R1, R2, hB0⟩ := three_rows w #[.int .i64 d.kind, .int .i64 d.side, .int .i64 d.step] #[.int .i64 n] #[.int .i64 0] 53 3 3
  replace R1 := R1.alloc (.cells #[.int .i64 d.kind, .int .i64 d.side, .int .i64 d.step] 53)
  replace R2 := R2.alloc (.cells #[.int .i64 d.kind, .int .i64 d.side, .int .i64 d.step] 53)
  have R3 := Row.new (((w.alloc (.cells #[.int .i64 d.kind, .int .i64 d.side, .int .i64 d.step] 53)).alloc (.cells #[.int .i64 n] 3)).alloc (.cells #[.int .i64 0] 3)) #[.int .i64 d.kind, .int .i64 d.side, .int .i64 d.step] 53
  rw [World.size_alloc, World.size_alloc, World.size_alloc] at R3
  replace hB0 := hB0.alloc hB0.size (.cells #[.int .i64 d.kind, .int .i64 d.side, .int .i64 d.step] 53)
  have hs0 := hB0.size
  generalize (((w.alloc (.cells #[.int .i64 d.kind, .int .i64 d.side, .int .i64 d.step] 53)).alloc (.cells #[.int .i64 n] 3)).alloc (.cells #[.int .i64 0] 3)).alloc (.cells #[.int .i64 d.kind, .int .i64 d.side, .int .i64 d.step] 53) = w0 at *
  have hg3 := R3.lt
  refine wpIn_rangeN rfl (by omega) (gf := 82) (lb := #[.pointer (some ⟨w.heap.size + 1 + 1 + 1, 0, none⟩)]) rfl trivial (enters_of Try.func82 (by kernel_rfl) rfl)
    (levels1_in d _ (w.heap.size + 1 + 1 + 1) w0 R3) (fun h1 h2 => h2.trans h1) (fun W l o o' hl _ _ _ => World.putObj_heap_other (by omega)) (Below.refl _ _) (fun _ => rfl)
    (fun k W => ((∀ j : Nat, j < k → lenD d j ≠ n) ∧ Row W (w.heap.size + 1) #[.int .i64 n] 3 ∧ Row W (w.heap.size + 1 + 1) #[.int .i64 0] 3) ∧ Below w.heap.size w W)
    (fun c _ W => (c = .ret ∧ Row W (w.heap.size + 1 + 1) #[.int .i64 LV] 3) ∧ Below w.heap.size w W)
    (OwnFrom.and (Own.from (fun s A B row hs hg hr => ⟨hs.1, row_kept hs.2.1 hg hr, row_kept hs.2.2 hg hr⟩) _) (ownFrom_below (Nat.le_refl _) hs0))
    (fun c => OwnFrom.and (Own.from (fun s A B row hs hg hr => ⟨hs.1, row_kept hs.2 hg hr⟩) _) (ownFrom_below (Nat.le_refl _) hs0))
    ⟨⟨fun j hj => by omega, R1, R2⟩, hB0⟩
    (fun k => { tmps := #[.agg #[.int .i64 d.kind, .int .i64 d.side, .int .i64 d.step], .int .i64 n, .pointer (some ⟨w.heap.size, 0, none⟩), .pointer (some ⟨w.heap.size + 1, 0, none⟩), .pointer (some ⟨w.heap.size + 1 + 1, 0, none⟩), .int .i64 k, .int .i64 (lenD d k), .agg #[.int .i64 d.kind, .int .i64 d.side, .int .i64 d.step], .func (.func 82) #[] #[.pointer (some ⟨w.heap.size + 1 + 1 + 1, 0, none⟩)], .int .i64 k, .int .i64 (lenD d k), undef, undef, undef, undef], defers := [] }) ?assign ?body ?done ?stop
  case assign =>
    intro i k W K hK
    unfold levF
    gi_wp2
    exact hK
  case body =>
    rintro i k W hkN ⟨⟨hp, R1, R2⟩, hB⟩
    have c1 := (R1.cell 0).trans (show _ = some (Value.int .i64 n) from rfl)
    have c2 := (R2.cell 0).trans (show _ = some (Value.int .i64 0) from rfl)
    have f2 := R2.frozen 0
    have HR1 := Lib.hid R1
    have HR2 := Lib.hid R2
    have HB := Lib.hid hB
    have hs1 : w.heap.size ≤ w.heap.size + 1 + 1 := by omega
    have HP := Lib.hid (fun h : lenD d k ≠ n => (fun j hj => by
      by_cases e : j = k
      · subst e; exact h
      · exact hp j (by omega) : ∀ j : Nat, j < k + 1 → lenD d j ≠ n))
    have HA := Lib.hid (fun h : lenD d k = n => hat hp hkN h)
    clear hp R1 R2 hB hat hno R3 hB0
    generalize lenD d k = lk at *
    by_cases e : lk = n
    · have HE := Lib.hid (HA.out e)
      subst e
      clear HP HA
      gi_wp2
      have RN := HR2.out.set 0 (.int .i64 k)
      exact ⟨(KeepsOthers.setCell _ _ _).from _, ⟨rfl, by rw [HE.out]; exact RN⟩, HB.out.setCell hs1 _⟩
    · have e' : (lk == n) = false := by simpa using e
      have HE := Lib.hid (HP.out e)
      clear HP HA e
      gi_wp2
      exact ⟨KeepsFrom.refl _ _, rfl, ⟨HE.out, HR1.out, HR2.out⟩, HB.out⟩
  case done =>
    rintro D W hD ⟨⟨hp, _, R⟩, hB⟩ hK
    have HE := Lib.hid (hno hp)
    have c2 := (R.cell 0).trans (show _ = some (Value.int .i64 0) from rfl)
    have f2 := R.frozen 0
    have HRR := Lib.hid R
    clear hp R R1 R2 hB0 hat hno
    gi_wp2
    have hK' := (KeepsOthers.setCell W ⟨w.heap.size + 1 + 1, 0, none⟩ (.int .i64 (-1))).same D _ hK rfl
    refine ⟨by simp, .inl ⟨_, _, rfl, run_takeDeferred hK', ?_⟩⟩
    have hc5 := ((row_put (HRR.out.set 0 (.int .i64 (-1))) (.deferred none) hK' rfl).cell 0).trans (show _ = some (Value.int .i64 (-1)) from rfl)
    refine ⟨.int .i64 (-1), ?_, by rw [HE.out], (hB.setCell (p := ⟨w.heap.size + 1 + 1, 0, none⟩) (by simp; omega) _).trans (belowK_b (w := w) (Nat.le_refl _) _ D _ _ (by omega) hK' rfl rfl)⟩
    simp only [results, Try.results45]
    simp [go_sem, hc5]
  case stop =>
    rintro D c k W hD _ ⟨⟨rfl, R⟩, hB⟩ hK
    gi_wp2
    refine ⟨by simp, .inl ⟨_, _, rfl, run_takeDeferred hK, ?_⟩⟩
    have hc5 := ((row_put R (.deferred none) hK rfl).cell 0).trans (show _ = some (Value.int .i64 LV) from rfl)
    refine ⟨.int .i64 LV, ?_, rfl, hB.trans (belowK_b (w := w) (Nat.le_refl _) W D _ _ (by omega) hK rfl rfl)⟩
    simp only [results, Try.results45]
    simp [go_sem, hc5]
end Go.Proofs.Ytekoicbjpoeijaa
