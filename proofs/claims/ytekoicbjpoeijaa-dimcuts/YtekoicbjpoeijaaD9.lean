/- Own rows of integers; Lens of the reference of layer 8. No conditions beyond ranges. -/
import Derived.Test.YtekoicbjpoeijaaD8
import Derived.Test.YtekoicbjpoeijaaLabR1
import Derived.Test.YtekoicbjpoeijaaKR1
namespace Go.Proofs.Ytekoicbjpoeijaa
set_option linter.unusedVariables false
set_option linter.unusedSimpArgs false
open Go.RowKit
def valsI (ls : List Int) : List Value := ls.map fun x => Value.int .i64 x
theorem valsI_length (ls : List Int) : (valsI ls).length = ls.length := by simp [valsI]
theorem valsI_one (ls : List Int) : ∀ x ∈ valsI ls, x.oneCell' = true := by
  intro x hx
  unfold valsI at hx
  obtain ⟨a, _, rfl⟩ := List.mem_map.1 hx
  rfl
/-- the value v, a slice, reads as the integers ls -/
def IS (w : World) (v : Value) (ls : List Int) : Prop := ∃ p c, v = .slice p ls.length c ∧ ls.length ≤ c ∧ (0 < ls.length → ∃ g o, p = some ⟨g, o, none⟩ ∧ g < w.heap.size ∧ ∀ (j : Nat) x, ls[j]? = some x → w.cell? ⟨g, o + j, none⟩ = some (.int .i64 x))
theorem IS.later {w w' : World} {v : Value} {ls : List Int} (h : IS w v ls) (hb : Below w.heap.size w w') : IS w' v ls := by
  obtain ⟨p, c, rfl, h1, h2⟩ := h
  refine ⟨p, c, rfl, h1, fun h0 => ?_⟩
  obtain ⟨g, o, rfl, h3, h4⟩ := h2 h0
  exact ⟨g, o, rfl, Nat.lt_of_lt_of_le h3 hb.size, fun j x hx => cell_later hb (h4 j x hx)⟩
theorem IS.nil (w : World) : IS w (.slice none 0 0) [] := ⟨none, 0, rfl, Nat.le_refl _, fun h => by cases h⟩
def OwnI (base : Nat) (w : World) (v : Value) (ls : List Int) : Prop := w.ownsRow base 3 1 v ls.length (valsI ls)
theorem OwnI.later {base : Nat} {w w' : World} {v : Value} {l : List Int} (h : OwnI base w v l) (hb : Below w.heap.size w w') : OwnI base w' v l := by
  obtain ⟨hl, h⟩ := h
  refine ⟨hl, ?_⟩
  rcases h with h | ⟨g, cap, cur, hv, hbs, hg, h1⟩
  · exact .inl h
  · exact .inr ⟨g, cap, cur, hv, hbs, (Row.later (t := 3) hg hb), h1⟩
theorem OwnI.block {base : Nat} {w : World} {v : Value} {l : List Int} (h : OwnI base w v l) (g : Nat) (hg : v.ownBlock = some g) : base ≤ g ∧ g < w.heap.size := by
  rcases h.2 with ⟨rfl, _⟩ | ⟨g', cap, cur, rfl, hbs, hr, _⟩
  · cases hg
  · have : g' = g := by simpa [Value.ownBlock] using hg
    subst this
    exact ⟨hbs, Row.lt (t := 3) hr⟩
theorem OwnI.made {base : Nat} {w : World} {g : Nat} {x : Int} (R : Row w g #[.int .i64 x] 3) (hg : base ≤ g) : OwnI base w (.slice (some ⟨g, 0, none⟩) 1 1) [x] :=
  ⟨rfl, .inr ⟨g, 1, #[.int .i64 x], rfl, hg, R, Nat.le_refl _, by unfold maxLen; decide, rfl, rfl⟩⟩
theorem OwnI.read {base : Nat} {w : World} {v : Value} {l : List Int} (h : OwnI base w v l) : IS w v l := by
  obtain ⟨hl, h⟩ := h
  rcases h with ⟨rfl, h0⟩ | ⟨g, cap, cur, rfl, hb, hg, h1, h2, h3, h4⟩
  · exact ⟨none, 0, by rw [h0], by omega, fun h => by omega⟩
  · refine ⟨_, cap, rfl, by omega, fun _ => ⟨g, 0, rfl, Row.lt (t := 3) hg, fun j x hx => ?_⟩⟩
    rw [Nat.zero_add, cell_of_row w g j cur _ _ hg, ← Array.getElem?_toList]
    have hj : j < l.length := by rw [List.getElem?_eq_some_iff] at hx; exact hx.1
    have : (valsI l)[j]? = some (.int .i64 x) := by unfold valsI; rw [List.getElem?_map, hx]; rfl
    rw [← h4, List.getElem?_take, if_pos (by omega)] at this
    exact this
theorem infoI : ∃ i, Try.prog.info? 3 = some i ∧ i.zero = some (.int .i64 0) ∧ i.size = 1 ∧ i.bytes = 8 := by
  have h1 : (Try.prog.info? 3).bind (·.zero) = some (.int .i64 0) := by kernel_rfl
  have h2 : (Try.prog.info? 3).map (·.size) = some 1 := by kernel_rfl
  have h3 : (Try.prog.info? 3).map (·.bytes) = some 8 := by kernel_rfl
  cases hq : Try.prog.info? 3 with
  | none => rw [hq] at h2; cases h2
  | some i =>
    rw [hq] at h1 h2 h3
    exact ⟨i, rfl, by simpa using h1, by simpa using h2, by simpa using h3⟩
/-- one integer appended that lies in a new block -/
theorem appI_one {base : Nat} {w0 w : World} {v : Value} {l : List Int} (x : Int) (ho : OwnI base w v l) (hB : Below base w0 w) (hl : l.length ≤ 2147483600) (hbase : base ≤ w.heap.size) :
    ∃ v' w', (Builtin.append_ #[80, 80] 80 #[v, .slice (some ⟨w.heap.size, 0, none⟩) 1 1]).run Try.prog (w.alloc (.cells #[.int .i64 x] 3)) = .ok v' w' ∧ OwnI base w' v' (l ++ [x]) ∧ Below base w0 w' := by
  have R1 := Row.new w #[.int .i64 x] 3
  have hbn : Below w.heap.size w (w.alloc (.cells #[.int .i64 x] 3)) := (Below.refl _ _).alloc (Nat.le_refl _) _
  have ho2 := ho.later hbn
  obtain ⟨i, i1, i2, i3, i4⟩ := infoI
  have hs : ∀ j u, (valsI [x])[j]? = some u → (w.alloc (.cells #[.int .i64 x] 3)).cell? ((⟨w.heap.size, 0, none⟩ : Addr).add j) = some u := by
    intro j u hu
    rw [Addr.add_mid, Nat.zero_add, R1.cell j]
    rcases j with _ | j
    · exact hu
    · simp [valsI] at hu
  obtain ⟨v', w2, hr, k1, k2, _, k4⟩ := run_append_own_at (P := Try.prog) (w.alloc (.cells #[.int .i64 x] 3)) base 80 80 3 i (.int .i64 0) 1 8 Try.underlying80 i1 i2 i3 i4 rfl (by decide) v l.length (valsI l) ho2 ⟨w.heap.size, 0, none⟩ 1 1 (valsI [x]) (by rw [valsI_length, Nat.mul_one]; rfl) hs (valsI_one [x]) (by unfold maxLen; omega) (by omega) (Nat.le_trans hbase hbn.size)
  refine ⟨v', w2, hr, ?_, (hB.trans (hbn.mono hbase)).grown k2 (Nat.le_trans hbase hbn.size) (fun k hk => (ho2.block _ hk).1)⟩
  have hbm : valsI (l ++ [x]) = valsI l ++ valsI [x] := by unfold valsI; rw [List.map_append]
  unfold OwnI
  rw [List.length_append, hbm]
  exact k1
def lensT (d : Dm) (k : Nat) : List Int := (List.range k).map fun i : Nat => lenD d i
def lensL (d : Dm) : List Int := lensT d (cntD d)
theorem lensT_len (d : Dm) (k : Nat) : (lensT d k).length = k := by unfold lensT; simp
theorem lensT_succ (d : Dm) (k : Nat) : lensT d (k + 1) = lensT d k ++ [lenD d k] := by unfold lensT; rw [List.range_succ, List.map_append]; rfl
theorem lensT_get {d : Dm} {j k : Nat} (h : j < k) : (lensT d k)[j]? = some (lenD d j) := by unfold lensT; rw [List.getElem?_map, List.getElem?_range h]; rfl
theorem lenD_next {d : Dm} (h : rightD d = true) {l : Int} (h0 : 0 ≤ l) (h1 : l < depthD d) : lenD d (l + 1) = max (lenD d l - d.step) 0 := by
  rw [lenD_yes h h0 (by omega), lenD_yes h (by omega) (by omega)]
  have h4 := (lenD_step h h0 h1).2.2
  rw [lenD_yes h h0 (by omega)] at h4
  have e2 : (l + 1) * d.step = l * d.step + d.step := by rw [Int.add_mul, Int.one_mul]
  omega
def LensPost (d : Dm) (w : World) (e : Ending) (w' : World) : Prop := ∃ v, e = .returned v ∧ IS w' v (lensL d) ∧ Below w.heap.size w w'
theorem lensPost_bad {d : Dm} (hr : rightD d = false) {w w' : World} (hb : Below w.heap.size w w') : LensPost d w (.returned (.slice none 0 0)) w' :=
  ⟨_, rfl, by unfold lensL; rw [cntD_bad hr]; exact IS.nil _, hb⟩
theorem lensPost_ok {d : Dm} {w w' : World} {v : Value} (hs : IS w' v (lensL d)) (hb : Below w.heap.size w w') : LensPost d w (.returned v) w' := ⟨v, rfl, hs, hb⟩
set_option maxRecDepth 100000 in
set_option maxHeartbeats 4000000 in
theorem rlens_bad (d : Dm) (hr : rightD d = false) (w : World) : Calls Try.prog 67 #[dv d] w (LensPost d w) := by
  have HW := rwidth_t d.kind
  have HX := Lib.hid (fun (w' : World) (hb : Below w.heap.size w w') => lensPost_bad hr hb)
  have hc : wid d.kind = 0 ∨ ¬ (d.side = 1 ∨ d.side = 2) ∨ d.step < 1 ∨ wid d.kind < d.step := by
    have h := rightD_iff d
    rw [hr] at h
    have h2 : ¬ ((d.side = 1 ∨ d.side = 2) ∧ 1 ≤ d.step ∧ d.step ≤ wid d.kind) := fun e => by have := h.2 e; cases this
    omega
  clear hr
  generalize LensPost d w = PP at *
  obtain ⟨kd, sd, st⟩ := d
  dsimp only at *
  generalize wid kd = wd at *
  unfold dv
  dsimp only
  obtain ⟨RR0, hb0⟩ := one_row w #[.int .i64 kd, .int .i64 sd, .int .i64 st] 53
  have c0 := (RR0.cell 0).trans (show _ = some (Value.int .i64 kd) from rfl)
  have c1 := (RR0.cell 1).trans (show _ = some (Value.int .i64 sd) from rfl)
  have c2 := (RR0.cell 2).trans (show _ = some (Value.int .i64 st) from rfl)
  clear RR0
  by_cases h0 : wd = 0
  · subst h0
    go_enter Try.func67, Try.ntmps67
    go_wp2_with fail
    refine (HW _).mono ?_
    rintro e w1 ⟨rfl, hb⟩
    replace c0 := cell_later hb c0
    replace c1 := cell_later hb c1
    replace c2 := cell_later hb c2
    replace hb0 := below_step hb0 hb
    clear hb
    have lc := World.block_lt_of_cell? _ _ c0
    dsimp only at lc
    replace HX := Lib.hid (HX.out _ hb0)
    go_wp2
    exact HX.out
  have h0' : (wd == 0) = false := by simpa using h0
  by_cases h1 : ¬ (sd = 1 ∨ sd = 2)
  · have h1' : (sd == 1) = false := by simp; omega
    have h2' : (sd == 2) = false := by simp; omega
    have n1 : ¬ sd = 1 := by omega
    have n2 : ¬ sd = 2 := by omega
    clear hc h1
    go_enter Try.func67, Try.ntmps67
    go_wp2_with fail
    refine (HW _).mono ?_
    rintro e w2 ⟨rfl, hb⟩
    replace c0 := cell_later hb c0
    replace c1 := cell_later hb c1
    replace c2 := cell_later hb c2
    replace hb0 := below_step hb0 hb
    clear hb
    have lc := World.block_lt_of_cell? _ _ c0
    dsimp only at lc
    replace HX := Lib.hid (HX.out _ hb0)
    go_wp2
    exact HX.out
  have h1' : sd = 1 ∨ sd = 2 := by omega
  clear h1
  by_cases h2 : st < 1
  · clear hc
    rcases h1' with rfl | rfl
    all_goals
      go_enter Try.func67, Try.ntmps67
      go_wp2_with fail
      refine (HW _).mono ?_
      rintro e w3 ⟨rfl, hb⟩
      replace c0 := cell_later hb c0
      replace c1 := cell_later hb c1
      replace c2 := cell_later hb c2
      replace hb0 := below_step hb0 hb
      clear hb
      have lc := World.block_lt_of_cell? _ _ c0
      dsimp only at lc
      replace HX := Lib.hid (HX.out _ hb0)
      go_wp2
      exact HX.out
  have h3 : wd < st := by omega
  clear hc
  rcases h1' with rfl | rfl
  all_goals
    go_enter Try.func67, Try.ntmps67
    go_wp2_with fail
    refine (HW _).mono ?_
    rintro e w4 ⟨rfl, hb⟩
    replace c0 := cell_later hb c0
    replace c1 := cell_later hb c1
    replace c2 := cell_later hb c2
    replace hb0 := below_step hb0 hb
    clear hb
    have lc := World.block_lt_of_cell? _ _ c0
    dsimp only at lc
    replace HX := Lib.hid (HX.out _ hb0)
    go_wp2
    exact HX.out
end Go.Proofs.Ytekoicbjpoeijaa
