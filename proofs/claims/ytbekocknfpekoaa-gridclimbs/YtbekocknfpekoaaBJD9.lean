/- D9, D10, D11, KR9, D12, R9a, R9b: what the theorem needs of these texts. No conditions beyond those that are written. -/
import Derived.Test.YtbekocknfpekoaaBJP6
namespace Go.Proofs.Ytbekocknfpekoaa
set_option linter.unusedVariables false
set_option linter.unusedSimpArgs false
open Go.RowKit
def valsI (ls : List Int) : List Value := ls.map fun x => Value.int .i64 x
theorem valsI_length (ls : List Int) : (valsI ls).length = ls.length := by simp [valsI]
theorem valsI_one (ls : List Int) : ∀ x ∈ valsI ls, x.oneCell' = true := by
  intro x hx
  unfold valsI at hx
  obtain ⟨a, _, rfl⟩ := List.mem_map.1 hx
  rfl
/-- the value v, a slice, reads as the integers ls -/
def IS (w : World) (v : Value) (ls : List Int) : Prop := ∃ p c, v = .slice p ls.length c ∧ ls.length ≤ c ∧ (0 < ls.length → ∃ g o, p = some ⟨g, o, none⟩ ∧ g < w.heap.size ∧ ∀ (j : Nat) x, ls[j]? = some x → w.cell? ⟨g, o + j, none⟩ = some (.int .i64 x))
theorem IS.later {w w' : World} {v : Value} {ls : List Int} (h : IS w v ls) (hb : Below w.heap.size w w') : IS w' v ls := by
  obtain ⟨p, c, rfl, h1, h2⟩ := h
  refine ⟨p, c, rfl, h1, fun h0 => ?_⟩
  obtain ⟨g, o, rfl, h3, h4⟩ := h2 h0
  exact ⟨g, o, rfl, Nat.lt_of_lt_of_le h3 hb.size, fun j x hx => cell_later hb (h4 j x hx)⟩
theorem IS.nil (w : World) : IS w (.slice none 0 0) [] := ⟨none, 0, rfl, Nat.le_refl _, fun h => by cases h⟩
def OwnI (base : Nat) (w : World) (v : Value) (ls : List Int) : Prop := w.ownsRow base 3 1 v ls.length (valsI ls)
theorem OwnI.later {base : Nat} {w w' : World} {v : Value} {l : List Int} (h : OwnI base w v l) (hb : Below w.heap.size w w') : OwnI base w' v l := by
  obtain ⟨hl, h⟩ := h
  refine ⟨hl, ?_⟩
  rcases h with h | ⟨g, cap, cur, hv, hbs, hg, h1⟩
  · exact .inl h
  · exact .inr ⟨g, cap, cur, hv, hbs, (Row.later (t := 3) hg hb), h1⟩
theorem OwnI.block {base : Nat} {w : World} {v : Value} {l : List Int} (h : OwnI base w v l) (g : Nat) (hg : v.ownBlock = some g) : base ≤ g ∧ g < w.heap.size := by
  rcases h.2 with ⟨rfl, _⟩ | ⟨g', cap, cur, rfl, hbs, hr, _⟩
  · cases hg
  · have : g' = g := by simpa [Value.ownBlock] using hg
    subst this
    exact ⟨hbs, Row.lt (t := 3) hr⟩
theorem OwnI.made {base : Nat} {w : World} {g : Nat} {x : Int} (R : Row w g #[.int .i64 x] 3) (hg : base ≤ g) : OwnI base w (.slice (some ⟨g, 0, none⟩) 1 1) [x] :=
  ⟨rfl, .inr ⟨g, 1, #[.int .i64 x], rfl, hg, R, Nat.le_refl _, by unfold maxLen; decide, rfl, rfl⟩⟩
theorem OwnI.read {base : Nat} {w : World} {v : Value} {l : List Int} (h : OwnI base w v l) : IS w v l := by
  obtain ⟨hl, h⟩ := h
  rcases h with ⟨rfl, h0⟩ | ⟨g, cap, cur, rfl, hb, hg, h1, h2, h3, h4⟩
  · exact ⟨none, 0, by rw [h0], by omega, fun h => by omega⟩
  · refine ⟨_, cap, rfl, by omega, fun _ => ⟨g, 0, rfl, Row.lt (t := 3) hg, fun j x hx => ?_⟩⟩
    rw [Nat.zero_add, cell_of_row w g j cur _ _ hg, ← Array.getElem?_toList]
    have hj : j < l.length := by rw [List.getElem?_eq_some_iff] at hx; exact hx.1
    have : (valsI l)[j]? = some (.int .i64 x) := by unfold valsI; rw [List.getElem?_map, hx]; rfl
    rw [← h4, List.getElem?_take, if_pos (by omega)] at this
    exact this
theorem infoI : ∃ i, Try.prog.info? 3 = some i ∧ i.zero = some (.int .i64 0) ∧ i.size = 1 ∧ i.bytes = 8 := by
  have h1 : (Try.prog.info? 3).bind (·.zero) = some (.int .i64 0) := by kernel_rfl
  have h2 : (Try.prog.info? 3).map (·.size) = some 1 := by kernel_rfl
  have h3 : (Try.prog.info? 3).map (·.bytes) = some 8 := by kernel_rfl
  cases hq : Try.prog.info? 3 with
  | none => rw [hq] at h2; cases h2
  | some i =>
    rw [hq] at h1 h2 h3
    exact ⟨i, rfl, by simpa using h1, by simpa using h2, by simpa using h3⟩
/-- one integer appended that lies in a new block -/
theorem appI_one {base : Nat} {w0 w : World} {v : Value} {l : List Int} (x : Int) (ho : OwnI base w v l) (hB : Below base w0 w) (hl : l.length ≤ 2147483600) (hbase : base ≤ w.heap.size) :
    ∃ v' w', (Builtin.append_ #[89, 89] 89 #[v, .slice (some ⟨w.heap.size, 0, none⟩) 1 1]).run Try.prog (w.alloc (.cells #[.int .i64 x] 3)) = .ok v' w' ∧ OwnI base w' v' (l ++ [x]) ∧ Below base w0 w' := by
  have R1 := Row.new w #[.int .i64 x] 3
  have hbn : Below w.heap.size w (w.alloc (.cells #[.int .i64 x] 3)) := (Below.refl _ _).alloc (Nat.le_refl _) _
  have ho2 := ho.later hbn
  obtain ⟨i, i1, i2, i3, i4⟩ := infoI
  have hs : ∀ j u, (valsI [x])[j]? = some u → (w.alloc (.cells #[.int .i64 x] 3)).cell? ((⟨w.heap.size, 0, none⟩ : Addr).add j) = some u := by
    intro j u hu
    rw [Addr.add_mid, Nat.zero_add, R1.cell j]
    rcases j with _ | j
    · exact hu
    · simp [valsI] at hu
  obtain ⟨v', w2, hr, k1, k2, _, k4⟩ := run_append_own_at (P := Try.prog) (w.alloc (.cells #[.int .i64 x] 3)) base 89 89 3 i (.int .i64 0) 1 8 Try.underlying89 i1 i2 i3 i4 rfl (by decide) v l.length (valsI l) ho2 ⟨w.heap.size, 0, none⟩ 1 1 (valsI [x]) (by rw [valsI_length, Nat.mul_one]; rfl) hs (valsI_one [x]) (by unfold maxLen; omega) (by omega) (Nat.le_trans hbase hbn.size)
  refine ⟨v', w2, hr, ?_, (hB.trans (hbn.mono hbase)).grown k2 (Nat.le_trans hbase hbn.size) (fun k hk => (ho2.block _ hk).1)⟩
  have hbm : valsI (l ++ [x]) = valsI l ++ valsI [x] := by unfold valsI; rw [List.map_append]
  unfold OwnI
  rw [List.length_append, hbm]
  exact k1
def lensT (d : Dm) (k : Nat) : List Int := (List.range k).map fun i : Nat => lenD d i
def lensL (d : Dm) : List Int := lensT d (cntD d)
theorem lensT_len (d : Dm) (k : Nat) : (lensT d k).length = k := by unfold lensT; simp
theorem lensT_succ (d : Dm) (k : Nat) : lensT d (k + 1) = lensT d k ++ [lenD d k] := by unfold lensT; rw [List.range_succ, List.map_append]; rfl
theorem lensT_get {d : Dm} {j k : Nat} (h : j < k) : (lensT d k)[j]? = some (lenD d j) := by unfold lensT; rw [List.getElem?_map, List.getElem?_range h]; rfl
theorem lenD_next {d : Dm} (h : rightD d = true) {l : Int} (h0 : 0 ≤ l) (h1 : l < depthD d) : lenD d (l + 1) = max (lenD d l - d.step) 0 := by
  rw [lenD_yes h h0 (by omega), lenD_yes h (by omega) (by omega)]
  have h4 := (lenD_step h h0 h1).2.2
  rw [lenD_yes h h0 (by omega)] at h4
  have e2 : (l + 1) * d.step = l * d.step + d.step := by rw [Int.add_mul, Int.one_mul]
  omega
def LensPost (d : Dm) (w : World) (e : Ending) (w' : World) : Prop := ∃ v, e = .returned v ∧ IS w' v (lensL d) ∧ Below w.heap.size w w'
theorem lensPost_bad {d : Dm} (hr : rightD d = false) {w w' : World} (hb : Below w.heap.size w w') : LensPost d w (.returned (.slice none 0 0)) w' :=
  ⟨_, rfl, by unfold lensL; rw [cntD_bad hr]; exact IS.nil _, hb⟩
theorem lensPost_ok {d : Dm} {w w' : World} {v : Value} (hs : IS w' v (lensL d)) (hb : Below w.heap.size w w') : LensPost d w (.returned v) w' := ⟨v, rfl, hs, hb⟩
set_option maxRecDepth 100000 in
set_option maxHeartbeats 4000000 in
theorem rlens_bad (d : Dm) (hr : rightD d = false) (w : World) : Calls Try.prog 77 #[dv d] w (LensPost d w) := by
  have HW := rwidth_t d.kind
  have HX := Lib.hid (fun (w' : World) (hb : Below w.heap.size w w') => lensPost_bad hr hb)
  have hc : wid d.kind = 0 ∨ ¬ (d.side = 1 ∨ d.side = 2) ∨ d.step < 1 ∨ wid d.kind < d.step := by
    have h := rightD_iff d
    rw [hr] at h
    have h2 : ¬ ((d.side = 1 ∨ d.side = 2) ∧ 1 ≤ d.step ∧ d.step ≤ wid d.kind) := fun e => by have := h.2 e; cases this
    omega
  clear hr
  generalize LensPost d w = PP at *
  obtain ⟨kd, sd, st⟩ := d
  dsimp only at *
  generalize wid kd = wd at *
  unfold dv
  dsimp only
  obtain ⟨RR0, hb0⟩ := one_row w #[.int .i64 kd, .int .i64 sd, .int .i64 st] 23
  have c0 := (RR0.cell 0).trans (show _ = some (Value.int .i64 kd) from rfl)
  have c1 := (RR0.cell 1).trans (show _ = some (Value.int .i64 sd) from rfl)
  have c2 := (RR0.cell 2).trans (show _ = some (Value.int .i64 st) from rfl)
  clear RR0
  by_cases h0 : wd = 0
  · subst h0
    go_enter Try.func77, Try.ntmps77
    go_wp2_with fail
    refine (HW _).mono ?_
    rintro e w1 ⟨rfl, hb⟩
    replace c0 := cell_later hb c0
    replace c1 := cell_later hb c1
    replace c2 := cell_later hb c2
    replace hb0 := below_step hb0 hb
    clear hb
    have lc := World.block_lt_of_cell? _ _ c0
    dsimp only at lc
    replace HX := Lib.hid (HX.out _ hb0)
    go_wp2
    exact HX.out
  have h0' : (wd == 0) = false := by simpa using h0
  by_cases h1 : ¬ (sd = 1 ∨ sd = 2)
  · have h1' : (sd == 1) = false := by simp; omega
    have h2' : (sd == 2) = false := by simp; omega
    have n1 : ¬ sd = 1 := by omega
    have n2 : ¬ sd = 2 := by omega
    clear hc h1
    go_enter Try.func77, Try.ntmps77
    go_wp2_with fail
    refine (HW _).mono ?_
    rintro e w2 ⟨rfl, hb⟩
    replace c0 := cell_later hb c0
    replace c1 := cell_later hb c1
    replace c2 := cell_later hb c2
    replace hb0 := below_step hb0 hb
    clear hb
    have lc := World.block_lt_of_cell? _ _ c0
    dsimp only at lc
    replace HX := Lib.hid (HX.out _ hb0)
    go_wp2
    exact HX.out
  have h1' : sd = 1 ∨ sd = 2 := by omega
  clear h1
  by_cases h2 : st < 1
  · clear hc
    rcases h1' with rfl | rfl
    all_goals
      go_enter Try.func77, Try.ntmps77
      go_wp2_with fail
      refine (HW _).mono ?_
      rintro e w3 ⟨rfl, hb⟩
      replace c0 := cell_later hb c0
      replace c1 := cell_later hb c1
      replace c2 := cell_later hb c2
      replace hb0 := below_step hb0 hb
      clear hb
      have lc := World.block_lt_of_cell? _ _ c0
      dsimp only at lc
      replace HX := Lib.hid (HX.out _ hb0)
      go_wp2
      exact HX.out
  have h3 : wd < st := by omega
  clear hc
  rcases h1' with rfl | rfl
  all_goals
    go_enter Try.func77, Try.ntmps77
    go_wp2_with fail
    refine (HW _).mono ?_
    rintro e w4 ⟨rfl, hb⟩
    replace c0 := cell_later hb c0
    replace c1 := cell_later hb c1
    replace c2 := cell_later hb c2
    replace hb0 := below_step hb0 hb
    clear hb
    have lc := World.block_lt_of_cell? _ _ c0
    dsimp only at lc
    replace HX := Lib.hid (HX.out _ hb0)
    go_wp2
    exact HX.out
end Go.Proofs.Ytbekocknfpekoaa
namespace Go.Proofs.Ytbekocknfpekoaa
set_option linter.unusedVariables false
set_option linter.unusedSimpArgs false
open Go.RowKit
set_option maxRecDepth 100000 in
set_option maxHeartbeats 8000000 in
theorem rlens_ok (d : Dm) (hr : rightD d = true) (w : World) : Calls Try.prog 77 #[dv d] w (LensPost d w) := by
  have HW := rwidth_t d.kind
  obtain ⟨g1, g2, _, _⟩ := depth_range hr
  obtain ⟨sd0, s1, s2⟩ := (rightD_iff d).1 hr
  have hw := wid_range d.kind
  have hz := lenD_zero hr
  have he := lenD_end hr
  have HN := Lib.hid (fun (l : Int) (h0 : 0 ≤ l) (h1 : l < depthD d) => lenD_next hr h0 h1)
  have HP := Lib.hid (fun (l : Int) (h0 : 0 ≤ l) (h1 : l < depthD d) => (lenD_step hr h0 h1).2.2)
  have HR := Lib.hid (fun (l : Int) => lenD_range d l)
  have HT0 := lensT_succ d 0
  have HT := Lib.hid (fun (k : Nat) => lensT_succ d k)
  have HG := Lib.hid (fun (j k : Nat) (h : j < k) => lensT_get (d := d) h)
  have HLN := Lib.hid (fun k => lensT_len d k)
  have hc := cntD_ok hr
  have HX := Lib.hid (fun (v : Value) (w' : World) (hs : IS w' v (lensT d (cntD d))) (hb : Below w.heap.size w w') => (lensPost_ok hs hb : LensPost d w (.returned v) w'))
  generalize LensPost d w = PP at *
  generalize lensT d = T at *
  generalize cntD d = N at *
  have hT1 : T 1 = [wid d.kind] := by rw [HT0]; show T 0 ++ _ = _; rw [show ((0 : Nat) : Int) = 0 from rfl, hz, List.eq_nil_of_length_eq_zero (HLN.out 0)]; rfl
  obtain ⟨Ld, hLd⟩ : ∃ Ld : Nat → Int, ∀ k : Nat, Ld k = lenD d k := ⟨_, fun _ => rfl⟩
  generalize hq : depthD d = q at *
  obtain ⟨Q, rfl⟩ := Int.eq_ofNat_of_zero_le (show 0 ≤ q by omega)
  have hN : N = Q + 1 := by omega
  subst hN
  have HNx := Lib.hid (fun (k : Nat) (h : k < Q) => (by rw [hLd, hLd, show ((k + 1 : Nat) : Int) = (k : Int) + 1 by omega]; exact HN.out k (by omega) (by omega) : Ld (k + 1) = max (Ld k - d.step) 0))
  have HPx := Lib.hid (fun (k : Nat) (h : k < Q) => (by rw [hLd]; exact HP.out k (by omega) (by omega) : 0 < Ld k))
  have HRx := Lib.hid (fun (k : Nat) => (by rw [hLd]; exact HR.out k : -1 ≤ Ld k ∧ Ld k ≤ 128))
  have HEx : Ld Q = 0 := by rw [hLd]; exact he
  have HTx := Lib.hid (fun (k : Nat) => (by rw [hLd]; exact HT.out k : T (k + 1) = T k ++ [Ld k]))
  have HGx := Lib.hid (fun (j k : Nat) (h : j < k) => (by rw [hLd]; exact HG.out j k h : (T k)[j]? = some (Ld j)))
  replace HEx := Lib.hid HEx
  replace hT1 := Lib.hid hT1
  clear HN HP HR HT HT0 HG hLd he hz hc hq hr
  obtain ⟨kd, sd, st⟩ := d
  dsimp only at *
  generalize wid kd = wd at *
  have t0 : (wd == 0) = false := by simp; omega
  have t1 : ¬ st < 1 := by omega
  have t2 : ¬ wd < st := by omega
  unfold dv
  dsimp only
  obtain ⟨RR0, hb0⟩ := one_row w #[.int .i64 kd, .int .i64 sd, .int .i64 st] 23
  have c0 := (RR0.cell 0).trans (show _ = some (Value.int .i64 kd) from rfl)
  have c1 := (RR0.cell 1).trans (show _ = some (Value.int .i64 sd) from rfl)
  have c2 := (RR0.cell 2).trans (show _ = some (Value.int .i64 st) from rfl)
  clear RR0
  have hsd : ((sd == 1) = true ∧ sd = 1) ∨ ((sd == 1) = false ∧ sd = 2) := by
    rcases sd0 with e | e
    · left; simp [e]
    · right; simp [e]
  clear sd0
  rcases hsd with ⟨_, rfl⟩ | ⟨_, rfl⟩
  · skip
    go_enter Try.func77, Try.ntmps77
    go_wp2_with fail
    refine (HW _).mono ?_
    rintro e w1 ⟨rfl, hb⟩
    replace c0 := cell_later hb c0
    replace c1 := cell_later hb c1
    replace c2 := cell_later hb c2
    replace hb0 := below_step hb0 hb
    clear hb
    have lc := World.block_lt_of_cell? _ _ c0
    dsimp only at lc
    go_wp2_with fail
    have RO : Hid (OwnI w1.heap.size (w1.alloc (.cells #[.int .i64 wd] 3)) (.slice (some ⟨w1.heap.size, 0, none⟩) 1 1) (T 1)) := Lib.hid (by rw [hT1.out]; exact OwnI.made (Row.new _ _ _) (Nat.le_refl _))
    have HB1 : Hid (Below w1.heap.size w1 (w1.alloc (.cells #[.int .i64 wd] 3))) := Lib.hid ((Below.refl _ _).alloc (Nat.le_refl _) _)
    have HB0 := Lib.hid hb0
    have hc2 := c2
    clear hb0 c0 c1 c2 hT1 HW
    go_loopw [4] (fun o wr => ∃ (k m : Nat) (po : Option Addr) (co : Nat), o = .slice po m co ∧ k ≤ Q ∧ m = k + 1 ∧ Hid (OwnI w1.heap.size wr (.slice po m co) (T m)) ∧ Hid (Below w1.heap.size w1 wr)) (fun o _ => match o with | .slice _ m _ => Q + 1 - m | _ => 0)
    case atStart => exact ⟨0, 1, _, _, rfl, Nat.zero_le _, rfl, RO, HB1⟩
    case round =>
      clear RO HB1
      obtain ⟨k, m, po, co, rfl, hk, hm, hO, hB⟩ := hrel
      obtain ⟨pp, cc, hpe, hcc, hpp⟩ := hO.out.read
      rw [HLN.out m] at hpe hcc hpp
      cases hpe
      obtain ⟨g, o, rfl, hg, hcell⟩ := hpp (by omega)
      have cA := hcell k (Ld k) (HGx.out k m (by omega))
      have cS := cell_later hB.out hc2
      have m1 : (m : Int) - 1 = (k : Int) := by omega
      have m2 : IntKind.i64.wrap (k : Int) = (k : Int) := IntWalk.i64_in _ (by omega)
      have hkm : (k : Int) < (m : Int) := by omega
      have hkm2 : k < m := by omega
      have hr := HRx.out k
      have hbs := hB.out.size
      by_cases hlt : k < Q
      · have hp := HPx.out k hlt
        have hn := HNx.out k hlt
        have HTm : T (m + 1) = T m ++ [Ld (k + 1)] := by rw [HTx.out m]; congr 3
        have hwq : IntKind.i64.wrap (Ld k - st) = Ld k - st := IntWalk.i64_in _ (by omega)
        have hcS0 := cS
        have hB' := Lib.hid hB.out.drew
        have hO' := Lib.hid (hO.out.later ((Below.refl _ _).drew))
        have hm' := Lib.hid hm
        clear hcell hcc hpp HNx HPx HRx HEx HGx HX hm hB hO
        generalize Ld k = lk at *
        go_wp2_with fail
        refine wp_region_held_drew (S := (fun w' => w'.cell? ⟨g, o + k, none⟩ = some (.int .i64 lk) ∧ w'.cell? ⟨w.heap.size, 2, none⟩ = some (.int .i64 st))) (by kernel_rfl) ?hSr61_ (fun hHeld => ?_)
        case hSr61_ => (first | exact ⟨cA, cS⟩ | exact hHeld)
        refine tk 0 ⟨some 41, .move (.tmp 4), 89, _, _, _⟩ hHeld ?_
        (try simp only [Act.put, nz1, nz2, nz3])
        refine tk 1 ⟨some 42, .move (.tmp 4), 89, _, _, _⟩ hHeld ?_
        (try simp only [Act.put, nz1, nz2, nz3])
        refine tk 2 ⟨some 43, .call { callee := .builtin .len, args := #[.tmp 42], argTypes := #[89] }, 3, _, _, _⟩ hHeld ?_
        (try simp only [Act.put, nz1, nz2, nz3])
        refine tk 3 ⟨some 44, .binOp .sub 3 (.tmp 43) (.const (.int .i64 1)) 3, 3, _, _, _⟩ hHeld ?_
        (try simp only [Act.put, nz1, nz2, nz3])
        refine tk 4 ⟨some 45, .indexAddr 89 (.tmp 41) (.tmp 44), 0, _, _, _⟩ hHeld ?_
        (try simp only [Act.put, nz1, nz2, nz3])
        refine tk 5 ⟨some 46, .load 3 (.tmp 45), 3, _, _, _⟩ hHeld ?_
        (try simp only [Act.put, nz1, nz2, nz3])
        refine tk 6 ⟨some 47, .fieldAddr 23 (.tmp 1) 2, 0, _, _, _⟩ hHeld ?_
        (try simp only [Act.put, nz1, nz2, nz3])
        refine tk 7 ⟨some 48, .load 3 (.tmp 47), 3, _, _, _⟩ hHeld ?_
        (try simp only [Act.put, nz1, nz2, nz3])
        refine tk 8 ⟨some 49, .binOp .sub 3 (.tmp 46) (.tmp 48) 3, 3, _, _, _⟩ hHeld ?_
        (try simp only [Act.put, nz1, nz2, nz3])
        refine tk 9 ⟨some 5, .assign (.tmp 49), 3, _, _, _⟩ hHeld ?_
        (try simp only [Act.put, nz1, nz2, nz3])
        refine wpAnyH_done (by kernel_rfl) ?_ _
        clear cA cS hHeld
        have hB2 := hB'.out
        have hO2 := hO'.out
        have hcS := cell_later ((Below.refl wr.heap.size wr).drew) hcS0
        have hbs2 : w1.heap.size ≤ wr.drew.heap.size := hB2.size
        clear hB' hO' hcS0
        generalize wr.drew = wx at *
        by_cases hneg : lk - st < 0
        · skip
          have hL : Ld (k + 1) = 0 := by rw [hn]; omega
          have hneg' : decide (lk - st < 0) = true := decide_eq_true hneg
          obtain ⟨v', w3, hrun, hown, hb3⟩ := appI_one (0) hO2 hB2 (by rw [HLN.out]; omega) hbs2
          rw [← hL, ← HTm] at hown
          obtain ⟨pv, cv, rfl, _, _⟩ := hown.read
          rw [HLN.out (m + 1)] at hrun hown
          have HOW := Lib.hid hown
          have HB3 := Lib.hid hb3
          have HRUN := Lib.hid hrun
          have HLN2 := Lib.hid (HLN.out (m + 1))
          clear hrun hown hb3 hO2 hB2 HTm hn hL hcS
          have tok : True := trivial
          go_wp2_with (have _t := tok; at_builtin; refine wpList_appS rfl (.tmp 52) (.tmp 54) 89 rfl rfl rfl HRUN.out ?_; clear tok HRUN)
          exact ⟨⟨k + 1, m + 1, pv, cv, by first | rfl | rw [HLN2.out], by omega, by have := hm'.out; omega, HOW, HB3⟩, by have := hm'.out; first | (simp; omega) | (rw [HLN2.out]; simp; omega)⟩
        · skip
          have hL : Ld (k + 1) = lk - st := by rw [hn]; omega
          have hneg' : decide (lk - st < 0) = false := decide_eq_false hneg
          obtain ⟨v', w3, hrun, hown, hb3⟩ := appI_one (lk - st) hO2 hB2 (by rw [HLN.out]; omega) hbs2
          rw [← hL, ← HTm] at hown
          obtain ⟨pv, cv, rfl, _, _⟩ := hown.read
          rw [HLN.out (m + 1)] at hrun hown
          have HOW := Lib.hid hown
          have HB3 := Lib.hid hb3
          have HRUN := Lib.hid hrun
          have HLN2 := Lib.hid (HLN.out (m + 1))
          clear hrun hown hb3 hO2 hB2 HTm hn hL hcS
          have tok : True := trivial
          go_wp2_with (have _t := tok; at_builtin; refine wpList_appS rfl (.tmp 52) (.tmp 54) 89 rfl rfl rfl HRUN.out ?_; clear tok HRUN)
          exact ⟨⟨k + 1, m + 1, pv, cv, by first | rfl | rw [HLN2.out], by omega, by have := hm'.out; omega, HOW, HB3⟩, by have := hm'.out; first | (simp; omega) | (rw [HLN2.out]; simp; omega)⟩
      · have hkQ : k = Q := by omega
        subst hkQ
        have hE := HEx.out
        have HFX := Lib.hid (HX.out _ _ (by rw [← hm]; exact hO.out.read) (below_step HB0.out hB.out))
        rw [hE] at cA
        clear hcell hcc hpp HNx HPx HRx HEx HGx HX hO hB hE cS hr hc2 HTx
        go_wp2
        exact HFX.out
  · skip
    go_enter Try.func77, Try.ntmps77
    go_wp2_with fail
    refine (HW _).mono ?_
    rintro e w2 ⟨rfl, hb⟩
    replace c0 := cell_later hb c0
    replace c1 := cell_later hb c1
    replace c2 := cell_later hb c2
    replace hb0 := below_step hb0 hb
    clear hb
    have lc := World.block_lt_of_cell? _ _ c0
    dsimp only at lc
    go_wp2_with fail
    have RO : Hid (OwnI w2.heap.size (w2.alloc (.cells #[.int .i64 wd] 3)) (.slice (some ⟨w2.heap.size, 0, none⟩) 1 1) (T 1)) := Lib.hid (by rw [hT1.out]; exact OwnI.made (Row.new _ _ _) (Nat.le_refl _))
    have HB1 : Hid (Below w2.heap.size w2 (w2.alloc (.cells #[.int .i64 wd] 3))) := Lib.hid ((Below.refl _ _).alloc (Nat.le_refl _) _)
    have HB0 := Lib.hid hb0
    have hc2 := c2
    clear hb0 c0 c1 c2 hT1 HW
    go_loopw [4] (fun o wr => ∃ (k m : Nat) (po : Option Addr) (co : Nat), o = .slice po m co ∧ k ≤ Q ∧ m = k + 1 ∧ Hid (OwnI w2.heap.size wr (.slice po m co) (T m)) ∧ Hid (Below w2.heap.size w2 wr)) (fun o _ => match o with | .slice _ m _ => Q + 1 - m | _ => 0)
    case atStart => exact ⟨0, 1, _, _, rfl, Nat.zero_le _, rfl, RO, HB1⟩
    case round =>
      clear RO HB1
      obtain ⟨k, m, po, co, rfl, hk, hm, hO, hB⟩ := hrel
      obtain ⟨pp, cc, hpe, hcc, hpp⟩ := hO.out.read
      rw [HLN.out m] at hpe hcc hpp
      cases hpe
      obtain ⟨g, o, rfl, hg, hcell⟩ := hpp (by omega)
      have cA := hcell k (Ld k) (HGx.out k m (by omega))
      have cS := cell_later hB.out hc2
      have m1 : (m : Int) - 1 = (k : Int) := by omega
      have m2 : IntKind.i64.wrap (k : Int) = (k : Int) := IntWalk.i64_in _ (by omega)
      have hkm : (k : Int) < (m : Int) := by omega
      have hkm2 : k < m := by omega
      have hr := HRx.out k
      have hbs := hB.out.size
      by_cases hlt : k < Q
      · have hp := HPx.out k hlt
        have hn := HNx.out k hlt
        have HTm : T (m + 1) = T m ++ [Ld (k + 1)] := by rw [HTx.out m]; congr 3
        have hwq : IntKind.i64.wrap (Ld k - st) = Ld k - st := IntWalk.i64_in _ (by omega)
        have hcS0 := cS
        have hB' := Lib.hid hB.out.drew
        have hO' := Lib.hid (hO.out.later ((Below.refl _ _).drew))
        have hm' := Lib.hid hm
        clear hcell hcc hpp HNx HPx HRx HEx HGx HX hm hB hO
        generalize Ld k = lk at *
        go_wp2_with fail
        refine wp_region_held_drew (S := (fun w' => w'.cell? ⟨g, o + k, none⟩ = some (.int .i64 lk) ∧ w'.cell? ⟨w.heap.size, 2, none⟩ = some (.int .i64 st))) (by kernel_rfl) ?hSr62_ (fun hHeld => ?_)
        case hSr62_ => (first | exact ⟨cA, cS⟩ | exact hHeld)
        refine tk 0 ⟨some 41, .move (.tmp 4), 89, _, _, _⟩ hHeld ?_
        (try simp only [Act.put, nz1, nz2, nz3])
        refine tk 1 ⟨some 42, .move (.tmp 4), 89, _, _, _⟩ hHeld ?_
        (try simp only [Act.put, nz1, nz2, nz3])
        refine tk 2 ⟨some 43, .call { callee := .builtin .len, args := #[.tmp 42], argTypes := #[89] }, 3, _, _, _⟩ hHeld ?_
        (try simp only [Act.put, nz1, nz2, nz3])
        refine tk 3 ⟨some 44, .binOp .sub 3 (.tmp 43) (.const (.int .i64 1)) 3, 3, _, _, _⟩ hHeld ?_
        (try simp only [Act.put, nz1, nz2, nz3])
        refine tk 4 ⟨some 45, .indexAddr 89 (.tmp 41) (.tmp 44), 0, _, _, _⟩ hHeld ?_
        (try simp only [Act.put, nz1, nz2, nz3])
        refine tk 5 ⟨some 46, .load 3 (.tmp 45), 3, _, _, _⟩ hHeld ?_
        (try simp only [Act.put, nz1, nz2, nz3])
        refine tk 6 ⟨some 47, .fieldAddr 23 (.tmp 1) 2, 0, _, _, _⟩ hHeld ?_
        (try simp only [Act.put, nz1, nz2, nz3])
        refine tk 7 ⟨some 48, .load 3 (.tmp 47), 3, _, _, _⟩ hHeld ?_
        (try simp only [Act.put, nz1, nz2, nz3])
        refine tk 8 ⟨some 49, .binOp .sub 3 (.tmp 46) (.tmp 48) 3, 3, _, _, _⟩ hHeld ?_
        (try simp only [Act.put, nz1, nz2, nz3])
        refine tk 9 ⟨some 5, .assign (.tmp 49), 3, _, _, _⟩ hHeld ?_
        (try simp only [Act.put, nz1, nz2, nz3])
        refine wpAnyH_done (by kernel_rfl) ?_ _
        clear cA cS hHeld
        have hB2 := hB'.out
        have hO2 := hO'.out
        have hcS := cell_later ((Below.refl wr.heap.size wr).drew) hcS0
        have hbs2 : w2.heap.size ≤ wr.drew.heap.size := hB2.size
        clear hB' hO' hcS0
        generalize wr.drew = wx at *
        by_cases hneg : lk - st < 0
        · skip
          have hL : Ld (k + 1) = 0 := by rw [hn]; omega
          have hneg' : decide (lk - st < 0) = true := decide_eq_true hneg
          obtain ⟨v', w3, hrun, hown, hb3⟩ := appI_one (0) hO2 hB2 (by rw [HLN.out]; omega) hbs2
          rw [← hL, ← HTm] at hown
          obtain ⟨pv, cv, rfl, _, _⟩ := hown.read
          rw [HLN.out (m + 1)] at hrun hown
          have HOW := Lib.hid hown
          have HB3 := Lib.hid hb3
          have HRUN := Lib.hid hrun
          have HLN2 := Lib.hid (HLN.out (m + 1))
          clear hrun hown hb3 hO2 hB2 HTm hn hL hcS
          have tok : True := trivial
          go_wp2_with (have _t := tok; at_builtin; refine wpList_appS rfl (.tmp 52) (.tmp 54) 89 rfl rfl rfl HRUN.out ?_; clear tok HRUN)
          exact ⟨⟨k + 1, m + 1, pv, cv, by first | rfl | rw [HLN2.out], by omega, by have := hm'.out; omega, HOW, HB3⟩, by have := hm'.out; first | (simp; omega) | (rw [HLN2.out]; simp; omega)⟩
        · skip
          have hL : Ld (k + 1) = lk - st := by rw [hn]; omega
          have hneg' : decide (lk - st < 0) = false := decide_eq_false hneg
          obtain ⟨v', w3, hrun, hown, hb3⟩ := appI_one (lk - st) hO2 hB2 (by rw [HLN.out]; omega) hbs2
          rw [← hL, ← HTm] at hown
          obtain ⟨pv, cv, rfl, _, _⟩ := hown.read
          rw [HLN.out (m + 1)] at hrun hown
          have HOW := Lib.hid hown
          have HB3 := Lib.hid hb3
          have HRUN := Lib.hid hrun
          have HLN2 := Lib.hid (HLN.out (m + 1))
          clear hrun hown hb3 hO2 hB2 HTm hn hL hcS
          have tok : True := trivial
          go_wp2_with (have _t := tok; at_builtin; refine wpList_appS rfl (.tmp 52) (.tmp 54) 89 rfl rfl rfl HRUN.out ?_; clear tok HRUN)
          exact ⟨⟨k + 1, m + 1, pv, cv, by first | rfl | rw [HLN2.out], by omega, by have := hm'.out; omega, HOW, HB3⟩, by have := hm'.out; first | (simp; omega) | (rw [HLN2.out]; simp; omega)⟩
      · have hkQ : k = Q := by omega
        subst hkQ
        have hE := HEx.out
        have HFX := Lib.hid (HX.out _ _ (by rw [← hm]; exact hO.out.read) (below_step HB0.out hB.out))
        rw [hE] at cA
        clear hcell hcc hpp HNx HPx HRx HEx HGx HX hO hB hE cS hr hc2 HTx
        go_wp2
        exact HFX.out
end Go.Proofs.Ytbekocknfpekoaa
namespace Go.Proofs.Ytbekocknfpekoaa
set_option linter.unusedVariables false
set_option linter.unusedSimpArgs false
open Go.RowKit
theorem rlens_t (d : Dm) (w : World) : Calls Try.prog 77 #[dv d] w fun e w' => ∃ v, e = .returned v ∧ IS w' v (lensL d) ∧ Below w.heap.size w w' := by
  cases h : rightD d with
  | false => exact rlens_bad d h w
  | true => exact rlens_ok d h w
theorem lensL_len (d : Dm) : (lensL d).length = cntD d := lensT_len d _
theorem cnt_pos (d : Dm) : decide (0 < cntD d) = rightD d := by
  cases h : rightD d with
  | false => rw [cntD_bad h]; rfl
  | true => have := cntD_ok h; have := (depth_range h).1; exact decide_eq_true (by omega)
theorem cnt_le (d : Dm) : cntD d ≤ 129 := by
  cases h : rightD d with
  | false => rw [cntD_bad h]; omega
  | true => have := cntD_ok h; have := (depth_range h).2.1; omega
theorem depth_cnt (d : Dm) : depthD d = if cntD d = 0 then 0 else (cntD d : Int) - 1 := by
  cases h : rightD d with
  | false => rw [cntD_bad h]; unfold depthD; rw [h]; rfl
  | true => have := cntD_ok h; have := (depth_range h).1; rw [if_neg (by omega)]; omega
set_option maxRecDepth 100000 in
set_option maxHeartbeats 2000000 in
theorem r8right_t (d : Dm) (w : World) : Calls Try.prog 52 #[dv d] w fun e w' => e = .returned (.bool (rightD d)) ∧ Below w.heap.size w w' := by
  have HL := rlens_t d
  have hc := cnt_pos d
  rw [← hc]
  clear hc
  have hl := lensL_len d
  generalize lensL d = ls at *
  generalize cntD d = N at *
  unfold dv at *
  obtain ⟨RR0, hb0⟩ := one_row w #[.int .i64 d.kind, .int .i64 d.side, .int .i64 d.step] 23
  have c0 := (RR0.cell 0).trans (show _ = some (Value.int .i64 d.kind) from rfl)
  have c1 := (RR0.cell 1).trans (show _ = some (Value.int .i64 d.side) from rfl)
  have c2 := (RR0.cell 2).trans (show _ = some (Value.int .i64 d.step) from rfl)
  clear RR0
  go_enter Try.func52, Try.ntmps52
  go_wp2_with fail
  refine (HL _).mono ?_
  rintro e w1 ⟨v, rfl, ⟨p, cc, rfl, _, _⟩, hb⟩
  rw [hl]
  replace hb0 := below_step hb0 hb
  clear hb c0 c1 c2 HL hl
  go_wp2
  go_ret
  exact ⟨rfl, hb0⟩
set_option maxRecDepth 100000 in
set_option maxHeartbeats 2000000 in
theorem r8depth_t (d : Dm) (w : World) : Calls Try.prog 57 #[dv d] w fun e w' => e = .returned (.int .i64 (depthD d)) ∧ Below w.heap.size w w' := by
  have HL := rlens_t d
  have hc := depth_cnt d
  have h9 := cnt_le d
  rw [hc]
  clear hc
  have hl := lensL_len d
  generalize lensL d = ls at *
  generalize cntD d = N at *
  unfold dv at *
  obtain ⟨RR0, hb0⟩ := one_row w #[.int .i64 d.kind, .int .i64 d.side, .int .i64 d.step] 23
  have c0 := (RR0.cell 0).trans (show _ = some (Value.int .i64 d.kind) from rfl)
  have c1 := (RR0.cell 1).trans (show _ = some (Value.int .i64 d.side) from rfl)
  have c2 := (RR0.cell 2).trans (show _ = some (Value.int .i64 d.step) from rfl)
  clear RR0
  by_cases h0 : N = 0
  · subst h0
    rw [if_pos rfl]
    go_enter Try.func57, Try.ntmps57
    go_wp2_with fail
    refine (HL _).mono ?_
    rintro e w1 ⟨v, rfl, ⟨p, cc, rfl, _, _⟩, hb⟩
    rw [hl]
    replace hb0 := below_step hb0 hb
    clear hb c0 c1 c2 HL hl
    go_wp2
    go_ret
    exact ⟨rfl, hb0⟩
  · rw [if_neg h0]
    have h0' : ((N : Int) == 0) = false := by simp; omega
    have h0'' : ¬ (N : Int) = 0 := by omega
    have h1 : (1 : Int) ≤ (N : Int) := by omega
    go_enter Try.func57, Try.ntmps57
    go_wp2_with fail
    refine (HL _).mono ?_
    rintro e w1 ⟨v, rfl, ⟨p, cc, rfl, _, _⟩, hb⟩
    rw [hl]
    replace hb0 := below_step hb0 hb
    clear hb c0 c1 c2 HL hl h0
    go_wp2
    go_ret
    exact ⟨rfl, hb0⟩
theorem lenD_cnt (d : Dm) (l : Int) : (l < 0 ∨ (cntD d : Int) ≤ l) → lenD d l = -1 := fun h => lenD_no (by
  rintro ⟨r, h0, h1⟩
  have := cntD_ok r
  omega)
set_option maxRecDepth 100000 in
set_option maxHeartbeats 2000000 in
theorem r8len_t (d : Dm) (l : Int) (w : World) : Calls Try.prog 79 #[dv d, .int .i64 l] w fun e w' => e = .returned (.int .i64 (lenD d l)) ∧ Below w.heap.size w w' := by
  have HL := rlens_t d
  have hc := lenD_cnt d l
  have hl := lensL_len d
  have hg : ∀ j : Nat, l = (j : Int) → j < cntD d → (lensL d)[j]? = some (lenD d l) := fun j e h => by rw [e]; exact lensT_get h
  generalize lenD d l = r at *
  generalize lensL d = ls at *
  generalize cntD d = N at *
  unfold dv at *
  obtain ⟨RR0, hb0⟩ := one_row w #[.int .i64 d.kind, .int .i64 d.side, .int .i64 d.step] 23
  have c0 := (RR0.cell 0).trans (show _ = some (Value.int .i64 d.kind) from rfl)
  have c1 := (RR0.cell 1).trans (show _ = some (Value.int .i64 d.side) from rfl)
  have c2 := (RR0.cell 2).trans (show _ = some (Value.int .i64 d.step) from rfl)
  clear RR0
  by_cases h0 : l < 0
  · obtain rfl := hc (.inl h0)
    clear hc hg
    go_enter Try.func79, Try.ntmps79
    go_wp2_with fail
    refine (HL _).mono ?_
    rintro e w1 ⟨v, rfl, ⟨p, cc, rfl, _, _⟩, hb⟩
    rw [hl]
    replace hb0 := below_step hb0 hb
    clear hb c0 c1 c2 HL hl
    go_wp2
    go_ret
    exact ⟨rfl, hb0⟩
  · obtain ⟨j, rfl⟩ := Int.eq_ofNat_of_zero_le (show 0 ≤ l by omega)
    clear h0
    by_cases h1 : N ≤ j
    · obtain rfl := hc (.inr (by omega))
      clear hc hg
      go_enter Try.func79, Try.ntmps79
      go_wp2_with fail
      refine (HL _).mono ?_
      rintro e w1 ⟨v, rfl, ⟨p, cc, rfl, _, _⟩, hb⟩
      rw [hl]
      replace hb0 := below_step hb0 hb
      clear hb c0 c1 c2 HL hl
      go_wp2
      go_ret
      exact ⟨rfl, hb0⟩
    · have hj := hg j rfl (by omega)
      clear hc hg
      go_enter Try.func79, Try.ntmps79
      go_wp2_with fail
      refine (HL _).mono ?_
      rintro e w1 ⟨v, rfl, ⟨p, cc, rfl, h3, h4⟩, hb⟩
      rw [hl] at h3 h4 ⊢
      obtain ⟨g, o, rfl, _, hC⟩ := h4 (by omega)
      have cA := hC j r hj
      have h1' : j < N := by omega
      replace hb0 := below_step hb0 hb
      clear hb c0 c1 c2 HL hl h1 hC h4 hj
      go_wp2
      go_ret
      exact ⟨rfl, hb0⟩
end Go.Proofs.Ytbekocknfpekoaa
namespace Go.Proofs.Ytbekocknfpekoaa
set_option linter.unusedVariables false
set_option linter.unusedSimpArgs false
open Go.RowKit
theorem cut_clamp {k : Ke} (h : rightK k = true) (n : Int) : cutK k n = topK k (if n < 0 then 0 else if ((letK k).length : Int) < n then ((letK k).length : Int) else n) := by
  have h1 := letK_len h
  have h2 := len_range h
  unfold cutK
  rw [if_pos h]
  by_cases a : n < 0
  · rw [if_pos a, if_neg (by omega), show max n 0 = 0 by omega]
  · rw [if_neg a]
    by_cases b : ((letK k).length : Int) < n
    · rw [if_pos b, if_pos (by omega), h1, top_full h]
    · rw [if_neg b]
      by_cases c : k.len ≤ n
      · rw [if_pos c, show n = k.len by omega, top_full h]
      · rw [if_neg c, show max n 0 = n by omega]
set_option maxRecDepth 100000 in
set_option maxHeartbeats 8000000 in
theorem rcut_t (k : Ke) (ok : k.ok) (n : Int) (w : World) : Calls Try.prog 88 #[kv k, .int .i64 n] w fun e w' => e = .returned (kv (cutK k n)) ∧ Below w.heap.size w w' := by
  have HL : ∀ w1, Calls Try.prog 98 #[kv k] w1 fun e w' => ∃ v, e = .returned (.tuple #[v, .bool (rightK k)]) ∧ SS w' v (letR k) ∧ Below w1.heap.size w1 w' := fun w1 => letters_t k ok w1
  obtain ⟨R0, R1, hb0⟩ := two_rows w #[.int .i64 k.kind, .int .i64 k.len, .int .u64 k.h, .int .u64 k.l, .string ⟨k.path.toArray⟩] #[.int .i64 0, .int .i64 0, .int .u64 0, .int .u64 0, .string ⟨#[]⟩] 30 30
  cases hr : rightK k with
  | false =>
    rw [cut_bad hr]
    rw [hr] at HL
    clear hr ok
    unfold kv kz at *
    dsimp only
    go_enter Try.func88, Try.ntmps88
    go_wp2_with fail
    refine (HL _).mono ?_
    rintro e w1 ⟨v, rfl, _, hb⟩
    replace R1 := R1.later hb
    replace hb0 := below_step hb0 hb
    clear HL hb R0
    have c0 := ((R1).cell 0).trans (show _ = some (Value.int .i64 0) from rfl)
    have cf0 := (R1).frozen 0
    have c1 := ((R1).cell 1).trans (show _ = some (Value.int .i64 0) from rfl)
    have cf1 := (R1).frozen 1
    have c2 := ((R1).cell 2).trans (show _ = some (Value.int .u64 0) from rfl)
    have cf2 := (R1).frozen 2
    have c3 := ((R1).cell 3).trans (show _ = some (Value.int .u64 0) from rfl)
    have cf3 := (R1).frozen 3
    have c4 := ((R1).cell 4).trans (show _ = some (Value.string ⟨#[]⟩) from rfl)
    have cf4 := (R1).frozen 4
    clear R1
    go_wp2
    refine bodyPost_ret (v := .agg #[.int .i64 0, .int .i64 0, .int .u64 0, .int .u64 0, .string ⟨#[]⟩]) (by simp [results, Try.results88, go_sem, c0, c1, c2, c3, c4]) rfl ⟨rfl, bset5 hb0 (by omega) _ _ _ _ _⟩
  | true =>
    rw [hr] at HL
    have hlr : letR k = letK k := by unfold letR; rw [if_pos hr]
    rw [hlr] at HL
    clear hlr
    rw [cut_clamp hr]
    have HOF := Lib.hid (fun (m : Nat) (hm : m ≤ (letK k).length) (v : Value) (w1 : World) (hS : SS w1 v ((letK k).take m)) => rof_take k ok hr m hm v w1 hS)
    clear hr ok
    generalize letK k = ls at *
    -- the clamped number
    obtain ⟨m, hm, hcase⟩ : ∃ m : Nat, m ≤ ls.length ∧ ((n < 0 ∧ m = 0) ∨ ((ls.length : Int) < n ∧ m = ls.length) ∨ (n = (m : Int))) := by
      by_cases a : n < 0
      · exact ⟨0, Nat.zero_le _, .inl ⟨a, rfl⟩⟩
      · by_cases b : (ls.length : Int) < n
        · exact ⟨_, Nat.le_refl _, .inr (.inl ⟨b, rfl⟩)⟩
        · exact ⟨n.toNat, by omega, .inr (.inr (by omega))⟩
    have ec : (if n < 0 then (0 : Int) else if (ls.length : Int) < n then (ls.length : Int) else n) = (m : Int) := by
      repeat' split
      all_goals omega
    rw [ec]
    clear ec
    have HO2 := Lib.hid (HOF.out m hm)
    clear HOF
    generalize topK k (m : Int) = t at *
    obtain ⟨t0, t1, t2, t3, t4⟩ := t
    unfold kv at *
    dsimp only at *
    rcases hcase with ⟨ha, rfl⟩ | ⟨ha, rfl⟩ | rfl
    ·   go_enter Try.func88, Try.ntmps88
        go_wp2_with fail
        refine (HL _).mono ?_
        rintro e w1 ⟨v, rfl, hS, hb⟩
        replace R0 := (R0.later hb).drew
        replace R1 := (R1.later hb).drew
        replace hb0 := (below_step hb0 hb).drew
        clear HL hb
        obtain ⟨p, c, rfl, _, _⟩ := id hS
        obtain ⟨hT, hmc⟩ := ss_take hS _ hm
        have HO3 := Lib.hid (fun (W : World) (hb : Below w1.heap.size w1 W) => HO2.out _ W (hT.later hb))
        clear hT hS HO2
        generalize hN : ls.length = N at *
        clear hN
        have q1 : (N : Int) ≤ (c : Int) := by omega
        have q2 : ¬ (N : Int) < 0 := by omega
        have c0 := ((R0).cell 0).trans (show _ = some (Value.int .i64 k.kind) from rfl)
        have cf0 := (R0).frozen 0
        have c1 := ((R0).cell 1).trans (show _ = some (Value.int .i64 k.len) from rfl)
        have cf1 := (R0).frozen 1
        have c2 := ((R0).cell 2).trans (show _ = some (Value.int .u64 k.h) from rfl)
        have cf2 := (R0).frozen 2
        have c3 := ((R0).cell 3).trans (show _ = some (Value.int .u64 k.l) from rfl)
        have cf3 := (R0).frozen 3
        have c4 := ((R0).cell 4).trans (show _ = some (Value.string ⟨k.path.toArray⟩) from rfl)
        have cf4 := (R0).frozen 4
        go_wp2_with fail
        refine wp_region_held_drew (S := (fun w' => w'.cell? ⟨w.heap.size, 0, none⟩ = some (.int .i64 k.kind))) (by kernel_rfl) ?hSr63_ (fun hHeld => ?_)
        case hSr63_ => (first | exact c0 | exact cell_later hb hHeld)
        refine tk 0 ⟨some 23, .fieldAddr 30 (.tmp 2) 0, 0, _, _, _⟩ hHeld ?_
        (try simp only [Act.put, nz1, nz2, nz3])
        refine tk 1 ⟨some 24, .load 3 (.tmp 23), 3, _, _, _⟩ hHeld ?_
        (try simp only [Act.put, nz1, nz2, nz3])
        refine tk 2 ⟨some 25, .move (.tmp 5), 107, _, _, _⟩ hHeld ?_
        (try simp only [Act.put, nz1, nz2, nz3])
        refine tk 3 ⟨some 26, .move (.tmp 1), 3, _, _, _⟩ hHeld ?_
        (try simp only [Act.put, nz1, nz2, nz3])
        refine tk 4 ⟨some 27, .slice 107 (.tmp 25) none (some (.tmp 26)) none, 107, _, _, _⟩ hHeld ?_
        (try simp only [Act.put, nz1, nz2, nz3])
        refine wpAnyH_ready (rs := [5]) (by kernel_rfl) (by simp) ?_
        refine AllReadyH.cons (o := ⟨some 28, .call { callee := .value (.func 82), args := #[.tmp 24, .tmp 27], argTypes := #[3, 107] }, 30, _, _, _⟩) rfl (fun K hK => ?_) AllReadyH.nil
        go_simp
        ((refine (HO3.out _ (by first | exact (Below.refl _ _).drew | exact Below.refl _ _)).mono ?_); (rintro e wn ⟨rfl, hb⟩); (replace R1 := R1.later hb); (replace hb0 := below_step hb0 hb))
        go_wp2_with fail
        refine hK.out _ _ ?hSr63_6_5 (fun hHeld2 => ?_)
        case hSr63_6_5 => (first | exact c0 | exact cell_later hb hHeld)
        clear hK K hHeld
        have hHeld := hHeld2
        clear hHeld2
        (try simp only [Act.put, nz1, nz2, nz3])
        refine wpAnyH_ready (rs := [6]) (by kernel_rfl) (by simp) ?_
        refine AllReadyH.cons (o := ⟨none, .store 30 (.tmp 4) (.tmp 28), 0, _, _, _⟩) rfl (fun K hK => ?_) AllReadyH.nil
        ((have z0 := R1.cell 0); (have z1 := R1.cell 1); (have z2 := R1.cell 2); (have z3 := R1.cell 3); (have z4 := R1.cell 4); (simp at z0 z1 z2 z3 z4); (have zf0 := R1.frozen 0); (have zf1 := R1.frozen 1); (have zf2 := R1.frozen 2); (have zf3 := R1.frozen 3); (have zf4 := R1.frozen 4); go_simp)
        refine hK.out _ _ ?hSr63_7_6 (fun hHeld2 => ?_)
        case hSr63_7_6 => (simp [go_sem, hHeld])
        clear hK K hHeld
        have hHeld := hHeld2
        clear hHeld2
        (try simp only [Act.put, nz1, nz2, nz3])
        refine wpAnyH_done (by kernel_rfl) ?_ _
        (go_wp2_with fail; exact bodyPost_ret (v := .agg #[.int .i64 t0, .int .i64 t1, .int .u64 t2, .int .u64 t3, .string ⟨t4.toArray⟩]) (by simp [results, Try.results88, go_sem, z0, z1, z2, z3, z4]) rfl ⟨rfl, bset5 hb0 (by omega) _ _ _ _ _⟩)
    ·   go_enter Try.func88, Try.ntmps88
        go_wp2_with fail
        refine (HL _).mono ?_
        rintro e w1 ⟨v, rfl, hS, hb⟩
        replace R0 := (R0.later hb).drew
        replace R1 := (R1.later hb).drew
        replace hb0 := (below_step hb0 hb).drew
        clear HL hb
        obtain ⟨p, c, rfl, _, _⟩ := id hS
        obtain ⟨hT, hmc⟩ := ss_take hS _ hm
        have HO3 := Lib.hid (fun (W : World) (hb : Below w1.heap.size w1 W) => HO2.out _ W (hT.later hb))
        clear hT hS HO2
        generalize hN : ls.length = N at *
        clear hN
        have q1 : (N : Int) ≤ (c : Int) := by omega
        have q2 : ¬ (N : Int) < 0 := by omega
        have c0 := ((R0).cell 0).trans (show _ = some (Value.int .i64 k.kind) from rfl)
        have cf0 := (R0).frozen 0
        have c1 := ((R0).cell 1).trans (show _ = some (Value.int .i64 k.len) from rfl)
        have cf1 := (R0).frozen 1
        have c2 := ((R0).cell 2).trans (show _ = some (Value.int .u64 k.h) from rfl)
        have cf2 := (R0).frozen 2
        have c3 := ((R0).cell 3).trans (show _ = some (Value.int .u64 k.l) from rfl)
        have cf3 := (R0).frozen 3
        have c4 := ((R0).cell 4).trans (show _ = some (Value.string ⟨k.path.toArray⟩) from rfl)
        have cf4 := (R0).frozen 4
        go_wp2_with fail
        refine wp_region_held_drew (S := (fun w' => w'.cell? ⟨w.heap.size, 0, none⟩ = some (.int .i64 k.kind))) (by kernel_rfl) ?hSr64_ (fun hHeld => ?_)
        case hSr64_ => (first | exact c0 | exact cell_later hb hHeld)
        refine tk 0 ⟨some 23, .fieldAddr 30 (.tmp 2) 0, 0, _, _, _⟩ hHeld ?_
        (try simp only [Act.put, nz1, nz2, nz3])
        refine tk 1 ⟨some 24, .load 3 (.tmp 23), 3, _, _, _⟩ hHeld ?_
        (try simp only [Act.put, nz1, nz2, nz3])
        refine tk 2 ⟨some 25, .move (.tmp 5), 107, _, _, _⟩ hHeld ?_
        (try simp only [Act.put, nz1, nz2, nz3])
        refine tk 3 ⟨some 26, .move (.tmp 1), 3, _, _, _⟩ hHeld ?_
        (try simp only [Act.put, nz1, nz2, nz3])
        refine tk 4 ⟨some 27, .slice 107 (.tmp 25) none (some (.tmp 26)) none, 107, _, _, _⟩ hHeld ?_
        (try simp only [Act.put, nz1, nz2, nz3])
        refine wpAnyH_ready (rs := [5]) (by kernel_rfl) (by simp) ?_
        refine AllReadyH.cons (o := ⟨some 28, .call { callee := .value (.func 82), args := #[.tmp 24, .tmp 27], argTypes := #[3, 107] }, 30, _, _, _⟩) rfl (fun K hK => ?_) AllReadyH.nil
        go_simp
        ((refine (HO3.out _ (by first | exact (Below.refl _ _).drew | exact Below.refl _ _)).mono ?_); (rintro e wn ⟨rfl, hb⟩); (replace R1 := R1.later hb); (replace hb0 := below_step hb0 hb))
        go_wp2_with fail
        refine hK.out _ _ ?hSr64_6_5 (fun hHeld2 => ?_)
        case hSr64_6_5 => (first | exact c0 | exact cell_later hb hHeld)
        clear hK K hHeld
        have hHeld := hHeld2
        clear hHeld2
        (try simp only [Act.put, nz1, nz2, nz3])
        refine wpAnyH_ready (rs := [6]) (by kernel_rfl) (by simp) ?_
        refine AllReadyH.cons (o := ⟨none, .store 30 (.tmp 4) (.tmp 28), 0, _, _, _⟩) rfl (fun K hK => ?_) AllReadyH.nil
        ((have z0 := R1.cell 0); (have z1 := R1.cell 1); (have z2 := R1.cell 2); (have z3 := R1.cell 3); (have z4 := R1.cell 4); (simp at z0 z1 z2 z3 z4); (have zf0 := R1.frozen 0); (have zf1 := R1.frozen 1); (have zf2 := R1.frozen 2); (have zf3 := R1.frozen 3); (have zf4 := R1.frozen 4); go_simp)
        refine hK.out _ _ ?hSr64_7_6 (fun hHeld2 => ?_)
        case hSr64_7_6 => (simp [go_sem, hHeld])
        clear hK K hHeld
        have hHeld := hHeld2
        clear hHeld2
        (try simp only [Act.put, nz1, nz2, nz3])
        refine wpAnyH_done (by kernel_rfl) ?_ _
        (go_wp2_with fail; exact bodyPost_ret (v := .agg #[.int .i64 t0, .int .i64 t1, .int .u64 t2, .int .u64 t3, .string ⟨t4.toArray⟩]) (by simp [results, Try.results88, go_sem, z0, z1, z2, z3, z4]) rfl ⟨rfl, bset5 hb0 (by omega) _ _ _ _ _⟩)
    ·   go_enter Try.func88, Try.ntmps88
        go_wp2_with fail
        refine (HL _).mono ?_
        rintro e w1 ⟨v, rfl, hS, hb⟩
        replace R0 := (R0.later hb).drew
        replace R1 := (R1.later hb).drew
        replace hb0 := (below_step hb0 hb).drew
        clear HL hb
        obtain ⟨p, c, rfl, _, _⟩ := id hS
        obtain ⟨hT, hmc⟩ := ss_take hS _ hm
        have HO3 := Lib.hid (fun (W : World) (hb : Below w1.heap.size w1 W) => HO2.out _ W (hT.later hb))
        clear hT hS HO2
        generalize hN : ls.length = N at *
        clear hN
        have q1 : (N : Int) ≤ (c : Int) := by omega
        have q2 : ¬ (N : Int) < 0 := by omega
        have c0 := ((R0).cell 0).trans (show _ = some (Value.int .i64 k.kind) from rfl)
        have cf0 := (R0).frozen 0
        have c1 := ((R0).cell 1).trans (show _ = some (Value.int .i64 k.len) from rfl)
        have cf1 := (R0).frozen 1
        have c2 := ((R0).cell 2).trans (show _ = some (Value.int .u64 k.h) from rfl)
        have cf2 := (R0).frozen 2
        have c3 := ((R0).cell 3).trans (show _ = some (Value.int .u64 k.l) from rfl)
        have cf3 := (R0).frozen 3
        have c4 := ((R0).cell 4).trans (show _ = some (Value.string ⟨k.path.toArray⟩) from rfl)
        have cf4 := (R0).frozen 4
        go_wp2_with fail
        refine wp_region_held_drew (S := (fun w' => w'.cell? ⟨w.heap.size, 0, none⟩ = some (.int .i64 k.kind))) (by kernel_rfl) ?hSr65_ (fun hHeld => ?_)
        case hSr65_ => (first | exact c0 | exact cell_later hb hHeld)
        refine tk 0 ⟨some 23, .fieldAddr 30 (.tmp 2) 0, 0, _, _, _⟩ hHeld ?_
        (try simp only [Act.put, nz1, nz2, nz3])
        refine tk 1 ⟨some 24, .load 3 (.tmp 23), 3, _, _, _⟩ hHeld ?_
        (try simp only [Act.put, nz1, nz2, nz3])
        refine tk 2 ⟨some 25, .move (.tmp 5), 107, _, _, _⟩ hHeld ?_
        (try simp only [Act.put, nz1, nz2, nz3])
        refine tk 3 ⟨some 26, .move (.tmp 1), 3, _, _, _⟩ hHeld ?_
        (try simp only [Act.put, nz1, nz2, nz3])
        refine tk 4 ⟨some 27, .slice 107 (.tmp 25) none (some (.tmp 26)) none, 107, _, _, _⟩ hHeld ?_
        (try simp only [Act.put, nz1, nz2, nz3])
        refine wpAnyH_ready (rs := [5]) (by kernel_rfl) (by simp) ?_
        refine AllReadyH.cons (o := ⟨some 28, .call { callee := .value (.func 82), args := #[.tmp 24, .tmp 27], argTypes := #[3, 107] }, 30, _, _, _⟩) rfl (fun K hK => ?_) AllReadyH.nil
        go_simp
        ((refine (HO3.out _ (by first | exact (Below.refl _ _).drew | exact Below.refl _ _)).mono ?_); (rintro e wn ⟨rfl, hb⟩); (replace R1 := R1.later hb); (replace hb0 := below_step hb0 hb))
        go_wp2_with fail
        refine hK.out _ _ ?hSr65_6_5 (fun hHeld2 => ?_)
        case hSr65_6_5 => (first | exact c0 | exact cell_later hb hHeld)
        clear hK K hHeld
        have hHeld := hHeld2
        clear hHeld2
        (try simp only [Act.put, nz1, nz2, nz3])
        refine wpAnyH_ready (rs := [6]) (by kernel_rfl) (by simp) ?_
        refine AllReadyH.cons (o := ⟨none, .store 30 (.tmp 4) (.tmp 28), 0, _, _, _⟩) rfl (fun K hK => ?_) AllReadyH.nil
        ((have z0 := R1.cell 0); (have z1 := R1.cell 1); (have z2 := R1.cell 2); (have z3 := R1.cell 3); (have z4 := R1.cell 4); (simp at z0 z1 z2 z3 z4); (have zf0 := R1.frozen 0); (have zf1 := R1.frozen 1); (have zf2 := R1.frozen 2); (have zf3 := R1.frozen 3); (have zf4 := R1.frozen 4); go_simp)
        refine hK.out _ _ ?hSr65_7_6 (fun hHeld2 => ?_)
        case hSr65_7_6 => (simp [go_sem, hHeld])
        clear hK K hHeld
        have hHeld := hHeld2
        clear hHeld2
        (try simp only [Act.put, nz1, nz2, nz3])
        refine wpAnyH_done (by kernel_rfl) ?_ _
        (go_wp2_with fail; exact bodyPost_ret (v := .agg #[.int .i64 t0, .int .i64 t1, .int .u64 t2, .int .u64 t3, .string ⟨t4.toArray⟩]) (by simp [results, Try.results88, go_sem, z0, z1, z2, z3, z4]) rfl ⟨rfl, bset5 hb0 (by omega) _ _ _ _ _⟩)
end Go.Proofs.Ytbekocknfpekoaa
namespace Go.Proofs.Ytbekocknfpekoaa
set_option linter.unusedVariables false
set_option linter.unusedSimpArgs false
open Go.RowKit
set_option maxRecDepth 100000 in
set_option maxHeartbeats 8000000 in
theorem r8on_t (d : Dm) (l : Int) (k : Ke) (ok : k.ok) (w : World) : Calls Try.prog 54 #[dv d, .int .i64 l, kv k] w fun e w' => e = .returned (.bool (onD d l k)) ∧ Below w.heap.size w w' := by
  have HL := r8len_t d l
  have HR := rright_t k ok
  have hn := lenD_range d l
  have hd : onD d l k = (!decide (lenD d l = -1) && (decide (k.kind = d.kind) && (rightK k && (decide (k.len = lenD d l) || (decide (d.kind = 3) && decide (k.len < lenD d l)))))) := rfl
  clear ok
  generalize onD d l k = r at *
  generalize lenD d l = n at *
  generalize rightK k = rk at *
  obtain ⟨dk, sd, st⟩ := d
  dsimp only at *
  unfold dv kv at *
  dsimp only at *
  obtain ⟨RR0, RR1, hb0⟩ := two_rows w #[.int .i64 dk, .int .i64 sd, .int .i64 st] #[.int .i64 k.kind, .int .i64 k.len, .int .u64 k.h, .int .u64 k.l, .string ⟨k.path.toArray⟩] 23 30
  have c0 := (RR0.cell 0).trans (show _ = some (Value.int .i64 dk) from rfl)
  have c1 := (RR0.cell 1).trans (show _ = some (Value.int .i64 sd) from rfl)
  have c2 := (RR0.cell 2).trans (show _ = some (Value.int .i64 st) from rfl)
  have e0 := (RR1.cell 0).trans (show _ = some (Value.int .i64 k.kind) from rfl)
  have e1 := (RR1.cell 1).trans (show _ = some (Value.int .i64 k.len) from rfl)
  have e2 := (RR1.cell 2).trans (show _ = some (Value.int .u64 k.h) from rfl)
  have e3 := (RR1.cell 3).trans (show _ = some (Value.int .u64 k.l) from rfl)
  have e4 := (RR1.cell 4).trans (show _ = some (Value.string ⟨k.path.toArray⟩) from rfl)
  clear RR0 RR1
  by_cases h1 : n < 0
  · have e : r = false := by rw [hd]; simp; omega
    subst e
    clear hd HR
    go_enter Try.func54, Try.ntmps54
    go_wp2_with fail
    refine (HL _).mono ?_
    rintro e w1 ⟨rfl, hb⟩
    replace c0 := cell_later hb c0
    replace c1 := cell_later hb c1
    replace c2 := cell_later hb c2
    replace e0 := cell_later hb e0
    replace e1 := cell_later hb e1
    replace e2 := cell_later hb e2
    replace e3 := cell_later hb e3
    replace e4 := cell_later hb e4
    replace hb0 := below_step hb0 hb
    clear hb
    have lc := World.block_lt_of_cell? _ _ c0
    dsimp only at lc
    have le := World.block_lt_of_cell? _ _ e0
    dsimp only at le
    go_wp2
    go_ret
    exact ⟨rfl, hb0⟩
  have h1' : ¬ n = -1 := by omega
  have h1b : decide (n < 0) = false := decide_eq_false h1
  cases rk with
  | false =>
    have e : r = false := by rw [hd]; simp
    subst e
    clear hd
    go_enter Try.func54, Try.ntmps54
    go_wp2_with fail
    refine (HL _).mono ?_
    rintro e w2 ⟨rfl, hb⟩
    replace c0 := cell_later hb c0
    replace c1 := cell_later hb c1
    replace c2 := cell_later hb c2
    replace e0 := cell_later hb e0
    replace e1 := cell_later hb e1
    replace e2 := cell_later hb e2
    replace e3 := cell_later hb e3
    replace e4 := cell_later hb e4
    replace hb0 := below_step hb0 hb
    clear hb
    have lc := World.block_lt_of_cell? _ _ c0
    dsimp only at lc
    have le := World.block_lt_of_cell? _ _ e0
    dsimp only at le
    go_wp2_with fail
    refine (HR _).mono ?_
    rintro e w3 ⟨rfl, hb⟩
    replace c0 := cell_later hb c0
    replace c1 := cell_later hb c1
    replace c2 := cell_later hb c2
    replace e0 := cell_later hb e0
    replace e1 := cell_later hb e1
    replace e2 := cell_later hb e2
    replace e3 := cell_later hb e3
    replace e4 := cell_later hb e4
    replace hb0 := below_step hb0 hb
    clear hb
    have lc := World.block_lt_of_cell? _ _ c0
    dsimp only at lc
    have le := World.block_lt_of_cell? _ _ e0
    dsimp only at le
    go_wp2
    go_ret
    exact ⟨rfl, hb0⟩
  | true =>
    by_cases h2 : k.kind = dk
    · subst h2
      have hd2 : r = (decide (k.len = n) || (decide (k.kind = 3) && decide (k.len < n))) := by rw [hd]; simp [h1']
      clear hd
      by_cases h4 : k.kind = 3
      · obtain ⟨kk, kn, kh, kl, kp⟩ := k
        dsimp only at *
        subst h4
        have e : r = decide (kn ≤ n) := by
          rw [hd2, Bool.eq_iff_iff]
          simp only [Bool.or_eq_true, Bool.and_eq_true, decide_eq_true_eq, true_and]
          constructor
          · rintro (h | h) <;> omega
          · intro h; omega
        subst e
        clear hd2
        go_enter Try.func54, Try.ntmps54
        go_wp2_with fail
        refine (HL _).mono ?_
        rintro e w4 ⟨rfl, hb⟩
        replace c0 := cell_later hb c0
        replace c1 := cell_later hb c1
        replace c2 := cell_later hb c2
        replace e0 := cell_later hb e0
        replace e1 := cell_later hb e1
        replace e2 := cell_later hb e2
        replace e3 := cell_later hb e3
        replace e4 := cell_later hb e4
        replace hb0 := below_step hb0 hb
        clear hb
        have lc := World.block_lt_of_cell? _ _ c0
        dsimp only at lc
        have le := World.block_lt_of_cell? _ _ e0
        dsimp only at le
        go_wp2_with fail
        refine (HR _).mono ?_
        rintro e w5 ⟨rfl, hb⟩
        replace c0 := cell_later hb c0
        replace c1 := cell_later hb c1
        replace c2 := cell_later hb c2
        replace e0 := cell_later hb e0
        replace e1 := cell_later hb e1
        replace e2 := cell_later hb e2
        replace e3 := cell_later hb e3
        replace e4 := cell_later hb e4
        replace hb0 := below_step hb0 hb
        clear hb
        have lc := World.block_lt_of_cell? _ _ c0
        dsimp only at lc
        have le := World.block_lt_of_cell? _ _ e0
        dsimp only at le
        go_wp2
        go_ret
        exact ⟨rfl, hb0⟩
      · have h4' : (k.kind == 3) = false := by simpa using h4
        have e : r = (k.len == n) := by
          rw [hd2, Bool.eq_iff_iff]
          simp [h4]
        subst e
        clear hd2
        go_enter Try.func54, Try.ntmps54
        go_wp2_with fail
        refine (HL _).mono ?_
        rintro e w6 ⟨rfl, hb⟩
        replace c0 := cell_later hb c0
        replace c1 := cell_later hb c1
        replace c2 := cell_later hb c2
        replace e0 := cell_later hb e0
        replace e1 := cell_later hb e1
        replace e2 := cell_later hb e2
        replace e3 := cell_later hb e3
        replace e4 := cell_later hb e4
        replace hb0 := below_step hb0 hb
        clear hb
        have lc := World.block_lt_of_cell? _ _ c0
        dsimp only at lc
        have le := World.block_lt_of_cell? _ _ e0
        dsimp only at le
        go_wp2_with fail
        refine (HR _).mono ?_
        rintro e w7 ⟨rfl, hb⟩
        replace c0 := cell_later hb c0
        replace c1 := cell_later hb c1
        replace c2 := cell_later hb c2
        replace e0 := cell_later hb e0
        replace e1 := cell_later hb e1
        replace e2 := cell_later hb e2
        replace e3 := cell_later hb e3
        replace e4 := cell_later hb e4
        replace hb0 := below_step hb0 hb
        clear hb
        have lc := World.block_lt_of_cell? _ _ c0
        dsimp only at lc
        have le := World.block_lt_of_cell? _ _ e0
        dsimp only at le
        go_wp2
        go_ret
        exact ⟨by simp, hb0⟩
    · have h2' : (k.kind == dk) = false := by simpa using h2
      have e : r = false := by rw [hd]; simp [h2]
      subst e
      clear hd
      go_enter Try.func54, Try.ntmps54
      go_wp2_with fail
      refine (HL _).mono ?_
      rintro e w8 ⟨rfl, hb⟩
      replace c0 := cell_later hb c0
      replace c1 := cell_later hb c1
      replace c2 := cell_later hb c2
      replace e0 := cell_later hb e0
      replace e1 := cell_later hb e1
      replace e2 := cell_later hb e2
      replace e3 := cell_later hb e3
      replace e4 := cell_later hb e4
      replace hb0 := below_step hb0 hb
      clear hb
      have lc := World.block_lt_of_cell? _ _ c0
      dsimp only at lc
      have le := World.block_lt_of_cell? _ _ e0
      dsimp only at le
      go_wp2_with fail
      refine (HR _).mono ?_
      rintro e w9 ⟨rfl, hb⟩
      replace c0 := cell_later hb c0
      replace c1 := cell_later hb c1
      replace c2 := cell_later hb c2
      replace e0 := cell_later hb e0
      replace e1 := cell_later hb e1
      replace e2 := cell_later hb e2
      replace e3 := cell_later hb e3
      replace e4 := cell_later hb e4
      replace hb0 := below_step hb0 hb
      clear hb
      have lc := World.block_lt_of_cell? _ _ c0
      dsimp only at lc
      have le := World.block_lt_of_cell? _ _ e0
      dsimp only at le
      go_wp2
      go_ret
      exact ⟨rfl, hb0⟩
set_option maxRecDepth 100000 in
set_option maxHeartbeats 8000000 in
theorem r8cut_t (d : Dm) (l : Int) (k : Ke) (ok : k.ok) (w : World) : Calls Try.prog 62 #[dv d, .int .i64 l, kv k] w fun e w' => e = .returned (kv (cutD d l k)) ∧ Below w.heap.size w w' := by
  have HL := r8len_t d l
  have HR := rright_t k ok
  have hn := lenD_range d l
  have HC := rcut_t k ok (lenD d l)
  have hcase : (lenD d l < 0 ∨ rightK k = false ∨ ¬ k.kind = d.kind) → cutD d l k = kz := fun h => by
    unfold cutD
    by_cases a : lenD d l = -1 ∨ ¬ k.kind = d.kind
    · rw [if_pos a]
    · rw [if_neg a]
      rcases h with h | h | h
      · exact absurd (.inl (by omega)) a
      · exact cut_bad h _
      · exact absurd (.inr h) a
  have hgo : ¬ lenD d l < 0 → k.kind = d.kind → cutD d l k = cutK k (lenD d l) := fun h1 h2 => by
    unfold cutD; rw [if_neg (by rintro (a | a); omega; exact a h2)]
  clear ok
  generalize cutK k (lenD d l) = t at *
  generalize cutD d l k = r at *
  generalize lenD d l = n at *
  generalize rightK k = rk at *
  obtain ⟨dk, sd, st⟩ := d
  dsimp only at *
  unfold dv at *
  dsimp only at *
  obtain ⟨R0, R1, R2, hb0⟩ := three_rows w #[.int .i64 dk, .int .i64 sd, .int .i64 st] #[.int .i64 k.kind, .int .i64 k.len, .int .u64 k.h, .int .u64 k.l, .string ⟨k.path.toArray⟩] #[.int .i64 0, .int .i64 0, .int .u64 0, .int .u64 0, .string ⟨#[]⟩] 23 30 30
  by_cases h1 : n < 0
  · obtain rfl := hcase (.inl h1)
    clear HC HR hcase hgo R0 R1
    unfold kv kz
    dsimp only
    go_enter Try.func62, Try.ntmps62
    go_wp2_with fail
    refine (HL _).mono ?_
    rintro e w1 ⟨rfl, hb⟩
    replace R2 := R2.later hb
    replace hb0 := below_step hb0 hb
    clear hb
    have z0 := ((R2).cell 0).trans (show _ = some (Value.int .i64 0) from rfl)
    have zf0 := (R2).frozen 0
    have z1 := ((R2).cell 1).trans (show _ = some (Value.int .i64 0) from rfl)
    have zf1 := (R2).frozen 1
    have z2 := ((R2).cell 2).trans (show _ = some (Value.int .u64 0) from rfl)
    have zf2 := (R2).frozen 2
    have z3 := ((R2).cell 3).trans (show _ = some (Value.int .u64 0) from rfl)
    have zf3 := (R2).frozen 3
    have z4 := ((R2).cell 4).trans (show _ = some (Value.string ⟨#[]⟩) from rfl)
    have zf4 := (R2).frozen 4
    clear R2
    go_wp2
    refine bodyPost_ret (v := .agg #[.int .i64 0, .int .i64 0, .int .u64 0, .int .u64 0, .string ⟨#[]⟩]) (by simp [results, Try.results62, go_sem, z0, z1, z2, z3, z4]) rfl ⟨rfl, bset5 hb0 (by omega) _ _ _ _ _⟩
  have h1b : decide (n < 0) = false := decide_eq_false h1
  cases rk with
  | false =>
    obtain rfl := hcase (.inr (.inl rfl))
    clear HC hcase hgo R0
    unfold kv kz at *
    dsimp only
    go_enter Try.func62, Try.ntmps62
    go_wp2_with fail
    refine (HL _).mono ?_
    rintro e w1 ⟨rfl, hb⟩
    replace R1 := R1.later hb
    replace R2 := R2.later hb
    replace hb0 := below_step hb0 hb
    clear hb
    have d0 := ((R1).cell 0).trans (show _ = some (Value.int .i64 k.kind) from rfl)
    have df0 := (R1).frozen 0
    have d1 := ((R1).cell 1).trans (show _ = some (Value.int .i64 k.len) from rfl)
    have df1 := (R1).frozen 1
    have d2 := ((R1).cell 2).trans (show _ = some (Value.int .u64 k.h) from rfl)
    have df2 := (R1).frozen 2
    have d3 := ((R1).cell 3).trans (show _ = some (Value.int .u64 k.l) from rfl)
    have df3 := (R1).frozen 3
    have d4 := ((R1).cell 4).trans (show _ = some (Value.string ⟨k.path.toArray⟩) from rfl)
    have df4 := (R1).frozen 4
    clear R1
    go_wp2_with fail
    refine (HR _).mono ?_
    rintro e w2 ⟨rfl, hb⟩
    replace R2 := R2.later hb
    replace hb0 := below_step hb0 hb
    clear hb d0 d1 d2 d3 d4 df0 df1 df2 df3 df4
    have z0 := ((R2).cell 0).trans (show _ = some (Value.int .i64 0) from rfl)
    have zf0 := (R2).frozen 0
    have z1 := ((R2).cell 1).trans (show _ = some (Value.int .i64 0) from rfl)
    have zf1 := (R2).frozen 1
    have z2 := ((R2).cell 2).trans (show _ = some (Value.int .u64 0) from rfl)
    have zf2 := (R2).frozen 2
    have z3 := ((R2).cell 3).trans (show _ = some (Value.int .u64 0) from rfl)
    have zf3 := (R2).frozen 3
    have z4 := ((R2).cell 4).trans (show _ = some (Value.string ⟨#[]⟩) from rfl)
    have zf4 := (R2).frozen 4
    clear R2
    go_wp2
    refine bodyPost_ret (v := .agg #[.int .i64 0, .int .i64 0, .int .u64 0, .int .u64 0, .string ⟨#[]⟩]) (by simp [results, Try.results62, go_sem, z0, z1, z2, z3, z4]) rfl ⟨rfl, bset5 hb0 (by omega) _ _ _ _ _⟩
  | true =>
    by_cases h2 : k.kind = dk
    · obtain rfl := hgo h1 h2
      clear hcase hgo
      obtain ⟨kk, kn, kh, kl, kp⟩ := k
      dsimp only at *
      subst h2
      obtain ⟨t0, t1, t2, t3, t4⟩ := r
      unfold kv at *
      dsimp only at *
      go_enter Try.func62, Try.ntmps62
      go_wp2_with fail
      refine (HL _).mono ?_
      rintro e w1 ⟨rfl, hb⟩
      replace R0 := R0.later hb
      replace R1 := R1.later hb
      replace R2 := R2.later hb
      replace hb0 := below_step hb0 hb
      clear hb HL
      have d0 := ((R1).cell 0).trans (show _ = some (Value.int .i64 kk) from rfl)
      have df0 := (R1).frozen 0
      have d1 := ((R1).cell 1).trans (show _ = some (Value.int .i64 kn) from rfl)
      have df1 := (R1).frozen 1
      have d2 := ((R1).cell 2).trans (show _ = some (Value.int .u64 kh) from rfl)
      have df2 := (R1).frozen 2
      have d3 := ((R1).cell 3).trans (show _ = some (Value.int .u64 kl) from rfl)
      have df3 := (R1).frozen 3
      have d4 := ((R1).cell 4).trans (show _ = some (Value.string ⟨kp.toArray⟩) from rfl)
      have df4 := (R1).frozen 4
      go_wp2_with fail
      refine (HR _).mono ?_
      rintro e w2 ⟨rfl, hb⟩
      have a0 := ((R0.later hb).cell 0).trans (show _ = some (Value.int .i64 kk) from rfl)
      replace R1 := R1.later hb
      replace R2 := R2.later hb
      replace hb0 := below_step hb0 hb
      clear hb HR d0 d1 d2 d3 d4 df0 df1 df2 df3 df4 R0
      have d0 := ((R1).cell 0).trans (show _ = some (Value.int .i64 kk) from rfl)
      have df0 := (R1).frozen 0
      have d1 := ((R1).cell 1).trans (show _ = some (Value.int .i64 kn) from rfl)
      have df1 := (R1).frozen 1
      have d2 := ((R1).cell 2).trans (show _ = some (Value.int .u64 kh) from rfl)
      have df2 := (R1).frozen 2
      have d3 := ((R1).cell 3).trans (show _ = some (Value.int .u64 kl) from rfl)
      have df3 := (R1).frozen 3
      have d4 := ((R1).cell 4).trans (show _ = some (Value.string ⟨kp.toArray⟩) from rfl)
      have df4 := (R1).frozen 4
      clear R1
      go_wp2_with fail
      refine (HC _).mono ?_
      rintro e w3 ⟨rfl, hb⟩
      replace R2 := R2.later hb
      replace hb0 := below_step hb0 hb
      clear hb HC a0 d0 d1 d2 d3 d4 df0 df1 df2 df3 df4
      have z0 := ((R2).cell 0).trans (show _ = some (Value.int .i64 0) from rfl)
      have zf0 := (R2).frozen 0
      have z1 := ((R2).cell 1).trans (show _ = some (Value.int .i64 0) from rfl)
      have zf1 := (R2).frozen 1
      have z2 := ((R2).cell 2).trans (show _ = some (Value.int .u64 0) from rfl)
      have zf2 := (R2).frozen 2
      have z3 := ((R2).cell 3).trans (show _ = some (Value.int .u64 0) from rfl)
      have zf3 := (R2).frozen 3
      have z4 := ((R2).cell 4).trans (show _ = some (Value.string ⟨#[]⟩) from rfl)
      have zf4 := (R2).frozen 4
      clear R2
      go_wp2
      refine bodyPost_ret (v := .agg #[.int .i64 t0, .int .i64 t1, .int .u64 t2, .int .u64 t3, .string ⟨t4.toArray⟩]) (by simp [results, Try.results62, go_sem, z0, z1, z2, z3, z4]) rfl ⟨rfl, bset5 hb0 (by omega) _ _ _ _ _⟩
    · obtain rfl := hcase (.inr (.inr h2))
      have h2' : (k.kind == dk) = false := by simpa using h2
      clear HC hcase hgo
      unfold kv kz at *
      dsimp only
      go_enter Try.func62, Try.ntmps62
      go_wp2_with fail
      refine (HL _).mono ?_
      rintro e w1 ⟨rfl, hb⟩
      replace R0 := R0.later hb
      replace R1 := R1.later hb
      replace R2 := R2.later hb
      replace hb0 := below_step hb0 hb
      clear hb HL
      have d0 := ((R1).cell 0).trans (show _ = some (Value.int .i64 k.kind) from rfl)
      have df0 := (R1).frozen 0
      have d1 := ((R1).cell 1).trans (show _ = some (Value.int .i64 k.len) from rfl)
      have df1 := (R1).frozen 1
      have d2 := ((R1).cell 2).trans (show _ = some (Value.int .u64 k.h) from rfl)
      have df2 := (R1).frozen 2
      have d3 := ((R1).cell 3).trans (show _ = some (Value.int .u64 k.l) from rfl)
      have df3 := (R1).frozen 3
      have d4 := ((R1).cell 4).trans (show _ = some (Value.string ⟨k.path.toArray⟩) from rfl)
      have df4 := (R1).frozen 4
      go_wp2_with fail
      refine (HR _).mono ?_
      rintro e w2 ⟨rfl, hb⟩
      have a0 := ((R0.later hb).cell 0).trans (show _ = some (Value.int .i64 dk) from rfl)
      have b0 := ((R1.later hb).cell 0).trans (show _ = some (Value.int .i64 k.kind) from rfl)
      replace R2 := R2.later hb
      replace hb0 := below_step hb0 hb
      clear hb HR d0 d1 d2 d3 d4 df0 df1 df2 df3 df4 R0 R1
      have z0 := ((R2).cell 0).trans (show _ = some (Value.int .i64 0) from rfl)
      have zf0 := (R2).frozen 0
      have z1 := ((R2).cell 1).trans (show _ = some (Value.int .i64 0) from rfl)
      have zf1 := (R2).frozen 1
      have z2 := ((R2).cell 2).trans (show _ = some (Value.int .u64 0) from rfl)
      have zf2 := (R2).frozen 2
      have z3 := ((R2).cell 3).trans (show _ = some (Value.int .u64 0) from rfl)
      have zf3 := (R2).frozen 3
      have z4 := ((R2).cell 4).trans (show _ = some (Value.string ⟨#[]⟩) from rfl)
      have zf4 := (R2).frozen 4
      clear R2
      go_wp2
      refine bodyPost_ret (v := .agg #[.int .i64 0, .int .i64 0, .int .u64 0, .int .u64 0, .string ⟨#[]⟩]) (by simp [results, Try.results62, go_sem, z0, z1, z2, z3, z4]) rfl ⟨rfl, bset5 hb0 (by omega) _ _ _ _ _⟩
end Go.Proofs.Ytbekocknfpekoaa
namespace Go.Proofs.Ytbekocknfpekoaa
set_option linter.unusedVariables false
set_option linter.unusedSimpArgs false
open Go.RowKit
set_option maxRecDepth 100000 in
set_option maxHeartbeats 32000000 in
theorem rsound_a (n : Int) (d0 d1 : Dm) (r1 : Bool)
    (H0 : ∀ w, Calls Try.prog 52 #[dv d0] w fun e w' => e = .returned (.bool false) ∧ Below w.heap.size w w') (w : World) :
    Calls Try.prog 19 #[sv ⟨1, d0, d1⟩] w fun e w' => e = .returned (.bool false) ∧ Below w.heap.size w w' := by
  have q1 := dz_eql d1
  unfold sv at *
  (try unfold dv at *)
  (try dsimp only at *)
  obtain ⟨Rc, hb0⟩ := one_row w #[.int .i64 1, .int .i64 d0.kind, .int .i64 d0.side, .int .i64 d0.step, .int .i64 d1.kind, .int .i64 d1.side, .int .i64 d1.step] 26
  (try clear c0 c1 c2 c3 c4 c5 c6); obtain ⟨c0, c1, c2, c3, c4, c5, c6⟩ := row7 Rc
  go_enter Try.func19, Try.ntmps19
  go_wp2_with fail
  refine (H0 _).mono ?_
  rintro e w1 ⟨rfl, hb⟩
  replace Rc := Rc.later hb
  replace hb0 := below_step hb0 hb
  clear hb
  have lc := Rc.lt
  (try clear c0 c1 c2 c3 c4 c5 c6); obtain ⟨c0, c1, c2, c3, c4, c5, c6⟩ := row7 Rc
  go_wp2
  go_ret
  exact ⟨rfl, hb0⟩
set_option maxRecDepth 100000 in
set_option maxHeartbeats 32000000 in
theorem rsound_b (n : Int) (d0 d1 : Dm) (r1 : Bool)
    (H0 : ∀ w, Calls Try.prog 52 #[dv d0] w fun e w' => e = .returned (.bool true) ∧ Below w.heap.size w w') (w : World) :
    Calls Try.prog 19 #[sv ⟨1, d0, d1⟩] w fun e w' => e = .returned (.bool (decide (d1 = dz))) ∧ Below w.heap.size w w' := by
  have q1 := dz_eql d1
  generalize decide (d1 = dz) = z1 at *
  unfold sv at *
  (try unfold dv at *)
  (try dsimp only at *)
  obtain ⟨Rc, hb0⟩ := one_row w #[.int .i64 1, .int .i64 d0.kind, .int .i64 d0.side, .int .i64 d0.step, .int .i64 d1.kind, .int .i64 d1.side, .int .i64 d1.step] 26
  (try clear c0 c1 c2 c3 c4 c5 c6); obtain ⟨c0, c1, c2, c3, c4, c5, c6⟩ := row7 Rc
  go_enter Try.func19, Try.ntmps19
  go_wp2_with fail
  refine (H0 _).mono ?_
  rintro e w1 ⟨rfl, hb⟩
  replace Rc := Rc.later hb
  replace hb0 := below_step hb0 hb
  clear hb
  have lc := Rc.lt
  (try clear c0 c1 c2 c3 c4 c5 c6); obtain ⟨c0, c1, c2, c3, c4, c5, c6⟩ := row7 Rc
  go_wp2
  go_ret
  exact ⟨rfl, hb0⟩
set_option maxRecDepth 100000 in
set_option maxHeartbeats 32000000 in
theorem rsound_c (n : Int) (d0 d1 : Dm) (r1 : Bool)
    (h1 : ¬ n = 1) (h2 : ¬ n = 2) (w : World) :
    Calls Try.prog 19 #[sv ⟨n, d0, d1⟩] w fun e w' => e = .returned (.bool false) ∧ Below w.heap.size w w' := by
  have q1 := dz_eql d1
  have n1 : (n == 1) = false := by simpa using h1
  have n2 : (n == 2) = false := by simpa using h2
  unfold sv at *
  (try unfold dv at *)
  (try dsimp only at *)
  obtain ⟨Rc, hb0⟩ := one_row w #[.int .i64 n, .int .i64 d0.kind, .int .i64 d0.side, .int .i64 d0.step, .int .i64 d1.kind, .int .i64 d1.side, .int .i64 d1.step] 26
  (try clear c0 c1 c2 c3 c4 c5 c6); obtain ⟨c0, c1, c2, c3, c4, c5, c6⟩ := row7 Rc
  go_enter Try.func19, Try.ntmps19
  go_wp2
  go_ret
  exact ⟨rfl, hb0⟩
set_option maxRecDepth 100000 in
set_option maxHeartbeats 32000000 in
theorem rsound_d (n : Int) (d0 d1 : Dm) (r1 : Bool)
    (H0 : ∀ w, Calls Try.prog 52 #[dv d0] w fun e w' => e = .returned (.bool false) ∧ Below w.heap.size w w') (w : World) :
    Calls Try.prog 19 #[sv ⟨2, d0, d1⟩] w fun e w' => e = .returned (.bool false) ∧ Below w.heap.size w w' := by
  have q1 := dz_eql d1
  unfold sv at *
  (try unfold dv at *)
  (try dsimp only at *)
  obtain ⟨Rc, hb0⟩ := one_row w #[.int .i64 2, .int .i64 d0.kind, .int .i64 d0.side, .int .i64 d0.step, .int .i64 d1.kind, .int .i64 d1.side, .int .i64 d1.step] 26
  (try clear c0 c1 c2 c3 c4 c5 c6); obtain ⟨c0, c1, c2, c3, c4, c5, c6⟩ := row7 Rc
  go_enter Try.func19, Try.ntmps19
  go_wp2_with fail
  refine (H0 _).mono ?_
  rintro e w1 ⟨rfl, hb⟩
  replace Rc := Rc.later hb
  replace hb0 := below_step hb0 hb
  clear hb
  have lc := Rc.lt
  (try clear c0 c1 c2 c3 c4 c5 c6); obtain ⟨c0, c1, c2, c3, c4, c5, c6⟩ := row7 Rc
  go_wp2
  go_ret
  exact ⟨rfl, hb0⟩
set_option maxRecDepth 100000 in
set_option maxHeartbeats 32000000 in
theorem rsound_e (n : Int) (d0 d1 : Dm) (r1 : Bool)
    (H0 : ∀ w, Calls Try.prog 52 #[dv d0] w fun e w' => e = .returned (.bool true) ∧ Below w.heap.size w w')
    (H1 : ∀ w, Calls Try.prog 52 #[dv d1] w fun e w' => e = .returned (.bool r1) ∧ Below w.heap.size w w') (w : World) :
    Calls Try.prog 19 #[sv ⟨2, d0, d1⟩] w fun e w' => e = .returned (.bool r1) ∧ Below w.heap.size w w' := by
  have q1 := dz_eql d1
  unfold sv at *
  (try unfold dv at *)
  (try dsimp only at *)
  obtain ⟨Rc, hb0⟩ := one_row w #[.int .i64 2, .int .i64 d0.kind, .int .i64 d0.side, .int .i64 d0.step, .int .i64 d1.kind, .int .i64 d1.side, .int .i64 d1.step] 26
  (try clear c0 c1 c2 c3 c4 c5 c6); obtain ⟨c0, c1, c2, c3, c4, c5, c6⟩ := row7 Rc
  go_enter Try.func19, Try.ntmps19
  go_wp2_with fail
  refine (H0 _).mono ?_
  rintro e w1 ⟨rfl, hb⟩
  replace Rc := Rc.later hb
  replace hb0 := below_step hb0 hb
  clear hb
  have lc := Rc.lt
  (try clear c0 c1 c2 c3 c4 c5 c6); obtain ⟨c0, c1, c2, c3, c4, c5, c6⟩ := row7 Rc
  go_wp2_with fail
  refine (H1 _).mono ?_
  rintro e w2 ⟨rfl, hb⟩
  replace Rc := Rc.later hb
  replace hb0 := below_step hb0 hb
  clear hb
  have lc := Rc.lt
  (try clear c0 c1 c2 c3 c4 c5 c6); obtain ⟨c0, c1, c2, c3, c4, c5, c6⟩ := row7 Rc
  go_wp2
  go_ret
  exact ⟨rfl, hb0⟩
theorem rsound_t (s : Sp) (w : World) : Calls Try.prog 19 #[sv s] w fun e w' => e = .returned (.bool (soundS s)) ∧ Below w.heap.size w w' := by
  have H0 := r8right_t s.d0
  have H1 := r8right_t s.d1
  unfold soundS
  obtain ⟨n, d0, d1⟩ := s
  dsimp only at *
  by_cases h1 : n = 1
  · subst h1
    rw [if_pos rfl]
    cases hr : rightD d0 with
    | false => rw [hr] at H0; exact rsound_a 1 d0 d1 false H0 w
    | true => rw [hr] at H0; exact rsound_b 1 d0 d1 false H0 w
  · rw [if_neg h1]
    by_cases h2 : n = 2
    · subst h2
      rw [decide_eq_true rfl, Bool.true_and]
      cases hr : rightD d0 with
      | false => rw [hr] at H0; exact rsound_d 1 d0 d1 false H0 w
      | true => rw [hr] at H0; exact rsound_e 1 d0 d1 _ H0 H1 w
    · rw [decide_eq_false h2]
      exact rsound_c n d0 d1 false h1 h2 w
set_option maxRecDepth 100000 in
set_option maxHeartbeats 32000000 in
theorem rright_a (n : Int) (d0 d1 : Dm) (p : Px) (r1 : Bool)
    (HS : ∀ w, Calls Try.prog 19 #[sv ⟨n, d0, d1⟩] w fun e w' => e = .returned (.bool false) ∧ Below w.heap.size w w') (w : World) :
    Calls Try.prog 21 #[sv ⟨n, d0, d1⟩, pv p] w fun e w' => e = .returned (.bool false) ∧ Below w.heap.size w w' := by
  have q := eql_key
  have HE := kz_eqK p.k1
  unfold sv at *
  unfold pv
  (try unfold dv kv at *)
  (try dsimp only at *)
  obtain ⟨Rc, Ry, hb0⟩ := two_rows w #[.int .i64 n, .int .i64 d0.kind, .int .i64 d0.side, .int .i64 d0.step, .int .i64 d1.kind, .int .i64 d1.side, .int .i64 d1.step] #[.int .i64 p.a0, .int .i64 p.a1, .int .i64 p.k0.kind, .int .i64 p.k0.len, .int .u64 p.k0.h, .int .u64 p.k0.l, .string ⟨p.k0.path.toArray⟩, .int .i64 p.k1.kind, .int .i64 p.k1.len, .int .u64 p.k1.h, .int .u64 p.k1.l, .string ⟨p.k1.path.toArray⟩] 26 33
  (try clear c0 c1 c2 c3 c4 c5 c6); obtain ⟨c0, c1, c2, c3, c4, c5, c6⟩ := row7 Rc
  (try clear y0 y1 y2 y3 y4 y5 y6 y7 y8 y9 y10 y11); obtain ⟨y0, y1, y2, y3, y4, y5, y6, y7, y8, y9, y10, y11⟩ := row12 Ry
  go_enter Try.func21, Try.ntmps21
  go_wp2_with fail
  refine (HS _).mono ?_
  rintro e w1 ⟨rfl, hb⟩
  replace Rc := Rc.later hb
  replace Ry := Ry.later hb
  replace hb0 := below_step hb0 hb
  clear hb
  have lc := Rc.lt
  have ly := Ry.lt
  (try clear c0 c1 c2 c3 c4 c5 c6); obtain ⟨c0, c1, c2, c3, c4, c5, c6⟩ := row7 Rc
  (try clear y0 y1 y2 y3 y4 y5 y6 y7 y8 y9 y10 y11); obtain ⟨y0, y1, y2, y3, y4, y5, y6, y7, y8, y9, y10, y11⟩ := row12 Ry
  go_wp2
  go_ret
  exact ⟨by first | rfl | simp [HE], hb0⟩
set_option maxRecDepth 100000 in
set_option maxHeartbeats 32000000 in
theorem rright_b (n : Int) (d0 d1 : Dm) (p : Px) (r1 : Bool)
    (HS : ∀ w, Calls Try.prog 19 #[sv ⟨n, d0, d1⟩] w fun e w' => e = .returned (.bool true) ∧ Below w.heap.size w w')
    (H0 : ∀ w, Calls Try.prog 54 #[dv d0, .int .i64 p.a0, kv p.k0] w fun e w' => e = .returned (.bool false) ∧ Below w.heap.size w w') (w : World) :
    Calls Try.prog 21 #[sv ⟨n, d0, d1⟩, pv p] w fun e w' => e = .returned (.bool false) ∧ Below w.heap.size w w' := by
  have q := eql_key
  have HE := kz_eqK p.k1
  unfold sv at *
  unfold pv
  (try unfold dv kv at *)
  (try dsimp only at *)
  obtain ⟨Rc, Ry, hb0⟩ := two_rows w #[.int .i64 n, .int .i64 d0.kind, .int .i64 d0.side, .int .i64 d0.step, .int .i64 d1.kind, .int .i64 d1.side, .int .i64 d1.step] #[.int .i64 p.a0, .int .i64 p.a1, .int .i64 p.k0.kind, .int .i64 p.k0.len, .int .u64 p.k0.h, .int .u64 p.k0.l, .string ⟨p.k0.path.toArray⟩, .int .i64 p.k1.kind, .int .i64 p.k1.len, .int .u64 p.k1.h, .int .u64 p.k1.l, .string ⟨p.k1.path.toArray⟩] 26 33
  (try clear c0 c1 c2 c3 c4 c5 c6); obtain ⟨c0, c1, c2, c3, c4, c5, c6⟩ := row7 Rc
  (try clear y0 y1 y2 y3 y4 y5 y6 y7 y8 y9 y10 y11); obtain ⟨y0, y1, y2, y3, y4, y5, y6, y7, y8, y9, y10, y11⟩ := row12 Ry
  go_enter Try.func21, Try.ntmps21
  go_wp2_with fail
  refine (HS _).mono ?_
  rintro e w1 ⟨rfl, hb⟩
  replace Rc := Rc.later hb
  replace Ry := Ry.later hb
  replace hb0 := below_step hb0 hb
  clear hb
  have lc := Rc.lt
  have ly := Ry.lt
  (try clear c0 c1 c2 c3 c4 c5 c6); obtain ⟨c0, c1, c2, c3, c4, c5, c6⟩ := row7 Rc
  (try clear y0 y1 y2 y3 y4 y5 y6 y7 y8 y9 y10 y11); obtain ⟨y0, y1, y2, y3, y4, y5, y6, y7, y8, y9, y10, y11⟩ := row12 Ry
  go_wp2_with fail
  refine (H0 _).mono ?_
  rintro e w2 ⟨rfl, hb⟩
  replace Rc := Rc.later hb
  replace Ry := Ry.later hb
  replace hb0 := below_step hb0 hb
  clear hb
  have lc := Rc.lt
  have ly := Ry.lt
  (try clear c0 c1 c2 c3 c4 c5 c6); obtain ⟨c0, c1, c2, c3, c4, c5, c6⟩ := row7 Rc
  (try clear y0 y1 y2 y3 y4 y5 y6 y7 y8 y9 y10 y11); obtain ⟨y0, y1, y2, y3, y4, y5, y6, y7, y8, y9, y10, y11⟩ := row12 Ry
  go_wp2
  go_ret
  exact ⟨by first | rfl | simp [HE], hb0⟩
set_option maxRecDepth 100000 in
set_option maxHeartbeats 32000000 in
theorem rright_c (n : Int) (d0 d1 : Dm) (p : Px) (r1 : Bool)
    (HS : ∀ w, Calls Try.prog 19 #[sv ⟨1, d0, d1⟩] w fun e w' => e = .returned (.bool true) ∧ Below w.heap.size w w')
    (H0 : ∀ w, Calls Try.prog 54 #[dv d0, .int .i64 p.a0, kv p.k0] w fun e w' => e = .returned (.bool true) ∧ Below w.heap.size w w')
    (ha : ¬ p.a1 = 0) (w : World) :
    Calls Try.prog 21 #[sv ⟨1, d0, d1⟩, pv p] w fun e w' => e = .returned (.bool false) ∧ Below w.heap.size w w' := by
  have q := eql_key
  have HE := kz_eqK p.k1
  have ha' : (p.a1 == 0) = false := by simpa using ha
  unfold sv at *
  unfold pv
  (try unfold dv kv at *)
  (try dsimp only at *)
  obtain ⟨Rc, Ry, hb0⟩ := two_rows w #[.int .i64 1, .int .i64 d0.kind, .int .i64 d0.side, .int .i64 d0.step, .int .i64 d1.kind, .int .i64 d1.side, .int .i64 d1.step] #[.int .i64 p.a0, .int .i64 p.a1, .int .i64 p.k0.kind, .int .i64 p.k0.len, .int .u64 p.k0.h, .int .u64 p.k0.l, .string ⟨p.k0.path.toArray⟩, .int .i64 p.k1.kind, .int .i64 p.k1.len, .int .u64 p.k1.h, .int .u64 p.k1.l, .string ⟨p.k1.path.toArray⟩] 26 33
  (try clear c0 c1 c2 c3 c4 c5 c6); obtain ⟨c0, c1, c2, c3, c4, c5, c6⟩ := row7 Rc
  (try clear y0 y1 y2 y3 y4 y5 y6 y7 y8 y9 y10 y11); obtain ⟨y0, y1, y2, y3, y4, y5, y6, y7, y8, y9, y10, y11⟩ := row12 Ry
  go_enter Try.func21, Try.ntmps21
  go_wp2_with fail
  refine (HS _).mono ?_
  rintro e w1 ⟨rfl, hb⟩
  replace Rc := Rc.later hb
  replace Ry := Ry.later hb
  replace hb0 := below_step hb0 hb
  clear hb
  have lc := Rc.lt
  have ly := Ry.lt
  (try clear c0 c1 c2 c3 c4 c5 c6); obtain ⟨c0, c1, c2, c3, c4, c5, c6⟩ := row7 Rc
  (try clear y0 y1 y2 y3 y4 y5 y6 y7 y8 y9 y10 y11); obtain ⟨y0, y1, y2, y3, y4, y5, y6, y7, y8, y9, y10, y11⟩ := row12 Ry
  go_wp2_with fail
  refine (H0 _).mono ?_
  rintro e w2 ⟨rfl, hb⟩
  replace Rc := Rc.later hb
  replace Ry := Ry.later hb
  replace hb0 := below_step hb0 hb
  clear hb
  have lc := Rc.lt
  have ly := Ry.lt
  (try clear c0 c1 c2 c3 c4 c5 c6); obtain ⟨c0, c1, c2, c3, c4, c5, c6⟩ := row7 Rc
  (try clear y0 y1 y2 y3 y4 y5 y6 y7 y8 y9 y10 y11); obtain ⟨y0, y1, y2, y3, y4, y5, y6, y7, y8, y9, y10, y11⟩ := row12 Ry
  go_wp2
  go_ret
  exact ⟨by first | rfl | simp [HE], hb0⟩
set_option maxRecDepth 100000 in
set_option maxHeartbeats 32000000 in
theorem rright_d (n : Int) (d0 d1 : Dm) (p : Px) (r1 : Bool)
    (HS : ∀ w, Calls Try.prog 19 #[sv ⟨1, d0, d1⟩] w fun e w' => e = .returned (.bool true) ∧ Below w.heap.size w w')
    (H0 : ∀ w, Calls Try.prog 54 #[dv d0, .int .i64 p.a0, kv p.k0] w fun e w' => e = .returned (.bool true) ∧ Below w.heap.size w w')
    (ha : p.a1 = 0) (w : World) :
    Calls Try.prog 21 #[sv ⟨1, d0, d1⟩, pv p] w fun e w' => e = .returned (.bool (decide (p.k1 = kz))) ∧ Below w.heap.size w w' := by
  have q := eql_key
  obtain ⟨b0, b1, k0, k1⟩ := p
  dsimp only at *
  subst ha
  have HE := kz_eqK k1
  generalize decide (k1 = kz) = z1 at *
  unfold sv at *
  unfold pv
  (try unfold dv kv at *)
  (try dsimp only at *)
  obtain ⟨Rc, Ry, hb0⟩ := two_rows w #[.int .i64 1, .int .i64 d0.kind, .int .i64 d0.side, .int .i64 d0.step, .int .i64 d1.kind, .int .i64 d1.side, .int .i64 d1.step] #[.int .i64 b0, .int .i64 0, .int .i64 k0.kind, .int .i64 k0.len, .int .u64 k0.h, .int .u64 k0.l, .string ⟨k0.path.toArray⟩, .int .i64 k1.kind, .int .i64 k1.len, .int .u64 k1.h, .int .u64 k1.l, .string ⟨k1.path.toArray⟩] 26 33
  (try clear c0 c1 c2 c3 c4 c5 c6); obtain ⟨c0, c1, c2, c3, c4, c5, c6⟩ := row7 Rc
  (try clear y0 y1 y2 y3 y4 y5 y6 y7 y8 y9 y10 y11); obtain ⟨y0, y1, y2, y3, y4, y5, y6, y7, y8, y9, y10, y11⟩ := row12 Ry
  go_enter Try.func21, Try.ntmps21
  go_wp2_with fail
  refine (HS _).mono ?_
  rintro e w1 ⟨rfl, hb⟩
  replace Rc := Rc.later hb
  replace Ry := Ry.later hb
  replace hb0 := below_step hb0 hb
  clear hb
  have lc := Rc.lt
  have ly := Ry.lt
  (try clear c0 c1 c2 c3 c4 c5 c6); obtain ⟨c0, c1, c2, c3, c4, c5, c6⟩ := row7 Rc
  (try clear y0 y1 y2 y3 y4 y5 y6 y7 y8 y9 y10 y11); obtain ⟨y0, y1, y2, y3, y4, y5, y6, y7, y8, y9, y10, y11⟩ := row12 Ry
  go_wp2_with fail
  refine (H0 _).mono ?_
  rintro e w2 ⟨rfl, hb⟩
  replace Rc := Rc.later hb
  replace Ry := Ry.later hb
  replace hb0 := below_step hb0 hb
  clear hb
  have lc := Rc.lt
  have ly := Ry.lt
  (try clear c0 c1 c2 c3 c4 c5 c6); obtain ⟨c0, c1, c2, c3, c4, c5, c6⟩ := row7 Rc
  (try clear y0 y1 y2 y3 y4 y5 y6 y7 y8 y9 y10 y11); obtain ⟨y0, y1, y2, y3, y4, y5, y6, y7, y8, y9, y10, y11⟩ := row12 Ry
  go_wp2
  go_ret
  exact ⟨by first | rfl | simp [HE], hb0⟩
set_option maxRecDepth 100000 in
set_option maxHeartbeats 32000000 in
theorem rright_e (n : Int) (d0 d1 : Dm) (p : Px) (r1 : Bool)
    (HS : ∀ w, Calls Try.prog 19 #[sv ⟨2, d0, d1⟩] w fun e w' => e = .returned (.bool true) ∧ Below w.heap.size w w')
    (H0 : ∀ w, Calls Try.prog 54 #[dv d0, .int .i64 p.a0, kv p.k0] w fun e w' => e = .returned (.bool true) ∧ Below w.heap.size w w')
    (H1 : ∀ w, Calls Try.prog 54 #[dv d1, .int .i64 p.a1, kv p.k1] w fun e w' => e = .returned (.bool r1) ∧ Below w.heap.size w w') (w : World) :
    Calls Try.prog 21 #[sv ⟨2, d0, d1⟩, pv p] w fun e w' => e = .returned (.bool r1) ∧ Below w.heap.size w w' := by
  have q := eql_key
  have HE := kz_eqK p.k1
  unfold sv at *
  unfold pv
  (try unfold dv kv at *)
  (try dsimp only at *)
  obtain ⟨Rc, Ry, hb0⟩ := two_rows w #[.int .i64 2, .int .i64 d0.kind, .int .i64 d0.side, .int .i64 d0.step, .int .i64 d1.kind, .int .i64 d1.side, .int .i64 d1.step] #[.int .i64 p.a0, .int .i64 p.a1, .int .i64 p.k0.kind, .int .i64 p.k0.len, .int .u64 p.k0.h, .int .u64 p.k0.l, .string ⟨p.k0.path.toArray⟩, .int .i64 p.k1.kind, .int .i64 p.k1.len, .int .u64 p.k1.h, .int .u64 p.k1.l, .string ⟨p.k1.path.toArray⟩] 26 33
  (try clear c0 c1 c2 c3 c4 c5 c6); obtain ⟨c0, c1, c2, c3, c4, c5, c6⟩ := row7 Rc
  (try clear y0 y1 y2 y3 y4 y5 y6 y7 y8 y9 y10 y11); obtain ⟨y0, y1, y2, y3, y4, y5, y6, y7, y8, y9, y10, y11⟩ := row12 Ry
  go_enter Try.func21, Try.ntmps21
  go_wp2_with fail
  refine (HS _).mono ?_
  rintro e w1 ⟨rfl, hb⟩
  replace Rc := Rc.later hb
  replace Ry := Ry.later hb
  replace hb0 := below_step hb0 hb
  clear hb
  have lc := Rc.lt
  have ly := Ry.lt
  (try clear c0 c1 c2 c3 c4 c5 c6); obtain ⟨c0, c1, c2, c3, c4, c5, c6⟩ := row7 Rc
  (try clear y0 y1 y2 y3 y4 y5 y6 y7 y8 y9 y10 y11); obtain ⟨y0, y1, y2, y3, y4, y5, y6, y7, y8, y9, y10, y11⟩ := row12 Ry
  go_wp2_with fail
  refine (H0 _).mono ?_
  rintro e w2 ⟨rfl, hb⟩
  replace Rc := Rc.later hb
  replace Ry := Ry.later hb
  replace hb0 := below_step hb0 hb
  clear hb
  have lc := Rc.lt
  have ly := Ry.lt
  (try clear c0 c1 c2 c3 c4 c5 c6); obtain ⟨c0, c1, c2, c3, c4, c5, c6⟩ := row7 Rc
  (try clear y0 y1 y2 y3 y4 y5 y6 y7 y8 y9 y10 y11); obtain ⟨y0, y1, y2, y3, y4, y5, y6, y7, y8, y9, y10, y11⟩ := row12 Ry
  go_wp2_with fail
  refine (H1 _).mono ?_
  rintro e w3 ⟨rfl, hb⟩
  replace Rc := Rc.later hb
  replace Ry := Ry.later hb
  replace hb0 := below_step hb0 hb
  clear hb
  have lc := Rc.lt
  have ly := Ry.lt
  (try clear c0 c1 c2 c3 c4 c5 c6); obtain ⟨c0, c1, c2, c3, c4, c5, c6⟩ := row7 Rc
  (try clear y0 y1 y2 y3 y4 y5 y6 y7 y8 y9 y10 y11); obtain ⟨y0, y1, y2, y3, y4, y5, y6, y7, y8, y9, y10, y11⟩ := row12 Ry
  go_wp2
  go_ret
  exact ⟨by first | rfl | simp [HE], hb0⟩
theorem rright9_t (s : Sp) (p : Px) (ok : p.ok) (w : World) : Calls Try.prog 21 #[sv s, pv p] w fun e w' => e = .returned (.bool (rightP s p)) ∧ Below w.heap.size w w' := by
  have HS := rsound_t s
  have H0 := r8on_t s.d0 p.a0 p.k0 ok.k0
  have H1 := r8on_t s.d1 p.a1 p.k1 ok.k1
  have hd : soundS s = true → s.n = 1 ∨ s.n = 2 := fun h => by
    unfold soundS at h
    by_cases h1 : s.n = 1
    · exact .inl h1
    · rw [if_neg h1] at h; simp at h; exact .inr h.1
  unfold rightP
  cases hs : soundS s with
  | false =>
    rw [hs] at HS
    exact rright_a s.n s.d0 s.d1 p false HS w
  | true =>
    rw [hs] at HS
    rw [Bool.true_and]
    cases ho : onD s.d0 p.a0 p.k0 with
    | false => rw [ho] at H0; exact rright_b s.n s.d0 s.d1 p false HS H0 w
    | true =>
      rw [ho] at H0
      rw [Bool.true_and]
      obtain ⟨n, d0, d1⟩ := s
      dsimp only at *
      rcases hd hs with rfl | rfl
      · rw [if_pos rfl]
        by_cases ha : p.a1 = 0
        · rw [decide_eq_true ha, Bool.true_and]; exact rright_d 1 d0 d1 p false HS H0 ha w
        · rw [decide_eq_false ha, Bool.false_and]; exact rright_c 1 d0 d1 p false HS H0 ha w
      · rw [if_neg (by decide)]
        exact rright_e 2 d0 d1 p _ HS H0 H1 w
end Go.Proofs.Ytbekocknfpekoaa
