/- Own rows of texts; IsLabel and Split of the reference of layer 5. No conditions beyond the text's length. -/
import Derived.Test.YtekoicbjpoeijaaLabP
import Derived.OwnWalk
import Derived.Deep.AppendLies
namespace Go.Proofs.Ytekoicbjpoeijaa
set_option linter.unusedVariables false
set_option linter.unusedSimpArgs false
open Go.RowKit
def valsS (ls : List (List UInt8)) : List Value := ls.map fun x => Value.string ⟨x.toArray⟩
theorem valsS_length (ls : List (List UInt8)) : (valsS ls).length = ls.length := by simp [valsS]
theorem valsS_one (ls : List (List UInt8)) : ∀ x ∈ valsS ls, x.oneCell' = true := by
  intro x hx
  unfold valsS at hx
  obtain ⟨a, _, rfl⟩ := List.mem_map.1 hx
  rfl
/-- the value v, a slice, is a row of its own from block base on, and reads as the texts ls -/
def OwnS (base : Nat) (w : World) (v : Value) (ls : List (List UInt8)) : Prop := w.ownsRow base 9 1 v ls.length (valsS ls)
theorem OwnS.later {base : Nat} {w w' : World} {v : Value} {l : List (List UInt8)} (h : OwnS base w v l) (hb : Below w.heap.size w w') : OwnS base w' v l := by
  obtain ⟨hl, h⟩ := h
  refine ⟨hl, ?_⟩
  rcases h with h | ⟨g, cap, cur, hv, hbs, hg, h1⟩
  · exact .inl h
  · exact .inr ⟨g, cap, cur, hv, hbs, (Row.later (t := 9) hg hb), h1⟩
theorem OwnS.block {base : Nat} {w : World} {v : Value} {l : List (List UInt8)} (h : OwnS base w v l) (g : Nat) (hg : v.ownBlock = some g) : base ≤ g ∧ g < w.heap.size := by
  rcases h.2 with ⟨rfl, _⟩ | ⟨g', cap, cur, rfl, hbs, hr, _⟩
  · cases hg
  · have : g' = g := by simpa [Value.ownBlock] using hg
    subst this
    exact ⟨hbs, Row.lt (t := 9) hr⟩
theorem OwnS.nil (base : Nat) (w : World) : OwnS base w (.slice none 0 0) [] := ⟨rfl, .inl ⟨rfl, rfl⟩⟩
theorem OwnS.read {base : Nat} {w : World} {v : Value} {l : List (List UInt8)} (h : OwnS base w v l) : SS w v l := by
  obtain ⟨hl, h⟩ := h
  rcases h with ⟨rfl, h0⟩ | ⟨g, cap, cur, rfl, hb, hg, h1, h2, h3, h4⟩
  · exact ⟨none, 0, by rw [h0], by omega, fun h => by omega⟩
  · refine ⟨_, cap, rfl, by omega, fun _ => ⟨g, 0, rfl, Row.lt (t := 9) hg, fun j x hx => ?_⟩⟩
    rw [Nat.zero_add, cell_of_row w g j cur _ _ hg, ← Array.getElem?_toList]
    have hj : j < l.length := by rw [List.getElem?_eq_some_iff] at hx; exact hx.1
    have : (valsS l)[j]? = some (.string ⟨x.toArray⟩) := by unfold valsS; rw [List.getElem?_map, hx]; rfl
    rw [← h4, List.getElem?_take, if_pos (by omega)] at this
    exact this
theorem infoS : ∃ i, Try.prog.info? 9 = some i ∧ i.zero = some (.string ⟨#[]⟩) ∧ i.size = 1 ∧ i.bytes = 16 := by
  have h1 : (Try.prog.info? 9).bind (·.zero) = some (.string ⟨#[]⟩) := by kernel_rfl
  have h2 : (Try.prog.info? 9).map (·.size) = some 1 := by kernel_rfl
  have h3 : (Try.prog.info? 9).map (·.bytes) = some 16 := by kernel_rfl
  cases hq : Try.prog.info? 9 with
  | none => rw [hq] at h2; cases h2
  | some i =>
    rw [hq] at h1 h2 h3
    exact ⟨i, rfl, by simpa using h1, by simpa using h2, by simpa using h3⟩
theorem appS_run {base : Nat} {w : World} {v : Value} {l m : List (List UInt8)} (ty : TypeId) (ho : OwnS base w v l) (gs c : Nat) (hsrc : ∀ (j : Nat) x, m[j]? = some x → w.cell? ⟨gs, j, none⟩ = some (.string ⟨x.toArray⟩)) (hl : l.length + m.length ≤ 2147483647) (hbase : base ≤ w.heap.size) :
    ∃ v' w', (Builtin.append_ #[64, 64] ty #[v, .slice (some ⟨gs, 0, none⟩) m.length c]).run Try.prog w = .ok v' w' ∧ OwnS base w' v' (l ++ m) ∧ w.grownBy w' v.ownBlock := by
  obtain ⟨i, i1, i2, i3, i4⟩ := infoS
  have hs : ∀ j u, (valsS m)[j]? = some u → w.cell? ((⟨gs, 0, none⟩ : Addr).add j) = some u := by
    intro j u hu
    unfold valsS at hu
    rw [List.getElem?_map, Option.map_eq_some_iff] at hu
    obtain ⟨x, hx, rfl⟩ := hu
    rw [Addr.add_mid, Nat.zero_add]
    exact hsrc j x hx
  obtain ⟨v', w', hr, k1, k2, _, k4⟩ := run_append_own_at (P := Try.prog) w base 64 ty 9 i (.string ⟨#[]⟩) 1 16 Try.underlying64 i1 i2 i3 i4 rfl (by decide) v l.length (valsS l) ho ⟨gs, 0, none⟩ m.length c (valsS m) (by rw [valsS_length, Nat.mul_one]) hs (valsS_one m) (by unfold maxLen; omega) (by omega) hbase
  refine ⟨v', w', hr, ?_, k2⟩
  have hbm : valsS (l ++ m) = valsS l ++ valsS m := by unfold valsS; rw [List.map_append]
  unfold OwnS
  rw [List.length_append, hbm]
  exact k1
/-- one text appended that lies in a new block -/
theorem appS_one {base : Nat} {w0 w : World} {v : Value} {l : List (List UInt8)} (x : List UInt8) (ho : OwnS base w v l) (hB : Below base w0 w) (hl : l.length ≤ 2147483600) (hbase : base ≤ w.heap.size) :
    ∃ v' w', (Builtin.append_ #[64, 64] 64 #[v, .slice (some ⟨w.heap.size, 0, none⟩) 1 1]).run Try.prog (w.alloc (.cells #[.string ⟨x.toArray⟩] 9)) = .ok v' w' ∧ OwnS base w' v' (l ++ [x]) ∧ Below base w0 w' := by
  have R1 := Row.new w #[.string ⟨x.toArray⟩] 9
  have hbn : Below w.heap.size w (w.alloc (.cells #[.string ⟨x.toArray⟩] 9)) := (Below.refl _ _).alloc (Nat.le_refl _) _
  obtain ⟨v', w2, hrun, hown, hgrow⟩ := appS_run (m := [x]) 64 (ho.later hbn) w.heap.size 1 (fun j y hy => by
    rcases j with _ | j
    · cases hy; exact (R1.cell 0).trans rfl
    · simp at hy) (by simp; omega) (Nat.le_trans hbase hbn.size)
  exact ⟨v', w2, hrun, hown, (hB.trans (hbn.mono hbase)).grown hgrow (Nat.le_trans hbase hbn.size) (fun k hk => ((ho.later hbn).block _ hk).1)⟩
theorem wp_appS {P : Program} {w w' : World} {o : Oper} {a : Act} {K : Act → World → Prop} {Q : Exit → Act → World → Prop} (s x : Operand) (t : TypeId) {v bv v' : Value}
    (ho : o.op = .call { callee := .builtin .append, args := #[s, x], argTypes := #[t, t] }) (hs : a.eval s = v) (hx : a.eval x = bv)
    (hr : (Builtin.append_ #[t, t] o.type #[v, bv]).run P w = .ok v' w') (h : K (a.put o.dst v') w') : o.wp P a w K Q := by
  unfold Oper.wp execOp
  simp only [ho, resolve, invoke, builtin, Sem.run_bind, Sem.run_pure, Result.andThen_ok, List.map_toArray, List.map_cons, List.map_nil, hs, hx, hr]
  exact h
theorem wpList_appS {P : Program} {w w' : World} {ops : Array Oper} {rest : List Oper} {o : Oper} {a : Act} {Q : Exit → Act → World → Prop} (hg : o.guard = none) (s x : Operand) (t : TypeId) (hop : o.op = .call { callee := .builtin .append, args := #[s, x], argTypes := #[t, t] })
    {v bv v' : Value} (hs : a.eval s = v) (hx : a.eval x = bv) (hr : (Builtin.append_ #[t, t] o.type #[v, bv]).run P w = .ok v' w') (hK : wpList P ops Q rest (a.put o.dst v') w') : wpList P ops Q (o :: rest) a w := by
  refine wpList_plain hg fun K hK' => ?_
  exact wp_appS s x t hop hs hx hr (hK' _ _ hK)
/-! the reference's IsLabel -/
theorem memB_bad {l : List UInt8} {j : Nat} (hj : j < l.length) (h : memB l[j] = false) : labB l = false := labB_bad hj (.inr h)
set_option maxHeartbeats 4000000 in
theorem rIsLabel_t (l : List UInt8) (hl : l.length ≤ 140737488355328) (w : World) : Calls Try.prog 87 #[.string ⟨l.toArray⟩] w fun e w' => e = .returned (.bool (labB l)) ∧ w = w' := by
  have hsz := bs_size l
  go_enter Try.func87, Try.ntmps87
  go_wp2_with fail
  go_loopw [3] (fun i wr => ∃ (j : Nat), j ≤ l.length ∧ i = .int .i64 j ∧ Hid (∀ i (hi : i < j) (hl : i < l.length), memB l[i] = true) ∧ wr = w) (fun i _ => l.length - (intOf i).toNat)
  case atStart => exact ⟨0, by omega, rfl, Lib.hid (fun i hi => by omega), rfl⟩
  case round =>
    obtain ⟨j, hj, rfl, hm, rfl⟩ := hrel
    by_cases hlt : j < l.length
    · obtain ⟨c, hlj⟩ : ∃ c, l[j] = c := ⟨_, rfl⟩
      have hsp : j < (⟨l.toArray⟩ : ByteArray).size := by rw [hsz]; exact hlt
      have hch : (⟨l.toArray⟩ : ByteArray)[j]'hsp = c := hlj
      have hcn : c.toNat < 256 := c.toNat_lt
      have HT := Lib.hid (show memB c = true → ∀ i (hi : i < j + 1) (hl : i < l.length), memB l[i] = true from fun hmb i hi hl => by
          by_cases e : i = j
          · subst e; rw [hlj]; exact hmb
          · exact hm.out i (by omega) hl)
      have HF := Lib.hid (show memB c = false → labB l = false from fun h => memB_bad hlt (by rw [hlj]; exact h))
      clear hm hlj
      have hcase : (97 ≤ c.toNat ∧ c.toNat ≤ 122) ∨ (48 ≤ c.toNat ∧ c.toNat ≤ 57) ∨ c.toNat = 95 ∨ (122 < c.toNat) ∨ (c.toNat < 48) ∨ (57 < c.toNat ∧ c.toNat < 97 ∧ c.toNat ≠ 95) := by omega
      have hmb : memB c = ((decide (97 ≤ c.toNat) && decide (c.toNat ≤ 122)) || (decide (48 ≤ c.toNat) && decide (c.toNat ≤ 57)) || decide (c.toNat = 95)) := rfl
      rcases hcase with ⟨h1, h2⟩ | ⟨h1, h2⟩ | h1 | h1 | h1 | ⟨h1, h2, h3⟩
      · have HN := Lib.hid (HT.out (by rw [hmb]; simp [h1, h2]))
        have h1' : (97 : Int) ≤ c.toNat := by omega
        have h2' : (c.toNat : Int) ≤ 122 := by omega
        clear HT HF hmb
        go_wp2
        exact ⟨⟨j + 1, by omega, by go_num, HN, trivial⟩, by simp [intOf]; omega⟩
      · have HN := Lib.hid (HT.out (by rw [hmb]; simp [h1, h2]))
        have h1' : (48 : Int) ≤ c.toNat := by omega
        have h2' : (c.toNat : Int) ≤ 57 := by omega
        have h3' : ¬ (97 : Int) ≤ c.toNat := by omega
        clear HT HF hmb
        go_wp2
        exact ⟨⟨j + 1, by omega, by go_num, HN, trivial⟩, by simp [intOf]; omega⟩
      · have HN := Lib.hid (HT.out (by rw [hmb]; simp [h1]))
        have h3' : ¬ (97 : Int) ≤ c.toNat := by omega
        have h4' : (48 : Int) ≤ c.toNat := by omega
        have h5' : ¬ (c.toNat : Int) ≤ 57 := by omega
        have h6' : ((c.toNat : Int) == 95) = true := by simp; omega
        have h7' : (c.toNat : Int) = 95 := by omega
        clear HT HF hmb
        go_wp2
        exact ⟨⟨j + 1, by omega, by go_num, HN, trivial⟩, by simp [intOf]; omega⟩
      · have HB := Lib.hid (HF.out (by rw [hmb]; simp <;> omega))
        have h3' : (97 : Int) ≤ c.toNat := by omega
        have h4' : ¬ (c.toNat : Int) ≤ 122 := by omega
        have h5' : (48 : Int) ≤ c.toNat := by omega
        have h6' : ¬ (c.toNat : Int) ≤ 57 := by omega
        have h7' : ((c.toNat : Int) == 95) = false := by simp; omega
        have h8' : ¬ (c.toNat : Int) = 95 := by omega
        clear HT HF hmb
        go_wp2
        go_ret
        exact ⟨by rw [HB.out]; rfl, rfl⟩
      · have HB := Lib.hid (HF.out (by rw [hmb]; simp <;> omega))
        have h3' : ¬ (97 : Int) ≤ c.toNat := by omega
        have h5' : ¬ (48 : Int) ≤ c.toNat := by omega
        have h7' : ((c.toNat : Int) == 95) = false := by simp; omega
        have h8' : ¬ (c.toNat : Int) = 95 := by omega
        clear HT HF hmb
        go_wp2
        go_ret
        exact ⟨by rw [HB.out]; rfl, rfl⟩
      · have HB := Lib.hid (HF.out (by rw [hmb]; simp <;> omega))
        have h3' : ¬ (97 : Int) ≤ c.toNat := by omega
        have h5' : (48 : Int) ≤ c.toNat := by omega
        have h6' : ¬ (c.toNat : Int) ≤ 57 := by omega
        have h7' : ((c.toNat : Int) == 95) = false := by simp; omega
        have h8' : ¬ (c.toNat : Int) = 95 := by omega
        clear HT HF hmb
        go_wp2
        go_ret
        exact ⟨by rw [HB.out]; rfl, rfl⟩
    · have hjl : j = l.length := by omega
      have hall : l.all memB = true := by rw [List.all_eq_true]; intro x hx; obtain ⟨i, hi, rfl⟩ := List.getElem_of_mem hx; exact hm.out i (by omega) hi
      have HB : Hid (labB l = (decide (0 < (l.length : Int)) && decide ((l.length : Int) < 17))) := Lib.hid (by
        unfold labB; rw [hall, Bool.eq_iff_iff]; simp
        constructor
        · rintro ⟨a, b⟩; exact ⟨List.length_pos_iff.2 a, by omega⟩
        · rintro ⟨a, b⟩; exact ⟨List.length_pos_iff.1 a, by omega⟩)
      clear hm hall
      subst hjl
      by_cases h0 : l = []
      · subst h0
        go_wp2
        go_ret
        exact ⟨by rw [HB.out]; rfl, rfl⟩
      · have hpos : (0 : Int) < (l.length : Int) := by have := List.length_pos_iff.2 h0; omega
        have hie : l.isEmpty = false := by cases l <;> simp_all
        go_wp2
        go_ret
        exact ⟨by rw [HB.out]; simp [h0]; intro _; omega, rfl⟩
end Go.Proofs.Ytekoicbjpoeijaa
