/- Own rows of words of 16 bits; the reference's read of layer 4. No conditions beyond the text's length. -/
import Derived.Test.YtkenkjdelhmaoaaDoorSixR4
import Derived.OwnWalk
import Derived.Deep.AppendLies
namespace Go.Proofs.YtkenkjdelhmaoaaDoor
set_option linter.unusedVariables false
set_option linter.unusedSimpArgs false
open Go.RowKit
/-- the value v, a slice, is a row of its own from block base on, and reads as the words vs -/
def OwnU (base : Nat) (w : World) (v : Value) (vs : List Nat) : Prop := w.ownsRow base 41 1 v vs.length (valsV vs)
theorem OwnU.later {base : Nat} {w w' : World} {v : Value} {l : List Nat} (h : OwnU base w v l) (hb : Below w.heap.size w w') : OwnU base w' v l := by
  obtain ⟨hl, h⟩ := h
  refine ⟨hl, ?_⟩
  rcases h with h | ⟨g, cap, cur, hv, hbs, hg, h1⟩
  · exact .inl h
  · exact .inr ⟨g, cap, cur, hv, hbs, (Row.later (t := 41) hg hb), h1⟩
theorem OwnU.block {base : Nat} {w : World} {v : Value} {l : List Nat} (h : OwnU base w v l) (g : Nat) (hg : v.ownBlock = some g) : base ≤ g ∧ g < w.heap.size := by
  rcases h.2 with ⟨rfl, _⟩ | ⟨g', cap, cur, rfl, hbs, hr, _⟩
  · cases hg
  · have : g' = g := by simpa [Value.ownBlock] using hg
    subst this
    exact ⟨hbs, Row.lt (t := 41) hr⟩
theorem OwnU.nil (base : Nat) (w : World) : OwnU base w (.slice none 0 0) [] := ⟨rfl, .inl ⟨rfl, rfl⟩⟩
theorem valsV_length (vs : List Nat) : (valsV vs).length = vs.length := by simp [valsV]
/-- what it reads as -/
theorem OwnU.read {base : Nat} {w : World} {v : Value} {l : List Nat} (h : OwnU base w v l) : ∃ p c, v = .slice p l.length c ∧ (0 < l.length → ∃ g, p = some ⟨g, 0, none⟩ ∧ base ≤ g ∧ g < w.heap.size ∧ ∀ (j x : Nat), l[j]? = some x → w.cell? ⟨g, j, none⟩ = some (.int .u16 (x : Int))) := by
  obtain ⟨hl, h⟩ := h
  rcases h with ⟨rfl, h0⟩ | ⟨g, cap, cur, rfl, hb, hg, h1, h2, h3, h4⟩
  · exact ⟨none, 0, by rw [h0], fun h => by omega⟩
  · refine ⟨_, cap, rfl, fun _ => ⟨g, rfl, hb, Row.lt (t := 41) hg, fun j x hx => ?_⟩⟩
    rw [cell_of_row w g j cur _ _ hg, ← Array.getElem?_toList]
    have hj : j < l.length := by rw [List.getElem?_eq_some_iff] at hx; exact hx.1
    have : (valsV l)[j]? = some (.int .u16 (x : Int)) := by unfold valsV; rw [List.getElem?_map, hx]; rfl
    rw [← h4, List.getElem?_take, if_pos (by omega)] at this
    exact this
theorem info16 : ∃ i, Tryd.prog.info? 41 = some i ∧ i.zero = some (.int .u16 0) ∧ i.size = 1 ∧ i.bytes = 2 := by
  have h1 : (Tryd.prog.info? 41).bind (·.zero) = some (.int .u16 0) := by kernel_rfl
  have h2 : (Tryd.prog.info? 41).map (·.size) = some 1 := by kernel_rfl
  have h3 : (Tryd.prog.info? 41).map (·.bytes) = some 2 := by kernel_rfl
  cases hq : Tryd.prog.info? 41 with
  | none => rw [hq] at h2; cases h2
  | some i =>
    rw [hq] at h1 h2 h3
    exact ⟨i, rfl, by simpa using h1, by simpa using h2, by simpa using h3⟩
theorem appU_run {base : Nat} {w : World} {v : Value} {l m : List Nat} (ty : TypeId) (ho : OwnU base w v l) (gs c : Nat) (hsrc : ∀ (j x : Nat), m[j]? = some x → w.cell? ⟨gs, j, none⟩ = some (.int .u16 (x : Int))) (hl : l.length + m.length ≤ 2147483647) (hbase : base ≤ w.heap.size) :
    ∃ v' w', (Builtin.append_ #[76, 76] ty #[v, .slice (some ⟨gs, 0, none⟩) m.length c]).run Tryd.prog w = .ok v' w' ∧ OwnU base w' v' (l ++ m) ∧ w.grownBy w' v.ownBlock := by
  obtain ⟨i, i1, i2, i3, i4⟩ := info16
  have hs : ∀ j u, (valsV m)[j]? = some u → w.cell? ((⟨gs, 0, none⟩ : Addr).add j) = some u := by
    intro j u hu
    unfold valsV at hu
    rw [List.getElem?_map, Option.map_eq_some_iff] at hu
    obtain ⟨x, hx, rfl⟩ := hu
    rw [Addr.add_mid, Nat.zero_add]
    exact hsrc j x hx
  obtain ⟨v', w', hr, k1, k2, _, k4⟩ := run_append_own_at (P := Tryd.prog) w base 76 ty 41 i (.int .u16 0) 1 2 Tryd.underlying76 i1 i2 i3 i4 rfl (by decide) v l.length (valsV l) ho ⟨gs, 0, none⟩ m.length c (valsV m) (by rw [valsV_length, Nat.mul_one]) hs (valsV_one m) (by unfold maxLen; omega) (by omega) hbase
  refine ⟨v', w', hr, ?_, k2⟩
  have hbm : valsV (l ++ m) = valsV l ++ valsV m := by unfold valsV; rw [List.map_append]
  unfold OwnU
  rw [List.length_append, hbm]
  exact k1
theorem wp_appU {P : Program} {w w' : World} {o : Oper} {a : Act} {K : Act → World → Prop} {Q : Exit → Act → World → Prop} (s x : Operand) (t : TypeId) {v bv v' : Value}
    (ho : o.op = .call { callee := .builtin .append, args := #[s, x], argTypes := #[t, t] }) (hs : a.eval s = v) (hx : a.eval x = bv)
    (hr : (Builtin.append_ #[t, t] o.type #[v, bv]).run P w = .ok v' w') (h : K (a.put o.dst v') w') : o.wp P a w K Q := by
  unfold Oper.wp execOp
  simp only [ho, resolve, invoke, builtin, Sem.run_bind, Sem.run_pure, Result.andThen_ok, List.map_toArray, List.map_cons, List.map_nil, hs, hx, hr]
  exact h
theorem wpList_appU {P : Program} {w w' : World} {ops : Array Oper} {rest : List Oper} {o : Oper} {a : Act} {Q : Exit → Act → World → Prop} (hg : o.guard = none) (s x : Operand) (t : TypeId) (hop : o.op = .call { callee := .builtin .append, args := #[s, x], argTypes := #[t, t] })
    {v bv v' : Value} (hs : a.eval s = v) (hx : a.eval x = bv) (hr : (Builtin.append_ #[t, t] o.type #[v, bv]).run P w = .ok v' w') (hK : wpList P ops Q rest (a.put o.dst v') w') : wpList P ops Q (o :: rest) a w := by
  refine wpList_plain hg fun K hK' => ?_
  exact wp_appU s x t hop hs hx hr (hK' _ _ hK)
theorem ext_l (l : List UInt8) (a b : Nat) : (⟨l.toArray⟩ : ByteArray).extract a b = ⟨((l.take b).drop a).toArray⟩ := by
  apply ByteArray.ext
  simp [ByteArray.extract, ByteArray.copySlice]
  rw [List.drop_take]
def RdInv (d : Bool) (l : List UInt8) (fr j : Nat) (vs : List Nat) : Prop :=
  (fr ≤ j ∧ j ≤ l.length ∧ (58 : UInt8) ∉ (l.take j).drop fr ∧ seqV d (splitC l) = (seqV d (splitC (l.drop fr))).map fun us => vs ++ us) ∨ (j = l.length + 1 ∧ seqV d (splitC l) = some vs)
theorem take_drop_succ (l : List UInt8) (fr j : Nat) (h : fr ≤ j) (hj : j < l.length) : (l.take (j + 1)).drop fr = (l.take j).drop fr ++ [l[j]] := by
  rw [List.take_add_one, List.getElem?_eq_getElem hj, List.drop_append_of_le_length (by simp; omega)]
  rfl
theorem drop_split (l : List UInt8) (fr j : Nat) (h : fr ≤ j) (hj : j < l.length) : l.drop fr = (l.take j).drop fr ++ l[j] :: l.drop (j + 1) := by
  have h1 : l.drop fr = (l.take j ++ l.drop j).drop fr := by rw [List.take_append_drop]
  rw [h1, List.drop_append_of_le_length (by simp; omega), List.drop_eq_getElem_cons hj]
theorem RdInv.next {d : Bool} {l : List UInt8} {fr j : Nat} {vs : List Nat} (h : RdInv d l fr j vs) (hj : j < l.length) (hc : l[j] ≠ 58) : RdInv d l fr (j + 1) vs := by
  rcases h with ⟨h1, h2, h3, h4⟩ | ⟨h1, _⟩
  · refine .inl ⟨by omega, by omega, ?_, h4⟩
    rw [take_drop_succ l fr j h1 hj]
    intro hm
    rcases List.mem_append.1 hm with hm | hm
    · exact h3 hm
    · simp at hm; exact hc hm.symm
  · omega
theorem RdInv.part {d : Bool} {l : List UInt8} {fr j : Nat} {vs : List Nat} (h : RdInv d l fr j vs) (hj : j < l.length) (hc : l[j] = 58) : fr ≤ j ∧ (∀ v, grpV ((l.take j).drop fr) = some v → RdInv d l (j + 1) (j + 1) (vs ++ [v])) ∧ (grpV ((l.take j).drop fr) = none → seqV d (splitC l) = none) := by
  rcases h with ⟨h1, h2, h3, h4⟩ | ⟨h1, _⟩
  · have hs : splitC (l.drop fr) = (l.take j).drop fr :: splitC (l.drop (j + 1)) := by rw [drop_split l fr j h1 hj, hc, split_at _ _ h3]
    rw [hs, seqV_cons d _ _ (split_ne _)] at h4
    refine ⟨h1, fun v hv => .inl ⟨Nat.le_refl _, by omega, ?_, ?_⟩, fun hv => ?_⟩
    · rw [List.drop_eq_nil_of_le (by rw [List.length_take]; omega)]; simp
    · rw [hv] at h4
      rw [h4]
      cases seqV d (splitC (l.drop (j + 1))) with
      | none => rfl
      | some us => simp
    · rw [hv] at h4
      rw [h4]; rfl
  · omega
theorem RdInv.last {d : Bool} {l : List UInt8} {fr : Nat} {vs : List Nat} (h : RdInv d l fr l.length vs) : fr ≤ l.length ∧ seqV d (splitC l) = (lastV d ((l.take l.length).drop fr)).map fun us => vs ++ us := by
  rcases h with ⟨h1, h2, h3, h4⟩ | ⟨h1, _⟩
  · rw [List.take_length] at h3 ⊢
    refine ⟨h1, ?_⟩
    rw [h4, split_no _ h3, seqV]
  · omega
def ReadPost (o : Option (List Nat)) (w : World) (e : Ending) (w' : World) : Prop := (match o with
  | some vs => ∃ v, e = .returned (.tuple #[v, .bool true]) ∧ OwnU w.heap.size w' v vs
  | none => e = .returned (.tuple #[.slice none 0 0, .bool false])) ∧ Below w.heap.size w w'
end Go.Proofs.YtkenkjdelhmaoaaDoor
