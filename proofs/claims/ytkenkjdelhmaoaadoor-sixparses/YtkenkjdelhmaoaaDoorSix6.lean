/- The text of a row of groups: join and Print of package six. No conditions beyond ranges. -/
import Derived.Test.YtkenkjdelhmaoaaDoorSix5
namespace Go.Proofs.YtkenkjdelhmaoaaDoor
set_option linter.unusedVariables false
set_option linter.unusedSimpArgs false
open Go.RowKit
/-- the text of groups, with colons between -/
def joinH (fs : List Nat) : List UInt8 := Lib.join (fs.map hexD) [58]
/-- the first j of a row of strings are those of the groups -/
def StrsTo (fs : List Nat) (j : Nat) (cs : Array Value) : Prop := cs.size = fs.length ∧ ∀ m x, m < j → fs[m]? = some x → cs[m]? = some (.string ⟨(hexD x).toArray⟩)
theorem StrsTo.step {fs : List Nat} {j : Nat} {cs : Array Value} (h : StrsTo fs j cs) {x : Nat} (hx : fs[j]? = some x) : StrsTo fs (j + 1) (cs.setIfInBounds j (.string ⟨(hexD x).toArray⟩)) := by
  have hj : j < fs.length := (List.getElem?_eq_some_iff.1 hx).1
  refine ⟨by simp [h.1], fun m y hm hy => ?_⟩
  rw [Array.getElem?_setIfInBounds]
  by_cases e : j = m
  · subst e
    rw [if_pos rfl, if_pos (by rw [h.1]; exact hj)]
    rw [hx] at hy; cases hy; rfl
  · rw [if_neg e]; exact h.2 m y (by omega) hy
theorem hexD_len (n : Nat) (h : n < 65536) : (hexD n).length ≤ 4 := by
  have h1 : ∀ k, k < 16 → (hexD k).length ≤ 1 := fun k hk => by rw [hexD_one k hk]; simp
  have h2 : ∀ k, k < 256 → (hexD k).length ≤ 2 := fun k hk => by
    by_cases c : k < 16
    · have := h1 k c; omega
    · rw [hexD_step k (by omega)]; have := h1 (k / 16) (by omega); simp; omega
  have h3 : ∀ k, k < 4096 → (hexD k).length ≤ 3 := fun k hk => by
    by_cases c : k < 16
    · have := h1 k c; omega
    · rw [hexD_step k (by omega)]; have := h2 (k / 16) (by omega); simp; omega
  by_cases c : n < 16
  · have := h1 n c; omega
  · rw [hexD_step n (by omega)]; have := h3 (n / 16) (by omega); simp; omega
theorem joinTail_len : ∀ (fs : List Nat), (∀ x ∈ fs, x < 65536) → (Lib.joinTail [58] (fs.map hexD)).length ≤ 5 * fs.length
  | [], _ => by simp [Lib.joinTail]
  | x :: r, h => by
    have h1 := joinTail_len r (fun y hy => h y (List.mem_cons_of_mem _ hy))
    have h2 := hexD_len x (h x (by simp))
    unfold Lib.joinTail at h1 ⊢
    simp at h1 ⊢
    omega
theorem joinH_len (fs : List Nat) (h : ∀ x ∈ fs, x < 65536) : (joinH fs).length ≤ 5 * fs.length := by
  unfold joinH
  cases fs with
  | nil => simp [Lib.join]
  | cons x r =>
    have h1 := joinTail_len r (fun y hy => h y (List.mem_cons_of_mem _ hy))
    have h2 := hexD_len x (h x (by simp))
    rw [List.map_cons, Lib.join_cons]
    simp at h1 ⊢
    omega
theorem infoStr : (Tryd.prog.info? 9).map (fun i => (i.zero, i.size, i.bytes)) = some (some (.string ⟨#[]⟩), 1, 16) := by kernel_rfl
set_option maxRecDepth 100000 in
set_option maxHeartbeats 3200000 in
theorem join_t (fs : List Nat) (g o c : Nat) (hl : fs.length ≤ 8) (hf : ∀ x ∈ fs, x < 65536) (w : World) (hg : g < w.heap.size) (hE : Env6 w) (hc : ∀ (j x : Nat), fs[j]? = some x → w.cell? ⟨g, o + j, none⟩ = some (.int .u16 (x : Int))) : Calls Tryd.prog 42 #[.slice (some ⟨g, o, none⟩) fs.length c] w fun e w' => e = .returned (.string ⟨(joinH fs).toArray⟩) ∧ Below w.heap.size w w' := by
  obtain ⟨i0, hif, hz0, hz1, hz2⟩ := info_parts infoStr
  have hmk := fun w => run_make (P := Tryd.prog) w 63 9 i0 (.string ⟨#[]⟩) Tryd.underlying63 hif hz0 .i64 .i64 (fs.length : Int) (fs.length : Int) (by omega) (by omega) (by rw [hz2]; omega) (by omega)
  simp only [Int.toNat_natCast, hz1, Nat.mul_one] at hmk
  have HC := Lib.hid hc
  clear hc
  go_enter Tryd.func42, Tryd.ntmps42
  go_wp2_with fail
  have R0 := Row.new w (madeCells #[Value.string ⟨#[]⟩] fs.length) 9
  have hb0 : Below w.heap.size w (w.alloc (.cells (madeCells #[Value.string ⟨#[]⟩] fs.length) 9)) := (Below.refl _ _).alloc (Nat.le_refl _) _
  have S0 : StrsTo fs 0 (madeCells #[Value.string ⟨#[]⟩] fs.length) := ⟨size_madeCells _ _, fun m x hm => absurd hm (by omega)⟩
  clear hmk
  generalize madeCells #[Value.string ⟨#[]⟩] fs.length = cs0 at *
  generalize w.alloc (.cells cs0 9) = w0 at *
  go_loopw [11] (fun i wr => ∃ (j : Nat) (cs : Array Value), j ≤ fs.length ∧ i = .int .i64 j ∧ StrsTo fs j cs ∧ Row wr w.heap.size cs 9 ∧ Below w.heap.size w wr) (fun i _ => 8 - (intOf i).toNat)
  case atStart => exact ⟨0, cs0, by omega, rfl, S0, R0, hb0⟩
  case round =>
    clear R0 hb0 S0
    obtain ⟨j, cs, hj, rfl, hS, R, hb⟩ := hrel
    have HS := Lib.hid hS
    have HR := Lib.hid R
    have HB := Lib.hid hb
    clear hS R hb
    by_cases hlt : j < fs.length
    · have hx : fs[j]? = some fs[j] := List.getElem?_eq_getElem hlt
      have hxr := hf _ (List.getElem_mem hlt)
      generalize fs[j] = x at hx hxr
      have cc := cell_later HB.out (HC.out j x hx)
      have hlb : decide ((j : Int) < (fs.length : Int)) = true := by simp; omega
      have hlt' : (j : Int) < (fs.length : Int) := by omega
      go_wp2_with fail
      refine (fmt16_t x hxr wr (hE.later HB.out)).mono ?_
      rintro r w2 ⟨rfl, hb2⟩
      have R2 := HR.out.later hb2
      have hcl : ∃ v, w2.cell? ⟨w.heap.size, j, none⟩ = some v := ⟨_, (R2.cell j).trans (Array.getElem?_eq_getElem (by rw [HS.out.1]; exact hlt))⟩
      obtain ⟨v0, c0⟩ := hcl
      have f0 := R2.frozen j
      have HR2 := Lib.hid R2
      have HB2 := Lib.hid (below_step HB.out hb2)
      clear R2 HR HB hb2 cc
      go_wp2
      exact ⟨⟨j + 1, _, by omega, by go_num, HS.out.step hx, HR2.out.set j _, HB2.out.setCell (Nat.le_refl _) _⟩, by simp [intOf]; omega⟩
    · have hjn : j = fs.length := by omega
      subst hjn
      have hlt := HR.out.lt
      have hjl := joinH_len fs hf
      have hjn := Tryd.strings_Join w.heap.size 0 fs.length (fs.map fun x => ⟨(hexD x).toArray⟩) ⟨#[58]⟩ wr (fun j x hx => by
        rw [List.getElem?_map] at hx
        cases hq : fs[j]? with
        | none => rw [hq] at hx; cases hx
        | some y =>
          rw [hq] at hx
          cases hx
          rw [Nat.zero_add]
          exact (HR.out.cell j).trans (HS.out.2 j y (List.getElem?_eq_some_iff.1 hq).1 hq)) hlt (by simp; omega) (by simp) (by
        simp only [List.map_map, Function.comp_def]
        show (joinH fs).length ≤ _
        omega)
      rw [List.length_map] at hjn
      simp only [List.map_map, Function.comp_def] at hjn
      have HJ := Lib.hid hjn
      clear hjn
      go_wp2_with fail
      refine HJ.out.mono ?_
      rintro r w3 ⟨rfl, hb3⟩
      have hb4 := below_step HB.out hb3
      go_wp2
      go_ret
      exact ⟨rfl, hb4⟩
end Go.Proofs.YtkenkjdelhmaoaaDoor
