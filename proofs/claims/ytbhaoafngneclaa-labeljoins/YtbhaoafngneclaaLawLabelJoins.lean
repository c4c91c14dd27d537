/- The walk of LabelJoins: it returns true. No conditions beyond what a slice's length may be. -/
import Derived.Test.YtbhaoafngneclaaLabR3
import Derived.Test.YtbhaoafngneclaaLabAlive
namespace Go.Proofs.Ytbhaoafngneclaa
set_option linter.unusedVariables false
set_option linter.unusedSimpArgs false
open Go.RowKit
theorem joinE_bad {ls : List (List UInt8)} (h : ls.all labB = false) : joinE ls = 3 ∧ joinT ls = [] := by
  have h3 : joinE ls = 3 := by unfold joinE; rw [if_pos h]
  exact ⟨h3, by unfold joinT; rw [h3]; rfl⟩
theorem joinE_long {ls : List (List UInt8)} (h : ls.all labB = true) (h8 : 8 < ls.length) : joinE ls = 2 ∧ joinT ls = [] := by
  have h3 : joinE ls = 2 := by unfold joinE; rw [if_neg (by simp [h]), if_pos h8]
  exact ⟨h3, by unfold joinT; rw [h3]; rfl⟩
theorem joinE_ok {ls : List (List UInt8)} (h : ls.all labB = true) (h8 : ¬ 8 < ls.length) : joinE ls = 0 ∧ joinT ls = jn ls := by
  have h3 : joinE ls = 0 := by unfold joinE; rw [if_neg (by simp [h]), if_neg h8]
  exact ⟨h3, by unfold joinT; rw [if_pos h3]⟩
set_option maxRecDepth 100000 in
set_option maxHeartbeats 8000000 in
theorem labelJoins_t (v : Value) (ls : List (List UInt8)) (hls : ls.length ≤ 9223372036854775807) (hsx : ∀ x ∈ ls, x.length ≤ 9223372036854775807) (w : World) (hS : SS w v ls) : Calls Try.prog 4 #[v] w fun e w' => e = .returned (.bool true) ∧ Below w.heap.size w w' := by
  have hcj : Hid (ls.length ≤ 30 → (∀ x ∈ ls, x.length ≤ 100) → Calls Try.prog 18 #[v] w fun e w' => e = .returned (.tuple #[.string ⟨(joinT ls).toArray⟩, .int .i64 (joinE ls)]) ∧ Below w.heap.size w w') := Lib.hid fun h30 h100 => join_t v ls (by omega) (fun x hx => by have := h100 x hx; omega) w hS
  have hrj : Hid (ls.length ≤ 8 → (∀ x ∈ ls, x.length ≤ 16) → ∀ w1, Below w.heap.size w w1 → Calls Try.prog 19 #[v] w1 fun e w' => e = .returned (.string ⟨(jn ls).toArray⟩) ∧ w1 = w') := Lib.hid fun h8 h16 w1 hb => rJoin_t v ls h8 h16 w1 (hS.later hb)
  obtain ⟨p, c, rfl, hc, hp⟩ := hS
  have HP := Lib.hid hp
  clear hp
  go_enter Try.func4, Try.ntmps4
  go_wp2_with fail
  go_loopw [3, 4] (fun r i wr => ∃ (j : Nat) (b : Bool), j ≤ ls.length ∧ r = .bool b ∧ i = .int .i64 j ∧ Hid (b = (ls.take j).all labB) ∧ Hid (∀ x ∈ ls.take j, x.length ≤ 100) ∧ (j = 0 ∨ ls.length ≤ 30) ∧ wr = w) (fun _ i _ => ls.length - (intOf i).toNat)
  case atStart => exact ⟨0, true, by omega, rfl, rfl, Lib.hid (by simp), Lib.hid (by simp), .inl rfl, rfl⟩
  case round =>
    obtain ⟨j, b, hj, rfl, rfl, hbb, h100, h30, rfl⟩ := hrel
    have hb : Below wr.heap.size wr wr := Below.refl _ _
    by_cases hlt : j < ls.length
    · have hlt' : (j : Int) < (ls.length : Int) := by omega
      by_cases hbig : 30 < ls.length
      · have hbig' : (30 : Int) < (ls.length : Int) := by omega
        have HB := Lib.hid hb
        clear hbb h100 HP hcj hrj h30 hb
        go_wp2_with fail
        refine (alive5_t wr).mono ?_
        rintro e w1 ⟨rfl, hb2⟩
        go_wp2
        go_ret
        exact ⟨rfl, hb2⟩
      · have hbig' : ¬ (30 : Int) < (ls.length : Int) := by omega
        have h30' : ls.length ≤ 30 := by omega
        obtain ⟨g, o, rfl, hg, hC⟩ := HP.out (by omega)
        obtain ⟨x, hx⟩ : ∃ x, ls[j]? = some x := ⟨_, List.getElem?_eq_getElem hlt⟩
        have cA := hC j x hx
        have hsz := bs_size x
        have hx63 := hsx x (List.mem_of_getElem? hx)
        clear hC HP hcj hrj hb hsx
        by_cases hx1 : 100 < x.length
        · have hx1' : (100 : Int) < (x.length : Int) := by omega
          clear hbb h100 h30 hx
          go_wp2_with fail
          refine (alive5_t wr).mono ?_
          rintro e w1 ⟨rfl, hb2⟩
          go_wp2
          go_ret
          exact ⟨rfl, hb2⟩
        · have hx1' : ¬ (100 : Int) < (x.length : Int) := by omega
          have ht : ls.take (j + 1) = ls.take j ++ [x] := by rw [List.take_add_one, hx]; rfl
          have H100 := Lib.hid (show ∀ y ∈ ls.take (j + 1), y.length ≤ 100 by
            rw [ht]; intro y hy
            rcases List.mem_append.1 hy with hy | hy
            · exact h100.out y hy
            · simp at hy; subst hy; omega)
          have HBB := Lib.hid (show (b && labB x) = (ls.take (j + 1)).all labB by rw [ht, List.all_append, ← hbb.out]; simp)
          clear hbb h100 h30 hx ht
          cases b with
          | false =>
            go_wp2
            exact ⟨⟨j + 1, false, by omega, rfl, by go_num, HBB, H100, .inr h30', trivial⟩, by simp [intOf]; omega⟩
          | true =>
            go_wp2_with fail
            refine (rIsLabel_t x (by omega) wr).mono ?_
            rintro e w1 ⟨rfl, rfl⟩
            generalize hlb : labB x = lb at *
            have HLB := Lib.hid hlb
            clear hlb
            go_wp2
            exact ⟨⟨j + 1, lb, by omega, rfl, by go_num, Lib.hid (by have := HBB.out; simpa using this), H100, .inr h30', trivial⟩, by simp [intOf]; omega⟩
    · have hjl : j = ls.length := by omega
      have hn30 : ls.length ≤ 30 := by omega
      have hall : b = ls.all labB := by have := hbb.out; rwa [hjl, List.take_length] at this
      have h100' : ∀ x ∈ ls, x.length ≤ 100 := by have := h100.out; rwa [hjl, List.take_length] at this
      have CJ := hcj.out hn30 h100'
      subst hjl
      have hnl : ¬ (ls.length : Int) < (ls.length : Int) := by omega
      clear hbb h100 h30 HP hcj hsx
      cases b with
      | false =>
        rw [(joinE_bad hall.symm).1, (joinE_bad hall.symm).2] at CJ
        clear hall h100' hrj
        go_wp2_with fail
        refine (CJ).mono ?_
        rintro e w1 ⟨rfl, hb2⟩
        replace hb := below_step hb hb2
        clear hb2 CJ
        go_wp2_with fail
        refine (alive5_t w1).mono ?_
        rintro e w2 ⟨rfl, hb2⟩
        replace hb := below_step hb hb2
        clear hb2 
        go_wp2
        go_ret
        exact ⟨rfl, hb⟩
      | true =>
        by_cases h8 : 8 < ls.length
        · have h8' : (8 : Int) < (ls.length : Int) := by omega
          rw [(joinE_long hall.symm h8).1, (joinE_long hall.symm h8).2] at CJ
          clear hall h100' hrj
          go_wp2_with fail
          refine (CJ).mono ?_
          rintro e w1 ⟨rfl, hb2⟩
          replace hb := below_step hb hb2
          clear hb2 CJ
          go_wp2_with fail
          refine (alive5_t w1).mono ?_
          rintro e w2 ⟨rfl, hb2⟩
          replace hb := below_step hb hb2
          clear hb2 
          go_wp2
          go_ret
          exact ⟨rfl, hb⟩
        · have h8' : ¬ (8 : Int) < (ls.length : Int) := by omega
          rw [(joinE_ok hall.symm h8).1, (joinE_ok hall.symm h8).2] at CJ
          have RJ := Lib.hid (hrj.out (by omega) (fun x hx => labB_len ((List.all_eq_true.1 hall.symm) x hx)))
          clear hall h100' hrj
          generalize jn ls = t at *
          go_wp2_with fail
          refine (CJ).mono ?_
          rintro e w1 ⟨rfl, hb2⟩
          replace hb := below_step hb hb2
          clear hb2 CJ
          go_wp2_with fail
          refine (alive5_t w1).mono ?_
          rintro e w2 ⟨rfl, hb2⟩
          replace hb := below_step hb hb2
          clear hb2 
          go_wp2_with fail
          refine (RJ.out w2 hb).mono ?_
          rintro e w3 ⟨rfl, rfl⟩
          go_wp2
          go_ret
          exact ⟨rfl, hb⟩
end Go.Proofs.Ytbhaoafngneclaa
