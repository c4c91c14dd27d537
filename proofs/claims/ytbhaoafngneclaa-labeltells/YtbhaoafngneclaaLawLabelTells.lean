/- The walk of LabelTells: it returns true. No conditions. -/
import Derived.Test.YtbhaoafngneclaaLabR4
import Derived.Test.YtbhaoafngneclaaLabAlive
namespace Go.Proofs.Ytbhaoafngneclaa
set_option linter.unusedVariables false
set_option linter.unusedSimpArgs false
open Go.RowKit
set_option maxRecDepth 100000 in
set_option maxHeartbeats 8000000 in
theorem labelTells_t (p q : List UInt8) (n : Int) (w : World) : Calls Try.prog 3 #[.string ⟨p.toArray⟩, .string ⟨q.toArray⟩, .int .i64 n] w fun e w' => e = .returned (.bool true) ∧ Below w.heap.size w w' := by
  have z1 := bs_size p
  have z2 := bs_size q
  have hb : Below w.heap.size w w := Below.refl _ _
  by_cases h1 : 300 < p.length
  · have h1' : (300 : Int) < (p.length : Int) := by omega
    go_enter Try.func3, Try.ntmps3
    go_wp2_with fail
    refine (alive5_t w).mono ?_
    rintro e w1 ⟨rfl, hb2⟩
    replace hb := below_step hb hb2
    clear hb2 
    go_wp2
    go_ret
    exact ⟨rfl, hb⟩
  have h1' : ¬ (300 : Int) < (p.length : Int) := by omega
  by_cases h2 : 300 < q.length
  · have h2' : (300 : Int) < (q.length : Int) := by omega
    go_enter Try.func3, Try.ntmps3
    go_wp2_with fail
    refine (alive5_t w).mono ?_
    rintro e w1 ⟨rfl, hb2⟩
    replace hb := below_step hb hb2
    clear hb2 
    go_wp2
    go_ret
    exact ⟨rfl, hb⟩
  have h2' : ¬ (300 : Int) < (q.length : Int) := by omega
  have c1 : ∀ w1, Calls Try.prog 7 #[.string ⟨p.toArray⟩] w1 fun e w' => ∃ v, e = .returned (.tuple #[v, .int .i64 (splE p)]) ∧ SS w' v (labsL p) ∧ Below w1.heap.size w1 w' := fun w1 => split_t p (by omega) w1
  have c2 : ∀ w1, Calls Try.prog 8 #[.string ⟨p.toArray⟩] w1 fun e w' => ∃ v, e = .returned (.tuple #[v, .bool (rightB p)]) ∧ SS w' v (labsL p) ∧ Below w1.heap.size w1 w' := fun w1 => rSplit_t p (by omega) w1
  have c3 := fun u v w1 => lsame_t u v (labsL p) (labsL_len p) w1
  have c4 := fun w1 => isLabel_t p (by omega) w1
  have c5 := fun w1 => rIsLabel_t p (by omega) w1
  have c6 := fun w1 => right_t p (by omega) w1
  have c7 := fun w1 => len_t p (by omega) w1
  have c8 := fun w1 => top_t p (by omega) n w1
  have c9 := fun w1 => rTop_t p (by omega) n w1
  have c10 := fun w1 => same_t p q (by omega) (by omega) w1
  have c11 := fun w1 => rSame_t p q (by omega) (by omega) w1
  have he : splE p = if rightB p = true then 0 else 3 := rfl
  rw [he] at c1
  clear he
  have hk := sameN_le (labsL p) (labsL q)
  have h8 := labsL_len p
  generalize sameN (labsL p) (labsL q) = k at *
  generalize topL p n = T at *
  generalize labsL p = lp at *
  generalize labB p = lb at *
  cases hr : rightB p
  all_goals
    rw [hr] at c1 c2 c6
    simp at c1
    clear hr
    go_enter Try.func3, Try.ntmps3
    go_wp2_with fail
    refine (c1 w).mono ?_
    rintro e w1 ⟨v, rfl, S1, hb2⟩
    replace hb := below_step hb hb2
    clear hb2 c1
    go_wp2_with fail
    refine (c2 w1).mono ?_
    rintro e w2 ⟨u, rfl, S2, hb2⟩
    replace S1 := S1.later hb2
    replace hb := below_step hb hb2
    clear hb2 c2
    have hc3 := c3 v u w2 S1 S2
    obtain ⟨pu, cu, rfl, _, _⟩ := S2
    clear S1 c3
    go_wp2_with fail
    refine (hc3).mono ?_
    rintro e w3 ⟨rfl, hb2⟩
    replace hb := below_step hb hb2
    clear hb2 hc3
    go_wp2_with fail
    refine (c4 w3).mono ?_
    rintro e w4 ⟨rfl, rfl⟩
    go_wp2_with fail
    refine (c5 w3).mono ?_
    rintro e w4 ⟨rfl, rfl⟩
    clear c4 c5
    go_wp2_with fail
    refine (c6 w3).mono ?_
    rintro e w4 ⟨rfl, hb2⟩
    replace hb := below_step hb hb2
    clear hb2 c6
    cases lb
    all_goals
      have hb0 := hb
      go_wp2_with fail
      refine (alive5_t w4).mono ?_
      rintro e w5 ⟨rfl, hb2⟩
      replace hb := below_step hb hb2
      clear hb2 
      go_wp2_with fail
      refine (c7 w5).mono ?_
      rintro e w6 ⟨rfl, hb2⟩
      replace hb := below_step hb hb2
      clear hb2 c7
      go_wp2_with fail
      refine (c8 w6).mono ?_
      rintro e w7 ⟨rfl, hb2⟩
      replace hb := below_step hb hb2
      clear hb2 c8
      go_wp2_with fail
      refine (c9 w7).mono ?_
      rintro e w8 ⟨rfl, hb2⟩
      replace hb := below_step hb hb2
      clear hb2 c9
      go_wp2_with fail
      refine (c10 w8).mono ?_
      rintro e w9 ⟨rfl, hb2⟩
      replace hb := below_step hb hb2
      clear hb2 c10
      go_wp2_with fail
      refine (c11 w9).mono ?_
      rintro e w10 ⟨rfl, hb2⟩
      replace hb := below_step hb hb2
      clear hb2 c11
      go_wp2
      go_ret
      exact ⟨rfl, hb⟩
end Go.Proofs.Ytbhaoafngneclaa
