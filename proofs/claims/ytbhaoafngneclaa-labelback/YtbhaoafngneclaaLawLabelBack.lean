/- The walk of LabelBack: it returns true. No conditions. -/
import Derived.Test.YtbhaoafngneclaaLabP
import Derived.Test.YtbhaoafngneclaaLabAlive
namespace Go.Proofs.Ytbhaoafngneclaa
set_option linter.unusedVariables false
set_option linter.unusedSimpArgs false
open Go.RowKit
set_option maxRecDepth 100000 in
set_option maxHeartbeats 8000000 in
theorem labelBack_t (p q : List UInt8) (n m : Int) (hn : -9223372036854775808 ≤ n ∧ n ≤ 9223372036854775807) (hm : -9223372036854775808 ≤ m ∧ m ≤ 9223372036854775807) (w : World) : Calls Try.prog 5 #[.string ⟨p.toArray⟩, .string ⟨q.toArray⟩, .int .i64 n, .int .i64 m] w fun e w' => e = .returned (.bool true) ∧ Below w.heap.size w w' := by
  have z1 := bs_size p
  have z2 := bs_size q
  by_cases h1 : 300 < p.length
  · have h1' : (300 : Int) < (p.length : Int) := by omega
    go_enter Try.func5, Try.ntmps5
    go_wp2_with fail
    refine (alive5_t w).mono ?_
    rintro e w1 ⟨rfl, hb⟩
    go_wp2
    go_ret
    exact ⟨rfl, hb⟩
  have h1' : ¬ (300 : Int) < (p.length : Int) := by omega
  by_cases h2 : 300 < q.length
  · have h2' : (300 : Int) < (q.length : Int) := by omega
    go_enter Try.func5, Try.ntmps5
    go_wp2_with fail
    refine (alive5_t w).mono ?_
    rintro e w1 ⟨rfl, hb⟩
    go_wp2
    go_ret
    exact ⟨rfl, hb⟩
  have h2' : ¬ (300 : Int) < (q.length : Int) := by omega
  cases hp : rightB p with
  | false =>
    have cr := right_t p (by omega) w
    rw [hp] at cr
    go_enter Try.func5, Try.ntmps5
    go_wp2_with fail
    refine cr.mono ?_
    rintro e w1 ⟨rfl, hb⟩
    clear cr
    go_wp2_with fail
    refine (alive5_t w1).mono ?_
    rintro e w2 ⟨rfl, hb2⟩
    go_wp2
    go_ret
    exact ⟨rfl, below_step hb hb2⟩
  | true =>
  cases hq : rightB q with
  | false =>
    have cr := right_t p (by omega) w
    rw [hp] at cr
    have cq := fun w => right_t q (by omega) w
    rw [hq] at cq
    go_enter Try.func5, Try.ntmps5
    go_wp2_with fail
    refine cr.mono ?_
    rintro e w1 ⟨rfl, hb⟩
    clear cr
    go_wp2_with fail
    refine (cq w1).mono ?_
    rintro e w2 ⟨rfl, hb2⟩
    replace hb := below_step hb hb2
    clear cq hb2
    go_wp2_with fail
    refine (alive5_t w2).mono ?_
    rintro e w3 ⟨rfl, hb2⟩
    go_wp2
    go_ret
    exact ⟨rfl, below_step hb hb2⟩
  | true =>
    have cr := right_t p (by omega) w
    rw [hp] at cr
    have cq := fun w => right_t q (by omega) w
    rw [hq] at cq
    have hs0 : splE p = 0 := by unfold splE; rw [hp]; rfl
    have cs : ∀ w1, Calls Try.prog 7 #[.string ⟨p.toArray⟩] w1 fun e w' => ∃ v, e = .returned (.tuple #[v, .int .i64 0]) ∧ SS w' v (labsL p) ∧ Below w1.heap.size w1 w' := fun w1 => by have := split_t p (by omega) w1; unfold SplitPost at this; rw [hs0] at this; exact this
    have cj : ∀ v w1, SS w1 v (labsL p) → Calls Try.prog 18 #[v] w1 fun e w' => e = .returned (.tuple #[.string ⟨p.toArray⟩, .int .i64 0]) ∧ Below w1.heap.size w1 w' := fun v w1 hS => by
      have := join_t v (labsL p) (by have := labsL_len p; omega) (fun x hx => by have := labB_len (labs_all p x hx); omega) w1 hS
      rw [(join_labs hp).1, (join_labs hp).2] at this; exact this
    have ctp := fun n w1 => top_t p (by omega) n w1
    have ctq := fun n w1 => top_t q (by omega) n w1
    have crt := fun w1 => right_t (topL p n) (top_len p n) w1
    have ctt := fun w1 => top_t (topL p n) (top_len p n) m w1
    have csm := fun w1 => same_t p q (by omega) (by omega) w1
    have csq := fun w1 => same_t q p (by omega) (by omega) w1
    have css := fun w1 => same_t p p (by omega) (by omega) w1
    have cln := fun w1 => len_t p (by omega) w1
    rw [right_top] at crt
    rw [sameN_comm] at csq
    rw [sameN_self] at css
    rw [top_top] at ctt
    have e1 := top_same p q
    have e2 := top_next hp hq
    have hk := sameN_le (labsL p) (labsL q)
    have h8 := labsL_len p
    have HE := Lib.hid (And.intro e1 e2)
    generalize sameN (labsL p) (labsL q) = k at *
    generalize (labsL p).length = r at *
    generalize labsL p = lp at *
    clear hp hq hs0 e1 e2
    go_enter Try.func5, Try.ntmps5
    go_wp2_with fail
    refine cr.mono ?_
    rintro e w1 ⟨rfl, hb⟩
    clear cr
    go_wp2_with fail
    refine (cq w1).mono ?_
    rintro e w2 ⟨rfl, hb2⟩
    replace hb := below_step hb hb2
    clear cq hb2
    go_wp2_with fail
    refine (cs w2).mono ?_
    rintro e w3 ⟨v, rfl, hS, hb2⟩
    replace hb := below_step hb hb2
    clear cs hb2
    go_wp2_with fail
    refine (cj v w3 hS).mono ?_
    rintro e w4 ⟨rfl, hb2⟩
    replace hb := below_step hb hb2
    clear cj hb2 hS
    go_wp2_with fail
    refine (ctp n w4).mono ?_
    rintro e w5 ⟨rfl, hb2⟩
    replace hb := below_step hb hb2
    clear hb2
    go_wp2_with fail
    refine (crt w5).mono ?_
    rintro e w6 ⟨rfl, hb2⟩
    replace hb := below_step hb hb2
    clear hb2 crt
    go_wp2_with fail
    refine (csm w6).mono ?_
    rintro e w7 ⟨rfl, hb2⟩
    replace hb := below_step hb hb2
    clear hb2
    have hb8 : ∃ b : Bool, (p == q) = b ∧ (topL p ((k : Int) + 1) == topL q ((k : Int) + 1)) = b := ⟨_, rfl, by rw [Bool.eq_iff_iff, beq_iff_eq, beq_iff_eq]; exact HE.out.2⟩
    have ct1 := ctp k
    have ct2 := ctq k
    rw [← HE.out.1] at ct2
    have ct3 := ctp ((k : Int) + 1)
    have ct4 := ctq ((k : Int) + 1)
    have ct5 := ctp (min n m)
    have ct6 := ctp n
    clear ctp ctq HE
    generalize topL p ((k : Int) + 1) = A at *
    generalize topL q ((k : Int) + 1) = B at *
    generalize topL p k = C at *
    generalize topL p n = D at *
    generalize topL p (min n m) = E at *
    obtain ⟨b, hbp, hbt⟩ := hb8
    go_wp2_with fail
    refine (ct1 w7).mono ?_
    rintro e w8 ⟨rfl, hb2⟩
    replace hb := below_step hb hb2
    clear hb2 ct1
    go_wp2_with fail
    refine (ct2 w8).mono ?_
    rintro e w9 ⟨rfl, hb2⟩
    replace hb := below_step hb hb2
    clear hb2 ct2
    go_wp2_with fail
    refine (ct3 w9).mono ?_
    rintro e w10 ⟨rfl, hb2⟩
    replace hb := below_step hb hb2
    clear hb2 ct3
    go_wp2_with fail
    refine (ct4 w10).mono ?_
    rintro e w11 ⟨rfl, hb2⟩
    replace hb := below_step hb hb2
    clear hb2 ct4
    by_cases hmn : m < n
    · rw [show min n m = m by omega] at ct5
      cases b
      all_goals
        go_wp2_with fail
        refine (alive5_t w11).mono ?_
        rintro e w12 ⟨rfl, hb2⟩
        replace hb := below_step hb hb2
        clear hb2
        go_wp2_with fail
        refine (ct6 w12).mono ?_
        rintro e w13 ⟨rfl, hb2⟩
        replace hb := below_step hb hb2
        clear hb2 ct6
        go_wp2_with fail
        refine (ctt w13).mono ?_
        rintro e w14 ⟨rfl, hb2⟩
        replace hb := below_step hb hb2
        clear hb2 ctt
        go_wp2_with fail
        refine (ct5 w14).mono ?_
        rintro e w15 ⟨rfl, hb2⟩
        replace hb := below_step hb hb2
        clear hb2 ct5
        go_wp2_with fail
        refine (csm w15).mono ?_
        rintro e w16 ⟨rfl, hb2⟩
        replace hb := below_step hb hb2
        clear hb2 csm
        go_wp2_with fail
        refine (csq w16).mono ?_
        rintro e w17 ⟨rfl, hb2⟩
        replace hb := below_step hb hb2
        clear hb2 csq
        go_wp2_with fail
        refine (css w17).mono ?_
        rintro e w18 ⟨rfl, hb2⟩
        replace hb := below_step hb hb2
        clear hb2 css
        go_wp2_with fail
        refine (cln w18).mono ?_
        rintro e w19 ⟨rfl, hb2⟩
        replace hb := below_step hb hb2
        clear hb2 cln
        go_wp2
        go_ret
        exact ⟨rfl, hb⟩
    · rw [show min n m = n by omega] at ct5
      cases b
      all_goals
        go_wp2_with fail
        refine (alive5_t w11).mono ?_
        rintro e w12 ⟨rfl, hb2⟩
        replace hb := below_step hb hb2
        clear hb2
        go_wp2_with fail
        refine (ct6 w12).mono ?_
        rintro e w13 ⟨rfl, hb2⟩
        replace hb := below_step hb hb2
        clear hb2 ct6
        go_wp2_with fail
        refine (ctt w13).mono ?_
        rintro e w14 ⟨rfl, hb2⟩
        replace hb := below_step hb hb2
        clear hb2 ctt
        go_wp2_with fail
        refine (ct5 w14).mono ?_
        rintro e w15 ⟨rfl, hb2⟩
        replace hb := below_step hb hb2
        clear hb2 ct5
        go_wp2_with fail
        refine (csm w15).mono ?_
        rintro e w16 ⟨rfl, hb2⟩
        replace hb := below_step hb hb2
        clear hb2 csm
        go_wp2_with fail
        refine (csq w16).mono ?_
        rintro e w17 ⟨rfl, hb2⟩
        replace hb := below_step hb hb2
        clear hb2 csq
        go_wp2_with fail
        refine (css w17).mono ?_
        rintro e w18 ⟨rfl, hb2⟩
        replace hb := below_step hb hb2
        clear hb2 css
        go_wp2_with fail
        refine (cln w18).mono ?_
        rintro e w19 ⟨rfl, hb2⟩
        replace hb := below_step hb hb2
        clear hb2 cln
        go_wp2
        go_ret
        exact ⟨rfl, hb⟩
end Go.Proofs.Ytbhaoafngneclaa
