/- FourBack answers true for every address, text and cut. No conditions. -/
import Derived.Test.YtkenkjdelhmaoaaDoorFour4
namespace Go.Proofs.YtkenkjdelhmaoaaDoor
set_option linter.unusedVariables false
set_option linter.unusedSimpArgs false
open Go.RowKit
theorem print_len (a : Int) : (print4 a).length ≤ 15 := by
  unfold print4
  rw [txt4_is]
  have h0 := decDigits_len (byteI a 0).toNat (by have := byteI_range a 0; omega)
  have h1 := decDigits_len (byteI a 1).toNat (by have := byteI_range a 1; omega)
  have h2 := decDigits_len (byteI a 2).toNat (by have := byteI_range a 2; omega)
  have h3 := decDigits_len (byteI a 3).toNat (by have := byteI_range a 3; omega)
  simp
  omega
theorem ext_list (l : List UInt8) (m : Nat) : (⟨l.toArray⟩ : ByteArray).extract 0 m = ⟨(l.take m).toArray⟩ := by
  simp [ByteArray.extract, ByteArray.copySlice]
set_option maxRecDepth 100000 in
set_option maxHeartbeats 1600000 in
theorem fourBack_any (a : Int) (a0 : 0 ≤ a) (a1 : a ≤ 4294967295) (l : List UInt8) (cut : Int) (w : World) (hE : Env w) :
    Calls Tryd.prog 5 #[.int .u32 a, .string ⟨l.toArray⟩, .int .i64 cut] w fun e w' => e = .returned (.bool true) ∧ Below w.heap.size w w' := by
  have hsz := bs_size l
  by_cases h300 : 300 < l.length
  · go_enter Tryd.func5, Tryd.ntmps5
    go_wp2_with fail
    refine (alive3_t _ hE).mono ?_
    rintro r w1 ⟨rfl, hb⟩
    go_wp2
    go_ret
    exact ⟨rfl, hb⟩
  · have hlen := print_len a
    have p1 := fun w hE => parse4_t (print4 a) (by omega) w hE
    rw [parse_print a a0 a1] at p1
    have P1 := Lib.hid p1
    have P2 := Lib.hid (fun w hE => parse4_t l (by omega) w hE)
    clear p1
    have hpo := Lib.hid (fun h => parse_ok (l := l) h)
    have hpe := parse_err l
    go_enter Tryd.func5, Tryd.ntmps5
    go_wp2_with fail
    refine (print4_t a a0 a1 w hE).mono ?_
    rintro r w1 ⟨rfl, hb1⟩
    have HB1 := Lib.hid hb1
    clear hb1
    go_wp2_with fail
    refine (P1.out w1 (hE.later HB1.out)).mono ?_
    rintro r w2 ⟨rfl, hb2⟩
    have HB2 := Lib.hid (below_step HB1.out hb2)
    clear hb2
    go_wp2_with fail
    refine (P2.out w2 (hE.later HB2.out)).mono ?_
    rintro r w3 ⟨rfl, hb3⟩
    have HB3 := Lib.hid (below_step HB2.out hb3)
    clear hb3
    have hall : ∀ m, m < (print4 a).length → ¬ ((parse4 ((print4 a).take m)).2 = 0 ∧ (parse4 ((print4 a).take m)).1 = a) := by
      intro m hm h
      have h2 := (parse_ok h.1).1
      rw [h.2] at h2
      have := congrArg List.length h2
      rw [List.length_take] at this
      omega
    have HALL := Lib.hid hall
    clear hall
    generalize hx1 : (parse4 l).1 = c1 at *
    generalize hx2 : (parse4 l).2 = e1 at *
    clear hx1 hx2 P1 P2
    have hplen : (⟨(print4 a).toArray⟩ : ByteArray).size = (print4 a).length := bs_size _
    have key : ∀ w4, Below w.heap.size w w4 → ∀ (K : Prop), True := fun _ _ _ => trivial
    clear key
    rcases hpe with rfl | rfl
    · obtain ⟨hpr, hc0, hc1⟩ := hpo.out rfl
      go_wp2_with fail
      refine (print4_t c1 hc0 hc1 w3 (hE.later HB3.out)).mono ?_
      rintro r w4 ⟨rfl, hb4⟩
      rw [hpr]
      have HB4 := Lib.hid (below_step HB3.out hb4)
      clear hb4 hpr
      by_cases hcut : 0 ≤ cut ∧ cut < (print4 a).length
      · obtain ⟨q0, q1⟩ := hcut
        obtain ⟨m, rfl⟩ : ∃ m : Nat, cut = m := ⟨cut.toNat, by omega⟩
        have hm : m < (print4 a).length := by omega
        have hnm := HALL.out m hm
        have hex := ext_list (print4 a) m
        have hm2 : (m : Int) ≤ ((print4 a).length : Int) := by omega
        have P3 := Lib.hid (fun w hE => parse4_t ((print4 a).take m) (by rw [List.length_take]; omega) w hE)
        go_wp2_with fail
        refine (P3.out w4 (hE.later HB4.out)).mono ?_
        rintro r w5 ⟨rfl, hb5⟩
        have HB5 := Lib.hid (below_step HB4.out hb5)
        clear hb5
        generalize hx3 : (parse4 ((print4 a).take m)).1 = d3 at *
        generalize hx4 : (parse4 ((print4 a).take m)).2 = e3 at *
        clear hx3 hx4 P3
        by_cases he3 : e3 = 0
        · subst he3
          have hd3 : ¬ d3 = a := fun h => hnm ⟨rfl, h⟩
          have hd4 : (d3 == a) = false := by simpa using hd3
          go_wp2_with fail
          refine (alive3_t w5 (hE.later HB5.out)).mono ?_
          rintro r w6 ⟨rfl, hb6⟩
          have hb7 := below_step HB5.out hb6
          go_wp2
          go_ret
          exact ⟨rfl, hb7⟩
        · have he4 : (e3 == 0) = false := by simpa using he3
          go_wp2_with fail
          refine (alive3_t w5 (hE.later HB5.out)).mono ?_
          rintro r w6 ⟨rfl, hb6⟩
          have hb7 := below_step HB5.out hb6
          go_wp2
          go_ret
          exact ⟨rfl, hb7⟩
      · have qc : cut < 0 ∨ (0 ≤ cut ∧ ¬ cut < ((print4 a).length : Int)) := by omega
        rcases qc with q0 | ⟨q0, q1⟩
        · go_wp2_with fail
          refine (alive3_t w4 (hE.later HB4.out)).mono ?_
          rintro r w6 ⟨rfl, hb6⟩
          have hb7 := below_step HB4.out hb6
          go_wp2
          go_ret
          exact ⟨rfl, hb7⟩
        · go_wp2_with fail
          refine (alive3_t w4 (hE.later HB4.out)).mono ?_
          rintro r w6 ⟨rfl, hb6⟩
          have hb7 := below_step HB4.out hb6
          go_wp2
          go_ret
          exact ⟨rfl, hb7⟩
    · have w4e : w3 = w3 := rfl
      have HB4 := HB3
      by_cases hcut : 0 ≤ cut ∧ cut < (print4 a).length
      · obtain ⟨q0, q1⟩ := hcut
        obtain ⟨m, rfl⟩ : ∃ m : Nat, cut = m := ⟨cut.toNat, by omega⟩
        have hm : m < (print4 a).length := by omega
        have hnm := HALL.out m hm
        have hex := ext_list (print4 a) m
        have hm2 : (m : Int) ≤ ((print4 a).length : Int) := by omega
        have P3 := Lib.hid (fun w hE => parse4_t ((print4 a).take m) (by rw [List.length_take]; omega) w hE)
        go_wp2_with fail
        refine (P3.out w3 (hE.later HB4.out)).mono ?_
        rintro r w5 ⟨rfl, hb5⟩
        have HB5 := Lib.hid (below_step HB4.out hb5)
        clear hb5
        generalize hx3 : (parse4 ((print4 a).take m)).1 = d3 at *
        generalize hx4 : (parse4 ((print4 a).take m)).2 = e3 at *
        clear hx3 hx4 P3
        by_cases he3 : e3 = 0
        · subst he3
          have hd3 : ¬ d3 = a := fun h => hnm ⟨rfl, h⟩
          have hd4 : (d3 == a) = false := by simpa using hd3
          go_wp2_with fail
          refine (alive3_t w5 (hE.later HB5.out)).mono ?_
          rintro r w6 ⟨rfl, hb6⟩
          have hb7 := below_step HB5.out hb6
          go_wp2
          go_ret
          exact ⟨rfl, hb7⟩
        · have he4 : (e3 == 0) = false := by simpa using he3
          go_wp2_with fail
          refine (alive3_t w5 (hE.later HB5.out)).mono ?_
          rintro r w6 ⟨rfl, hb6⟩
          have hb7 := below_step HB5.out hb6
          go_wp2
          go_ret
          exact ⟨rfl, hb7⟩
      · have qc : cut < 0 ∨ (0 ≤ cut ∧ ¬ cut < ((print4 a).length : Int)) := by omega
        rcases qc with q0 | ⟨q0, q1⟩
        · go_wp2_with fail
          refine (alive3_t w3 (hE.later HB4.out)).mono ?_
          rintro r w6 ⟨rfl, hb6⟩
          have hb7 := below_step HB4.out hb6
          go_wp2
          go_ret
          exact ⟨rfl, hb7⟩
        · go_wp2_with fail
          refine (alive3_t w3 (hE.later HB4.out)).mono ?_
          rintro r w6 ⟨rfl, hb6⟩
          have hb7 := below_step HB4.out hb6
          go_wp2
          go_ret
          exact ⟨rfl, hb7⟩
end Go.Proofs.YtkenkjdelhmaoaaDoor
