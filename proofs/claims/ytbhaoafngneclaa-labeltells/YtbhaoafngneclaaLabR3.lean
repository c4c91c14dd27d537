/- Join, Top and Same of the reference of layer 5, and the law's own comparison. No conditions beyond lengths. -/
import Derived.Test.YtbhaoafngneclaaLabR2
namespace Go.Proofs.Ytbhaoafngneclaa
set_option linter.unusedVariables false
set_option linter.unusedSimpArgs false
open Go.RowKit
theorem app_ll (a b : List UInt8) : (⟨a.toArray⟩ : ByteArray) ++ ⟨b.toArray⟩ = ⟨(a ++ b).toArray⟩ := by
  apply ByteArray.ext
  simp
theorem dot_l (a : List UInt8) : (⟨a.toArray⟩ : ByteArray) ++ ⟨#[46]⟩ = ⟨(a ++ [46]).toArray⟩ := app_ll a [46]
theorem jn_take_succ {ls : List (List UInt8)} {j : Nat} {x : List UInt8} (hx : ls[j]? = some x) (hj : 0 < j) : jn (ls.take (j + 1)) = jn (ls.take j) ++ [46] ++ x := by
  have hl : j < ls.length := by rw [List.getElem?_eq_some_iff] at hx; exact hx.1
  rw [List.take_add_one, hx, jn_app (ls.take j) _ (by intro e; rw [List.take_eq_nil_iff] at e; rcases e with e | e; omega; rw [e] at hl; simp at hl) (by simp)]
  show _ ++ 46 :: jn [x] = _
  rw [jn_one]; simp
theorem jn_take_one {ls : List (List UInt8)} {x : List UInt8} (hx : ls[0]? = some x) : jn (ls.take 1) = x := by
  rw [List.take_add_one, hx]; exact jn_one x
set_option maxRecDepth 100000 in
set_option maxHeartbeats 2000000 in
theorem rJoin_t (v : Value) (ls : List (List UInt8)) (h8 : ls.length ≤ 8) (hsl : ∀ x ∈ ls, x.length ≤ 16) (w : World) (hS : SS w v ls) : Calls Try.prog 19 #[v] w fun e w' => e = .returned (.string ⟨(jn ls).toArray⟩) ∧ w = w' := by
  obtain ⟨p, c, rfl, hc, hp⟩ := hS
  have HP := Lib.hid hp
  clear hp
  have hjl : ∀ j, (jn (ls.take j)).length ≤ 17 * 8 := fun j => by
    have := jn_bound (ls.take j) (fun x hx => hsl x (List.mem_of_mem_take hx))
    rw [List.length_take] at this; omega
  have HJL := Lib.hid hjl
  clear hjl
  go_enter Try.func19, Try.ntmps19
  go_wp2_with fail
  go_loopw [3, 4] (fun o i wr => ∃ (j : Nat), j ≤ ls.length ∧ i = .int .i64 (j : Nat) ∧ o = .string ⟨(jn (ls.take j)).toArray⟩ ∧ wr = w) (fun _ i _ => ls.length - (intOf i).toNat)
  case atStart => exact ⟨0, by omega, rfl, rfl, rfl⟩
  case round =>
    obtain ⟨j, hj, rfl, rfl, rfl⟩ := hrel
    by_cases hlt : j < ls.length
    · obtain ⟨g, o, rfl, hg, hC⟩ := HP.out (by omega)
      obtain ⟨x, hx⟩ : ∃ x, ls[j]? = some x := ⟨_, List.getElem?_eq_getElem hlt⟩
      have cA := hC j x hx
      have hxl := hsl x (List.mem_of_getElem? hx)
      have hji : (j : Int) < (ls.length : Int) := by omega
      have hjb := HJL.out j
      clear hC hsl HP HJL
      rcases Nat.eq_zero_or_pos j with h0 | h0
      · subst h0
        have HN := Lib.hid (jn_take_one hx)
        have e0 : jn (ls.take 0) = [] := rfl
        have happ : (⟨#[]⟩ : ByteArray) ++ ⟨x.toArray⟩ = ⟨x.toArray⟩ := app_ll [] x
        rw [e0]
        rw [Nat.add_zero] at cA
        clear hx e0 hjb
        go_wp2
        exact ⟨⟨1, by omega, by go_num, by rw [HN.out], trivial⟩, by simp [intOf]; omega⟩
      · have HN := Lib.hid (jn_take_succ hx h0)
        have h0' : (0 : Int) < (j : Int) := by omega
        generalize jn (ls.take j) = t at *
        have a1 := dot_l t
        have a2 := app_ll (t ++ [46]) x
        have s1 : ¬ 9223372036854775807 < t.length + 1 := by omega
        have s2 : ¬ 9223372036854775807 < t.length + 1 + x.length := by omega
        clear hx
        go_wp2
        exact ⟨⟨j + 1, by omega, by go_num, by rw [HN.out]; simp, trivial⟩, by simp [intOf]; omega⟩
    · have hjl : j = ls.length := by omega
      subst hjl
      rw [List.take_length]
      go_wp2
      go_ret
      exact ⟨rfl, rfl⟩
set_option maxRecDepth 100000 in
set_option maxHeartbeats 2000000 in
theorem rTop_t (l : List UInt8) (hl : l.length ≤ 400) (n : Int) (w : World) : Calls Try.prog 15 #[.string ⟨l.toArray⟩, .int .i64 n] w fun e w' => e = .returned (.string ⟨(topL l n).toArray⟩) ∧ Below w.heap.size w w' := by
  have h8 := labsL_len l
  have hal := labs_all l
  have cs : Calls Try.prog 8 #[.string ⟨l.toArray⟩] w fun e w' => ∃ v, e = .returned (.tuple #[v, .bool (rightB l)]) ∧ SS w' v (labsL l) ∧ Below w.heap.size w w' := rSplit_t l hl w
  unfold topL
  generalize labsL l = ls at *
  have HAL := Lib.hid (show ∀ x ∈ ls, x.length ≤ 16 from fun x hx => labB_len (hal x hx))
  clear hal
  generalize rightB l = rb at *
  have HC := Lib.hid cs
  clear cs
  go_enter Try.func15, Try.ntmps15
  go_wp2_with fail
  refine HC.out.mono ?_
  rintro e w1 ⟨v, rfl, hS, hb1⟩
  clear HC
  obtain ⟨p, c, rfl, hc, hp⟩ := hS
  have HP := Lib.hid hp
  have HB1 := Lib.hid hb1
  clear hp hb1
  go_wp2_with fail
  go_loopw [7, 8] (fun o i wr => ∃ (j : Nat) (po : Option Addr) (co : Nat), o = .slice po (ls.take j).length co ∧ i = .int .i64 (j : Nat) ∧ j ≤ ls.length ∧ ((j : Int) ≤ n ∨ j = 0) ∧ Hid (OwnS w1.heap.size wr (.slice po (ls.take j).length co) (ls.take j)) ∧ Hid (Below w1.heap.size w1 wr)) (fun _ i _ => ls.length - (intOf i).toNat)
  case atStart => exact ⟨0, none, 0, rfl, rfl, by omega, .inr rfl, Lib.hid (OwnS.nil _ _), Lib.hid (Below.refl _ _)⟩
  case round =>
    obtain ⟨j, po, co, rfl, rfl, hj, hjn, hO, hB⟩ := hrel
    by_cases hlt : j < ls.length ∧ (j : Int) < n
    · obtain ⟨g, o, rfl, hg, hC⟩ := HP.out (by omega)
      obtain ⟨x, hx⟩ : ∃ x, ls[j]? = some x := ⟨_, List.getElem?_eq_getElem hlt.1⟩
      have cA := (hB.out.cell (p := ⟨g, o + j, none⟩) hg).trans (hC j x hx)
      have hji : (j : Int) < (ls.length : Int) := by omega
      have hjn' : (j : Int) < n := hlt.2
      obtain ⟨v', w2, hrun, hown, hb2⟩ := appS_one x hO.out hB.out (by rw [List.length_take]; omega) hB.out.size
      have hts : ls.take j ++ [x] = ls.take (j + 1) := by rw [List.take_add_one, hx]; rfl
      rw [hts] at hown
      obtain ⟨pv, cv, rfl, _, _⟩ := hown.read
      have HOW := Lib.hid hown
      have HB2 := Lib.hid hb2
      have HRUN := Lib.hid hrun
      clear hC HP hx hrun hown hb2 hts hO hB
      generalize (ls.take j).length = m at *
      generalize hm1 : (ls.take (j + 1)).length = m1 at *
      have HM1 := Lib.hid hm1
      clear hm1
      have tok : True := trivial
      go_wp2_with (have _t := tok; at_builtin; refine wpList_appS rfl (.tmp 25) (.tmp 30) 23 rfl rfl rfl HRUN.out ?_; clear tok HRUN)
      refine ⟨⟨j + 1, pv, cv, by rw [HM1.out], by go_num, by omega, .inl (by omega), by rw [HM1.out]; exact HOW, HB2⟩, by simp [intOf]; omega⟩
    · have hstop : ls.take n.toNat = ls.take j := by
        rcases Nat.lt_or_ge j ls.length with h | h
        · have : n.toNat = j := by omega
          rw [this]
        · rw [List.take_of_length_le h, List.take_of_length_le (by omega)]
      have hjt := rJoin_t _ (ls.take j) (by rw [List.length_take]; omega) (fun x hx => HAL.out x (List.mem_of_mem_take hx)) wr hO.out.read
      have HBF := Lib.hid (HB1.out.trans (hB.out.mono HB1.out.size))
      have HST := Lib.hid hstop
      have HJT := Lib.hid hjt
      clear hstop hjt hO hB HP HB1
      generalize ls.take j = tj at *
      by_cases h1 : j < ls.length
      · have h2 : ¬ (j : Int) < n := fun h => hlt ⟨h1, h⟩
        have h1' : (j : Int) < (ls.length : Int) := by omega
        go_wp2_with fail
        refine HJT.out.mono ?_
        rintro e w3 ⟨rfl, rfl⟩
        go_wp2
        go_ret
        exact ⟨by rw [HST.out]; rfl, HBF.out⟩
      · have h1' : ¬ (j : Int) < (ls.length : Int) := by omega
        go_wp2_with fail
        refine HJT.out.mono ?_
        rintro e w3 ⟨rfl, rfl⟩
        go_wp2
        go_ret
        exact ⟨by rw [HST.out]; rfl, HBF.out⟩
end Go.Proofs.Ytbhaoafngneclaa
