/- Join, Top and Same of the reference of layer 5, and the law's own comparison. No conditions beyond lengths. -/
import Derived.Test.YtekoicbjpoeijaaLabR2
namespace Go.Proofs.Ytekoicbjpoeijaa
set_option linter.unusedVariables false
set_option linter.unusedSimpArgs false
open Go.RowKit
theorem app_ll (a b : List UInt8) : (⟨a.toArray⟩ : ByteArray) ++ ⟨b.toArray⟩ = ⟨(a ++ b).toArray⟩ := by
  apply ByteArray.ext
  simp
theorem dot_l (a : List UInt8) : (⟨a.toArray⟩ : ByteArray) ++ ⟨#[46]⟩ = ⟨(a ++ [46]).toArray⟩ := app_ll a [46]
theorem jn_take_succ {ls : List (List UInt8)} {j : Nat} {x : List UInt8} (hx : ls[j]? = some x) (hj : 0 < j) : jn (ls.take (j + 1)) = jn (ls.take j) ++ [46] ++ x := by
  have hl : j < ls.length := by rw [List.getElem?_eq_some_iff] at hx; exact hx.1
  rw [List.take_add_one, hx, jn_app (ls.take j) _ (by intro e; rw [List.take_eq_nil_iff] at e; rcases e with e | e; omega; rw [e] at hl; simp at hl) (by simp)]
  show _ ++ 46 :: jn [x] = _
  rw [jn_one]; simp
theorem jn_take_one {ls : List (List UInt8)} {x : List UInt8} (hx : ls[0]? = some x) : jn (ls.take 1) = x := by
  rw [List.take_add_one, hx]; exact jn_one x
set_option maxRecDepth 100000 in
set_option maxHeartbeats 2000000 in
theorem rJoin_t (v : Value) (ls : List (List UInt8)) (h8 : ls.length ≤ 8) (hsl : ∀ x ∈ ls, x.length ≤ 16) (w : World) (hS : SS w v ls) : Calls Try.prog 76 #[v] w fun e w' => e = .returned (.string ⟨(jn ls).toArray⟩) ∧ w = w' := by
  obtain ⟨p, c, rfl, hc, hp⟩ := hS
  have HP := Lib.hid hp
  clear hp
  have hjl : ∀ j, (jn (ls.take j)).length ≤ 17 * 8 := fun j => by
    have := jn_bound (ls.take j) (fun x hx => hsl x (List.mem_of_mem_take hx))
    rw [List.length_take] at this; omega
  have HJL := Lib.hid hjl
  clear hjl
  go_enter Try.func76, Try.ntmps76
  go_wp2_with fail
  go_loopw [3, 4] (fun o i wr => ∃ (j : Nat), j ≤ ls.length ∧ i = .int .i64 (j : Nat) ∧ o = .string ⟨(jn (ls.take j)).toArray⟩ ∧ wr = w) (fun _ i _ => ls.length - (intOf i).toNat)
  case atStart => exact ⟨0, by omega, rfl, rfl, rfl⟩
  case round =>
    obtain ⟨j, hj, rfl, rfl, rfl⟩ := hrel
    by_cases hlt : j < ls.length
    · obtain ⟨g, o, rfl, hg, hC⟩ := HP.out (by omega)
      obtain ⟨x, hx⟩ : ∃ x, ls[j]? = some x := ⟨_, List.getElem?_eq_getElem hlt⟩
      have cA := hC j x hx
      have hxl := hsl x (List.mem_of_getElem? hx)
      have hji : (j : Int) < (ls.length : Int) := by omega
      have hjb := HJL.out j
      clear hC hsl HP HJL
      rcases Nat.eq_zero_or_pos j with h0 | h0
      · subst h0
        have HN := Lib.hid (jn_take_one hx)
        have e0 : jn (ls.take 0) = [] := rfl
        have happ : (⟨#[]⟩ : ByteArray) ++ ⟨x.toArray⟩ = ⟨x.toArray⟩ := app_ll [] x
        rw [e0]
        rw [Nat.add_zero] at cA
        clear hx e0 hjb
        go_wp2
        exact ⟨⟨1, by omega, by go_num, by rw [HN.out], trivial⟩, by simp [intOf]; omega⟩
      · have HN := Lib.hid (jn_take_succ hx h0)
        have h0' : (0 : Int) < (j : Int) := by omega
        generalize jn (ls.take j) = t at *
        have a1 := dot_l t
        have a2 := app_ll (t ++ [46]) x
        have s1 : ¬ 9223372036854775807 < t.length + 1 := by omega
        have s2 : ¬ 9223372036854775807 < t.length + 1 + x.length := by omega
        clear hx
        go_wp2
        exact ⟨⟨j + 1, by omega, by go_num, by rw [HN.out]; simp, trivial⟩, by simp [intOf]; omega⟩
    · have hjl : j = ls.length := by omega
      subst hjl
      rw [List.take_length]
      go_wp2
      go_ret
      exact ⟨rfl, rfl⟩
end Go.Proofs.Ytekoicbjpoeijaa
