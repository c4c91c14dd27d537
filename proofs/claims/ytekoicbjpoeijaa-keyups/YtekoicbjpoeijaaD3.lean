/- On and Cut of package dim. No conditions beyond ranges. -/
import Derived.Test.YtekoicbjpoeijaaD2
import Derived.Test.YtekoicbjpoeijaaKP2
namespace Go.Proofs.Ytekoicbjpoeijaa
set_option linter.unusedVariables false
set_option linter.unusedSimpArgs false
open Go.RowKit
def onD (d : Dm) (l : Int) (k : Ke) : Bool := !decide (lenD d l = -1) && (decide (k.kind = d.kind) && (rightK k && (decide (k.len = lenD d l) || (decide (d.kind = 3) && decide (k.len < lenD d l)))))
def cutD (d : Dm) (l : Int) (k : Ke) : Ke := if lenD d l = -1 ∨ ¬ k.kind = d.kind then kz else cutK k (lenD d l)
theorem lenD_range (d : Dm) (l : Int) : -1 ≤ lenD d l ∧ lenD d l ≤ 128 := by
  unfold lenD
  have hw := wid_range d.kind
  split
  · rename_i h
    obtain ⟨_, s1, s2⟩ := (rightD_iff d).1 h.1
    have : 0 ≤ l * d.step := Int.mul_nonneg h.2.1 (by omega)
    omega
  · omega
set_option maxRecDepth 100000 in
set_option maxHeartbeats 8000000 in
theorem don_t (d : Dm) (l : Int) (k : Ke) (ok : k.ok) (w : World) : Calls Try.prog 47 #[dv d, .int .i64 l, kv k] w fun e w' => e = .returned (.bool (onD d l k)) ∧ Below w.heap.size w w' := by
  have HL := dlen_t d l
  have HR := kright_t k ok
  have hd : onD d l k = (!decide (lenD d l = -1) && (decide (k.kind = d.kind) && (rightK k && (decide (k.len = lenD d l) || (decide (d.kind = 3) && decide (k.len < lenD d l)))))) := rfl
  clear ok
  generalize onD d l k = r at *
  generalize lenD d l = n at *
  generalize rightK k = rk at *
  obtain ⟨dk, sd, st⟩ := d
  dsimp only at *
  unfold dv kv at *
  dsimp only at *
  obtain ⟨RR0, RR1, hb0⟩ := two_rows w #[.int .i64 dk, .int .i64 sd, .int .i64 st] #[.int .i64 k.kind, .int .i64 k.len, .int .u64 k.h, .int .u64 k.l, .string ⟨k.path.toArray⟩] 53 24
  have c0 := (RR0.cell 0).trans (show _ = some (Value.int .i64 dk) from rfl)
  have c1 := (RR0.cell 1).trans (show _ = some (Value.int .i64 sd) from rfl)
  have c2 := (RR0.cell 2).trans (show _ = some (Value.int .i64 st) from rfl)
  have e0 := (RR1.cell 0).trans (show _ = some (Value.int .i64 k.kind) from rfl)
  have e1 := (RR1.cell 1).trans (show _ = some (Value.int .i64 k.len) from rfl)
  have e2 := (RR1.cell 2).trans (show _ = some (Value.int .u64 k.h) from rfl)
  have e3 := (RR1.cell 3).trans (show _ = some (Value.int .u64 k.l) from rfl)
  have e4 := (RR1.cell 4).trans (show _ = some (Value.string ⟨k.path.toArray⟩) from rfl)
  clear RR0 RR1
  by_cases h1 : n = -1
  · have e : r = false := by rw [hd]; simp [h1]
    subst h1 e
    clear hd HR
    go_enter Try.func47, Try.ntmps47
    go_wp2_with fail
    refine (HL _).mono ?_
    rintro e w1 ⟨rfl, hb⟩
    replace c0 := cell_later hb c0
    replace c1 := cell_later hb c1
    replace c2 := cell_later hb c2
    replace e0 := cell_later hb e0
    replace e1 := cell_later hb e1
    replace e2 := cell_later hb e2
    replace e3 := cell_later hb e3
    replace e4 := cell_later hb e4
    replace hb0 := below_step hb0 hb
    clear hb
    have lc := World.block_lt_of_cell? _ _ c0
    dsimp only at lc
    have le := World.block_lt_of_cell? _ _ e0
    dsimp only at le
    go_wp2
    go_ret
    exact ⟨rfl, hb0⟩
  have h1' : (n == -1) = false := by simpa using h1
  by_cases h2 : k.kind = dk
  · subst h2
    cases rk with
    | false =>
      have e : r = false := by rw [hd]; simp
      subst e
      clear hd
      go_enter Try.func47, Try.ntmps47
      go_wp2_with fail
      refine (HL _).mono ?_
      rintro e w2 ⟨rfl, hb⟩
      replace c0 := cell_later hb c0
      replace c1 := cell_later hb c1
      replace c2 := cell_later hb c2
      replace e0 := cell_later hb e0
      replace e1 := cell_later hb e1
      replace e2 := cell_later hb e2
      replace e3 := cell_later hb e3
      replace e4 := cell_later hb e4
      replace hb0 := below_step hb0 hb
      clear hb
      have lc := World.block_lt_of_cell? _ _ c0
      dsimp only at lc
      have le := World.block_lt_of_cell? _ _ e0
      dsimp only at le
      go_wp2_with fail
      refine (HR _).mono ?_
      rintro e w3 ⟨rfl, hb⟩
      replace c0 := cell_later hb c0
      replace c1 := cell_later hb c1
      replace c2 := cell_later hb c2
      replace e0 := cell_later hb e0
      replace e1 := cell_later hb e1
      replace e2 := cell_later hb e2
      replace e3 := cell_later hb e3
      replace e4 := cell_later hb e4
      replace hb0 := below_step hb0 hb
      clear hb
      have lc := World.block_lt_of_cell? _ _ c0
      dsimp only at lc
      have le := World.block_lt_of_cell? _ _ e0
      dsimp only at le
      go_wp2
      go_ret
      exact ⟨rfl, hb0⟩
    | true =>
      have hd2 : r = (decide (k.len = n) || (decide (k.kind = 3) && decide (k.len < n))) := by rw [hd]; simp [h1]
      clear hd
      by_cases h3 : k.len = n
      · have h3' : (k.len == n) = true := by simpa using h3
        have e : r = true := by rw [hd2]; simp [h3]
        subst e
        clear hd2 h3
        go_enter Try.func47, Try.ntmps47
        go_wp2_with fail
        refine (HL _).mono ?_
        rintro e w4 ⟨rfl, hb⟩
        replace c0 := cell_later hb c0
        replace c1 := cell_later hb c1
        replace c2 := cell_later hb c2
        replace e0 := cell_later hb e0
        replace e1 := cell_later hb e1
        replace e2 := cell_later hb e2
        replace e3 := cell_later hb e3
        replace e4 := cell_later hb e4
        replace hb0 := below_step hb0 hb
        clear hb
        have lc := World.block_lt_of_cell? _ _ c0
        dsimp only at lc
        have le := World.block_lt_of_cell? _ _ e0
        dsimp only at le
        go_wp2_with fail
        refine (HR _).mono ?_
        rintro e w5 ⟨rfl, hb⟩
        replace c0 := cell_later hb c0
        replace c1 := cell_later hb c1
        replace c2 := cell_later hb c2
        replace e0 := cell_later hb e0
        replace e1 := cell_later hb e1
        replace e2 := cell_later hb e2
        replace e3 := cell_later hb e3
        replace e4 := cell_later hb e4
        replace hb0 := below_step hb0 hb
        clear hb
        have lc := World.block_lt_of_cell? _ _ c0
        dsimp only at lc
        have le := World.block_lt_of_cell? _ _ e0
        dsimp only at le
        go_wp2
        go_ret
        exact ⟨rfl, hb0⟩
      · have h3' : (k.len == n) = false := by simpa using h3
        by_cases h4 : k.kind = 3
        · obtain ⟨kk, kn, kh, kl, kp⟩ := k
          dsimp only at *
          subst h4
          by_cases h5 : kn < n
          · have e : r = true := by rw [hd2]; simp [h5]
            subst e
            clear hd2
            go_enter Try.func47, Try.ntmps47
            go_wp2_with fail
            refine (HL _).mono ?_
            rintro e w6 ⟨rfl, hb⟩
            replace c0 := cell_later hb c0
            replace c1 := cell_later hb c1
            replace c2 := cell_later hb c2
            replace e0 := cell_later hb e0
            replace e1 := cell_later hb e1
            replace e2 := cell_later hb e2
            replace e3 := cell_later hb e3
            replace e4 := cell_later hb e4
            replace hb0 := below_step hb0 hb
            clear hb
            have lc := World.block_lt_of_cell? _ _ c0
            dsimp only at lc
            have le := World.block_lt_of_cell? _ _ e0
            dsimp only at le
            go_wp2_with fail
            refine (HR _).mono ?_
            rintro e w7 ⟨rfl, hb⟩
            replace c0 := cell_later hb c0
            replace c1 := cell_later hb c1
            replace c2 := cell_later hb c2
            replace e0 := cell_later hb e0
            replace e1 := cell_later hb e1
            replace e2 := cell_later hb e2
            replace e3 := cell_later hb e3
            replace e4 := cell_later hb e4
            replace hb0 := below_step hb0 hb
            clear hb
            have lc := World.block_lt_of_cell? _ _ c0
            dsimp only at lc
            have le := World.block_lt_of_cell? _ _ e0
            dsimp only at le
            go_wp2
            go_ret
            exact ⟨rfl, hb0⟩
          · have h5' : decide (kn < n) = false := decide_eq_false h5
            have e : r = false := by rw [hd2]; simp [h3, h5]
            subst e
            clear hd2
            go_enter Try.func47, Try.ntmps47
            go_wp2_with fail
            refine (HL _).mono ?_
            rintro e w8 ⟨rfl, hb⟩
            replace c0 := cell_later hb c0
            replace c1 := cell_later hb c1
            replace c2 := cell_later hb c2
            replace e0 := cell_later hb e0
            replace e1 := cell_later hb e1
            replace e2 := cell_later hb e2
            replace e3 := cell_later hb e3
            replace e4 := cell_later hb e4
            replace hb0 := below_step hb0 hb
            clear hb
            have lc := World.block_lt_of_cell? _ _ c0
            dsimp only at lc
            have le := World.block_lt_of_cell? _ _ e0
            dsimp only at le
            go_wp2_with fail
            refine (HR _).mono ?_
            rintro e w9 ⟨rfl, hb⟩
            replace c0 := cell_later hb c0
            replace c1 := cell_later hb c1
            replace c2 := cell_later hb c2
            replace e0 := cell_later hb e0
            replace e1 := cell_later hb e1
            replace e2 := cell_later hb e2
            replace e3 := cell_later hb e3
            replace e4 := cell_later hb e4
            replace hb0 := below_step hb0 hb
            clear hb
            have lc := World.block_lt_of_cell? _ _ c0
            dsimp only at lc
            have le := World.block_lt_of_cell? _ _ e0
            dsimp only at le
            go_wp2
            go_ret
            exact ⟨rfl, hb0⟩
        · skip
          have h4' : (k.kind == 3) = false := by simpa using h4
          have e : r = false := by rw [hd2]; simp [h3, h4]
          subst e
          clear hd2
          go_enter Try.func47, Try.ntmps47
          go_wp2_with fail
          refine (HL _).mono ?_
          rintro e w10 ⟨rfl, hb⟩
          replace c0 := cell_later hb c0
          replace c1 := cell_later hb c1
          replace c2 := cell_later hb c2
          replace e0 := cell_later hb e0
          replace e1 := cell_later hb e1
          replace e2 := cell_later hb e2
          replace e3 := cell_later hb e3
          replace e4 := cell_later hb e4
          replace hb0 := below_step hb0 hb
          clear hb
          have lc := World.block_lt_of_cell? _ _ c0
          dsimp only at lc
          have le := World.block_lt_of_cell? _ _ e0
          dsimp only at le
          go_wp2_with fail
          refine (HR _).mono ?_
          rintro e w11 ⟨rfl, hb⟩
          replace c0 := cell_later hb c0
          replace c1 := cell_later hb c1
          replace c2 := cell_later hb c2
          replace e0 := cell_later hb e0
          replace e1 := cell_later hb e1
          replace e2 := cell_later hb e2
          replace e3 := cell_later hb e3
          replace e4 := cell_later hb e4
          replace hb0 := below_step hb0 hb
          clear hb
          have lc := World.block_lt_of_cell? _ _ c0
          dsimp only at lc
          have le := World.block_lt_of_cell? _ _ e0
          dsimp only at le
          go_wp2
          go_ret
          exact ⟨rfl, hb0⟩
  · skip
    have h2' : (k.kind == dk) = false := by simpa using h2
    have e : r = false := by rw [hd]; simp [h2]
    subst e
    clear hd HR
    go_enter Try.func47, Try.ntmps47
    go_wp2_with fail
    refine (HL _).mono ?_
    rintro e w12 ⟨rfl, hb⟩
    replace c0 := cell_later hb c0
    replace c1 := cell_later hb c1
    replace c2 := cell_later hb c2
    replace e0 := cell_later hb e0
    replace e1 := cell_later hb e1
    replace e2 := cell_later hb e2
    replace e3 := cell_later hb e3
    replace e4 := cell_later hb e4
    replace hb0 := below_step hb0 hb
    clear hb
    have lc := World.block_lt_of_cell? _ _ c0
    dsimp only at lc
    have le := World.block_lt_of_cell? _ _ e0
    dsimp only at le
    go_wp2
    go_ret
    exact ⟨rfl, hb0⟩
end Go.Proofs.Ytekoicbjpoeijaa
