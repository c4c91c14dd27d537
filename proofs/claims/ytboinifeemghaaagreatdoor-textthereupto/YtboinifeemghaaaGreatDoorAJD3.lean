/- D3, D4, D5, D6, D8, KR4, KR5, KR6, KR7, KR8, P0, P1, P2: what the theorem needs of these texts. No conditions beyond those that are written. -/
import Derived.Test.YtboinifeemghaaaGreatDoorAJK0
set_option linter.unusedSimpArgs false
set_option linter.unusedVariables false
set_option maxHeartbeats 8000000
set_option maxRecDepth 100000
namespace Go.Proofs.YtboinifeemghaaaGreatDoor
open Go.RowKit
def onD (d : Dm) (l : Int) (k : Ke) : Bool := !decide (lenD d l = -1) && (decide (k.kind = d.kind) && (rightK k && (decide (k.len = lenD d l) || (decide (d.kind = 3) && decide (k.len < lenD d l)))))
def cutD (d : Dm) (l : Int) (k : Ke) : Ke := if lenD d l = -1 ∨ ¬ k.kind = d.kind then kz else cutK k (lenD d l)
theorem lenD_range (d : Dm) (l : Int) : -1 ≤ lenD d l ∧ lenD d l ≤ 128 := by
 unfold lenD
 have hw := wid_range d.kind
 split
 ·rename_i h
  obtain ⟨_, s1, s2⟩ := (rightD_iff d).1 h.1
  have : 0 ≤ l * d.step := Int.mul_nonneg h.2.1 (by omega)
  omega
 ·omega
theorem don_t (d : Dm) (l : Int) (k : Ke) (ok : k.ok) (w : World) : Calls Tryz.prog 41 #[dv d, .int .i64 l, kv k] w fun e w' => e = .returned (.bool (onD d l k)) ∧ Below w.heap.size w w' := by
 have HL := dlen_t d l
 have HR := kright_t k ok
 have hd : onD d l k = (!decide (lenD d l = -1) && (decide (k.kind = d.kind) && (rightK k && (decide (k.len = lenD d l) || (decide (d.kind = 3) && decide (k.len < lenD d l)))))) := rfl
 clear ok
 generalize onD d l k = r at *
 generalize lenD d l = n at *
 generalize rightK k = rk at *
 obtain ⟨dk, sd, st⟩ := d
 dsimp only at *
 unfold dv kv at *
 dsimp only at *
 obtain ⟨RR0, RR1, hb0⟩ := two_rows w #[.int .i64 dk, .int .i64 sd, .int .i64 st] #[.int .i64 k.kind, .int .i64 k.len, .int .u64 k.h, .int .u64 k.l, .string ⟨k.path.toArray⟩] 23 26
 have c0 := (RR0.cell 0).trans (show _ = some (Value.int .i64 dk) from rfl)
 have c1 := (RR0.cell 1).trans (show _ = some (Value.int .i64 sd) from rfl)
 have c2 := (RR0.cell 2).trans (show _ = some (Value.int .i64 st) from rfl)
 have e0 := (RR1.cell 0).trans (show _ = some (Value.int .i64 k.kind) from rfl)
 have e1 := (RR1.cell 1).trans (show _ = some (Value.int .i64 k.len) from rfl)
 have e2 := (RR1.cell 2).trans (show _ = some (Value.int .u64 k.h) from rfl)
 have e3 := (RR1.cell 3).trans (show _ = some (Value.int .u64 k.l) from rfl)
 have e4 := (RR1.cell 4).trans (show _ = some (Value.string ⟨k.path.toArray⟩) from rfl)
 clear RR0 RR1
 by_cases h1 : n = -1
 ·have e : r = false := by rw [hd]; simp [h1]
  subst h1 e
  clear hd HR
  go_enter Tryz.func41, Tryz.ntmps41
  go_wp2_with fail
  refine (HL _).mono ?_
  rintro e w1 ⟨rfl, hb⟩
  replace c0 := cl hb c0
  replace c1 := cl hb c1
  replace c2 := cl hb c2
  replace e0 := cl hb e0
  replace e1 := cl hb e1
  replace e2 := cl hb e2
  replace e3 := cl hb e3
  replace e4 := cl hb e4
  replace hb0 := below_step hb0 hb
  clear hb
  have lc := World.block_lt_of_cell? _ _ c0
  dsimp only at lc
  have le := World.block_lt_of_cell? _ _ e0
  dsimp only at le
  go_wp2
  go_ret
  exact ⟨rfl, hb0⟩
 have h1' : (n == -1) = false := by simpa using h1
 by_cases h2 : k.kind = dk
 ·subst h2
  cases rk with
  | false =>
   have e : r = false := by rw [hd]; simp
   subst e
   clear hd
   go_enter Tryz.func41, Tryz.ntmps41
   go_wp2_with fail
   refine (HL _).mono ?_
   rintro e w2 ⟨rfl, hb⟩
   replace c0 := cl hb c0
   replace c1 := cl hb c1
   replace c2 := cl hb c2
   replace e0 := cl hb e0
   replace e1 := cl hb e1
   replace e2 := cl hb e2
   replace e3 := cl hb e3
   replace e4 := cl hb e4
   replace hb0 := below_step hb0 hb
   clear hb
   have lc := World.block_lt_of_cell? _ _ c0
   dsimp only at lc
   have le := World.block_lt_of_cell? _ _ e0
   dsimp only at le
   go_wp2_with fail
   refine (HR _).mono ?_
   rintro e w3 ⟨rfl, hb⟩
   replace c0 := cl hb c0
   replace c1 := cl hb c1
   replace c2 := cl hb c2
   replace e0 := cl hb e0
   replace e1 := cl hb e1
   replace e2 := cl hb e2
   replace e3 := cl hb e3
   replace e4 := cl hb e4
   replace hb0 := below_step hb0 hb
   clear hb
   have lc := World.block_lt_of_cell? _ _ c0
   dsimp only at lc
   have le := World.block_lt_of_cell? _ _ e0
   dsimp only at le
   go_wp2
   go_ret
   exact ⟨rfl, hb0⟩
  | true =>
   have hd2 : r = (decide (k.len = n) || (decide (k.kind = 3) && decide (k.len < n))) := by rw [hd]; simp [h1]
   clear hd
   by_cases h3 : k.len = n
   ·have h3' : (k.len == n) = true := by simpa using h3
    have e : r = true := by rw [hd2]; simp [h3]
    subst e
    clear hd2 h3
    go_enter Tryz.func41, Tryz.ntmps41
    go_wp2_with fail
    refine (HL _).mono ?_
    rintro e w4 ⟨rfl, hb⟩
    replace c0 := cl hb c0
    replace c1 := cl hb c1
    replace c2 := cl hb c2
    replace e0 := cl hb e0
    replace e1 := cl hb e1
    replace e2 := cl hb e2
    replace e3 := cl hb e3
    replace e4 := cl hb e4
    replace hb0 := below_step hb0 hb
    clear hb
    have lc := World.block_lt_of_cell? _ _ c0
    dsimp only at lc
    have le := World.block_lt_of_cell? _ _ e0
    dsimp only at le
    go_wp2_with fail
    refine (HR _).mono ?_
    rintro e w5 ⟨rfl, hb⟩
    replace c0 := cl hb c0
    replace c1 := cl hb c1
    replace c2 := cl hb c2
    replace e0 := cl hb e0
    replace e1 := cl hb e1
    replace e2 := cl hb e2
    replace e3 := cl hb e3
    replace e4 := cl hb e4
    replace hb0 := below_step hb0 hb
    clear hb
    have lc := World.block_lt_of_cell? _ _ c0
    dsimp only at lc
    have le := World.block_lt_of_cell? _ _ e0
    dsimp only at le
    go_wp2
    go_ret
    exact ⟨rfl, hb0⟩
   ·have h3' : (k.len == n) = false := by simpa using h3
    by_cases h4 : k.kind = 3
    ·obtain ⟨kk, kn, kh, kl, kp⟩ := k
     dsimp only at *
     subst h4
     by_cases h5 : kn < n
     ·have e : r = true := by rw [hd2]; simp [h5]
      subst e
      clear hd2
      go_enter Tryz.func41, Tryz.ntmps41
      go_wp2_with fail
      refine (HL _).mono ?_
      rintro e w6 ⟨rfl, hb⟩
      replace c0 := cl hb c0
      replace c1 := cl hb c1
      replace c2 := cl hb c2
      replace e0 := cl hb e0
      replace e1 := cl hb e1
      replace e2 := cl hb e2
      replace e3 := cl hb e3
      replace e4 := cl hb e4
      replace hb0 := below_step hb0 hb
      clear hb
      have lc := World.block_lt_of_cell? _ _ c0
      dsimp only at lc
      have le := World.block_lt_of_cell? _ _ e0
      dsimp only at le
      go_wp2_with fail
      refine (HR _).mono ?_
      rintro e w7 ⟨rfl, hb⟩
      replace c0 := cl hb c0
      replace c1 := cl hb c1
      replace c2 := cl hb c2
      replace e0 := cl hb e0
      replace e1 := cl hb e1
      replace e2 := cl hb e2
      replace e3 := cl hb e3
      replace e4 := cl hb e4
      replace hb0 := below_step hb0 hb
      clear hb
      have lc := World.block_lt_of_cell? _ _ c0
      dsimp only at lc
      have le := World.block_lt_of_cell? _ _ e0
      dsimp only at le
      go_wp2
      go_ret
      exact ⟨rfl, hb0⟩
     ·have h5' : decide (kn < n) = false := decide_eq_false h5
      have e : r = false := by rw [hd2]; simp [h3, h5]
      subst e
      clear hd2
      go_enter Tryz.func41, Tryz.ntmps41
      go_wp2_with fail
      refine (HL _).mono ?_
      rintro e w8 ⟨rfl, hb⟩
      replace c0 := cl hb c0
      replace c1 := cl hb c1
      replace c2 := cl hb c2
      replace e0 := cl hb e0
      replace e1 := cl hb e1
      replace e2 := cl hb e2
      replace e3 := cl hb e3
      replace e4 := cl hb e4
      replace hb0 := below_step hb0 hb
      clear hb
      have lc := World.block_lt_of_cell? _ _ c0
      dsimp only at lc
      have le := World.block_lt_of_cell? _ _ e0
      dsimp only at le
      go_wp2_with fail
      refine (HR _).mono ?_
      rintro e w9 ⟨rfl, hb⟩
      replace c0 := cl hb c0
      replace c1 := cl hb c1
      replace c2 := cl hb c2
      replace e0 := cl hb e0
      replace e1 := cl hb e1
      replace e2 := cl hb e2
      replace e3 := cl hb e3
      replace e4 := cl hb e4
      replace hb0 := below_step hb0 hb
      clear hb
      have lc := World.block_lt_of_cell? _ _ c0
      dsimp only at lc
      have le := World.block_lt_of_cell? _ _ e0
      dsimp only at le
      go_wp2
      go_ret
      exact ⟨rfl, hb0⟩
    ·skip
     have h4' : (k.kind == 3) = false := by simpa using h4
     have e : r = false := by rw [hd2]; simp [h3, h4]
     subst e
     clear hd2
     go_enter Tryz.func41, Tryz.ntmps41
     go_wp2_with fail
     refine (HL _).mono ?_
     rintro e w10 ⟨rfl, hb⟩
     replace c0 := cl hb c0
     replace c1 := cl hb c1
     replace c2 := cl hb c2
     replace e0 := cl hb e0
     replace e1 := cl hb e1
     replace e2 := cl hb e2
     replace e3 := cl hb e3
     replace e4 := cl hb e4
     replace hb0 := below_step hb0 hb
     clear hb
     have lc := World.block_lt_of_cell? _ _ c0
     dsimp only at lc
     have le := World.block_lt_of_cell? _ _ e0
     dsimp only at le
     go_wp2_with fail
     refine (HR _).mono ?_
     rintro e w11 ⟨rfl, hb⟩
     replace c0 := cl hb c0
     replace c1 := cl hb c1
     replace c2 := cl hb c2
     replace e0 := cl hb e0
     replace e1 := cl hb e1
     replace e2 := cl hb e2
     replace e3 := cl hb e3
     replace e4 := cl hb e4
     replace hb0 := below_step hb0 hb
     clear hb
     have lc := World.block_lt_of_cell? _ _ c0
     dsimp only at lc
     have le := World.block_lt_of_cell? _ _ e0
     dsimp only at le
     go_wp2
     go_ret
     exact ⟨rfl, hb0⟩
 ·skip
  have h2' : (k.kind == dk) = false := by simpa using h2
  have e : r = false := by rw [hd]; simp [h2]
  subst e
  clear hd HR
  go_enter Tryz.func41, Tryz.ntmps41
  go_wp2_with fail
  refine (HL _).mono ?_
  rintro e w12 ⟨rfl, hb⟩
  replace c0 := cl hb c0
  replace c1 := cl hb c1
  replace c2 := cl hb c2
  replace e0 := cl hb e0
  replace e1 := cl hb e1
  replace e2 := cl hb e2
  replace e3 := cl hb e3
  replace e4 := cl hb e4
  replace hb0 := below_step hb0 hb
  clear hb
  have lc := World.block_lt_of_cell? _ _ c0
  dsimp only at lc
  have le := World.block_lt_of_cell? _ _ e0
  dsimp only at le
  go_wp2
  go_ret
  exact ⟨rfl, hb0⟩
theorem dcut_t (d : Dm) (l : Int) (k : Ke) (ok : k.ok) (w : World) : Calls Tryz.prog 26 #[dv d, .int .i64 l, kv k] w fun e w' => e = .returned (kv (cutD d l k)) ∧ Below w.heap.size w w' := by
 have HL := dlen_t d l
 have hn := lenD_range d l
 have HC := kcut_t k ok (lenD d l) (by omega)
 have hd : cutD d l k = if lenD d l = -1 ∨ ¬ k.kind = d.kind then kz else cutK k (lenD d l) := rfl
 clear ok
 generalize cutK k (lenD d l) = t at *
 generalize cutD d l k = r at *
 generalize lenD d l = n at *
 obtain ⟨dk, sd, st⟩ := d
 dsimp only at *
 unfold dv at *
 dsimp only at *
 obtain ⟨R0, R1, R2, hb0⟩ := three_rows w #[.int .i64 dk, .int .i64 sd, .int .i64 st] #[.int .i64 k.kind, .int .i64 k.len, .int .u64 k.h, .int .u64 k.l, .string ⟨k.path.toArray⟩] #[.int .i64 0, .int .i64 0, .int .u64 0, .int .u64 0, .string ⟨#[]⟩] 23 26 26
 have c0 := (R0.cell 0).trans (show _ = some (Value.int .i64 dk) from rfl)
 have c1 := (R0.cell 1).trans (show _ = some (Value.int .i64 sd) from rfl)
 have c2 := (R0.cell 2).trans (show _ = some (Value.int .i64 st) from rfl)
 clear R0
 by_cases h1 : n = -1
 ·subst h1
  rw [if_pos (.inl rfl)] at hd
  subst hd
  clear HC R1
  unfold kv kz
  dsimp only
  go_enter Tryz.func26, Tryz.ntmps26
  go_wp2_with fail
  refine (HL _).mono ?_
  rintro e w1 ⟨rfl, hb⟩
  replace R2 := R2.later hb
  replace hb0 := below_step hb0 hb
  clear hb c0 c1 c2
  have z0 := ((R2).cell 0).trans (show _ = some (Value.int .i64 0) from rfl)
  have zf0 := (R2).frozen 0
  have z1 := ((R2).cell 1).trans (show _ = some (Value.int .i64 0) from rfl)
  have zf1 := (R2).frozen 1
  have z2 := ((R2).cell 2).trans (show _ = some (Value.int .u64 0) from rfl)
  have zf2 := (R2).frozen 2
  have z3 := ((R2).cell 3).trans (show _ = some (Value.int .u64 0) from rfl)
  have zf3 := (R2).frozen 3
  have z4 := ((R2).cell 4).trans (show _ = some (Value.string ⟨#[]⟩) from rfl)
  have zf4 := (R2).frozen 4
  clear R2
  go_wp2
  refine bodyPost_ret (v := .agg #[.int .i64 0, .int .i64 0, .int .u64 0, .int .u64 0, .string ⟨#[]⟩]) (by simp [results, Tryz.results26, go_sem, z0, z1, z2, z3, z4]) rfl ⟨rfl, bset5 hb0 (by omega) _ _ _ _ _⟩
 have h1' : (n == -1) = false := by simpa using h1
 by_cases h2 : k.kind = dk
 ·rw [if_neg (by simp [h1, h2])] at hd
  subst hd
  obtain ⟨kk, kn, kh, kl, kp⟩ := k
  dsimp only at *
  subst h2
  obtain ⟨t0, t1, t2, t3, t4⟩ := r
  unfold kv at *
  dsimp only at *
  go_enter Tryz.func26, Tryz.ntmps26
  go_wp2_with fail
  refine (HL _).mono ?_
  rintro e w1 ⟨rfl, hb⟩
  replace c0 := cl hb c0
  replace R1 := R1.later hb
  replace R2 := R2.later hb
  replace hb0 := below_step hb0 hb
  clear hb c1 c2 HL
  have d0 := ((R1).cell 0).trans (show _ = some (Value.int .i64 kk) from rfl)
  have df0 := (R1).frozen 0
  have d1 := ((R1).cell 1).trans (show _ = some (Value.int .i64 kn) from rfl)
  have df1 := (R1).frozen 1
  have d2 := ((R1).cell 2).trans (show _ = some (Value.int .u64 kh) from rfl)
  have df2 := (R1).frozen 2
  have d3 := ((R1).cell 3).trans (show _ = some (Value.int .u64 kl) from rfl)
  have df3 := (R1).frozen 3
  have d4 := ((R1).cell 4).trans (show _ = some (Value.string ⟨kp.toArray⟩) from rfl)
  have df4 := (R1).frozen 4
  clear R1
  go_wp2_with fail
  refine (HC _).mono ?_
  rintro e w2 ⟨rfl, hb⟩
  replace R2 := R2.later hb
  replace hb0 := below_step hb0 hb
  clear hb c0 d0 d1 d2 d3 d4 df0 df1 df2 df3 df4 HC
  have z0 := ((R2).cell 0).trans (show _ = some (Value.int .i64 0) from rfl)
  have zf0 := (R2).frozen 0
  have z1 := ((R2).cell 1).trans (show _ = some (Value.int .i64 0) from rfl)
  have zf1 := (R2).frozen 1
  have z2 := ((R2).cell 2).trans (show _ = some (Value.int .u64 0) from rfl)
  have zf2 := (R2).frozen 2
  have z3 := ((R2).cell 3).trans (show _ = some (Value.int .u64 0) from rfl)
  have zf3 := (R2).frozen 3
  have z4 := ((R2).cell 4).trans (show _ = some (Value.string ⟨#[]⟩) from rfl)
  have zf4 := (R2).frozen 4
  clear R2
  go_wp2
  refine bodyPost_ret (v := .agg #[.int .i64 t0, .int .i64 t1, .int .u64 t2, .int .u64 t3, .string ⟨t4.toArray⟩]) (by simp [results, Tryz.results26, go_sem, z0, z1, z2, z3, z4]) rfl ⟨rfl, bset5 hb0 (by omega) _ _ _ _ _⟩
 ·rw [if_pos (.inr h2)] at hd
  subst hd
  have h2' : (k.kind == dk) = false := by simpa using h2
  clear HC
  unfold kv kz
  dsimp only
  go_enter Tryz.func26, Tryz.ntmps26
  go_wp2_with fail
  refine (HL _).mono ?_
  rintro e w1 ⟨rfl, hb⟩
  replace c0 := cl hb c0
  have d0 := ((R1.later hb).cell 0).trans (show _ = some (Value.int .i64 k.kind) from rfl)
  replace R2 := R2.later hb
  replace hb0 := below_step hb0 hb
  clear hb c1 c2 R1 HL
  have z0 := ((R2).cell 0).trans (show _ = some (Value.int .i64 0) from rfl)
  have zf0 := (R2).frozen 0
  have z1 := ((R2).cell 1).trans (show _ = some (Value.int .i64 0) from rfl)
  have zf1 := (R2).frozen 1
  have z2 := ((R2).cell 2).trans (show _ = some (Value.int .u64 0) from rfl)
  have zf2 := (R2).frozen 2
  have z3 := ((R2).cell 3).trans (show _ = some (Value.int .u64 0) from rfl)
  have zf3 := (R2).frozen 3
  have z4 := ((R2).cell 4).trans (show _ = some (Value.string ⟨#[]⟩) from rfl)
  have zf4 := (R2).frozen 4
  clear R2
  go_wp2
  refine bodyPost_ret (v := .agg #[.int .i64 0, .int .i64 0, .int .u64 0, .int .u64 0, .string ⟨#[]⟩]) (by simp [results, Tryz.results26, go_sem, z0, z1, z2, z3, z4]) rfl ⟨rfl, bset5 hb0 (by omega) _ _ _ _ _⟩
attribute [local go_sem] Oper.semAt_some
def cntD (d : Dm) : Nat := if rightD d = true then (depthD d).toNat + 1 else 0
theorem cntD_ok {d : Dm} (h : rightD d = true) : (cntD d : Int) = depthD d + 1 := by
 unfold cntD
 rw [if_pos h]
 have := (depth_range h).1
 omega
theorem cntD_bad {d : Dm} (h : rightD d = false) : cntD d = 0 := by unfold cntD; rw [h]; rfl
theorem abides_below {β : Type} {B : Nat} {J : β → World → Prop} (h : AbidesFrom B J) {s : β} {W W' : World} (hs : J s W) (hb : Below W.heap.size W W') : J s W' :=
 h s W W' none hs ⟨hb.os, hb.tape, hb.output, hb.size, fun k hk _ => hb.block k hk⟩ (fun r e => by cases e)
def levF (d : Dm) (k : Nat) : Array Value := #[.int .i64 k, .int .i64 (lenD d k)]
theorem levels1_in (d : Dm) (n g : Nat) (w : World) (hR : Row w g #[.int .i64 d.kind, .int .i64 d.side, .int .i64 d.step] 23) :
  SeqN Fence.wide n Tryz.prog 104 #[.pointer (some ⟨g, 0, none⟩)] (levF d) (fun V V' => V'.heap[g]? = V.heap[g]?) (cntD d) w := by
 intro i J Jx W hb hJ hJx hY h0
 have R := hR.below hb hR.lt
 have HR := fun w1 => dright_t d w1
 have HE := fun w1 => ddepth_t d w1
 have HL := fun (l : Int) w1 => dlen_t d l w1
 have hc1 := @cntD_ok d
 have hc2 := @cntD_bad d
 have hq := @depth_range d
 unfold dv at HR HE HL
 clear hb hR
 have c0 := (R.cell 0).trans (show _ = some (Value.int .i64 d.kind) from rfl)
 have c1 := (R.cell 1).trans (show _ = some (Value.int .i64 d.side) from rfl)
 have c2 := (R.cell 2).trans (show _ = some (Value.int .i64 d.step) from rfl)
 refine callsIn_of_wp Tryz.func104 rfl trivial ?_ rfl
 simp only [Tryz.ntmps104, List.size_toArray, List.length_cons, List.length_nil, Nat.reduceAdd, Nat.reduceSub, Array.replicate_succ, Array.replicate_zero, List.push_toArray, List.append_toArray, List.nil_append, List.cons_append]
 have HJ := Lib.hid (And.intro hJ hJx)
 have hY' := Lib.hid hY
 have H0 := Lib.hid h0
 have HRR := Lib.hid R
 clear hY hJ hJx h0 R
 generalize hN : cntD d = N at *
 generalize rightD d = rd at *
 generalize depthD d = q at *
 cases rd with
 | false =>
  have hN0 := hc2 rfl
  subst hN0
  clear hc1 hc2 hq
  gi_wp2
  refine ⟨trivial, fun h => (by cases h), (callsIn_wide.2 (HR W)).mono ?_⟩
  rintro e w1 ⟨rfl, hb⟩
  have J1 := abides_below HJ.out.1 H0.out hb
  clear hb c0 c1 c2 HR HE HL
  gi_wp2
  exact bodyPost_ret (results_none rfl _ _ _) rfl ⟨⟨_, rfl⟩, .inl J1⟩
 | true =>
  have hN0 := hc1 rfl
  obtain ⟨q1, q2, _, _⟩ := hq rfl
  clear hc1 hc2 hq
  gi_wp2
  refine ⟨trivial, fun h => (by cases h), (callsIn_wide.2 (HR W)).mono ?_⟩
  rintro e w1 ⟨rfl, hb⟩
  have J1 := abides_below HJ.out.1 H0.out hb
  have R1 := HRR.out.later hb
  replace c0 := cl hb c0
  replace c1 := cl hb c1
  replace c2 := cl hb c2
  clear hb HR H0 HRR
  gi_wp2
  refine ⟨trivial, fun h => (by cases h), (callsIn_wide.2 (HE w1)).mono ?_⟩
  rintro e w2 ⟨rfl, hb⟩
  replace J1 := Lib.hid (abides_below HJ.out.1 J1 hb)
  replace R1 := Lib.hid (R1.later hb)
  clear hb HE c0 c1 c2
  have qN : q + 1 = (N : Int) := by omega
  have wr1 : IntKind.i64.wrap (q + 1) = q + 1 := IntWalk.i64_in _ (by omega)
  have N8 : N ≤ 129 := by omega
  obtain rfl : q = (N : Int) - 1 := by omega
  have qN2 : (N : Int) - 1 + 1 = (N : Int) := by omega
  clear qN wr1 hN0 q1 q2
  gi_wp2
  gi_loopw [10] (fun iv wr => ∃ k : Nat, iv = .int .i64 k ∧ k ≤ N ∧ Hid (J k wr) ∧ Hid (Row wr g #[.int .i64 d.kind, .int .i64 d.side, .int .i64 d.step] 23)) (fun iv _ => N - (intOf iv).toNat)
  case atStart => exact ⟨0, rfl, Nat.zero_le _, J1, R1⟩
  case round =>
   clear J1 R1
   obtain ⟨k, rfl, hk, hJk, hRk⟩ := hrel
   by_cases hlt : k < N
   ·have hlt' : (k : Int) < (N : Int) := by omega
    have c0 := (hRk.out.cell 0).trans (show _ = some (Value.int .i64 d.kind) from rfl)
    have c1 := (hRk.out.cell 1).trans (show _ = some (Value.int .i64 d.side) from rfl)
    have c2 := (hRk.out.cell 2).trans (show _ = some (Value.int .i64 d.step) from rfl)
    gi_wp2
    refine ⟨trivial, fun h => (by cases h), (callsIn_wide.2 (HL k wr)).mono ?_⟩
    rintro e w3 ⟨rfl, hb⟩
    have J2 := abides_below HJ.out.1 hJk.out hb
    have R2 := hRk.out.later hb
    clear hb c0 c1 c2 hJk hRk
    obtain ⟨fn, tmps, assign, body, hy, hR⟩ := hY'.out k w3 hlt J2
    have hpf : levF d k = #[.int .i64 k, .int .i64 (lenD d k)] := rfl
    rw [hpf] at hy
    replace R2 := Lib.hid R2
    clear J2 hpf
    gi_wp2
    refine ⟨fun h => (by cases h), hR.mono ?_⟩
    rintro e W3 (⟨rfl, hJ3, hK3⟩ | ⟨rfl, hJx3⟩)
    ·have R3 := Lib.hid (show Row W3 g _ _ from hK3.trans R2.out)
     replace hJ3 := Lib.hid hJ3
     clear hK3
     gi_wp2
     exact ⟨⟨k + 1, by go_num, by omega, hJ3, R3⟩, by simp [intOf]; omega⟩
    ·gi_wp2
     refine bodyPost_ret (results_none rfl _ _ _) rfl ?_
     exact ⟨⟨_, rfl⟩, .inr ⟨_, by omega, hJx3⟩⟩
   ·have hkN : k = N := by omega
    subst hkN
    gi_wp2
    go_end0
    exact ⟨⟨_, rfl⟩, .inl hJk.out⟩
theorem levels_t (d : Dm) (w : World) : Calls Tryz.prog 64 #[dv d] w fun e w' => e = .returned (.func (.func 104) #[] #[.pointer (some ⟨w.heap.size, 0, none⟩)]) ∧ w' = w.alloc (.cells #[.int .i64 d.kind, .int .i64 d.side, .int .i64 d.step] 23) := by
 have hmf : ∀ (fn : Fn) (first cap : Array Value) (w : World), (Instr.makeFunc fn first cap).run Tryz.prog w = .ok (.func fn first cap) w := fun _ _ _ _ => rfl
 unfold dv
 go_enter Tryz.func64, Tryz.ntmps64
 go_wp2
 go_ret
 exact ⟨rfl, rfl⟩
attribute [local go_sem] Oper.semAt_some
def levelD (d : Dm) (n : Int) : Int := match (List.range (cntD d)).find? (fun i : Nat => decide (lenD d i = n)) with
 | some i => (i : Int)
 | none => -1
theorem levelD_at {d : Dm} {n : Int} {k : Nat} (h : ∀ j : Nat, j < k → lenD d j ≠ n) (hk : k < cntD d) (hn : lenD d k = n) : levelD d n = k := by
 unfold levelD
 have : (List.range (cntD d)).find? (fun i : Nat => decide (lenD d i = n)) = some k := by
  rw [List.find?_eq_some_iff_getElem]
  refine ⟨by simpa using hn, k, by simpa using hk, by simp, fun j hj => ?_⟩
  simp only [List.getElem_range]
  simpa using h j hj
 rw [this]
theorem levelD_no {d : Dm} {n : Int} (h : ∀ j : Nat, j < cntD d → lenD d j ≠ n) : levelD d n = -1 := by
 unfold levelD
 have : (List.range (cntD d)).find? (fun i : Nat => decide (lenD d i = n)) = none := by
  rw [List.find?_eq_none]
  intro x hx
  simpa using h x (by simpa using hx)
 rw [this]
theorem dlevel_t (d : Dm) (n : Int) (w : World) : Calls Tryz.prog 25 #[dv d, .int .i64 n] w fun e w' => e = .returned (.int .i64 (levelD d n)) ∧ Below w.heap.size w w' := by
 refine (callsIn_wide (n := 3)).1 ?_
 refine callsIn_of_wp_marks Tryz.func25 rfl trivial ?_ rfl
 simp only [Tryz.ntmps25, List.size_toArray, List.length_cons, List.length_nil, Nat.reduceAdd, Nat.reduceSub, Array.replicate_succ, Array.replicate_zero, List.push_toArray, List.append_toArray, List.nil_append, List.cons_append]
 have HLV := levels_t d
 have hat := @levelD_at d n
 have hno := @levelD_no d n
 generalize levelD d n = LV at *
 unfold dv at *
 gi_wp2
 refine ⟨trivial, (callsIn_wide.2 (HLV _)).mono ?_⟩
 rintro e w1 ⟨rfl, rfl⟩
 gi_wp2
 obtain ⟨_, R1, R2, hB0⟩ := three_rows w #[.int .i64 d.kind, .int .i64 d.side, .int .i64 d.step] #[.int .i64 n] #[.int .i64 0] 23 3 3
 replace R1 := R1.alloc (.cells #[.int .i64 d.kind, .int .i64 d.side, .int .i64 d.step] 23)
 replace R2 := R2.alloc (.cells #[.int .i64 d.kind, .int .i64 d.side, .int .i64 d.step] 23)
 have R3 := Row.new (((w.alloc (.cells #[.int .i64 d.kind, .int .i64 d.side, .int .i64 d.step] 23)).alloc (.cells #[.int .i64 n] 3)).alloc (.cells #[.int .i64 0] 3)) #[.int .i64 d.kind, .int .i64 d.side, .int .i64 d.step] 23
 rw [World.size_alloc, World.size_alloc, World.size_alloc] at R3
 replace hB0 := hB0.alloc hB0.size (.cells #[.int .i64 d.kind, .int .i64 d.side, .int .i64 d.step] 23)
 have hs0 := hB0.size
 generalize (((w.alloc (.cells #[.int .i64 d.kind, .int .i64 d.side, .int .i64 d.step] 23)).alloc (.cells #[.int .i64 n] 3)).alloc (.cells #[.int .i64 0] 3)).alloc (.cells #[.int .i64 d.kind, .int .i64 d.side, .int .i64 d.step] 23) = w0 at *
 have hg3 := R3.lt
 refine wpIn_rangeN rfl (by omega) (gf := 104) (lb := #[.pointer (some ⟨w.heap.size + 1 + 1 + 1, 0, none⟩)]) rfl trivial (enters_of Tryz.func104 (by kernel_rfl) rfl)
  (levels1_in d _ (w.heap.size + 1 + 1 + 1) w0 R3) (fun h1 h2 => h2.trans h1) (fun W l o o' hl _ _ _ => World.putObj_heap_other (by omega)) (Below.refl _ _) (fun _ => rfl)
  (fun k W => ((∀ j : Nat, j < k → lenD d j ≠ n) ∧ Row W (w.heap.size + 1) #[.int .i64 n] 3 ∧ Row W (w.heap.size + 1 + 1) #[.int .i64 0] 3) ∧ Below w.heap.size w W)
  (fun c _ W => (c = .ret ∧ Row W (w.heap.size + 1 + 1) #[.int .i64 LV] 3) ∧ Below w.heap.size w W)
  (OwnFrom.and (Own.from (fun s A B row hs hg hr => ⟨hs.1, row_kept hs.2.1 hg hr, row_kept hs.2.2 hg hr⟩) _) (ownFrom_below (Nat.le_refl _) hs0))
  (fun c => OwnFrom.and (Own.from (fun s A B row hs hg hr => ⟨hs.1, row_kept hs.2 hg hr⟩) _) (ownFrom_below (Nat.le_refl _) hs0))
  ⟨⟨fun j hj => by omega, R1, R2⟩, hB0⟩
  (fun k => { tmps := #[.agg #[.int .i64 d.kind, .int .i64 d.side, .int .i64 d.step], .int .i64 n, .pointer (some ⟨w.heap.size, 0, none⟩), .pointer (some ⟨w.heap.size + 1, 0, none⟩), .pointer (some ⟨w.heap.size + 1 + 1, 0, none⟩), .int .i64 k, .int .i64 (lenD d k), .agg #[.int .i64 d.kind, .int .i64 d.side, .int .i64 d.step], .func (.func 104) #[] #[.pointer (some ⟨w.heap.size + 1 + 1 + 1, 0, none⟩)], .int .i64 k, .int .i64 (lenD d k), undef, undef, undef, undef], defers := [] }) ?assign ?body ?done ?stop
 case assign =>
  intro i k W K hK
  unfold levF
  gi_wp2
  exact hK
 case body =>
  rintro i k W hkN ⟨⟨hp, R1, R2⟩, hB⟩
  have c1 := (R1.cell 0).trans (show _ = some (Value.int .i64 n) from rfl)
  have c2 := (R2.cell 0).trans (show _ = some (Value.int .i64 0) from rfl)
  have f2 := R2.frozen 0
  have HR1 := Lib.hid R1
  have HR2 := Lib.hid R2
  have HB := Lib.hid hB
  have hs1 : w.heap.size ≤ w.heap.size + 1 + 1 := by omega
  have HP := Lib.hid (fun h : lenD d k ≠ n => (fun j hj => by
   by_cases e : j = k
   ·subst e; exact h
   ·exact hp j (by omega) : ∀ j : Nat, j < k + 1 → lenD d j ≠ n))
  have HA := Lib.hid (fun h : lenD d k = n => hat hp hkN h)
  clear hp R1 R2 hB hat hno R3 hB0
  generalize lenD d k = lk at *
  by_cases e : lk = n
  ·have HE := Lib.hid (HA.out e)
   subst e
   clear HP HA
   gi_wp2
   have RN := HR2.out.set 0 (.int .i64 k)
   exact ⟨(KeepsOthers.setCell _ _ _).from _, ⟨rfl, by rw [HE.out]; exact RN⟩, HB.out.setCell hs1 _⟩
  ·have e' : (lk == n) = false := by simpa using e
   have HE := Lib.hid (HP.out e)
   clear HP HA e
   gi_wp2
   exact ⟨KeepsFrom.refl _ _, rfl, ⟨HE.out, HR1.out, HR2.out⟩, HB.out⟩
 case done =>
  rintro D W hD ⟨⟨hp, _, R⟩, hB⟩ hK
  have HE := Lib.hid (hno hp)
  have c2 := (R.cell 0).trans (show _ = some (Value.int .i64 0) from rfl)
  have f2 := R.frozen 0
  have HRR := Lib.hid R
  clear hp R R1 R2 hB0 hat hno
  gi_wp2
  have hK' := (KeepsOthers.setCell W ⟨w.heap.size + 1 + 1, 0, none⟩ (.int .i64 (-1))).same D _ hK rfl
  refine ⟨by simp, .inl ⟨_, _, rfl, run_takeDeferred hK', ?_⟩⟩
  have hc5 := ((row_put (HRR.out.set 0 (.int .i64 (-1))) (.deferred none) hK' rfl).cell 0).trans (show _ = some (Value.int .i64 (-1)) from rfl)
  refine ⟨.int .i64 (-1), ?_, by rw [HE.out], (hB.setCell (p := ⟨w.heap.size + 1 + 1, 0, none⟩) (by simp; omega) _).trans (belowK_b (w := w) (Nat.le_refl _) _ D _ _ (by omega) hK' rfl rfl)⟩
  simp only [results, Tryz.results25]
  simp [go_sem, hc5]
 case stop =>
  rintro D c k W hD _ ⟨⟨rfl, R⟩, hB⟩ hK
  gi_wp2
  refine ⟨by simp, .inl ⟨_, _, rfl, run_takeDeferred hK, ?_⟩⟩
  have hc5 := ((row_put R (.deferred none) hK rfl).cell 0).trans (show _ = some (Value.int .i64 LV) from rfl)
  refine ⟨.int .i64 LV, ?_, rfl, hB.trans (belowK_b (w := w) (Nat.le_refl _) W D _ _ (by omega) hK rfl rfl)⟩
  simp only [results, Tryz.results25]
  simp [go_sem, hc5]
theorem lenD_yes {d : Dm} {l : Int} (h : rightD d = true) (h0 : 0 ≤ l) (h1 : l ≤ depthD d) : lenD d l = max (wid d.kind - l * d.step) 0 := by
 unfold lenD; rw [if_pos ⟨h, h0, h1⟩]
theorem lenD_no {d : Dm} {l : Int} (h : ¬ (rightD d = true ∧ 0 ≤ l ∧ l ≤ depthD d)) : lenD d l = -1 := by
 unfold lenD; rw [if_neg h]
theorem lenD_there {d : Dm} {l : Int} (h : 0 ≤ lenD d l) : rightD d = true ∧ 0 ≤ l ∧ l ≤ depthD d := Classical.byContradiction fun e => by
 rw [lenD_no e] at h; omega
theorem lenD_zero {d : Dm} (h : rightD d = true) : lenD d 0 = wid d.kind := by
 obtain ⟨g1, _, _, _⟩ := depth_range h
 have hw := wid_range d.kind
 rw [lenD_yes h (by omega) (by omega)]; omega
theorem lenD_end {d : Dm} (h : rightD d = true) : lenD d (depthD d) = 0 := by
 obtain ⟨g1, _, g3, _⟩ := depth_range h
 rw [lenD_yes h (by omega) (by omega)]; omega
theorem mul_step {l m s : Int} (h : l ≤ m) (hs : 0 ≤ s) : l * s ≤ m * s := Int.mul_le_mul_of_nonneg_right h hs
theorem lenD_step {d : Dm} (h : rightD d = true) {l : Int} (h0 : 0 ≤ l) (h1 : l < depthD d) : lenD d (l + 1) < lenD d l ∧ (lenD d l - lenD d (l + 1) = d.step ∨ (lenD d l - lenD d (l + 1) < d.step ∧ l + 1 = depthD d)) ∧ 0 < lenD d l := by
 obtain ⟨g1, g2, g3, g4⟩ := depth_range h
 obtain ⟨_, s1, s2⟩ := (rightD_iff d).1 h
 rw [lenD_yes h h0 (by omega), lenD_yes h (by omega) (by omega)]
 have e1 := mul_step (show l ≤ depthD d - 1 by omega) (show 0 ≤ d.step by omega)
 have e2 : (l + 1) * d.step = l * d.step + d.step := by rw [Int.add_mul, Int.one_mul]
 by_cases hl : l + 1 = depthD d
 ·rw [← hl] at g3 g4
  rw [show l + 1 - 1 = l by omega] at g4
  refine ⟨by omega, ?_, by omega⟩
  by_cases hz : wid d.kind - (l + 1) * d.step < 0
  ·right; exact ⟨by omega, hl⟩
  ·left; omega
 ·have e3 := mul_step (show l + 1 ≤ depthD d - 1 by omega) (show 0 ≤ d.step by omega)
  refine ⟨by omega, .inl (by omega), by omega⟩
theorem lenD_less {d : Dm} (h : rightD d = true) : ∀ (m : Nat) (l : Int), 0 ≤ l → l + m + 1 ≤ depthD d → lenD d (l + m + 1) < lenD d l
 | 0, l, h0, h1 => by
  have := (lenD_step h h0 (by omega)).1
  rw [show l + ((0 : Nat) : Int) + 1 = l + 1 by omega]; exact this
 | m + 1, l, h0, h1 => by
  have a := lenD_less h m l h0 (by omega)
  have b := (lenD_step h (l := l + m + 1) (by omega) (by omega)).1
  rw [show l + ((m + 1 : Nat) : Int) + 1 = l + m + 1 + 1 by omega]
  omega
theorem onD_iff (d : Dm) (l : Int) (k : Ke) : onD d l k = true ↔ 0 ≤ lenD d l ∧ k.kind = d.kind ∧ rightK k = true ∧ (k.len = lenD d l ∨ (d.kind = 3 ∧ k.len < lenD d l)) := by
 have := lenD_range d l
 unfold onD
 simp only [Bool.and_eq_true, Bool.or_eq_true, Bool.not_eq_true', decide_eq_false_iff_not, decide_eq_true_eq]
 constructor
 ·rintro ⟨a, b, c, e⟩; exact ⟨by omega, b, c, e⟩
 ·rintro ⟨a, b, c, e⟩; exact ⟨by omega, b, c, e⟩
theorem cutD_yes {d : Dm} {l : Int} {k : Ke} (h : 0 ≤ lenD d l) (hk : k.kind = d.kind) : cutD d l k = cutK k (lenD d l) := by
 unfold cutD; rw [if_neg (by rintro (e | e); omega; exact e hk)]
theorem kind_dim {d : Dm} (h : rightD d = true) : d.kind = 1 ∨ d.kind = 2 ∨ d.kind = 3 := by
 obtain ⟨_, s1, s2⟩ := (rightD_iff d).1 h
 unfold wid at s2
 by_cases a : d.kind = 1
 ·exact .inl a
 ·by_cases b : d.kind = 2
  ·exact .inr (.inl b)
  ·by_cases c : d.kind = 3
   ·exact .inr (.inr c)
   ·rw [if_neg a, if_neg b, if_neg c] at s2; omega
theorem nonempty_str {p : List UInt8} (h : p ≠ []) : ((⟨p.toArray⟩ : ByteArray).toList == (⟨#[]⟩ : ByteArray).toList) = false ∧ p.isEmpty = false ∧ ¬ p = [] := by
 rw [bytes_list]
 have e : (⟨#[]⟩ : ByteArray).toList = [] := bytes_list []
 rw [e]
 cases p with
 | nil => exact absurd rfl h
 | cons c r => exact ⟨rfl, rfl, by simp⟩
theorem letters_adr_bad (k : Ke) (h3 : ¬ k.kind = 3) (hb : wid k.kind = 0 ∨ k.len < 0 ∨ wid k.kind < k.len ∨ k.path ≠ []) (w : World) : Calls Tryz.prog 81 #[kv k] w (LetPost k w) := by
 have hr : rightK k = false := by
  rw [Bool.eq_false_iff]
  intro e
  obtain ⟨a, b, c, d⟩ := right_adr k h3 e
  rcases hb with x | x | x | x
  ·exact a x
  ·omega
  ·omega
  ·exact x d
 have HB := Lib.hid (fun (w' : World) (hb : Below w.heap.size w w') => letPost_bad hr hb)
 have HW := fun w1 => rwidth_t k.kind w1
 have hp := @nonempty_str k.path
 clear hr
 obtain ⟨kd, len, h, l, p⟩ := k
 dsimp only at *
 have hk3 : (kd == 3) = false := by simpa using h3
 generalize wid kd = wd at *
 generalize LetPost ⟨kd, len, h, l, p⟩ w = PP at *
 unfold kv
 dsimp only
 obtain ⟨RR0, hb0⟩ := one_row w #[.int .i64 kd, .int .i64 len, .int .u64 h, .int .u64 l, .string ⟨p.toArray⟩] 26
 have c0 := (RR0.cell 0).trans (show _ = some (Value.int .i64 kd) from rfl)
 have c1 := (RR0.cell 1).trans (show _ = some (Value.int .i64 len) from rfl)
 have c2 := (RR0.cell 2).trans (show _ = some (Value.int .u64 h) from rfl)
 have c3 := (RR0.cell 3).trans (show _ = some (Value.int .u64 l) from rfl)
 have c4 := (RR0.cell 4).trans (show _ = some (Value.string ⟨p.toArray⟩) from rfl)
 clear RR0
 by_cases t0 : wd = 0
 ·subst t0
  clear hp hb
  go_enter Tryz.func81, Tryz.ntmps81
  go_wp2_with fail
  refine wp_region_held_drew (S := (fun w' => w'.cell? ⟨w.heap.size, 0, none⟩ = some (.int .i64 kd) ∧ w'.cell? ⟨w.heap.size, 1, none⟩ = some (.int .i64 len) ∧ w'.cell? ⟨w.heap.size, 2, none⟩ = some (.int .u64 h) ∧ w'.cell? ⟨w.heap.size, 3, none⟩ = some (.int .u64 l) ∧ w'.cell? ⟨w.heap.size, 4, none⟩ = some (.string ⟨p.toArray⟩) ∧ Below w.heap.size w w')) (by kernel_rfl) ?hSr1_ (fun hH => ?_)
  case hSr1_ => (first | exact ⟨c0, c1, c2, c3, c4, hb0.drew⟩ | exact ⟨c0, c1, c2, c3, c4, hb0⟩ | (obtain ⟨c0, c1, c2, c3, c4, hb0⟩ := hH; exact ⟨cl hb c0, cl hb c1, cl hb c2, cl hb c3, cl hb c4, below_step hb0 hb⟩))
  refine tk 0 ⟨some 38, .fieldAddr 26 (.tmp 1) 0, 0, _, _, _⟩ hH ?_
  refine tk 1 ⟨some 39, .load 3 (.tmp 38), 3, _, _, _⟩ hH ?_
  refine wpAnyH_ready (rs := [2]) (by kernel_rfl) (by simp) ?_
  refine AllReadyH.cons (o := ⟨some 40, .call { callee := .value (.func 71), args := #[.tmp 39], argTypes := #[3] }, 3, _, _, _⟩) rfl (fun K hK => ?_) AllReadyH.nil
  (go_simp; (refine (HW _).mono ?_); (rintro e wn ⟨rfl, hb⟩); go_wp2_with fail)
  refine hK.out _ _ ?hSr1_3_2 fun _ => ?_
  case hSr1_3_2 => (first | exact ⟨c0, c1, c2, c3, c4, hb0.drew⟩ | exact ⟨c0, c1, c2, c3, c4, hb0⟩ | (obtain ⟨c0, c1, c2, c3, c4, hb0⟩ := hH; exact ⟨cl hb c0, cl hb c1, cl hb c2, cl hb c3, cl hb c4, below_step hb0 hb⟩))
  clear hK K hH; rename_i hH
  (try simp only [Act.put, nz1, nz2, nz3])
  refine tk 3 ⟨some 41, .binOp .eql 3 (.tmp 40) (.const (.int .i64 0)) 3, 4, _, _, _⟩ hH ?_
  refine tk 4 ⟨some 42, .move (.tmp 41), 4, _, _, _⟩ hH ?_
  refine ts 5 ⟨some 43, .fieldAddr 26 (.tmp 1) 1, 0, _, _, _⟩ hH ?_
  refine ts 6 ⟨some 44, .load 3 (.tmp 43), 3, _, _, _⟩ hH ?_
  refine ts 7 ⟨some 45, .binOp .lss 3 (.tmp 44) (.const (.int .i64 0)) 3, 4, _, _, _⟩ hH ?_
  refine tk 8 ⟨some 46, .pick (.tmp 42) (.const (.bool true)) (.tmp 45), 4, _, _, _⟩ hH ?_
  refine tk 9 ⟨some 47, .move (.tmp 46), 4, _, _, _⟩ hH ?_
  refine ts 10 ⟨some 48, .fieldAddr 26 (.tmp 1) 1, 0, _, _, _⟩ hH ?_
  refine ts 11 ⟨some 49, .load 3 (.tmp 48), 3, _, _, _⟩ hH ?_
  refine ts 12 ⟨some 50, .fieldAddr 26 (.tmp 1) 0, 0, _, _, _⟩ hH ?_
  refine ts 13 ⟨some 51, .load 3 (.tmp 50), 3, _, _, _⟩ hH ?_
  refine ts 14 ⟨some 52, .call { callee := .value (.func 71), args := #[.tmp 51], argTypes := #[3] }, 3, _, _, _⟩ hH ?_
  refine ts 15 ⟨some 53, .binOp .gtr 3 (.tmp 49) (.tmp 52) 3, 4, _, _, _⟩ hH ?_
  refine tk 16 ⟨some 54, .pick (.tmp 47) (.const (.bool true)) (.tmp 53), 4, _, _, _⟩ hH ?_
  refine tk 17 ⟨some 55, .move (.tmp 54), 4, _, _, _⟩ hH ?_
  refine ts 18 ⟨some 56, .fieldAddr 26 (.tmp 1) 4, 0, _, _, _⟩ hH ?_
  refine ts 19 ⟨some 57, .load 9 (.tmp 56), 9, _, _, _⟩ hH ?_
  refine ts 20 ⟨some 58, .binOp .neq 9 (.tmp 57) (.const (.string { data := #[] })) 9, 4, _, _, _⟩ hH ?_
  refine tk 21 ⟨some 59, .pick (.tmp 55) (.const (.bool true)) (.tmp 58), 4, _, _, _⟩ hH ?_
  refine wpAnyH_done (by kernel_rfl) ?_ _
  clear c0 c1 c2 c3 c4 hb0
  obtain ⟨c0, c1, c2, c3, c4, hb0⟩ := hH
  replace HB := Lib.hid (HB.out _ hb0)
  go_wp2
  exact HB.out
 have t0' : (wd == 0) = false := by simpa using t0
 by_cases t1 : len < 0
 ·clear hp hb
  go_enter Tryz.func81, Tryz.ntmps81
  go_wp2_with fail
  refine wp_region_held_drew (S := (fun w' => w'.cell? ⟨w.heap.size, 0, none⟩ = some (.int .i64 kd) ∧ w'.cell? ⟨w.heap.size, 1, none⟩ = some (.int .i64 len) ∧ w'.cell? ⟨w.heap.size, 2, none⟩ = some (.int .u64 h) ∧ w'.cell? ⟨w.heap.size, 3, none⟩ = some (.int .u64 l) ∧ w'.cell? ⟨w.heap.size, 4, none⟩ = some (.string ⟨p.toArray⟩) ∧ Below w.heap.size w w')) (by kernel_rfl) ?hSr2_ (fun hH => ?_)
  case hSr2_ => (first | exact ⟨c0, c1, c2, c3, c4, hb0.drew⟩ | exact ⟨c0, c1, c2, c3, c4, hb0⟩ | (obtain ⟨c0, c1, c2, c3, c4, hb0⟩ := hH; exact ⟨cl hb c0, cl hb c1, cl hb c2, cl hb c3, cl hb c4, below_step hb0 hb⟩))
  refine tk 0 ⟨some 38, .fieldAddr 26 (.tmp 1) 0, 0, _, _, _⟩ hH ?_
  refine tk 1 ⟨some 39, .load 3 (.tmp 38), 3, _, _, _⟩ hH ?_
  refine wpAnyH_ready (rs := [2]) (by kernel_rfl) (by simp) ?_
  refine AllReadyH.cons (o := ⟨some 40, .call { callee := .value (.func 71), args := #[.tmp 39], argTypes := #[3] }, 3, _, _, _⟩) rfl (fun K hK => ?_) AllReadyH.nil
  (go_simp; (refine (HW _).mono ?_); (rintro e wn ⟨rfl, hb⟩); go_wp2_with fail)
  refine hK.out _ _ ?hSr2_3_2 fun _ => ?_
  case hSr2_3_2 => (first | exact ⟨c0, c1, c2, c3, c4, hb0.drew⟩ | exact ⟨c0, c1, c2, c3, c4, hb0⟩ | (obtain ⟨c0, c1, c2, c3, c4, hb0⟩ := hH; exact ⟨cl hb c0, cl hb c1, cl hb c2, cl hb c3, cl hb c4, below_step hb0 hb⟩))
  clear hK K hH; rename_i hH
  (try simp only [Act.put, nz1, nz2, nz3])
  refine tk 3 ⟨some 41, .binOp .eql 3 (.tmp 40) (.const (.int .i64 0)) 3, 4, _, _, _⟩ hH ?_
  refine tk 4 ⟨some 42, .move (.tmp 41), 4, _, _, _⟩ hH ?_
  refine tk 5 ⟨some 43, .fieldAddr 26 (.tmp 1) 1, 0, _, _, _⟩ hH ?_
  refine tk 6 ⟨some 44, .load 3 (.tmp 43), 3, _, _, _⟩ hH ?_
  refine tk 7 ⟨some 45, .binOp .lss 3 (.tmp 44) (.const (.int .i64 0)) 3, 4, _, _, _⟩ hH ?_
  refine tk 8 ⟨some 46, .pick (.tmp 42) (.const (.bool true)) (.tmp 45), 4, _, _, _⟩ hH ?_
  refine tk 9 ⟨some 47, .move (.tmp 46), 4, _, _, _⟩ hH ?_
  refine ts 10 ⟨some 48, .fieldAddr 26 (.tmp 1) 1, 0, _, _, _⟩ hH ?_
  refine ts 11 ⟨some 49, .load 3 (.tmp 48), 3, _, _, _⟩ hH ?_
  refine ts 12 ⟨some 50, .fieldAddr 26 (.tmp 1) 0, 0, _, _, _⟩ hH ?_
  refine ts 13 ⟨some 51, .load 3 (.tmp 50), 3, _, _, _⟩ hH ?_
  refine ts 14 ⟨some 52, .call { callee := .value (.func 71), args := #[.tmp 51], argTypes := #[3] }, 3, _, _, _⟩ hH ?_
  refine ts 15 ⟨some 53, .binOp .gtr 3 (.tmp 49) (.tmp 52) 3, 4, _, _, _⟩ hH ?_
  refine tk 16 ⟨some 54, .pick (.tmp 47) (.const (.bool true)) (.tmp 53), 4, _, _, _⟩ hH ?_
  refine tk 17 ⟨some 55, .move (.tmp 54), 4, _, _, _⟩ hH ?_
  refine ts 18 ⟨some 56, .fieldAddr 26 (.tmp 1) 4, 0, _, _, _⟩ hH ?_
  refine ts 19 ⟨some 57, .load 9 (.tmp 56), 9, _, _, _⟩ hH ?_
  refine ts 20 ⟨some 58, .binOp .neq 9 (.tmp 57) (.const (.string { data := #[] })) 9, 4, _, _, _⟩ hH ?_
  refine tk 21 ⟨some 59, .pick (.tmp 55) (.const (.bool true)) (.tmp 58), 4, _, _, _⟩ hH ?_
  refine wpAnyH_done (by kernel_rfl) ?_ _
  clear c0 c1 c2 c3 c4 hb0
  obtain ⟨c0, c1, c2, c3, c4, hb0⟩ := hH
  replace HB := Lib.hid (HB.out _ hb0)
  go_wp2
  exact HB.out
 have t1' : decide (len < 0) = false := by simpa using t1
 by_cases t2 : wd < len
 ·clear hp hb
  go_enter Tryz.func81, Tryz.ntmps81
  go_wp2_with fail
  refine wp_region_held_drew (S := (fun w' => w'.cell? ⟨w.heap.size, 0, none⟩ = some (.int .i64 kd) ∧ w'.cell? ⟨w.heap.size, 1, none⟩ = some (.int .i64 len) ∧ w'.cell? ⟨w.heap.size, 2, none⟩ = some (.int .u64 h) ∧ w'.cell? ⟨w.heap.size, 3, none⟩ = some (.int .u64 l) ∧ w'.cell? ⟨w.heap.size, 4, none⟩ = some (.string ⟨p.toArray⟩) ∧ Below w.heap.size w w')) (by kernel_rfl) ?hSr3_ (fun hH => ?_)
  case hSr3_ => (first | exact ⟨c0, c1, c2, c3, c4, hb0.drew⟩ | exact ⟨c0, c1, c2, c3, c4, hb0⟩ | (obtain ⟨c0, c1, c2, c3, c4, hb0⟩ := hH; exact ⟨cl hb c0, cl hb c1, cl hb c2, cl hb c3, cl hb c4, below_step hb0 hb⟩))
  refine tk 0 ⟨some 38, .fieldAddr 26 (.tmp 1) 0, 0, _, _, _⟩ hH ?_
  refine tk 1 ⟨some 39, .load 3 (.tmp 38), 3, _, _, _⟩ hH ?_
  refine wpAnyH_ready (rs := [2]) (by kernel_rfl) (by simp) ?_
  refine AllReadyH.cons (o := ⟨some 40, .call { callee := .value (.func 71), args := #[.tmp 39], argTypes := #[3] }, 3, _, _, _⟩) rfl (fun K hK => ?_) AllReadyH.nil
  (go_simp; (refine (HW _).mono ?_); (rintro e wn ⟨rfl, hb⟩); go_wp2_with fail)
  refine hK.out _ _ ?hSr3_3_2 fun _ => ?_
  case hSr3_3_2 => (first | exact ⟨c0, c1, c2, c3, c4, hb0.drew⟩ | exact ⟨c0, c1, c2, c3, c4, hb0⟩ | (obtain ⟨c0, c1, c2, c3, c4, hb0⟩ := hH; exact ⟨cl hb c0, cl hb c1, cl hb c2, cl hb c3, cl hb c4, below_step hb0 hb⟩))
  clear hK K hH; rename_i hH
  (try simp only [Act.put, nz1, nz2, nz3])
  refine tk 3 ⟨some 41, .binOp .eql 3 (.tmp 40) (.const (.int .i64 0)) 3, 4, _, _, _⟩ hH ?_
  refine tk 4 ⟨some 42, .move (.tmp 41), 4, _, _, _⟩ hH ?_
  refine tk 5 ⟨some 43, .fieldAddr 26 (.tmp 1) 1, 0, _, _, _⟩ hH ?_
  refine tk 6 ⟨some 44, .load 3 (.tmp 43), 3, _, _, _⟩ hH ?_
  refine tk 7 ⟨some 45, .binOp .lss 3 (.tmp 44) (.const (.int .i64 0)) 3, 4, _, _, _⟩ hH ?_
  refine tk 8 ⟨some 46, .pick (.tmp 42) (.const (.bool true)) (.tmp 45), 4, _, _, _⟩ hH ?_
  refine tk 9 ⟨some 47, .move (.tmp 46), 4, _, _, _⟩ hH ?_
  refine tk 10 ⟨some 48, .fieldAddr 26 (.tmp 1) 1, 0, _, _, _⟩ hH ?_
  refine tk 11 ⟨some 49, .load 3 (.tmp 48), 3, _, _, _⟩ hH ?_
  refine tk 12 ⟨some 50, .fieldAddr 26 (.tmp 1) 0, 0, _, _, _⟩ hH ?_
  refine tk 13 ⟨some 51, .load 3 (.tmp 50), 3, _, _, _⟩ hH ?_
  refine wpAnyH_ready (rs := [14]) (by kernel_rfl) (by simp) ?_
  refine AllReadyH.cons (o := ⟨some 52, .call { callee := .value (.func 71), args := #[.tmp 51], argTypes := #[3] }, 3, _, _, _⟩) rfl (fun K hK => ?_) AllReadyH.nil
  (go_simp; (refine (HW _).mono ?_); (rintro e wn ⟨rfl, hb⟩); go_wp2_with fail)
  refine hK.out _ _ ?hSr3_15_14 fun _ => ?_
  case hSr3_15_14 => (first | exact ⟨c0, c1, c2, c3, c4, hb0.drew⟩ | exact ⟨c0, c1, c2, c3, c4, hb0⟩ | (obtain ⟨c0, c1, c2, c3, c4, hb0⟩ := hH; exact ⟨cl hb c0, cl hb c1, cl hb c2, cl hb c3, cl hb c4, below_step hb0 hb⟩))
  clear hK K hH; rename_i hH
  (try simp only [Act.put, nz1, nz2, nz3])
  refine tk 15 ⟨some 53, .binOp .gtr 3 (.tmp 49) (.tmp 52) 3, 4, _, _, _⟩ hH ?_
  refine tk 16 ⟨some 54, .pick (.tmp 47) (.const (.bool true)) (.tmp 53), 4, _, _, _⟩ hH ?_
  refine tk 17 ⟨some 55, .move (.tmp 54), 4, _, _, _⟩ hH ?_
  refine ts 18 ⟨some 56, .fieldAddr 26 (.tmp 1) 4, 0, _, _, _⟩ hH ?_
  refine ts 19 ⟨some 57, .load 9 (.tmp 56), 9, _, _, _⟩ hH ?_
  refine ts 20 ⟨some 58, .binOp .neq 9 (.tmp 57) (.const (.string { data := #[] })) 9, 4, _, _, _⟩ hH ?_
  refine tk 21 ⟨some 59, .pick (.tmp 55) (.const (.bool true)) (.tmp 58), 4, _, _, _⟩ hH ?_
  refine wpAnyH_done (by kernel_rfl) ?_ _
  clear c0 c1 c2 c3 c4 hb0
  obtain ⟨c0, c1, c2, c3, c4, hb0⟩ := hH
  replace HB := Lib.hid (HB.out _ hb0)
  go_wp2
  exact HB.out
 have t2' : decide (wd < len) = false := by simpa using t2
 obtain ⟨p1, p2, p3⟩ := hp (by rcases hb with x | x | x | x <;> first | exact x | omega)
 clear hp hb
 go_enter Tryz.func81, Tryz.ntmps81
 go_wp2_with fail
 refine wp_region_held_drew (S := (fun w' => w'.cell? ⟨w.heap.size, 0, none⟩ = some (.int .i64 kd) ∧ w'.cell? ⟨w.heap.size, 1, none⟩ = some (.int .i64 len) ∧ w'.cell? ⟨w.heap.size, 2, none⟩ = some (.int .u64 h) ∧ w'.cell? ⟨w.heap.size, 3, none⟩ = some (.int .u64 l) ∧ w'.cell? ⟨w.heap.size, 4, none⟩ = some (.string ⟨p.toArray⟩) ∧ Below w.heap.size w w')) (by kernel_rfl) ?hSr4_ (fun hH => ?_)
 case hSr4_ => (first | exact ⟨c0, c1, c2, c3, c4, hb0.drew⟩ | exact ⟨c0, c1, c2, c3, c4, hb0⟩ | (obtain ⟨c0, c1, c2, c3, c4, hb0⟩ := hH; exact ⟨cl hb c0, cl hb c1, cl hb c2, cl hb c3, cl hb c4, below_step hb0 hb⟩))
 refine tk 0 ⟨some 38, .fieldAddr 26 (.tmp 1) 0, 0, _, _, _⟩ hH ?_
 refine tk 1 ⟨some 39, .load 3 (.tmp 38), 3, _, _, _⟩ hH ?_
 refine wpAnyH_ready (rs := [2]) (by kernel_rfl) (by simp) ?_
 refine AllReadyH.cons (o := ⟨some 40, .call { callee := .value (.func 71), args := #[.tmp 39], argTypes := #[3] }, 3, _, _, _⟩) rfl (fun K hK => ?_) AllReadyH.nil
 (go_simp; (refine (HW _).mono ?_); (rintro e wn ⟨rfl, hb⟩); go_wp2_with fail)
 refine hK.out _ _ ?hSr4_3_2 fun _ => ?_
 case hSr4_3_2 => (first | exact ⟨c0, c1, c2, c3, c4, hb0.drew⟩ | exact ⟨c0, c1, c2, c3, c4, hb0⟩ | (obtain ⟨c0, c1, c2, c3, c4, hb0⟩ := hH; exact ⟨cl hb c0, cl hb c1, cl hb c2, cl hb c3, cl hb c4, below_step hb0 hb⟩))
 clear hK K hH; rename_i hH
 (try simp only [Act.put, nz1, nz2, nz3])
 refine tk 3 ⟨some 41, .binOp .eql 3 (.tmp 40) (.const (.int .i64 0)) 3, 4, _, _, _⟩ hH ?_
 refine tk 4 ⟨some 42, .move (.tmp 41), 4, _, _, _⟩ hH ?_
 refine tk 5 ⟨some 43, .fieldAddr 26 (.tmp 1) 1, 0, _, _, _⟩ hH ?_
 refine tk 6 ⟨some 44, .load 3 (.tmp 43), 3, _, _, _⟩ hH ?_
 refine tk 7 ⟨some 45, .binOp .lss 3 (.tmp 44) (.const (.int .i64 0)) 3, 4, _, _, _⟩ hH ?_
 refine tk 8 ⟨some 46, .pick (.tmp 42) (.const (.bool true)) (.tmp 45), 4, _, _, _⟩ hH ?_
 refine tk 9 ⟨some 47, .move (.tmp 46), 4, _, _, _⟩ hH ?_
 refine tk 10 ⟨some 48, .fieldAddr 26 (.tmp 1) 1, 0, _, _, _⟩ hH ?_
 refine tk 11 ⟨some 49, .load 3 (.tmp 48), 3, _, _, _⟩ hH ?_
 refine tk 12 ⟨some 50, .fieldAddr 26 (.tmp 1) 0, 0, _, _, _⟩ hH ?_
 refine tk 13 ⟨some 51, .load 3 (.tmp 50), 3, _, _, _⟩ hH ?_
 refine wpAnyH_ready (rs := [14]) (by kernel_rfl) (by simp) ?_
 refine AllReadyH.cons (o := ⟨some 52, .call { callee := .value (.func 71), args := #[.tmp 51], argTypes := #[3] }, 3, _, _, _⟩) rfl (fun K hK => ?_) AllReadyH.nil
 (go_simp; (refine (HW _).mono ?_); (rintro e wn ⟨rfl, hb⟩); go_wp2_with fail)
 refine hK.out _ _ ?hSr4_15_14 fun _ => ?_
 case hSr4_15_14 => (first | exact ⟨c0, c1, c2, c3, c4, hb0.drew⟩ | exact ⟨c0, c1, c2, c3, c4, hb0⟩ | (obtain ⟨c0, c1, c2, c3, c4, hb0⟩ := hH; exact ⟨cl hb c0, cl hb c1, cl hb c2, cl hb c3, cl hb c4, below_step hb0 hb⟩))
 clear hK K hH; rename_i hH
 (try simp only [Act.put, nz1, nz2, nz3])
 refine tk 15 ⟨some 53, .binOp .gtr 3 (.tmp 49) (.tmp 52) 3, 4, _, _, _⟩ hH ?_
 refine tk 16 ⟨some 54, .pick (.tmp 47) (.const (.bool true)) (.tmp 53), 4, _, _, _⟩ hH ?_
 refine tk 17 ⟨some 55, .move (.tmp 54), 4, _, _, _⟩ hH ?_
 refine tk 18 ⟨some 56, .fieldAddr 26 (.tmp 1) 4, 0, _, _, _⟩ hH ?_
 refine tk 19 ⟨some 57, .load 9 (.tmp 56), 9, _, _, _⟩ hH ?_
 refine tk 20 ⟨some 58, .binOp .neq 9 (.tmp 57) (.const (.string { data := #[] })) 9, 4, _, _, _⟩ hH ?_
 refine tk 21 ⟨some 59, .pick (.tmp 55) (.const (.bool true)) (.tmp 58), 4, _, _, _⟩ hH ?_
 refine wpAnyH_done (by kernel_rfl) ?_ _
 clear c0 c1 c2 c3 c4 hb0
 obtain ⟨c0, c1, c2, c3, c4, hb0⟩ := hH
 replace HB := Lib.hid (HB.out _ hb0)
 go_wp2
 exact HB.out
theorem lets_zero (A : Int) (n : Nat) : lets A n 0 = [] := by unfold lets; rw [show min 0 n = 0 by omega]; rfl
theorem letters_adr_go (kd : Int) (n : Nat) (h l : Int) (hk : kd = 1 ∨ kd = 2) (hn : (n : Int) ≤ wid kd) (hh : Word h) (hl : Word l) (w : World) : Calls Tryz.prog 81 #[kv ⟨kd, n, h, l, []⟩] w (LetPost ⟨kd, n, h, l, []⟩ w) := by
 have HB := Lib.hid (fun (t : Nat) (ht : n ≤ t) (ht2 : t < 128) (hbit : bitI (wv h l) t = true) (w' : World) (hb : Below w.heap.size w w') => letPost_bad (adr_bit_bad (k := ⟨kd, n, h, l, []⟩) (n := n) (by dsimp only; omega) rfl ht ht2 hbit) hb)
 have HG := Lib.hid (fun (v : Value) (w' : World) (hz : ∀ t : Nat, n ≤ t → t < 128 → bitI (wv h l) t = false) (hs : SS w' v (lets (wv h l) n 128)) (hb : Below w.heap.size w w') => by
  obtain ⟨r1, r2⟩ := adr_bits (k := ⟨kd, n, h, l, []⟩) (n := n) hk rfl hn rfl hh hl hz
  exact letPost_ok r1 (by rw [r2]; exact hs) hb)
 have HW := fun w1 => rwidth_t kd w1
 have HT := fun (j : Nat) (hj : j < 128) (w1 : World) => rbit_t h l hh hl j hj w1
 have n8 : n ≤ 128 := by have := (wid_range kd).2; omega
 generalize LetPost ⟨kd, n, h, l, []⟩ w = PP at *
 generalize hA : wv h l = A at *
 clear hA
 have hk3 : (kd == 3) = false := by simp; omega
 have hk3' : ¬ kd = 3 := by omega
 have t0 : (wid kd == 0) = false := by rcases hk with e | e <;> subst e <;> rfl
 generalize wid kd = wd at *
 have t1 : decide ((n : Int) < 0) = false := decide_eq_false (by omega)
 have t2 : decide (wd < (n : Int)) = false := decide_eq_false (by omega)
 clear hh hl hk
 unfold kv
 dsimp only
 obtain ⟨RR0, hb0⟩ := one_row w #[.int .i64 kd, .int .i64 n, .int .u64 h, .int .u64 l, .string ⟨#[]⟩] 26
 have c0 := (RR0.cell 0).trans (show _ = some (Value.int .i64 kd) from rfl)
 have c1 := (RR0.cell 1).trans (show _ = some (Value.int .i64 n) from rfl)
 have c2 := (RR0.cell 2).trans (show _ = some (Value.int .u64 h) from rfl)
 have c3 := (RR0.cell 3).trans (show _ = some (Value.int .u64 l) from rfl)
 have c4 := (RR0.cell 4).trans (show _ = some (Value.string ⟨#[]⟩) from rfl)
 clear RR0
 go_enter Tryz.func81, Tryz.ntmps81
 go_wp2_with fail
 refine wp_region_held_drew (S := (fun w' => w'.cell? ⟨w.heap.size, 0, none⟩ = some (.int .i64 kd) ∧ w'.cell? ⟨w.heap.size, 1, none⟩ = some (.int .i64 n) ∧ w'.cell? ⟨w.heap.size, 2, none⟩ = some (.int .u64 h) ∧ w'.cell? ⟨w.heap.size, 3, none⟩ = some (.int .u64 l) ∧ w'.cell? ⟨w.heap.size, 4, none⟩ = some (.string ⟨#[]⟩) ∧ Below w.heap.size w w')) (by kernel_rfl) ?hSr1_ (fun hH => ?_)
 case hSr1_ => (first | exact ⟨c0, c1, c2, c3, c4, hb0.drew⟩ | exact ⟨c0, c1, c2, c3, c4, hb0⟩ | (obtain ⟨c0, c1, c2, c3, c4, hb0⟩ := hH; exact ⟨cl hb c0, cl hb c1, cl hb c2, cl hb c3, cl hb c4, below_step hb0 hb⟩))
 refine tk 0 ⟨some 38, .fieldAddr 26 (.tmp 1) 0, 0, _, _, _⟩ hH ?_
 refine tk 1 ⟨some 39, .load 3 (.tmp 38), 3, _, _, _⟩ hH ?_
 refine wpAnyH_ready (rs := [2]) (by kernel_rfl) (by simp) ?_
 refine AllReadyH.cons (o := ⟨some 40, .call { callee := .value (.func 71), args := #[.tmp 39], argTypes := #[3] }, 3, _, _, _⟩) rfl (fun K hK => ?_) AllReadyH.nil
 (go_simp; (refine (HW _).mono ?_); (rintro e wn ⟨rfl, hb⟩); go_wp2_with fail)
 refine hK.out _ _ ?hSr1_3_2 fun _ => ?_
 case hSr1_3_2 => (first | exact ⟨c0, c1, c2, c3, c4, hb0.drew⟩ | exact ⟨c0, c1, c2, c3, c4, hb0⟩ | (obtain ⟨c0, c1, c2, c3, c4, hb0⟩ := hH; exact ⟨cl hb c0, cl hb c1, cl hb c2, cl hb c3, cl hb c4, below_step hb0 hb⟩))
 clear hK K hH; rename_i hH
 (try simp only [Act.put, nz1, nz2, nz3])
 refine tk 3 ⟨some 41, .binOp .eql 3 (.tmp 40) (.const (.int .i64 0)) 3, 4, _, _, _⟩ hH ?_
 refine tk 4 ⟨some 42, .move (.tmp 41), 4, _, _, _⟩ hH ?_
 refine tk 5 ⟨some 43, .fieldAddr 26 (.tmp 1) 1, 0, _, _, _⟩ hH ?_
 refine tk 6 ⟨some 44, .load 3 (.tmp 43), 3, _, _, _⟩ hH ?_
 refine tk 7 ⟨some 45, .binOp .lss 3 (.tmp 44) (.const (.int .i64 0)) 3, 4, _, _, _⟩ hH ?_
 refine tk 8 ⟨some 46, .pick (.tmp 42) (.const (.bool true)) (.tmp 45), 4, _, _, _⟩ hH ?_
 refine tk 9 ⟨some 47, .move (.tmp 46), 4, _, _, _⟩ hH ?_
 refine tk 10 ⟨some 48, .fieldAddr 26 (.tmp 1) 1, 0, _, _, _⟩ hH ?_
 refine tk 11 ⟨some 49, .load 3 (.tmp 48), 3, _, _, _⟩ hH ?_
 refine tk 12 ⟨some 50, .fieldAddr 26 (.tmp 1) 0, 0, _, _, _⟩ hH ?_
 refine tk 13 ⟨some 51, .load 3 (.tmp 50), 3, _, _, _⟩ hH ?_
 refine wpAnyH_ready (rs := [14]) (by kernel_rfl) (by simp) ?_
 refine AllReadyH.cons (o := ⟨some 52, .call { callee := .value (.func 71), args := #[.tmp 51], argTypes := #[3] }, 3, _, _, _⟩) rfl (fun K hK => ?_) AllReadyH.nil
 (go_simp; (refine (HW _).mono ?_); (rintro e wn ⟨rfl, hb⟩); go_wp2_with fail)
 refine hK.out _ _ ?hSr1_15_14 fun _ => ?_
 case hSr1_15_14 => (first | exact ⟨c0, c1, c2, c3, c4, hb0.drew⟩ | exact ⟨c0, c1, c2, c3, c4, hb0⟩ | (obtain ⟨c0, c1, c2, c3, c4, hb0⟩ := hH; exact ⟨cl hb c0, cl hb c1, cl hb c2, cl hb c3, cl hb c4, below_step hb0 hb⟩))
 clear hK K hH; rename_i hH
 (try simp only [Act.put, nz1, nz2, nz3])
 refine tk 15 ⟨some 53, .binOp .gtr 3 (.tmp 49) (.tmp 52) 3, 4, _, _, _⟩ hH ?_
 refine tk 16 ⟨some 54, .pick (.tmp 47) (.const (.bool true)) (.tmp 53), 4, _, _, _⟩ hH ?_
 refine tk 17 ⟨some 55, .move (.tmp 54), 4, _, _, _⟩ hH ?_
 refine tk 18 ⟨some 56, .fieldAddr 26 (.tmp 1) 4, 0, _, _, _⟩ hH ?_
 refine tk 19 ⟨some 57, .load 9 (.tmp 56), 9, _, _, _⟩ hH ?_
 refine tk 20 ⟨some 58, .binOp .neq 9 (.tmp 57) (.const (.string { data := #[] })) 9, 4, _, _, _⟩ hH ?_
 refine tk 21 ⟨some 59, .pick (.tmp 55) (.const (.bool true)) (.tmp 58), 4, _, _, _⟩ hH ?_
 refine wpAnyH_done (by kernel_rfl) ?_ _
 clear c0 c1 c2 c3 c4 hb0
 obtain ⟨c0, c1, c2, c3, c4, hb0⟩ := hH
 clear HW t0 t1 t2 hn hk3 hk3'
 have lc := World.block_lt_of_cell? _ _ c0
 dsimp only at lc
 have hb0s := hb0.size
 go_wp2_with fail
 have HB0 := Lib.hid hb0
 clear hb0 c0 c4
 go_loopw [6, 7] (fun o i wr => ∃ (j m : Nat) (po : Option Addr) (co : Nat), o = .slice po m co ∧ i = .int .i64 (j : Nat) ∧ j ≤ 128 ∧ Hid (m = (lets A n j).length) ∧ Hid (∀ t : Nat, n ≤ t → t < j → bitI A t = false) ∧ Hid (OwnS wn.heap.size wr (.slice po m co) (lets A n j)) ∧ Hid (Below wn.heap.size wn wr)) (fun _ i _ => 128 - (intOf i).toNat)
 case atStart => exact ⟨0, 0, none, 0, rfl, rfl, by omega, Lib.hid (by rw [lets_zero]; rfl), Lib.hid (fun t _ h => by omega), Lib.hid (by rw [lets_zero]; exact OwnS.nil _ _), Lib.hid (Below.refl _ _)⟩
 case round =>
  obtain ⟨j, m, po, co, rfl, rfl, hj, hm, hz, hO, hB⟩ := hrel
  by_cases hlt : j < 128
  ·have HTj := HT j hlt wr
   have d1 := cl hB.out c1
   have d2 := cl hB.out c2
   have d3 := cl hB.out c3
   have hsz := hB.out.size
   have HBj := Lib.hid (HB.out j)
   have HM := Lib.hid (@lets_more A n j)
   have HS := Lib.hid (@lets_stay A n j)
   have HZ := Lib.hid (show bitI A j = false ∨ j < n → ∀ t : Nat, n ≤ t → t < j + 1 → bitI A t = false from fun h t h1 h2 => by
    by_cases e : t = j
    ·subst e
     rcases h with h | h
     ·exact h
     ·omega
    ·exact hz.out t h1 (by omega))
   clear HB HG hz HT
   have hll8 : (lets A n j).length ≤ 128 := by rw [lets_len]; omega
   generalize bitI A j = b at *
   generalize lets A n j = ll at *
   go_wp2_with fail
   refine HTj.mono ?_
   rintro e w2 ⟨rfl, hb⟩
   replace d1 := cl hb d1
   replace hO := Lib.hid (hO.out.later hb)
   replace hB := Lib.hid (hB.out.trans (hb.mono hsz))
   replace hsz : wn.heap.size ≤ w2.heap.size := hB.out.size
   clear hb HTj d2 d3
   cases b with
   | true =>
    have e1 : bit01 true = 1 := rfl
    rw [e1]
    by_cases hjn : j < n
    ·have hll := HM.out hjn
     obtain ⟨v', w3, hrun, hown, hb3⟩ := appS_one [49] hO.out hB.out (by omega) hsz
     rw [show bitS true = [49] from rfl] at hll
     rw [← hll] at hown
     obtain ⟨pv, cv, rfl, _, _⟩ := hown.read
     have d1n := cl hb3 c1
     have HOW := Lib.hid hown
     have HB3 := Lib.hid hb3
     have HRUN := Lib.hid hrun
     have HZ' := Lib.hid (HZ.out (.inr hjn))
     clear hrun hown hb3 HZ HM HS HBj hO hB hm
     generalize hm' : (lets A n (j + 1)).length = m' at *
     have HM' := Lib.hid hm'.symm
     clear hm' hll
     have tok : True := trivial
     go_wp2_with (have _t := tok; at_builtin; refine wpList_appS rfl (.tmp 85) (.tmp 86) 77 rfl rfl rfl HRUN.out ?_; clear tok HRUN)
     exact ⟨⟨j + 1, m', pv, cv, rfl, by go_num, by omega, HM', HZ', HOW, HB3⟩, by simp [intOf]; omega⟩
    ·have hjn' : n ≤ j := by omega
     have HX := Lib.hid (HBj.out hjn' hlt rfl _ (below_step HB0.out hB.out))
     clear HZ HM HS HBj hO hB hm
     go_wp2
     exact HX.out
   | false =>
    have e1 : bit01 false = 0 := rfl
    rw [e1]
    have HZ' := Lib.hid (HZ.out (.inl rfl))
    by_cases hjn : j < n
    ·have hll := HM.out hjn
     obtain ⟨v', w3, hrun, hown, hb3⟩ := appS_one [48] hO.out hB.out (by omega) hsz
     rw [show bitS false = [48] from rfl] at hll
     rw [← hll] at hown
     obtain ⟨pv, cv, rfl, _, _⟩ := hown.read
     have HOW := Lib.hid hown
     have HB3 := Lib.hid hb3
     have HRUN := Lib.hid hrun
     clear hrun hown hb3 HZ HM HS HBj hO hB hm
     generalize hm' : (lets A n (j + 1)).length = m' at *
     have HM' := Lib.hid hm'.symm
     clear hm' hll
     have tok : True := trivial
     go_wp2_with (have _t := tok; at_builtin; refine wpList_appS rfl (.tmp 96) (.tmp 97) 77 rfl rfl rfl HRUN.out ?_; clear tok HRUN)
     exact ⟨⟨j + 1, m', pv, cv, rfl, by go_num, by omega, HM', HZ', HOW, HB3⟩, by simp [intOf]; omega⟩
    ·have hjn' : n ≤ j := by omega
     have hst := HS.out hjn'
     rw [← hst] at hO hm
     clear HZ HM HS HBj hst
     go_wp2
     exact ⟨⟨j + 1, m, po, co, rfl, by go_num, by omega, hm, HZ', hO, hB⟩, by simp [intOf]; omega⟩
  ·have hj8 : j = 128 := by omega
   subst hj8
   have HX := Lib.hid (HG.out _ _ (fun t h1 h2 => hz.out t h1 h2) hO.out.read (below_step HB0.out hB.out))
   clear HB HG hz HT hO hB hm
   go_wp2
   exact HX.out
theorem letters_t (k : Ke) (ok : k.ok) (w : World) : Calls Tryz.prog 81 #[kv k] w (LetPost k w) := by
 by_cases h3 : k.kind = 3
 ·exact letters_path k h3 ok.path w
 ·by_cases hb : wid k.kind = 0 ∨ k.len < 0 ∨ wid k.kind < k.len ∨ k.path ≠ []
  ·exact letters_adr_bad k h3 hb w
  ·obtain ⟨kd, len, h, l, p⟩ := k
   have o1 := ok.h
   have o2 := ok.l
   clear ok
   dsimp only at *
   have hp : p = [] := Classical.byContradiction fun e => hb (.inr (.inr (.inr e)))
   subst hp
   have hl0 : 0 ≤ len := by omega
   obtain ⟨n, rfl⟩ := Int.eq_ofNat_of_zero_le hl0
   refine letters_adr_go kd n h l ?_ (by omega) o1 o2 w
   by_cases h1 : kd = 1
   ·exact .inl h1
   ·by_cases h2 : kd = 2
    ·exact .inr h2
    ·exfalso
     apply hb
     left
     unfold wid; rw [if_neg h1, if_neg h2, if_neg h3]
theorem rright_t (k : Ke) (ok : k.ok) (w : World) : Calls Tryz.prog 38 #[kv k] w fun e w' => e = .returned (.bool (rightK k)) ∧ Below w.heap.size w w' := by
 have HL : ∀ w1, Calls Tryz.prog 81 #[kv k] w1 fun e w' => ∃ v, e = .returned (.tuple #[v, .bool (rightK k)]) ∧ SS w' v (letR k) ∧ Below w1.heap.size w1 w' := fun w1 => letters_t k ok w1
 generalize rightK k = r at *
 generalize letR k = ls at *
 clear ok
 unfold kv at *
 have hb0 : Below w.heap.size w (w.alloc (.cells #[.int .i64 k.kind, .int .i64 k.len, .int .u64 k.h, .int .u64 k.l, .string ⟨k.path.toArray⟩] 26)) := (by repeat (first | exact Below.refl _ _ | assumption | (with_reducible refine Below.drew ?_) | ((with_reducible first | refine Below.setCell ?_ ?h _ | refine Below.alloc ?_ ?h _ | refine Below.trans ?_ (hb.mono ?h) | refine Below.trans ?_ (hb0.mono ?h)); case h => first | omega | (simp; done) | (simp; omega))))
 go_enter Tryz.func38, Tryz.ntmps38
 go_wp2_with fail
 refine (HL _).mono ?_
 rintro e w1 ⟨v, rfl, _, hb⟩
 replace hb0 := below_step hb0 hb
 clear hb HL
 go_wp2
 go_ret
 exact ⟨rfl, hb0⟩
structure Sp where
 n : Int
 d0 : Dm
 d1 : Dm
 deriving DecidableEq
structure Px where
 a0 : Int
 a1 : Int
 k0 : Ke
 k1 : Ke
 deriving DecidableEq
def sv (s : Sp) : Value := .agg #[.int .i64 s.n, .int .i64 s.d0.kind, .int .i64 s.d0.side, .int .i64 s.d0.step, .int .i64 s.d1.kind, .int .i64 s.d1.side, .int .i64 s.d1.step]
def pv (p : Px) : Value := .agg #[.int .i64 p.a0, .int .i64 p.a1, .int .i64 p.k0.kind, .int .i64 p.k0.len, .int .u64 p.k0.h, .int .u64 p.k0.l, .string ⟨p.k0.path.toArray⟩, .int .i64 p.k1.kind, .int .i64 p.k1.len, .int .u64 p.k1.h, .int .u64 p.k1.l, .string ⟨p.k1.path.toArray⟩]
theorem eqIn_int (d : Nat) (a b : Int) (w : World) : (Op.equalIn (d + 1) 3 (.int .i64 a) (.int .i64 b)).run Tryz.prog w = .ok (decide (a = b)) w := by
 simp only [Op.equalIn, Sem.run_bind, run_underlying Tryz.underlying3, Result.andThen_ok]
 simp [go_sem]
 rfl
theorem eqIn_word (d : Nat) (a b : Int) (w : World) : (Op.equalIn (d + 1) 24 (.int .u64 a) (.int .u64 b)).run Tryz.prog w = .ok (decide (a = b)) w := by
 simp only [Op.equalIn, Sem.run_bind, run_underlying Tryz.underlying24, Result.andThen_ok]
 simp [go_sem]
 rfl
theorem ba_beq (a b : ByteArray) : (a == b) = decide (a = b) := by rw [Bool.eq_iff_iff, decide_eq_true_eq]; exact MapKept.bytes_beq a b
theorem eqIn_str (d : Nat) (a b : ByteArray) (w : World) : (Op.equalIn (d + 1) 9 (.string a) (.string b)).run Tryz.prog w = .ok (decide (a = b)) w := by
 simp only [Op.equalIn, Sem.run_bind, run_underlying Tryz.underlying9, Result.andThen_ok]
 rw [ba_beq]; rfl
theorem eqIn_key (d : Nat) (a0 a1 a2 a3 : Int) (a4 : ByteArray) (b0 b1 b2 b3 : Int) (b4 : ByteArray) (w : World) : (Op.equalIn (d + 2) 26 (.agg #[.int .i64 a0, .int .i64 a1, .int .u64 a2, .int .u64 a3, .string a4]) (.agg #[.int .i64 b0, .int .i64 b1, .int .u64 b2, .int .u64 b3, .string b4])).run Tryz.prog w = .ok (eqK a0 a1 a2 a3 a4 b0 b1 b2 b3 b4) w := by
 have e1 := eqIn_int d
 have e2 := eqIn_word d
 have e3 := eqIn_str d
 rw [show d + 2 = (d + 1) + 1 from rfl, run_equalIn_struct _ _ _ _ _ (by kernel_rfl) (by kernel_rfl), show (Tryz.prog.fieldsOf 26).toList = _ from by unfold Program.fieldsOf; rw [Tryz.underlying26]]
 unfold eqK
 simp [go_sem, Op.eqFields, e1, e2, e3]
 by_cases h0 : a0 = b0 <;> by_cases h1 : a1 = b1 <;> by_cases h2 : a2 = b2 <;> by_cases h3 : a3 = b3 <;> by_cases h4 : a4 = b4 <;> simp [go_sem, h0, h1, h2, h3, h4]
theorem eqIn_dim (d : Nat) (x y : Dm) (w : World) : (Op.equalIn (d + 2) 23 (dv x) (dv y)).run Tryz.prog w = .ok (decide (x = y)) w := by
 have e1 := eqIn_int d
 obtain ⟨a0, a1, a2⟩ := x
 obtain ⟨b0, b1, b2⟩ := y
 unfold dv
 rw [show d + 2 = (d + 1) + 1 from rfl, run_equalIn_struct _ _ _ _ _ (by kernel_rfl) (by kernel_rfl), show (Tryz.prog.fieldsOf 23).toList = _ from by unfold Program.fieldsOf; rw [Tryz.underlying23]]
 simp [go_sem, Op.eqFields, e1]
 by_cases h0 : a0 = b0 <;> by_cases h1 : a1 = b1 <;> by_cases h2 : a2 = b2 <;> simp [go_sem, h0, h1, h2]
theorem eqIn_at (d : Nat) (a0 a1 b0 b1 : Int) (w : World) : (Op.equalIn (d + 2) 37 (.agg #[.int .i64 a0, .int .i64 a1]) (.agg #[.int .i64 b0, .int .i64 b1])).run Tryz.prog w = .ok (decide (a0 = b0 ∧ a1 = b1)) w := by
 have e1 := eqIn_int d
 obtain ⟨i, hi⟩ := info_of_underlying Tryz.underlying3
 have hc : Tryz.prog.cellsOf 3 = 1 := by kernel_rfl
 rw [show d + 2 = (d + 1) + 1 from rfl, run_equalIn_array _ _ _ _ Tryz.underlying37 hi, hc, show List.range 2 = [0, 1] from rfl]
 simp [go_sem, Op.eqItems, e1]
 by_cases h0 : a0 = b0 <;> by_cases h1 : a1 = b1 <;> simp [go_sem, h0, h1]
def keys2 (a b : Ke) : Value := .agg #[.int .i64 a.kind, .int .i64 a.len, .int .u64 a.h, .int .u64 a.l, .string ⟨a.path.toArray⟩, .int .i64 b.kind, .int .i64 b.len, .int .u64 b.h, .int .u64 b.l, .string ⟨b.path.toArray⟩]
theorem eqIn_keys (d : Nat) (a b x y : Ke) (w : World) : (Op.equalIn (d + 3) 38 (keys2 a b) (keys2 x y)).run Tryz.prog w = .ok (decide (a = x ∧ b = y)) w := by
 have e1 := eqIn_key d
 have e2 := eqK_ke a x
 have e3 := eqK_ke b y
 obtain ⟨i, hi⟩ := info_of_underlying Tryz.underlying26
 have hc : Tryz.prog.cellsOf 26 = 5 := by kernel_rfl
 unfold keys2
 rw [show d + 3 = (d + 2) + 1 from rfl, run_equalIn_array _ _ _ _ Tryz.underlying38 hi, hc, show List.range 2 = [0, 1] from rfl]
 simp [go_sem, Op.eqItems, e1, e2, e3]
 by_cases h0 : a = x <;> by_cases h1 : b = y <;> simp [go_sem, h0, h1]
theorem px_ext {p q : Px} (h0 : p.a0 = q.a0) (h1 : p.a1 = q.a1) (h2 : p.k0 = q.k0) (h3 : p.k1 = q.k1) : p = q := by cases p; cases q; simp_all
theorem px_iff (p q : Px) : p = q ↔ (p.a0 = q.a0 ∧ p.a1 = q.a1) ∧ p.k0 = q.k0 ∧ p.k1 = q.k1 := ⟨by rintro rfl; simp, fun ⟨⟨h0, h1⟩, h2, h3⟩ => px_ext h0 h1 h2 h3⟩
theorem eqIn_px (d : Nat) (p q : Px) (w : World) : (Op.equalIn (d + 4) 40 (pv p) (pv q)).run Tryz.prog w = .ok (decide (p = q)) w := by
 have e1 := eqIn_at (d + 1)
 have e2 := eqIn_keys d p.k0 p.k1 q.k0 q.k1
 have e3 := px_iff p q
 unfold pv
 unfold keys2 at e2
 rw [show d + 4 = (d + 3) + 1 from rfl, run_equalIn_struct _ _ _ _ _ (by kernel_rfl) (by kernel_rfl), show (Tryz.prog.fieldsOf 40).toList = _ from by unfold Program.fieldsOf; rw [Tryz.underlying40]]
 rw [show decide (p = q) = (decide (p.a0 = q.a0 ∧ p.a1 = q.a1) && decide (p.k0 = q.k0 ∧ p.k1 = q.k1)) from by rw [Bool.eq_iff_iff]; simp only [Bool.and_eq_true, decide_eq_true_eq]; exact e3]
 simp [go_sem, Op.eqFields, e1, e2]
 by_cases h0 : p.a0 = q.a0 <;> by_cases h1 : p.a1 = q.a1 <;> by_cases h2 : p.k0 = q.k0 <;> by_cases h3 : p.k1 = q.k1 <;> simp [go_sem, h0, h1, h2, h3]
theorem eql_px (p q : Px) (w : World) : (binOp .eql 40 (pv p) (pv q)).run Tryz.prog w = .ok (.bool (decide (p = q))) w := by
 have e := eqIn_px 9996 p q
 unfold pv at *
 simp [go_sem, e]
theorem neq_px (p q : Px) (w : World) : (binOp .neq 40 (pv p) (pv q)).run Tryz.prog w = .ok (.bool (!decide (p = q))) w := by
 have e := eqIn_px 9996 p q
 unfold pv at *
 simp [go_sem, e]
theorem eql_dim (p q : Dm) (w : World) : (binOp .eql 23 (dv p) (dv q)).run Tryz.prog w = .ok (.bool (decide (p = q))) w := by
 have e := eqIn_dim 9998 p q
 unfold dv at *
 simp [go_sem, e]
theorem neq_dim (p q : Dm) (w : World) : (binOp .neq 23 (dv p) (dv q)).run Tryz.prog w = .ok (.bool (!decide (p = q))) w := by
 have e := eqIn_dim 9998 p q
 unfold dv at *
 simp [go_sem, e]
theorem pcell_far {w : World} {g o : Nat} {vs : List Value} {a : Addr} {v : Value} (h : w.cell? a = some v) (hne : a.block ≠ g) : (w.setCells g o vs).cell? a = some v := by
 rw [World.cell?_setCells_out g vs o w a (fun e => absurd e hne)]; exact h
theorem prow_far {w : World} {g k o : Nat} {vs : List Value} {cs : Array Value} {t : TypeId} (h : Row w k cs t) (hne : k ≠ g) : Row (w.setCells g o vs) k cs t := (setCells_other hne vs o w).trans h
theorem Row.setMany {w : World} {g : Nat} {cs ds : Array Value} {t : TypeId} (h : Row w g cs t) (o : Nat) (vs : List Value) (e : setL cs o vs = ds) : Row (w.setCells g o vs) g ds t := e ▸ Row.setCells vs o h
theorem pexec_load {P : Program} {o : Oper} {a : Act} {w : World} (ty : TypeId) (x : Operand) (ho : o.op = .load ty x) (g : Nat) (hx : a.eval x = .pointer (some ⟨g, 0, none⟩)) (t : TypeId) (cs : Array Value) (d : TypeDesc) (hg : Row w g cs t)
  (hu : P.underlying ty = some d) (hd : (match d with | .struct _ | .array _ _ => true | _ => false) = true) (hi : (P.info? ty).map (·.size) = some cs.size) : (execOp a.eval o).run P w = .ok (.value (.agg cs)) w := by
 unfold execOp
 simp only [ho, hx, Instr.loadAt, Instr.sureAddr, Sem.run_bind, Sem.run_pure, Result.andThen_ok, run_loadVar_row w g t ty cs (0, 0) d hg hu hd hi]
theorem Row.thereAt {w : World} {g : Nat} {cs : Array Value} {t : TypeId} (h : Row w g cs t) (o n : Nat) (hn : o + n ≤ cs.size) : w.there g o n := fun j hj => by
 rw [h.cell (o + j), h.frozen (o + j), Array.getElem?_eq_getElem (by omega)]
 exact ⟨rfl, rfl⟩
theorem infoPx : (Tryz.prog.info? 40).map (·.size) = some 12 := by kernel_rfl
theorem infoSp : (Tryz.prog.info? 36).map (·.size) = some 7 := by kernel_rfl
theorem infoKe : (Tryz.prog.info? 26).map (·.size) = some 5 := by kernel_rfl
theorem infoDm : (Tryz.prog.info? 23).map (·.size) = some 3 := by kernel_rfl
theorem pnm (w : World) (g o : Nat) (vs : List Value) : ∃ wz, wz = World.setCells w g o vs ∧ wz = World.setCells w g o vs := ⟨_, rfl, rfl⟩
theorem pcf {w w' : World} {g o : Nat} {vs : List Value} {a : Addr} {v : Value} (hw : w' = w.setCells g o vs) (h : w.cell? a = some v) (hne : a.block ≠ g := by first | omega | (simp; done) | (simp; omega) | omega) : w'.cell? a = some v := hw ▸ pcell_far h hne
theorem prf {w w' : World} {g k o : Nat} {vs : List Value} {cs : Array Value} {t : TypeId} (hw : w' = w.setCells g o vs) (h : Row w k cs t) (hne : k ≠ g := by first | omega | (simp; done) | (simp; omega) | omega) : Row w' k cs t := hw ▸ prow_far h hne
theorem psm {w w' : World} {g o : Nat} {vs : List Value} {cs ds : Array Value} {t : TypeId} (hw : w' = w.setCells g o vs) (h : Row w g cs t) (e : setL cs o vs = ds) : Row w' g ds t := hw ▸ Row.setMany h o vs e
theorem pbl {B g o : Nat} {a w w' : World} {vs : List Value} (hw : w' = w.setCells g o vs) (h : Below B a w) (hg : B ≤ g := by omega) : Below B a w' := hw ▸ below_setCells hg vs o w h
theorem pst {P : Program} {op : Oper} {a : Act} {w : World} {K : Act → World → Prop} {Q : Exit → Act → World → Prop} (ty : TypeId) (x y : Operand) (ho : op.op = .store ty x y)
 (b o : Nat) (cells : Array Value) (hx : a.eval x = .pointer (some ⟨b, o, none⟩)) (hy : a.eval y = .agg cells)
 (ht : w.there b o cells.size) (hi : (P.info? ty).map (·.size) = some cells.size) (h1 : cells.all (·.oneCell') = true)
 (h : ∀ w', w' = w.setCells b o cells.toList → K (a.put op.dst undef) w') : op.wp P a w K Q := wp_store_mid ty x y ho b o cells hx hy ht hi h1 (h _ rfl)
def dz : Dm := ⟨0, 0, 0⟩
def pz : Px := ⟨0, 0, kz, kz⟩
def soundS (s : Sp) : Bool := if s.n = 1 then rightD s.d0 && decide (s.d1 = dz) else decide (s.n = 2) && (rightD s.d0 && rightD s.d1)
def rightP (s : Sp) (p : Px) : Bool := soundS s && (onD s.d0 p.a0 p.k0 && (if s.n = 1 then decide (p.a1 = 0) && decide (p.k1 = kz) else onD s.d1 p.a1 p.k1))
theorem on0_t (s : Sp) (l : Int) (k : Ke) (ok : k.ok) (hn : 1 ≤ s.n) (w : World) : Calls Tryz.prog 51 #[sv s, .int .i64 0, .int .i64 l, kv k] w fun e w' => e = .returned (.bool (onD s.d0 l k)) ∧ Below w.heap.size w w' := by
 have HO := don_t s.d0 l k ok
 generalize onD s.d0 l k = r at *
 unfold sv kv dv at *
 obtain ⟨RR0, RR1, hb0⟩ := two_rows w #[.int .i64 s.n, .int .i64 s.d0.kind, .int .i64 s.d0.side, .int .i64 s.d0.step, .int .i64 s.d1.kind, .int .i64 s.d1.side, .int .i64 s.d1.step] #[.int .i64 k.kind, .int .i64 k.len, .int .u64 k.h, .int .u64 k.l, .string ⟨k.path.toArray⟩] 36 26
 have c0 := (RR0.cell 0).trans (show _ = some (Value.int .i64 s.n) from rfl)
 have c1 := (RR0.cell 1).trans (show _ = some (Value.int .i64 s.d0.kind) from rfl)
 have c2 := (RR0.cell 2).trans (show _ = some (Value.int .i64 s.d0.side) from rfl)
 have c3 := (RR0.cell 3).trans (show _ = some (Value.int .i64 s.d0.step) from rfl)
 have c4 := (RR0.cell 4).trans (show _ = some (Value.int .i64 s.d1.kind) from rfl)
 have c5 := (RR0.cell 5).trans (show _ = some (Value.int .i64 s.d1.side) from rfl)
 have c6 := (RR0.cell 6).trans (show _ = some (Value.int .i64 s.d1.step) from rfl)
 have d0 := (RR1.cell 0).trans (show _ = some (Value.int .i64 k.kind) from rfl)
 have d1 := (RR1.cell 1).trans (show _ = some (Value.int .i64 k.len) from rfl)
 have d2 := (RR1.cell 2).trans (show _ = some (Value.int .u64 k.h) from rfl)
 have d3 := (RR1.cell 3).trans (show _ = some (Value.int .u64 k.l) from rfl)
 have d4 := (RR1.cell 4).trans (show _ = some (Value.string ⟨k.path.toArray⟩) from rfl)
 clear RR0 RR1
 go_enter Tryz.func51, Tryz.ntmps51
 go_wp2_with fail
 refine wp_region_held_drew (S := (fun w' => w'.cell? ⟨w.heap.size, 0, none⟩ = some (.int .i64 s.n) ∧ w'.cell? ⟨w.heap.size, 1, none⟩ = some (.int .i64 s.d0.kind) ∧ w'.cell? ⟨w.heap.size, 2, none⟩ = some (.int .i64 s.d0.side) ∧ w'.cell? ⟨w.heap.size, 3, none⟩ = some (.int .i64 s.d0.step) ∧ w'.cell? ⟨w.heap.size, 4, none⟩ = some (.int .i64 s.d1.kind) ∧ w'.cell? ⟨w.heap.size, 5, none⟩ = some (.int .i64 s.d1.side) ∧ w'.cell? ⟨w.heap.size, 6, none⟩ = some (.int .i64 s.d1.step) ∧ w'.cell? ⟨w.heap.size + 1, 0, none⟩ = some (.int .i64 k.kind) ∧ w'.cell? ⟨w.heap.size + 1, 1, none⟩ = some (.int .i64 k.len) ∧ w'.cell? ⟨w.heap.size + 1, 2, none⟩ = some (.int .u64 k.h) ∧ w'.cell? ⟨w.heap.size + 1, 3, none⟩ = some (.int .u64 k.l) ∧ w'.cell? ⟨w.heap.size + 1, 4, none⟩ = some (.string ⟨k.path.toArray⟩) ∧ Below w.heap.size w w')) (by kernel_rfl) ?hSr1_ (fun hH => ?_)
 case hSr1_ => (first | exact ⟨c0, c1, c2, c3, c4, c5, c6, d0, d1, d2, d3, d4, hb0.drew⟩ | exact ⟨c0, c1, c2, c3, c4, c5, c6, d0, d1, d2, d3, d4, hb0⟩ | (obtain ⟨c0, c1, c2, c3, c4, c5, c6, d0, d1, d2, d3, d4, hb0⟩ := hH; exact ⟨cl hb c0, cl hb c1, cl hb c2, cl hb c3, cl hb c4, cl hb c5, cl hb c6, cl hb d0, cl hb d1, cl hb d2, cl hb d3, cl hb d4, below_step hb0 hb⟩))
 refine tk 0 ⟨some 20, .move (.tmp 1), 3, _, _, _⟩ hH ?_
 refine tk 1 ⟨some 21, .fieldAddr 36 (.tmp 4) 1, 0, _, _, _⟩ hH ?_
 refine tk 2 ⟨some 22, .indexAddr 34 (.tmp 21) (.tmp 20), 0, _, _, _⟩ hH ?_
 refine tk 3 ⟨some 23, .load 23 (.tmp 22), 23, _, _, _⟩ hH ?_
 refine tk 4 ⟨some 24, .move (.tmp 2), 3, _, _, _⟩ hH ?_
 refine tk 5 ⟨some 25, .load 26 (.tmp 7), 26, _, _, _⟩ hH ?_
 refine wpAnyH_ready (rs := [6]) (by kernel_rfl) (by simp) ?_
 refine AllReadyH.cons (o := ⟨some 26, .call { callee := .value (.func 41), args := #[.tmp 23, .tmp 24, .tmp 25], argTypes := #[23, 3, 26] }, 4, _, _, _⟩) rfl (fun K hK => ?_) AllReadyH.nil
 (go_simp; (refine (HO _).mono ?_); (rintro e wn ⟨rfl, hb⟩); go_wp2_with fail)
 refine hK.out _ _ ?hSr1_7_6 fun _ => ?_
 case hSr1_7_6 => (first | exact ⟨c0, c1, c2, c3, c4, c5, c6, d0, d1, d2, d3, d4, hb0.drew⟩ | exact ⟨c0, c1, c2, c3, c4, c5, c6, d0, d1, d2, d3, d4, hb0⟩ | (obtain ⟨c0, c1, c2, c3, c4, c5, c6, d0, d1, d2, d3, d4, hb0⟩ := hH; exact ⟨cl hb c0, cl hb c1, cl hb c2, cl hb c3, cl hb c4, cl hb c5, cl hb c6, cl hb d0, cl hb d1, cl hb d2, cl hb d3, cl hb d4, below_step hb0 hb⟩))
 clear hK K hH; rename_i hH
 (try simp only [Act.put, nz1, nz2, nz3])
 refine tk 7 ⟨some 8, .assign (.tmp 26), 4, _, _, _⟩ hH ?_
 refine wpAnyH_done (by kernel_rfl) ?_ _
 clear c0 c1 c2 c3 c4 c5 c6 d0 d1 d2 d3 d4 hb0
 obtain ⟨c0, c1, c2, c3, c4, c5, c6, d0, d1, d2, d3, d4, hb0⟩ := hH
 go_wp2
 go_ret
 exact ⟨rfl, hb0⟩
theorem on2_t (s : Sp) (l : Int) (k : Ke) (ok : k.ok) (hn : 2 ≤ s.n) (w : World) : Calls Tryz.prog 51 #[sv s, .int .i64 1, .int .i64 l, kv k] w fun e w' => e = .returned (.bool (onD s.d1 l k)) ∧ Below w.heap.size w w' := by
 have HO := don_t s.d1 l k ok
 generalize onD s.d1 l k = r at *
 unfold sv kv dv at *
 obtain ⟨RR0, RR1, hb0⟩ := two_rows w #[.int .i64 s.n, .int .i64 s.d0.kind, .int .i64 s.d0.side, .int .i64 s.d0.step, .int .i64 s.d1.kind, .int .i64 s.d1.side, .int .i64 s.d1.step] #[.int .i64 k.kind, .int .i64 k.len, .int .u64 k.h, .int .u64 k.l, .string ⟨k.path.toArray⟩] 36 26
 have c0 := (RR0.cell 0).trans (show _ = some (Value.int .i64 s.n) from rfl)
 have c1 := (RR0.cell 1).trans (show _ = some (Value.int .i64 s.d0.kind) from rfl)
 have c2 := (RR0.cell 2).trans (show _ = some (Value.int .i64 s.d0.side) from rfl)
 have c3 := (RR0.cell 3).trans (show _ = some (Value.int .i64 s.d0.step) from rfl)
 have c4 := (RR0.cell 4).trans (show _ = some (Value.int .i64 s.d1.kind) from rfl)
 have c5 := (RR0.cell 5).trans (show _ = some (Value.int .i64 s.d1.side) from rfl)
 have c6 := (RR0.cell 6).trans (show _ = some (Value.int .i64 s.d1.step) from rfl)
 have d0 := (RR1.cell 0).trans (show _ = some (Value.int .i64 k.kind) from rfl)
 have d1 := (RR1.cell 1).trans (show _ = some (Value.int .i64 k.len) from rfl)
 have d2 := (RR1.cell 2).trans (show _ = some (Value.int .u64 k.h) from rfl)
 have d3 := (RR1.cell 3).trans (show _ = some (Value.int .u64 k.l) from rfl)
 have d4 := (RR1.cell 4).trans (show _ = some (Value.string ⟨k.path.toArray⟩) from rfl)
 clear RR0 RR1
 go_enter Tryz.func51, Tryz.ntmps51
 go_wp2_with fail
 refine wp_region_held_drew (S := (fun w' => w'.cell? ⟨w.heap.size, 0, none⟩ = some (.int .i64 s.n) ∧ w'.cell? ⟨w.heap.size, 1, none⟩ = some (.int .i64 s.d0.kind) ∧ w'.cell? ⟨w.heap.size, 2, none⟩ = some (.int .i64 s.d0.side) ∧ w'.cell? ⟨w.heap.size, 3, none⟩ = some (.int .i64 s.d0.step) ∧ w'.cell? ⟨w.heap.size, 4, none⟩ = some (.int .i64 s.d1.kind) ∧ w'.cell? ⟨w.heap.size, 5, none⟩ = some (.int .i64 s.d1.side) ∧ w'.cell? ⟨w.heap.size, 6, none⟩ = some (.int .i64 s.d1.step) ∧ w'.cell? ⟨w.heap.size + 1, 0, none⟩ = some (.int .i64 k.kind) ∧ w'.cell? ⟨w.heap.size + 1, 1, none⟩ = some (.int .i64 k.len) ∧ w'.cell? ⟨w.heap.size + 1, 2, none⟩ = some (.int .u64 k.h) ∧ w'.cell? ⟨w.heap.size + 1, 3, none⟩ = some (.int .u64 k.l) ∧ w'.cell? ⟨w.heap.size + 1, 4, none⟩ = some (.string ⟨k.path.toArray⟩) ∧ Below w.heap.size w w')) (by kernel_rfl) ?hSr2_ (fun hH => ?_)
 case hSr2_ => (first | exact ⟨c0, c1, c2, c3, c4, c5, c6, d0, d1, d2, d3, d4, hb0.drew⟩ | exact ⟨c0, c1, c2, c3, c4, c5, c6, d0, d1, d2, d3, d4, hb0⟩ | (obtain ⟨c0, c1, c2, c3, c4, c5, c6, d0, d1, d2, d3, d4, hb0⟩ := hH; exact ⟨cl hb c0, cl hb c1, cl hb c2, cl hb c3, cl hb c4, cl hb c5, cl hb c6, cl hb d0, cl hb d1, cl hb d2, cl hb d3, cl hb d4, below_step hb0 hb⟩))
 refine tk 0 ⟨some 20, .move (.tmp 1), 3, _, _, _⟩ hH ?_
 refine tk 1 ⟨some 21, .fieldAddr 36 (.tmp 4) 1, 0, _, _, _⟩ hH ?_
 refine tk 2 ⟨some 22, .indexAddr 34 (.tmp 21) (.tmp 20), 0, _, _, _⟩ hH ?_
 refine tk 3 ⟨some 23, .load 23 (.tmp 22), 23, _, _, _⟩ hH ?_
 refine tk 4 ⟨some 24, .move (.tmp 2), 3, _, _, _⟩ hH ?_
 refine tk 5 ⟨some 25, .load 26 (.tmp 7), 26, _, _, _⟩ hH ?_
 refine wpAnyH_ready (rs := [6]) (by kernel_rfl) (by simp) ?_
 refine AllReadyH.cons (o := ⟨some 26, .call { callee := .value (.func 41), args := #[.tmp 23, .tmp 24, .tmp 25], argTypes := #[23, 3, 26] }, 4, _, _, _⟩) rfl (fun K hK => ?_) AllReadyH.nil
 (go_simp; (refine (HO _).mono ?_); (rintro e wn ⟨rfl, hb⟩); go_wp2_with fail)
 refine hK.out _ _ ?hSr2_7_6 fun _ => ?_
 case hSr2_7_6 => (first | exact ⟨c0, c1, c2, c3, c4, c5, c6, d0, d1, d2, d3, d4, hb0.drew⟩ | exact ⟨c0, c1, c2, c3, c4, c5, c6, d0, d1, d2, d3, d4, hb0⟩ | (obtain ⟨c0, c1, c2, c3, c4, c5, c6, d0, d1, d2, d3, d4, hb0⟩ := hH; exact ⟨cl hb c0, cl hb c1, cl hb c2, cl hb c3, cl hb c4, cl hb c5, cl hb c6, cl hb d0, cl hb d1, cl hb d2, cl hb d3, cl hb d4, below_step hb0 hb⟩))
 clear hK K hH; rename_i hH
 (try simp only [Act.put, nz1, nz2, nz3])
 refine tk 7 ⟨some 8, .assign (.tmp 26), 4, _, _, _⟩ hH ?_
 refine wpAnyH_done (by kernel_rfl) ?_ _
 clear c0 c1 c2 c3 c4 c5 c6 d0 d1 d2 d3 d4 hb0
 obtain ⟨c0, c1, c2, c3, c4, c5, c6, d0, d1, d2, d3, d4, hb0⟩ := hH
 go_wp2
 go_ret
 exact ⟨rfl, hb0⟩
theorem kz_eqK (k : Ke) : eqK k.kind k.len k.h k.l ⟨k.path.toArray⟩ 0 0 0 0 ⟨#[]⟩ = decide (k = kz) := eqK_ke k kz
theorem on1_t (s : Sp) (l : Int) (k : Ke) (hn : s.n = 1) (w : World) : Calls Tryz.prog 51 #[sv s, .int .i64 1, .int .i64 l, kv k] w fun e w' => e = .returned (.bool (decide (l = 0) && decide (k = kz))) ∧ Below w.heap.size w w' := by
 have q := eql_key
 have HE := kz_eqK k
 obtain ⟨n, e0, e1⟩ := s
 dsimp only at hn
 subst hn
 unfold sv kv
 dsimp only
 obtain ⟨RR0, RR1, hb0⟩ := two_rows w #[.int .i64 1, .int .i64 e0.kind, .int .i64 e0.side, .int .i64 e0.step, .int .i64 e1.kind, .int .i64 e1.side, .int .i64 e1.step] #[.int .i64 k.kind, .int .i64 k.len, .int .u64 k.h, .int .u64 k.l, .string ⟨k.path.toArray⟩] 36 26
 have c0 := (RR0.cell 0).trans (show _ = some (Value.int .i64 1) from rfl)
 have c1 := (RR0.cell 1).trans (show _ = some (Value.int .i64 e0.kind) from rfl)
 have c2 := (RR0.cell 2).trans (show _ = some (Value.int .i64 e0.side) from rfl)
 have c3 := (RR0.cell 3).trans (show _ = some (Value.int .i64 e0.step) from rfl)
 have c4 := (RR0.cell 4).trans (show _ = some (Value.int .i64 e1.kind) from rfl)
 have c5 := (RR0.cell 5).trans (show _ = some (Value.int .i64 e1.side) from rfl)
 have c6 := (RR0.cell 6).trans (show _ = some (Value.int .i64 e1.step) from rfl)
 have d0 := (RR1.cell 0).trans (show _ = some (Value.int .i64 k.kind) from rfl)
 have d1 := (RR1.cell 1).trans (show _ = some (Value.int .i64 k.len) from rfl)
 have d2 := (RR1.cell 2).trans (show _ = some (Value.int .u64 k.h) from rfl)
 have d3 := (RR1.cell 3).trans (show _ = some (Value.int .u64 k.l) from rfl)
 have d4 := (RR1.cell 4).trans (show _ = some (Value.string ⟨k.path.toArray⟩) from rfl)
 clear RR0 RR1
 generalize decide (k = kz) = b at *
 by_cases h : l = 0
 ·subst h
  go_enter Tryz.func51, Tryz.ntmps51
  go_wp2
  go_ret
  exact ⟨by simp [HE], hb0⟩
 ·have h' : (l == 0) = false := by simpa using h
  rw [decide_eq_false h]
  go_enter Tryz.func51, Tryz.ntmps51
  go_wp2
  go_ret
  exact ⟨rfl, hb0⟩
theorem dz_neq (d : Dm) (w : World) : (binOp .neq 23 (.agg #[.int .i64 d.kind, .int .i64 d.side, .int .i64 d.step]) (.agg #[.int .i64 0, .int .i64 0, .int .i64 0])).run Tryz.prog w = .ok (.bool (!decide (d = dz))) w := neq_dim d dz w
theorem dz_eql (d : Dm) (w : World) : (binOp .eql 23 (.agg #[.int .i64 d.kind, .int .i64 d.side, .int .i64 d.step]) (.agg #[.int .i64 0, .int .i64 0, .int .i64 0])).run Tryz.prog w = .ok (.bool (decide (d = dz))) w := eql_dim d dz w
theorem ixd0 (a b c d e f : Value) (w : World) : (Instr.index 34 (.agg #[a, b, c, d, e, f]) (.int .i64 0)).run Tryz.prog w = .ok (.agg #[a, b, c]) w := by kernel_rfl
theorem ixd1 (a b c d e f : Value) (w : World) : (Instr.index 34 (.agg #[a, b, c, d, e, f]) (.int .i64 1)).run Tryz.prog w = .ok (.agg #[d, e, f]) w := by kernel_rfl
theorem sound_low (s : Sp) (hn : s.n ≤ 0) (w : World) : Calls Tryz.prog 47 #[sv s] w fun e w' => e = .returned (.bool false) ∧ Below w.heap.size w w' := by
 obtain ⟨n, d0, d1⟩ := s
 dsimp only at hn
 have q0 := dz_neq d0
 have q1 := dz_neq d1
 have i0 := ixd0
 have i1 := ixd1
 generalize decide (d0 = dz) = z0 at *
 generalize decide (d1 = dz) = z1 at *
 unfold sv
 dsimp only
 obtain ⟨RR0, hb0⟩ := one_row w #[.int .i64 n, .int .i64 d0.kind, .int .i64 d0.side, .int .i64 d0.step, .int .i64 d1.kind, .int .i64 d1.side, .int .i64 d1.step] 36
 have c0 := (RR0.cell 0).trans (show _ = some (Value.int .i64 n) from rfl)
 have c1 := (RR0.cell 1).trans (show _ = some (Value.int .i64 d0.kind) from rfl)
 have c2 := (RR0.cell 2).trans (show _ = some (Value.int .i64 d0.side) from rfl)
 have c3 := (RR0.cell 3).trans (show _ = some (Value.int .i64 d0.step) from rfl)
 have c4 := (RR0.cell 4).trans (show _ = some (Value.int .i64 d1.kind) from rfl)
 have c5 := (RR0.cell 5).trans (show _ = some (Value.int .i64 d1.side) from rfl)
 have c6 := (RR0.cell 6).trans (show _ = some (Value.int .i64 d1.step) from rfl)
 clear RR0
 have n1 : (n == 1) = false := by simp; omega
 have n2 : (n == 2) = false := by simp; omega
 cases z0 with
 | false =>
  go_enter Tryz.func47, Tryz.ntmps47
  go_wp2_with fail
  refine wp_loop_rounds 3 ?_
  rw [rounds_succ]
  go_wp2
  go_ret
  exact ⟨rfl, (by repeat (first | exact Below.refl _ _ | assumption | (with_reducible refine Below.drew ?_) | ((with_reducible first | refine Below.setCell ?_ ?h _ | refine Below.alloc ?_ ?h _ | refine Below.trans ?_ (hb0.mono ?h)); case h => first | omega | (simp; done) | (simp; omega))))⟩
 | true =>
  cases z1 with
  | false =>
   go_enter Tryz.func47, Tryz.ntmps47
   go_wp2_with fail
   refine wp_loop_rounds 3 ?_
   rw [rounds_succ]
   go_wp2
   rw [rounds_succ]
   go_wp2
   go_ret
   exact ⟨rfl, (by repeat (first | exact Below.refl _ _ | assumption | (with_reducible refine Below.drew ?_) | ((with_reducible first | refine Below.setCell ?_ ?h _ | refine Below.alloc ?_ ?h _ | refine Below.trans ?_ (hb0.mono ?h)); case h => first | omega | (simp; done) | (simp; omega))))⟩
  | true =>
   go_enter Tryz.func47, Tryz.ntmps47
   go_wp2_with fail
   refine wp_loop_rounds 3 ?_
   rw [rounds_succ]
   go_wp2
   rw [rounds_succ]
   go_wp2
   rw [rounds_succ]
   go_wp2
   go_ret
   exact ⟨rfl, (by repeat (first | exact Below.refl _ _ | assumption | (with_reducible refine Below.drew ?_) | ((with_reducible first | refine Below.setCell ?_ ?h _ | refine Below.alloc ?_ ?h _ | refine Below.trans ?_ (hb0.mono ?h)); case h => first | omega | (simp; done) | (simp; omega))))⟩
theorem sound_bad0 (s : Sp) (hn : 1 ≤ s.n) (hr : rightD s.d0 = false) (w : World) : Calls Tryz.prog 47 #[sv s] w fun e w' => e = .returned (.bool false) ∧ Below w.heap.size w w' := by
 obtain ⟨n, d0, d1⟩ := s
 dsimp only at hn hr
 have i0 := ixd0
 have HR := dright_t d0
 rw [hr] at HR
 unfold sv
 unfold dv at HR
 dsimp only
 obtain ⟨RR0, hb0⟩ := one_row w #[.int .i64 n, .int .i64 d0.kind, .int .i64 d0.side, .int .i64 d0.step, .int .i64 d1.kind, .int .i64 d1.side, .int .i64 d1.step] 36
 have c0 := (RR0.cell 0).trans (show _ = some (Value.int .i64 n) from rfl)
 have c1 := (RR0.cell 1).trans (show _ = some (Value.int .i64 d0.kind) from rfl)
 have c2 := (RR0.cell 2).trans (show _ = some (Value.int .i64 d0.side) from rfl)
 have c3 := (RR0.cell 3).trans (show _ = some (Value.int .i64 d0.step) from rfl)
 have c4 := (RR0.cell 4).trans (show _ = some (Value.int .i64 d1.kind) from rfl)
 have c5 := (RR0.cell 5).trans (show _ = some (Value.int .i64 d1.side) from rfl)
 have c6 := (RR0.cell 6).trans (show _ = some (Value.int .i64 d1.step) from rfl)
 clear RR0
 go_enter Tryz.func47, Tryz.ntmps47
 go_wp2_with fail
 refine wp_loop_rounds 3 ?_
 rw [rounds_succ]
 go_wp2_with fail
 refine (HR _).mono ?_
 rintro e w1 ⟨rfl, hb⟩
 replace c0 := cl hb (cl ((Below.refl _ _).alloc (Nat.le_refl _) _) c0)
 replace c1 := cl hb (cl ((Below.refl _ _).alloc (Nat.le_refl _) _) c1)
 replace c2 := cl hb (cl ((Below.refl _ _).alloc (Nat.le_refl _) _) c2)
 replace c3 := cl hb (cl ((Below.refl _ _).alloc (Nat.le_refl _) _) c3)
 replace c4 := cl hb (cl ((Below.refl _ _).alloc (Nat.le_refl _) _) c4)
 replace c5 := cl hb (cl ((Below.refl _ _).alloc (Nat.le_refl _) _) c5)
 replace c6 := cl hb (cl ((Below.refl _ _).alloc (Nat.le_refl _) _) c6)
 have fd00 := ((Row.later (Row.new _ _ _) hb).cell 0).trans (show _ = some (Value.int .i64 d0.kind) from rfl)
 have fd01 := ((Row.later (Row.new _ _ _) hb).cell 1).trans (show _ = some (Value.int .i64 d0.side) from rfl)
 have fd02 := ((Row.later (Row.new _ _ _) hb).cell 2).trans (show _ = some (Value.int .i64 d0.step) from rfl)
 simp only [World.size_alloc] at fd00
 simp only [World.size_alloc] at fd01
 simp only [World.size_alloc] at fd02
 replace hb0 := below_step (hb0.alloc (Nat.le_trans hb0.size (Nat.le_refl _)) _) hb
 clear hb
 have lc := World.block_lt_of_cell? _ _ c0
 dsimp only at lc
 have lfd0 := World.block_lt_of_cell? _ _ fd00
 dsimp only at lfd0
 go_wp2
 go_ret
 exact ⟨rfl, (by repeat (first | exact Below.refl _ _ | assumption | (with_reducible refine Below.drew ?_) | ((with_reducible first | refine Below.setCell ?_ ?h _ | refine Below.alloc ?_ ?h _ | refine Below.trans ?_ (hb.mono ?h) | refine Below.trans ?_ (hb0.mono ?h)); case h => first | omega | (simp; done) | (simp; omega))))⟩
theorem sound_one (s : Sp) (hn : s.n = 1) (hr : rightD s.d0 = true) (w : World) : Calls Tryz.prog 47 #[sv s] w fun e w' => e = .returned (.bool (decide (s.d1 = dz))) ∧ Below w.heap.size w w' := by
 obtain ⟨n, d0, d1⟩ := s
 dsimp only at hn hr
 subst hn
 have i0 := ixd0
 have i1 := ixd1
 have q1 := dz_neq d1
 dsimp only
 generalize decide (d1 = dz) = z1 at *
 have HR := dright_t d0
 rw [hr] at HR
 unfold sv
 unfold dv at HR
 dsimp only
 obtain ⟨RR0, hb0⟩ := one_row w #[.int .i64 1, .int .i64 d0.kind, .int .i64 d0.side, .int .i64 d0.step, .int .i64 d1.kind, .int .i64 d1.side, .int .i64 d1.step] 36
 have c0 := (RR0.cell 0).trans (show _ = some (Value.int .i64 1) from rfl)
 have c1 := (RR0.cell 1).trans (show _ = some (Value.int .i64 d0.kind) from rfl)
 have c2 := (RR0.cell 2).trans (show _ = some (Value.int .i64 d0.side) from rfl)
 have c3 := (RR0.cell 3).trans (show _ = some (Value.int .i64 d0.step) from rfl)
 have c4 := (RR0.cell 4).trans (show _ = some (Value.int .i64 d1.kind) from rfl)
 have c5 := (RR0.cell 5).trans (show _ = some (Value.int .i64 d1.side) from rfl)
 have c6 := (RR0.cell 6).trans (show _ = some (Value.int .i64 d1.step) from rfl)
 clear RR0
 cases z1 with
 | false =>
  go_enter Tryz.func47, Tryz.ntmps47
  go_wp2_with fail
  refine wp_loop_rounds 3 ?_
  rw [rounds_succ]
  go_wp2_with fail
  refine (HR _).mono ?_
  rintro e w2 ⟨rfl, hb⟩
  replace c0 := cl hb (cl ((Below.refl _ _).alloc (Nat.le_refl _) _) c0)
  replace c1 := cl hb (cl ((Below.refl _ _).alloc (Nat.le_refl _) _) c1)
  replace c2 := cl hb (cl ((Below.refl _ _).alloc (Nat.le_refl _) _) c2)
  replace c3 := cl hb (cl ((Below.refl _ _).alloc (Nat.le_refl _) _) c3)
  replace c4 := cl hb (cl ((Below.refl _ _).alloc (Nat.le_refl _) _) c4)
  replace c5 := cl hb (cl ((Below.refl _ _).alloc (Nat.le_refl _) _) c5)
  replace c6 := cl hb (cl ((Below.refl _ _).alloc (Nat.le_refl _) _) c6)
  have fd00 := ((Row.later (Row.new _ _ _) hb).cell 0).trans (show _ = some (Value.int .i64 d0.kind) from rfl)
  have fd01 := ((Row.later (Row.new _ _ _) hb).cell 1).trans (show _ = some (Value.int .i64 d0.side) from rfl)
  have fd02 := ((Row.later (Row.new _ _ _) hb).cell 2).trans (show _ = some (Value.int .i64 d0.step) from rfl)
  simp only [World.size_alloc] at fd00
  simp only [World.size_alloc] at fd01
  simp only [World.size_alloc] at fd02
  replace hb0 := below_step (hb0.alloc (Nat.le_trans hb0.size (Nat.le_refl _)) _) hb
  clear hb
  have lc := World.block_lt_of_cell? _ _ c0
  dsimp only at lc
  have lfd0 := World.block_lt_of_cell? _ _ fd00
  dsimp only at lfd0
  go_wp2
  rw [rounds_succ]
  go_wp2
  go_ret
  exact ⟨rfl, (by repeat (first | exact Below.refl _ _ | assumption | (with_reducible refine Below.drew ?_) | ((with_reducible first | refine Below.setCell ?_ ?h _ | refine Below.alloc ?_ ?h _ | refine Below.trans ?_ (hb.mono ?h) | refine Below.trans ?_ (hb0.mono ?h)); case h => first | omega | (simp; done) | (simp; omega))))⟩
 | true =>
  go_enter Tryz.func47, Tryz.ntmps47
  go_wp2_with fail
  refine wp_loop_rounds 3 ?_
  rw [rounds_succ]
  go_wp2_with fail
  refine (HR _).mono ?_
  rintro e w3 ⟨rfl, hb⟩
  replace c0 := cl hb (cl ((Below.refl _ _).alloc (Nat.le_refl _) _) c0)
  replace c1 := cl hb (cl ((Below.refl _ _).alloc (Nat.le_refl _) _) c1)
  replace c2 := cl hb (cl ((Below.refl _ _).alloc (Nat.le_refl _) _) c2)
  replace c3 := cl hb (cl ((Below.refl _ _).alloc (Nat.le_refl _) _) c3)
  replace c4 := cl hb (cl ((Below.refl _ _).alloc (Nat.le_refl _) _) c4)
  replace c5 := cl hb (cl ((Below.refl _ _).alloc (Nat.le_refl _) _) c5)
  replace c6 := cl hb (cl ((Below.refl _ _).alloc (Nat.le_refl _) _) c6)
  have fd00 := ((Row.later (Row.new _ _ _) hb).cell 0).trans (show _ = some (Value.int .i64 d0.kind) from rfl)
  have fd01 := ((Row.later (Row.new _ _ _) hb).cell 1).trans (show _ = some (Value.int .i64 d0.side) from rfl)
  have fd02 := ((Row.later (Row.new _ _ _) hb).cell 2).trans (show _ = some (Value.int .i64 d0.step) from rfl)
  simp only [World.size_alloc] at fd00
  simp only [World.size_alloc] at fd01
  simp only [World.size_alloc] at fd02
  replace hb0 := below_step (hb0.alloc (Nat.le_trans hb0.size (Nat.le_refl _)) _) hb
  clear hb
  have lc := World.block_lt_of_cell? _ _ c0
  dsimp only at lc
  have lfd0 := World.block_lt_of_cell? _ _ fd00
  dsimp only at lfd0
  go_wp2
  rw [rounds_succ]
  go_wp2
  rw [rounds_succ]
  go_wp2
  go_ret
  exact ⟨rfl, (by repeat (first | exact Below.refl _ _ | assumption | (with_reducible refine Below.drew ?_) | ((with_reducible first | refine Below.setCell ?_ ?h _ | refine Below.alloc ?_ ?h _ | refine Below.trans ?_ (hb.mono ?h) | refine Below.trans ?_ (hb0.mono ?h)); case h => first | omega | (simp; done) | (simp; omega))))⟩
theorem sound_two (s : Sp) (hn : 2 ≤ s.n) (hr : rightD s.d0 = true) (w : World) : Calls Tryz.prog 47 #[sv s] w fun e w' => e = .returned (.bool (decide (s.n = 2) && rightD s.d1)) ∧ Below w.heap.size w w' := by
 obtain ⟨n, d0, d1⟩ := s
 dsimp only at hn hr
 dsimp only
 have i0 := ixd0
 have i1 := ixd1
 have HR := dright_t d0
 rw [hr] at HR
 have HS := dright_t d1
 generalize rightD d1 = r1 at *
 unfold sv
 unfold dv at HR HS
 dsimp only
 obtain ⟨RR0, hb0⟩ := one_row w #[.int .i64 n, .int .i64 d0.kind, .int .i64 d0.side, .int .i64 d0.step, .int .i64 d1.kind, .int .i64 d1.side, .int .i64 d1.step] 36
 have c0 := (RR0.cell 0).trans (show _ = some (Value.int .i64 n) from rfl)
 have c1 := (RR0.cell 1).trans (show _ = some (Value.int .i64 d0.kind) from rfl)
 have c2 := (RR0.cell 2).trans (show _ = some (Value.int .i64 d0.side) from rfl)
 have c3 := (RR0.cell 3).trans (show _ = some (Value.int .i64 d0.step) from rfl)
 have c4 := (RR0.cell 4).trans (show _ = some (Value.int .i64 d1.kind) from rfl)
 have c5 := (RR0.cell 5).trans (show _ = some (Value.int .i64 d1.side) from rfl)
 have c6 := (RR0.cell 6).trans (show _ = some (Value.int .i64 d1.step) from rfl)
 clear RR0
 have n1 : (n == 1) = false := by simp; omega
 cases r1 with
 | false =>
  rw [Bool.and_false]
  go_enter Tryz.func47, Tryz.ntmps47
  go_wp2_with fail
  refine wp_loop_rounds 3 ?_
  rw [rounds_succ]
  go_wp2_with fail
  refine (HR _).mono ?_
  rintro e w4 ⟨rfl, hb⟩
  replace c0 := cl hb (cl ((Below.refl _ _).alloc (Nat.le_refl _) _) c0)
  replace c1 := cl hb (cl ((Below.refl _ _).alloc (Nat.le_refl _) _) c1)
  replace c2 := cl hb (cl ((Below.refl _ _).alloc (Nat.le_refl _) _) c2)
  replace c3 := cl hb (cl ((Below.refl _ _).alloc (Nat.le_refl _) _) c3)
  replace c4 := cl hb (cl ((Below.refl _ _).alloc (Nat.le_refl _) _) c4)
  replace c5 := cl hb (cl ((Below.refl _ _).alloc (Nat.le_refl _) _) c5)
  replace c6 := cl hb (cl ((Below.refl _ _).alloc (Nat.le_refl _) _) c6)
  have fd00 := ((Row.later (Row.new _ _ _) hb).cell 0).trans (show _ = some (Value.int .i64 d0.kind) from rfl)
  have fd01 := ((Row.later (Row.new _ _ _) hb).cell 1).trans (show _ = some (Value.int .i64 d0.side) from rfl)
  have fd02 := ((Row.later (Row.new _ _ _) hb).cell 2).trans (show _ = some (Value.int .i64 d0.step) from rfl)
  simp only [World.size_alloc] at fd00
  simp only [World.size_alloc] at fd01
  simp only [World.size_alloc] at fd02
  replace hb0 := below_step (hb0.alloc (Nat.le_trans hb0.size (Nat.le_refl _)) _) hb
  clear hb
  have lc := World.block_lt_of_cell? _ _ c0
  dsimp only at lc
  have lfd0 := World.block_lt_of_cell? _ _ fd00
  dsimp only at lfd0
  go_wp2
  rw [rounds_succ]
  go_wp2_with fail
  refine (HS _).mono ?_
  rintro e w5 ⟨rfl, hb⟩
  replace c0 := cl hb (cl ((Below.refl _ _).alloc (Nat.le_refl _) _) c0)
  replace c1 := cl hb (cl ((Below.refl _ _).alloc (Nat.le_refl _) _) c1)
  replace c2 := cl hb (cl ((Below.refl _ _).alloc (Nat.le_refl _) _) c2)
  replace c3 := cl hb (cl ((Below.refl _ _).alloc (Nat.le_refl _) _) c3)
  replace c4 := cl hb (cl ((Below.refl _ _).alloc (Nat.le_refl _) _) c4)
  replace c5 := cl hb (cl ((Below.refl _ _).alloc (Nat.le_refl _) _) c5)
  replace c6 := cl hb (cl ((Below.refl _ _).alloc (Nat.le_refl _) _) c6)
  replace fd00 := cl hb (cl ((Below.refl _ _).alloc (Nat.le_refl _) _) fd00)
  replace fd01 := cl hb (cl ((Below.refl _ _).alloc (Nat.le_refl _) _) fd01)
  replace fd02 := cl hb (cl ((Below.refl _ _).alloc (Nat.le_refl _) _) fd02)
  have fd10 := ((Row.later (Row.new _ _ _) hb).cell 0).trans (show _ = some (Value.int .i64 d1.kind) from rfl)
  have fd11 := ((Row.later (Row.new _ _ _) hb).cell 1).trans (show _ = some (Value.int .i64 d1.side) from rfl)
  have fd12 := ((Row.later (Row.new _ _ _) hb).cell 2).trans (show _ = some (Value.int .i64 d1.step) from rfl)
  have mfd1 := hb0.size
  replace hb0 := below_step (hb0.alloc hb0.size _) hb
  clear hb
  generalize w4.heap.size = gfd1 at *
  have lc := World.block_lt_of_cell? _ _ c0
  dsimp only at lc
  have lfd0 := World.block_lt_of_cell? _ _ fd00
  dsimp only at lfd0
  have lfd1 := World.block_lt_of_cell? _ _ fd10
  dsimp only at lfd1
  go_wp2
  go_ret
  exact ⟨rfl, (by repeat (first | exact Below.refl _ _ | assumption | (with_reducible refine Below.drew ?_) | ((with_reducible first | refine Below.setCell ?_ ?h _ | refine Below.alloc ?_ ?h _ | refine Below.trans ?_ (hb.mono ?h) | refine Below.trans ?_ (hb0.mono ?h)); case h => first | omega | (simp; done) | (simp; omega))))⟩
 | true =>
  rw [Bool.and_true]
  go_enter Tryz.func47, Tryz.ntmps47
  go_wp2_with fail
  refine wp_loop_rounds 3 ?_
  rw [rounds_succ]
  go_wp2_with fail
  refine (HR _).mono ?_
  rintro e w6 ⟨rfl, hb⟩
  replace c0 := cl hb (cl ((Below.refl _ _).alloc (Nat.le_refl _) _) c0)
  replace c1 := cl hb (cl ((Below.refl _ _).alloc (Nat.le_refl _) _) c1)
  replace c2 := cl hb (cl ((Below.refl _ _).alloc (Nat.le_refl _) _) c2)
  replace c3 := cl hb (cl ((Below.refl _ _).alloc (Nat.le_refl _) _) c3)
  replace c4 := cl hb (cl ((Below.refl _ _).alloc (Nat.le_refl _) _) c4)
  replace c5 := cl hb (cl ((Below.refl _ _).alloc (Nat.le_refl _) _) c5)
  replace c6 := cl hb (cl ((Below.refl _ _).alloc (Nat.le_refl _) _) c6)
  have fd00 := ((Row.later (Row.new _ _ _) hb).cell 0).trans (show _ = some (Value.int .i64 d0.kind) from rfl)
  have fd01 := ((Row.later (Row.new _ _ _) hb).cell 1).trans (show _ = some (Value.int .i64 d0.side) from rfl)
  have fd02 := ((Row.later (Row.new _ _ _) hb).cell 2).trans (show _ = some (Value.int .i64 d0.step) from rfl)
  simp only [World.size_alloc] at fd00
  simp only [World.size_alloc] at fd01
  simp only [World.size_alloc] at fd02
  replace hb0 := below_step (hb0.alloc (Nat.le_trans hb0.size (Nat.le_refl _)) _) hb
  clear hb
  have lc := World.block_lt_of_cell? _ _ c0
  dsimp only at lc
  have lfd0 := World.block_lt_of_cell? _ _ fd00
  dsimp only at lfd0
  go_wp2
  rw [rounds_succ]
  go_wp2_with fail
  refine (HS _).mono ?_
  rintro e w7 ⟨rfl, hb⟩
  replace c0 := cl hb (cl ((Below.refl _ _).alloc (Nat.le_refl _) _) c0)
  replace c1 := cl hb (cl ((Below.refl _ _).alloc (Nat.le_refl _) _) c1)
  replace c2 := cl hb (cl ((Below.refl _ _).alloc (Nat.le_refl _) _) c2)
  replace c3 := cl hb (cl ((Below.refl _ _).alloc (Nat.le_refl _) _) c3)
  replace c4 := cl hb (cl ((Below.refl _ _).alloc (Nat.le_refl _) _) c4)
  replace c5 := cl hb (cl ((Below.refl _ _).alloc (Nat.le_refl _) _) c5)
  replace c6 := cl hb (cl ((Below.refl _ _).alloc (Nat.le_refl _) _) c6)
  replace fd00 := cl hb (cl ((Below.refl _ _).alloc (Nat.le_refl _) _) fd00)
  replace fd01 := cl hb (cl ((Below.refl _ _).alloc (Nat.le_refl _) _) fd01)
  replace fd02 := cl hb (cl ((Below.refl _ _).alloc (Nat.le_refl _) _) fd02)
  have fd10 := ((Row.later (Row.new _ _ _) hb).cell 0).trans (show _ = some (Value.int .i64 d1.kind) from rfl)
  have fd11 := ((Row.later (Row.new _ _ _) hb).cell 1).trans (show _ = some (Value.int .i64 d1.side) from rfl)
  have fd12 := ((Row.later (Row.new _ _ _) hb).cell 2).trans (show _ = some (Value.int .i64 d1.step) from rfl)
  have mfd1 := hb0.size
  replace hb0 := below_step (hb0.alloc hb0.size _) hb
  clear hb
  generalize w6.heap.size = gfd1 at *
  have lc := World.block_lt_of_cell? _ _ c0
  dsimp only at lc
  have lfd0 := World.block_lt_of_cell? _ _ fd00
  dsimp only at lfd0
  have lfd1 := World.block_lt_of_cell? _ _ fd10
  dsimp only at lfd1
  go_wp2
  rw [rounds_succ]
  go_wp2
  go_ret
  exact ⟨by first | rfl | simp, (by repeat (first | exact Below.refl _ _ | assumption | (with_reducible refine Below.drew ?_) | ((with_reducible first | refine Below.setCell ?_ ?h _ | refine Below.alloc ?_ ?h _ | refine Below.trans ?_ (hb.mono ?h) | refine Below.trans ?_ (hb0.mono ?h)); case h => first | omega | (simp; done) | (simp; omega))))⟩
theorem sound_t (s : Sp) (w : World) : Calls Tryz.prog 47 #[sv s] w fun e w' => e = .returned (.bool (soundS s)) ∧ Below w.heap.size w w' := by
 unfold soundS
 by_cases h : s.n ≤ 0
 ·rw [if_neg (by omega), decide_eq_false (by omega), Bool.false_and]
  exact sound_low s h w
 cases hr : rightD s.d0 with
 | false =>
  have := sound_bad0 s (by omega) hr w
  split
  ·exact this
  ·simpa using this
 | true =>
  by_cases h1 : s.n = 1
  ·rw [if_pos h1]; exact sound_one s h1 hr w
  ·rw [if_neg h1]; exact sound_two s (by omega) hr w
end Go.Proofs.YtboinifeemghaaaGreatDoor
