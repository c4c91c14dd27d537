/- D2, KP2, D3, D4, D5, D6, D8, KR4, KR5, KR6, KR7, KR8, P0, P1, P2: what the theorem needs of these texts. No conditions beyond those that are written. -/
import Derived.Test.YtbekocknfpekoaaCJK3
set_option maxHeartbeats 8000000
namespace Go.Proofs.Ytbekocknfpekoaa
set_option linter.unusedVariables false
set_option linter.unusedSimpArgs false
open Go.RowKit
set_option maxRecDepth 100000 in
theorem ddepth_t (d : Dm) (w : World) : Calls Try.prog 55 #[dv d] w fun e w' => e = .returned (.int .i64 (depthD d)) ∧ Below w.heap.size w w' := by
  have HR := dright_t d
  have HW := width_t d.kind
  have hw := wid_range d.kind
  have hD : depthD d = if rightD d = true then (wid d.kind + d.step - 1) / d.step else 0 := rfl
  cases hr : rightD d with
  | false =>
    rw [hr] at HR hD
    rw [hD, if_neg (by simp)]
    clear hD hr
    unfold dv at *
    obtain ⟨RR0, hb0⟩ := one_row w #[.int .i64 d.kind, .int .i64 d.side, .int .i64 d.step] 23
    have c0 := (RR0.cell 0).trans (show _ = some (Value.int .i64 d.kind) from rfl)
    have c1 := (RR0.cell 1).trans (show _ = some (Value.int .i64 d.side) from rfl)
    have c2 := (RR0.cell 2).trans (show _ = some (Value.int .i64 d.step) from rfl)
    clear RR0
    go_enter Try.func55, Try.ntmps55
    go_wp2_with fail
    refine (HR _).mono ?_
    rintro e w1 ⟨rfl, hb⟩
    replace c0 := cell_later hb c0
    replace c1 := cell_later hb c1
    replace c2 := cell_later hb c2
    replace hb0 := below_step hb0 hb
    clear hb
    have lc := World.block_lt_of_cell? _ _ c0
    dsimp only at lc
    go_wp2
    go_ret
    exact ⟨rfl, hb0⟩
  | true =>
    obtain ⟨g1, g2, _, _⟩ := depth_range hr
    obtain ⟨_, s1, s2⟩ := (rightD_iff d).1 hr
    rw [hr] at HR
    rw [hr, if_pos rfl] at hD
    generalize depthD d = q at *
    obtain ⟨kd, sd, st⟩ := d
    dsimp only at *
    clear hr
    generalize wid kd = wd at *
    have t1 : IntKind.i64.wrap (wd + st) = wd + st := IntWalk.i64_in _ (by omega)
    have t2 : IntKind.i64.wrap (wd + st - 1) = wd + st - 1 := IntWalk.i64_in _ (by omega)
    have t3 : (wd + st - 1).tdiv st = q := by rw [Int.tdiv_eq_ediv_of_nonneg (by omega)]; exact hD.symm
    have t4 : IntKind.i64.wrap q = q := IntWalk.i64_in _ (by omega)
    have t5 : (st == 0) = false := by simp; omega
    have t6 : ¬ st = 0 := by omega
    clear hD s2 g1 g2 hw
    unfold dv at *
    dsimp only at *
    obtain ⟨RR0, hb0⟩ := one_row w #[.int .i64 kd, .int .i64 sd, .int .i64 st] 23
    have c0 := (RR0.cell 0).trans (show _ = some (Value.int .i64 kd) from rfl)
    have c1 := (RR0.cell 1).trans (show _ = some (Value.int .i64 sd) from rfl)
    have c2 := (RR0.cell 2).trans (show _ = some (Value.int .i64 st) from rfl)
    clear RR0
    go_enter Try.func55, Try.ntmps55
    go_wp2_with fail
    refine (HR _).mono ?_
    rintro e w2 ⟨rfl, hb⟩
    replace c0 := cell_later hb c0
    replace c1 := cell_later hb c1
    replace c2 := cell_later hb c2
    replace hb0 := below_step hb0 hb
    clear hb
    have lc := World.block_lt_of_cell? _ _ c0
    dsimp only at lc
    go_wp2_with fail
    refine wp_region_held_drew (S := (fun w' => w'.cell? ⟨w.heap.size, 0, none⟩ = some (.int .i64 kd) ∧ w'.cell? ⟨w.heap.size, 1, none⟩ = some (.int .i64 sd) ∧ w'.cell? ⟨w.heap.size, 2, none⟩ = some (.int .i64 st) ∧ Below w.heap.size w w')) (by kernel_rfl) ?hSr18_ (fun hHeld => ?_)
    case hSr18_ => (first | exact ⟨c0, c1, c2, hb0.drew⟩ | exact ⟨c0, c1, c2, hb0⟩ | (obtain ⟨c0, c1, c2, hb0⟩ := hHeld; exact ⟨cell_later hb c0, cell_later hb c1, cell_later hb c2, below_step hb0 hb⟩))
    refine tk 0 ⟨some 6, .fieldAddr 23 (.tmp 1) 0, 0, _, _, _⟩ hHeld ?_
    (try simp only [Act.put, nz1, nz2, nz3])
    refine tk 1 ⟨some 7, .load 3 (.tmp 6), 3, _, _, _⟩ hHeld ?_
    (try simp only [Act.put, nz1, nz2, nz3])
    refine tk 3 ⟨some 9, .fieldAddr 23 (.tmp 1) 2, 0, _, _, _⟩ hHeld ?_
    (try simp only [Act.put, nz1, nz2, nz3])
    refine tk 4 ⟨some 10, .load 3 (.tmp 9), 3, _, _, _⟩ hHeld ?_
    (try simp only [Act.put, nz1, nz2, nz3])
    refine tk 7 ⟨some 13, .fieldAddr 23 (.tmp 1) 2, 0, _, _, _⟩ hHeld ?_
    (try simp only [Act.put, nz1, nz2, nz3])
    refine tk 8 ⟨some 14, .load 3 (.tmp 13), 3, _, _, _⟩ hHeld ?_
    (try simp only [Act.put, nz1, nz2, nz3])
    refine wpAnyH_ready (rs := [2]) (by kernel_rfl) (by simp) ?_
    refine AllReadyH.cons (o := ⟨some 8, .call { callee := .value (.func 76), args := #[.tmp 7], argTypes := #[3] }, 3, _, _, _⟩) rfl (fun K hK => ?_) AllReadyH.nil
    (go_simp; (refine (HW _).mono ?_); (rintro e wn ⟨rfl, hb⟩); go_wp2_with fail)
    refine hK.out _ _ ?hSr18_7_2 (fun hHeld2 => ?_)
    case hSr18_7_2 => (first | exact ⟨c0, c1, c2, hb0.drew⟩ | exact ⟨c0, c1, c2, hb0⟩ | (obtain ⟨c0, c1, c2, hb0⟩ := hHeld; exact ⟨cell_later hb c0, cell_later hb c1, cell_later hb c2, below_step hb0 hb⟩))
    clear hK K hHeld
    have hHeld := hHeld2
    clear hHeld2
    (try simp only [Act.put, nz1, nz2, nz3])
    refine tk 5 ⟨some 11, .binOp .add 3 (.tmp 8) (.tmp 10) 3, 3, _, _, _⟩ hHeld ?_
    (try simp only [Act.put, nz1, nz2, nz3])
    refine tk 6 ⟨some 12, .binOp .sub 3 (.tmp 11) (.const (.int .i64 1)) 3, 3, _, _, _⟩ hHeld ?_
    (try simp only [Act.put, nz1, nz2, nz3])
    refine tk 9 ⟨some 15, .binOp .quo 3 (.tmp 12) (.tmp 14) 3, 3, _, _, _⟩ hHeld ?_
    (try simp only [Act.put, nz1, nz2, nz3])
    refine tk 10 ⟨some 2, .assign (.tmp 15), 3, _, _, _⟩ hHeld ?_
    (try simp only [Act.put, nz1, nz2, nz3])
    refine wpAnyH_done (by kernel_rfl) ?_ _
    clear c0 c1 c2 hb0
    obtain ⟨c0, c1, c2, hb0⟩ := hHeld
    go_wp2
    go_ret
    exact ⟨rfl, hb0⟩
set_option maxRecDepth 100000 in
theorem dlen_t (d : Dm) (l : Int) (w : World) : Calls Try.prog 86 #[dv d, .int .i64 l] w fun e w' => e = .returned (.int .i64 (lenD d l)) ∧ Below w.heap.size w w' := by
  have HR := dright_t d
  have HE := ddepth_t d
  have HW := width_t d.kind
  have hw := wid_range d.kind
  have hD : lenD d l = if rightD d = true ∧ 0 ≤ l ∧ l ≤ depthD d then max (wid d.kind - l * d.step) 0 else -1 := rfl
  cases hr : rightD d with
  | false =>
    rw [hr] at HR hD
    rw [hD, if_neg (by simp)]
    clear hD hr HE HW
    unfold dv at *
    obtain ⟨RR0, hb0⟩ := one_row w #[.int .i64 d.kind, .int .i64 d.side, .int .i64 d.step] 23
    have c0 := (RR0.cell 0).trans (show _ = some (Value.int .i64 d.kind) from rfl)
    have c1 := (RR0.cell 1).trans (show _ = some (Value.int .i64 d.side) from rfl)
    have c2 := (RR0.cell 2).trans (show _ = some (Value.int .i64 d.step) from rfl)
    clear RR0
    go_enter Try.func86, Try.ntmps86
    go_wp2_with fail
    refine (HR _).mono ?_
    rintro e w3 ⟨rfl, hb⟩
    replace c0 := cell_later hb c0
    replace c1 := cell_later hb c1
    replace c2 := cell_later hb c2
    replace hb0 := below_step hb0 hb
    clear hb
    have lc := World.block_lt_of_cell? _ _ c0
    dsimp only at lc
    go_wp2
    go_ret
    exact ⟨rfl, hb0⟩
  | true =>
    obtain ⟨g1, g2, _, _⟩ := depth_range hr
    obtain ⟨_, s1, s2⟩ := (rightD_iff d).1 hr
    rw [hr] at HR hD
    generalize depthD d = q at *
    obtain ⟨kd, sd, st⟩ := d
    dsimp only at *
    clear hr
    generalize wid kd = wd at *
    unfold dv at *
    dsimp only at *
    obtain ⟨RR0, hb0⟩ := one_row w #[.int .i64 kd, .int .i64 sd, .int .i64 st] 23
    have c0 := (RR0.cell 0).trans (show _ = some (Value.int .i64 kd) from rfl)
    have c1 := (RR0.cell 1).trans (show _ = some (Value.int .i64 sd) from rfl)
    have c2 := (RR0.cell 2).trans (show _ = some (Value.int .i64 st) from rfl)
    clear RR0
    by_cases l0 : l < 0
    · rw [hD, if_neg (by omega)]
      clear hD HE HW
      go_enter Try.func86, Try.ntmps86
      go_wp2_with fail
      refine (HR _).mono ?_
      rintro e w4 ⟨rfl, hb⟩
      replace c0 := cell_later hb c0
      replace c1 := cell_later hb c1
      replace c2 := cell_later hb c2
      replace hb0 := below_step hb0 hb
      clear hb
      have lc := World.block_lt_of_cell? _ _ c0
      dsimp only at lc
      go_wp2
      go_ret
      exact ⟨rfl, hb0⟩
    · by_cases l1 : q < l
      · rw [hD, if_neg (by omega)]
        clear hD HW
        go_enter Try.func86, Try.ntmps86
        go_wp2_with fail
        refine (HR _).mono ?_
        rintro e w5 ⟨rfl, hb⟩
        replace c0 := cell_later hb c0
        replace c1 := cell_later hb c1
        replace c2 := cell_later hb c2
        replace hb0 := below_step hb0 hb
        clear hb
        have lc := World.block_lt_of_cell? _ _ c0
        dsimp only at lc
        go_wp2_with fail
        refine (HE _).mono ?_
        rintro e w6 ⟨rfl, hb⟩
        replace c0 := cell_later hb c0
        replace c1 := cell_later hb c1
        replace c2 := cell_later hb c2
        replace hb0 := below_step hb0 hb
        clear hb
        have lc := World.block_lt_of_cell? _ _ c0
        dsimp only at lc
        go_wp2
        go_ret
        exact ⟨rfl, hb0⟩
      · rw [if_pos ⟨rfl, by omega, by omega⟩] at hD
        rw [hD]
        have m0 : 0 ≤ l * st := Int.mul_nonneg (by omega) (by omega)
        have m1 : l * st ≤ 128 * 128 := Int.mul_le_mul (by omega) (by omega) (by omega) (by omega)
        have t1 : IntKind.i64.wrap (l * st) = l * st := IntWalk.i64_in _ (by omega)
        have t2 : IntKind.i64.wrap (wd - l * st) = wd - l * st := IntWalk.i64_in _ (by omega)
        obtain ⟨mx, hmx⟩ : ∃ mx, max (wd - l * st) 0 = mx := ⟨_, rfl⟩
        rw [hmx]
        have HM := Lib.hid hmx
        clear hD hmx m0 m1
        go_enter Try.func86, Try.ntmps86
        go_wp2_with fail
        refine (HR _).mono ?_
        rintro e w7 ⟨rfl, hb⟩
        replace c0 := cell_later hb c0
        replace c1 := cell_later hb c1
        replace c2 := cell_later hb c2
        replace hb0 := below_step hb0 hb
        clear hb
        have lc := World.block_lt_of_cell? _ _ c0
        dsimp only at lc
        go_wp2_with fail
        refine (HE _).mono ?_
        rintro e w8 ⟨rfl, hb⟩
        replace c0 := cell_later hb c0
        replace c1 := cell_later hb c1
        replace c2 := cell_later hb c2
        replace hb0 := below_step hb0 hb
        clear hb
        have lc := World.block_lt_of_cell? _ _ c0
        dsimp only at lc
        go_wp2_with fail
        refine wp_region_held_drew (S := (fun w' => w'.cell? ⟨w.heap.size, 0, none⟩ = some (.int .i64 kd) ∧ w'.cell? ⟨w.heap.size, 1, none⟩ = some (.int .i64 sd) ∧ w'.cell? ⟨w.heap.size, 2, none⟩ = some (.int .i64 st) ∧ Below w.heap.size w w')) (by kernel_rfl) ?hSr19_ (fun hHeld => ?_)
        case hSr19_ => (first | exact ⟨c0, c1, c2, hb0.drew⟩ | exact ⟨c0, c1, c2, hb0⟩ | (obtain ⟨c0, c1, c2, hb0⟩ := hHeld; exact ⟨cell_later hb c0, cell_later hb c1, cell_later hb c2, below_step hb0 hb⟩))
        refine tk 0 ⟨some 18, .fieldAddr 23 (.tmp 2) 0, 0, _, _, _⟩ hHeld ?_
        (try simp only [Act.put, nz1, nz2, nz3])
        refine tk 1 ⟨some 19, .load 3 (.tmp 18), 3, _, _, _⟩ hHeld ?_
        (try simp only [Act.put, nz1, nz2, nz3])
        refine tk 3 ⟨some 21, .move (.tmp 1), 3, _, _, _⟩ hHeld ?_
        (try simp only [Act.put, nz1, nz2, nz3])
        refine tk 4 ⟨some 22, .fieldAddr 23 (.tmp 2) 2, 0, _, _, _⟩ hHeld ?_
        (try simp only [Act.put, nz1, nz2, nz3])
        refine tk 5 ⟨some 23, .load 3 (.tmp 22), 3, _, _, _⟩ hHeld ?_
        (try simp only [Act.put, nz1, nz2, nz3])
        refine tk 6 ⟨some 24, .binOp .mul 3 (.tmp 21) (.tmp 23) 3, 3, _, _, _⟩ hHeld ?_
        (try simp only [Act.put, nz1, nz2, nz3])
        refine wpAnyH_ready (rs := [2]) (by kernel_rfl) (by simp) ?_
        refine AllReadyH.cons (o := ⟨some 20, .call { callee := .value (.func 76), args := #[.tmp 19], argTypes := #[3] }, 3, _, _, _⟩) rfl (fun K hK => ?_) AllReadyH.nil
        (go_simp; (refine (HW _).mono ?_); (rintro e wn ⟨rfl, hb⟩); go_wp2_with fail)
        refine hK.out _ _ ?hSr19_7_2 (fun hHeld2 => ?_)
        case hSr19_7_2 => (first | exact ⟨c0, c1, c2, hb0.drew⟩ | exact ⟨c0, c1, c2, hb0⟩ | (obtain ⟨c0, c1, c2, hb0⟩ := hHeld; exact ⟨cell_later hb c0, cell_later hb c1, cell_later hb c2, below_step hb0 hb⟩))
        clear hK K hHeld
        have hHeld := hHeld2
        clear hHeld2
        (try simp only [Act.put, nz1, nz2, nz3])
        refine tk 7 ⟨some 25, .binOp .sub 3 (.tmp 20) (.tmp 24) 3, 3, _, _, _⟩ hHeld ?_
        (try simp only [Act.put, nz1, nz2, nz3])
        refine tk 8 ⟨some 26, .call { callee := .builtin .max, args := #[.tmp 25, .const (.int .i64 0)], argTypes := #[3, 3] }, 3, _, _, _⟩ hHeld ?_ (v := ?vr19_9_8) (hy := ?yr19_9_8)
        case yr19_9_8 => (intro w hSw; (try dsimp only at hSw); go_simp; rw [HM.out])
        (try simp only [Act.put, nz1, nz2, nz3])
        refine tk 9 ⟨some 4, .assign (.tmp 26), 3, _, _, _⟩ hHeld ?_
        (try simp only [Act.put, nz1, nz2, nz3])
        refine wpAnyH_done (by kernel_rfl) ?_ _
        clear c0 c1 c2 hb0
        obtain ⟨c0, c1, c2, hb0⟩ := hHeld
        go_wp2
        go_ret
        exact ⟨rfl, hb0⟩
end Go.Proofs.Ytbekocknfpekoaa
namespace Go.Proofs.Ytbekocknfpekoaa
set_option linter.unusedVariables false
set_option linter.unusedSimpArgs false
open Go.RowKit
theorem cut_bad {k : Ke} (h : rightK k = false) (n : Int) : cutK k n = kz := by unfold cutK; rw [h]; rfl
theorem kz_ok : kz.ok := ⟨by unfold Word kz; decide, by unfold Word kz; decide, by unfold kz; decide, by unfold kz; decide, by unfold kz; decide, by unfold kz; decide, by unfold kz; decide⟩
theorem top_ok {k : Ke} (ok : k.ok) (n : Int) (n0 : -9223372036854775808 ≤ n) (n1 : n ≤ 9223372036854775807) : (topK k n).ok := by
  unfold topK
  split
  · exact ⟨by unfold Word; dsimp only; decide, by unfold Word; dsimp only; decide, by dsimp only; decide, by dsimp only; decide, n0, n1, top_len _ _⟩
  · exact ⟨word_hi _, word_lo _, ok.k0, ok.k1, n0, n1, by dsimp only; simp⟩
theorem cut_ok {k : Ke} (ok : k.ok) (n : Int) (n1 : n ≤ 9223372036854775807) : (cutK k n).ok := by
  unfold cutK
  split
  · split
    · exact ok
    · exact top_ok ok _ (by omega) (by omega)
  · exact kz_ok
end Go.Proofs.Ytbekocknfpekoaa
namespace Go.Proofs.Ytbekocknfpekoaa
set_option linter.unusedVariables false
set_option linter.unusedSimpArgs false
open Go.RowKit
def onD (d : Dm) (l : Int) (k : Ke) : Bool := !decide (lenD d l = -1) && (decide (k.kind = d.kind) && (rightK k && (decide (k.len = lenD d l) || (decide (d.kind = 3) && decide (k.len < lenD d l)))))
def cutD (d : Dm) (l : Int) (k : Ke) : Ke := if lenD d l = -1 ∨ ¬ k.kind = d.kind then kz else cutK k (lenD d l)
theorem lenD_range (d : Dm) (l : Int) : -1 ≤ lenD d l ∧ lenD d l ≤ 128 := by
  unfold lenD
  have hw := wid_range d.kind
  split
  · rename_i h
    obtain ⟨_, s1, s2⟩ := (rightD_iff d).1 h.1
    have : 0 ≤ l * d.step := Int.mul_nonneg h.2.1 (by omega)
    omega
  · omega
set_option maxRecDepth 100000 in
theorem don_t (d : Dm) (l : Int) (k : Ke) (ok : k.ok) (w : World) : Calls Try.prog 78 #[dv d, .int .i64 l, kv k] w fun e w' => e = .returned (.bool (onD d l k)) ∧ Below w.heap.size w w' := by
  have HL := dlen_t d l
  have HR := kright_t k ok
  have hd : onD d l k = (!decide (lenD d l = -1) && (decide (k.kind = d.kind) && (rightK k && (decide (k.len = lenD d l) || (decide (d.kind = 3) && decide (k.len < lenD d l)))))) := rfl
  clear ok
  generalize onD d l k = r at *
  generalize lenD d l = n at *
  generalize rightK k = rk at *
  obtain ⟨dk, sd, st⟩ := d
  dsimp only at *
  unfold dv kv at *
  dsimp only at *
  obtain ⟨RR0, RR1, hb0⟩ := two_rows w #[.int .i64 dk, .int .i64 sd, .int .i64 st] #[.int .i64 k.kind, .int .i64 k.len, .int .u64 k.h, .int .u64 k.l, .string ⟨k.path.toArray⟩] 23 30
  have c0 := (RR0.cell 0).trans (show _ = some (Value.int .i64 dk) from rfl)
  have c1 := (RR0.cell 1).trans (show _ = some (Value.int .i64 sd) from rfl)
  have c2 := (RR0.cell 2).trans (show _ = some (Value.int .i64 st) from rfl)
  have e0 := (RR1.cell 0).trans (show _ = some (Value.int .i64 k.kind) from rfl)
  have e1 := (RR1.cell 1).trans (show _ = some (Value.int .i64 k.len) from rfl)
  have e2 := (RR1.cell 2).trans (show _ = some (Value.int .u64 k.h) from rfl)
  have e3 := (RR1.cell 3).trans (show _ = some (Value.int .u64 k.l) from rfl)
  have e4 := (RR1.cell 4).trans (show _ = some (Value.string ⟨k.path.toArray⟩) from rfl)
  clear RR0 RR1
  by_cases h1 : n = -1
  · have e : r = false := by rw [hd]; simp [h1]
    subst h1 e
    clear hd HR
    go_enter Try.func78, Try.ntmps78
    go_wp2_with fail
    refine (HL _).mono ?_
    rintro e w1 ⟨rfl, hb⟩
    replace c0 := cell_later hb c0
    replace c1 := cell_later hb c1
    replace c2 := cell_later hb c2
    replace e0 := cell_later hb e0
    replace e1 := cell_later hb e1
    replace e2 := cell_later hb e2
    replace e3 := cell_later hb e3
    replace e4 := cell_later hb e4
    replace hb0 := below_step hb0 hb
    clear hb
    have lc := World.block_lt_of_cell? _ _ c0
    dsimp only at lc
    have le := World.block_lt_of_cell? _ _ e0
    dsimp only at le
    go_wp2
    go_ret
    exact ⟨rfl, hb0⟩
  have h1' : (n == -1) = false := by simpa using h1
  by_cases h2 : k.kind = dk
  · subst h2
    cases rk with
    | false =>
      have e : r = false := by rw [hd]; simp
      subst e
      clear hd
      go_enter Try.func78, Try.ntmps78
      go_wp2_with fail
      refine (HL _).mono ?_
      rintro e w2 ⟨rfl, hb⟩
      replace c0 := cell_later hb c0
      replace c1 := cell_later hb c1
      replace c2 := cell_later hb c2
      replace e0 := cell_later hb e0
      replace e1 := cell_later hb e1
      replace e2 := cell_later hb e2
      replace e3 := cell_later hb e3
      replace e4 := cell_later hb e4
      replace hb0 := below_step hb0 hb
      clear hb
      have lc := World.block_lt_of_cell? _ _ c0
      dsimp only at lc
      have le := World.block_lt_of_cell? _ _ e0
      dsimp only at le
      go_wp2_with fail
      refine (HR _).mono ?_
      rintro e w3 ⟨rfl, hb⟩
      replace c0 := cell_later hb c0
      replace c1 := cell_later hb c1
      replace c2 := cell_later hb c2
      replace e0 := cell_later hb e0
      replace e1 := cell_later hb e1
      replace e2 := cell_later hb e2
      replace e3 := cell_later hb e3
      replace e4 := cell_later hb e4
      replace hb0 := below_step hb0 hb
      clear hb
      have lc := World.block_lt_of_cell? _ _ c0
      dsimp only at lc
      have le := World.block_lt_of_cell? _ _ e0
      dsimp only at le
      go_wp2
      go_ret
      exact ⟨rfl, hb0⟩
    | true =>
      have hd2 : r = (decide (k.len = n) || (decide (k.kind = 3) && decide (k.len < n))) := by rw [hd]; simp [h1]
      clear hd
      by_cases h3 : k.len = n
      · have h3' : (k.len == n) = true := by simpa using h3
        have e : r = true := by rw [hd2]; simp [h3]
        subst e
        clear hd2 h3
        go_enter Try.func78, Try.ntmps78
        go_wp2_with fail
        refine (HL _).mono ?_
        rintro e w4 ⟨rfl, hb⟩
        replace c0 := cell_later hb c0
        replace c1 := cell_later hb c1
        replace c2 := cell_later hb c2
        replace e0 := cell_later hb e0
        replace e1 := cell_later hb e1
        replace e2 := cell_later hb e2
        replace e3 := cell_later hb e3
        replace e4 := cell_later hb e4
        replace hb0 := below_step hb0 hb
        clear hb
        have lc := World.block_lt_of_cell? _ _ c0
        dsimp only at lc
        have le := World.block_lt_of_cell? _ _ e0
        dsimp only at le
        go_wp2_with fail
        refine (HR _).mono ?_
        rintro e w5 ⟨rfl, hb⟩
        replace c0 := cell_later hb c0
        replace c1 := cell_later hb c1
        replace c2 := cell_later hb c2
        replace e0 := cell_later hb e0
        replace e1 := cell_later hb e1
        replace e2 := cell_later hb e2
        replace e3 := cell_later hb e3
        replace e4 := cell_later hb e4
        replace hb0 := below_step hb0 hb
        clear hb
        have lc := World.block_lt_of_cell? _ _ c0
        dsimp only at lc
        have le := World.block_lt_of_cell? _ _ e0
        dsimp only at le
        go_wp2
        go_ret
        exact ⟨rfl, hb0⟩
      · have h3' : (k.len == n) = false := by simpa using h3
        by_cases h4 : k.kind = 3
        · obtain ⟨kk, kn, kh, kl, kp⟩ := k
          dsimp only at *
          subst h4
          by_cases h5 : kn < n
          · have e : r = true := by rw [hd2]; simp [h5]
            subst e
            clear hd2
            go_enter Try.func78, Try.ntmps78
            go_wp2_with fail
            refine (HL _).mono ?_
            rintro e w6 ⟨rfl, hb⟩
            replace c0 := cell_later hb c0
            replace c1 := cell_later hb c1
            replace c2 := cell_later hb c2
            replace e0 := cell_later hb e0
            replace e1 := cell_later hb e1
            replace e2 := cell_later hb e2
            replace e3 := cell_later hb e3
            replace e4 := cell_later hb e4
            replace hb0 := below_step hb0 hb
            clear hb
            have lc := World.block_lt_of_cell? _ _ c0
            dsimp only at lc
            have le := World.block_lt_of_cell? _ _ e0
            dsimp only at le
            go_wp2_with fail
            refine (HR _).mono ?_
            rintro e w7 ⟨rfl, hb⟩
            replace c0 := cell_later hb c0
            replace c1 := cell_later hb c1
            replace c2 := cell_later hb c2
            replace e0 := cell_later hb e0
            replace e1 := cell_later hb e1
            replace e2 := cell_later hb e2
            replace e3 := cell_later hb e3
            replace e4 := cell_later hb e4
            replace hb0 := below_step hb0 hb
            clear hb
            have lc := World.block_lt_of_cell? _ _ c0
            dsimp only at lc
            have le := World.block_lt_of_cell? _ _ e0
            dsimp only at le
            go_wp2
            go_ret
            exact ⟨rfl, hb0⟩
          · have h5' : decide (kn < n) = false := decide_eq_false h5
            have e : r = false := by rw [hd2]; simp [h3, h5]
            subst e
            clear hd2
            go_enter Try.func78, Try.ntmps78
            go_wp2_with fail
            refine (HL _).mono ?_
            rintro e w8 ⟨rfl, hb⟩
            replace c0 := cell_later hb c0
            replace c1 := cell_later hb c1
            replace c2 := cell_later hb c2
            replace e0 := cell_later hb e0
            replace e1 := cell_later hb e1
            replace e2 := cell_later hb e2
            replace e3 := cell_later hb e3
            replace e4 := cell_later hb e4
            replace hb0 := below_step hb0 hb
            clear hb
            have lc := World.block_lt_of_cell? _ _ c0
            dsimp only at lc
            have le := World.block_lt_of_cell? _ _ e0
            dsimp only at le
            go_wp2_with fail
            refine (HR _).mono ?_
            rintro e w9 ⟨rfl, hb⟩
            replace c0 := cell_later hb c0
            replace c1 := cell_later hb c1
            replace c2 := cell_later hb c2
            replace e0 := cell_later hb e0
            replace e1 := cell_later hb e1
            replace e2 := cell_later hb e2
            replace e3 := cell_later hb e3
            replace e4 := cell_later hb e4
            replace hb0 := below_step hb0 hb
            clear hb
            have lc := World.block_lt_of_cell? _ _ c0
            dsimp only at lc
            have le := World.block_lt_of_cell? _ _ e0
            dsimp only at le
            go_wp2
            go_ret
            exact ⟨rfl, hb0⟩
        · skip
          have h4' : (k.kind == 3) = false := by simpa using h4
          have e : r = false := by rw [hd2]; simp [h3, h4]
          subst e
          clear hd2
          go_enter Try.func78, Try.ntmps78
          go_wp2_with fail
          refine (HL _).mono ?_
          rintro e w10 ⟨rfl, hb⟩
          replace c0 := cell_later hb c0
          replace c1 := cell_later hb c1
          replace c2 := cell_later hb c2
          replace e0 := cell_later hb e0
          replace e1 := cell_later hb e1
          replace e2 := cell_later hb e2
          replace e3 := cell_later hb e3
          replace e4 := cell_later hb e4
          replace hb0 := below_step hb0 hb
          clear hb
          have lc := World.block_lt_of_cell? _ _ c0
          dsimp only at lc
          have le := World.block_lt_of_cell? _ _ e0
          dsimp only at le
          go_wp2_with fail
          refine (HR _).mono ?_
          rintro e w11 ⟨rfl, hb⟩
          replace c0 := cell_later hb c0
          replace c1 := cell_later hb c1
          replace c2 := cell_later hb c2
          replace e0 := cell_later hb e0
          replace e1 := cell_later hb e1
          replace e2 := cell_later hb e2
          replace e3 := cell_later hb e3
          replace e4 := cell_later hb e4
          replace hb0 := below_step hb0 hb
          clear hb
          have lc := World.block_lt_of_cell? _ _ c0
          dsimp only at lc
          have le := World.block_lt_of_cell? _ _ e0
          dsimp only at le
          go_wp2
          go_ret
          exact ⟨rfl, hb0⟩
  · skip
    have h2' : (k.kind == dk) = false := by simpa using h2
    have e : r = false := by rw [hd]; simp [h2]
    subst e
    clear hd HR
    go_enter Try.func78, Try.ntmps78
    go_wp2_with fail
    refine (HL _).mono ?_
    rintro e w12 ⟨rfl, hb⟩
    replace c0 := cell_later hb c0
    replace c1 := cell_later hb c1
    replace c2 := cell_later hb c2
    replace e0 := cell_later hb e0
    replace e1 := cell_later hb e1
    replace e2 := cell_later hb e2
    replace e3 := cell_later hb e3
    replace e4 := cell_later hb e4
    replace hb0 := below_step hb0 hb
    clear hb
    have lc := World.block_lt_of_cell? _ _ c0
    dsimp only at lc
    have le := World.block_lt_of_cell? _ _ e0
    dsimp only at le
    go_wp2
    go_ret
    exact ⟨rfl, hb0⟩
end Go.Proofs.Ytbekocknfpekoaa
namespace Go.Proofs.Ytbekocknfpekoaa
set_option linter.unusedVariables false
set_option linter.unusedSimpArgs false
open Go.RowKit
set_option maxRecDepth 100000 in
theorem dcut_t (d : Dm) (l : Int) (k : Ke) (ok : k.ok) (w : World) : Calls Try.prog 61 #[dv d, .int .i64 l, kv k] w fun e w' => e = .returned (kv (cutD d l k)) ∧ Below w.heap.size w w' := by
  have HL := dlen_t d l
  have hn := lenD_range d l
  have HC := kcut_t k ok (lenD d l) (by omega)
  have hd : cutD d l k = if lenD d l = -1 ∨ ¬ k.kind = d.kind then kz else cutK k (lenD d l) := rfl
  clear ok
  generalize cutK k (lenD d l) = t at *
  generalize cutD d l k = r at *
  generalize lenD d l = n at *
  obtain ⟨dk, sd, st⟩ := d
  dsimp only at *
  unfold dv at *
  dsimp only at *
  obtain ⟨R0, R1, R2, hb0⟩ := three_rows w #[.int .i64 dk, .int .i64 sd, .int .i64 st] #[.int .i64 k.kind, .int .i64 k.len, .int .u64 k.h, .int .u64 k.l, .string ⟨k.path.toArray⟩] #[.int .i64 0, .int .i64 0, .int .u64 0, .int .u64 0, .string ⟨#[]⟩] 23 30 30
  have c0 := (R0.cell 0).trans (show _ = some (Value.int .i64 dk) from rfl)
  have c1 := (R0.cell 1).trans (show _ = some (Value.int .i64 sd) from rfl)
  have c2 := (R0.cell 2).trans (show _ = some (Value.int .i64 st) from rfl)
  clear R0
  by_cases h1 : n = -1
  · subst h1
    rw [if_pos (.inl rfl)] at hd
    subst hd
    clear HC R1
    unfold kv kz
    dsimp only
    go_enter Try.func61, Try.ntmps61
    go_wp2_with fail
    refine (HL _).mono ?_
    rintro e w1 ⟨rfl, hb⟩
    replace R2 := R2.later hb
    replace hb0 := below_step hb0 hb
    clear hb c0 c1 c2
    have z0 := ((R2).cell 0).trans (show _ = some (Value.int .i64 0) from rfl)
    have zf0 := (R2).frozen 0
    have z1 := ((R2).cell 1).trans (show _ = some (Value.int .i64 0) from rfl)
    have zf1 := (R2).frozen 1
    have z2 := ((R2).cell 2).trans (show _ = some (Value.int .u64 0) from rfl)
    have zf2 := (R2).frozen 2
    have z3 := ((R2).cell 3).trans (show _ = some (Value.int .u64 0) from rfl)
    have zf3 := (R2).frozen 3
    have z4 := ((R2).cell 4).trans (show _ = some (Value.string ⟨#[]⟩) from rfl)
    have zf4 := (R2).frozen 4
    clear R2
    go_wp2
    refine bodyPost_ret (v := .agg #[.int .i64 0, .int .i64 0, .int .u64 0, .int .u64 0, .string ⟨#[]⟩]) (by simp [results, Try.results61, go_sem, z0, z1, z2, z3, z4]) rfl ⟨rfl, bset5 hb0 (by omega) _ _ _ _ _⟩
  have h1' : (n == -1) = false := by simpa using h1
  by_cases h2 : k.kind = dk
  · rw [if_neg (by simp [h1, h2])] at hd
    subst hd
    obtain ⟨kk, kn, kh, kl, kp⟩ := k
    dsimp only at *
    subst h2
    obtain ⟨t0, t1, t2, t3, t4⟩ := r
    unfold kv at *
    dsimp only at *
    go_enter Try.func61, Try.ntmps61
    go_wp2_with fail
    refine (HL _).mono ?_
    rintro e w1 ⟨rfl, hb⟩
    replace c0 := cell_later hb c0
    replace R1 := R1.later hb
    replace R2 := R2.later hb
    replace hb0 := below_step hb0 hb
    clear hb c1 c2 HL
    have d0 := ((R1).cell 0).trans (show _ = some (Value.int .i64 kk) from rfl)
    have df0 := (R1).frozen 0
    have d1 := ((R1).cell 1).trans (show _ = some (Value.int .i64 kn) from rfl)
    have df1 := (R1).frozen 1
    have d2 := ((R1).cell 2).trans (show _ = some (Value.int .u64 kh) from rfl)
    have df2 := (R1).frozen 2
    have d3 := ((R1).cell 3).trans (show _ = some (Value.int .u64 kl) from rfl)
    have df3 := (R1).frozen 3
    have d4 := ((R1).cell 4).trans (show _ = some (Value.string ⟨kp.toArray⟩) from rfl)
    have df4 := (R1).frozen 4
    clear R1
    go_wp2_with fail
    refine (HC _).mono ?_
    rintro e w2 ⟨rfl, hb⟩
    replace R2 := R2.later hb
    replace hb0 := below_step hb0 hb
    clear hb c0 d0 d1 d2 d3 d4 df0 df1 df2 df3 df4 HC
    have z0 := ((R2).cell 0).trans (show _ = some (Value.int .i64 0) from rfl)
    have zf0 := (R2).frozen 0
    have z1 := ((R2).cell 1).trans (show _ = some (Value.int .i64 0) from rfl)
    have zf1 := (R2).frozen 1
    have z2 := ((R2).cell 2).trans (show _ = some (Value.int .u64 0) from rfl)
    have zf2 := (R2).frozen 2
    have z3 := ((R2).cell 3).trans (show _ = some (Value.int .u64 0) from rfl)
    have zf3 := (R2).frozen 3
    have z4 := ((R2).cell 4).trans (show _ = some (Value.string ⟨#[]⟩) from rfl)
    have zf4 := (R2).frozen 4
    clear R2
    go_wp2
    refine bodyPost_ret (v := .agg #[.int .i64 t0, .int .i64 t1, .int .u64 t2, .int .u64 t3, .string ⟨t4.toArray⟩]) (by simp [results, Try.results61, go_sem, z0, z1, z2, z3, z4]) rfl ⟨rfl, bset5 hb0 (by omega) _ _ _ _ _⟩
  · rw [if_pos (.inr h2)] at hd
    subst hd
    have h2' : (k.kind == dk) = false := by simpa using h2
    clear HC
    unfold kv kz
    dsimp only
    go_enter Try.func61, Try.ntmps61
    go_wp2_with fail
    refine (HL _).mono ?_
    rintro e w1 ⟨rfl, hb⟩
    replace c0 := cell_later hb c0
    have d0 := ((R1.later hb).cell 0).trans (show _ = some (Value.int .i64 k.kind) from rfl)
    replace R2 := R2.later hb
    replace hb0 := below_step hb0 hb
    clear hb c1 c2 R1 HL
    have z0 := ((R2).cell 0).trans (show _ = some (Value.int .i64 0) from rfl)
    have zf0 := (R2).frozen 0
    have z1 := ((R2).cell 1).trans (show _ = some (Value.int .i64 0) from rfl)
    have zf1 := (R2).frozen 1
    have z2 := ((R2).cell 2).trans (show _ = some (Value.int .u64 0) from rfl)
    have zf2 := (R2).frozen 2
    have z3 := ((R2).cell 3).trans (show _ = some (Value.int .u64 0) from rfl)
    have zf3 := (R2).frozen 3
    have z4 := ((R2).cell 4).trans (show _ = some (Value.string ⟨#[]⟩) from rfl)
    have zf4 := (R2).frozen 4
    clear R2
    go_wp2
    refine bodyPost_ret (v := .agg #[.int .i64 0, .int .i64 0, .int .u64 0, .int .u64 0, .string ⟨#[]⟩]) (by simp [results, Try.results61, go_sem, z0, z1, z2, z3, z4]) rfl ⟨rfl, bset5 hb0 (by omega) _ _ _ _ _⟩
end Go.Proofs.Ytbekocknfpekoaa
namespace Go.Proofs.Ytbekocknfpekoaa
set_option linter.unusedVariables false
set_option linter.unusedSimpArgs false
open Go.RowKit
attribute [local go_sem] Oper.semAt_some
def cntD (d : Dm) : Nat := if rightD d = true then (depthD d).toNat + 1 else 0
theorem cntD_ok {d : Dm} (h : rightD d = true) : (cntD d : Int) = depthD d + 1 := by
  unfold cntD
  rw [if_pos h]
  have := (depth_range h).1
  omega
theorem cntD_bad {d : Dm} (h : rightD d = false) : cntD d = 0 := by unfold cntD; rw [h]; rfl
def levF (d : Dm) (k : Nat) : Array Value := #[.int .i64 k, .int .i64 (lenD d k)]
end Go.Proofs.Ytbekocknfpekoaa
namespace Go.Proofs.Ytbekocknfpekoaa
set_option linter.unusedVariables false
set_option linter.unusedSimpArgs false
open Go.RowKit
attribute [local go_sem] Oper.semAt_some
def levelD (d : Dm) (n : Int) : Int := match (List.range (cntD d)).find? (fun i : Nat => decide (lenD d i = n)) with
  | some i => (i : Int)
  | none => -1
end Go.Proofs.Ytbekocknfpekoaa
namespace Go.Proofs.Ytbekocknfpekoaa
set_option linter.unusedVariables false
set_option linter.unusedSimpArgs false
open Go.RowKit
theorem lenD_yes {d : Dm} {l : Int} (h : rightD d = true) (h0 : 0 ≤ l) (h1 : l ≤ depthD d) : lenD d l = max (wid d.kind - l * d.step) 0 := by
  unfold lenD; rw [if_pos ⟨h, h0, h1⟩]
theorem lenD_no {d : Dm} {l : Int} (h : ¬ (rightD d = true ∧ 0 ≤ l ∧ l ≤ depthD d)) : lenD d l = -1 := by
  unfold lenD; rw [if_neg h]
theorem lenD_there {d : Dm} {l : Int} (h : 0 ≤ lenD d l) : rightD d = true ∧ 0 ≤ l ∧ l ≤ depthD d := Classical.byContradiction fun e => by
  rw [lenD_no e] at h; omega
theorem lenD_zero {d : Dm} (h : rightD d = true) : lenD d 0 = wid d.kind := by
  obtain ⟨g1, _, _, _⟩ := depth_range h
  have hw := wid_range d.kind
  rw [lenD_yes h (by omega) (by omega)]; omega
theorem lenD_end {d : Dm} (h : rightD d = true) : lenD d (depthD d) = 0 := by
  obtain ⟨g1, _, g3, _⟩ := depth_range h
  rw [lenD_yes h (by omega) (by omega)]; omega
theorem mul_step {l m s : Int} (h : l ≤ m) (hs : 0 ≤ s) : l * s ≤ m * s := Int.mul_le_mul_of_nonneg_right h hs
theorem lenD_step {d : Dm} (h : rightD d = true) {l : Int} (h0 : 0 ≤ l) (h1 : l < depthD d) : lenD d (l + 1) < lenD d l ∧ (lenD d l - lenD d (l + 1) = d.step ∨ (lenD d l - lenD d (l + 1) < d.step ∧ l + 1 = depthD d)) ∧ 0 < lenD d l := by
  obtain ⟨g1, g2, g3, g4⟩ := depth_range h
  obtain ⟨_, s1, s2⟩ := (rightD_iff d).1 h
  rw [lenD_yes h h0 (by omega), lenD_yes h (by omega) (by omega)]
  have e1 := mul_step (show l ≤ depthD d - 1 by omega) (show 0 ≤ d.step by omega)
  have e2 : (l + 1) * d.step = l * d.step + d.step := by rw [Int.add_mul, Int.one_mul]
  by_cases hl : l + 1 = depthD d
  · rw [← hl] at g3 g4
    rw [show l + 1 - 1 = l by omega] at g4
    refine ⟨by omega, ?_, by omega⟩
    by_cases hz : wid d.kind - (l + 1) * d.step < 0
    · right; exact ⟨by omega, hl⟩
    · left; omega
  · have e3 := mul_step (show l + 1 ≤ depthD d - 1 by omega) (show 0 ≤ d.step by omega)
    refine ⟨by omega, .inl (by omega), by omega⟩
theorem onD_iff (d : Dm) (l : Int) (k : Ke) : onD d l k = true ↔ 0 ≤ lenD d l ∧ k.kind = d.kind ∧ rightK k = true ∧ (k.len = lenD d l ∨ (d.kind = 3 ∧ k.len < lenD d l)) := by
  have := lenD_range d l
  unfold onD
  simp only [Bool.and_eq_true, Bool.or_eq_true, Bool.not_eq_true', decide_eq_false_iff_not, decide_eq_true_eq]
  constructor
  · rintro ⟨a, b, c, e⟩; exact ⟨by omega, b, c, e⟩
  · rintro ⟨a, b, c, e⟩; exact ⟨by omega, b, c, e⟩
theorem cutD_yes {d : Dm} {l : Int} {k : Ke} (h : 0 ≤ lenD d l) (hk : k.kind = d.kind) : cutD d l k = cutK k (lenD d l) := by
  unfold cutD; rw [if_neg (by rintro (e | e); omega; exact e hk)]
theorem kind_dim {d : Dm} (h : rightD d = true) : d.kind = 1 ∨ d.kind = 2 ∨ d.kind = 3 := by
  obtain ⟨_, s1, s2⟩ := (rightD_iff d).1 h
  unfold wid at s2
  by_cases a : d.kind = 1
  · exact .inl a
  · by_cases b : d.kind = 2
    · exact .inr (.inl b)
    · by_cases c : d.kind = 3
      · exact .inr (.inr c)
      · rw [if_neg a, if_neg b, if_neg c] at s2; omega
theorem on_cut {d : Dm} {l : Int} {k : Ke} (h : onD d l k = true) : cutD d l k = k ∧ rightK k = true := by
  obtain ⟨a, b, c, e⟩ := (onD_iff d l k).1 h
  refine ⟨?_, c⟩
  rw [cutD_yes a b]
  unfold cutK
  rw [if_pos c, if_pos (by rcases e with e | e <;> omega)]
theorem cutD_ok {k : Ke} (ok : k.ok) (d : Dm) (l : Int) : (cutD d l k).ok := by
  have := lenD_range d l
  unfold cutD
  split
  · exact kz_ok
  · exact cut_ok ok _ (by omega)
end Go.Proofs.Ytbekocknfpekoaa
namespace Go.Proofs.Ytbekocknfpekoaa
set_option linter.unusedVariables false
set_option linter.unusedSimpArgs false
open Go.RowKit
theorem nonempty_str {p : List UInt8} (h : p ≠ []) : ((⟨p.toArray⟩ : ByteArray).toList == (⟨#[]⟩ : ByteArray).toList) = false ∧ p.isEmpty = false ∧ ¬ p = [] := by
  rw [bytes_list]
  have e : (⟨#[]⟩ : ByteArray).toList = [] := bytes_list []
  rw [e]
  cases p with
  | nil => exact absurd rfl h
  | cons c r => exact ⟨rfl, rfl, by simp⟩
set_option maxRecDepth 100000 in
theorem letters_adr_bad (k : Ke) (h3 : ¬ k.kind = 3) (hb : wid k.kind = 0 ∨ k.len < 0 ∨ wid k.kind < k.len ∨ k.path ≠ []) (w : World) : Calls Try.prog 98 #[kv k] w (LetPost k w) := by
  have hr : rightK k = false := by
    rw [Bool.eq_false_iff]
    intro e
    obtain ⟨a, b, c, d⟩ := right_adr k h3 e
    rcases hb with x | x | x | x
    · exact a x
    · omega
    · omega
    · exact x d
  have HB := Lib.hid (fun (w' : World) (hb : Below w.heap.size w w') => letPost_bad hr hb)
  have HW := fun w1 => rwidth_t k.kind w1
  have hp := @nonempty_str k.path
  clear hr
  obtain ⟨kd, len, h, l, p⟩ := k
  dsimp only at *
  have hk3 : (kd == 3) = false := by simpa using h3
  generalize wid kd = wd at *
  generalize LetPost ⟨kd, len, h, l, p⟩ w = PP at *
  unfold kv
  dsimp only
  obtain ⟨RR0, hb0⟩ := one_row w #[.int .i64 kd, .int .i64 len, .int .u64 h, .int .u64 l, .string ⟨p.toArray⟩] 30
  have c0 := (RR0.cell 0).trans (show _ = some (Value.int .i64 kd) from rfl)
  have c1 := (RR0.cell 1).trans (show _ = some (Value.int .i64 len) from rfl)
  have c2 := (RR0.cell 2).trans (show _ = some (Value.int .u64 h) from rfl)
  have c3 := (RR0.cell 3).trans (show _ = some (Value.int .u64 l) from rfl)
  have c4 := (RR0.cell 4).trans (show _ = some (Value.string ⟨p.toArray⟩) from rfl)
  clear RR0
  by_cases t0 : wd = 0
  · subst t0
    clear hp hb
    go_enter Try.func98, Try.ntmps98
    go_wp2_with fail
    refine wp_region_held_drew (S := (fun w' => w'.cell? ⟨w.heap.size, 0, none⟩ = some (.int .i64 kd) ∧ w'.cell? ⟨w.heap.size, 1, none⟩ = some (.int .i64 len) ∧ w'.cell? ⟨w.heap.size, 2, none⟩ = some (.int .u64 h) ∧ w'.cell? ⟨w.heap.size, 3, none⟩ = some (.int .u64 l) ∧ w'.cell? ⟨w.heap.size, 4, none⟩ = some (.string ⟨p.toArray⟩) ∧ Below w.heap.size w w')) (by kernel_rfl) ?hSr20_ (fun hHeld => ?_)
    case hSr20_ => (first | exact ⟨c0, c1, c2, c3, c4, hb0.drew⟩ | exact ⟨c0, c1, c2, c3, c4, hb0⟩ | (obtain ⟨c0, c1, c2, c3, c4, hb0⟩ := hHeld; exact ⟨cell_later hb c0, cell_later hb c1, cell_later hb c2, cell_later hb c3, cell_later hb c4, below_step hb0 hb⟩))
    refine tk 0 ⟨some 38, .fieldAddr 30 (.tmp 1) 0, 0, _, _, _⟩ hHeld ?_
    (try simp only [Act.put, nz1, nz2, nz3])
    refine tk 1 ⟨some 39, .load 3 (.tmp 38), 3, _, _, _⟩ hHeld ?_
    (try simp only [Act.put, nz1, nz2, nz3])
    refine wpAnyH_ready (rs := [2]) (by kernel_rfl) (by simp) ?_
    refine AllReadyH.cons (o := ⟨some 40, .call { callee := .value (.func 81), args := #[.tmp 39], argTypes := #[3] }, 3, _, _, _⟩) rfl (fun K hK => ?_) AllReadyH.nil
    (go_simp; (refine (HW _).mono ?_); (rintro e wn ⟨rfl, hb⟩); go_wp2_with fail)
    refine hK.out _ _ ?hSr20_3_2 (fun hHeld2 => ?_)
    case hSr20_3_2 => (first | exact ⟨c0, c1, c2, c3, c4, hb0.drew⟩ | exact ⟨c0, c1, c2, c3, c4, hb0⟩ | (obtain ⟨c0, c1, c2, c3, c4, hb0⟩ := hHeld; exact ⟨cell_later hb c0, cell_later hb c1, cell_later hb c2, cell_later hb c3, cell_later hb c4, below_step hb0 hb⟩))
    clear hK K hHeld
    have hHeld := hHeld2
    clear hHeld2
    (try simp only [Act.put, nz1, nz2, nz3])
    refine tk 3 ⟨some 41, .binOp .eql 3 (.tmp 40) (.const (.int .i64 0)) 3, 4, _, _, _⟩ hHeld ?_
    (try simp only [Act.put, nz1, nz2, nz3])
    refine tk 4 ⟨some 42, .move (.tmp 41), 4, _, _, _⟩ hHeld ?_
    (try simp only [Act.put, nz1, nz2, nz3])
    refine ts 5 ⟨some 43, .fieldAddr 30 (.tmp 1) 1, 0, _, _, _⟩ hHeld ?_
    (try simp only [Act.put, nz1, nz2, nz3])
    refine ts 6 ⟨some 44, .load 3 (.tmp 43), 3, _, _, _⟩ hHeld ?_
    (try simp only [Act.put, nz1, nz2, nz3])
    refine ts 7 ⟨some 45, .binOp .lss 3 (.tmp 44) (.const (.int .i64 0)) 3, 4, _, _, _⟩ hHeld ?_
    (try simp only [Act.put, nz1, nz2, nz3])
    refine tk 8 ⟨some 46, .pick (.tmp 42) (.const (.bool true)) (.tmp 45), 4, _, _, _⟩ hHeld ?_
    (try simp only [Act.put, nz1, nz2, nz3])
    refine tk 9 ⟨some 47, .move (.tmp 46), 4, _, _, _⟩ hHeld ?_
    (try simp only [Act.put, nz1, nz2, nz3])
    refine ts 10 ⟨some 48, .fieldAddr 30 (.tmp 1) 1, 0, _, _, _⟩ hHeld ?_
    (try simp only [Act.put, nz1, nz2, nz3])
    refine ts 11 ⟨some 49, .load 3 (.tmp 48), 3, _, _, _⟩ hHeld ?_
    (try simp only [Act.put, nz1, nz2, nz3])
    refine ts 12 ⟨some 50, .fieldAddr 30 (.tmp 1) 0, 0, _, _, _⟩ hHeld ?_
    (try simp only [Act.put, nz1, nz2, nz3])
    refine ts 13 ⟨some 51, .load 3 (.tmp 50), 3, _, _, _⟩ hHeld ?_
    (try simp only [Act.put, nz1, nz2, nz3])
    refine ts 14 ⟨some 52, .call { callee := .value (.func 81), args := #[.tmp 51], argTypes := #[3] }, 3, _, _, _⟩ hHeld ?_
    (try simp only [Act.put, nz1, nz2, nz3])
    refine ts 15 ⟨some 53, .binOp .gtr 3 (.tmp 49) (.tmp 52) 3, 4, _, _, _⟩ hHeld ?_
    (try simp only [Act.put, nz1, nz2, nz3])
    refine tk 16 ⟨some 54, .pick (.tmp 47) (.const (.bool true)) (.tmp 53), 4, _, _, _⟩ hHeld ?_
    (try simp only [Act.put, nz1, nz2, nz3])
    refine tk 17 ⟨some 55, .move (.tmp 54), 4, _, _, _⟩ hHeld ?_
    (try simp only [Act.put, nz1, nz2, nz3])
    refine ts 18 ⟨some 56, .fieldAddr 30 (.tmp 1) 4, 0, _, _, _⟩ hHeld ?_
    (try simp only [Act.put, nz1, nz2, nz3])
    refine ts 19 ⟨some 57, .load 9 (.tmp 56), 9, _, _, _⟩ hHeld ?_
    (try simp only [Act.put, nz1, nz2, nz3])
    refine ts 20 ⟨some 58, .binOp .neq 9 (.tmp 57) (.const (.string { data := #[] })) 9, 4, _, _, _⟩ hHeld ?_
    (try simp only [Act.put, nz1, nz2, nz3])
    refine tk 21 ⟨some 59, .pick (.tmp 55) (.const (.bool true)) (.tmp 58), 4, _, _, _⟩ hHeld ?_
    (try simp only [Act.put, nz1, nz2, nz3])
    refine wpAnyH_done (by kernel_rfl) ?_ _
    clear c0 c1 c2 c3 c4 hb0
    obtain ⟨c0, c1, c2, c3, c4, hb0⟩ := hHeld
    replace HB := Lib.hid (HB.out _ hb0)
    go_wp2
    exact HB.out
  have t0' : (wd == 0) = false := by simpa using t0
  by_cases t1 : len < 0
  · clear hp hb
    go_enter Try.func98, Try.ntmps98
    go_wp2_with fail
    refine wp_region_held_drew (S := (fun w' => w'.cell? ⟨w.heap.size, 0, none⟩ = some (.int .i64 kd) ∧ w'.cell? ⟨w.heap.size, 1, none⟩ = some (.int .i64 len) ∧ w'.cell? ⟨w.heap.size, 2, none⟩ = some (.int .u64 h) ∧ w'.cell? ⟨w.heap.size, 3, none⟩ = some (.int .u64 l) ∧ w'.cell? ⟨w.heap.size, 4, none⟩ = some (.string ⟨p.toArray⟩) ∧ Below w.heap.size w w')) (by kernel_rfl) ?hSr21_ (fun hHeld => ?_)
    case hSr21_ => (first | exact ⟨c0, c1, c2, c3, c4, hb0.drew⟩ | exact ⟨c0, c1, c2, c3, c4, hb0⟩ | (obtain ⟨c0, c1, c2, c3, c4, hb0⟩ := hHeld; exact ⟨cell_later hb c0, cell_later hb c1, cell_later hb c2, cell_later hb c3, cell_later hb c4, below_step hb0 hb⟩))
    refine tk 0 ⟨some 38, .fieldAddr 30 (.tmp 1) 0, 0, _, _, _⟩ hHeld ?_
    (try simp only [Act.put, nz1, nz2, nz3])
    refine tk 1 ⟨some 39, .load 3 (.tmp 38), 3, _, _, _⟩ hHeld ?_
    (try simp only [Act.put, nz1, nz2, nz3])
    refine wpAnyH_ready (rs := [2]) (by kernel_rfl) (by simp) ?_
    refine AllReadyH.cons (o := ⟨some 40, .call { callee := .value (.func 81), args := #[.tmp 39], argTypes := #[3] }, 3, _, _, _⟩) rfl (fun K hK => ?_) AllReadyH.nil
    (go_simp; (refine (HW _).mono ?_); (rintro e wn ⟨rfl, hb⟩); go_wp2_with fail)
    refine hK.out _ _ ?hSr21_3_2 (fun hHeld2 => ?_)
    case hSr21_3_2 => (first | exact ⟨c0, c1, c2, c3, c4, hb0.drew⟩ | exact ⟨c0, c1, c2, c3, c4, hb0⟩ | (obtain ⟨c0, c1, c2, c3, c4, hb0⟩ := hHeld; exact ⟨cell_later hb c0, cell_later hb c1, cell_later hb c2, cell_later hb c3, cell_later hb c4, below_step hb0 hb⟩))
    clear hK K hHeld
    have hHeld := hHeld2
    clear hHeld2
    (try simp only [Act.put, nz1, nz2, nz3])
    refine tk 3 ⟨some 41, .binOp .eql 3 (.tmp 40) (.const (.int .i64 0)) 3, 4, _, _, _⟩ hHeld ?_
    (try simp only [Act.put, nz1, nz2, nz3])
    refine tk 4 ⟨some 42, .move (.tmp 41), 4, _, _, _⟩ hHeld ?_
    (try simp only [Act.put, nz1, nz2, nz3])
    refine tk 5 ⟨some 43, .fieldAddr 30 (.tmp 1) 1, 0, _, _, _⟩ hHeld ?_
    (try simp only [Act.put, nz1, nz2, nz3])
    refine tk 6 ⟨some 44, .load 3 (.tmp 43), 3, _, _, _⟩ hHeld ?_
    (try simp only [Act.put, nz1, nz2, nz3])
    refine tk 7 ⟨some 45, .binOp .lss 3 (.tmp 44) (.const (.int .i64 0)) 3, 4, _, _, _⟩ hHeld ?_
    (try simp only [Act.put, nz1, nz2, nz3])
    refine tk 8 ⟨some 46, .pick (.tmp 42) (.const (.bool true)) (.tmp 45), 4, _, _, _⟩ hHeld ?_
    (try simp only [Act.put, nz1, nz2, nz3])
    refine tk 9 ⟨some 47, .move (.tmp 46), 4, _, _, _⟩ hHeld ?_
    (try simp only [Act.put, nz1, nz2, nz3])
    refine ts 10 ⟨some 48, .fieldAddr 30 (.tmp 1) 1, 0, _, _, _⟩ hHeld ?_
    (try simp only [Act.put, nz1, nz2, nz3])
    refine ts 11 ⟨some 49, .load 3 (.tmp 48), 3, _, _, _⟩ hHeld ?_
    (try simp only [Act.put, nz1, nz2, nz3])
    refine ts 12 ⟨some 50, .fieldAddr 30 (.tmp 1) 0, 0, _, _, _⟩ hHeld ?_
    (try simp only [Act.put, nz1, nz2, nz3])
    refine ts 13 ⟨some 51, .load 3 (.tmp 50), 3, _, _, _⟩ hHeld ?_
    (try simp only [Act.put, nz1, nz2, nz3])
    refine ts 14 ⟨some 52, .call { callee := .value (.func 81), args := #[.tmp 51], argTypes := #[3] }, 3, _, _, _⟩ hHeld ?_
    (try simp only [Act.put, nz1, nz2, nz3])
    refine ts 15 ⟨some 53, .binOp .gtr 3 (.tmp 49) (.tmp 52) 3, 4, _, _, _⟩ hHeld ?_
    (try simp only [Act.put, nz1, nz2, nz3])
    refine tk 16 ⟨some 54, .pick (.tmp 47) (.const (.bool true)) (.tmp 53), 4, _, _, _⟩ hHeld ?_
    (try simp only [Act.put, nz1, nz2, nz3])
    refine tk 17 ⟨some 55, .move (.tmp 54), 4, _, _, _⟩ hHeld ?_
    (try simp only [Act.put, nz1, nz2, nz3])
    refine ts 18 ⟨some 56, .fieldAddr 30 (.tmp 1) 4, 0, _, _, _⟩ hHeld ?_
    (try simp only [Act.put, nz1, nz2, nz3])
    refine ts 19 ⟨some 57, .load 9 (.tmp 56), 9, _, _, _⟩ hHeld ?_
    (try simp only [Act.put, nz1, nz2, nz3])
    refine ts 20 ⟨some 58, .binOp .neq 9 (.tmp 57) (.const (.string { data := #[] })) 9, 4, _, _, _⟩ hHeld ?_
    (try simp only [Act.put, nz1, nz2, nz3])
    refine tk 21 ⟨some 59, .pick (.tmp 55) (.const (.bool true)) (.tmp 58), 4, _, _, _⟩ hHeld ?_
    (try simp only [Act.put, nz1, nz2, nz3])
    refine wpAnyH_done (by kernel_rfl) ?_ _
    clear c0 c1 c2 c3 c4 hb0
    obtain ⟨c0, c1, c2, c3, c4, hb0⟩ := hHeld
    replace HB := Lib.hid (HB.out _ hb0)
    go_wp2
    exact HB.out
  have t1' : decide (len < 0) = false := by simpa using t1
  by_cases t2 : wd < len
  · clear hp hb
    go_enter Try.func98, Try.ntmps98
    go_wp2_with fail
    refine wp_region_held_drew (S := (fun w' => w'.cell? ⟨w.heap.size, 0, none⟩ = some (.int .i64 kd) ∧ w'.cell? ⟨w.heap.size, 1, none⟩ = some (.int .i64 len) ∧ w'.cell? ⟨w.heap.size, 2, none⟩ = some (.int .u64 h) ∧ w'.cell? ⟨w.heap.size, 3, none⟩ = some (.int .u64 l) ∧ w'.cell? ⟨w.heap.size, 4, none⟩ = some (.string ⟨p.toArray⟩) ∧ Below w.heap.size w w')) (by kernel_rfl) ?hSr22_ (fun hHeld => ?_)
    case hSr22_ => (first | exact ⟨c0, c1, c2, c3, c4, hb0.drew⟩ | exact ⟨c0, c1, c2, c3, c4, hb0⟩ | (obtain ⟨c0, c1, c2, c3, c4, hb0⟩ := hHeld; exact ⟨cell_later hb c0, cell_later hb c1, cell_later hb c2, cell_later hb c3, cell_later hb c4, below_step hb0 hb⟩))
    refine tk 0 ⟨some 38, .fieldAddr 30 (.tmp 1) 0, 0, _, _, _⟩ hHeld ?_
    (try simp only [Act.put, nz1, nz2, nz3])
    refine tk 1 ⟨some 39, .load 3 (.tmp 38), 3, _, _, _⟩ hHeld ?_
    (try simp only [Act.put, nz1, nz2, nz3])
    refine wpAnyH_ready (rs := [2]) (by kernel_rfl) (by simp) ?_
    refine AllReadyH.cons (o := ⟨some 40, .call { callee := .value (.func 81), args := #[.tmp 39], argTypes := #[3] }, 3, _, _, _⟩) rfl (fun K hK => ?_) AllReadyH.nil
    (go_simp; (refine (HW _).mono ?_); (rintro e wn ⟨rfl, hb⟩); go_wp2_with fail)
    refine hK.out _ _ ?hSr22_3_2 (fun hHeld2 => ?_)
    case hSr22_3_2 => (first | exact ⟨c0, c1, c2, c3, c4, hb0.drew⟩ | exact ⟨c0, c1, c2, c3, c4, hb0⟩ | (obtain ⟨c0, c1, c2, c3, c4, hb0⟩ := hHeld; exact ⟨cell_later hb c0, cell_later hb c1, cell_later hb c2, cell_later hb c3, cell_later hb c4, below_step hb0 hb⟩))
    clear hK K hHeld
    have hHeld := hHeld2
    clear hHeld2
    (try simp only [Act.put, nz1, nz2, nz3])
    refine tk 3 ⟨some 41, .binOp .eql 3 (.tmp 40) (.const (.int .i64 0)) 3, 4, _, _, _⟩ hHeld ?_
    (try simp only [Act.put, nz1, nz2, nz3])
    refine tk 4 ⟨some 42, .move (.tmp 41), 4, _, _, _⟩ hHeld ?_
    (try simp only [Act.put, nz1, nz2, nz3])
    refine tk 5 ⟨some 43, .fieldAddr 30 (.tmp 1) 1, 0, _, _, _⟩ hHeld ?_
    (try simp only [Act.put, nz1, nz2, nz3])
    refine tk 6 ⟨some 44, .load 3 (.tmp 43), 3, _, _, _⟩ hHeld ?_
    (try simp only [Act.put, nz1, nz2, nz3])
    refine tk 7 ⟨some 45, .binOp .lss 3 (.tmp 44) (.const (.int .i64 0)) 3, 4, _, _, _⟩ hHeld ?_
    (try simp only [Act.put, nz1, nz2, nz3])
    refine tk 8 ⟨some 46, .pick (.tmp 42) (.const (.bool true)) (.tmp 45), 4, _, _, _⟩ hHeld ?_
    (try simp only [Act.put, nz1, nz2, nz3])
    refine tk 9 ⟨some 47, .move (.tmp 46), 4, _, _, _⟩ hHeld ?_
    (try simp only [Act.put, nz1, nz2, nz3])
    refine tk 10 ⟨some 48, .fieldAddr 30 (.tmp 1) 1, 0, _, _, _⟩ hHeld ?_
    (try simp only [Act.put, nz1, nz2, nz3])
    refine tk 11 ⟨some 49, .load 3 (.tmp 48), 3, _, _, _⟩ hHeld ?_
    (try simp only [Act.put, nz1, nz2, nz3])
    refine tk 12 ⟨some 50, .fieldAddr 30 (.tmp 1) 0, 0, _, _, _⟩ hHeld ?_
    (try simp only [Act.put, nz1, nz2, nz3])
    refine tk 13 ⟨some 51, .load 3 (.tmp 50), 3, _, _, _⟩ hHeld ?_
    (try simp only [Act.put, nz1, nz2, nz3])
    refine wpAnyH_ready (rs := [14]) (by kernel_rfl) (by simp) ?_
    refine AllReadyH.cons (o := ⟨some 52, .call { callee := .value (.func 81), args := #[.tmp 51], argTypes := #[3] }, 3, _, _, _⟩) rfl (fun K hK => ?_) AllReadyH.nil
    (go_simp; (refine (HW _).mono ?_); (rintro e wn ⟨rfl, hb⟩); go_wp2_with fail)
    refine hK.out _ _ ?hSr22_15_14 (fun hHeld2 => ?_)
    case hSr22_15_14 => (first | exact ⟨c0, c1, c2, c3, c4, hb0.drew⟩ | exact ⟨c0, c1, c2, c3, c4, hb0⟩ | (obtain ⟨c0, c1, c2, c3, c4, hb0⟩ := hHeld; exact ⟨cell_later hb c0, cell_later hb c1, cell_later hb c2, cell_later hb c3, cell_later hb c4, below_step hb0 hb⟩))
    clear hK K hHeld
    have hHeld := hHeld2
    clear hHeld2
    (try simp only [Act.put, nz1, nz2, nz3])
    refine tk 15 ⟨some 53, .binOp .gtr 3 (.tmp 49) (.tmp 52) 3, 4, _, _, _⟩ hHeld ?_
    (try simp only [Act.put, nz1, nz2, nz3])
    refine tk 16 ⟨some 54, .pick (.tmp 47) (.const (.bool true)) (.tmp 53), 4, _, _, _⟩ hHeld ?_
    (try simp only [Act.put, nz1, nz2, nz3])
    refine tk 17 ⟨some 55, .move (.tmp 54), 4, _, _, _⟩ hHeld ?_
    (try simp only [Act.put, nz1, nz2, nz3])
    refine ts 18 ⟨some 56, .fieldAddr 30 (.tmp 1) 4, 0, _, _, _⟩ hHeld ?_
    (try simp only [Act.put, nz1, nz2, nz3])
    refine ts 19 ⟨some 57, .load 9 (.tmp 56), 9, _, _, _⟩ hHeld ?_
    (try simp only [Act.put, nz1, nz2, nz3])
    refine ts 20 ⟨some 58, .binOp .neq 9 (.tmp 57) (.const (.string { data := #[] })) 9, 4, _, _, _⟩ hHeld ?_
    (try simp only [Act.put, nz1, nz2, nz3])
    refine tk 21 ⟨some 59, .pick (.tmp 55) (.const (.bool true)) (.tmp 58), 4, _, _, _⟩ hHeld ?_
    (try simp only [Act.put, nz1, nz2, nz3])
    refine wpAnyH_done (by kernel_rfl) ?_ _
    clear c0 c1 c2 c3 c4 hb0
    obtain ⟨c0, c1, c2, c3, c4, hb0⟩ := hHeld
    replace HB := Lib.hid (HB.out _ hb0)
    go_wp2
    exact HB.out
  have t2' : decide (wd < len) = false := by simpa using t2
  obtain ⟨p1, p2, p3⟩ := hp (by rcases hb with x | x | x | x <;> first | exact x | omega)
  clear hp hb
  go_enter Try.func98, Try.ntmps98
  go_wp2_with fail
  refine wp_region_held_drew (S := (fun w' => w'.cell? ⟨w.heap.size, 0, none⟩ = some (.int .i64 kd) ∧ w'.cell? ⟨w.heap.size, 1, none⟩ = some (.int .i64 len) ∧ w'.cell? ⟨w.heap.size, 2, none⟩ = some (.int .u64 h) ∧ w'.cell? ⟨w.heap.size, 3, none⟩ = some (.int .u64 l) ∧ w'.cell? ⟨w.heap.size, 4, none⟩ = some (.string ⟨p.toArray⟩) ∧ Below w.heap.size w w')) (by kernel_rfl) ?hSr23_ (fun hHeld => ?_)
  case hSr23_ => (first | exact ⟨c0, c1, c2, c3, c4, hb0.drew⟩ | exact ⟨c0, c1, c2, c3, c4, hb0⟩ | (obtain ⟨c0, c1, c2, c3, c4, hb0⟩ := hHeld; exact ⟨cell_later hb c0, cell_later hb c1, cell_later hb c2, cell_later hb c3, cell_later hb c4, below_step hb0 hb⟩))
  refine tk 0 ⟨some 38, .fieldAddr 30 (.tmp 1) 0, 0, _, _, _⟩ hHeld ?_
  (try simp only [Act.put, nz1, nz2, nz3])
  refine tk 1 ⟨some 39, .load 3 (.tmp 38), 3, _, _, _⟩ hHeld ?_
  (try simp only [Act.put, nz1, nz2, nz3])
  refine wpAnyH_ready (rs := [2]) (by kernel_rfl) (by simp) ?_
  refine AllReadyH.cons (o := ⟨some 40, .call { callee := .value (.func 81), args := #[.tmp 39], argTypes := #[3] }, 3, _, _, _⟩) rfl (fun K hK => ?_) AllReadyH.nil
  (go_simp; (refine (HW _).mono ?_); (rintro e wn ⟨rfl, hb⟩); go_wp2_with fail)
  refine hK.out _ _ ?hSr23_3_2 (fun hHeld2 => ?_)
  case hSr23_3_2 => (first | exact ⟨c0, c1, c2, c3, c4, hb0.drew⟩ | exact ⟨c0, c1, c2, c3, c4, hb0⟩ | (obtain ⟨c0, c1, c2, c3, c4, hb0⟩ := hHeld; exact ⟨cell_later hb c0, cell_later hb c1, cell_later hb c2, cell_later hb c3, cell_later hb c4, below_step hb0 hb⟩))
  clear hK K hHeld
  have hHeld := hHeld2
  clear hHeld2
  (try simp only [Act.put, nz1, nz2, nz3])
  refine tk 3 ⟨some 41, .binOp .eql 3 (.tmp 40) (.const (.int .i64 0)) 3, 4, _, _, _⟩ hHeld ?_
  (try simp only [Act.put, nz1, nz2, nz3])
  refine tk 4 ⟨some 42, .move (.tmp 41), 4, _, _, _⟩ hHeld ?_
  (try simp only [Act.put, nz1, nz2, nz3])
  refine tk 5 ⟨some 43, .fieldAddr 30 (.tmp 1) 1, 0, _, _, _⟩ hHeld ?_
  (try simp only [Act.put, nz1, nz2, nz3])
  refine tk 6 ⟨some 44, .load 3 (.tmp 43), 3, _, _, _⟩ hHeld ?_
  (try simp only [Act.put, nz1, nz2, nz3])
  refine tk 7 ⟨some 45, .binOp .lss 3 (.tmp 44) (.const (.int .i64 0)) 3, 4, _, _, _⟩ hHeld ?_
  (try simp only [Act.put, nz1, nz2, nz3])
  refine tk 8 ⟨some 46, .pick (.tmp 42) (.const (.bool true)) (.tmp 45), 4, _, _, _⟩ hHeld ?_
  (try simp only [Act.put, nz1, nz2, nz3])
  refine tk 9 ⟨some 47, .move (.tmp 46), 4, _, _, _⟩ hHeld ?_
  (try simp only [Act.put, nz1, nz2, nz3])
  refine tk 10 ⟨some 48, .fieldAddr 30 (.tmp 1) 1, 0, _, _, _⟩ hHeld ?_
  (try simp only [Act.put, nz1, nz2, nz3])
  refine tk 11 ⟨some 49, .load 3 (.tmp 48), 3, _, _, _⟩ hHeld ?_
  (try simp only [Act.put, nz1, nz2, nz3])
  refine tk 12 ⟨some 50, .fieldAddr 30 (.tmp 1) 0, 0, _, _, _⟩ hHeld ?_
  (try simp only [Act.put, nz1, nz2, nz3])
  refine tk 13 ⟨some 51, .load 3 (.tmp 50), 3, _, _, _⟩ hHeld ?_
  (try simp only [Act.put, nz1, nz2, nz3])
  refine wpAnyH_ready (rs := [14]) (by kernel_rfl) (by simp) ?_
  refine AllReadyH.cons (o := ⟨some 52, .call { callee := .value (.func 81), args := #[.tmp 51], argTypes := #[3] }, 3, _, _, _⟩) rfl (fun K hK => ?_) AllReadyH.nil
  (go_simp; (refine (HW _).mono ?_); (rintro e wn ⟨rfl, hb⟩); go_wp2_with fail)
  refine hK.out _ _ ?hSr23_15_14 (fun hHeld2 => ?_)
  case hSr23_15_14 => (first | exact ⟨c0, c1, c2, c3, c4, hb0.drew⟩ | exact ⟨c0, c1, c2, c3, c4, hb0⟩ | (obtain ⟨c0, c1, c2, c3, c4, hb0⟩ := hHeld; exact ⟨cell_later hb c0, cell_later hb c1, cell_later hb c2, cell_later hb c3, cell_later hb c4, below_step hb0 hb⟩))
  clear hK K hHeld
  have hHeld := hHeld2
  clear hHeld2
  (try simp only [Act.put, nz1, nz2, nz3])
  refine tk 15 ⟨some 53, .binOp .gtr 3 (.tmp 49) (.tmp 52) 3, 4, _, _, _⟩ hHeld ?_
  (try simp only [Act.put, nz1, nz2, nz3])
  refine tk 16 ⟨some 54, .pick (.tmp 47) (.const (.bool true)) (.tmp 53), 4, _, _, _⟩ hHeld ?_
  (try simp only [Act.put, nz1, nz2, nz3])
  refine tk 17 ⟨some 55, .move (.tmp 54), 4, _, _, _⟩ hHeld ?_
  (try simp only [Act.put, nz1, nz2, nz3])
  refine tk 18 ⟨some 56, .fieldAddr 30 (.tmp 1) 4, 0, _, _, _⟩ hHeld ?_
  (try simp only [Act.put, nz1, nz2, nz3])
  refine tk 19 ⟨some 57, .load 9 (.tmp 56), 9, _, _, _⟩ hHeld ?_
  (try simp only [Act.put, nz1, nz2, nz3])
  refine tk 20 ⟨some 58, .binOp .neq 9 (.tmp 57) (.const (.string { data := #[] })) 9, 4, _, _, _⟩ hHeld ?_
  (try simp only [Act.put, nz1, nz2, nz3])
  refine tk 21 ⟨some 59, .pick (.tmp 55) (.const (.bool true)) (.tmp 58), 4, _, _, _⟩ hHeld ?_
  (try simp only [Act.put, nz1, nz2, nz3])
  refine wpAnyH_done (by kernel_rfl) ?_ _
  clear c0 c1 c2 c3 c4 hb0
  obtain ⟨c0, c1, c2, c3, c4, hb0⟩ := hHeld
  replace HB := Lib.hid (HB.out _ hb0)
  go_wp2
  exact HB.out
end Go.Proofs.Ytbekocknfpekoaa
namespace Go.Proofs.Ytbekocknfpekoaa
set_option linter.unusedVariables false
set_option linter.unusedSimpArgs false
open Go.RowKit
theorem lets_zero (A : Int) (n : Nat) : lets A n 0 = [] := by unfold lets; rw [show min 0 n = 0 by omega]; rfl
set_option maxRecDepth 100000 in
theorem letters_adr_go (kd : Int) (n : Nat) (h l : Int) (hk : kd = 1 ∨ kd = 2) (hn : (n : Int) ≤ wid kd) (hh : Word h) (hl : Word l) (w : World) : Calls Try.prog 98 #[kv ⟨kd, n, h, l, []⟩] w (LetPost ⟨kd, n, h, l, []⟩ w) := by
  have HB := Lib.hid (fun (t : Nat) (ht : n ≤ t) (ht2 : t < 128) (hbit : bitI (wv h l) t = true) (w' : World) (hb : Below w.heap.size w w') => letPost_bad (adr_bit_bad (k := ⟨kd, n, h, l, []⟩) (n := n) (by dsimp only; omega) rfl ht ht2 hbit) hb)
  have HG := Lib.hid (fun (v : Value) (w' : World) (hz : ∀ t : Nat, n ≤ t → t < 128 → bitI (wv h l) t = false) (hs : SS w' v (lets (wv h l) n 128)) (hb : Below w.heap.size w w') => by
    obtain ⟨r1, r2⟩ := adr_bits (k := ⟨kd, n, h, l, []⟩) (n := n) hk rfl hn rfl hh hl hz
    exact letPost_ok r1 (by rw [r2]; exact hs) hb)
  have HW := fun w1 => rwidth_t kd w1
  have HT := fun (j : Nat) (hj : j < 128) (w1 : World) => rbit_t h l hh hl j hj w1
  have n8 : n ≤ 128 := by have := (wid_range kd).2; omega
  generalize LetPost ⟨kd, n, h, l, []⟩ w = PP at *
  generalize hA : wv h l = A at *
  clear hA
  have hk3 : (kd == 3) = false := by simp; omega
  have hk3' : ¬ kd = 3 := by omega
  have t0 : (wid kd == 0) = false := by rcases hk with e | e <;> subst e <;> rfl
  generalize wid kd = wd at *
  have t1 : decide ((n : Int) < 0) = false := decide_eq_false (by omega)
  have t2 : decide (wd < (n : Int)) = false := decide_eq_false (by omega)
  clear hh hl hk
  unfold kv
  dsimp only
  obtain ⟨RR0, hb0⟩ := one_row w #[.int .i64 kd, .int .i64 n, .int .u64 h, .int .u64 l, .string ⟨#[]⟩] 30
  have c0 := (RR0.cell 0).trans (show _ = some (Value.int .i64 kd) from rfl)
  have c1 := (RR0.cell 1).trans (show _ = some (Value.int .i64 n) from rfl)
  have c2 := (RR0.cell 2).trans (show _ = some (Value.int .u64 h) from rfl)
  have c3 := (RR0.cell 3).trans (show _ = some (Value.int .u64 l) from rfl)
  have c4 := (RR0.cell 4).trans (show _ = some (Value.string ⟨#[]⟩) from rfl)
  clear RR0
  go_enter Try.func98, Try.ntmps98
  go_wp2_with fail
  refine wp_region_held_drew (S := (fun w' => w'.cell? ⟨w.heap.size, 0, none⟩ = some (.int .i64 kd) ∧ w'.cell? ⟨w.heap.size, 1, none⟩ = some (.int .i64 n) ∧ w'.cell? ⟨w.heap.size, 2, none⟩ = some (.int .u64 h) ∧ w'.cell? ⟨w.heap.size, 3, none⟩ = some (.int .u64 l) ∧ w'.cell? ⟨w.heap.size, 4, none⟩ = some (.string ⟨#[]⟩) ∧ Below w.heap.size w w')) (by kernel_rfl) ?hSr24_ (fun hHeld => ?_)
  case hSr24_ => (first | exact ⟨c0, c1, c2, c3, c4, hb0.drew⟩ | exact ⟨c0, c1, c2, c3, c4, hb0⟩ | (obtain ⟨c0, c1, c2, c3, c4, hb0⟩ := hHeld; exact ⟨cell_later hb c0, cell_later hb c1, cell_later hb c2, cell_later hb c3, cell_later hb c4, below_step hb0 hb⟩))
  refine tk 0 ⟨some 38, .fieldAddr 30 (.tmp 1) 0, 0, _, _, _⟩ hHeld ?_
  (try simp only [Act.put, nz1, nz2, nz3])
  refine tk 1 ⟨some 39, .load 3 (.tmp 38), 3, _, _, _⟩ hHeld ?_
  (try simp only [Act.put, nz1, nz2, nz3])
  refine wpAnyH_ready (rs := [2]) (by kernel_rfl) (by simp) ?_
  refine AllReadyH.cons (o := ⟨some 40, .call { callee := .value (.func 81), args := #[.tmp 39], argTypes := #[3] }, 3, _, _, _⟩) rfl (fun K hK => ?_) AllReadyH.nil
  (go_simp; (refine (HW _).mono ?_); (rintro e wn ⟨rfl, hb⟩); go_wp2_with fail)
  refine hK.out _ _ ?hSr24_3_2 (fun hHeld2 => ?_)
  case hSr24_3_2 => (first | exact ⟨c0, c1, c2, c3, c4, hb0.drew⟩ | exact ⟨c0, c1, c2, c3, c4, hb0⟩ | (obtain ⟨c0, c1, c2, c3, c4, hb0⟩ := hHeld; exact ⟨cell_later hb c0, cell_later hb c1, cell_later hb c2, cell_later hb c3, cell_later hb c4, below_step hb0 hb⟩))
  clear hK K hHeld
  have hHeld := hHeld2
  clear hHeld2
  (try simp only [Act.put, nz1, nz2, nz3])
  refine tk 3 ⟨some 41, .binOp .eql 3 (.tmp 40) (.const (.int .i64 0)) 3, 4, _, _, _⟩ hHeld ?_
  (try simp only [Act.put, nz1, nz2, nz3])
  refine tk 4 ⟨some 42, .move (.tmp 41), 4, _, _, _⟩ hHeld ?_
  (try simp only [Act.put, nz1, nz2, nz3])
  refine tk 5 ⟨some 43, .fieldAddr 30 (.tmp 1) 1, 0, _, _, _⟩ hHeld ?_
  (try simp only [Act.put, nz1, nz2, nz3])
  refine tk 6 ⟨some 44, .load 3 (.tmp 43), 3, _, _, _⟩ hHeld ?_
  (try simp only [Act.put, nz1, nz2, nz3])
  refine tk 7 ⟨some 45, .binOp .lss 3 (.tmp 44) (.const (.int .i64 0)) 3, 4, _, _, _⟩ hHeld ?_
  (try simp only [Act.put, nz1, nz2, nz3])
  refine tk 8 ⟨some 46, .pick (.tmp 42) (.const (.bool true)) (.tmp 45), 4, _, _, _⟩ hHeld ?_
  (try simp only [Act.put, nz1, nz2, nz3])
  refine tk 9 ⟨some 47, .move (.tmp 46), 4, _, _, _⟩ hHeld ?_
  (try simp only [Act.put, nz1, nz2, nz3])
  refine tk 10 ⟨some 48, .fieldAddr 30 (.tmp 1) 1, 0, _, _, _⟩ hHeld ?_
  (try simp only [Act.put, nz1, nz2, nz3])
  refine tk 11 ⟨some 49, .load 3 (.tmp 48), 3, _, _, _⟩ hHeld ?_
  (try simp only [Act.put, nz1, nz2, nz3])
  refine tk 12 ⟨some 50, .fieldAddr 30 (.tmp 1) 0, 0, _, _, _⟩ hHeld ?_
  (try simp only [Act.put, nz1, nz2, nz3])
  refine tk 13 ⟨some 51, .load 3 (.tmp 50), 3, _, _, _⟩ hHeld ?_
  (try simp only [Act.put, nz1, nz2, nz3])
  refine wpAnyH_ready (rs := [14]) (by kernel_rfl) (by simp) ?_
  refine AllReadyH.cons (o := ⟨some 52, .call { callee := .value (.func 81), args := #[.tmp 51], argTypes := #[3] }, 3, _, _, _⟩) rfl (fun K hK => ?_) AllReadyH.nil
  (go_simp; (refine (HW _).mono ?_); (rintro e wn ⟨rfl, hb⟩); go_wp2_with fail)
  refine hK.out _ _ ?hSr24_15_14 (fun hHeld2 => ?_)
  case hSr24_15_14 => (first | exact ⟨c0, c1, c2, c3, c4, hb0.drew⟩ | exact ⟨c0, c1, c2, c3, c4, hb0⟩ | (obtain ⟨c0, c1, c2, c3, c4, hb0⟩ := hHeld; exact ⟨cell_later hb c0, cell_later hb c1, cell_later hb c2, cell_later hb c3, cell_later hb c4, below_step hb0 hb⟩))
  clear hK K hHeld
  have hHeld := hHeld2
  clear hHeld2
  (try simp only [Act.put, nz1, nz2, nz3])
  refine tk 15 ⟨some 53, .binOp .gtr 3 (.tmp 49) (.tmp 52) 3, 4, _, _, _⟩ hHeld ?_
  (try simp only [Act.put, nz1, nz2, nz3])
  refine tk 16 ⟨some 54, .pick (.tmp 47) (.const (.bool true)) (.tmp 53), 4, _, _, _⟩ hHeld ?_
  (try simp only [Act.put, nz1, nz2, nz3])
  refine tk 17 ⟨some 55, .move (.tmp 54), 4, _, _, _⟩ hHeld ?_
  (try simp only [Act.put, nz1, nz2, nz3])
  refine tk 18 ⟨some 56, .fieldAddr 30 (.tmp 1) 4, 0, _, _, _⟩ hHeld ?_
  (try simp only [Act.put, nz1, nz2, nz3])
  refine tk 19 ⟨some 57, .load 9 (.tmp 56), 9, _, _, _⟩ hHeld ?_
  (try simp only [Act.put, nz1, nz2, nz3])
  refine tk 20 ⟨some 58, .binOp .neq 9 (.tmp 57) (.const (.string { data := #[] })) 9, 4, _, _, _⟩ hHeld ?_
  (try simp only [Act.put, nz1, nz2, nz3])
  refine tk 21 ⟨some 59, .pick (.tmp 55) (.const (.bool true)) (.tmp 58), 4, _, _, _⟩ hHeld ?_
  (try simp only [Act.put, nz1, nz2, nz3])
  refine wpAnyH_done (by kernel_rfl) ?_ _
  clear c0 c1 c2 c3 c4 hb0
  obtain ⟨c0, c1, c2, c3, c4, hb0⟩ := hHeld
  clear HW t0 t1 t2 hn hk3 hk3'
  have lc := World.block_lt_of_cell? _ _ c0
  dsimp only at lc
  have hb0s := hb0.size
  go_wp2_with fail
  have HB0 := Lib.hid hb0
  clear hb0 c0 c4
  go_loopw [6, 7] (fun o i wr => ∃ (j m : Nat) (po : Option Addr) (co : Nat), o = .slice po m co ∧ i = .int .i64 (j : Nat) ∧ j ≤ 128 ∧ Hid (m = (lets A n j).length) ∧ Hid (∀ t : Nat, n ≤ t → t < j → bitI A t = false) ∧ Hid (OwnS wn.heap.size wr (.slice po m co) (lets A n j)) ∧ Hid (Below wn.heap.size wn wr)) (fun _ i _ => 128 - (intOf i).toNat)
  case atStart => exact ⟨0, 0, none, 0, rfl, rfl, by omega, Lib.hid (by rw [lets_zero]; rfl), Lib.hid (fun t _ h => by omega), Lib.hid (by rw [lets_zero]; exact OwnS.nil _ _), Lib.hid (Below.refl _ _)⟩
  case round =>
    obtain ⟨j, m, po, co, rfl, rfl, hj, hm, hz, hO, hB⟩ := hrel
    by_cases hlt : j < 128
    · have HTj := HT j hlt wr
      have d1 := cell_later hB.out c1
      have d2 := cell_later hB.out c2
      have d3 := cell_later hB.out c3
      have hsz := hB.out.size
      have HBj := Lib.hid (HB.out j)
      have HM := Lib.hid (@lets_more A n j)
      have HS := Lib.hid (@lets_stay A n j)
      have HZ := Lib.hid (show bitI A j = false ∨ j < n → ∀ t : Nat, n ≤ t → t < j + 1 → bitI A t = false from fun h t h1 h2 => by
        by_cases e : t = j
        · subst e
          rcases h with h | h
          · exact h
          · omega
        · exact hz.out t h1 (by omega))
      clear HB HG hz HT
      have hll8 : (lets A n j).length ≤ 128 := by rw [lets_len]; omega
      generalize bitI A j = b at *
      generalize lets A n j = ll at *
      go_wp2_with fail
      refine HTj.mono ?_
      rintro e w2 ⟨rfl, hb⟩
      replace d1 := cell_later hb d1
      replace hO := Lib.hid (hO.out.later hb)
      replace hB := Lib.hid (hB.out.trans (hb.mono hsz))
      replace hsz : wn.heap.size ≤ w2.heap.size := hB.out.size
      clear hb HTj d2 d3
      cases b with
      | true =>
        have e1 : bit01 true = 1 := rfl
        rw [e1]
        by_cases hjn : j < n
        · have hll := HM.out hjn
          obtain ⟨v', w3, hrun, hown, hb3⟩ := appS_one [49] hO.out hB.out (by omega) hsz
          rw [show bitS true = [49] from rfl] at hll
          rw [← hll] at hown
          obtain ⟨pv, cv, rfl, _, _⟩ := hown.read
          have d1n := cell_later hb3 c1
          have HOW := Lib.hid hown
          have HB3 := Lib.hid hb3
          have HRUN := Lib.hid hrun
          have HZ' := Lib.hid (HZ.out (.inr hjn))
          clear hrun hown hb3 HZ HM HS HBj hO hB hm
          generalize hm' : (lets A n (j + 1)).length = m' at *
          have HM' := Lib.hid hm'.symm
          clear hm' hll
          have tok : True := trivial
          go_wp2_with (have _t := tok; at_builtin; refine wpList_appS rfl (.tmp 85) (.tmp 86) 107 rfl rfl rfl HRUN.out ?_; clear tok HRUN)
          exact ⟨⟨j + 1, m', pv, cv, rfl, by go_num, by omega, HM', HZ', HOW, HB3⟩, by simp [intOf]; omega⟩
        · have hjn' : n ≤ j := by omega
          have HX := Lib.hid (HBj.out hjn' hlt rfl _ (below_step HB0.out hB.out))
          clear HZ HM HS HBj hO hB hm
          go_wp2
          exact HX.out
      | false =>
        have e1 : bit01 false = 0 := rfl
        rw [e1]
        have HZ' := Lib.hid (HZ.out (.inl rfl))
        by_cases hjn : j < n
        · have hll := HM.out hjn
          obtain ⟨v', w3, hrun, hown, hb3⟩ := appS_one [48] hO.out hB.out (by omega) hsz
          rw [show bitS false = [48] from rfl] at hll
          rw [← hll] at hown
          obtain ⟨pv, cv, rfl, _, _⟩ := hown.read
          have HOW := Lib.hid hown
          have HB3 := Lib.hid hb3
          have HRUN := Lib.hid hrun
          clear hrun hown hb3 HZ HM HS HBj hO hB hm
          generalize hm' : (lets A n (j + 1)).length = m' at *
          have HM' := Lib.hid hm'.symm
          clear hm' hll
          have tok : True := trivial
          go_wp2_with (have _t := tok; at_builtin; refine wpList_appS rfl (.tmp 96) (.tmp 97) 107 rfl rfl rfl HRUN.out ?_; clear tok HRUN)
          exact ⟨⟨j + 1, m', pv, cv, rfl, by go_num, by omega, HM', HZ', HOW, HB3⟩, by simp [intOf]; omega⟩
        · have hjn' : n ≤ j := by omega
          have hst := HS.out hjn'
          rw [← hst] at hO hm
          clear HZ HM HS HBj hst
          go_wp2
          exact ⟨⟨j + 1, m, po, co, rfl, by go_num, by omega, hm, HZ', hO, hB⟩, by simp [intOf]; omega⟩
    · have hj8 : j = 128 := by omega
      subst hj8
      have HX := Lib.hid (HG.out _ _ (fun t h1 h2 => hz.out t h1 h2) hO.out.read (below_step HB0.out hB.out))
      clear HB HG hz HT hO hB hm
      go_wp2
      exact HX.out
end Go.Proofs.Ytbekocknfpekoaa
namespace Go.Proofs.Ytbekocknfpekoaa
set_option linter.unusedVariables false
set_option linter.unusedSimpArgs false
open Go.RowKit
theorem tp_succ {A : Int} {i : Nat} (h0 : 0 ≤ A) (hi : i < 128) : tp A (i + 1) = tp A i + (if bitI A i = true then 2 ^ (127 - i) else 0) := by
  rw [bit_def A i hi]
  unfold tp
  have e : (2 : Int) ^ (128 - i) = 2 ^ (127 - i) * 2 := by rw [← Int.pow_succ]; congr 1; omega
  rw [show 128 - (i + 1) = 127 - i by omega, e, ← Int.ediv_ediv_of_nonneg (Int.le_of_lt (Int.pow_pos (by decide)))]
  generalize A / 2 ^ (127 - i) = q
  generalize (2 : Int) ^ (127 - i) = P
  have hq : q = q / 2 * 2 + q % 2 := by omega
  by_cases h : q % 2 = 1
  · rw [if_pos (by simpa using h)]
    rw [h] at hq
    generalize q / 2 = z at *
    subst hq
    rw [Int.add_mul, Int.one_mul, Int.mul_assoc, Int.mul_comm 2 P]
  · rw [if_neg (by simpa using h)]
    have h2 : q % 2 = 0 := by omega
    rw [h2] at hq
    generalize q / 2 = z at *
    rw [Int.add_zero] at hq
    subst hq
    rw [Int.mul_assoc, Int.mul_comm 2 P]; omega
theorem pow_pos2 (n : Nat) : (0 : Int) < 2 ^ n := Int.pow_pos (by decide)
theorem pow_word (q : Nat) (h : q < 64) : (1 : Int) ≤ 2 ^ q ∧ (2 : Int) ^ q ≤ 9223372036854775808 := by
  have h1 : (2 : Int) ^ 63 = 2 ^ q * 2 ^ (63 - q) := by rw [← Int.pow_add]; congr 1; omega
  have h2 : (2 : Int) ^ 63 = 9223372036854775808 := by decide
  have p1 := pow_pos2 q
  have p2 := pow_pos2 (63 - q)
  refine ⟨by omega, ?_⟩
  rw [← h2, h1]
  have p3 : (2 : Int) ^ q * 1 ≤ 2 ^ q * 2 ^ (63 - q) := Int.mul_le_mul_of_nonneg_left (by omega) (by omega)
  omega
theorem two64 : (18446744073709551616 : Int) = 2 ^ 64 := by decide
theorem tp_hi_set {A : Int} {i : Nat} (h0 : 0 ≤ A) (h1 : A < MM) (hi64 : i < 64) (hb : bitI A i = true) : hi (tp A (i + 1)) = hi (tp A i) + 2 ^ (63 - i) ∧ lo (tp A (i + 1)) = lo (tp A i) := by
  have e := tp_succ h0 (i := i) (by omega)
  rw [if_pos hb] at e
  have r := tp_range (n := i + 1) h0 h1
  have r0 := tp_range (n := i) h0 h1
  have e1 : (2 : Int) ^ (127 - i) = 2 ^ (63 - i) * 18446744073709551616 := by
    have h := Int.pow_add (2 : Int) (63 - i) 64
    rw [show 63 - i + 64 = 127 - i by omega] at h
    rw [two64]; exact h
  have p := pow_pos2 (63 - i)
  rw [e1] at e
  generalize (2 : Int) ^ (63 - i) = P at *
  unfold MM at h1
  generalize tp A (i + 1) = x at *
  generalize tp A i = y at *
  subst e
  unfold hi lo
  constructor <;> omega
theorem tp_lo_mul {A : Int} {i : Nat} (hi64 : 64 ≤ i) (hi2 : i < 128) : ∃ z : Int, tp A i = z * (2 * 2 ^ (127 - i)) := by
  unfold tp
  refine ⟨A / 2 ^ (128 - i), ?_⟩
  congr 1
  rw [← Int.pow_succ']; congr 1; omega
theorem tp_lo_set {A : Int} {i : Nat} (h0 : 0 ≤ A) (h1 : A < MM) (hi64 : 64 ≤ i) (hi2 : i < 128) (hb : bitI A i = true) : hi (tp A (i + 1)) = hi (tp A i) ∧ lo (tp A (i + 1)) = lo (tp A i) + 2 ^ (127 - i) := by
  have e := tp_succ h0 hi2
  rw [if_pos hb] at e
  have r := tp_range (n := i + 1) h0 h1
  have r0 := tp_range (n := i) h0 h1
  obtain ⟨z, hz⟩ := tp_lo_mul (A := A) hi64 hi2
  have e1 : (18446744073709551616 : Int) = 2 ^ (i - 64) * (2 * 2 ^ (127 - i)) := by
    have h := Int.pow_add (2 : Int) (i - 64) (127 - i + 1)
    rw [show i - 64 + (127 - i + 1) = 64 by omega, Int.pow_succ' (2 : Int) (127 - i)] at h
    rw [two64]; exact h
  have p := pow_pos2 (127 - i)
  have p2 := pow_pos2 (i - 64)
  -- the low word is a multiple of D, and so is 2^64
  have hl : ∃ u : Int, lo (tp A i) = u * (2 * 2 ^ (127 - i)) := by
    have hlo : lo (tp A i) = tp A i - 18446744073709551616 * (tp A i / 18446744073709551616) := by unfold lo; exact Int.emod_def _ _
    generalize tp A i / 18446744073709551616 = v at hlo
    refine ⟨z - 2 ^ (i - 64) * v, ?_⟩
    rw [hlo, hz, e1, Int.sub_mul, Int.mul_right_comm]
  obtain ⟨u, hu⟩ := hl
  have hlt : lo (tp A i) + 2 ^ (127 - i) < 18446744073709551616 := by
    have hlo : lo (tp A i) < 18446744073709551616 := by have := lo_le (tp A i); omega
    rw [hu] at hlo ⊢
    rw [e1] at hlo ⊢
    generalize (2 : Int) ^ (127 - i) = P at *
    generalize (2 : Int) ^ (i - 64) = Q at *
    have hD : (0 : Int) < 2 * P := by omega
    have huQ : u < Q := Int.lt_of_mul_lt_mul_right hlo (Int.le_of_lt hD)
    have : (u + 1) * (2 * P) ≤ Q * (2 * P) := Int.mul_le_mul_of_nonneg_right (by omega) (Int.le_of_lt hD)
    rw [Int.add_mul, Int.one_mul] at this
    omega
  rw [e]
  clear e e1 hz hu u z hb
  generalize (2 : Int) ^ (127 - i) = P at *
  generalize tp A i = y at *
  unfold hi lo at *
  constructor <;> omega
theorem tp_clear {A : Int} {i : Nat} (h0 : 0 ≤ A) (hi2 : i < 128) (hb : bitI A i = false) : tp A (i + 1) = tp A i := by
  rw [tp_succ h0 hi2, hb]; simp
theorem row_set2 {w : World} {g : Nat} {a b c d e v : Value} {t : TypeId} (h : Row w g #[a, b, c, d, e] t) : Row (w.setCell ⟨g, 2, none⟩ v) g #[a, b, v, d, e] t := by simpa using h.set 2 v
theorem row_set3 {w : World} {g : Nat} {a b c d e v : Value} {t : TypeId} (h : Row w g #[a, b, c, d, e] t) : Row (w.setCell ⟨g, 3, none⟩ v) g #[a, b, c, v, e] t := by simpa using h.set 3 v
set_option maxRecDepth 100000 in
theorem rof_path (v : Value) (ls : List (List UInt8)) (h8 : ls.length ≤ 8) (hsl : ∀ x ∈ ls, x.length ≤ 16) (w : World) (hS : SS w v ls) : Calls Try.prog 82 #[.int .i64 3, v] w fun e w' => e = .returned (kv ⟨3, ls.length, 0, 0, jn ls⟩) ∧ Below w.heap.size w w' := by
  have HJ := Lib.hid (fun (w1 : World) (hS1 : SS w1 v ls) => rJoin_t v ls h8 hsl w1 hS1)
  have HS := Lib.hid (fun (w1 : World) (hb : Below w.heap.size w w1) => hS.later hb)
  obtain ⟨p, c, rfl, _, _⟩ := hS
  clear hsl
  generalize jn ls = q at *
  generalize hn : ls.length = n at *
  clear hn
  obtain ⟨R0, R1, hb0⟩ := two_rows w #[.int .i64 0, .int .i64 0, .int .u64 0, .int .u64 0, .string ⟨#[]⟩] #[.int .i64 3, .int .i64 n, .int .u64 0, .int .u64 0, .string ⟨#[]⟩] 30 30
  have HJ2 := Lib.hid (HJ.out _ (HS.out _ hb0))
  clear HJ HS
  have c0 := ((R0).cell 0).trans (show _ = some (Value.int .i64 0) from rfl)
  have cf0 := (R0).frozen 0
  have c1 := ((R0).cell 1).trans (show _ = some (Value.int .i64 0) from rfl)
  have cf1 := (R0).frozen 1
  have c2 := ((R0).cell 2).trans (show _ = some (Value.int .u64 0) from rfl)
  have cf2 := (R0).frozen 2
  have c3 := ((R0).cell 3).trans (show _ = some (Value.int .u64 0) from rfl)
  have cf3 := (R0).frozen 3
  have c4 := ((R0).cell 4).trans (show _ = some (Value.string ⟨#[]⟩) from rfl)
  have cf4 := (R0).frozen 4
  have d0 := ((R1).cell 0).trans (show _ = some (Value.int .i64 3) from rfl)
  have df0 := (R1).frozen 0
  have d1 := ((R1).cell 1).trans (show _ = some (Value.int .i64 n) from rfl)
  have df1 := (R1).frozen 1
  have d2 := ((R1).cell 2).trans (show _ = some (Value.int .u64 0) from rfl)
  have df2 := (R1).frozen 2
  have d3 := ((R1).cell 3).trans (show _ = some (Value.int .u64 0) from rfl)
  have df3 := (R1).frozen 3
  have d4 := ((R1).cell 4).trans (show _ = some (Value.string ⟨#[]⟩) from rfl)
  have df4 := (R1).frozen 4
  clear R0 R1
  unfold kv
  dsimp only
  go_enter Try.func82, Try.ntmps82
  go_wp2_with fail
  refine HJ2.out.mono ?_
  rintro e w1 ⟨rfl, rfl⟩
  clear HJ2
  go_wp2
  refine bodyPost_ret (v := .agg #[.int .i64 3, .int .i64 n, .int .u64 0, .int .u64 0, .string ⟨q.toArray⟩]) (by simp [results, Try.results82, go_sem]) rfl ⟨rfl, (by repeat (first | exact Below.refl _ _ | assumption | (with_reducible refine Below.setCell ?_ ?h _; case h => first | omega | (simp; done) | (simp; omega)) | (with_reducible refine Below.alloc ?_ ?h _; case h => first | omega | (simp; done) | (simp; omega)) | (with_reducible refine Below.drew ?_) | (with_reducible refine Below.trans ?_ (hb4.mono ?h); case h => first | omega | (simp; done) | (simp; omega)) | (with_reducible refine Below.trans ?_ (hb3.mono ?h); case h => first | omega | (simp; done) | (simp; omega)) | (with_reducible refine Below.trans ?_ (hb2.mono ?h); case h => first | omega | (simp; done) | (simp; omega)) | (with_reducible refine Below.trans ?_ (hb.mono ?h); case h => first | omega | (simp; done) | (simp; omega)) | (with_reducible refine Below.trans ?_ (hb0.mono ?h); case h => first | omega | (simp; done) | (simp; omega))))⟩
end Go.Proofs.Ytbekocknfpekoaa
namespace Go.Proofs.Ytbekocknfpekoaa
set_option linter.unusedVariables false
set_option linter.unusedSimpArgs false
open Go.RowKit
theorem hi_tp0 (A : Int) (h0 : 0 ≤ A) (h1 : A < MM) : hi (tp A 0) = 0 ∧ lo (tp A 0) = 0 := by
  have e : tp A 0 = 0 := by
    unfold tp
    have : A / 2 ^ (128 - 0) = 0 := Int.ediv_eq_zero_of_lt h0 (by unfold MM at h1; exact h1)
    rw [this, Int.zero_mul]
  rw [e]; exact ⟨rfl, rfl⟩
theorem of_step {A : Int} (h0 : 0 ≤ A) (h1 : A < MM) {i : Nat} (hi2 : i < 128) :
    (bitI A i = false ∧ hi (tp A (i + 1)) = hi (tp A i) ∧ lo (tp A (i + 1)) = lo (tp A i)) ∨
    (bitI A i = true ∧ i < 64 ∧ hi (tp A (i + 1)) = hi (tp A i) + 2 ^ (63 - i) ∧ lo (tp A (i + 1)) = lo (tp A i)) ∨
    (bitI A i = true ∧ 64 ≤ i ∧ hi (tp A (i + 1)) = hi (tp A i) ∧ lo (tp A (i + 1)) = lo (tp A i) + 2 ^ (127 - i)) := by
  cases hb : bitI A i with
  | false => left; rw [tp_clear h0 hi2 hb]; exact ⟨rfl, rfl, rfl⟩
  | true =>
    right
    by_cases h : i < 64
    · exact .inl ⟨rfl, h, tp_hi_set h0 h1 h hb⟩
    · exact .inr ⟨rfl, by omega, tp_lo_set h0 h1 (by omega) hi2 hb⟩
theorem bit_text (b : Bool) : ((⟨(bitS b).toArray⟩ : ByteArray).toList == (⟨#[49]⟩ : ByteArray).toList) = b := by
  cases b <;> decide +kernel
theorem bit_text2 (b : Bool) : ((⟨(bitS b).toArray⟩ : ByteArray).toList == [49]) = b := by
  cases b <;> decide +kernel
set_option maxRecDepth 100000 in
theorem rof_adr (kd : Int) (hk : ¬ kd = 3) (A : Int) (h0 : 0 ≤ A) (h1 : A < MM) (n : Nat) (hn : n ≤ 128) (v : Value) (w : World) (hS : SS w v ((List.range n).map fun i : Nat => bitS (bitI A i))) :
    Calls Try.prog 82 #[.int .i64 kd, v] w fun e w' => e = .returned (kv ⟨kd, n, hi (tp A n), lo (tp A n), []⟩) ∧ Below w.heap.size w w' := by
  have HST := Lib.hid (fun (i : Nat) (h : i < 128) => of_step h0 h1 (i := i) h)
  obtain ⟨z1, z2⟩ := hi_tp0 A h0 h1
  obtain ⟨p, c, rfl, hc, hp⟩ := hS
  rw [List.length_map, List.length_range] at hp hc ⊢
  have HP := Lib.hid (show 0 < n → ∃ g o, p = some ⟨g, o, none⟩ ∧ g < w.heap.size ∧ ∀ j : Nat, j < n → w.cell? ⟨g, o + j, none⟩ = some (.string ⟨(bitS (bitI A j)).toArray⟩) from fun h => by
    obtain ⟨g, o, e1, e2, e3⟩ := hp h
    exact ⟨g, o, e1, e2, fun j hj => e3 j _ (by rw [List.getElem?_map, List.getElem?_range hj]; rfl)⟩)
  clear hp hc
  have hk3 : (kd == 3) = false := by simpa using hk
  obtain ⟨R0, R1, hb0⟩ := two_rows w #[.int .i64 0, .int .i64 0, .int .u64 0, .int .u64 0, .string ⟨#[]⟩] #[.int .i64 kd, .int .i64 n, .int .u64 0, .int .u64 0, .string ⟨#[]⟩] 30 30
  replace R0 := Lib.hid R0
  have HR1 : Hid (Row ((w.alloc (.cells #[.int .i64 0, .int .i64 0, .int .u64 0, .int .u64 0, .string ⟨#[]⟩] 30)).alloc (.cells #[.int .i64 kd, .int .i64 n, .int .u64 0, .int .u64 0, .string ⟨#[]⟩] 30)) (w.heap.size + 1) #[.int .i64 kd, .int .i64 n, .int .u64 (hi (tp A 0)), .int .u64 (lo (tp A 0)), .string ⟨#[]⟩] 30) := Lib.hid (by rw [z1, z2]; exact R1)
  replace hb0 := Lib.hid hb0
  clear R1 z1 z2 h0 h1
  unfold kv
  dsimp only
  have hHL : ∀ x, hi (tp A x) ≤ 18446744073709551615 ∧ lo (tp A x) ≤ 18446744073709551615 := fun x => ⟨hi_le _, lo_le _⟩
  have HHL := Lib.hid hHL
  have HNN := Lib.hid (fun x => (⟨hi_nonneg (tp A x), lo_nonneg (tp A x)⟩ : 0 ≤ hi (tp A x) ∧ 0 ≤ lo (tp A x)))
  clear hHL
  obtain ⟨H, hH⟩ : ∃ H : Nat → Int, ∀ x, H x = hi (tp A x) := ⟨_, fun _ => rfl⟩
  obtain ⟨L, hL⟩ : ∃ L : Nat → Int, ∀ x, L x = lo (tp A x) := ⟨_, fun _ => rfl⟩
  simp only [← hH, ← hL] at *
  clear hH hL
  go_enter Try.func82, Try.ntmps82
  go_wp2_with fail
  go_loopw [6] (fun i wr => ∃ j : Nat, j ≤ n ∧ i = .int .i64 (j : Nat) ∧ Hid (Row wr w.heap.size #[.int .i64 0, .int .i64 0, .int .u64 0, .int .u64 0, .string ⟨#[]⟩] 30) ∧ Hid (Row wr (w.heap.size + 1) #[.int .i64 kd, .int .i64 n, .int .u64 (H j), .int .u64 (L j), .string ⟨#[]⟩] 30) ∧ Hid (Below w.heap.size w wr)) (fun i _ => n - (intOf i).toNat)
  case atStart => exact ⟨0, Nat.zero_le _, rfl, R0, HR1, hb0⟩
  case round =>
    clear R0 HR1 hb0
    obtain ⟨j, hj, rfl, R0, R1, hB⟩ := hrel
    by_cases hlt : j < n
    · obtain ⟨g, o, rfl, hg, hC⟩ := HP.out (by omega)
      have cA := (hB.out.cell (p := ⟨g, o + j, none⟩) hg).trans (hC j hlt)
      have tb := bit_text (bitI A j)
      have tb2 := bit_text2 (bitI A j)
      have hst := HST.out j (by omega)
      have b1 := (HHL.out (j + 1))
      have b2 := (HNN.out j)
      have b3 := (HHL.out j)
      clear HST HHL HNN HP hC
      generalize bitI A j = b at *
      generalize (⟨(bitS b).toArray⟩ : ByteArray) = tx at *
      have hsz : w.heap.size ≤ w.heap.size + 1 := by omega
      rcases hst with ⟨rfl, e1, e2⟩ | ⟨rfl, h64, e1, e2⟩ | ⟨rfl, h64, e1, e2⟩
      · rw [← e1, ← e2] at R1
        clear e1 e2 b1 b2 b3
        go_wp2
        exact ⟨⟨j + 1, by omega, by go_num, R0, R1, hB⟩, by simp [intOf]; omega⟩
      · have d2 := (R1.out.cell 2).trans (show _ = some (Value.int .u64 (H j)) from rfl)
        have df2 := R1.out.frozen 2
        obtain ⟨q, hq⟩ : ∃ q, 63 - j = q := ⟨_, rfl⟩
        rw [hq] at e1
        have pw := pow_word q (by omega)
        have t1 : ((63 : Int) - (j : Int)).toNat = q := by omega
        have t2 : IntKind.u64.wrap (63 - (j : Int)) = 63 - (j : Int) := by rw [IntKind.wrap_u64]; omega
        have t3 : IntKind.u64.wrap (2 ^ q) = 2 ^ q := by rw [IntKind.wrap_u64]; omega
        have t4 : IntKind.u64.wrap (H j + 2 ^ q) = H j + 2 ^ q := by rw [IntKind.wrap_u64]; omega
        have RN := Lib.hid (row_set2 (v := .int .u64 (H j + 2 ^ q)) R1.out)
        rw [← e2] at RN
        have R0N := Lib.hid (R0.out.set_far ⟨w.heap.size + 1, 2, none⟩ (.int .u64 (H j + 2 ^ q)) (by simp))
        have HBN := Lib.hid (hB.out.setCell (p := ⟨w.heap.size + 1, 2, none⟩) hsz (.int .u64 (H j + 2 ^ q)))
        have E1 := Lib.hid e1
        have lt : (j : Int) < 64 := by omega
        have lt' : ¬ (64 : Int) ≤ (j : Int) := by omega
        clear hq e1 e2 b1 b2 b3 hB R0 R1 pw
        go_wp2
        exact ⟨⟨j + 1, by omega, by go_num, R0N, by rw [E1.out]; exact RN, HBN⟩, by simp [intOf]; omega⟩
      · have d2 := (R1.out.cell 3).trans (show _ = some (Value.int .u64 (L j)) from rfl)
        have df2 := R1.out.frozen 3
        obtain ⟨q, hq⟩ : ∃ q, 127 - j = q := ⟨_, rfl⟩
        rw [hq] at e2
        have pw := pow_word q (by omega)
        have t1 : ((127 : Int) - (j : Int)).toNat = q := by omega
        have t2 : IntKind.u64.wrap (127 - (j : Int)) = 127 - (j : Int) := by rw [IntKind.wrap_u64]; omega
        have t3 : IntKind.u64.wrap (2 ^ q) = 2 ^ q := by rw [IntKind.wrap_u64]; omega
        have t4 : IntKind.u64.wrap (L j + 2 ^ q) = L j + 2 ^ q := by rw [IntKind.wrap_u64]; omega
        have RN := Lib.hid (row_set3 (v := .int .u64 (L j + 2 ^ q)) R1.out)
        rw [← e1] at RN
        have R0N := Lib.hid (R0.out.set_far ⟨w.heap.size + 1, 3, none⟩ (.int .u64 (L j + 2 ^ q)) (by simp))
        have HBN := Lib.hid (hB.out.setCell (p := ⟨w.heap.size + 1, 3, none⟩) hsz (.int .u64 (L j + 2 ^ q)))
        have E1 := Lib.hid e2
        have lt : ¬ (j : Int) < 64 := by omega
        have lt' : (64 : Int) ≤ (j : Int) := by omega
        clear hq e1 e2 b1 b2 b3 hB R0 R1 pw
        go_wp2
        exact ⟨⟨j + 1, by omega, by go_num, R0N, by rw [E1.out]; exact RN, HBN⟩, by simp [intOf]; omega⟩
    · have hjn : j = n := by omega
      subst hjn
      have HB := hB.out
      have c0 := ((R0.out).cell 0).trans (show _ = some (Value.int .i64 0) from rfl)
      have cf0 := (R0.out).frozen 0
      have c1 := ((R0.out).cell 1).trans (show _ = some (Value.int .i64 0) from rfl)
      have cf1 := (R0.out).frozen 1
      have c2 := ((R0.out).cell 2).trans (show _ = some (Value.int .u64 0) from rfl)
      have cf2 := (R0.out).frozen 2
      have c3 := ((R0.out).cell 3).trans (show _ = some (Value.int .u64 0) from rfl)
      have cf3 := (R0.out).frozen 3
      have c4 := ((R0.out).cell 4).trans (show _ = some (Value.string ⟨#[]⟩) from rfl)
      have cf4 := (R0.out).frozen 4
      have d0 := ((R1.out).cell 0).trans (show _ = some (Value.int .i64 kd) from rfl)
      have df0 := (R1.out).frozen 0
      have d1 := ((R1.out).cell 1).trans (show _ = some (Value.int .i64 j) from rfl)
      have df1 := (R1.out).frozen 1
      have d2 := ((R1.out).cell 2).trans (show _ = some (Value.int .u64 (H j)) from rfl)
      have df2 := (R1.out).frozen 2
      have d3 := ((R1.out).cell 3).trans (show _ = some (Value.int .u64 (L j)) from rfl)
      have df3 := (R1.out).frozen 3
      have d4 := ((R1.out).cell 4).trans (show _ = some (Value.string ⟨#[]⟩) from rfl)
      have df4 := (R1.out).frozen 4
      clear R0 R1 HST HHL HNN HP hB
      go_wp2
      refine bodyPost_ret (v := .agg #[.int .i64 kd, .int .i64 j, .int .u64 (H j), .int .u64 (L j), .string ⟨#[]⟩]) (by simp [results, Try.results82, go_sem, c0, c1, c2, c3, c4]) rfl ⟨rfl, bset5 HB (Nat.le_refl _) _ _ _ _ _⟩
end Go.Proofs.Ytbekocknfpekoaa
namespace Go.Proofs.Ytbekocknfpekoaa
set_option linter.unusedVariables false
set_option linter.unusedSimpArgs false
open Go.RowKit
theorem letters_t (k : Ke) (ok : k.ok) (w : World) : Calls Try.prog 98 #[kv k] w (LetPost k w) := by
  by_cases h3 : k.kind = 3
  · exact letters_path k h3 ok.path w
  · by_cases hb : wid k.kind = 0 ∨ k.len < 0 ∨ wid k.kind < k.len ∨ k.path ≠ []
    · exact letters_adr_bad k h3 hb w
    · obtain ⟨kd, len, h, l, p⟩ := k
      have o1 := ok.h
      have o2 := ok.l
      clear ok
      dsimp only at *
      have hp : p = [] := Classical.byContradiction fun e => hb (.inr (.inr (.inr e)))
      subst hp
      have hl0 : 0 ≤ len := by omega
      obtain ⟨n, rfl⟩ := Int.eq_ofNat_of_zero_le hl0
      refine letters_adr_go kd n h l ?_ (by omega) o1 o2 w
      by_cases h1 : kd = 1
      · exact .inl h1
      · by_cases h2 : kd = 2
        · exact .inr h2
        · exfalso
          apply hb
          left
          unfold wid; rw [if_neg h1, if_neg h2, if_neg h3]
theorem ss_take {w : World} {p : Option Addr} {n c : Nat} {ls : List (List UInt8)} (h : SS w (.slice p n c) ls) (m : Nat) (hm : m ≤ ls.length) : SS w (.slice p m c) (ls.take m) ∧ m ≤ c := by
  obtain ⟨p', c', e, hc, hp⟩ := h
  cases e
  refine ⟨⟨p, c, by rw [List.length_take, Nat.min_eq_left hm], by rw [List.length_take]; omega, fun h0 => ?_⟩, by omega⟩
  rw [List.length_take] at h0
  obtain ⟨g, o, e1, e2, e3⟩ := hp (by omega)
  refine ⟨g, o, e1, e2, fun j x hx => e3 j x ?_⟩
  rw [List.getElem?_take] at hx
  split at hx
  · exact hx
  · cases hx
theorem letK_small {k : Ke} (h : rightK k = true) : (letK k).length ≤ 128 := by
  have h1 := letK_len h
  have h2 := len_range h
  omega
theorem rof_take (k : Ke) (ok : k.ok) (hr : rightK k = true) (m : Nat) (hm : m ≤ (letK k).length) (v : Value) (w : World) (hS : SS w v ((letK k).take m)) : Calls Try.prog 82 #[.int .i64 k.kind, v] w fun e w' => e = .returned (kv (topK k m)) ∧ Below w.heap.size w w' := by
  rcases right_kind hr with hk | hk
  · have A := adr_of_right hr hk
    have hl := letK_len hr
    have h8 := letK_small hr
    have e : (letK k).take m = (List.range m).map fun i : Nat => bitS (bitI k.num i) := by
      rw [letK_adr A, ← List.map_take, List.take_range, Nat.min_eq_left (by omega)]
    rw [e] at hS
    have h := rof_adr k.kind A.ne k.num A.range.1 A.range.2 m (by omega) v w hS
    have et : topK k m = ⟨k.kind, m, hi (tp k.num m), lo (tp k.num m), []⟩ := by
      unfold topK
      rw [if_neg A.ne, tp_eq k.num m A.range.1 A.range.2 (by omega), Int.toNat_natCast]
    rw [et]
    exact h
  · have e : letK k = labsL k.path := by unfold letK; rw [if_pos hk]
    rw [e] at hS hm
    have h8 := labsL_len k.path
    have h := rof_path v ((labsL k.path).take m) (by rw [List.length_take]; omega) (fun x hx => labB_len (labs_all k.path x (List.mem_of_mem_take hx))) w hS
    have et : topK k m = ⟨3, m, 0, 0, jn ((labsL k.path).take m)⟩ := by
      unfold topK topL
      rw [if_pos hk, Int.toNat_natCast]
    rw [et, hk]
    rw [List.length_take, Nat.min_eq_left hm] at h
    exact h
theorem rright_t (k : Ke) (ok : k.ok) (w : World) : Calls Try.prog 80 #[kv k] w fun e w' => e = .returned (.bool (rightK k)) ∧ Below w.heap.size w w' := by
  have HL : ∀ w1, Calls Try.prog 98 #[kv k] w1 fun e w' => ∃ v, e = .returned (.tuple #[v, .bool (rightK k)]) ∧ SS w' v (letR k) ∧ Below w1.heap.size w1 w' := fun w1 => letters_t k ok w1
  generalize rightK k = r at *
  generalize letR k = ls at *
  clear ok
  unfold kv at *
  have hb0 : Below w.heap.size w (w.alloc (.cells #[.int .i64 k.kind, .int .i64 k.len, .int .u64 k.h, .int .u64 k.l, .string ⟨k.path.toArray⟩] 30)) := (by repeat (first | exact Below.refl _ _ | assumption | (with_reducible refine Below.setCell ?_ ?h _; case h => first | omega | (simp; done) | (simp; omega)) | (with_reducible refine Below.alloc ?_ ?h _; case h => first | omega | (simp; done) | (simp; omega)) | (with_reducible refine Below.drew ?_) | (with_reducible refine Below.trans ?_ (hb4.mono ?h); case h => first | omega | (simp; done) | (simp; omega)) | (with_reducible refine Below.trans ?_ (hb3.mono ?h); case h => first | omega | (simp; done) | (simp; omega)) | (with_reducible refine Below.trans ?_ (hb2.mono ?h); case h => first | omega | (simp; done) | (simp; omega)) | (with_reducible refine Below.trans ?_ (hb.mono ?h); case h => first | omega | (simp; done) | (simp; omega)) | (with_reducible refine Below.trans ?_ (hb0.mono ?h); case h => first | omega | (simp; done) | (simp; omega))))
  go_enter Try.func80, Try.ntmps80
  go_wp2_with fail
  refine (HL _).mono ?_
  rintro e w1 ⟨v, rfl, _, hb⟩
  replace hb0 := below_step hb0 hb
  clear hb HL
  go_wp2
  go_ret
  exact ⟨rfl, hb0⟩
end Go.Proofs.Ytbekocknfpekoaa
namespace Go.Proofs.Ytbekocknfpekoaa
set_option linter.unusedVariables false
set_option linter.unusedSimpArgs false
open Go.RowKit
structure Sp where
  n : Int
  d0 : Dm
  d1 : Dm
  deriving DecidableEq
structure Px where
  a0 : Int
  a1 : Int
  k0 : Ke
  k1 : Ke
  deriving DecidableEq
def sv (s : Sp) : Value := .agg #[.int .i64 s.n, .int .i64 s.d0.kind, .int .i64 s.d0.side, .int .i64 s.d0.step, .int .i64 s.d1.kind, .int .i64 s.d1.side, .int .i64 s.d1.step]
def pv (p : Px) : Value := .agg #[.int .i64 p.a0, .int .i64 p.a1, .int .i64 p.k0.kind, .int .i64 p.k0.len, .int .u64 p.k0.h, .int .u64 p.k0.l, .string ⟨p.k0.path.toArray⟩, .int .i64 p.k1.kind, .int .i64 p.k1.len, .int .u64 p.k1.h, .int .u64 p.k1.l, .string ⟨p.k1.path.toArray⟩]
theorem eqIn_int (d : Nat) (a b : Int) (w : World) : (Op.equalIn (d + 1) 3 (.int .i64 a) (.int .i64 b)).run Try.prog w = .ok (decide (a = b)) w := by
  simp only [Op.equalIn, Sem.run_bind, run_underlying Try.underlying3, Result.andThen_ok]
  simp [go_sem]
  rfl
theorem eqIn_word (d : Nat) (a b : Int) (w : World) : (Op.equalIn (d + 1) 28 (.int .u64 a) (.int .u64 b)).run Try.prog w = .ok (decide (a = b)) w := by
  simp only [Op.equalIn, Sem.run_bind, run_underlying Try.underlying28, Result.andThen_ok]
  simp [go_sem]
  rfl
theorem ba_beq (a b : ByteArray) : (a == b) = decide (a = b) := by rw [Bool.eq_iff_iff, decide_eq_true_eq]; exact MapKept.bytes_beq a b
theorem eqIn_str (d : Nat) (a b : ByteArray) (w : World) : (Op.equalIn (d + 1) 9 (.string a) (.string b)).run Try.prog w = .ok (decide (a = b)) w := by
  simp only [Op.equalIn, Sem.run_bind, run_underlying Try.underlying9, Result.andThen_ok]
  rw [ba_beq]; rfl
theorem eqIn_key (d : Nat) (a0 a1 a2 a3 : Int) (a4 : ByteArray) (b0 b1 b2 b3 : Int) (b4 : ByteArray) (w : World) : (Op.equalIn (d + 2) 30 (.agg #[.int .i64 a0, .int .i64 a1, .int .u64 a2, .int .u64 a3, .string a4]) (.agg #[.int .i64 b0, .int .i64 b1, .int .u64 b2, .int .u64 b3, .string b4])).run Try.prog w = .ok (eqK a0 a1 a2 a3 a4 b0 b1 b2 b3 b4) w := by
  have e1 := eqIn_int d
  have e2 := eqIn_word d
  have e3 := eqIn_str d
  rw [show d + 2 = (d + 1) + 1 from rfl, run_equalIn_struct _ _ _ _ _ (by kernel_rfl) (by kernel_rfl), show (Try.prog.fieldsOf 30).toList = _ from by unfold Program.fieldsOf; rw [Try.underlying30]]
  unfold eqK
  simp [go_sem, Op.eqFields, e1, e2, e3]
  by_cases h0 : a0 = b0 <;> by_cases h1 : a1 = b1 <;> by_cases h2 : a2 = b2 <;> by_cases h3 : a3 = b3 <;> by_cases h4 : a4 = b4 <;> simp [go_sem, h0, h1, h2, h3, h4]
theorem eqIn_dim (d : Nat) (x y : Dm) (w : World) : (Op.equalIn (d + 2) 23 (dv x) (dv y)).run Try.prog w = .ok (decide (x = y)) w := by
  have e1 := eqIn_int d
  obtain ⟨a0, a1, a2⟩ := x
  obtain ⟨b0, b1, b2⟩ := y
  unfold dv
  rw [show d + 2 = (d + 1) + 1 from rfl, run_equalIn_struct _ _ _ _ _ (by kernel_rfl) (by kernel_rfl), show (Try.prog.fieldsOf 23).toList = _ from by unfold Program.fieldsOf; rw [Try.underlying23]]
  simp [go_sem, Op.eqFields, e1]
  by_cases h0 : a0 = b0 <;> by_cases h1 : a1 = b1 <;> by_cases h2 : a2 = b2 <;> simp [go_sem, h0, h1, h2]
theorem eqIn_at (d : Nat) (a0 a1 b0 b1 : Int) (w : World) : (Op.equalIn (d + 2) 27 (.agg #[.int .i64 a0, .int .i64 a1]) (.agg #[.int .i64 b0, .int .i64 b1])).run Try.prog w = .ok (decide (a0 = b0 ∧ a1 = b1)) w := by
  have e1 := eqIn_int d
  obtain ⟨i, hi⟩ := info_of_underlying Try.underlying3
  have hc : Try.prog.cellsOf 3 = 1 := by kernel_rfl
  rw [show d + 2 = (d + 1) + 1 from rfl, run_equalIn_array _ _ _ _ Try.underlying27 hi, hc, show List.range 2 = [0, 1] from rfl]
  simp [go_sem, Op.eqItems, e1]
  by_cases h0 : a0 = b0 <;> by_cases h1 : a1 = b1 <;> simp [go_sem, h0, h1]
def keys2 (a b : Ke) : Value := .agg #[.int .i64 a.kind, .int .i64 a.len, .int .u64 a.h, .int .u64 a.l, .string ⟨a.path.toArray⟩, .int .i64 b.kind, .int .i64 b.len, .int .u64 b.h, .int .u64 b.l, .string ⟨b.path.toArray⟩]
theorem eqIn_keys (d : Nat) (a b x y : Ke) (w : World) : (Op.equalIn (d + 3) 31 (keys2 a b) (keys2 x y)).run Try.prog w = .ok (decide (a = x ∧ b = y)) w := by
  have e1 := eqIn_key d
  have e2 := eqK_ke a x
  have e3 := eqK_ke b y
  obtain ⟨i, hi⟩ := info_of_underlying Try.underlying30
  have hc : Try.prog.cellsOf 30 = 5 := by kernel_rfl
  unfold keys2
  rw [show d + 3 = (d + 2) + 1 from rfl, run_equalIn_array _ _ _ _ Try.underlying31 hi, hc, show List.range 2 = [0, 1] from rfl]
  simp [go_sem, Op.eqItems, e1, e2, e3]
  by_cases h0 : a = x <;> by_cases h1 : b = y <;> simp [go_sem, h0, h1]
theorem px_ext {p q : Px} (h0 : p.a0 = q.a0) (h1 : p.a1 = q.a1) (h2 : p.k0 = q.k0) (h3 : p.k1 = q.k1) : p = q := by cases p; cases q; simp_all
theorem px_iff (p q : Px) : p = q ↔ (p.a0 = q.a0 ∧ p.a1 = q.a1) ∧ p.k0 = q.k0 ∧ p.k1 = q.k1 := ⟨by rintro rfl; simp, fun ⟨⟨h0, h1⟩, h2, h3⟩ => px_ext h0 h1 h2 h3⟩
theorem eqIn_px (d : Nat) (p q : Px) (w : World) : (Op.equalIn (d + 4) 33 (pv p) (pv q)).run Try.prog w = .ok (decide (p = q)) w := by
  have e1 := eqIn_at (d + 1)
  have e2 := eqIn_keys d p.k0 p.k1 q.k0 q.k1
  have e3 := px_iff p q
  unfold pv
  unfold keys2 at e2
  rw [show d + 4 = (d + 3) + 1 from rfl, run_equalIn_struct _ _ _ _ _ (by kernel_rfl) (by kernel_rfl), show (Try.prog.fieldsOf 33).toList = _ from by unfold Program.fieldsOf; rw [Try.underlying33]]
  rw [show decide (p = q) = (decide (p.a0 = q.a0 ∧ p.a1 = q.a1) && decide (p.k0 = q.k0 ∧ p.k1 = q.k1)) from by rw [Bool.eq_iff_iff]; simp only [Bool.and_eq_true, decide_eq_true_eq]; exact e3]
  simp [go_sem, Op.eqFields, e1, e2]
  by_cases h0 : p.a0 = q.a0 <;> by_cases h1 : p.a1 = q.a1 <;> by_cases h2 : p.k0 = q.k0 <;> by_cases h3 : p.k1 = q.k1 <;> simp [go_sem, h0, h1, h2, h3]
theorem eql_px (p q : Px) (w : World) : (binOp .eql 33 (pv p) (pv q)).run Try.prog w = .ok (.bool (decide (p = q))) w := by
  have e := eqIn_px 9996 p q
  unfold pv at *
  simp [go_sem, e]
theorem eql_dim (p q : Dm) (w : World) : (binOp .eql 23 (dv p) (dv q)).run Try.prog w = .ok (.bool (decide (p = q))) w := by
  have e := eqIn_dim 9998 p q
  unfold dv at *
  simp [go_sem, e]
theorem neq_dim (p q : Dm) (w : World) : (binOp .neq 23 (dv p) (dv q)).run Try.prog w = .ok (.bool (!decide (p = q))) w := by
  have e := eqIn_dim 9998 p q
  unfold dv at *
  simp [go_sem, e]
theorem four_rows (w : World) (a0 a1 a2 a3 : Array Value) (t0 t1 t2 t3 : TypeId) : Row ((((w.alloc (.cells a0 t0)).alloc (.cells a1 t1)).alloc (.cells a2 t2)).alloc (.cells a3 t3)) (w.heap.size) a0 t0 ∧ Row ((((w.alloc (.cells a0 t0)).alloc (.cells a1 t1)).alloc (.cells a2 t2)).alloc (.cells a3 t3)) (w.heap.size + 1) a1 t1 ∧ Row ((((w.alloc (.cells a0 t0)).alloc (.cells a1 t1)).alloc (.cells a2 t2)).alloc (.cells a3 t3)) (w.heap.size + 1 + 1) a2 t2 ∧ Row ((((w.alloc (.cells a0 t0)).alloc (.cells a1 t1)).alloc (.cells a2 t2)).alloc (.cells a3 t3)) (w.heap.size + 1 + 1 + 1) a3 t3 ∧ Below w.heap.size w ((((w.alloc (.cells a0 t0)).alloc (.cells a1 t1)).alloc (.cells a2 t2)).alloc (.cells a3 t3)) := by
  obtain ⟨h0, h1, h2, hb⟩ := three_rows w a0 a1 a2 t0 t1 t2
  refine ⟨h0.alloc _, h1.alloc _, h2.alloc _, ?_, hb.alloc hb.size _⟩
  have := Row.new (((w.alloc (.cells a0 t0)).alloc (.cells a1 t1)).alloc (.cells a2 t2)) a3 t3
  rwa [World.size_alloc, World.size_alloc, World.size_alloc] at this
theorem set12 {w : World} {g : Nat} {cs : Array Value} {t : TypeId} (h : Row w g cs t) (hs : cs.size = 12) (v0 v1 v2 v3 v4 v5 v6 v7 v8 v9 v10 v11 : Value) : Row ((((((((((((w.setCell ⟨g, 0, none⟩ v0).setCell ⟨g, 1, none⟩ v1).setCell ⟨g, 2, none⟩ v2).setCell ⟨g, 3, none⟩ v3).setCell ⟨g, 4, none⟩ v4).setCell ⟨g, 5, none⟩ v5).setCell ⟨g, 6, none⟩ v6).setCell ⟨g, 7, none⟩ v7).setCell ⟨g, 8, none⟩ v8).setCell ⟨g, 9, none⟩ v9).setCell ⟨g, 10, none⟩ v10).setCell ⟨g, 11, none⟩ v11) g #[v0, v1, v2, v3, v4, v5, v6, v7, v8, v9, v10, v11] t := by
  have r := Row.setCells [v0, v1, v2, v3, v4, v5, v6, v7, v8, v9, v10, v11] 0 h
  have e := setL_all cs #[v0, v1, v2, v3, v4, v5, v6, v7, v8, v9, v10, v11] (by simp [hs])
  rw [show (#[v0, v1, v2, v3, v4, v5, v6, v7, v8, v9, v10, v11] : Array Value).toList = [v0, v1, v2, v3, v4, v5, v6, v7, v8, v9, v10, v11] from rfl] at e
  rw [e] at r
  exact r
theorem bset12 {w w1 : World} {g : Nat} (hb : Below w.heap.size w w1) (hg : w.heap.size ≤ g) (v0 v1 v2 v3 v4 v5 v6 v7 v8 v9 v10 v11 : Value) : Below w.heap.size w ((((((((((((w1.setCell ⟨g, 0, none⟩ v0).setCell ⟨g, 1, none⟩ v1).setCell ⟨g, 2, none⟩ v2).setCell ⟨g, 3, none⟩ v3).setCell ⟨g, 4, none⟩ v4).setCell ⟨g, 5, none⟩ v5).setCell ⟨g, 6, none⟩ v6).setCell ⟨g, 7, none⟩ v7).setCell ⟨g, 8, none⟩ v8).setCell ⟨g, 9, none⟩ v9).setCell ⟨g, 10, none⟩ v10).setCell ⟨g, 11, none⟩ v11) :=
  below_setCells hg [v0, v1, v2, v3, v4, v5, v6, v7, v8, v9, v10, v11] 0 w1 hb
theorem pcell_far {w : World} {g o : Nat} {vs : List Value} {a : Addr} {v : Value} (h : w.cell? a = some v) (hne : a.block ≠ g) : (w.setCells g o vs).cell? a = some v := by
  rw [World.cell?_setCells_out g vs o w a (fun e => absurd e hne)]; exact h
theorem prow_far {w : World} {g k o : Nat} {vs : List Value} {cs : Array Value} {t : TypeId} (h : Row w k cs t) (hne : k ≠ g) : Row (w.setCells g o vs) k cs t := (setCells_other hne vs o w).trans h
theorem Row.setMany {w : World} {g : Nat} {cs ds : Array Value} {t : TypeId} (h : Row w g cs t) (o : Nat) (vs : List Value) (e : setL cs o vs = ds) : Row (w.setCells g o vs) g ds t := e ▸ Row.setCells vs o h
theorem pexec_load {P : Program} {o : Oper} {a : Act} {w : World} (ty : TypeId) (x : Operand) (ho : o.op = .load ty x) (g : Nat) (hx : a.eval x = .pointer (some ⟨g, 0, none⟩)) (t : TypeId) (cs : Array Value) (d : TypeDesc) (hg : Row w g cs t)
    (hu : P.underlying ty = some d) (hd : (match d with | .struct _ | .array _ _ => true | _ => false) = true) (hi : (P.info? ty).map (·.size) = some cs.size) : (execOp a.eval o).run P w = .ok (.value (.agg cs)) w := by
  unfold execOp
  simp only [ho, hx, Instr.loadAt, Instr.sureAddr, Sem.run_bind, Sem.run_pure, Result.andThen_ok, run_loadVar_row w g t ty cs (0, 0) d hg hu hd hi]
theorem Row.thereAt {w : World} {g : Nat} {cs : Array Value} {t : TypeId} (h : Row w g cs t) (o n : Nat) (hn : o + n ≤ cs.size) : w.there g o n := fun j hj => by
  rw [h.cell (o + j), h.frozen (o + j), Array.getElem?_eq_getElem (by omega)]
  exact ⟨rfl, rfl⟩
theorem infoPx : (Try.prog.info? 33).map (·.size) = some 12 := by kernel_rfl
theorem infoSp : (Try.prog.info? 26).map (·.size) = some 7 := by kernel_rfl
theorem prf {w w' : World} {g k o : Nat} {vs : List Value} {cs : Array Value} {t : TypeId} (hw : w' = w.setCells g o vs) (h : Row w k cs t) (hne : k ≠ g := by first | omega | (simp; done) | (simp; omega) | omega) : Row w' k cs t := hw ▸ prow_far h hne
theorem psm {w w' : World} {g o : Nat} {vs : List Value} {cs ds : Array Value} {t : TypeId} (hw : w' = w.setCells g o vs) (h : Row w g cs t) (e : setL cs o vs = ds) : Row w' g ds t := hw ▸ Row.setMany h o vs e
theorem pbl {B g o : Nat} {a w w' : World} {vs : List Value} (hw : w' = w.setCells g o vs) (h : Below B a w) (hg : B ≤ g := by omega) : Below B a w' := hw ▸ below_setCells hg vs o w h
theorem pst {P : Program} {op : Oper} {a : Act} {w : World} {K : Act → World → Prop} {Q : Exit → Act → World → Prop} (ty : TypeId) (x y : Operand) (ho : op.op = .store ty x y)
    (b o : Nat) (cells : Array Value) (hx : a.eval x = .pointer (some ⟨b, o, none⟩)) (hy : a.eval y = .agg cells)
    (ht : w.there b o cells.size) (hi : (P.info? ty).map (·.size) = some cells.size) (h1 : cells.all (·.oneCell') = true)
    (h : ∀ w', w' = w.setCells b o cells.toList → K (a.put op.dst undef) w') : op.wp P a w K Q := wp_store_mid ty x y ho b o cells hx hy ht hi h1 (h _ rfl)
theorem psw {w w' : World} {g : Nat} {cells cs : Array Value} {t : TypeId} (hw : w' = w.setCells g 0 cells.toList) (h : Row w g cs t) (e : setL cs 0 cells.toList = cells := by simp [setL]) : Row w' g cells t := hw ▸ Row.setMany h 0 _ e
end Go.Proofs.Ytbekocknfpekoaa
namespace Go.Proofs.Ytbekocknfpekoaa
set_option linter.unusedVariables false
set_option linter.unusedSimpArgs false
open Go.RowKit
def dz : Dm := ⟨0, 0, 0⟩
def pz : Px := ⟨0, 0, kz, kz⟩
def soundS (s : Sp) : Bool := if s.n = 1 then rightD s.d0 && decide (s.d1 = dz) else decide (s.n = 2) && (rightD s.d0 && rightD s.d1)
def rightP (s : Sp) (p : Px) : Bool := soundS s && (onD s.d0 p.a0 p.k0 && (if s.n = 1 then decide (p.a1 = 0) && decide (p.k1 = kz) else onD s.d1 p.a1 p.k1))
set_option maxRecDepth 100000 in
theorem on0_t (s : Sp) (l : Int) (k : Ke) (ok : k.ok) (hn : 1 ≤ s.n) (w : World) : Calls Try.prog 53 #[sv s, .int .i64 0, .int .i64 l, kv k] w fun e w' => e = .returned (.bool (onD s.d0 l k)) ∧ Below w.heap.size w w' := by
  have HO := don_t s.d0 l k ok
  generalize onD s.d0 l k = r at *
  unfold sv kv dv at *
  obtain ⟨RR0, RR1, hb0⟩ := two_rows w #[.int .i64 s.n, .int .i64 s.d0.kind, .int .i64 s.d0.side, .int .i64 s.d0.step, .int .i64 s.d1.kind, .int .i64 s.d1.side, .int .i64 s.d1.step] #[.int .i64 k.kind, .int .i64 k.len, .int .u64 k.h, .int .u64 k.l, .string ⟨k.path.toArray⟩] 26 30
  have c0 := (RR0.cell 0).trans (show _ = some (Value.int .i64 s.n) from rfl)
  have c1 := (RR0.cell 1).trans (show _ = some (Value.int .i64 s.d0.kind) from rfl)
  have c2 := (RR0.cell 2).trans (show _ = some (Value.int .i64 s.d0.side) from rfl)
  have c3 := (RR0.cell 3).trans (show _ = some (Value.int .i64 s.d0.step) from rfl)
  have c4 := (RR0.cell 4).trans (show _ = some (Value.int .i64 s.d1.kind) from rfl)
  have c5 := (RR0.cell 5).trans (show _ = some (Value.int .i64 s.d1.side) from rfl)
  have c6 := (RR0.cell 6).trans (show _ = some (Value.int .i64 s.d1.step) from rfl)
  have d0 := (RR1.cell 0).trans (show _ = some (Value.int .i64 k.kind) from rfl)
  have d1 := (RR1.cell 1).trans (show _ = some (Value.int .i64 k.len) from rfl)
  have d2 := (RR1.cell 2).trans (show _ = some (Value.int .u64 k.h) from rfl)
  have d3 := (RR1.cell 3).trans (show _ = some (Value.int .u64 k.l) from rfl)
  have d4 := (RR1.cell 4).trans (show _ = some (Value.string ⟨k.path.toArray⟩) from rfl)
  clear RR0 RR1
  go_enter Try.func53, Try.ntmps53
  go_wp2_with fail
  refine wp_region_held_drew (S := (fun w' => w'.cell? ⟨w.heap.size, 0, none⟩ = some (.int .i64 s.n) ∧ w'.cell? ⟨w.heap.size, 1, none⟩ = some (.int .i64 s.d0.kind) ∧ w'.cell? ⟨w.heap.size, 2, none⟩ = some (.int .i64 s.d0.side) ∧ w'.cell? ⟨w.heap.size, 3, none⟩ = some (.int .i64 s.d0.step) ∧ w'.cell? ⟨w.heap.size, 4, none⟩ = some (.int .i64 s.d1.kind) ∧ w'.cell? ⟨w.heap.size, 5, none⟩ = some (.int .i64 s.d1.side) ∧ w'.cell? ⟨w.heap.size, 6, none⟩ = some (.int .i64 s.d1.step) ∧ w'.cell? ⟨w.heap.size + 1, 0, none⟩ = some (.int .i64 k.kind) ∧ w'.cell? ⟨w.heap.size + 1, 1, none⟩ = some (.int .i64 k.len) ∧ w'.cell? ⟨w.heap.size + 1, 2, none⟩ = some (.int .u64 k.h) ∧ w'.cell? ⟨w.heap.size + 1, 3, none⟩ = some (.int .u64 k.l) ∧ w'.cell? ⟨w.heap.size + 1, 4, none⟩ = some (.string ⟨k.path.toArray⟩) ∧ Below w.heap.size w w')) (by kernel_rfl) ?hSr25_ (fun hHeld => ?_)
  case hSr25_ => (first | exact ⟨c0, c1, c2, c3, c4, c5, c6, d0, d1, d2, d3, d4, hb0.drew⟩ | exact ⟨c0, c1, c2, c3, c4, c5, c6, d0, d1, d2, d3, d4, hb0⟩ | (obtain ⟨c0, c1, c2, c3, c4, c5, c6, d0, d1, d2, d3, d4, hb0⟩ := hHeld; exact ⟨cell_later hb c0, cell_later hb c1, cell_later hb c2, cell_later hb c3, cell_later hb c4, cell_later hb c5, cell_later hb c6, cell_later hb d0, cell_later hb d1, cell_later hb d2, cell_later hb d3, cell_later hb d4, below_step hb0 hb⟩))
  refine tk 0 ⟨some 20, .move (.tmp 1), 3, _, _, _⟩ hHeld ?_
  (try simp only [Act.put, nz1, nz2, nz3])
  refine tk 1 ⟨some 21, .fieldAddr 26 (.tmp 4) 1, 0, _, _, _⟩ hHeld ?_
  (try simp only [Act.put, nz1, nz2, nz3])
  refine tk 2 ⟨some 22, .indexAddr 24 (.tmp 21) (.tmp 20), 0, _, _, _⟩ hHeld ?_
  (try simp only [Act.put, nz1, nz2, nz3])
  refine tk 3 ⟨some 23, .load 23 (.tmp 22), 23, _, _, _⟩ hHeld ?_
  (try simp only [Act.put, nz1, nz2, nz3])
  refine tk 4 ⟨some 24, .move (.tmp 2), 3, _, _, _⟩ hHeld ?_
  (try simp only [Act.put, nz1, nz2, nz3])
  refine tk 5 ⟨some 25, .load 30 (.tmp 7), 30, _, _, _⟩ hHeld ?_
  (try simp only [Act.put, nz1, nz2, nz3])
  refine wpAnyH_ready (rs := [6]) (by kernel_rfl) (by simp) ?_
  refine AllReadyH.cons (o := ⟨some 26, .call { callee := .value (.func 78), args := #[.tmp 23, .tmp 24, .tmp 25], argTypes := #[23, 3, 30] }, 4, _, _, _⟩) rfl (fun K hK => ?_) AllReadyH.nil
  (go_simp; (refine (HO _).mono ?_); (rintro e wn ⟨rfl, hb⟩); go_wp2_with fail)
  refine hK.out _ _ ?hSr25_7_6 (fun hHeld2 => ?_)
  case hSr25_7_6 => (first | exact ⟨c0, c1, c2, c3, c4, c5, c6, d0, d1, d2, d3, d4, hb0.drew⟩ | exact ⟨c0, c1, c2, c3, c4, c5, c6, d0, d1, d2, d3, d4, hb0⟩ | (obtain ⟨c0, c1, c2, c3, c4, c5, c6, d0, d1, d2, d3, d4, hb0⟩ := hHeld; exact ⟨cell_later hb c0, cell_later hb c1, cell_later hb c2, cell_later hb c3, cell_later hb c4, cell_later hb c5, cell_later hb c6, cell_later hb d0, cell_later hb d1, cell_later hb d2, cell_later hb d3, cell_later hb d4, below_step hb0 hb⟩))
  clear hK K hHeld
  have hHeld := hHeld2
  clear hHeld2
  (try simp only [Act.put, nz1, nz2, nz3])
  refine tk 7 ⟨some 8, .assign (.tmp 26), 4, _, _, _⟩ hHeld ?_
  (try simp only [Act.put, nz1, nz2, nz3])
  refine wpAnyH_done (by kernel_rfl) ?_ _
  clear c0 c1 c2 c3 c4 c5 c6 d0 d1 d2 d3 d4 hb0
  obtain ⟨c0, c1, c2, c3, c4, c5, c6, d0, d1, d2, d3, d4, hb0⟩ := hHeld
  go_wp2
  go_ret
  exact ⟨rfl, hb0⟩
set_option maxRecDepth 100000 in
theorem on2_t (s : Sp) (l : Int) (k : Ke) (ok : k.ok) (hn : 2 ≤ s.n) (w : World) : Calls Try.prog 53 #[sv s, .int .i64 1, .int .i64 l, kv k] w fun e w' => e = .returned (.bool (onD s.d1 l k)) ∧ Below w.heap.size w w' := by
  have HO := don_t s.d1 l k ok
  generalize onD s.d1 l k = r at *
  unfold sv kv dv at *
  obtain ⟨RR0, RR1, hb0⟩ := two_rows w #[.int .i64 s.n, .int .i64 s.d0.kind, .int .i64 s.d0.side, .int .i64 s.d0.step, .int .i64 s.d1.kind, .int .i64 s.d1.side, .int .i64 s.d1.step] #[.int .i64 k.kind, .int .i64 k.len, .int .u64 k.h, .int .u64 k.l, .string ⟨k.path.toArray⟩] 26 30
  have c0 := (RR0.cell 0).trans (show _ = some (Value.int .i64 s.n) from rfl)
  have c1 := (RR0.cell 1).trans (show _ = some (Value.int .i64 s.d0.kind) from rfl)
  have c2 := (RR0.cell 2).trans (show _ = some (Value.int .i64 s.d0.side) from rfl)
  have c3 := (RR0.cell 3).trans (show _ = some (Value.int .i64 s.d0.step) from rfl)
  have c4 := (RR0.cell 4).trans (show _ = some (Value.int .i64 s.d1.kind) from rfl)
  have c5 := (RR0.cell 5).trans (show _ = some (Value.int .i64 s.d1.side) from rfl)
  have c6 := (RR0.cell 6).trans (show _ = some (Value.int .i64 s.d1.step) from rfl)
  have d0 := (RR1.cell 0).trans (show _ = some (Value.int .i64 k.kind) from rfl)
  have d1 := (RR1.cell 1).trans (show _ = some (Value.int .i64 k.len) from rfl)
  have d2 := (RR1.cell 2).trans (show _ = some (Value.int .u64 k.h) from rfl)
  have d3 := (RR1.cell 3).trans (show _ = some (Value.int .u64 k.l) from rfl)
  have d4 := (RR1.cell 4).trans (show _ = some (Value.string ⟨k.path.toArray⟩) from rfl)
  clear RR0 RR1
  go_enter Try.func53, Try.ntmps53
  go_wp2_with fail
  refine wp_region_held_drew (S := (fun w' => w'.cell? ⟨w.heap.size, 0, none⟩ = some (.int .i64 s.n) ∧ w'.cell? ⟨w.heap.size, 1, none⟩ = some (.int .i64 s.d0.kind) ∧ w'.cell? ⟨w.heap.size, 2, none⟩ = some (.int .i64 s.d0.side) ∧ w'.cell? ⟨w.heap.size, 3, none⟩ = some (.int .i64 s.d0.step) ∧ w'.cell? ⟨w.heap.size, 4, none⟩ = some (.int .i64 s.d1.kind) ∧ w'.cell? ⟨w.heap.size, 5, none⟩ = some (.int .i64 s.d1.side) ∧ w'.cell? ⟨w.heap.size, 6, none⟩ = some (.int .i64 s.d1.step) ∧ w'.cell? ⟨w.heap.size + 1, 0, none⟩ = some (.int .i64 k.kind) ∧ w'.cell? ⟨w.heap.size + 1, 1, none⟩ = some (.int .i64 k.len) ∧ w'.cell? ⟨w.heap.size + 1, 2, none⟩ = some (.int .u64 k.h) ∧ w'.cell? ⟨w.heap.size + 1, 3, none⟩ = some (.int .u64 k.l) ∧ w'.cell? ⟨w.heap.size + 1, 4, none⟩ = some (.string ⟨k.path.toArray⟩) ∧ Below w.heap.size w w')) (by kernel_rfl) ?hSr26_ (fun hHeld => ?_)
  case hSr26_ => (first | exact ⟨c0, c1, c2, c3, c4, c5, c6, d0, d1, d2, d3, d4, hb0.drew⟩ | exact ⟨c0, c1, c2, c3, c4, c5, c6, d0, d1, d2, d3, d4, hb0⟩ | (obtain ⟨c0, c1, c2, c3, c4, c5, c6, d0, d1, d2, d3, d4, hb0⟩ := hHeld; exact ⟨cell_later hb c0, cell_later hb c1, cell_later hb c2, cell_later hb c3, cell_later hb c4, cell_later hb c5, cell_later hb c6, cell_later hb d0, cell_later hb d1, cell_later hb d2, cell_later hb d3, cell_later hb d4, below_step hb0 hb⟩))
  refine tk 0 ⟨some 20, .move (.tmp 1), 3, _, _, _⟩ hHeld ?_
  (try simp only [Act.put, nz1, nz2, nz3])
  refine tk 1 ⟨some 21, .fieldAddr 26 (.tmp 4) 1, 0, _, _, _⟩ hHeld ?_
  (try simp only [Act.put, nz1, nz2, nz3])
  refine tk 2 ⟨some 22, .indexAddr 24 (.tmp 21) (.tmp 20), 0, _, _, _⟩ hHeld ?_
  (try simp only [Act.put, nz1, nz2, nz3])
  refine tk 3 ⟨some 23, .load 23 (.tmp 22), 23, _, _, _⟩ hHeld ?_
  (try simp only [Act.put, nz1, nz2, nz3])
  refine tk 4 ⟨some 24, .move (.tmp 2), 3, _, _, _⟩ hHeld ?_
  (try simp only [Act.put, nz1, nz2, nz3])
  refine tk 5 ⟨some 25, .load 30 (.tmp 7), 30, _, _, _⟩ hHeld ?_
  (try simp only [Act.put, nz1, nz2, nz3])
  refine wpAnyH_ready (rs := [6]) (by kernel_rfl) (by simp) ?_
  refine AllReadyH.cons (o := ⟨some 26, .call { callee := .value (.func 78), args := #[.tmp 23, .tmp 24, .tmp 25], argTypes := #[23, 3, 30] }, 4, _, _, _⟩) rfl (fun K hK => ?_) AllReadyH.nil
  (go_simp; (refine (HO _).mono ?_); (rintro e wn ⟨rfl, hb⟩); go_wp2_with fail)
  refine hK.out _ _ ?hSr26_7_6 (fun hHeld2 => ?_)
  case hSr26_7_6 => (first | exact ⟨c0, c1, c2, c3, c4, c5, c6, d0, d1, d2, d3, d4, hb0.drew⟩ | exact ⟨c0, c1, c2, c3, c4, c5, c6, d0, d1, d2, d3, d4, hb0⟩ | (obtain ⟨c0, c1, c2, c3, c4, c5, c6, d0, d1, d2, d3, d4, hb0⟩ := hHeld; exact ⟨cell_later hb c0, cell_later hb c1, cell_later hb c2, cell_later hb c3, cell_later hb c4, cell_later hb c5, cell_later hb c6, cell_later hb d0, cell_later hb d1, cell_later hb d2, cell_later hb d3, cell_later hb d4, below_step hb0 hb⟩))
  clear hK K hHeld
  have hHeld := hHeld2
  clear hHeld2
  (try simp only [Act.put, nz1, nz2, nz3])
  refine tk 7 ⟨some 8, .assign (.tmp 26), 4, _, _, _⟩ hHeld ?_
  (try simp only [Act.put, nz1, nz2, nz3])
  refine wpAnyH_done (by kernel_rfl) ?_ _
  clear c0 c1 c2 c3 c4 c5 c6 d0 d1 d2 d3 d4 hb0
  obtain ⟨c0, c1, c2, c3, c4, c5, c6, d0, d1, d2, d3, d4, hb0⟩ := hHeld
  go_wp2
  go_ret
  exact ⟨rfl, hb0⟩
theorem kz_eqK (k : Ke) : eqK k.kind k.len k.h k.l ⟨k.path.toArray⟩ 0 0 0 0 ⟨#[]⟩ = decide (k = kz) := eqK_ke k kz
set_option maxRecDepth 100000 in
theorem on1_t (s : Sp) (l : Int) (k : Ke) (hn : s.n = 1) (w : World) : Calls Try.prog 53 #[sv s, .int .i64 1, .int .i64 l, kv k] w fun e w' => e = .returned (.bool (decide (l = 0) && decide (k = kz))) ∧ Below w.heap.size w w' := by
  have q := eql_key
  have HE := kz_eqK k
  obtain ⟨n, e0, e1⟩ := s
  dsimp only at hn
  subst hn
  unfold sv kv
  dsimp only
  obtain ⟨RR0, RR1, hb0⟩ := two_rows w #[.int .i64 1, .int .i64 e0.kind, .int .i64 e0.side, .int .i64 e0.step, .int .i64 e1.kind, .int .i64 e1.side, .int .i64 e1.step] #[.int .i64 k.kind, .int .i64 k.len, .int .u64 k.h, .int .u64 k.l, .string ⟨k.path.toArray⟩] 26 30
  have c0 := (RR0.cell 0).trans (show _ = some (Value.int .i64 1) from rfl)
  have c1 := (RR0.cell 1).trans (show _ = some (Value.int .i64 e0.kind) from rfl)
  have c2 := (RR0.cell 2).trans (show _ = some (Value.int .i64 e0.side) from rfl)
  have c3 := (RR0.cell 3).trans (show _ = some (Value.int .i64 e0.step) from rfl)
  have c4 := (RR0.cell 4).trans (show _ = some (Value.int .i64 e1.kind) from rfl)
  have c5 := (RR0.cell 5).trans (show _ = some (Value.int .i64 e1.side) from rfl)
  have c6 := (RR0.cell 6).trans (show _ = some (Value.int .i64 e1.step) from rfl)
  have d0 := (RR1.cell 0).trans (show _ = some (Value.int .i64 k.kind) from rfl)
  have d1 := (RR1.cell 1).trans (show _ = some (Value.int .i64 k.len) from rfl)
  have d2 := (RR1.cell 2).trans (show _ = some (Value.int .u64 k.h) from rfl)
  have d3 := (RR1.cell 3).trans (show _ = some (Value.int .u64 k.l) from rfl)
  have d4 := (RR1.cell 4).trans (show _ = some (Value.string ⟨k.path.toArray⟩) from rfl)
  clear RR0 RR1
  generalize decide (k = kz) = b at *
  by_cases h : l = 0
  · subst h
    go_enter Try.func53, Try.ntmps53
    go_wp2
    go_ret
    exact ⟨by simp [HE], hb0⟩
  · have h' : (l == 0) = false := by simpa using h
    rw [decide_eq_false h]
    go_enter Try.func53, Try.ntmps53
    go_wp2
    go_ret
    exact ⟨rfl, hb0⟩
end Go.Proofs.Ytbekocknfpekoaa
namespace Go.Proofs.Ytbekocknfpekoaa
set_option linter.unusedVariables false
set_option linter.unusedSimpArgs false
open Go.RowKit
theorem dz_neq (d : Dm) (w : World) : (binOp .neq 23 (.agg #[.int .i64 d.kind, .int .i64 d.side, .int .i64 d.step]) (.agg #[.int .i64 0, .int .i64 0, .int .i64 0])).run Try.prog w = .ok (.bool (!decide (d = dz))) w := neq_dim d dz w
theorem dz_eql (d : Dm) (w : World) : (binOp .eql 23 (.agg #[.int .i64 d.kind, .int .i64 d.side, .int .i64 d.step]) (.agg #[.int .i64 0, .int .i64 0, .int .i64 0])).run Try.prog w = .ok (.bool (decide (d = dz))) w := eql_dim d dz w
theorem ixd0 (a b c d e f : Value) (w : World) : (Instr.index 24 (.agg #[a, b, c, d, e, f]) (.int .i64 0)).run Try.prog w = .ok (.agg #[a, b, c]) w := by kernel_rfl
theorem ixd1 (a b c d e f : Value) (w : World) : (Instr.index 24 (.agg #[a, b, c, d, e, f]) (.int .i64 1)).run Try.prog w = .ok (.agg #[d, e, f]) w := by kernel_rfl
set_option maxRecDepth 100000 in
theorem sound_low (s : Sp) (hn : s.n ≤ 0) (w : World) : Calls Try.prog 18 #[sv s] w fun e w' => e = .returned (.bool false) ∧ Below w.heap.size w w' := by
  obtain ⟨n, d0, d1⟩ := s
  dsimp only at hn
  have q0 := dz_neq d0
  have q1 := dz_neq d1
  have i0 := ixd0
  have i1 := ixd1
  generalize decide (d0 = dz) = z0 at *
  generalize decide (d1 = dz) = z1 at *
  unfold sv
  dsimp only
  obtain ⟨RR0, hb0⟩ := one_row w #[.int .i64 n, .int .i64 d0.kind, .int .i64 d0.side, .int .i64 d0.step, .int .i64 d1.kind, .int .i64 d1.side, .int .i64 d1.step] 26
  have c0 := (RR0.cell 0).trans (show _ = some (Value.int .i64 n) from rfl)
  have c1 := (RR0.cell 1).trans (show _ = some (Value.int .i64 d0.kind) from rfl)
  have c2 := (RR0.cell 2).trans (show _ = some (Value.int .i64 d0.side) from rfl)
  have c3 := (RR0.cell 3).trans (show _ = some (Value.int .i64 d0.step) from rfl)
  have c4 := (RR0.cell 4).trans (show _ = some (Value.int .i64 d1.kind) from rfl)
  have c5 := (RR0.cell 5).trans (show _ = some (Value.int .i64 d1.side) from rfl)
  have c6 := (RR0.cell 6).trans (show _ = some (Value.int .i64 d1.step) from rfl)
  clear RR0
  have n1 : (n == 1) = false := by simp; omega
  have n2 : (n == 2) = false := by simp; omega
  cases z0 with
  | false =>
    go_enter Try.func18, Try.ntmps18
    go_wp2_with fail
    refine wp_loop_rounds 3 ?_
    rw [rounds_succ]
    go_wp2
    go_ret
    exact ⟨rfl, (by repeat (first | exact Below.refl _ _ | assumption | (with_reducible refine Below.setCell ?_ ?h _; case h => first | omega | (simp; done) | (simp; omega)) | (with_reducible refine Below.alloc ?_ ?h _; case h => first | omega | (simp; done) | (simp; omega)) | (with_reducible refine Below.drew ?_) | (with_reducible refine Below.trans ?_ (hb4.mono ?h); case h => first | omega | (simp; done) | (simp; omega)) | (with_reducible refine Below.trans ?_ (hb3.mono ?h); case h => first | omega | (simp; done) | (simp; omega)) | (with_reducible refine Below.trans ?_ (hb2.mono ?h); case h => first | omega | (simp; done) | (simp; omega)) | (with_reducible refine Below.trans ?_ (hb.mono ?h); case h => first | omega | (simp; done) | (simp; omega)) | (with_reducible refine Below.trans ?_ (hb0.mono ?h); case h => first | omega | (simp; done) | (simp; omega))))⟩
  | true =>
    cases z1 with
    | false =>
      go_enter Try.func18, Try.ntmps18
      go_wp2_with fail
      refine wp_loop_rounds 3 ?_
      rw [rounds_succ]
      go_wp2
      rw [rounds_succ]
      go_wp2
      go_ret
      exact ⟨rfl, (by repeat (first | exact Below.refl _ _ | assumption | (with_reducible refine Below.setCell ?_ ?h _; case h => first | omega | (simp; done) | (simp; omega)) | (with_reducible refine Below.alloc ?_ ?h _; case h => first | omega | (simp; done) | (simp; omega)) | (with_reducible refine Below.drew ?_) | (with_reducible refine Below.trans ?_ (hb4.mono ?h); case h => first | omega | (simp; done) | (simp; omega)) | (with_reducible refine Below.trans ?_ (hb3.mono ?h); case h => first | omega | (simp; done) | (simp; omega)) | (with_reducible refine Below.trans ?_ (hb2.mono ?h); case h => first | omega | (simp; done) | (simp; omega)) | (with_reducible refine Below.trans ?_ (hb.mono ?h); case h => first | omega | (simp; done) | (simp; omega)) | (with_reducible refine Below.trans ?_ (hb0.mono ?h); case h => first | omega | (simp; done) | (simp; omega))))⟩
    | true =>
      go_enter Try.func18, Try.ntmps18
      go_wp2_with fail
      refine wp_loop_rounds 3 ?_
      rw [rounds_succ]
      go_wp2
      rw [rounds_succ]
      go_wp2
      rw [rounds_succ]
      go_wp2
      go_ret
      exact ⟨rfl, (by repeat (first | exact Below.refl _ _ | assumption | (with_reducible refine Below.setCell ?_ ?h _; case h => first | omega | (simp; done) | (simp; omega)) | (with_reducible refine Below.alloc ?_ ?h _; case h => first | omega | (simp; done) | (simp; omega)) | (with_reducible refine Below.drew ?_) | (with_reducible refine Below.trans ?_ (hb4.mono ?h); case h => first | omega | (simp; done) | (simp; omega)) | (with_reducible refine Below.trans ?_ (hb3.mono ?h); case h => first | omega | (simp; done) | (simp; omega)) | (with_reducible refine Below.trans ?_ (hb2.mono ?h); case h => first | omega | (simp; done) | (simp; omega)) | (with_reducible refine Below.trans ?_ (hb.mono ?h); case h => first | omega | (simp; done) | (simp; omega)) | (with_reducible refine Below.trans ?_ (hb0.mono ?h); case h => first | omega | (simp; done) | (simp; omega))))⟩
set_option maxRecDepth 100000 in
theorem sound_bad0 (s : Sp) (hn : 1 ≤ s.n) (hr : rightD s.d0 = false) (w : World) : Calls Try.prog 18 #[sv s] w fun e w' => e = .returned (.bool false) ∧ Below w.heap.size w w' := by
  obtain ⟨n, d0, d1⟩ := s
  dsimp only at hn hr
  have i0 := ixd0
  have HR := dright_t d0
  rw [hr] at HR
  unfold sv
  unfold dv at HR
  dsimp only
  obtain ⟨RR0, hb0⟩ := one_row w #[.int .i64 n, .int .i64 d0.kind, .int .i64 d0.side, .int .i64 d0.step, .int .i64 d1.kind, .int .i64 d1.side, .int .i64 d1.step] 26
  have c0 := (RR0.cell 0).trans (show _ = some (Value.int .i64 n) from rfl)
  have c1 := (RR0.cell 1).trans (show _ = some (Value.int .i64 d0.kind) from rfl)
  have c2 := (RR0.cell 2).trans (show _ = some (Value.int .i64 d0.side) from rfl)
  have c3 := (RR0.cell 3).trans (show _ = some (Value.int .i64 d0.step) from rfl)
  have c4 := (RR0.cell 4).trans (show _ = some (Value.int .i64 d1.kind) from rfl)
  have c5 := (RR0.cell 5).trans (show _ = some (Value.int .i64 d1.side) from rfl)
  have c6 := (RR0.cell 6).trans (show _ = some (Value.int .i64 d1.step) from rfl)
  clear RR0
  go_enter Try.func18, Try.ntmps18
  go_wp2_with fail
  refine wp_loop_rounds 3 ?_
  rw [rounds_succ]
  go_wp2_with fail
  refine (HR _).mono ?_
  rintro e w1 ⟨rfl, hb⟩
  replace c0 := cell_later hb (cell_later ((Below.refl _ _).alloc (Nat.le_refl _) _) c0)
  replace c1 := cell_later hb (cell_later ((Below.refl _ _).alloc (Nat.le_refl _) _) c1)
  replace c2 := cell_later hb (cell_later ((Below.refl _ _).alloc (Nat.le_refl _) _) c2)
  replace c3 := cell_later hb (cell_later ((Below.refl _ _).alloc (Nat.le_refl _) _) c3)
  replace c4 := cell_later hb (cell_later ((Below.refl _ _).alloc (Nat.le_refl _) _) c4)
  replace c5 := cell_later hb (cell_later ((Below.refl _ _).alloc (Nat.le_refl _) _) c5)
  replace c6 := cell_later hb (cell_later ((Below.refl _ _).alloc (Nat.le_refl _) _) c6)
  have fd00 := ((Row.later (Row.new _ _ _) hb).cell 0).trans (show _ = some (Value.int .i64 d0.kind) from rfl)
  have fd01 := ((Row.later (Row.new _ _ _) hb).cell 1).trans (show _ = some (Value.int .i64 d0.side) from rfl)
  have fd02 := ((Row.later (Row.new _ _ _) hb).cell 2).trans (show _ = some (Value.int .i64 d0.step) from rfl)
  simp only [World.size_alloc] at fd00
  simp only [World.size_alloc] at fd01
  simp only [World.size_alloc] at fd02
  replace hb0 := below_step (hb0.alloc (Nat.le_trans hb0.size (Nat.le_refl _)) _) hb
  clear hb
  have lc := World.block_lt_of_cell? _ _ c0
  dsimp only at lc
  have lfd0 := World.block_lt_of_cell? _ _ fd00
  dsimp only at lfd0
  go_wp2
  go_ret
  exact ⟨rfl, (by repeat (first | exact Below.refl _ _ | assumption | (with_reducible refine Below.setCell ?_ ?h _; case h => first | omega | (simp; done) | (simp; omega)) | (with_reducible refine Below.alloc ?_ ?h _; case h => first | omega | (simp; done) | (simp; omega)) | (with_reducible refine Below.drew ?_) | (with_reducible refine Below.trans ?_ (hb4.mono ?h); case h => first | omega | (simp; done) | (simp; omega)) | (with_reducible refine Below.trans ?_ (hb3.mono ?h); case h => first | omega | (simp; done) | (simp; omega)) | (with_reducible refine Below.trans ?_ (hb2.mono ?h); case h => first | omega | (simp; done) | (simp; omega)) | (with_reducible refine Below.trans ?_ (hb.mono ?h); case h => first | omega | (simp; done) | (simp; omega)) | (with_reducible refine Below.trans ?_ (hb0.mono ?h); case h => first | omega | (simp; done) | (simp; omega))))⟩
set_option maxRecDepth 100000 in
theorem sound_one (s : Sp) (hn : s.n = 1) (hr : rightD s.d0 = true) (w : World) : Calls Try.prog 18 #[sv s] w fun e w' => e = .returned (.bool (decide (s.d1 = dz))) ∧ Below w.heap.size w w' := by
  obtain ⟨n, d0, d1⟩ := s
  dsimp only at hn hr
  subst hn
  have i0 := ixd0
  have i1 := ixd1
  have q1 := dz_neq d1
  dsimp only
  generalize decide (d1 = dz) = z1 at *
  have HR := dright_t d0
  rw [hr] at HR
  unfold sv
  unfold dv at HR
  dsimp only
  obtain ⟨RR0, hb0⟩ := one_row w #[.int .i64 1, .int .i64 d0.kind, .int .i64 d0.side, .int .i64 d0.step, .int .i64 d1.kind, .int .i64 d1.side, .int .i64 d1.step] 26
  have c0 := (RR0.cell 0).trans (show _ = some (Value.int .i64 1) from rfl)
  have c1 := (RR0.cell 1).trans (show _ = some (Value.int .i64 d0.kind) from rfl)
  have c2 := (RR0.cell 2).trans (show _ = some (Value.int .i64 d0.side) from rfl)
  have c3 := (RR0.cell 3).trans (show _ = some (Value.int .i64 d0.step) from rfl)
  have c4 := (RR0.cell 4).trans (show _ = some (Value.int .i64 d1.kind) from rfl)
  have c5 := (RR0.cell 5).trans (show _ = some (Value.int .i64 d1.side) from rfl)
  have c6 := (RR0.cell 6).trans (show _ = some (Value.int .i64 d1.step) from rfl)
  clear RR0
  cases z1 with
  | false =>
    go_enter Try.func18, Try.ntmps18
    go_wp2_with fail
    refine wp_loop_rounds 3 ?_
    rw [rounds_succ]
    go_wp2_with fail
    refine (HR _).mono ?_
    rintro e w2 ⟨rfl, hb⟩
    replace c0 := cell_later hb (cell_later ((Below.refl _ _).alloc (Nat.le_refl _) _) c0)
    replace c1 := cell_later hb (cell_later ((Below.refl _ _).alloc (Nat.le_refl _) _) c1)
    replace c2 := cell_later hb (cell_later ((Below.refl _ _).alloc (Nat.le_refl _) _) c2)
    replace c3 := cell_later hb (cell_later ((Below.refl _ _).alloc (Nat.le_refl _) _) c3)
    replace c4 := cell_later hb (cell_later ((Below.refl _ _).alloc (Nat.le_refl _) _) c4)
    replace c5 := cell_later hb (cell_later ((Below.refl _ _).alloc (Nat.le_refl _) _) c5)
    replace c6 := cell_later hb (cell_later ((Below.refl _ _).alloc (Nat.le_refl _) _) c6)
    have fd00 := ((Row.later (Row.new _ _ _) hb).cell 0).trans (show _ = some (Value.int .i64 d0.kind) from rfl)
    have fd01 := ((Row.later (Row.new _ _ _) hb).cell 1).trans (show _ = some (Value.int .i64 d0.side) from rfl)
    have fd02 := ((Row.later (Row.new _ _ _) hb).cell 2).trans (show _ = some (Value.int .i64 d0.step) from rfl)
    simp only [World.size_alloc] at fd00
    simp only [World.size_alloc] at fd01
    simp only [World.size_alloc] at fd02
    replace hb0 := below_step (hb0.alloc (Nat.le_trans hb0.size (Nat.le_refl _)) _) hb
    clear hb
    have lc := World.block_lt_of_cell? _ _ c0
    dsimp only at lc
    have lfd0 := World.block_lt_of_cell? _ _ fd00
    dsimp only at lfd0
    go_wp2
    rw [rounds_succ]
    go_wp2
    go_ret
    exact ⟨rfl, (by repeat (first | exact Below.refl _ _ | assumption | (with_reducible refine Below.setCell ?_ ?h _; case h => first | omega | (simp; done) | (simp; omega)) | (with_reducible refine Below.alloc ?_ ?h _; case h => first | omega | (simp; done) | (simp; omega)) | (with_reducible refine Below.drew ?_) | (with_reducible refine Below.trans ?_ (hb4.mono ?h); case h => first | omega | (simp; done) | (simp; omega)) | (with_reducible refine Below.trans ?_ (hb3.mono ?h); case h => first | omega | (simp; done) | (simp; omega)) | (with_reducible refine Below.trans ?_ (hb2.mono ?h); case h => first | omega | (simp; done) | (simp; omega)) | (with_reducible refine Below.trans ?_ (hb.mono ?h); case h => first | omega | (simp; done) | (simp; omega)) | (with_reducible refine Below.trans ?_ (hb0.mono ?h); case h => first | omega | (simp; done) | (simp; omega))))⟩
  | true =>
    go_enter Try.func18, Try.ntmps18
    go_wp2_with fail
    refine wp_loop_rounds 3 ?_
    rw [rounds_succ]
    go_wp2_with fail
    refine (HR _).mono ?_
    rintro e w3 ⟨rfl, hb⟩
    replace c0 := cell_later hb (cell_later ((Below.refl _ _).alloc (Nat.le_refl _) _) c0)
    replace c1 := cell_later hb (cell_later ((Below.refl _ _).alloc (Nat.le_refl _) _) c1)
    replace c2 := cell_later hb (cell_later ((Below.refl _ _).alloc (Nat.le_refl _) _) c2)
    replace c3 := cell_later hb (cell_later ((Below.refl _ _).alloc (Nat.le_refl _) _) c3)
    replace c4 := cell_later hb (cell_later ((Below.refl _ _).alloc (Nat.le_refl _) _) c4)
    replace c5 := cell_later hb (cell_later ((Below.refl _ _).alloc (Nat.le_refl _) _) c5)
    replace c6 := cell_later hb (cell_later ((Below.refl _ _).alloc (Nat.le_refl _) _) c6)
    have fd00 := ((Row.later (Row.new _ _ _) hb).cell 0).trans (show _ = some (Value.int .i64 d0.kind) from rfl)
    have fd01 := ((Row.later (Row.new _ _ _) hb).cell 1).trans (show _ = some (Value.int .i64 d0.side) from rfl)
    have fd02 := ((Row.later (Row.new _ _ _) hb).cell 2).trans (show _ = some (Value.int .i64 d0.step) from rfl)
    simp only [World.size_alloc] at fd00
    simp only [World.size_alloc] at fd01
    simp only [World.size_alloc] at fd02
    replace hb0 := below_step (hb0.alloc (Nat.le_trans hb0.size (Nat.le_refl _)) _) hb
    clear hb
    have lc := World.block_lt_of_cell? _ _ c0
    dsimp only at lc
    have lfd0 := World.block_lt_of_cell? _ _ fd00
    dsimp only at lfd0
    go_wp2
    rw [rounds_succ]
    go_wp2
    rw [rounds_succ]
    go_wp2
    go_ret
    exact ⟨rfl, (by repeat (first | exact Below.refl _ _ | assumption | (with_reducible refine Below.setCell ?_ ?h _; case h => first | omega | (simp; done) | (simp; omega)) | (with_reducible refine Below.alloc ?_ ?h _; case h => first | omega | (simp; done) | (simp; omega)) | (with_reducible refine Below.drew ?_) | (with_reducible refine Below.trans ?_ (hb4.mono ?h); case h => first | omega | (simp; done) | (simp; omega)) | (with_reducible refine Below.trans ?_ (hb3.mono ?h); case h => first | omega | (simp; done) | (simp; omega)) | (with_reducible refine Below.trans ?_ (hb2.mono ?h); case h => first | omega | (simp; done) | (simp; omega)) | (with_reducible refine Below.trans ?_ (hb.mono ?h); case h => first | omega | (simp; done) | (simp; omega)) | (with_reducible refine Below.trans ?_ (hb0.mono ?h); case h => first | omega | (simp; done) | (simp; omega))))⟩
set_option maxRecDepth 100000 in
theorem sound_two (s : Sp) (hn : 2 ≤ s.n) (hr : rightD s.d0 = true) (w : World) : Calls Try.prog 18 #[sv s] w fun e w' => e = .returned (.bool (decide (s.n = 2) && rightD s.d1)) ∧ Below w.heap.size w w' := by
  obtain ⟨n, d0, d1⟩ := s
  dsimp only at hn hr
  dsimp only
  have i0 := ixd0
  have i1 := ixd1
  have HR := dright_t d0
  rw [hr] at HR
  have HS := dright_t d1
  generalize rightD d1 = r1 at *
  unfold sv
  unfold dv at HR HS
  dsimp only
  obtain ⟨RR0, hb0⟩ := one_row w #[.int .i64 n, .int .i64 d0.kind, .int .i64 d0.side, .int .i64 d0.step, .int .i64 d1.kind, .int .i64 d1.side, .int .i64 d1.step] 26
  have c0 := (RR0.cell 0).trans (show _ = some (Value.int .i64 n) from rfl)
  have c1 := (RR0.cell 1).trans (show _ = some (Value.int .i64 d0.kind) from rfl)
  have c2 := (RR0.cell 2).trans (show _ = some (Value.int .i64 d0.side) from rfl)
  have c3 := (RR0.cell 3).trans (show _ = some (Value.int .i64 d0.step) from rfl)
  have c4 := (RR0.cell 4).trans (show _ = some (Value.int .i64 d1.kind) from rfl)
  have c5 := (RR0.cell 5).trans (show _ = some (Value.int .i64 d1.side) from rfl)
  have c6 := (RR0.cell 6).trans (show _ = some (Value.int .i64 d1.step) from rfl)
  clear RR0
  have n1 : (n == 1) = false := by simp; omega
  cases r1 with
  | false =>
    rw [Bool.and_false]
    go_enter Try.func18, Try.ntmps18
    go_wp2_with fail
    refine wp_loop_rounds 3 ?_
    rw [rounds_succ]
    go_wp2_with fail
    refine (HR _).mono ?_
    rintro e w4 ⟨rfl, hb⟩
    replace c0 := cell_later hb (cell_later ((Below.refl _ _).alloc (Nat.le_refl _) _) c0)
    replace c1 := cell_later hb (cell_later ((Below.refl _ _).alloc (Nat.le_refl _) _) c1)
    replace c2 := cell_later hb (cell_later ((Below.refl _ _).alloc (Nat.le_refl _) _) c2)
    replace c3 := cell_later hb (cell_later ((Below.refl _ _).alloc (Nat.le_refl _) _) c3)
    replace c4 := cell_later hb (cell_later ((Below.refl _ _).alloc (Nat.le_refl _) _) c4)
    replace c5 := cell_later hb (cell_later ((Below.refl _ _).alloc (Nat.le_refl _) _) c5)
    replace c6 := cell_later hb (cell_later ((Below.refl _ _).alloc (Nat.le_refl _) _) c6)
    have fd00 := ((Row.later (Row.new _ _ _) hb).cell 0).trans (show _ = some (Value.int .i64 d0.kind) from rfl)
    have fd01 := ((Row.later (Row.new _ _ _) hb).cell 1).trans (show _ = some (Value.int .i64 d0.side) from rfl)
    have fd02 := ((Row.later (Row.new _ _ _) hb).cell 2).trans (show _ = some (Value.int .i64 d0.step) from rfl)
    simp only [World.size_alloc] at fd00
    simp only [World.size_alloc] at fd01
    simp only [World.size_alloc] at fd02
    replace hb0 := below_step (hb0.alloc (Nat.le_trans hb0.size (Nat.le_refl _)) _) hb
    clear hb
    have lc := World.block_lt_of_cell? _ _ c0
    dsimp only at lc
    have lfd0 := World.block_lt_of_cell? _ _ fd00
    dsimp only at lfd0
    go_wp2
    rw [rounds_succ]
    go_wp2_with fail
    refine (HS _).mono ?_
    rintro e w5 ⟨rfl, hb⟩
    replace c0 := cell_later hb (cell_later ((Below.refl _ _).alloc (Nat.le_refl _) _) c0)
    replace c1 := cell_later hb (cell_later ((Below.refl _ _).alloc (Nat.le_refl _) _) c1)
    replace c2 := cell_later hb (cell_later ((Below.refl _ _).alloc (Nat.le_refl _) _) c2)
    replace c3 := cell_later hb (cell_later ((Below.refl _ _).alloc (Nat.le_refl _) _) c3)
    replace c4 := cell_later hb (cell_later ((Below.refl _ _).alloc (Nat.le_refl _) _) c4)
    replace c5 := cell_later hb (cell_later ((Below.refl _ _).alloc (Nat.le_refl _) _) c5)
    replace c6 := cell_later hb (cell_later ((Below.refl _ _).alloc (Nat.le_refl _) _) c6)
    replace fd00 := cell_later hb (cell_later ((Below.refl _ _).alloc (Nat.le_refl _) _) fd00)
    replace fd01 := cell_later hb (cell_later ((Below.refl _ _).alloc (Nat.le_refl _) _) fd01)
    replace fd02 := cell_later hb (cell_later ((Below.refl _ _).alloc (Nat.le_refl _) _) fd02)
    have fd10 := ((Row.later (Row.new _ _ _) hb).cell 0).trans (show _ = some (Value.int .i64 d1.kind) from rfl)
    have fd11 := ((Row.later (Row.new _ _ _) hb).cell 1).trans (show _ = some (Value.int .i64 d1.side) from rfl)
    have fd12 := ((Row.later (Row.new _ _ _) hb).cell 2).trans (show _ = some (Value.int .i64 d1.step) from rfl)
    have mfd1 := hb0.size
    replace hb0 := below_step (hb0.alloc hb0.size _) hb
    clear hb
    generalize w4.heap.size = gfd1 at *
    have lc := World.block_lt_of_cell? _ _ c0
    dsimp only at lc
    have lfd0 := World.block_lt_of_cell? _ _ fd00
    dsimp only at lfd0
    have lfd1 := World.block_lt_of_cell? _ _ fd10
    dsimp only at lfd1
    go_wp2
    go_ret
    exact ⟨rfl, (by repeat (first | exact Below.refl _ _ | assumption | (with_reducible refine Below.setCell ?_ ?h _; case h => first | omega | (simp; done) | (simp; omega)) | (with_reducible refine Below.alloc ?_ ?h _; case h => first | omega | (simp; done) | (simp; omega)) | (with_reducible refine Below.drew ?_) | (with_reducible refine Below.trans ?_ (hb4.mono ?h); case h => first | omega | (simp; done) | (simp; omega)) | (with_reducible refine Below.trans ?_ (hb3.mono ?h); case h => first | omega | (simp; done) | (simp; omega)) | (with_reducible refine Below.trans ?_ (hb2.mono ?h); case h => first | omega | (simp; done) | (simp; omega)) | (with_reducible refine Below.trans ?_ (hb.mono ?h); case h => first | omega | (simp; done) | (simp; omega)) | (with_reducible refine Below.trans ?_ (hb0.mono ?h); case h => first | omega | (simp; done) | (simp; omega))))⟩
  | true =>
    rw [Bool.and_true]
    go_enter Try.func18, Try.ntmps18
    go_wp2_with fail
    refine wp_loop_rounds 3 ?_
    rw [rounds_succ]
    go_wp2_with fail
    refine (HR _).mono ?_
    rintro e w6 ⟨rfl, hb⟩
    replace c0 := cell_later hb (cell_later ((Below.refl _ _).alloc (Nat.le_refl _) _) c0)
    replace c1 := cell_later hb (cell_later ((Below.refl _ _).alloc (Nat.le_refl _) _) c1)
    replace c2 := cell_later hb (cell_later ((Below.refl _ _).alloc (Nat.le_refl _) _) c2)
    replace c3 := cell_later hb (cell_later ((Below.refl _ _).alloc (Nat.le_refl _) _) c3)
    replace c4 := cell_later hb (cell_later ((Below.refl _ _).alloc (Nat.le_refl _) _) c4)
    replace c5 := cell_later hb (cell_later ((Below.refl _ _).alloc (Nat.le_refl _) _) c5)
    replace c6 := cell_later hb (cell_later ((Below.refl _ _).alloc (Nat.le_refl _) _) c6)
    have fd00 := ((Row.later (Row.new _ _ _) hb).cell 0).trans (show _ = some (Value.int .i64 d0.kind) from rfl)
    have fd01 := ((Row.later (Row.new _ _ _) hb).cell 1).trans (show _ = some (Value.int .i64 d0.side) from rfl)
    have fd02 := ((Row.later (Row.new _ _ _) hb).cell 2).trans (show _ = some (Value.int .i64 d0.step) from rfl)
    simp only [World.size_alloc] at fd00
    simp only [World.size_alloc] at fd01
    simp only [World.size_alloc] at fd02
    replace hb0 := below_step (hb0.alloc (Nat.le_trans hb0.size (Nat.le_refl _)) _) hb
    clear hb
    have lc := World.block_lt_of_cell? _ _ c0
    dsimp only at lc
    have lfd0 := World.block_lt_of_cell? _ _ fd00
    dsimp only at lfd0
    go_wp2
    rw [rounds_succ]
    go_wp2_with fail
    refine (HS _).mono ?_
    rintro e w7 ⟨rfl, hb⟩
    replace c0 := cell_later hb (cell_later ((Below.refl _ _).alloc (Nat.le_refl _) _) c0)
    replace c1 := cell_later hb (cell_later ((Below.refl _ _).alloc (Nat.le_refl _) _) c1)
    replace c2 := cell_later hb (cell_later ((Below.refl _ _).alloc (Nat.le_refl _) _) c2)
    replace c3 := cell_later hb (cell_later ((Below.refl _ _).alloc (Nat.le_refl _) _) c3)
    replace c4 := cell_later hb (cell_later ((Below.refl _ _).alloc (Nat.le_refl _) _) c4)
    replace c5 := cell_later hb (cell_later ((Below.refl _ _).alloc (Nat.le_refl _) _) c5)
    replace c6 := cell_later hb (cell_later ((Below.refl _ _).alloc (Nat.le_refl _) _) c6)
    replace fd00 := cell_later hb (cell_later ((Below.refl _ _).alloc (Nat.le_refl _) _) fd00)
    replace fd01 := cell_later hb (cell_later ((Below.refl _ _).alloc (Nat.le_refl _) _) fd01)
    replace fd02 := cell_later hb (cell_later ((Below.refl _ _).alloc (Nat.le_refl _) _) fd02)
    have fd10 := ((Row.later (Row.new _ _ _) hb).cell 0).trans (show _ = some (Value.int .i64 d1.kind) from rfl)
    have fd11 := ((Row.later (Row.new _ _ _) hb).cell 1).trans (show _ = some (Value.int .i64 d1.side) from rfl)
    have fd12 := ((Row.later (Row.new _ _ _) hb).cell 2).trans (show _ = some (Value.int .i64 d1.step) from rfl)
    have mfd1 := hb0.size
    replace hb0 := below_step (hb0.alloc hb0.size _) hb
    clear hb
    generalize w6.heap.size = gfd1 at *
    have lc := World.block_lt_of_cell? _ _ c0
    dsimp only at lc
    have lfd0 := World.block_lt_of_cell? _ _ fd00
    dsimp only at lfd0
    have lfd1 := World.block_lt_of_cell? _ _ fd10
    dsimp only at lfd1
    go_wp2
    rw [rounds_succ]
    go_wp2
    go_ret
    exact ⟨by first | rfl | simp, (by repeat (first | exact Below.refl _ _ | assumption | (with_reducible refine Below.setCell ?_ ?h _; case h => first | omega | (simp; done) | (simp; omega)) | (with_reducible refine Below.alloc ?_ ?h _; case h => first | omega | (simp; done) | (simp; omega)) | (with_reducible refine Below.drew ?_) | (with_reducible refine Below.trans ?_ (hb4.mono ?h); case h => first | omega | (simp; done) | (simp; omega)) | (with_reducible refine Below.trans ?_ (hb3.mono ?h); case h => first | omega | (simp; done) | (simp; omega)) | (with_reducible refine Below.trans ?_ (hb2.mono ?h); case h => first | omega | (simp; done) | (simp; omega)) | (with_reducible refine Below.trans ?_ (hb.mono ?h); case h => first | omega | (simp; done) | (simp; omega)) | (with_reducible refine Below.trans ?_ (hb0.mono ?h); case h => first | omega | (simp; done) | (simp; omega))))⟩
theorem sound_t (s : Sp) (w : World) : Calls Try.prog 18 #[sv s] w fun e w' => e = .returned (.bool (soundS s)) ∧ Below w.heap.size w w' := by
  unfold soundS
  by_cases h : s.n ≤ 0
  · rw [if_neg (by omega), decide_eq_false (by omega), Bool.false_and]
    exact sound_low s h w
  cases hr : rightD s.d0 with
  | false =>
    have := sound_bad0 s (by omega) hr w
    split
    · exact this
    · simpa using this
  | true =>
    by_cases h1 : s.n = 1
    · rw [if_pos h1]; exact sound_one s h1 hr w
    · rw [if_neg h1]; exact sound_two s (by omega) hr w
end Go.Proofs.Ytbekocknfpekoaa
