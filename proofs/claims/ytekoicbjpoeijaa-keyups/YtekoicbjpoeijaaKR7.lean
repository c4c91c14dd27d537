/- Of of the reference of layer 7, of addresses. No conditions beyond ranges and lengths. -/
import Derived.Test.YtekoicbjpoeijaaKR6
namespace Go.Proofs.Ytekoicbjpoeijaa
set_option linter.unusedVariables false
set_option linter.unusedSimpArgs false
open Go.RowKit
theorem hi_tp0 (A : Int) (h0 : 0 ≤ A) (h1 : A < MM) : hi (tp A 0) = 0 ∧ lo (tp A 0) = 0 := by
  have e : tp A 0 = 0 := by
    unfold tp
    have : A / 2 ^ (128 - 0) = 0 := Int.ediv_eq_zero_of_lt h0 (by unfold MM at h1; exact h1)
    rw [this, Int.zero_mul]
  rw [e]; exact ⟨rfl, rfl⟩
/-- what a round of the loop does to the two words -/
theorem of_step {A : Int} (h0 : 0 ≤ A) (h1 : A < MM) {i : Nat} (hi2 : i < 128) :
    (bitI A i = false ∧ hi (tp A (i + 1)) = hi (tp A i) ∧ lo (tp A (i + 1)) = lo (tp A i)) ∨
    (bitI A i = true ∧ i < 64 ∧ hi (tp A (i + 1)) = hi (tp A i) + 2 ^ (63 - i) ∧ lo (tp A (i + 1)) = lo (tp A i)) ∨
    (bitI A i = true ∧ 64 ≤ i ∧ hi (tp A (i + 1)) = hi (tp A i) ∧ lo (tp A (i + 1)) = lo (tp A i) + 2 ^ (127 - i)) := by
  cases hb : bitI A i with
  | false => left; rw [tp_clear h0 hi2 hb]; exact ⟨rfl, rfl, rfl⟩
  | true =>
    right
    by_cases h : i < 64
    · exact .inl ⟨rfl, h, tp_hi_set h0 h1 h hb⟩
    · exact .inr ⟨rfl, by omega, tp_lo_set h0 h1 (by omega) hi2 hb⟩
theorem bit_text (b : Bool) : ((⟨(bitS b).toArray⟩ : ByteArray).toList == (⟨#[49]⟩ : ByteArray).toList) = b := by
  cases b <;> decide +kernel
theorem bit_text2 (b : Bool) : ((⟨(bitS b).toArray⟩ : ByteArray).toList == [49]) = b := by
  cases b <;> decide +kernel
set_option maxRecDepth 100000 in
set_option maxHeartbeats 8000000 in
theorem rof_adr (kd : Int) (hk : ¬ kd = 3) (A : Int) (h0 : 0 ≤ A) (h1 : A < MM) (n : Nat) (hn : n ≤ 128) (v : Value) (w : World) (hS : SS w v ((List.range n).map fun i : Nat => bitS (bitI A i))) :
    Calls Try.prog 56 #[.int .i64 kd, v] w fun e w' => e = .returned (kv ⟨kd, n, hi (tp A n), lo (tp A n), []⟩) ∧ Below w.heap.size w w' := by
  have HST := Lib.hid (fun (i : Nat) (h : i < 128) => of_step h0 h1 (i := i) h)
  obtain ⟨z1, z2⟩ := hi_tp0 A h0 h1
  obtain ⟨p, c, rfl, hc, hp⟩ := hS
  rw [List.length_map, List.length_range] at hp hc ⊢
  have HP := Lib.hid (show 0 < n → ∃ g o, p = some ⟨g, o, none⟩ ∧ g < w.heap.size ∧ ∀ j : Nat, j < n → w.cell? ⟨g, o + j, none⟩ = some (.string ⟨(bitS (bitI A j)).toArray⟩) from fun h => by
    obtain ⟨g, o, e1, e2, e3⟩ := hp h
    exact ⟨g, o, e1, e2, fun j hj => e3 j _ (by rw [List.getElem?_map, List.getElem?_range hj]; rfl)⟩)
  clear hp hc
  have hk3 : (kd == 3) = false := by simpa using hk
  obtain ⟨R0, R1, hb0⟩ := two_rows w #[.int .i64 0, .int .i64 0, .int .u64 0, .int .u64 0, .string ⟨#[]⟩] #[.int .i64 kd, .int .i64 n, .int .u64 0, .int .u64 0, .string ⟨#[]⟩] 24 24
  replace R0 := Lib.hid R0
  have HR1 : Hid (Row ((w.alloc (.cells #[.int .i64 0, .int .i64 0, .int .u64 0, .int .u64 0, .string ⟨#[]⟩] 24)).alloc (.cells #[.int .i64 kd, .int .i64 n, .int .u64 0, .int .u64 0, .string ⟨#[]⟩] 24)) (w.heap.size + 1) #[.int .i64 kd, .int .i64 n, .int .u64 (hi (tp A 0)), .int .u64 (lo (tp A 0)), .string ⟨#[]⟩] 24) := Lib.hid (by rw [z1, z2]; exact R1)
  replace hb0 := Lib.hid hb0
  clear R1 z1 z2 h0 h1
  unfold kv
  dsimp only
  have hHL : ∀ x, hi (tp A x) ≤ 18446744073709551615 ∧ lo (tp A x) ≤ 18446744073709551615 := fun x => ⟨hi_le _, lo_le _⟩
  have HHL := Lib.hid hHL
  have HNN := Lib.hid (fun x => (⟨hi_nonneg (tp A x), lo_nonneg (tp A x)⟩ : 0 ≤ hi (tp A x) ∧ 0 ≤ lo (tp A x)))
  clear hHL
  obtain ⟨H, hH⟩ : ∃ H : Nat → Int, ∀ x, H x = hi (tp A x) := ⟨_, fun _ => rfl⟩
  obtain ⟨L, hL⟩ : ∃ L : Nat → Int, ∀ x, L x = lo (tp A x) := ⟨_, fun _ => rfl⟩
  simp only [← hH, ← hL] at *
  clear hH hL
  go_enter Try.func56, Try.ntmps56
  go_wp2_with fail
  go_loopw [6] (fun i wr => ∃ j : Nat, j ≤ n ∧ i = .int .i64 (j : Nat) ∧ Hid (Row wr w.heap.size #[.int .i64 0, .int .i64 0, .int .u64 0, .int .u64 0, .string ⟨#[]⟩] 24) ∧ Hid (Row wr (w.heap.size + 1) #[.int .i64 kd, .int .i64 n, .int .u64 (H j), .int .u64 (L j), .string ⟨#[]⟩] 24) ∧ Hid (Below w.heap.size w wr)) (fun i _ => n - (intOf i).toNat)
  case atStart => exact ⟨0, Nat.zero_le _, rfl, R0, HR1, hb0⟩
  case round =>
    clear R0 HR1 hb0
    obtain ⟨j, hj, rfl, R0, R1, hB⟩ := hrel
    by_cases hlt : j < n
    · obtain ⟨g, o, rfl, hg, hC⟩ := HP.out (by omega)
      have cA := (hB.out.cell (p := ⟨g, o + j, none⟩) hg).trans (hC j hlt)
      have tb := bit_text (bitI A j)
      have tb2 := bit_text2 (bitI A j)
      have hst := HST.out j (by omega)
      have b1 := (HHL.out (j + 1))
      have b2 := (HNN.out j)
      have b3 := (HHL.out j)
      clear HST HHL HNN HP hC
      generalize bitI A j = b at *
      generalize (⟨(bitS b).toArray⟩ : ByteArray) = tx at *
      have hsz : w.heap.size ≤ w.heap.size + 1 := by omega
      rcases hst with ⟨rfl, e1, e2⟩ | ⟨rfl, h64, e1, e2⟩ | ⟨rfl, h64, e1, e2⟩
      · rw [← e1, ← e2] at R1
        clear e1 e2 b1 b2 b3
        go_wp2
        exact ⟨⟨j + 1, by omega, by go_num, R0, R1, hB⟩, by simp [intOf]; omega⟩
      · have d2 := (R1.out.cell 2).trans (show _ = some (Value.int .u64 (H j)) from rfl)
        have df2 := R1.out.frozen 2
        obtain ⟨q, hq⟩ : ∃ q, 63 - j = q := ⟨_, rfl⟩
        rw [hq] at e1
        have pw := pow_word q (by omega)
        have t1 : ((63 : Int) - (j : Int)).toNat = q := by omega
        have t2 : IntKind.u64.wrap (63 - (j : Int)) = 63 - (j : Int) := by rw [IntKind.wrap_u64]; omega
        have t3 : IntKind.u64.wrap (2 ^ q) = 2 ^ q := by rw [IntKind.wrap_u64]; omega
        have t4 : IntKind.u64.wrap (H j + 2 ^ q) = H j + 2 ^ q := by rw [IntKind.wrap_u64]; omega
        have RN := Lib.hid (row_set2 (v := .int .u64 (H j + 2 ^ q)) R1.out)
        rw [← e2] at RN
        have R0N := Lib.hid (R0.out.set_far ⟨w.heap.size + 1, 2, none⟩ (.int .u64 (H j + 2 ^ q)) (by simp))
        have HBN := Lib.hid (hB.out.setCell (p := ⟨w.heap.size + 1, 2, none⟩) hsz (.int .u64 (H j + 2 ^ q)))
        have E1 := Lib.hid e1
        have lt : (j : Int) < 64 := by omega
        have lt' : ¬ (64 : Int) ≤ (j : Int) := by omega
        clear hq e1 e2 b1 b2 b3 hB R0 R1 pw
        go_wp2
        exact ⟨⟨j + 1, by omega, by go_num, R0N, by rw [E1.out]; exact RN, HBN⟩, by simp [intOf]; omega⟩
      · have d2 := (R1.out.cell 3).trans (show _ = some (Value.int .u64 (L j)) from rfl)
        have df2 := R1.out.frozen 3
        obtain ⟨q, hq⟩ : ∃ q, 127 - j = q := ⟨_, rfl⟩
        rw [hq] at e2
        have pw := pow_word q (by omega)
        have t1 : ((127 : Int) - (j : Int)).toNat = q := by omega
        have t2 : IntKind.u64.wrap (127 - (j : Int)) = 127 - (j : Int) := by rw [IntKind.wrap_u64]; omega
        have t3 : IntKind.u64.wrap (2 ^ q) = 2 ^ q := by rw [IntKind.wrap_u64]; omega
        have t4 : IntKind.u64.wrap (L j + 2 ^ q) = L j + 2 ^ q := by rw [IntKind.wrap_u64]; omega
        have RN := Lib.hid (row_set3 (v := .int .u64 (L j + 2 ^ q)) R1.out)
        rw [← e1] at RN
        have R0N := Lib.hid (R0.out.set_far ⟨w.heap.size + 1, 3, none⟩ (.int .u64 (L j + 2 ^ q)) (by simp))
        have HBN := Lib.hid (hB.out.setCell (p := ⟨w.heap.size + 1, 3, none⟩) hsz (.int .u64 (L j + 2 ^ q)))
        have E1 := Lib.hid e2
        have lt : ¬ (j : Int) < 64 := by omega
        have lt' : (64 : Int) ≤ (j : Int) := by omega
        clear hq e1 e2 b1 b2 b3 hB R0 R1 pw
        go_wp2
        exact ⟨⟨j + 1, by omega, by go_num, R0N, by rw [E1.out]; exact RN, HBN⟩, by simp [intOf]; omega⟩
    · have hjn : j = n := by omega
      subst hjn
      have HB := hB.out
      have c0 := ((R0.out).cell 0).trans (show _ = some (Value.int .i64 0) from rfl)
      have cf0 := (R0.out).frozen 0
      have c1 := ((R0.out).cell 1).trans (show _ = some (Value.int .i64 0) from rfl)
      have cf1 := (R0.out).frozen 1
      have c2 := ((R0.out).cell 2).trans (show _ = some (Value.int .u64 0) from rfl)
      have cf2 := (R0.out).frozen 2
      have c3 := ((R0.out).cell 3).trans (show _ = some (Value.int .u64 0) from rfl)
      have cf3 := (R0.out).frozen 3
      have c4 := ((R0.out).cell 4).trans (show _ = some (Value.string ⟨#[]⟩) from rfl)
      have cf4 := (R0.out).frozen 4
      have d0 := ((R1.out).cell 0).trans (show _ = some (Value.int .i64 kd) from rfl)
      have df0 := (R1.out).frozen 0
      have d1 := ((R1.out).cell 1).trans (show _ = some (Value.int .i64 j) from rfl)
      have df1 := (R1.out).frozen 1
      have d2 := ((R1.out).cell 2).trans (show _ = some (Value.int .u64 (H j)) from rfl)
      have df2 := (R1.out).frozen 2
      have d3 := ((R1.out).cell 3).trans (show _ = some (Value.int .u64 (L j)) from rfl)
      have df3 := (R1.out).frozen 3
      have d4 := ((R1.out).cell 4).trans (show _ = some (Value.string ⟨#[]⟩) from rfl)
      have df4 := (R1.out).frozen 4
      clear R0 R1 HST HHL HNN HP hB
      go_wp2
      refine bodyPost_ret (v := .agg #[.int .i64 kd, .int .i64 j, .int .u64 (H j), .int .u64 (L j), .string ⟨#[]⟩]) (by simp [results, Try.results56, go_sem, c0, c1, c2, c3, c4]) rfl ⟨rfl, bset5 HB (Nat.le_refl _) _ _ _ _ _⟩
end Go.Proofs.Ytekoicbjpoeijaa
