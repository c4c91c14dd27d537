/- ParseUint of the library at base 16 and 16 bits. No conditions beyond the text's length. -/
import Derived.Test.YtkenkjdelhmaoaaDoorSixP
namespace Go.Proofs.YtkenkjdelhmaoaaDoor
set_option linter.unusedVariables false
set_option linter.unusedSimpArgs false
open Go.RowKit
theorem low_all : ∀ c : Fin 256, ((65 ≤ (c : Nat) ∧ (c : Nat) ≤ 70) → bits .or .u8 ((c : Nat) : Int) 32 = (c : Nat) + 32) ∧ ((97 ≤ (c : Nat) ∧ (c : Nat) ≤ 102) → bits .or .u8 ((c : Nat) : Int) 32 = (c : Nat)) ∧ (¬ (48 ≤ (c : Nat) ∧ (c : Nat) ≤ 57) → ¬ (97 ≤ (c : Nat) ∧ (c : Nat) ≤ 102) → ¬ (65 ≤ (c : Nat) ∧ (c : Nat) ≤ 70) → (bits .or .u8 ((c : Nat) : Int) 32 < 97 ∨ 103 ≤ bits .or .u8 ((c : Nat) : Int) 32)) := by decide +kernel
theorem hexV_cases (c : UInt8) : (48 ≤ c.toNat ∧ c.toNat ≤ 57 ∧ hexV c = some (c.toNat - 48)) ∨ (97 ≤ c.toNat ∧ c.toNat ≤ 102 ∧ bits .or .u8 (c.toNat : Int) 32 = c.toNat ∧ hexV c = some (c.toNat - 87)) ∨ (65 ≤ c.toNat ∧ c.toNat ≤ 70 ∧ bits .or .u8 (c.toNat : Int) 32 = c.toNat + 32 ∧ hexV c = some (c.toNat - 55)) ∨ (¬ (48 ≤ c.toNat ∧ c.toNat ≤ 57) ∧ (bits .or .u8 (c.toNat : Int) 32 < 97 ∨ 103 ≤ bits .or .u8 (c.toNat : Int) 32) ∧ hexV c = none) := by
  obtain ⟨h1, h2, h3⟩ := low_all ⟨c.toNat, c.toNat_lt⟩
  dsimp only at h1 h2 h3
  unfold hexV
  by_cases c1 : 48 ≤ c.toNat ∧ c.toNat ≤ 57
  · exact Or.inl ⟨c1.1, c1.2, by rw [if_pos c1]⟩
  · by_cases c2 : 97 ≤ c.toNat ∧ c.toNat ≤ 102
    · exact Or.inr (Or.inl ⟨c2.1, c2.2, h2 c2, by rw [if_neg c1, if_pos c2]⟩)
    · by_cases c3 : 65 ≤ c.toNat ∧ c.toNat ≤ 70
      · exact Or.inr (Or.inr (Or.inl ⟨c3.1, c3.2, h1 c3, by rw [if_neg c1, if_neg c2, if_pos c3]⟩))
      · exact Or.inr (Or.inr (Or.inr ⟨c1, h3 c1 c2 c3, by rw [if_neg c1, if_neg c2, if_neg c3]⟩))
/-- what the inner ParseUint answers -/
def HexPost (o : Option Nat) (e : Ending) : Prop := match o with
  | some v => e = .returned (.tuple #[.int .u64 v, .nilIface])
  | none => ∃ (u k : Int), (k = 1 ∨ k = 2) ∧ e = .returned (.tuple #[.int .u64 u, .iface 100 (.int .i64 k)])
theorem hexM_ok {acc d : Nat} {c : UInt8} (r : List UInt8) (h : hexV c = some d) (h1 : ¬ 65535 < acc * 16 + d) : hexM acc (c :: r) = hexM (acc * 16 + d) r := by rw [hexM, h]; simp only [if_neg h1]
theorem hexM_over {acc d : Nat} {c : UInt8} (r : List UInt8) (h : hexV c = some d) (h1 : 65535 < acc * 16 + d) : hexM acc (c :: r) = none := by rw [hexM, h]; simp only [if_pos h1]
theorem hexM_no {acc : Nat} {c : UInt8} (r : List UInt8) (h : hexV c = none) : hexM acc (c :: r) = none := by rw [hexM, h]
set_option maxHeartbeats 8000000 in
set_option maxRecDepth 100000 in
theorem ipu16_t (t : ByteArray) (hne : t.size ≠ 0) (hmax : t.size ≤ 9223372036854775806) (w : World) :
    Calls Tryd.prog 53 #[.string t, .int .i64 16, .int .i64 16] w fun e w' => HexPost (hexM 0 t.data.toList) e ∧ w' = Lib.bytesWorld w 5 t := by
  have hemp : t.toList.isEmpty = false := by
    rw [← decide_eq_emptyBytes]
    exact decide_eq_false (fun h => hne (by rw [h]; rfl))
  have hcv := Lib.run_convert_string_bytes (P := Tryd.prog) w 9 84 5 t (u := .string) Tryd.underlying9 Tryd.underlying84 Tryd.underlying5
  have hB : ∀ j, j < t.size → (Lib.bytesWorld w 5 t).cell? ⟨w.heap.size, j, none⟩ = some (.int .u8 (t.data.toList.getD j 0).toNat) := fun j hj => Lib.bytesWorld_cell w 5 t j hj
  obtain ⟨W1, hW1⟩ : ∃ W1, W1 = Lib.bytesWorld w 5 t := ⟨_, rfl⟩
  rw [← hW1] at hcv hB ⊢
  clear hW1
  obtain ⟨bs, hL⟩ : ∃ bs, bs = t.data.toList := ⟨_, rfl⟩
  have hLn : bs.length = t.size := by rw [hL, Lib.size_eq]
  rw [← hL] at hB ⊢
  clear hL
  have hmv : IntKind.u64.wrap (IntKind.u64.wrap 65536 - 1) = 65535 := by
    rw [IntKind.wrap_u64, IntKind.wrap_u64]
    decide
  go_enter Tryd.func53, Tryd.ntmps53
  go_wp2
  go_loop [12, 13, 101] (fun vu vn vi => ∃ (k acc : Nat) (a : Int), vu = .bool false ∧ vn = .int .u64 a ∧ vi = .int .i64 k ∧ k ≤ t.size ∧ Hid (a = (acc : Int) ∧ acc ≤ 65535 ∧ hexM 0 bs = hexM acc (bs.drop k)))
    (fun _ _ vi => t.size - (intOf vi).toNat)
  case atStart => exact ⟨0, 0, 0, rfl, rfl, rfl, by omega, rfl, by omega, rfl⟩
  case round =>
    obtain ⟨k, acc, a, rfl, rfl, rfl, hk, hh⟩ := hrel
    obtain ⟨ha, hacc, hdec⟩ := hh.out
    clear hh
    have a0 : 0 ≤ a := by omega
    have a1 : a ≤ 65535 := by omega
    by_cases hkn : k < t.size
    · have hc := hB k hkn
      have hdrop : bs.drop k = bs[k]'(by omega) :: bs.drop (k + 1) := List.drop_eq_getElem_cons (by omega)
      have hget : bs.getD k 0 = bs[k]'(by omega) := by simp [List.getD, List.getElem?_eq_getElem (show k < bs.length by omega)]
      rw [hdrop] at hdec
      rw [hget] at hc
      generalize bs[k]'(by omega) = c at hc hdec
      have hc256 : c.toNat < 256 := c.toNat_lt
      clear hB hdrop hget
      rcases hexV_cases c with ⟨hd0, hd1, hv⟩ | ⟨hd0, hd1, hlo, hv⟩ | ⟨hd0, hd1, hlo, hv⟩ | ⟨hdig, hlo, hv⟩
      · by_cases hov : 65535 < acc * 16 + (c.toNat - 48)
        · have HD := Lib.hid (hdec.trans (hexM_over _ hv hov))
          have iov : 65535 < a * 16 + ((c.toNat : Int) - 48) := by omega
          clear hov hacc ha hdec hv
          go_wp2
          go_ret2
          exact ⟨by rw [HD.out]; exact ⟨_, 1, Or.inl rfl, rfl⟩, rfl⟩
        · have HN : Hid (a * 16 + ((c.toNat : Int) - 48) = ((acc * 16 + (c.toNat - 48) : Nat) : Int) ∧ acc * 16 + (c.toNat - 48) ≤ 65535 ∧ hexM 0 bs = hexM (acc * 16 + (c.toNat - 48)) (bs.drop (k + 1))) := Lib.hid ⟨by omega, by omega, hdec.trans (hexM_ok _ hv hov)⟩
          have iov : a * 16 + ((c.toNat : Int) - 48) ≤ 65535 := by omega
          clear hacc hov hdec ha hv
          go_wp2
          refine ⟨⟨k + 1, acc * 16 + (c.toNat - 48), a * 16 + ((c.toNat : Int) - 48), rfl, (by first | rfl | (congr 1; omega)), (by first | rfl | (congr 1; omega)), by omega, HN⟩, by simp [intOf]; omega⟩
      · by_cases hov : 65535 < acc * 16 + (c.toNat - 87)
        · have HD := Lib.hid (hdec.trans (hexM_over _ hv hov))
          have iov : 65535 < a * 16 + ((c.toNat : Int) - 97 + 10) := by omega
          clear hov hacc ha hdec hv
          go_wp2_with (go_at_call 62; refine (Tryd.internal_strconv_lower _ _).mono ?_; rintro e w' ⟨rfl, rfl⟩; rw [hlo])
          go_ret2
          exact ⟨by rw [HD.out]; exact ⟨_, 1, Or.inl rfl, rfl⟩, rfl⟩
        · have HN : Hid (a * 16 + ((c.toNat : Int) - 97 + 10) = ((acc * 16 + (c.toNat - 87) : Nat) : Int) ∧ acc * 16 + (c.toNat - 87) ≤ 65535 ∧ hexM 0 bs = hexM (acc * 16 + (c.toNat - 87)) (bs.drop (k + 1))) := Lib.hid ⟨by omega, by omega, hdec.trans (hexM_ok _ hv hov)⟩
          have iov : a * 16 + ((c.toNat : Int) - 97 + 10) ≤ 65535 := by omega
          clear hacc hov hdec ha hv
          go_wp2_with (go_at_call 62; refine (Tryd.internal_strconv_lower _ _).mono ?_; rintro e w' ⟨rfl, rfl⟩; rw [hlo])
          refine ⟨⟨k + 1, acc * 16 + (c.toNat - 87), a * 16 + ((c.toNat : Int) - 97 + 10), rfl, (by first | rfl | (congr 1; omega)), (by first | rfl | (congr 1; omega)), by omega, HN⟩, by simp [intOf]; omega⟩
      · by_cases hov : 65535 < acc * 16 + (c.toNat - 55)
        · have HD := Lib.hid (hdec.trans (hexM_over _ hv hov))
          have iov : 65535 < a * 16 + ((c.toNat : Int) + 32 - 97 + 10) := by omega
          clear hov hacc ha hdec hv
          go_wp2_with (go_at_call 62; refine (Tryd.internal_strconv_lower _ _).mono ?_; rintro e w' ⟨rfl, rfl⟩; rw [hlo])
          go_ret2
          exact ⟨by rw [HD.out]; exact ⟨_, 1, Or.inl rfl, rfl⟩, rfl⟩
        · have HN : Hid (a * 16 + ((c.toNat : Int) + 32 - 97 + 10) = ((acc * 16 + (c.toNat - 55) : Nat) : Int) ∧ acc * 16 + (c.toNat - 55) ≤ 65535 ∧ hexM 0 bs = hexM (acc * 16 + (c.toNat - 55)) (bs.drop (k + 1))) := Lib.hid ⟨by omega, by omega, hdec.trans (hexM_ok _ hv hov)⟩
          have iov : a * 16 + ((c.toNat : Int) + 32 - 97 + 10) ≤ 65535 := by omega
          clear hacc hov hdec ha hv
          go_wp2_with (go_at_call 62; refine (Tryd.internal_strconv_lower _ _).mono ?_; rintro e w' ⟨rfl, rfl⟩; rw [hlo])
          refine ⟨⟨k + 1, acc * 16 + (c.toNat - 55), a * 16 + ((c.toNat : Int) + 32 - 97 + 10), rfl, (by first | rfl | (congr 1; omega)), (by first | rfl | (congr 1; omega)), by omega, HN⟩, by simp [intOf]; omega⟩
      · have HD := Lib.hid (hdec.trans (hexM_no _ hv))
        clear hacc ha hdec hv
        have hv0 := bits_lo_u8 .or (c.toNat : Int) 32
        have hv1 := bits_hi_u8 .or (c.toNat : Int) 32
        have hu0 : bits .or .u8 95 32 = 127 := by decide +kernel
        go_wp2_with (go_at_call 62; refine (Tryd.internal_strconv_lower _ _).mono ?_; rintro e w' ⟨rfl, rfl⟩)
        all_goals go_ret2
        all_goals exact ⟨by rw [HD.out]; exact ⟨_, 2, Or.inr rfl, rfl⟩, rfl⟩
    · have hkk : k = t.size := by omega
      subst hkk
      have hF : hexM acc (bs.drop t.size) = some acc := by rw [List.drop_eq_nil_of_le (by omega)]; rfl
      have HD := Lib.hid (hdec.trans hF)
      subst ha
      clear hacc hF a0 a1 hdec
      go_wp2
      go_ret2
      exact ⟨by rw [HD.out]; rfl, rfl⟩
theorem pu16_in (l : List UInt8) (hl : l.length ≤ 4000000000) (w : World) : Calls Tryd.prog 53 #[.string ⟨l.toArray⟩, .int .i64 16, .int .i64 16] w fun e w' => HexPost (hexP l) e ∧ Below w.heap.size w w' := by
  by_cases h0 : l = []
  · subst h0
    refine (Tryd.internal_strconv_ParseUint_empty 16 16 w).mono ?_
    rintro e w' ⟨rfl, rfl⟩
    exact ⟨⟨0, 2, Or.inr rfl, rfl⟩, Below.refl _ _⟩
  · have hln : l.length ≠ 0 := fun h => h0 (List.length_eq_zero_iff.1 h)
    refine (ipu16_t ⟨l.toArray⟩ (by rw [bs_size]; exact hln) (by rw [bs_size]; omega) w).mono ?_
    rintro e w' ⟨h, rfl⟩
    rw [bs_data] at h
    unfold hexP
    rw [if_neg h0]
    exact ⟨h, Joins.below_bytesWorld _ w _ _ (Nat.le_refl _)⟩
end Go.Proofs.YtkenkjdelhmaoaaDoor
