/- The reference's group and cut of layer 4. No conditions beyond the text's length. -/
import Derived.Test.YtkenkjdelhmaoaaDoorSixR2
import Derived.Test.YtkenkjdelhmaoaaDoorFour7
namespace Go.Proofs.YtkenkjdelhmaoaaDoor
set_option linter.unusedVariables false
set_option linter.unusedSimpArgs false
open Go.RowKit
def gAcc : Nat → List UInt8 → Option Nat
  | acc, [] => some acc
  | acc, c :: r => match hexV c with
    | none => none
    | some d => gAcc ((16 * acc + d) % 65536) r
theorem gAcc_hexM : ∀ (l : List UInt8) (k acc : Nat), acc < 16 ^ k → l.length + k ≤ 4 → hexM acc l = gAcc acc l
  | [], _, _, _, _ => rfl
  | c :: r, k, acc, h, hl => by
    rw [hexM, gAcc]
    cases hv : hexV c with
    | none => rfl
    | some d =>
      have hd := hexV_lt hv
      have hk : k + 1 ≤ 4 := by simp at hl; omega
      have h16 : 16 * acc + d < 16 ^ (k + 1) := by rw [Nat.pow_succ]; omega
      have hp : 16 ^ (k + 1) ≤ 16 ^ 4 := Nat.pow_le_pow_right (by decide) hk
      have h65 : (16 : Nat) ^ 4 = 65536 := by decide
      dsimp only
      rw [if_neg (by omega), Nat.mod_eq_of_lt (by omega), show acc * 16 + d = 16 * acc + d by omega]
      exact gAcc_hexM r (k + 1) _ h16 (by simp at hl; omega)
theorem grpV_acc (l : List UInt8) : grpV l = if 0 < l.length ∧ l.length < 5 then gAcc 0 l else none := by
  unfold grpV hexP
  by_cases h4 : 4 < l.length
  · rw [if_pos h4, if_neg (by omega)]
  · rw [if_neg h4]
    by_cases h0 : l = []
    · rw [if_pos h0, if_neg (by rw [h0]; simp)]
    · have : 0 < l.length := List.length_pos_iff.2 h0
      rw [if_neg h0, if_pos (by omega), gAcc_hexM l 0 0 (by decide) (by omega)]
theorem gAcc_no {acc : Nat} {c : UInt8} (r : List UInt8) (h : hexV c = none) : gAcc acc (c :: r) = none := by rw [gAcc, h]
theorem gAcc_ok {acc d : Nat} {c : UInt8} (r : List UInt8) (h : hexV c = some d) : gAcc acc (c :: r) = gAcc ((16 * acc + d) % 65536) r := by rw [gAcc, h]
def GrpPost (o : Option Nat) (e : Ending) : Prop := match o with
  | some v => e = .returned (.tuple #[.int .u16 v, .bool true])
  | none => ∃ x, e = .returned (.tuple #[.int .u16 x, .bool false])
set_option maxRecDepth 100000 in
set_option maxHeartbeats 3200000 in
theorem group_t (l : List UInt8) (hl : l.length ≤ 300) (w : World) : Calls Tryd.prog 57 #[.string ⟨l.toArray⟩] w fun e w' => GrpPost (grpV l) e ∧ w = w' := by
  have hsz := bs_size l
  have HGV := Lib.hid (grpV_acc l)
  generalize grpV l = gv at *
  go_enter Tryd.func57, Tryd.ntmps57
  go_wp2_with fail
  go_loopw [4, 5] (fun vn i wr => ∃ (j acc : Nat), j ≤ l.length ∧ acc < 65536 ∧ i = .int .i64 (j : Nat) ∧ vn = .int .u16 (acc : Nat) ∧ Hid (gAcc 0 l = gAcc acc (l.drop j)) ∧ wr = w) (fun _ i _ => l.length - (intOf i).toNat)
  case atStart => exact ⟨0, 0, by omega, by omega, rfl, rfl, Lib.hid rfl, rfl⟩
  case round =>
    obtain ⟨j, acc, hj, hacc, rfl, rfl, hg, rfl⟩ := hrel
    by_cases hlt : j < l.length
    · have hdrop : l.drop j = l[j] :: l.drop (j + 1) := List.drop_eq_getElem_cons hlt
      have hg2 := hg.out
      rw [hdrop] at hg2
      have hsp : j < (⟨l.toArray⟩ : ByteArray).size := by rw [hsz]; exact hlt
      have hch : (⟨l.toArray⟩ : ByteArray)[j]'hsp = l[j] := rfl
      have hlt' : (j : Int) < (l.length : Int) := by omega
      generalize l[j] = c at *
      have hcn : c.toNat < 256 := c.toNat_lt
      clear hdrop hg
      rcases hexV_cases c with ⟨hd0, hd1, hv⟩ | ⟨hd0, hd1, _, hv⟩ | ⟨hd0, hd1, _, hv⟩ | ⟨hdig, hlo, hv⟩
      · rw [gAcc_ok _ hv] at hg2
        have HG := Lib.hid hg2
        have i0 : (48 : Int) ≤ (c.toNat : Int) := by omega
        have i1 : (c.toNat : Int) ≤ 57 := by omega
        clear hg2 hv
        go_wp2
        exact ⟨⟨j + 1, (16 * acc + (c.toNat - 48)) % 65536, by omega, Nat.mod_lt _ (by decide), by go_num, congrArg (Value.int .u16) (by simp [IntKind.wrap, IntKind.bits, IntKind.signed]; omega), HG, trivial⟩, by simp [intOf]; omega⟩
      · rw [gAcc_ok _ hv] at hg2
        have HG := Lib.hid hg2
        have i0 : (97 : Int) ≤ (c.toNat : Int) := by omega
        have i1 : (c.toNat : Int) ≤ 102 := by omega
        clear hg2 hv
        go_wp2
        exact ⟨⟨j + 1, (16 * acc + (c.toNat - 87)) % 65536, by omega, Nat.mod_lt _ (by decide), by go_num, congrArg (Value.int .u16) (by simp [IntKind.wrap, IntKind.bits, IntKind.signed]; omega), HG, trivial⟩, by simp [intOf]; omega⟩
      · rw [gAcc_ok _ hv] at hg2
        have HG := Lib.hid hg2
        have i0 : (65 : Int) ≤ (c.toNat : Int) := by omega
        have i1 : (c.toNat : Int) ≤ 70 := by omega
        clear hg2 hv
        go_wp2
        exact ⟨⟨j + 1, (16 * acc + (c.toNat - 55)) % 65536, by omega, Nat.mod_lt _ (by decide), by go_num, congrArg (Value.int .u16) (by simp [IntKind.wrap, IntKind.bits, IntKind.signed]; omega), HG, trivial⟩, by simp [intOf]; omega⟩
      · rw [gAcc_no _ hv] at hg2
        have hgn : gv = none := by rw [HGV.out, hg2]; simp
        have hnx : ¬ (48 ≤ c.toNat ∧ c.toNat ≤ 57) ∧ ¬ (97 ≤ c.toNat ∧ c.toNat ≤ 102) ∧ ¬ (65 ≤ c.toNat ∧ c.toNat ≤ 70) := by
          unfold hexV at hv
          refine ⟨hdig, fun h => ?_, fun h => ?_⟩
          · rw [if_neg hdig, if_pos h] at hv; cases hv
          · rw [if_neg hdig, if_neg (by omega), if_pos h] at hv; cases hv
        clear hv hlo hg2 hdig
        have HGN := Lib.hid hgn
        clear hgn
        have hcs : c.toNat < 48 ∨ (57 < c.toNat ∧ c.toNat < 65) ∨ (70 < c.toNat ∧ c.toNat < 97) ∨ 102 < c.toNat := by omega
        clear hnx
        rcases hcs with h | ⟨h, h'⟩ | ⟨h, h'⟩ | h
        · have i0 : (c.toNat : Int) < 48 := by omega
          go_wp2
          go_ret2
          exact ⟨by rw [HGN.out]; exact ⟨_, rfl⟩, rfl⟩
        · have i0 : (57 : Int) < (c.toNat : Int) := by omega
          have i1 : (c.toNat : Int) < 65 := by omega
          go_wp2
          go_ret2
          exact ⟨by rw [HGN.out]; exact ⟨_, rfl⟩, rfl⟩
        · have i0 : (70 : Int) < (c.toNat : Int) := by omega
          have i1 : (c.toNat : Int) < 97 := by omega
          go_wp2
          go_ret2
          exact ⟨by rw [HGN.out]; exact ⟨_, rfl⟩, rfl⟩
        · have i0 : (102 : Int) < (c.toNat : Int) := by omega
          go_wp2
          go_ret2
          exact ⟨by rw [HGN.out]; exact ⟨_, rfl⟩, rfl⟩
    · have hjj : j = l.length := by omega
      have hg2 := hg.out
      rw [hjj, List.drop_eq_nil_of_le (Nat.le_refl _)] at hg2
      have hlt' : ¬ (j : Int) < (l.length : Int) := by omega
      have hgv : gv = if 0 < l.length ∧ l.length < 5 then some acc else none := by rw [HGV.out, hg2]; rfl
      have HGV2 := Lib.hid hgv
      clear hgv hg2 hg hjj
      by_cases h0 : 0 < l.length
      · have h0' : (0 : Int) < (l.length : Int) := by omega
        by_cases h5 : l.length < 5
        · have h5' : (l.length : Int) < 5 := by omega
          go_wp2
          go_ret2
          exact ⟨by rw [HGV2.out, if_pos ⟨h0, h5⟩]; rfl, rfl⟩
        · have h5' : ¬ (l.length : Int) < 5 := by omega
          go_wp2
          go_ret2
          exact ⟨by rw [HGV2.out, if_neg (fun h => h5 h.2)]; exact ⟨_, rfl⟩, rfl⟩
      · have h0' : ¬ (0 : Int) < (l.length : Int) := by omega
        go_wp2
        go_ret2
        exact ⟨by rw [HGV2.out, if_neg (fun h => h0 h.1)]; exact ⟨_, rfl⟩, rfl⟩
theorem occ2 (l : List UInt8) (k : Nat) (h : k + 1 < l.length) : Lib.occAt l [58, 58] k = (decide (l[k] = 58) && decide (l[k + 1] = 58)) := by
  unfold Lib.occAt
  rw [List.drop_eq_getElem_cons (show k < l.length by omega), List.drop_eq_getElem_cons h]
  have e : ∀ x : UInt8, ((58 : UInt8) == x) = decide (x = 58) := fun x => by
    by_cases h : x = 58
    · subst h; rfl
    · rw [decide_eq_false h]; exact beq_eq_false_iff_ne.2 (fun he => h he.symm)
  show (((58 : UInt8) == l[k]) && (((58 : UInt8) == l[k + 1]) && true)) = _
  rw [Bool.and_true, e, e]
theorem occ_end (l : List UInt8) (k : Nat) (h : l.length ≤ k + 1) : Lib.occAt l [58, 58] k = false := by
  cases hq : Lib.occAt l [58, 58] k with
  | false => rfl
  | true =>
    rcases Lib.occAt_room hq with h1 | h1
    · simp at h1; omega
    · cases h1
set_option maxRecDepth 100000 in
set_option maxHeartbeats 1600000 in
theorem rcut_t (l : List UInt8) (hl : l.length ≤ 300) (w : World) : Calls Tryd.prog 45 #[.string ⟨l.toArray⟩] w fun e w' => e = .returned (.int .i64 (Lib.index l [58, 58])) ∧ w = w' := by
  have hsz := bs_size l
  obtain ⟨ix, hix⟩ : ∃ ix, ix = Lib.index l [58, 58] := ⟨_, rfl⟩
  rw [← hix]
  have HI := Lib.hid hix
  clear hix
  go_enter Tryd.func45, Tryd.ntmps45
  go_wp2_with fail
  go_loopw [3] (fun i wr => ∃ (j : Nat), j ≤ l.length ∧ i = .int .i64 (j : Nat) ∧ Hid (∀ k, k < j → Lib.occAt l [58, 58] k = false) ∧ wr = w) (fun i _ => l.length - (intOf i).toNat)
  case atStart => exact ⟨0, by omega, rfl, Lib.hid (fun k h => by omega), rfl⟩
  case round =>
    obtain ⟨j, hj, rfl, hno, rfl⟩ := hrel
    by_cases hlt : j + 1 < l.length
    · have hlt' : (j : Int) + 1 < (l.length : Int) := by omega
      have hoc := occ2 l j hlt
      have hsp : j < (⟨l.toArray⟩ : ByteArray).size := by rw [hsz]; omega
      have hch : (⟨l.toArray⟩ : ByteArray)[j]'hsp = l[j] := rfl
      have hsp2 : j + 1 < (⟨l.toArray⟩ : ByteArray).size := by rw [hsz]; omega
      have hch2 : (⟨l.toArray⟩ : ByteArray)[j + 1]'hsp2 = l[j + 1] := rfl
      have q2 : ((j : Int) + 1).toNat = j + 1 := by omega
      have HOC := Lib.hid hoc
      clear hoc
      generalize l[j] = c at *
      generalize l[j + 1] = c2 at *
      have hc1 := c.toNat_lt
      have hc2 := c2.toNat_lt
      have t58 : ∀ x : UInt8, x = 58 ↔ x.toNat = 58 := fun x => ⟨fun h => by rw [h]; rfl, fun h => UInt8.toNat_inj.1 h⟩
      by_cases h1 : c.toNat = 58
      · by_cases h2 : c2.toNat = 58
        · have hres : ix = (j : Int) := by
            rw [HI.out]
            exact Lib.index_first (by omega) (by rw [HOC.out]; simp [(t58 c).2 h1, (t58 c2).2 h2]) hno.out
          have HRES := Lib.hid hres
          have e1 : ((c.toNat : Int) == 58) = true := by simp; omega
          have e2 : ((c2.toNat : Int) == 58) = true := by simp; omega
          obtain rfl := (t58 c).2 h1
          obtain rfl := (t58 c2).2 h2
          clear hres t58
          go_wp2
          go_ret
          exact ⟨by rw [HRES.out]; rfl, rfl⟩
        · have hocf : Lib.occAt l [58, 58] j = false := by rw [HOC.out, decide_eq_false (fun h => h2 ((t58 c2).1 h)), Bool.and_false]
          have e2 : ((c2.toNat : Int) == 58) = false := by simp; omega
          have e2' : ¬ (c2.toNat : Int) = 58 := by omega
          obtain rfl := (t58 c).2 h1
          have HN : Hid (∀ k, k < j + 1 → Lib.occAt l [58, 58] k = false) := Lib.hid (fun k hk => by
            by_cases e : k < j
            · exact hno.out k e
            · obtain rfl : k = j := by omega
              exact hocf)
          clear hocf t58
          go_wp2
          exact ⟨⟨j + 1, by omega, by go_num, HN, trivial⟩, by simp [intOf]; omega⟩
      · have hocf : Lib.occAt l [58, 58] j = false := by rw [HOC.out, decide_eq_false (fun h => h1 ((t58 c).1 h)), Bool.false_and]
        have e1 : ((c.toNat : Int) == 58) = false := by simp; omega
        have e1' : ¬ (c.toNat : Int) = 58 := by omega
        have HN : Hid (∀ k, k < j + 1 → Lib.occAt l [58, 58] k = false) := Lib.hid (fun k hk => by
          by_cases e : k < j
          · exact hno.out k e
          · obtain rfl : k = j := by omega
            exact hocf)
        clear hocf t58
        go_wp2
        exact ⟨⟨j + 1, by omega, by go_num, HN, trivial⟩, by simp [intOf]; omega⟩
    · have hlt' : ¬ (j : Int) + 1 < (l.length : Int) := by omega
      have hres : ix = -1 := by
        rw [HI.out]
        exact Lib.index_none (fun k _ => by
          by_cases e : k < j
          · exact hno.out k e
          · exact occ_end l k (by omega))
      have HRES := Lib.hid hres
      clear hres
      go_wp2
      go_ret
      exact ⟨by rw [HRES.out]; rfl, rfl⟩
end Go.Proofs.YtkenkjdelhmaoaaDoor
