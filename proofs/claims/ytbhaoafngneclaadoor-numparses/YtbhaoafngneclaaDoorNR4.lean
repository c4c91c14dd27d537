/- The reference's Is, Less, Most: which texts are numbers, and their order. No conditions beyond lengths. -/
import Derived.Test.YtbhaoafngneclaaDoorLawNumPrints
namespace Go.Proofs.YtbhaoafngneclaaDoor
set_option linter.unusedVariables false
set_option linter.unusedSimpArgs false
open Go.RowKit
set_option maxHeartbeats 1600000 in
theorem refIs_t (l : List UInt8) (hl : l.length ≤ 1000) (w : World) : Calls Tryd.prog 13 #[.string ⟨l.toArray⟩] w fun e w' => e = .returned (.bool (txB l)) ∧ Below w.heap.size w w' := by
  have hsz := bs_size l
  go_enter Tryd.func13, Tryd.ntmps13
  go_wp2_with fail
  go_loopw [3] (fun i wr => ∃ (j : Nat), j ≤ l.length ∧ i = .int .i64 j ∧ Hid (∀ i (hi : i < j) (hl : i < l.length), dgB l[i] = true) ∧ wr = w) (fun i _ => l.length - (intOf i).toNat)
  case atStart => exact ⟨0, by omega, rfl, Lib.hid (fun i hi => by omega), rfl⟩
  case round =>
    obtain ⟨j, hj, rfl, hm, rfl⟩ := hrel
    by_cases hlt : j < l.length
    · obtain ⟨c, hlj⟩ : ∃ c, l[j] = c := ⟨_, rfl⟩
      have hsp : j < (⟨l.toArray⟩ : ByteArray).size := by rw [hsz]; exact hlt
      have hch : (⟨l.toArray⟩ : ByteArray)[j]'hsp = c := hlj
      have HJ := Lib.hid hlj
      clear hlj
      have hc : c.toNat < 256 := c.toNat_lt
      by_cases h1 : 48 ≤ c.toNat
      · by_cases h2 : c.toNat ≤ 57
        · have h1' : ¬ (c.toNat : Int) < 48 := by omega
          have h2' : ¬ (57 : Int) < (c.toNat : Int) := by omega
          have HD := Lib.hid (show dgB c = true by simp [dgB, h1, h2])
          clear h1 h2
          go_wp2
          refine ⟨⟨j + 1, by omega, by go_num, Lib.hid (fun i hi hl => ?_), by first | rfl | trivial⟩, by simp [intOf]; omega⟩
          by_cases hij : i = j
          · subst hij; rw [HJ.out]; exact HD.out
          · exact hm.out i (by omega) hl
        · have h1' : ¬ (c.toNat : Int) < 48 := by omega
          have h2' : (57 : Int) < (c.toNat : Int) := by omega
          have HB := Lib.hid (txB_bad hlt (by rw [HJ.out]; simp [dgB, h2]))
          clear h1 h2
          go_wp2
          go_ret
          exact ⟨by rw [HB.out]; rfl, Below.refl _ _⟩
      · have h1' : (c.toNat : Int) < 48 := by omega
        have HB := Lib.hid (txB_bad hlt (by rw [HJ.out]; simp [dgB, h1]))
        clear h1
        go_wp2
        go_ret
        exact ⟨by rw [HB.out]; rfl, Below.refl _ _⟩
    · have HB := Lib.hid (txB_ok (l := l) (fun i hi => hm.out i (by omega) hi))
      have hlt' : ¬ (j : Int) < (l.length : Int) := by omega
      have HM := hm
      clear hm
      by_cases e2 : l = []
      · have HC := Lib.hid (show txB l = false by rw [HB.out]; simp [e2])
        have h0 : (l.length : Int) = 0 := by rw [e2]; rfl
        clear HB e2 HM
        go_wp2
        go_ret
        exact ⟨by rw [HC.out]; rfl, Below.refl _ _⟩
      · have h0 : 0 < l.length := List.length_pos_iff.2 e2
        obtain ⟨c, hlj⟩ : ∃ c, l[0] = c := ⟨_, rfl⟩
        have hhd : l.head? = some c := by rw [List.head?_eq_getElem?, List.getElem?_eq_getElem h0, hlj]
        have hdg : dgB c = true := by rw [← hlj]; exact HM.out 0 (by omega) h0
        have hcd : 48 ≤ c.toNat ∧ c.toNat ≤ 57 := by simpa [dgB] using hdg
        clear HM hdg
        by_cases e1 : l.length = 1
        · have hl1 : l = [c] := by
            obtain ⟨x, hx⟩ := List.length_eq_one_iff.1 e1
            subst hx; simp at hlj; rw [hlj]
          have HC := Lib.hid (show txB l = true by
            rw [HB.out, hl1]
            by_cases e : c = 48
            · subst e; rfl
            · simp [e])
          have e1' : (l.length : Int) = 1 := by omega
          clear HB hl1 hhd e2 e1 hlj
          go_wp2
          go_ret
          exact ⟨by rw [HC.out]; rfl, Below.refl _ _⟩
        · have hsp : 0 < (⟨l.toArray⟩ : ByteArray).size := by rw [hsz]; exact h0
          have hch : (⟨l.toArray⟩ : ByteArray)[0]'hsp = c := hlj
          have hn1 : ¬ (l.length : Int) = 1 := by omega
          have hn2 : (1 : Int) < (l.length : Int) := by omega
          have hne : ¬ l = [48] := fun e => e1 (by rw [e]; rfl)
          by_cases e3 : c = 48
          · have HC := Lib.hid (show txB l = false by rw [HB.out, hhd]; simp [hne, e3])
            have e4 : ¬ (48 : Int) < (c.toNat : Int) := by rw [e3]; decide
            clear HB e3 hlj hhd e1 e2 hne
            go_wp2
            go_ret
            exact ⟨by rw [HC.out]; first | rfl | exact congrArg (fun b => Ending.returned (Value.bool b)) (show ((l.length : Int) == 1) = false by simp; omega), Below.refl _ _⟩
          · have HC := Lib.hid (show txB l = true by rw [HB.out, hhd]; simp [e2, e3])
            have e4 : (48 : Int) < (c.toNat : Int) := by
              have : ¬ c.toNat = 48 := fun h => e3 (UInt8.toNat_inj.1 h)
              omega
            clear HB e3 hlj hhd e1 e2 hne
            go_wp2
            go_ret
            exact ⟨by rw [HC.out]; rfl, Below.refl _ _⟩
/-- the order of texts: shorter, or as long and not behind as bytes -/
def leT : List UInt8 → List UInt8 → Bool
  | [], [] => true
  | c :: r, d :: s => if c = d then leT r s else decide (c.toNat < d.toNat)
  | _, _ => false
def lessT (l m : List UInt8) : Bool := if l.length = m.length then leT l m else decide (l.length < m.length)
theorem leT_same : ∀ (l m : List UInt8), l.length = m.length → (∀ i (h1 : i < l.length) (h2 : i < m.length), l[i] = m[i]) → leT l m = true
  | [], [], _, _ => rfl
  | [], _ :: _, h, _ => by simp at h
  | _ :: _, [], h, _ => by simp at h
  | c :: r, d :: s, h, he => by
    have e0 : c = d := he 0 (by simp) (by simp)
    rw [leT, if_pos e0]
    exact leT_same r s (by simpa using h) (fun i h1 h2 => he (i + 1) (by simpa using h1) (by simpa using h2))
theorem leT_at : ∀ (l m : List UInt8) (k : Nat) (h1 : k < l.length) (h2 : k < m.length), l.length = m.length → (∀ i (_ : i < k) (h1 : i < l.length) (h2 : i < m.length), l[i] = m[i]) → l[k] ≠ m[k] → leT l m = decide (l[k].toNat < m[k].toNat)
  | [], _, k, h1, _, _, _, _ => by simp at h1
  | _ :: _, [], k, _, h2, _, _, _ => by simp at h2
  | c :: r, d :: s, 0, _, _, _, _, hne => by
    have : c ≠ d := hne
    rw [leT, if_neg this]; rfl
  | c :: r, d :: s, k + 1, h1, h2, h, he, hne => by
    have e0 : c = d := he 0 (by omega) (by simp) (by simp)
    rw [leT, if_pos e0, leT_at r s k (by simpa using h1) (by simpa using h2) (by simpa using h) (fun i hi a b => he (i + 1) (by omega) (by simpa using a) (by simpa using b)) (by simpa using hne)]; rfl
theorem leT_val : ∀ (l m : List UInt8) (a : Nat), l.length = m.length → digs l → digs m → leT l m = decide (valA a l ≤ valA a m)
  | [], [], a, _, _, _ => by simp [leT]
  | [], _ :: _, _, h, _, _ => by simp at h
  | _ :: _, [], _, h, _, _ => by simp at h
  | c :: x, d :: y, a, h, hl, hm => by
    have hc := hl c (by simp)
    have hd := hm d (by simp)
    have hx : digs x := fun e he => hl e (by simp [he])
    have hy : digs y := fun e he => hm e (by simp [he])
    have hlen : x.length = y.length := by simpa using h
    show leT (c :: x) (d :: y) = decide (valA (10 * a + (c.toNat - 48)) x ≤ valA (10 * a + (d.toNat - 48)) y)
    rw [leT]
    by_cases e : c = d
    · subst e
      rw [if_pos rfl, leT_val x y _ hlen hx hy]
    · rw [if_neg e]
      have hn : c.toNat ≠ d.toNat := fun h => e (UInt8.toNat_inj.1 h)
      by_cases h1 : c.toNat < d.toNat
      · have := val_mono x y (10 * a + (c.toNat - 48)) (10 * a + (d.toNat - 48)) hlen hx hy (by omega)
        rw [decide_eq_true h1, decide_eq_true (by omega)]
      · have := val_mono y x (10 * a + (d.toNat - 48)) (10 * a + (c.toNat - 48)) hlen.symm hy hx (by omega)
        rw [decide_eq_false h1, decide_eq_false (by omega)]
theorem lessT_dec (a b : Nat) : lessT (decN a) (decN b) = decide (a ≤ b) := by
  unfold lessT
  split
  · rename_i h
    rw [leT_val _ _ 0 h (dec_digs a) (dec_digs b)]
    show decide (valT (decN a) ≤ valT (decN b)) = _
    rw [valT_dec, valT_dec]
  · rename_i h
    by_cases h1 : (decN a).length < (decN b).length
    · have := dec_shorter h1
      rw [decide_eq_true h1, decide_eq_true (by omega)]
    · have := dec_shorter (a := b) (b := a) (by omega)
      rw [decide_eq_false h1, decide_eq_false (by omega)]
set_option maxRecDepth 100000 in
set_option maxHeartbeats 1600000 in
theorem refLess_t (l m : List UInt8) (hl : l.length ≤ 1000) (hm : m.length ≤ 1000) (w : World) : Calls Tryd.prog 14 #[.string ⟨l.toArray⟩, .string ⟨m.toArray⟩] w fun e w' => e = .returned (.bool (lessT l m)) ∧ Below w.heap.size w w' := by
  have hsz := bs_size l
  have hsm := bs_size m
  by_cases hq : l.length = m.length
  · have hq' : (l.length : Int) = (m.length : Int) := by omega
    have HL : Hid (lessT l m = leT l m) := Lib.hid (if_pos hq)
    have HQ := Lib.hid hq
    clear hq
    go_enter Tryd.func14, Tryd.ntmps14
    go_wp2_with fail
    go_loopw [5] (fun i wr => ∃ (j : Nat), j ≤ l.length ∧ i = .int .i64 j ∧ Hid (∀ i (_ : i < j) (h1 : i < l.length) (h2 : i < m.length), l[i] = m[i]) ∧ Below w.heap.size w wr) (fun i _ => l.length - (intOf i).toNat)
    case atStart => exact ⟨0, by omega, rfl, Lib.hid (fun i hi => by omega), Below.refl _ _⟩
    case round =>
      obtain ⟨j, hj, rfl, hs, hb⟩ := hrel
      have HB := Lib.hid hb
      clear hb
      by_cases hlt : j < l.length
      · have hlm : j < m.length := by rw [← HQ.out]; exact hlt
        obtain ⟨c, hlj⟩ : ∃ c, l[j] = c := ⟨_, rfl⟩
        obtain ⟨d, hmj⟩ : ∃ d, m[j] = d := ⟨_, rfl⟩
        have hsp : j < (⟨l.toArray⟩ : ByteArray).size := by rw [hsz]; exact hlt
        have hch : (⟨l.toArray⟩ : ByteArray)[j]'hsp = c := hlj
        have hspm : j < (⟨m.toArray⟩ : ByteArray).size := by rw [hsm]; exact hlm
        have hdh : (⟨m.toArray⟩ : ByteArray)[j]'hspm = d := hmj
        have hlt' : (j : Int) < (l.length : Int) := by omega
        have hlm' : (j : Int) < (m.length : Int) := by omega
        by_cases e : c = d
        · have HE := Lib.hid (hlj.trans (e.trans hmj.symm))
          subst e
          clear hlj hmj
          go_wp2_with fail
          go_region
          all_goals go_wp2
          all_goals exact ⟨⟨j + 1, by omega, by go_num, Lib.hid (fun i hi h1 h2 => by
            by_cases hij : i = j
            · subst hij; exact HE.out
            · exact hs.out i (by omega) h1 h2), HB.out.drew⟩, by simp [intOf]; omega⟩
        · have HE := Lib.hid (leT_at l m j hlt hlm HQ.out hs.out (by rw [hlj, hmj]; exact e))
          rw [hlj, hmj] at HE
          have hn : ¬ (c.toNat : Int) = (d.toNat : Int) := fun h => e (UInt8.toNat_inj.1 (by omega))
          clear hlj hmj e
          by_cases hcd : (c.toNat : Int) < (d.toNat : Int)
          · have HF := Lib.hid (HE.out.trans (decide_eq_true (by omega)))
            clear HE
            go_wp2_with fail
            go_region
            all_goals go_wp2
            all_goals go_region
            all_goals go_wp2
            all_goals go_ret
            all_goals exact ⟨by rw [HL.out, HF.out]; rfl, HB.out.drew.drew⟩
          · have HF := Lib.hid (HE.out.trans (decide_eq_false (by omega)))
            clear HE
            go_wp2_with fail
            go_region
            all_goals go_wp2
            all_goals go_region
            all_goals go_wp2
            all_goals go_ret
            all_goals exact ⟨by rw [HL.out, HF.out]; first | rfl | exact congrArg (fun b => Ending.returned (Value.bool b)) (show decide (c.toNat < d.toNat) = false by simp; omega), HB.out.drew.drew⟩
      · have HE := Lib.hid (leT_same l m HQ.out (fun i h1 h2 => hs.out i (by omega) h1 h2))
        have hlt' : ¬ (j : Int) < (l.length : Int) := by omega
        clear hs
        go_wp2
        go_ret
        exact ⟨by rw [HL.out, HE.out]; rfl, HB.out⟩
  · have hq' : ¬ (l.length : Int) = (m.length : Int) := by omega
    have HL : Hid (lessT l m = decide (l.length < m.length)) := Lib.hid (if_neg hq)
    clear hq
    go_enter Tryd.func14, Tryd.ntmps14
    by_cases h1 : l.length < m.length
    · have HR := Lib.hid (HL.out.trans (decide_eq_true h1))
      go_wp2
      go_ret
      exact ⟨by rw [HR.out]; rfl, Below.refl _ _⟩
    · have HR := Lib.hid (HL.out.trans (decide_eq_false h1))
      go_wp2
      go_ret
      exact ⟨by rw [HR.out]; rfl, Below.refl _ _⟩
end Go.Proofs.YtbhaoafngneclaaDoor
