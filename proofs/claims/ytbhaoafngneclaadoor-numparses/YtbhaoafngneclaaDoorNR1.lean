/- The reference's twice: a text's digits doubled. No conditions beyond digits and length. -/
import Derived.Test.YtbhaoafngneclaaDoorAliveN
import Derived.Test.YtbhaoafngneclaaDoorRefAddN
import Derived.Lib.AppendIntMem
import Derived.Lib.AtoiErrMem
namespace Go.Proofs.YtbhaoafngneclaaDoor
set_option linter.unusedVariables false
set_option linter.unusedSimpArgs false
open Go.RowKit
/-- what is carried out of the digits -/
def crr : List UInt8 → Nat → Nat
  | [], o => o
  | c :: r, o => (2 * (c.toNat - 48) + crr r o) / 10
/-- the digits doubled -/
def dbl : List UInt8 → Nat → List UInt8
  | [], _ => []
  | c :: r, o => dg (2 * (c.toNat - 48) + crr r o) :: dbl r o
theorem dbl_len : ∀ (l : List UInt8) (o : Nat), (dbl l o).length = l.length
  | [], _ => rfl
  | c :: r, o => by rw [dbl, List.length_cons, dbl_len r, List.length_cons]
theorem crr_le : ∀ (l : List UInt8) (o : Nat), digs l → o ≤ 1 → crr l o ≤ 1
  | [], o, _, h => h
  | c :: r, o, hl, h => by
    have h1 := hl c (by simp)
    have h2 := crr_le r o (fun e he => hl e (by simp [he])) h
    rw [crr]; omega
theorem dbl_get : ∀ (l : List UInt8) (o k : Nat) (h : k < l.length), (dbl l o)[k]? = some (dg (2 * (l[k].toNat - 48) + crr (l.drop (k + 1)) o))
  | [], _, _, h => by simp at h
  | c :: r, o, 0, _ => by rw [dbl]; rfl
  | c :: r, o, k + 1, h => by rw [dbl, List.getElem?_cons_succ, dbl_get r o k (by simpa using h)]; rfl
theorem crr_step (l : List UInt8) (o k : Nat) (h : k < l.length) : crr (l.drop k) o = (2 * (l[k].toNat - 48) + crr (l.drop (k + 1)) o) / 10 := by
  rw [List.drop_eq_getElem_cons h, crr]
theorem digs_drop {l : List UInt8} (h : digs l) (k : Nat) : digs (l.drop k) := fun c hc => h c (List.mem_of_mem_drop hc)
/-- the bytes of a row, those from j on doubled -/
def DblAt (l : List UInt8) (o g j : Nat) (w : World) : Prop := ∀ k, k < l.length → w.cell? ⟨g, k, none⟩ = some (.int .u8 ((if k < j then l.getD k 0 else (dbl l o).getD k 0).toNat : Int)) ∧ w.frozen? ⟨g, k, none⟩ = false
theorem DblAt.step {l : List UInt8} {o g j : Nat} {w : World} (h : DblAt l o g (j + 1) w) (hj : j < l.length) (x : Int) (hx : x = ((dg (2 * (l[j].toNat - 48) + crr (l.drop (j + 1)) o)).toNat : Int)) : DblAt l o g j (w.setCell ⟨g, j, none⟩ (.int .u8 x)) := by
  intro k hk
  refine ⟨?_, by rw [World.frozen?_setCell]; exact (h k hk).2⟩
  by_cases e : k = j
  · subst e
    rw [World.cell?_setCell_same (h := (h k hk).1), if_neg (by omega), hx, List.getD_eq_getElem?_getD, dbl_get l o k hk]; rfl
  · rw [World.cell?_setCell_other (h := fun he => e (by injection he with _ h2; exact h2.symm)), (h k hk).1]
    by_cases e2 : k < j
    · rw [if_pos (by omega), if_pos e2]
    · rw [if_neg (by omega), if_neg e2]
theorem bytesWorld_frozen (w : World) (s : ByteArray) (j : Nat) (hj : j < s.size) : (Lib.bytesWorld w 5 s).frozen? ⟨w.heap.size, j, none⟩ = false := by
  have h1 := Lib.bytesWorld_at_new w 5 s
  have h2 := Lib.bytesWorld_cell w 5 s j hj
  have h3 : j < (Lib.bytesCells w 5 s).size := by
    simp only [World.cell?, h1] at h2
    by_cases h : j < (Lib.bytesCells w 5 s).size
    · exact h
    · simp [Array.getElem?_eq_none (show (Lib.bytesCells w 5 s).size ≤ j by omega)] at h2
  simp [World.frozen?, h1]
  omega
/-- what twice answers -/
def dblT (l : List UInt8) (o : Nat) : List UInt8 := if crr l o = 0 then dbl l o else 49 :: dbl l o
set_option maxRecDepth 100000 in
set_option maxHeartbeats 1600000 in
theorem twice_t (l : List UInt8) (hl : l.length ≤ 1000) (hd : digs l) (o : Nat) (ho : o ≤ 1) (w : World) : Calls Tryd.prog 21 #[.string ⟨l.toArray⟩, .int .u64 (o : Int)] w fun e w' => e = .returned (.string ⟨(dblT l o).toArray⟩) ∧ Below w.heap.size w w' := by
  obtain ⟨t, ht⟩ : ∃ t : ByteArray, t = ⟨l.toArray⟩ := ⟨_, rfl⟩
  have hts : t.size = l.length := by rw [ht, bs_size]
  have htd : t.data.toList = l := by rw [ht]
  have hcv := Lib.run_convert_string_bytes (P := Tryd.prog) w 9 48 5 t (u := .string) Tryd.underlying9 Tryd.underlying48 Tryd.underlying5
  have hB : DblAt l o w.heap.size l.length (Lib.bytesWorld w 5 t) := fun k hk => by
    refine ⟨?_, bytesWorld_frozen w t k (by omega)⟩
    rw [Lib.bytesWorld_cell w 5 t k (by omega), htd, if_pos hk]
  have hb0 : Below w.heap.size w (Lib.bytesWorld w 5 t) := Lib.bytesWorld_below w _ t
  rw [hts] at hcv
  generalize Lib.bytesWorld w 5 t = W1 at *
  rw [← ht]
  clear ht hts htd
  generalize grownCap w l.length 0 5 = cap at *
  have HB0 := Lib.hid (And.intro hB hb0)
  have HD := Lib.hid hd
  clear hB hb0 hd
  have how : (o : Int) ≤ 1 := by omega
  go_enter Tryd.func21, Tryd.ntmps21
  go_wp2_with fail
  go_loopw [6, 7] (fun c i wr => ∃ (j : Nat), j ≤ l.length ∧ i = .int .i64 ((j : Int) - 1) ∧ c = .int .u8 ((crr (l.drop j) o : Nat) : Int) ∧ DblAt l o w.heap.size j wr ∧ Below w.heap.size w wr) (fun _ i _ => (intOf i + 1).toNat)
  case atStart =>
    obtain ⟨hB, hb0⟩ := HB0.out
    exact ⟨l.length, Nat.le_refl _, rfl, by rw [List.drop_length]; rfl, hB, hb0⟩
  case round =>
    clear hcv HB0
    obtain ⟨j, hj, rfl, rfl, hC, hb⟩ := hrel
    have HC := Lib.hid hC
    have HB := Lib.hid hb
    clear hC hb
    cases j with
    | zero =>
      rw [List.drop_zero, show (((0 : Nat) : Int) - 1) = -1 by rfl]
      have hcb := run_convert_bytes_back (P := Tryd.prog) wr 48 9 5 ⟨w.heap.size, 0, none⟩ cap (dbl l o) Tryd.underlying48 Tryd.underlying5 Tryd.underlying9 (fun k hk => by
        have hk' : k < l.length := by rwa [dbl_len] at hk
        rw [Addr.add_mid, Nat.zero_add, (HC.out k hk').1, if_neg (Nat.not_lt_zero k), List.getD_eq_getElem?_getD, List.getElem?_eq_getElem hk, Option.getD_some])
      have hdl := dbl_len l o
      rw [hdl] at hcb
      have hk := crr_le l o HD.out ho
      have HT : Hid (dblT l o = if crr l o = 0 then dbl l o else 49 :: dbl l o) := Lib.hid rfl
      generalize dbl l o = m at *
      generalize crr l o = K at *
      clear HC HD
      rcases (show K = 0 ∨ K = 1 by omega) with rfl | rfl
      · have HR := Lib.hid (HT.out.trans (if_pos rfl))
        clear HT
        go_wp2
        go_ret
        exact ⟨by rw [HR.out]; rfl, HB.out⟩
      · have HR := Lib.hid (HT.out.trans (if_neg (by decide)))
        clear HT
        have hsz := bs_size m
        have hle : ¬ 9223372036854775807 < 1 + m.length := by omega
        go_wp2
        go_ret
        exact ⟨by rw [HR.out]; exact congrArg (fun x => Ending.returned (Value.string x)) (ba_add [49] m), HB.out⟩
    | succ m =>
      rw [show ((m + 1 : Nat) : Int) - 1 = (m : Int) by omega]
      have hlt : m < l.length := by omega
      have hlt' : (m : Int) < (l.length : Int) := by omega
      obtain ⟨c0, f0⟩ := HC.out m hlt
      rw [if_pos (Nat.lt_succ_self m), List.getD_eq_getElem?_getD, List.getElem?_eq_getElem hlt, Option.getD_some] at c0
      have hs := HC.out.step hlt
      have hcs := crr_step l o m hlt
      have hk := crr_le (l.drop (m + 1)) o (digs_drop HD.out _) ho
      obtain ⟨d1, d2⟩ := HD.out l[m] (List.getElem_mem hlt)
      generalize l[m] = c at *
      generalize crr (l.drop (m + 1)) o = K at *
      have HS := Lib.hid hs
      have HK := Lib.hid hcs
      clear hs hcs
      have k1 : (K : Int) ≤ 1 := by omega
      have e1 : (48 : Int) ≤ (c.toNat : Int) := by omega
      have e2 : (c.toNat : Int) ≤ 57 := by omega
      clear HC
      go_wp2
      refine ⟨⟨m, by omega, rfl, ?_, HS.out _ ?_, HB.out.setCell (Nat.le_refl _) _⟩, by first | (simp [intOf]; done) | (simp [intOf]; omega)⟩
      · rw [HK.out]; congr 1; omega
      · rw [dg_toNat]; omega
end Go.Proofs.YtbhaoafngneclaaDoor
