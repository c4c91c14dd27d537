/- Parse of package four. No conditions beyond ranges. -/
import Derived.Test.YtkenkjdelhmaoaaDoorFour2
namespace Go.Proofs.YtkenkjdelhmaoaaDoor
set_option linter.unusedVariables false
set_option linter.unusedSimpArgs false
open Go.RowKit
def cutP (l : List UInt8) : List UInt8 := (Lib.cut l [46]).1
def cutA (l : List UInt8) : List UInt8 := (Lib.cut l [46]).2.1
def numP (l : List UInt8) : Option Nat := match Lib.parseUintB 8 (cutP l) with | .ok u => some u | _ => none
def restL (l : List UInt8) : Nat → List UInt8
  | 0 => l
  | j + 1 => cutA (restL l j)
def uI (l : List UInt8) (i : Nat) : Int := ((numP (restL l i)).getD 0 : Nat)
def adr (l : List UInt8) : Int := part4 (uI l 0) (uI l 1) (uI l 2) (uI l 3) 4
def all4 (l : List UInt8) : Prop := ∀ i, i < 4 → (numP (restL l i)).isSome = true
open Classical in
/-- what Parse answers: the address and the error -/
noncomputable def parse4 (l : List UInt8) : Int × Int := if all4 l ∧ print4 (adr l) = l then (adr l, 0) else (0, 3)
theorem cut_len (l : List UInt8) : (cutP l).length ≤ l.length ∧ (cutA l).length ≤ l.length := by
  unfold cutP cutA Lib.cut
  split
  · simp; omega
  · simp
theorem rest_len (l : List UInt8) : ∀ j, (restL l j).length ≤ l.length
  | 0 => Nat.le_refl _
  | j + 1 => Nat.le_trans (cut_len _).2 (rest_len l j)
theorem uintM_le (M : Nat) : ∀ (l : List UInt8) (acc u : Nat), acc ≤ M → Lib.parseUintM M acc l = .ok u → u ≤ M
  | [], acc, u, h, e => by simp [Lib.parseUintM] at e; omega
  | c :: r, acc, u, h, e => by
    unfold Lib.parseUintM at e
    split at e
    · split at e
      · cases e
      · split at e
        · cases e
        · exact uintM_le M r _ u (by omega) e
    · cases e
theorem numP_le {l : List UInt8} {u : Nat} (h : numP l = some u) : u ≤ 255 := by
  unfold numP at h
  split at h
  · rename_i v hv
    cases h
    unfold Lib.parseUintB at hv
    split at hv
    · cases hv
    · exact uintM_le _ _ _ _ (by decide) hv
  · cases h
theorem uI_range (l : List UInt8) (i : Nat) : 0 ≤ uI l i ∧ uI l i ≤ 255 := by
  unfold uI
  cases h : numP (restL l i) with
  | none => simp
  | some u => have := numP_le h; simp; omega
theorem adr_range (l : List UInt8) : 0 ≤ adr l ∧ adr l ≤ 4294967295 := by
  have h0 := uI_range l 0
  have h1 := uI_range l 1
  have h2 := uI_range l 2
  have h3 := uI_range l 3
  unfold adr
  simp only [part4]
  omega
theorem bs_data (l : List UInt8) : (⟨l.toArray⟩ : ByteArray).data.toList = l := by simp
theorem bs_size (l : List UInt8) : (⟨l.toArray⟩ : ByteArray).size = l.length := by simp [ByteArray.size]
theorem cut_t (l : List UInt8) (hl : l.length ≤ 4000000000) (w : World) (hE : Env w) : Calls Tryd.prog 35 #[.string ⟨l.toArray⟩, .string ⟨#[46]⟩] w fun e w' => (∃ b, e = .returned (.tuple #[.string ⟨(cutP l).toArray⟩, .string ⟨(cutA l).toArray⟩, .bool b])) ∧ Below w.heap.size w w' := by
  obtain ⟨m, hm⟩ := hE.m
  refine (Tryd.strings_Cut ⟨l.toArray⟩ ⟨#[46]⟩ m w (by rw [bs_size]; omega) hm).mono ?_
  rintro e w' ⟨rfl, n, rfl⟩
  exact ⟨⟨_, rfl⟩, below_drewN (Below.refl _ _) n⟩
/-- what ParseUint answers: the number and no error, or an error -/
def NumPost (l : List UInt8) (w : World) (e : Ending) (w' : World) : Prop :=
  (match numP l with
    | some u => e = .returned (.tuple #[.int .u64 u, .nilIface])
    | none => ∃ u t p, e = .returned (.tuple #[.int .u64 u, .iface t p])) ∧ Below w.heap.size w w'
theorem num_p (l : List UInt8) (hl : l.length ≤ 4000000000) (w : World) (hE : Env w) : Calls Tryd.prog 36 #[.string ⟨(cutP l).toArray⟩, .int .i64 10, .int .i64 8] w (NumPost l w) := by
  have hsz : (⟨(cutP l).toArray⟩ : ByteArray).size ≤ 4000000000 := by rw [bs_size]; have := (cut_len l).1; omega
  unfold NumPost numP
  cases h : Lib.parseUintB 8 (cutP l) with
  | ok u =>
    refine (Tryd.strconv_ParseUint_10_at8_ok ⟨(cutP l).toArray⟩ (by omega) u (by rw [bs_data]; exact h) w).mono ?_
    rintro e w' ⟨rfl, rfl | rfl⟩
    · exact ⟨rfl, Below.refl _ _⟩
    · exact ⟨rfl, Joins.below_bytesWorld _ w _ _ (Nat.le_refl _)⟩
  | «syntax» =>
    obtain ⟨tp, p, hv⟩ := hE.s
    refine (Tryd.strconv_ParseUint_10_at8_syntax_var ⟨(cutP l).toArray⟩ (by omega) (by rw [bs_data]; exact h) tp p w hv).mono ?_
    rintro e w' ⟨N, rfl, _, _, hb⟩
    exact ⟨⟨_, _, _, rfl⟩, hb⟩
  | range =>
    obtain ⟨tp, p, hv⟩ := hE.r
    refine (Tryd.strconv_ParseUint_10_at8_range_var ⟨(cutP l).toArray⟩ (by omega) (by rw [bs_data]; exact h) tp p w hv).mono ?_
    rintro e w' ⟨N, rfl, _, _, hb⟩
    exact ⟨⟨_, _, _, rfl⟩, hb⟩
set_option maxRecDepth 100000 in
set_option maxHeartbeats 1600000 in
theorem parse4_t (l : List UInt8) (hl : l.length ≤ 4000000000) (w : World) (hE : Env w) : Calls Tryd.prog 18 #[.string ⟨l.toArray⟩] w fun e w' => e = .returned (.tuple #[.int .u32 (parse4 l).1, .int .i64 (parse4 l).2]) ∧ Below w.heap.size w w' := by
  go_enter Tryd.func18, Tryd.ntmps18
  go_wp2_with fail
  have Z1 := Row.new w (cells4 (uI l) 0) 23
  have hb0 : Below w.heap.size w (w.alloc (.cells #[.int .u8 0, .int .u8 0, .int .u8 0, .int .u8 0] 23)) := (by repeat (first | exact Below.refl _ _ | assumption | (with_reducible refine Below.setCell ?_ ?h _; case h => first | omega | (simp; done) | (simp; omega)) | (with_reducible refine Below.alloc ?_ ?h _; case h => first | omega | (simp; done) | (simp; omega)) | (with_reducible refine Below.drew ?_) | (with_reducible refine Below.trans ?_ (hb4.mono ?h); case h => first | omega | (simp; done) | (simp; omega)) | (with_reducible refine Below.trans ?_ (hb3.mono ?h); case h => first | omega | (simp; done) | (simp; omega)) | (with_reducible refine Below.trans ?_ (hb2.mono ?h); case h => first | omega | (simp; done) | (simp; omega)) | (with_reducible refine Below.trans ?_ (hb.mono ?h); case h => first | omega | (simp; done) | (simp; omega)) | (with_reducible refine Below.trans ?_ (hb0.mono ?h); case h => first | omega | (simp; done) | (simp; omega))))
  go_loopw [5, 14] (fun r i wr => ∃ (j : Nat), j ≤ 4 ∧ i = .int .i64 j ∧ r = .string ⟨(restL l j).toArray⟩ ∧ (∀ k, k < j → (numP (restL l k)).isSome = true) ∧ Row wr w.heap.size (cells4 (uI l) j) 23 ∧ Below w.heap.size w wr) (fun _ i _ => 4 - (intOf i).toNat)
  case atStart => exact ⟨0, by omega, rfl, rfl, fun k h => absurd h (by omega), Z1, hb0⟩
  case round =>
    clear Z1 hb0
    obtain ⟨j, hj, rfl, rfl, hall, R, hb⟩ := hrel
    have HR := Lib.hid R
    have HB := Lib.hid hb
    have HA := Lib.hid hall
    clear R hb hall
    by_cases hlt : j < 4
    · have hlb : decide ((j : Int) < 4) = true := by simp; omega
      have hrl := Nat.le_trans (rest_len l j) hl
      go_wp2_with fail
      refine (cut_t (restL l j) hrl wr (hE.later HB.out)).mono ?_
      rintro r w2 ⟨⟨bb, rfl⟩, hb2⟩
      have HR2 := Lib.hid (HR.out.later hb2)
      have HB2 := Lib.hid (below_step HB.out hb2)
      clear HR HB hb2
      go_wp2_with fail
      refine (num_p (restL l j) hrl w2 (hE.later HB2.out)).mono ?_
      rintro r w3 ⟨hr, hb3⟩
      have R3 := HR2.out.later hb3
      have c0 := (R3.cell j).trans (cells4_get (uI l) j j hlt)
      have f0 := R3.frozen j
      have HR3 := Lib.hid R3
      have HB3 := Lib.hid (below_step HB2.out hb3)
      clear HR2 HB2 hb3 R3
      cases hq : numP (restL l j) with
      | some u =>
        rw [hq] at hr
        dsimp only at hr
        subst hr
        have hu := numP_le hq
        have hui : uI l j = u := by unfold uI; rw [hq]; rfl
        go_wp2
        refine ⟨⟨j + 1, by omega, by go_num, rfl, fun k hk => ?_, ?_, HB3.out.setCell (Nat.le_refl _) _⟩, by simp [intOf]; omega⟩
        · by_cases e : k < j
          · exact HA.out k e
          · obtain rfl : k = j := by omega
            rw [hq]; rfl
        · have := HR3.out.set j (.int .u8 (uI l j))
          rw [cells4_set (uI l) j hlt, hui] at this
          exact this
      | none =>
        rw [hq] at hr
        obtain ⟨u, t, p, rfl⟩ := hr
        have hp4 : parse4 l = (0, 3) := by unfold parse4; rw [if_neg]; intro h; have := h.1 j hlt; rw [hq] at this; cases this
        go_wp2
        exact bodyPost_ret (v := .tuple #[.int .u32 0, .int .i64 3]) (by simp [results, Tryd.results18, go_sem]) rfl ⟨by rw [hp4], HB3.out⟩
    · have hj4 : j = 4 := by omega
      subst hj4
      have R' : Row wr w.heap.size #[.int .u8 (uI l 0), .int .u8 (uI l 1), .int .u8 (uI l 2), .int .u8 (uI l 3)] 23 := HR.out
      have c0 := (R'.cell 0).trans (show _ = some (Value.int .u8 (uI l 0)) from rfl)
      have c1 := (R'.cell 1).trans (show _ = some (Value.int .u8 (uI l 1)) from rfl)
      have c2 := (R'.cell 2).trans (show _ = some (Value.int .u8 (uI l 2)) from rfl)
      have c3 := (R'.cell 3).trans (show _ = some (Value.int .u8 (uI l 3)) from rfl)
      have hA4 : all4 l := HA.out
      have har := adr_range l
      clear R' HR
      go_wp2_with fail
      refine (of4_t _ _ _ _ (uI_range l 0) (uI_range l 1) (uI_range l 2) (uI_range l 3) wr).mono ?_
      rintro r w2 ⟨rfl, hb2⟩
      rw [show part4 (uI l 0) (uI l 1) (uI l 2) (uI l 3) 4 = adr l from rfl]
      have HB2 := Lib.hid (below_step HB.out hb2)
      clear HB hb2 c0 c1 c2 c3
      go_wp2_with fail
      refine (print4_t (adr l) har.1 har.2 w2 (hE.later HB2.out)).mono ?_
      rintro r w3 ⟨rfl, hb3⟩
      have HB3 := Lib.hid (below_step HB2.out hb3)
      clear HB2 hb3
      by_cases hpr : print4 (adr l) = l
      · have hp4 : parse4 l = (adr l, 0) := by unfold parse4; rw [if_pos ⟨hA4, hpr⟩]
        rw [hpr]
        go_wp2
        exact bodyPost_ret (v := .tuple #[.int .u32 (adr l), .int .i64 0]) (by simp [results, Tryd.results18, go_sem]) rfl ⟨by rw [hp4], HB3.out⟩
      · have hp4 : parse4 l = (0, 3) := by unfold parse4; rw [if_neg (fun h => hpr h.2)]
        have hne : ¬ (⟨(print4 (adr l)).toArray⟩ : ByteArray) = ⟨l.toArray⟩ := fun h => hpr (by have := congrArg (fun b : ByteArray => b.data.toList) h; simpa using this)
        generalize print4 (adr l) = pl at *
        have hbq : (pl == l) = false := by simpa using hpr
        have hbr : (!pl == l) = true := by rw [hbq]; rfl
        go_wp2
        exact bodyPost_ret (v := .tuple #[.int .u32 0, .int .i64 3]) (by simp [results, Tryd.results18, go_sem]) rfl ⟨by rw [hp4], HB3.out⟩
end Go.Proofs.YtkenkjdelhmaoaaDoor
