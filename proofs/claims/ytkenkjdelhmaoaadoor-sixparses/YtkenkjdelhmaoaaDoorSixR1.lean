/- The reference's digits, Groups, zeros and Run of layer 4. No conditions beyond ranges. -/
import Derived.Test.YtkenkjdelhmaoaaDoorSix14
namespace Go.Proofs.YtkenkjdelhmaoaaDoor
set_option linter.unusedVariables false
set_option linter.unusedSimpArgs false
open Go.RowKit
def DigRel16 (N n : Nat) (l : List UInt8) : Prop := (l = [] ∧ n = N) ∨ (l ≠ [] ∧ hexD N = (if n = 0 then [] else hexD n) ++ l)
theorem DigRel16.step {N n : Nat} {l : List UInt8} (h : DigRel16 N n l) (hc : 0 < n ∨ l = []) : DigRel16 N (n / 16) (hexC (n % 16) :: l) := by
  right
  refine ⟨by simp, ?_⟩
  have key : ∀ m : Nat, hexD m = (if m / 16 = 0 then [] else hexD (m / 16)) ++ [hexC (m % 16)] := by
    intro m
    by_cases hm : m < 16
    · rw [if_pos (by omega), hexD_one m hm, Nat.mod_eq_of_lt hm]; rfl
    · rw [if_neg (by omega)]; exact hexD_step m (by omega)
  rcases h with ⟨rfl, rfl⟩ | ⟨hl, h⟩
  · exact key n
  · have hn : 0 < n := by rcases hc with h | h; exact h; exact absurd h hl
    rw [h, if_neg (by omega), key n]
    simp
theorem DigRel16.done {N : Nat} {l : List UInt8} (h : DigRel16 N 0 l) (hl : l ≠ []) : l = hexD N := by
  rcases h with ⟨h, _⟩ | ⟨_, h⟩
  · exact absurd h hl
  · rw [h]; rfl
theorem dig_ext16 : ∀ k : Fin 16, (⟨#[48, 49, 50, 51, 52, 53, 54, 55, 56, 57, 97, 98, 99, 100, 101, 102]⟩ : ByteArray).extract k (k + 1) = ⟨#[hexC k]⟩ := by decide +kernel
set_option maxRecDepth 100000 in
set_option maxHeartbeats 1600000 in
theorem digits16_t (N : Nat) (hN : N ≤ 65535) (w : World) : Calls Tryd.prog 43 #[.int .u16 N] w fun e w' => e = .returned (.string ⟨(hexD N).toArray⟩) ∧ w = w' := by
  go_enter Tryd.func43, Tryd.ntmps43
  go_wp2_with fail
  go_loopw [0, 3] (fun a s wr => ∃ (n : Nat) (l : List UInt8), n ≤ N ∧ l.length + n ≤ N + 1 ∧ a = .int .u16 n ∧ s = .string ⟨l.toArray⟩ ∧ DigRel16 N n l ∧ wr = w) (fun a s _ => 2 * (intOf a).toNat + (1 - slen s))
  case atStart => exact ⟨N, [], Nat.le_refl _, by simp, rfl, rfl, .inl ⟨rfl, rfl⟩, rfl⟩
  case round =>
    obtain ⟨n, l, hn, hl, rfl, rfl, hrel, rfl⟩ := hrel
    have hk := dig_ext16 ⟨n % 16, Nat.mod_lt _ (by decide)⟩
    have hap := app_bs (hexC (n % 16)) l
    by_cases h0 : 0 < n
    · have q1 : decide ((0 : Int) < (n : Int)) = true := by simp; omega
      have HR := Lib.hid (hrel.step (.inl h0))
      clear hrel
      go_wp2
      refine ⟨⟨n / 16, hexC (n % 16) :: l, by omega, by simp; omega, by go_num, ?_, HR.out, trivial⟩, ?_⟩
      · rw [← hap]
      · simp [intOf, slen, ByteArray.size]
        omega
    · have hn0 : n = 0 := by omega
      subst hn0
      by_cases hl0 : l = []
      · subst hl0
        have HR := Lib.hid (hrel.step (.inr rfl))
        clear hrel
        go_wp2
        refine ⟨⟨0, hexC (0 % 16) :: [], by omega, by simp, by go_num, ?_, HR.out, trivial⟩, ?_⟩
        · first | rfl | (rw [← hap]; rfl) | (simp at hap ⊢)
        · simp [intOf, slen, ByteArray.size]
      · have hlb : (l == []) = false := by simpa using hl0
        have hle : l.isEmpty = false := by cases l with | nil => exact absurd rfl hl0 | cons _ _ => rfl
        have HD := Lib.hid (hrel.done hl0)
        clear hrel
        go_wp2
        go_ret
        exact ⟨by rw [← HD.out]; rfl, rfl⟩
set_option maxHeartbeats 400000 in
theorem as_t (h l : Int) (w : World) : Calls Tryd.prog 24 #[.agg #[.int .u64 h, .int .u64 l]] w fun e w' => e = .returned (.agg #[.int .u64 h, .int .u64 l]) ∧ Below w.heap.size w w' := by
  go_enter Tryd.func24, Tryd.ntmps24
  go_wp2
  exact bodyPost_ret (v := .agg #[.int .u64 h, .int .u64 l]) (by simp [results, Tryd.results24, go_sem]) rfl ⟨rfl, (by repeat (first | exact Below.refl _ _ | assumption | (with_reducible refine Below.setCell ?_ ?h _; case h => first | omega | (simp; done) | (simp; omega)) | (with_reducible refine Below.alloc ?_ ?h _; case h => first | omega | (simp; done) | (simp; omega)) | (with_reducible refine Below.drew ?_) | (with_reducible refine Below.trans ?_ (hb4.mono ?h); case h => first | omega | (simp; done) | (simp; omega)) | (with_reducible refine Below.trans ?_ (hb3.mono ?h); case h => first | omega | (simp; done) | (simp; omega)) | (with_reducible refine Below.trans ?_ (hb2.mono ?h); case h => first | omega | (simp; done) | (simp; omega)) | (with_reducible refine Below.trans ?_ (hb.mono ?h); case h => first | omega | (simp; done) | (simp; omega)) | (with_reducible refine Below.trans ?_ (hb0.mono ?h); case h => first | omega | (simp; done) | (simp; omega))))⟩
/-! zeros and Run -/
def zB (f : Nat → Int) (a : Nat) : Nat → Bool
  | 0 => true
  | n + 1 => decide (a ≤ 7) && decide (f a = 0) && zB f (a + 1) n
set_option maxRecDepth 100000 in
set_option maxHeartbeats 1600000 in
theorem zeros_t (f : Nat → Int) (hf : ∀ k, 0 ≤ f k ∧ f k ≤ 65535) (a n : Nat) (ha : a ≤ 7) (hn : n ≤ 8) (w : World) : Calls Tryd.prog 38 #[arr8 f, .int .i64 a, .int .i64 n] w fun e w' => e = .returned (.bool (zB f a n)) ∧ Below w.heap.size w w' := by
  unfold arr8
  obtain ⟨z, hz⟩ : ∃ z, z = zB f a n := ⟨_, rfl⟩
  rw [← hz]
  go_enter Tryd.func38, Tryd.ntmps38
  go_wp2_with fail
  have Rg := Row.new w (cellsF f) 42
  have hb0 : Below w.heap.size w (w.alloc (.cells (cellsF f) 42)) := (Below.refl _ _).alloc (Nat.le_refl _) _
  unfold cellsF at Rg hb0
  generalize w.alloc (.cells #[.int .u16 (f 0), .int .u16 (f 1), .int .u16 (f 2), .int .u16 (f 3), .int .u16 (f 4), .int .u16 (f 5), .int .u16 (f 6), .int .u16 (f 7)] 42) = w0 at *
  have R1 : Row w0 w.heap.size (cellsF f) 42 := Rg
  have HR := Lib.hid R1
  have HB := Lib.hid hb0
  have HF := Lib.hid hf
  have HZ := Lib.hid hz
  clear Rg hb0 R1 hf hz
  go_loopw [7] (fun i wr => ∃ (p : Nat), a ≤ p ∧ p ≤ a + n ∧ i = .int .i64 (p : Nat) ∧ Hid (z = zB f p (a + n - p)) ∧ wr = w0) (fun i _ => 16 - (intOf i).toNat)
  case atStart => exact ⟨a, by omega, by omega, rfl, Lib.hid (by rw [show a + n - a = n by omega]; exact HZ.out), rfl⟩
  case round =>
    obtain ⟨p, hpa, hpn, rfl, hz, rfl⟩ := hrel
    clear HZ
    by_cases hlt : p < a + n
    · obtain ⟨m, hm⟩ : ∃ m, a + n - p = m + 1 := ⟨a + n - p - 1, by omega⟩
      have hz2 : z = (decide (p ≤ 7) && decide (f p = 0) && zB f (p + 1) m) := by rw [hz.out, hm, zB]
      have HZ2 := Lib.hid hz2
      clear hz2 hz
      have q1 : (p : Int) < (a : Int) + (n : Int) := by omega
      by_cases h7 : p ≤ 7
      · have h7' : ¬ (7 : Int) < (p : Int) := by omega
        have c0 := (HR.out.cell p).trans (cellsF_get f p (by omega))
        have f0 := HF.out p
        by_cases h0 : f p = 0
        · have hz3 := HZ2.out
          rw [h0] at c0
          rw [decide_eq_true h7, decide_eq_true h0] at hz3
          have HZ3 := Lib.hid hz3
          clear hz3 f0 h0
          go_wp2
          refine ⟨⟨p + 1, by omega, by omega, by go_num, Lib.hid ?_, trivial⟩, by simp [intOf]; omega⟩
          rw [show a + n - (p + 1) = m by omega, HZ3.out]; rfl
        · have hz3 : z = false := by have h := HZ2.out; rw [decide_eq_false h0, Bool.and_false, Bool.false_and] at h; exact h
          have h0b : (f p == 0) = false := by rw [beq_eq_false_iff_ne]; exact h0
          have h0n : (f p != 0) = true := by simpa using h0
          clear HZ2
          have HZ4 := Lib.hid hz3
          clear hz3
          go_wp2
          go_ret
          exact ⟨by rw [HZ4.out]; rfl, HB.out⟩
      · have hz3 : z = false := by have h := HZ2.out; rw [decide_eq_false h7, Bool.false_and, Bool.false_and] at h; exact h
        have h7' : (7 : Int) < (p : Int) := by omega
        clear HZ2
        have HZ4 := Lib.hid hz3
        clear hz3
        go_wp2
        go_ret
        exact ⟨by rw [HZ4.out]; rfl, HB.out⟩
    · have hz3 : z = true := by rw [hz.out, show a + n - p = 0 by omega]; rfl
      have q1 : ¬ (p : Int) < (a : Int) + (n : Int) := by omega
      clear hz
      have HZ4 := Lib.hid hz3
      clear hz3
      go_wp2
      go_ret
      exact ⟨by rw [HZ4.out]; rfl, HB.out⟩
/-- the first place, from the k-th last on, at which so many zeros stand -/
def inR (f : Nat → Int) (n : Nat) : Nat → Option Nat
  | 0 => none
  | k + 1 => if zB f (8 - (k + 1)) n = true then some (8 - (k + 1)) else inR f n k
def outR (f : Nat → Int) : Nat → Nat × Nat
  | 0 => (0, 0)
  | 1 => (0, 0)
  | n + 2 => match inR f (n + 2) 8 with
    | some a => (a, n + 2)
    | none => outR f (n + 1)
theorem outR_step (f : Nat → Int) (n : Nat) (h : 1 < n) : outR f n = match inR f n 8 with
    | some a => (a, n)
    | none => outR f (n - 1) := by
  obtain ⟨m, rfl⟩ : ∃ m, n = m + 2 := ⟨n - 2, by omega⟩
  rw [outR]
  rfl
set_option maxRecDepth 100000 in
set_option maxHeartbeats 1600000 in
theorem rrun_t (f : Nat → Int) (hf : ∀ k, 0 ≤ f k ∧ f k ≤ 65535) (w : World) : Calls Tryd.prog 22 #[arr8 f] w fun e w' => e = .returned (.tuple #[.int .i64 (outR f 8).1, .int .i64 (outR f 8).2]) ∧ Below w.heap.size w w' := by
  unfold arr8
  obtain ⟨r, hr⟩ : ∃ r, r = outR f 8 := ⟨_, rfl⟩
  rw [← hr]
  go_enter Tryd.func22, Tryd.ntmps22
  go_wp2_with fail
  have Rg := Row.new w (cellsF f) 42
  have hb0 : Below w.heap.size w (w.alloc (.cells (cellsF f) 42)) := (Below.refl _ _).alloc (Nat.le_refl _) _
  unfold cellsF at Rg hb0
  generalize w.alloc (.cells #[.int .u16 (f 0), .int .u16 (f 1), .int .u16 (f 2), .int .u16 (f 3), .int .u16 (f 4), .int .u16 (f 5), .int .u16 (f 6), .int .u16 (f 7)] 42) = w0 at *
  have HR := Lib.hid Rg
  have HB := Lib.hid hb0
  have HF := Lib.hid hf
  have HRE := Lib.hid hr
  clear Rg hb0 hf hr
  go_loopw [4] (fun v wr => ∃ (n : Nat), 1 ≤ n ∧ n ≤ 8 ∧ v = .int .i64 (n : Nat) ∧ Hid (r = outR f n) ∧ Hid (Row wr w.heap.size #[.int .u16 (f 0), .int .u16 (f 1), .int .u16 (f 2), .int .u16 (f 3), .int .u16 (f 4), .int .u16 (f 5), .int .u16 (f 6), .int .u16 (f 7)] 42) ∧ Hid (Below w.heap.size w wr)) (fun v _ => (intOf v).toNat)
  case atStart => exact ⟨8, by omega, by omega, rfl, HRE, HR, HB⟩
  case round =>
    clear HRE HR HB
    obtain ⟨n, hn1, hn8, rfl, hre, HR, HB⟩ := hrel
    by_cases h1 : 1 < n
    · have h1' : (1 : Int) < (n : Int) := by omega
      have hos := outR_step f n h1
      have HOS := Lib.hid hos
      clear hos
      go_wp2_with fail
      go_loopw [5] (fun v wq => ∃ (a : Nat), a ≤ 8 ∧ v = .int .i64 (a : Nat) ∧ Hid (inR f n 8 = inR f n (8 - a)) ∧ Hid (Row wq w.heap.size #[.int .u16 (f 0), .int .u16 (f 1), .int .u16 (f 2), .int .u16 (f 3), .int .u16 (f 4), .int .u16 (f 5), .int .u16 (f 6), .int .u16 (f 7)] 42) ∧ Hid (Below w.heap.size w wq)) (fun v _ => 8 - (intOf v).toNat)
      case atStart => exact ⟨0, by omega, rfl, Lib.hid rfl, HR, HB⟩
      case round =>
        clear HR HB
        obtain ⟨a, ha8, rfl, hin, HR, HB⟩ := hrel
        by_cases hlt : a < 8
        · have hlt' : (a : Int) < 8 := by omega
          have c0 := (HR.out.cell 0).trans (show _ = some (Value.int .u16 (f 0)) from rfl)
          have c1 := (HR.out.cell 1).trans (show _ = some (Value.int .u16 (f 1)) from rfl)
          have c2 := (HR.out.cell 2).trans (show _ = some (Value.int .u16 (f 2)) from rfl)
          have c3 := (HR.out.cell 3).trans (show _ = some (Value.int .u16 (f 3)) from rfl)
          have c4 := (HR.out.cell 4).trans (show _ = some (Value.int .u16 (f 4)) from rfl)
          have c5 := (HR.out.cell 5).trans (show _ = some (Value.int .u16 (f 5)) from rfl)
          have c6 := (HR.out.cell 6).trans (show _ = some (Value.int .u16 (f 6)) from rfl)
          have c7 := (HR.out.cell 7).trans (show _ = some (Value.int .u16 (f 7)) from rfl)
          obtain ⟨k, hk⟩ : ∃ k, 8 - a = k + 1 := ⟨7 - a, by omega⟩
          have e8 : inR f n (k + 1) = if zB f (8 - (k + 1)) n = true then some (8 - (k + 1)) else inR f n k := rfl
          have hin2 := hin.out
          rw [hk, e8, show 8 - (k + 1) = a by omega] at hin2
          clear e8
          have HIN := Lib.hid hin2
          clear hin2 hin
          go_wp2_with fail
          refine (zeros_t f HF.out a n (by omega) (by omega) _).mono ?_
          rintro e w2 ⟨rfl, hb2⟩
          have HR2 := Lib.hid (HR.out.later hb2)
          have HB2 := Lib.hid (below_step HB.out hb2)
          clear HR HB hb2 c0 c1 c2 c3 c4 c5 c6 c7
          cases hz : zB f a n with
          | true =>
            have hres : r = (a, n) := by rw [hre.out, HOS.out, HIN.out, hz]; rfl
            subst hres
            go_wp2
            go_ret2
            exact ⟨rfl, HB2.out⟩
          | false =>
            have hin3 : inR f n 8 = inR f n k := by rw [HIN.out, hz]; rfl
            have HIN3 := Lib.hid hin3
            clear hin3
            go_wp2
            exact ⟨⟨a + 1, by omega, by go_num, by rw [show 8 - (a + 1) = k by omega]; exact HIN3, HR2, HB2⟩, by simp [intOf]; omega⟩
        · have ha : a = 8 := by omega
          subst ha
          have hre2 : r = outR f (n - 1) := by
            rw [hre.out, HOS.out, hin.out]
            rfl
          have HRE2 := Lib.hid hre2
          clear hre2 hre hin
          go_wp2
          exact ⟨⟨n - 1, by omega, by omega, congrArg (Value.int .i64) (by omega), HRE2, HR, HB⟩, by simp [intOf]; omega⟩
    · have hn : n = 1 := by omega
      subst hn
      have hres : r = (0, 0) := by rw [hre.out]; rfl
      subst hres
      clear hre
      go_wp2
      go_ret2
      exact ⟨rfl, HB.out⟩
/-! the two runs are the same -/
theorem zB_congr {f g : Nat → Int} (h : ∀ i, i < 8 → (f i = 0 ↔ g i = 0)) : ∀ n a, zB f a n = zB g a n
  | 0, _ => rfl
  | n + 1, a => by
    rw [zB, zB, zB_congr h n (a + 1)]
    by_cases ha : a ≤ 7
    · rw [decide_eq_decide.2 (h a (by omega))]
    · rw [decide_eq_false ha]; rfl
theorem inR_congr {f g : Nat → Int} (h : ∀ i, i < 8 → (f i = 0 ↔ g i = 0)) (n : Nat) : ∀ k, inR f n k = inR g n k
  | 0 => rfl
  | k + 1 => by rw [inR, inR, zB_congr h, inR_congr h n k]
theorem outR_congr {f g : Nat → Int} (h : ∀ i, i < 8 → (f i = 0 ↔ g i = 0)) : ∀ n, outR f n = outR g n
  | 0 => rfl
  | 1 => rfl
  | n + 2 => by rw [outR, outR, inR_congr h, outR_congr h (n + 1)]
theorem scan_zero {f g : Nat → Int} : ∀ j, (∀ i, i < j → (f i = 0 ↔ g i = 0)) → scan f j = scan g j
  | 0, _ => rfl
  | j + 1, h => by
    rw [scan, scan, scan_zero j (fun i hi => h i (by omega))]
    by_cases h0 : f j = 0
    · rw [if_pos h0, if_pos ((h j (by omega)).1 h0)]
    · rw [if_neg h0, if_neg (fun e => h0 ((h j (by omega)).2 e))]
def selB (b0 b1 b2 b3 b4 b5 b6 b7 : Bool) : Nat → Int
  | 0 => if b0 then 0 else 1
  | 1 => if b1 then 0 else 1
  | 2 => if b2 then 0 else 1
  | 3 => if b3 then 0 else 1
  | 4 => if b4 then 0 else 1
  | 5 => if b5 then 0 else 1
  | 6 => if b6 then 0 else 1
  | 7 => if b7 then 0 else 1
  | _ => 1
theorem run_all : ∀ b0 b1 b2 b3 b4 b5 b6 b7 : Bool, outR (selB b0 b1 b2 b3 b4 b5 b6 b7) 8 = runS (selB b0 b1 b2 b3 b4 b5 b6 b7) := by decide +kernel
theorem run_same (f : Nat → Int) : outR f 8 = runS f := by
  have h : ∀ i, i < 8 → (f i = 0 ↔ selB (decide (f 0 = 0)) (decide (f 1 = 0)) (decide (f 2 = 0)) (decide (f 3 = 0)) (decide (f 4 = 0)) (decide (f 5 = 0)) (decide (f 6 = 0)) (decide (f 7 = 0)) i = 0) := fun i hi => by
    have key : ∀ p : Prop, ∀ [Decidable p], (p ↔ (if decide p = true then (0 : Int) else 1) = 0) := fun p _ => by by_cases hp : p <;> simp [hp]
    rcases i with _ | _ | _ | _ | _ | _ | _ | _ | i
    · exact key _
    · exact key _
    · exact key _
    · exact key _
    · exact key _
    · exact key _
    · exact key _
    · exact key _
    · omega
  unfold runS
  rw [outR_congr h, scan_zero 8 h, run_all]
  rfl
end Go.Proofs.YtkenkjdelhmaoaaDoor
