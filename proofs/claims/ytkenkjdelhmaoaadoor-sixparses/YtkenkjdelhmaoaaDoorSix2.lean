/- Run of package six. No conditions beyond ranges. -/
import Derived.Test.YtkenkjdelhmaoaaDoorSix1
namespace Go.Proofs.YtkenkjdelhmaoaaDoor
set_option linter.unusedVariables false
set_option linter.unusedSimpArgs false
open Go.RowKit
theorem idx8_0 (b0 b1 b2 b3 b4 b5 b6 b7 : Value) (w : World) : (Instr.index 42 (.agg #[b0, b1, b2, b3, b4, b5, b6, b7]) (.int .i64 0)).run Tryd.prog w = .ok b0 w := by kernel_rfl
theorem idx8_1 (b0 b1 b2 b3 b4 b5 b6 b7 : Value) (w : World) : (Instr.index 42 (.agg #[b0, b1, b2, b3, b4, b5, b6, b7]) (.int .i64 1)).run Tryd.prog w = .ok b1 w := by kernel_rfl
theorem idx8_2 (b0 b1 b2 b3 b4 b5 b6 b7 : Value) (w : World) : (Instr.index 42 (.agg #[b0, b1, b2, b3, b4, b5, b6, b7]) (.int .i64 2)).run Tryd.prog w = .ok b2 w := by kernel_rfl
theorem idx8_3 (b0 b1 b2 b3 b4 b5 b6 b7 : Value) (w : World) : (Instr.index 42 (.agg #[b0, b1, b2, b3, b4, b5, b6, b7]) (.int .i64 3)).run Tryd.prog w = .ok b3 w := by kernel_rfl
theorem idx8_4 (b0 b1 b2 b3 b4 b5 b6 b7 : Value) (w : World) : (Instr.index 42 (.agg #[b0, b1, b2, b3, b4, b5, b6, b7]) (.int .i64 4)).run Tryd.prog w = .ok b4 w := by kernel_rfl
theorem idx8_5 (b0 b1 b2 b3 b4 b5 b6 b7 : Value) (w : World) : (Instr.index 42 (.agg #[b0, b1, b2, b3, b4, b5, b6, b7]) (.int .i64 5)).run Tryd.prog w = .ok b5 w := by kernel_rfl
theorem idx8_6 (b0 b1 b2 b3 b4 b5 b6 b7 : Value) (w : World) : (Instr.index 42 (.agg #[b0, b1, b2, b3, b4, b5, b6, b7]) (.int .i64 6)).run Tryd.prog w = .ok b6 w := by kernel_rfl
theorem idx8_7 (b0 b1 b2 b3 b4 b5 b6 b7 : Value) (w : World) : (Instr.index 42 (.agg #[b0, b1, b2, b3, b4, b5, b6, b7]) (.int .i64 7)).run Tryd.prog w = .ok b7 w := by kernel_rfl
/-- where the longest run is so far, how long it is, and how many zeros stand at the end -/
def scan (f : Nat → Int) : Nat → Nat × Nat × Nat
  | 0 => (0, 0, 0)
  | j + 1 => let s := scan f j
    if f j = 0 then (if s.2.1 < s.2.2 + 1 then (j + 1 - (s.2.2 + 1), s.2.2 + 1, s.2.2 + 1) else (s.1, s.2.1, s.2.2 + 1)) else (s.1, s.2.1, 0)
theorem scan_le (f : Nat → Int) : ∀ j, (scan f j).1 ≤ j ∧ (scan f j).2.1 ≤ j ∧ (scan f j).2.2 ≤ j
  | 0 => ⟨Nat.le_refl _, Nat.le_refl _, Nat.le_refl _⟩
  | j + 1 => by
    have h := scan_le f j
    simp only [scan]
    split
    · split
      · dsimp only; omega
      · dsimp only; omega
    · dsimp only; omega
def runS (f : Nat → Int) : Nat × Nat := if (scan f 8).2.1 < 2 then (0, 0) else ((scan f 8).1, (scan f 8).2.1)
set_option maxRecDepth 100000 in
set_option maxHeartbeats 3200000 in
theorem run_t (f : Nat → Int) (hf : ∀ k, 0 ≤ f k ∧ f k ≤ 65535) (w : World) : Calls Tryd.prog 21 #[arr8 f] w fun e w' => e = .returned (.tuple #[.int .i64 (runS f).1, .int .i64 (runS f).2]) ∧ Below w.heap.size w w' := by
  unfold arr8
  go_enter Tryd.func21, Tryd.ntmps21
  go_wp2_with fail
  have hb0 : Below w.heap.size w (w.alloc (.cells #[.int .u16 (f 0), .int .u16 (f 1), .int .u16 (f 2), .int .u16 (f 3), .int .u16 (f 4), .int .u16 (f 5), .int .u16 (f 6), .int .u16 (f 7)] 42)) := (Below.refl _ _).alloc (Nat.le_refl _) _
  generalize w.alloc (.cells #[.int .u16 (f 0), .int .u16 (f 1), .int .u16 (f 2), .int .u16 (f 3), .int .u16 (f 4), .int .u16 (f 5), .int .u16 (f 6), .int .u16 (f 7)] 42) = w0 at *
  go_loopw [4, 5, 6, 10] (fun a m l i wr => ∃ (j : Nat), j ≤ 8 ∧ i = .int .i64 j ∧ a = .int .i64 (scan f j).1 ∧ m = .int .i64 (scan f j).2.1 ∧ l = .int .i64 (scan f j).2.2 ∧ wr = w0) (fun _ _ _ i _ => 8 - (intOf i).toNat)
  case atStart => exact ⟨0, by omega, rfl, rfl, rfl, rfl, rfl⟩
  case round =>
    obtain ⟨j, hj, rfl, rfl, rfl, rfl, rfl⟩ := hrel
    have hle := scan_le f j
    rcases j with _ | _ | _ | _ | _ | _ | _ | _ | _ | j
    · have hi := idx8_0 (.int .u16 (f 0)) (.int .u16 (f 1)) (.int .u16 (f 2)) (.int .u16 (f 3)) (.int .u16 (f 4)) (.int .u16 (f 5)) (.int .u16 (f 6)) (.int .u16 (f 7)) wr
      have hs : scan f (0 + 1) = (if f 0 = 0 then (if (scan f (0)).2.1 < (scan f (0)).2.2 + 1 then (0 + 1 - ((scan f (0)).2.2 + 1), (scan f (0)).2.2 + 1, (scan f (0)).2.2 + 1) else ((scan f (0)).1, (scan f (0)).2.1, (scan f (0)).2.2 + 1)) else ((scan f (0)).1, (scan f (0)).2.1, 0)) := rfl
      have HS := Lib.hid hs
      clear hs
      have hg := hf 0
      have hle' : (scan f (0)).1 ≤ 0 ∧ (scan f (0)).2.1 ≤ 0 ∧ (scan f (0)).2.2 ≤ 0 := hle
      clear hle
      generalize scan f (0) = s at *
      obtain ⟨a, m, l⟩ := s
      dsimp only at hle' ⊢
      by_cases h0 : f 0 = 0
      · have e0 : ((f 0) != 0) = false := by simpa using h0
        by_cases h1 : m < l + 1
        · have h1' : (m : Int) < (l : Int) + 1 := by omega
          rw [h0] at hi
          go_wp2
          refine ⟨⟨1, by omega, by go_num, ?_, ?_, ?_, trivial⟩, by simp [intOf]⟩ <;> (rw [HS.out, if_pos h0, if_pos h1] <;> first | rfl | (refine congrArg (Value.int .i64) ?_; dsimp only; omega))
        · have h1' : ¬ (m : Int) < (l : Int) + 1 := by omega
          rw [h0] at hi
          go_wp2
          refine ⟨⟨1, by omega, by go_num, ?_, ?_, ?_, trivial⟩, by simp [intOf]⟩ <;> (rw [HS.out, if_pos h0, if_neg h1] <;> first | rfl | (refine congrArg (Value.int .i64) ?_; dsimp only; omega))
      · have e0 : ((f 0) != 0) = true := by simpa using h0
        go_wp2
        refine ⟨⟨1, by omega, by go_num, ?_, ?_, ?_, trivial⟩, by simp [intOf]⟩ <;> (rw [HS.out, if_neg h0] <;> first | rfl | (refine congrArg (Value.int .i64) ?_; dsimp only; omega))
    · have hi := idx8_1 (.int .u16 (f 0)) (.int .u16 (f 1)) (.int .u16 (f 2)) (.int .u16 (f 3)) (.int .u16 (f 4)) (.int .u16 (f 5)) (.int .u16 (f 6)) (.int .u16 (f 7)) wr
      have hs : scan f (1 + 1) = (if f 1 = 0 then (if (scan f (0 + 1)).2.1 < (scan f (0 + 1)).2.2 + 1 then (1 + 1 - ((scan f (0 + 1)).2.2 + 1), (scan f (0 + 1)).2.2 + 1, (scan f (0 + 1)).2.2 + 1) else ((scan f (0 + 1)).1, (scan f (0 + 1)).2.1, (scan f (0 + 1)).2.2 + 1)) else ((scan f (0 + 1)).1, (scan f (0 + 1)).2.1, 0)) := rfl
      have HS := Lib.hid hs
      clear hs
      have hg := hf 1
      have hle' : (scan f (0 + 1)).1 ≤ 1 ∧ (scan f (0 + 1)).2.1 ≤ 1 ∧ (scan f (0 + 1)).2.2 ≤ 1 := hle
      clear hle
      generalize scan f (0 + 1) = s at *
      obtain ⟨a, m, l⟩ := s
      dsimp only at hle' ⊢
      by_cases h0 : f 1 = 0
      · have e0 : ((f 1) != 0) = false := by simpa using h0
        by_cases h1 : m < l + 1
        · have h1' : (m : Int) < (l : Int) + 1 := by omega
          rw [h0] at hi
          go_wp2
          refine ⟨⟨2, by omega, by go_num, ?_, ?_, ?_, trivial⟩, by simp [intOf]⟩ <;> (rw [HS.out, if_pos h0, if_pos h1] <;> first | rfl | (refine congrArg (Value.int .i64) ?_; dsimp only; omega))
        · have h1' : ¬ (m : Int) < (l : Int) + 1 := by omega
          rw [h0] at hi
          go_wp2
          refine ⟨⟨2, by omega, by go_num, ?_, ?_, ?_, trivial⟩, by simp [intOf]⟩ <;> (rw [HS.out, if_pos h0, if_neg h1] <;> first | rfl | (refine congrArg (Value.int .i64) ?_; dsimp only; omega))
      · have e0 : ((f 1) != 0) = true := by simpa using h0
        go_wp2
        refine ⟨⟨2, by omega, by go_num, ?_, ?_, ?_, trivial⟩, by simp [intOf]⟩ <;> (rw [HS.out, if_neg h0] <;> first | rfl | (refine congrArg (Value.int .i64) ?_; dsimp only; omega))
    · have hi := idx8_2 (.int .u16 (f 0)) (.int .u16 (f 1)) (.int .u16 (f 2)) (.int .u16 (f 3)) (.int .u16 (f 4)) (.int .u16 (f 5)) (.int .u16 (f 6)) (.int .u16 (f 7)) wr
      have hs : scan f (2 + 1) = (if f 2 = 0 then (if (scan f (0 + 1 + 1)).2.1 < (scan f (0 + 1 + 1)).2.2 + 1 then (2 + 1 - ((scan f (0 + 1 + 1)).2.2 + 1), (scan f (0 + 1 + 1)).2.2 + 1, (scan f (0 + 1 + 1)).2.2 + 1) else ((scan f (0 + 1 + 1)).1, (scan f (0 + 1 + 1)).2.1, (scan f (0 + 1 + 1)).2.2 + 1)) else ((scan f (0 + 1 + 1)).1, (scan f (0 + 1 + 1)).2.1, 0)) := rfl
      have HS := Lib.hid hs
      clear hs
      have hg := hf 2
      have hle' : (scan f (0 + 1 + 1)).1 ≤ 2 ∧ (scan f (0 + 1 + 1)).2.1 ≤ 2 ∧ (scan f (0 + 1 + 1)).2.2 ≤ 2 := hle
      clear hle
      generalize scan f (0 + 1 + 1) = s at *
      obtain ⟨a, m, l⟩ := s
      dsimp only at hle' ⊢
      by_cases h0 : f 2 = 0
      · have e0 : ((f 2) != 0) = false := by simpa using h0
        by_cases h1 : m < l + 1
        · have h1' : (m : Int) < (l : Int) + 1 := by omega
          rw [h0] at hi
          go_wp2
          refine ⟨⟨3, by omega, by go_num, ?_, ?_, ?_, trivial⟩, by simp [intOf]⟩ <;> (rw [HS.out, if_pos h0, if_pos h1] <;> first | rfl | (refine congrArg (Value.int .i64) ?_; dsimp only; omega))
        · have h1' : ¬ (m : Int) < (l : Int) + 1 := by omega
          rw [h0] at hi
          go_wp2
          refine ⟨⟨3, by omega, by go_num, ?_, ?_, ?_, trivial⟩, by simp [intOf]⟩ <;> (rw [HS.out, if_pos h0, if_neg h1] <;> first | rfl | (refine congrArg (Value.int .i64) ?_; dsimp only; omega))
      · have e0 : ((f 2) != 0) = true := by simpa using h0
        go_wp2
        refine ⟨⟨3, by omega, by go_num, ?_, ?_, ?_, trivial⟩, by simp [intOf]⟩ <;> (rw [HS.out, if_neg h0] <;> first | rfl | (refine congrArg (Value.int .i64) ?_; dsimp only; omega))
    · have hi := idx8_3 (.int .u16 (f 0)) (.int .u16 (f 1)) (.int .u16 (f 2)) (.int .u16 (f 3)) (.int .u16 (f 4)) (.int .u16 (f 5)) (.int .u16 (f 6)) (.int .u16 (f 7)) wr
      have hs : scan f (3 + 1) = (if f 3 = 0 then (if (scan f (0 + 1 + 1 + 1)).2.1 < (scan f (0 + 1 + 1 + 1)).2.2 + 1 then (3 + 1 - ((scan f (0 + 1 + 1 + 1)).2.2 + 1), (scan f (0 + 1 + 1 + 1)).2.2 + 1, (scan f (0 + 1 + 1 + 1)).2.2 + 1) else ((scan f (0 + 1 + 1 + 1)).1, (scan f (0 + 1 + 1 + 1)).2.1, (scan f (0 + 1 + 1 + 1)).2.2 + 1)) else ((scan f (0 + 1 + 1 + 1)).1, (scan f (0 + 1 + 1 + 1)).2.1, 0)) := rfl
      have HS := Lib.hid hs
      clear hs
      have hg := hf 3
      have hle' : (scan f (0 + 1 + 1 + 1)).1 ≤ 3 ∧ (scan f (0 + 1 + 1 + 1)).2.1 ≤ 3 ∧ (scan f (0 + 1 + 1 + 1)).2.2 ≤ 3 := hle
      clear hle
      generalize scan f (0 + 1 + 1 + 1) = s at *
      obtain ⟨a, m, l⟩ := s
      dsimp only at hle' ⊢
      by_cases h0 : f 3 = 0
      · have e0 : ((f 3) != 0) = false := by simpa using h0
        by_cases h1 : m < l + 1
        · have h1' : (m : Int) < (l : Int) + 1 := by omega
          rw [h0] at hi
          go_wp2
          refine ⟨⟨4, by omega, by go_num, ?_, ?_, ?_, trivial⟩, by simp [intOf]⟩ <;> (rw [HS.out, if_pos h0, if_pos h1] <;> first | rfl | (refine congrArg (Value.int .i64) ?_; dsimp only; omega))
        · have h1' : ¬ (m : Int) < (l : Int) + 1 := by omega
          rw [h0] at hi
          go_wp2
          refine ⟨⟨4, by omega, by go_num, ?_, ?_, ?_, trivial⟩, by simp [intOf]⟩ <;> (rw [HS.out, if_pos h0, if_neg h1] <;> first | rfl | (refine congrArg (Value.int .i64) ?_; dsimp only; omega))
      · have e0 : ((f 3) != 0) = true := by simpa using h0
        go_wp2
        refine ⟨⟨4, by omega, by go_num, ?_, ?_, ?_, trivial⟩, by simp [intOf]⟩ <;> (rw [HS.out, if_neg h0] <;> first | rfl | (refine congrArg (Value.int .i64) ?_; dsimp only; omega))
    · have hi := idx8_4 (.int .u16 (f 0)) (.int .u16 (f 1)) (.int .u16 (f 2)) (.int .u16 (f 3)) (.int .u16 (f 4)) (.int .u16 (f 5)) (.int .u16 (f 6)) (.int .u16 (f 7)) wr
      have hs : scan f (4 + 1) = (if f 4 = 0 then (if (scan f (0 + 1 + 1 + 1 + 1)).2.1 < (scan f (0 + 1 + 1 + 1 + 1)).2.2 + 1 then (4 + 1 - ((scan f (0 + 1 + 1 + 1 + 1)).2.2 + 1), (scan f (0 + 1 + 1 + 1 + 1)).2.2 + 1, (scan f (0 + 1 + 1 + 1 + 1)).2.2 + 1) else ((scan f (0 + 1 + 1 + 1 + 1)).1, (scan f (0 + 1 + 1 + 1 + 1)).2.1, (scan f (0 + 1 + 1 + 1 + 1)).2.2 + 1)) else ((scan f (0 + 1 + 1 + 1 + 1)).1, (scan f (0 + 1 + 1 + 1 + 1)).2.1, 0)) := rfl
      have HS := Lib.hid hs
      clear hs
      have hg := hf 4
      have hle' : (scan f (0 + 1 + 1 + 1 + 1)).1 ≤ 4 ∧ (scan f (0 + 1 + 1 + 1 + 1)).2.1 ≤ 4 ∧ (scan f (0 + 1 + 1 + 1 + 1)).2.2 ≤ 4 := hle
      clear hle
      generalize scan f (0 + 1 + 1 + 1 + 1) = s at *
      obtain ⟨a, m, l⟩ := s
      dsimp only at hle' ⊢
      by_cases h0 : f 4 = 0
      · have e0 : ((f 4) != 0) = false := by simpa using h0
        by_cases h1 : m < l + 1
        · have h1' : (m : Int) < (l : Int) + 1 := by omega
          rw [h0] at hi
          go_wp2
          refine ⟨⟨5, by omega, by go_num, ?_, ?_, ?_, trivial⟩, by simp [intOf]⟩ <;> (rw [HS.out, if_pos h0, if_pos h1] <;> first | rfl | (refine congrArg (Value.int .i64) ?_; dsimp only; omega))
        · have h1' : ¬ (m : Int) < (l : Int) + 1 := by omega
          rw [h0] at hi
          go_wp2
          refine ⟨⟨5, by omega, by go_num, ?_, ?_, ?_, trivial⟩, by simp [intOf]⟩ <;> (rw [HS.out, if_pos h0, if_neg h1] <;> first | rfl | (refine congrArg (Value.int .i64) ?_; dsimp only; omega))
      · have e0 : ((f 4) != 0) = true := by simpa using h0
        go_wp2
        refine ⟨⟨5, by omega, by go_num, ?_, ?_, ?_, trivial⟩, by simp [intOf]⟩ <;> (rw [HS.out, if_neg h0] <;> first | rfl | (refine congrArg (Value.int .i64) ?_; dsimp only; omega))
    · have hi := idx8_5 (.int .u16 (f 0)) (.int .u16 (f 1)) (.int .u16 (f 2)) (.int .u16 (f 3)) (.int .u16 (f 4)) (.int .u16 (f 5)) (.int .u16 (f 6)) (.int .u16 (f 7)) wr
      have hs : scan f (5 + 1) = (if f 5 = 0 then (if (scan f (0 + 1 + 1 + 1 + 1 + 1)).2.1 < (scan f (0 + 1 + 1 + 1 + 1 + 1)).2.2 + 1 then (5 + 1 - ((scan f (0 + 1 + 1 + 1 + 1 + 1)).2.2 + 1), (scan f (0 + 1 + 1 + 1 + 1 + 1)).2.2 + 1, (scan f (0 + 1 + 1 + 1 + 1 + 1)).2.2 + 1) else ((scan f (0 + 1 + 1 + 1 + 1 + 1)).1, (scan f (0 + 1 + 1 + 1 + 1 + 1)).2.1, (scan f (0 + 1 + 1 + 1 + 1 + 1)).2.2 + 1)) else ((scan f (0 + 1 + 1 + 1 + 1 + 1)).1, (scan f (0 + 1 + 1 + 1 + 1 + 1)).2.1, 0)) := rfl
      have HS := Lib.hid hs
      clear hs
      have hg := hf 5
      have hle' : (scan f (0 + 1 + 1 + 1 + 1 + 1)).1 ≤ 5 ∧ (scan f (0 + 1 + 1 + 1 + 1 + 1)).2.1 ≤ 5 ∧ (scan f (0 + 1 + 1 + 1 + 1 + 1)).2.2 ≤ 5 := hle
      clear hle
      generalize scan f (0 + 1 + 1 + 1 + 1 + 1) = s at *
      obtain ⟨a, m, l⟩ := s
      dsimp only at hle' ⊢
      by_cases h0 : f 5 = 0
      · have e0 : ((f 5) != 0) = false := by simpa using h0
        by_cases h1 : m < l + 1
        · have h1' : (m : Int) < (l : Int) + 1 := by omega
          rw [h0] at hi
          go_wp2
          refine ⟨⟨6, by omega, by go_num, ?_, ?_, ?_, trivial⟩, by simp [intOf]⟩ <;> (rw [HS.out, if_pos h0, if_pos h1] <;> first | rfl | (refine congrArg (Value.int .i64) ?_; dsimp only; omega))
        · have h1' : ¬ (m : Int) < (l : Int) + 1 := by omega
          rw [h0] at hi
          go_wp2
          refine ⟨⟨6, by omega, by go_num, ?_, ?_, ?_, trivial⟩, by simp [intOf]⟩ <;> (rw [HS.out, if_pos h0, if_neg h1] <;> first | rfl | (refine congrArg (Value.int .i64) ?_; dsimp only; omega))
      · have e0 : ((f 5) != 0) = true := by simpa using h0
        go_wp2
        refine ⟨⟨6, by omega, by go_num, ?_, ?_, ?_, trivial⟩, by simp [intOf]⟩ <;> (rw [HS.out, if_neg h0] <;> first | rfl | (refine congrArg (Value.int .i64) ?_; dsimp only; omega))
    · have hi := idx8_6 (.int .u16 (f 0)) (.int .u16 (f 1)) (.int .u16 (f 2)) (.int .u16 (f 3)) (.int .u16 (f 4)) (.int .u16 (f 5)) (.int .u16 (f 6)) (.int .u16 (f 7)) wr
      have hs : scan f (6 + 1) = (if f 6 = 0 then (if (scan f (0 + 1 + 1 + 1 + 1 + 1 + 1)).2.1 < (scan f (0 + 1 + 1 + 1 + 1 + 1 + 1)).2.2 + 1 then (6 + 1 - ((scan f (0 + 1 + 1 + 1 + 1 + 1 + 1)).2.2 + 1), (scan f (0 + 1 + 1 + 1 + 1 + 1 + 1)).2.2 + 1, (scan f (0 + 1 + 1 + 1 + 1 + 1 + 1)).2.2 + 1) else ((scan f (0 + 1 + 1 + 1 + 1 + 1 + 1)).1, (scan f (0 + 1 + 1 + 1 + 1 + 1 + 1)).2.1, (scan f (0 + 1 + 1 + 1 + 1 + 1 + 1)).2.2 + 1)) else ((scan f (0 + 1 + 1 + 1 + 1 + 1 + 1)).1, (scan f (0 + 1 + 1 + 1 + 1 + 1 + 1)).2.1, 0)) := rfl
      have HS := Lib.hid hs
      clear hs
      have hg := hf 6
      have hle' : (scan f (0 + 1 + 1 + 1 + 1 + 1 + 1)).1 ≤ 6 ∧ (scan f (0 + 1 + 1 + 1 + 1 + 1 + 1)).2.1 ≤ 6 ∧ (scan f (0 + 1 + 1 + 1 + 1 + 1 + 1)).2.2 ≤ 6 := hle
      clear hle
      generalize scan f (0 + 1 + 1 + 1 + 1 + 1 + 1) = s at *
      obtain ⟨a, m, l⟩ := s
      dsimp only at hle' ⊢
      by_cases h0 : f 6 = 0
      · have e0 : ((f 6) != 0) = false := by simpa using h0
        by_cases h1 : m < l + 1
        · have h1' : (m : Int) < (l : Int) + 1 := by omega
          rw [h0] at hi
          go_wp2
          refine ⟨⟨7, by omega, by go_num, ?_, ?_, ?_, trivial⟩, by simp [intOf]⟩ <;> (rw [HS.out, if_pos h0, if_pos h1] <;> first | rfl | (refine congrArg (Value.int .i64) ?_; dsimp only; omega))
        · have h1' : ¬ (m : Int) < (l : Int) + 1 := by omega
          rw [h0] at hi
          go_wp2
          refine ⟨⟨7, by omega, by go_num, ?_, ?_, ?_, trivial⟩, by simp [intOf]⟩ <;> (rw [HS.out, if_pos h0, if_neg h1] <;> first | rfl | (refine congrArg (Value.int .i64) ?_; dsimp only; omega))
      · have e0 : ((f 6) != 0) = true := by simpa using h0
        go_wp2
        refine ⟨⟨7, by omega, by go_num, ?_, ?_, ?_, trivial⟩, by simp [intOf]⟩ <;> (rw [HS.out, if_neg h0] <;> first | rfl | (refine congrArg (Value.int .i64) ?_; dsimp only; omega))
    · have hi := idx8_7 (.int .u16 (f 0)) (.int .u16 (f 1)) (.int .u16 (f 2)) (.int .u16 (f 3)) (.int .u16 (f 4)) (.int .u16 (f 5)) (.int .u16 (f 6)) (.int .u16 (f 7)) wr
      have hs : scan f (7 + 1) = (if f 7 = 0 then (if (scan f (0 + 1 + 1 + 1 + 1 + 1 + 1 + 1)).2.1 < (scan f (0 + 1 + 1 + 1 + 1 + 1 + 1 + 1)).2.2 + 1 then (7 + 1 - ((scan f (0 + 1 + 1 + 1 + 1 + 1 + 1 + 1)).2.2 + 1), (scan f (0 + 1 + 1 + 1 + 1 + 1 + 1 + 1)).2.2 + 1, (scan f (0 + 1 + 1 + 1 + 1 + 1 + 1 + 1)).2.2 + 1) else ((scan f (0 + 1 + 1 + 1 + 1 + 1 + 1 + 1)).1, (scan f (0 + 1 + 1 + 1 + 1 + 1 + 1 + 1)).2.1, (scan f (0 + 1 + 1 + 1 + 1 + 1 + 1 + 1)).2.2 + 1)) else ((scan f (0 + 1 + 1 + 1 + 1 + 1 + 1 + 1)).1, (scan f (0 + 1 + 1 + 1 + 1 + 1 + 1 + 1)).2.1, 0)) := rfl
      have HS := Lib.hid hs
      clear hs
      have hg := hf 7
      have hle' : (scan f (0 + 1 + 1 + 1 + 1 + 1 + 1 + 1)).1 ≤ 7 ∧ (scan f (0 + 1 + 1 + 1 + 1 + 1 + 1 + 1)).2.1 ≤ 7 ∧ (scan f (0 + 1 + 1 + 1 + 1 + 1 + 1 + 1)).2.2 ≤ 7 := hle
      clear hle
      generalize scan f (0 + 1 + 1 + 1 + 1 + 1 + 1 + 1) = s at *
      obtain ⟨a, m, l⟩ := s
      dsimp only at hle' ⊢
      by_cases h0 : f 7 = 0
      · have e0 : ((f 7) != 0) = false := by simpa using h0
        by_cases h1 : m < l + 1
        · have h1' : (m : Int) < (l : Int) + 1 := by omega
          rw [h0] at hi
          go_wp2
          refine ⟨⟨8, by omega, by go_num, ?_, ?_, ?_, trivial⟩, by simp [intOf]⟩ <;> (rw [HS.out, if_pos h0, if_pos h1] <;> first | rfl | (refine congrArg (Value.int .i64) ?_; dsimp only; omega))
        · have h1' : ¬ (m : Int) < (l : Int) + 1 := by omega
          rw [h0] at hi
          go_wp2
          refine ⟨⟨8, by omega, by go_num, ?_, ?_, ?_, trivial⟩, by simp [intOf]⟩ <;> (rw [HS.out, if_pos h0, if_neg h1] <;> first | rfl | (refine congrArg (Value.int .i64) ?_; dsimp only; omega))
      · have e0 : ((f 7) != 0) = true := by simpa using h0
        go_wp2
        refine ⟨⟨8, by omega, by go_num, ?_, ?_, ?_, trivial⟩, by simp [intOf]⟩ <;> (rw [HS.out, if_neg h0] <;> first | rfl | (refine congrArg (Value.int .i64) ?_; dsimp only; omega))
    · have hr : runS f = (if (scan f 8).2.1 < 2 then (0, 0) else ((scan f 8).1, (scan f 8).2.1)) := rfl
      have HR := Lib.hid hr
      clear hr
      by_cases h2 : (scan f 8).2.1 < 2
      · have h2' : (((scan f 8).2.1 : Nat) : Int) < 2 := by omega
        go_wp2
        exact bodyPost_ret (v := .tuple #[.int .i64 0, .int .i64 0]) (by simp [results, Tryd.results21, go_sem]) rfl ⟨by rw [HR.out, if_pos h2]; rfl, hb0⟩
      · have h2' : ¬ (((scan f 8).2.1 : Nat) : Int) < 2 := by omega
        go_wp2
        exact bodyPost_ret (v := .tuple #[.int .i64 (scan f 8).1, .int .i64 (scan f 8).2.1]) (by simp [results, Tryd.results21, go_sem]) rfl ⟨by rw [HR.out, if_neg h2], hb0⟩
    · omega
end Go.Proofs.YtkenkjdelhmaoaaDoor
