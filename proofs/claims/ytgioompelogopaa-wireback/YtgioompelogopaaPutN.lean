/- put of nil. No conditions beyond ranges. -/
import Derived.Test.YtgioompelogopaaPut2
namespace Go.Proofs.Ytgioompelogopaa
set_option linter.unusedVariables false
set_option linter.unusedSimpArgs false
open Go.RowKit
theorem rawN_b (bv : Value) (w : World) : Calls Try.prog 56 #[.pointer none, bv] w fun e w' => e = .returned (.pointer none) ∧ Below w.heap.size w w' :=
  (rawN_t bv w).mono fun _ _ h => ⟨h.1, by rw [h.2]; exact Below.refl _ _⟩
set_option maxRecDepth 100000 in
set_option maxHeartbeats 1600000 in
theorem putN0_t (i n ah al : Int) (s : ByteArray) (b : Value) (bl : List Int) (hn : Word n) (hh : Word ah) (hw : Word al) (w : World) (hbs : BS w b bl) :
    Calls Try.prog 39 #[.pointer none, partV 0 i n ah al s b] w fun e w' => (∃ v', e = .returned v') ∧ Below w.heap.size w w' := by
  obtain ⟨pp, c, rfl, _, _, _, _, _⟩ := hbs
  unfold partV
  go_enter Try.func39, Try.ntmps39
  go_wp2_with fail
  have R := Row.new w #[.int .i64 0, .int .i64 i, .int .u64 n, .int .u64 ah, .int .u64 al, .string s, .slice pp bl.length c] 59
  have hb0 : Below w.heap.size w (w.alloc (.cells #[.int .i64 0, .int .i64 i, .int .u64 n, .int .u64 ah, .int .u64 al, .string s, .slice pp bl.length c] 59)) := (Below.refl _ _).alloc (Nat.le_refl _) _
  refine (numN_t n i hn _).mono ?_
  rintro e w1 ⟨rfl, hb1⟩
  have R1 := R.later hb1
  have hb := below_step hb0 hb1
  have c1 := (R1.cell 1).trans (show _ = some (Value.int .i64 i) from rfl)
  have c2 := (R1.cell 2).trans (show _ = some (Value.int .u64 n) from rfl)
  clear R R1
  go_wp2_with fail
  refine (refNum_t n i hn _).mono ?_
  rintro e w2 ⟨v2, rfl, ho2, hb2⟩
  have hb := below_step hb hb2
  go_wp2
  go_ret
  exact ⟨⟨_, rfl⟩, hb⟩
set_option maxRecDepth 100000 in
set_option maxHeartbeats 1600000 in
theorem putN1_t (i n ah al : Int) (s : ByteArray) (b : Value) (bl : List Int) (hn : Word n) (hh : Word ah) (hw : Word al) (w : World) (hbs : BS w b bl) :
    Calls Try.prog 39 #[.pointer none, partV 1 i n ah al s b] w fun e w' => (∃ v', e = .returned v') ∧ Below w.heap.size w w' := by
  obtain ⟨pp, c, rfl, _, _, _, _, _⟩ := hbs
  unfold partV
  go_enter Try.func39, Try.ntmps39
  go_wp2_with fail
  have R := Row.new w #[.int .i64 1, .int .i64 i, .int .u64 n, .int .u64 ah, .int .u64 al, .string s, .slice pp bl.length c] 59
  have hb0 : Below w.heap.size w (w.alloc (.cells #[.int .i64 1, .int .i64 i, .int .u64 n, .int .u64 ah, .int .u64 al, .string s, .slice pp bl.length c] 59)) := (Below.refl _ _).alloc (Nat.le_refl _) _
  refine (wideN_t ah al hh hw _).mono ?_
  rintro e w1 ⟨rfl, hb1⟩
  have R1 := R.later hb1
  have hb := below_step hb0 hb1
  have c3 := (R1.cell 3).trans (show _ = some (Value.int .u64 ah) from rfl)
  have c4 := (R1.cell 4).trans (show _ = some (Value.int .u64 al) from rfl)
  clear R R1
  go_wp2_with fail
  refine (as_w ah al _).mono ?_
  rintro e w2 ⟨rfl, hb2⟩
  have hb := below_step hb hb2
  go_wp2_with fail
  refine (refWide_t ah al hh hw _).mono ?_
  rintro e w3 ⟨v3, rfl, ho3, hb3⟩
  have hb := below_step hb hb3
  go_wp2
  go_ret
  exact ⟨⟨_, rfl⟩, hb⟩
set_option maxRecDepth 100000 in
set_option maxHeartbeats 1600000 in
theorem putN2_t (i n ah al : Int) (s : ByteArray) (b : Value) (bl : List Int) (hn : Word n) (hh : Word ah) (hw : Word al) (w : World) (hbs : BS w b bl) :
    Calls Try.prog 39 #[.pointer none, partV 2 i n ah al s b] w fun e w' => (∃ v', e = .returned v') ∧ Below w.heap.size w w' := by
  obtain ⟨pp, c, rfl, _, _, _, _, _⟩ := hbs
  unfold partV
  go_enter Try.func39, Try.ntmps39
  go_wp2_with fail
  have R := Row.new w #[.int .i64 2, .int .i64 i, .int .u64 n, .int .u64 ah, .int .u64 al, .string s, .slice pp bl.length c] 59
  have hb0 : Below w.heap.size w (w.alloc (.cells #[.int .i64 2, .int .i64 i, .int .u64 n, .int .u64 ah, .int .u64 al, .string s, .slice pp bl.length c] 59)) := (Below.refl _ _).alloc (Nat.le_refl _) _
  refine (textN_t s _).mono ?_
  rintro e w1 ⟨rfl, hb1⟩
  have R1 := R.later hb1
  have hb := below_step hb0 hb1
  have c5 := (R1.cell 5).trans (show _ = some (Value.string s) from rfl)
  clear R R1
  go_wp2_with fail
  refine (refText_t s _).mono ?_
  rintro e w2 ⟨v2, rfl, ho2, hb2⟩
  have hb := below_step hb hb2
  go_wp2
  go_ret
  exact ⟨⟨_, rfl⟩, hb⟩
set_option maxRecDepth 100000 in
set_option maxHeartbeats 1600000 in
theorem putN3_t (i n ah al : Int) (s : ByteArray) (b : Value) (bl : List Int) (hn : Word n) (hh : Word ah) (hw : Word al) (w : World) (hbs : BS w b bl) :
    Calls Try.prog 39 #[.pointer none, partV 3 i n ah al s b] w fun e w' => (∃ v', e = .returned v') ∧ Below w.heap.size w w' := by
  obtain ⟨pp, c, rfl, _, _, _, _, _⟩ := hbs
  unfold partV
  go_enter Try.func39, Try.ntmps39
  go_wp2_with fail
  have R := Row.new w #[.int .i64 3, .int .i64 i, .int .u64 n, .int .u64 ah, .int .u64 al, .string s, .slice pp bl.length c] 59
  have hb0 : Below w.heap.size w (w.alloc (.cells #[.int .i64 3, .int .i64 i, .int .u64 n, .int .u64 ah, .int .u64 al, .string s, .slice pp bl.length c] 59)) := (Below.refl _ _).alloc (Nat.le_refl _) _
  refine (rawN_b _ _).mono ?_
  rintro e w1 ⟨rfl, hb1⟩
  have R1 := R.later hb1
  have hb := below_step hb0 hb1
  have c6 := (R1.cell 6).trans (show _ = some (Value.slice pp bl.length c) from rfl)
  clear R R1
  go_wp2
  go_ret
  exact ⟨⟨_, rfl⟩, hb⟩
set_option maxRecDepth 100000 in
set_option maxHeartbeats 1600000 in
theorem putN4_t (k i n ah al : Int) (s : ByteArray) (b : Value) (w : World) (h0 : k ≠ 0) (h1 : k ≠ 1) (h2 : k ≠ 2) (h3 : k ≠ 3) :
    Calls Try.prog 39 #[.pointer none, partV k i n ah al s b] w fun e w' => (∃ v', e = .returned v') ∧ Below w.heap.size w w' := by
  have e0 : (k == 0) = false := by simpa using h0
  have e1 : (k == 1) = false := by simpa using h1
  have e2 : (k == 2) = false := by simpa using h2
  have e3 : (k == 3) = false := by simpa using h3
  unfold partV
  go_enter Try.func39, Try.ntmps39
  go_wp2
  go_ret
  exact ⟨⟨_, rfl⟩, (Below.refl _ _).alloc (Nat.le_refl _) _⟩
theorem putN_t (k i n ah al : Int) (s : ByteArray) (b : Value) (bl : List Int) (hn : Word n) (hh : Word ah) (hw : Word al) (w : World) (hbs : BS w b bl) :
    Calls Try.prog 39 #[.pointer none, partV k i n ah al s b] w fun e w' => (∃ v', e = .returned v') ∧ Below w.heap.size w w' := by
  by_cases h0 : k = 0
  · subst h0; exact putN0_t i n ah al s b bl hn hh hw w hbs
  by_cases h1 : k = 1
  · subst h1; exact putN1_t i n ah al s b bl hn hh hw w hbs
  by_cases h2 : k = 2
  · subst h2; exact putN2_t i n ah al s b bl hn hh hw w hbs
  by_cases h3 : k = 3
  · subst h3; exact putN3_t i n ah al s b bl hn hh hw w hbs
  exact putN4_t k i n ah al s b w h0 h1 h2 h3
end Go.Proofs.Ytgioompelogopaa
