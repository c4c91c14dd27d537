/- put of the law. No conditions beyond lengths and ranges. -/
import Derived.Test.YtgioompelogopaaGreat
namespace Go.Proofs.Ytgioompelogopaa
set_option linter.unusedVariables false
set_option linter.unusedSimpArgs false
open Go.RowKit
/-- the bytes of a part -/
def partB (k i n ah al : Int) (s : ByteArray) (bl : List Int) : List Int :=
  if k = 0 then numB n (limK i) else if k = 1 then numB ah 8 ++ numB al 8 else if k = 2 then textB s else if k = 3 then bl else []
def PutPost (base : Nat) (w : World) (p : Nat) (l m : List Int) (F : Nat → Prop) (e : Ending) (w' : World) : Prop :=
  ∃ v', e = .returned v' ∧ BS w' v' m ∧ RawPost base w p (l ++ m) F (.returned (.pointer (some ⟨p, 0, none⟩))) w'
theorem PutPost.loose {base : Nat} {w : World} {p : Nat} {l m : List Int} {F : Nat → Prop} {e : Ending} {w' : World} (h : PutPost base w p l m (fun k => F k ∧ k < w.heap.size) e w') : PutPost base w p l m F e w' := by
  obtain ⟨v', h1, h2, h3⟩ := h
  exact ⟨v', h1, h2, h3.loose⟩
theorem RawPost.on {base : Nat} {w : World} {p : Nat} {l : List Int} {F : Nat → Prop} {e : Ending} {w1 w2 : World} (h : RawPost base w p l F e w1) (hb : Below w1.heap.size w1 w2) : RawPost base w p l F e w2 := by
  obtain ⟨h1, F', h2, h3, h4⟩ := h
  exact ⟨h1, F', h2.later hb, h3, h4.trans (Keeps.of_below (F := F) hb) (fun _ h => .inl h)⟩
set_option maxRecDepth 100000 in
set_option maxHeartbeats 1600000 in
theorem put0_t (base p : Nat) (l : List Int) (i n ah al : Int) (s : ByteArray) (b : Value) (hn : Word n) (w : World) (F : Nat → Prop) (h : Wr base w p l F) (hl : l.length ≤ 1900000000) (hbase : base ≤ w.heap.size) (hF : ∀ k, F k → k < w.heap.size) :
    Calls Try.prog 39 #[.pointer (some ⟨p, 0, none⟩), partV 0 i n ah al s b] w (PutPost base w p l (numB n (limK i)) F) := by
  unfold partV
  go_enter Try.func39, Try.ntmps39
  go_wp2_with fail
  have R := Row.new w #[.int .i64 0, .int .i64 i, .int .u64 n, .int .u64 ah, .int .u64 al, .string s, b] 59
  have hb0 : Below w.heap.size w (w.alloc (.cells #[.int .i64 0, .int .i64 i, .int .u64 n, .int .u64 ah, .int .u64 al, .string s, b] 59)) := (Below.refl _ _).alloc (Nat.le_refl _) _
  refine (num_t base p l n i hn _ F (h.later hb0) (by omega) (Nat.le_trans hbase hb0.size)).mono ?_
  intro e w1 hp
  obtain ⟨rfl, F1, hw1, hF1, hk1⟩ := hp.back hb0
  obtain ⟨_, _, _, _, hk1'⟩ := hp
  have R1 := hk1'.row R (fun f => by have := hF _ f; omega)
  have c1 := (R1.cell 1).trans (show _ = some (Value.int .i64 i) from rfl)
  have c2 := (R1.cell 2).trans (show _ = some (Value.int .u64 n) from rfl)
  clear R hk1' R1
  go_wp2_with fail
  refine (refNum_t n i hn _).mono ?_
  rintro e w2 ⟨v2, rfl, ho2, hb2⟩
  go_wp2
  go_ret
  exact ⟨_, rfl, ho2.bs, RawPost.on ⟨rfl, F1, hw1, hF1, hk1⟩ hb2⟩
set_option maxRecDepth 100000 in
set_option maxHeartbeats 1600000 in
theorem put2_t (base p : Nat) (l : List Int) (i n ah al : Int) (s : ByteArray) (b : Value) (w : World) (F : Nat → Prop) (h : Wr base w p l F) (hl : l.length ≤ 1900000000) (hbase : base ≤ w.heap.size) (hF : ∀ k, F k → k < w.heap.size) :
    Calls Try.prog 39 #[.pointer (some ⟨p, 0, none⟩), partV 2 i n ah al s b] w (PutPost base w p l (textB s) F) := by
  unfold partV
  go_enter Try.func39, Try.ntmps39
  go_wp2_with fail
  have R := Row.new w #[.int .i64 2, .int .i64 i, .int .u64 n, .int .u64 ah, .int .u64 al, .string s, b] 59
  have hb0 : Below w.heap.size w (w.alloc (.cells #[.int .i64 2, .int .i64 i, .int .u64 n, .int .u64 ah, .int .u64 al, .string s, b] 59)) := (Below.refl _ _).alloc (Nat.le_refl _) _
  refine (text_t base p l s _ F (h.later hb0) (by omega) (Nat.le_trans hbase hb0.size)).mono ?_
  intro e w1 hp
  obtain ⟨rfl, F1, hw1, hF1, hk1⟩ := hp.back hb0
  obtain ⟨_, _, _, _, hk1'⟩ := hp
  have R1 := hk1'.row R (fun f => by have := hF _ f; omega)
  have c5 := (R1.cell 5).trans (show _ = some (Value.string s) from rfl)
  clear R hk1' R1
  go_wp2_with fail
  refine (refText_t s _).mono ?_
  rintro e w2 ⟨v2, rfl, ho2, hb2⟩
  go_wp2
  go_ret
  exact ⟨_, rfl, ho2.bs, RawPost.on ⟨rfl, F1, hw1, hF1, hk1⟩ hb2⟩
set_option maxRecDepth 100000 in
set_option maxHeartbeats 1600000 in
theorem put3_t (base p : Nat) (l bl : List Int) (i n ah al : Int) (s : ByteArray) (b : Value) (w : World) (F : Nat → Prop) (h : Wr base w p l F) (hbs : BS w b bl) (hl : l.length + bl.length ≤ 1900000000) (hbase : base ≤ w.heap.size) (hF : ∀ k, F k → k < w.heap.size) (hFb : 0 < bl.length → ∀ g, b.ownBlock = some g → ¬ F g) :
    Calls Try.prog 39 #[.pointer (some ⟨p, 0, none⟩), partV 3 i n ah al s b] w (PutPost base w p l bl F) := by
  unfold partV
  have hbs' := hbs
  obtain ⟨pp, c, rfl, _, _, _, _, _⟩ := hbs'
  go_enter Try.func39, Try.ntmps39
  go_wp2_with fail
  have R := Row.new w #[.int .i64 3, .int .i64 i, .int .u64 n, .int .u64 ah, .int .u64 al, .string s, .slice pp bl.length c] 59
  have hb0 : Below w.heap.size w (w.alloc (.cells #[.int .i64 3, .int .i64 i, .int .u64 n, .int .u64 ah, .int .u64 al, .string s, .slice pp bl.length c] 59)) := (Below.refl _ _).alloc (Nat.le_refl _) _
  refine (raw2_t base p _ l bl _ F (h.later hb0) (hbs.later hb0) (by omega) (Nat.le_trans hbase hb0.size)).mono ?_
  intro e w1 hp
  obtain ⟨rfl, F1, hw1, hF1, hk1⟩ := hp.back hb0
  obtain ⟨_, _, _, _, hk1'⟩ := hp
  have R1 := hk1'.row R (fun f => by have := hF _ f; omega)
  have c6 := (R1.cell 6).trans (show _ = some (Value.slice pp bl.length c) from rfl)
  clear R hk1' R1
  go_wp2
  go_ret
  exact ⟨_, rfl, bs1 hk1 hbs hFb, ⟨rfl, F1, hw1, hF1, hk1⟩⟩
end Go.Proofs.Ytgioompelogopaa
