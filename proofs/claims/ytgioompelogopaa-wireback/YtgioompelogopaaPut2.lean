/- put of the law: a wide number, nothing, and all together; put of nil. No conditions beyond lengths and ranges. -/
import Derived.Test.YtgioompelogopaaPut
namespace Go.Proofs.Ytgioompelogopaa
set_option linter.unusedVariables false
set_option linter.unusedSimpArgs false
open Go.RowKit
set_option maxHeartbeats 400000 in
theorem as_w (ah al : Int) (w : World) : Calls Try.prog 14 #[.agg #[.int .u64 ah, .int .u64 al]] w fun e w' => e = .returned (.agg #[.int .u64 ah, .int .u64 al]) ∧ Below w.heap.size w w' := by
  go_enter Try.func14, Try.ntmps14
  go_wp2
  exact bodyPost_ret (v := .agg #[.int .u64 ah, .int .u64 al]) (by simp [results, Try.results14, go_sem]) rfl ⟨rfl, (by repeat (first | exact Below.refl _ _ | assumption | (with_reducible refine Below.setCell ?_ ?h _; case h => first | omega | (simp; done) | (simp; omega)) | (with_reducible refine Below.alloc ?_ ?h _; case h => first | omega | (simp; done) | (simp; omega)) | (with_reducible refine Below.drew ?_) | (with_reducible refine Below.trans ?_ (hb4.mono ?h); case h => first | omega | (simp; done) | (simp; omega)) | (with_reducible refine Below.trans ?_ (hb3.mono ?h); case h => first | omega | (simp; done) | (simp; omega)) | (with_reducible refine Below.trans ?_ (hb2.mono ?h); case h => first | omega | (simp; done) | (simp; omega)) | (with_reducible refine Below.trans ?_ (hb.mono ?h); case h => first | omega | (simp; done) | (simp; omega)) | (with_reducible refine Below.trans ?_ (hb0.mono ?h); case h => first | omega | (simp; done) | (simp; omega))))⟩
set_option maxRecDepth 100000 in
set_option maxHeartbeats 1600000 in
theorem put1_t (base p : Nat) (l : List Int) (i n ah al : Int) (s : ByteArray) (b : Value) (hh : Word ah) (hw : Word al) (w : World) (F : Nat → Prop) (h : Wr base w p l F) (hl : l.length ≤ 1900000000) (hbase : base ≤ w.heap.size) (hF : ∀ k, F k → k < w.heap.size) :
    Calls Try.prog 39 #[.pointer (some ⟨p, 0, none⟩), partV 1 i n ah al s b] w (PutPost base w p l (numB ah 8 ++ numB al 8) F) := by
  unfold partV
  go_enter Try.func39, Try.ntmps39
  go_wp2_with fail
  have R := Row.new w #[.int .i64 1, .int .i64 i, .int .u64 n, .int .u64 ah, .int .u64 al, .string s, b] 59
  have hb0 : Below w.heap.size w (w.alloc (.cells #[.int .i64 1, .int .i64 i, .int .u64 n, .int .u64 ah, .int .u64 al, .string s, b] 59)) := (Below.refl _ _).alloc (Nat.le_refl _) _
  refine (wide_t base p l ah al hh hw _ F (h.later hb0) (by omega) (Nat.le_trans hbase hb0.size)).mono ?_
  intro e w1 hp
  rw [List.append_assoc] at hp
  obtain ⟨rfl, F1, hw1, hF1, hk1⟩ := hp.back hb0
  obtain ⟨_, _, _, _, hk1'⟩ := hp
  have R1 := hk1'.row R (fun f => by have := hF _ f; omega)
  have c3 := (R1.cell 3).trans (show _ = some (Value.int .u64 ah) from rfl)
  have c4 := (R1.cell 4).trans (show _ = some (Value.int .u64 al) from rfl)
  clear R hk1' R1
  go_wp2_with fail
  refine (as_w ah al _).mono ?_
  rintro e w2 ⟨rfl, hb2⟩
  go_wp2_with fail
  refine (refWide_t ah al hh hw _).mono ?_
  rintro e w3 ⟨v3, rfl, ho3, hb3⟩
  have hb := below_step hb2 hb3
  go_wp2
  go_ret
  exact ⟨_, rfl, ho3.bs, RawPost.on ⟨rfl, F1, hw1, hF1, hk1⟩ hb⟩
set_option maxRecDepth 100000 in
set_option maxHeartbeats 1600000 in
theorem put4_t (base p : Nat) (l : List Int) (k i n ah al : Int) (s : ByteArray) (b : Value) (w : World) (F : Nat → Prop) (h : Wr base w p l F) (h0 : k ≠ 0) (h1 : k ≠ 1) (h2 : k ≠ 2) (h3 : k ≠ 3) :
    Calls Try.prog 39 #[.pointer (some ⟨p, 0, none⟩), partV k i n ah al s b] w (PutPost base w p l [] F) := by
  have e0 : (k == 0) = false := by simpa using h0
  have e1 : (k == 1) = false := by simpa using h1
  have e2 : (k == 2) = false := by simpa using h2
  have e3 : (k == 3) = false := by simpa using h3
  unfold partV
  go_enter Try.func39, Try.ntmps39
  go_wp2
  go_ret
  have hb0 : Below w.heap.size w (w.alloc (.cells #[.int .i64 k, .int .i64 i, .int .u64 n, .int .u64 ah, .int .u64 al, .string s, b] 59)) := (Below.refl _ _).alloc (Nat.le_refl _) _
  refine ⟨_, rfl, BS.nil _, ?_⟩
  rw [List.append_nil]
  exact ⟨rfl, F, h.later hb0, fun _ h => .inl h, Keeps.of_below hb0⟩
/-- a part, written -/
theorem put_t (base p : Nat) (l bl : List Int) (k i n ah al : Int) (s : ByteArray) (b : Value) (hn : Word n) (hh : Word ah) (hw : Word al) (w : World) (F : Nat → Prop) (h : Wr base w p l F) (hbs : BS w b bl) (hl : l.length + bl.length ≤ 1900000000) (hbase : base ≤ w.heap.size) (hFb : 0 < bl.length → ∀ g, b.ownBlock = some g → ¬ F g) :
    Calls Try.prog 39 #[.pointer (some ⟨p, 0, none⟩), partV k i n ah al s b] w (PutPost base w p l (partB k i n ah al s bl) F) := by
  unfold partB
  by_cases h0 : k = 0
  · subst h0; rw [if_pos rfl]
    exact (put0_t base p l i n ah al s b hn w _ h.tight (by omega) hbase (fun _ hk => hk.2)).mono fun _ _ hp => hp.loose
  rw [if_neg h0]
  by_cases h1 : k = 1
  · subst h1; rw [if_pos rfl]
    exact (put1_t base p l i n ah al s b hh hw w _ h.tight (by omega) hbase (fun _ hk => hk.2)).mono fun _ _ hp => hp.loose
  rw [if_neg h1]
  by_cases h2 : k = 2
  · subst h2; rw [if_pos rfl]
    exact (put2_t base p l i n ah al s b w _ h.tight (by omega) hbase (fun _ hk => hk.2)).mono fun _ _ hp => hp.loose
  rw [if_neg h2]
  by_cases h3 : k = 3
  · subst h3; rw [if_pos rfl]
    exact (put3_t base p l bl i n ah al s b w _ h.tight hbs hl hbase (fun _ hk => hk.2) (fun hp g hg hk => hFb hp g hg hk.1)).mono fun _ _ hp => hp.loose
  rw [if_neg h3]
  exact put4_t base p l k i n ah al s b w F h h0 h1 h2 h3
end Go.Proofs.Ytgioompelogopaa
