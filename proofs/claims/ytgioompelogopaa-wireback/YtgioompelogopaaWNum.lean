/- Num, Wide and Text of the writer. No conditions beyond lengths and ranges. -/
import Derived.Test.YtgioompelogopaaWriter
namespace Go.Proofs.Ytgioompelogopaa
set_option linter.unusedVariables false
set_option linter.unusedSimpArgs false
open Go.RowKit
theorem pow256 (k : Nat) : (256 : Int) ^ k = 2 ^ (8 * k) := by
  rw [show (256 : Int) = 2 ^ 8 by rfl, ← Int.pow_mul]
theorem wrap8 (x : Int) : IntKind.u8.wrap x = x % 256 := by simp [IntKind.wrap, IntKind.bits, IntKind.signed]
/-- the last k of eight bytes -/
theorem last_bytes {w : World} {g : Nat} {cs : Array Value} {t : TypeId} (n : Int) (k : Nat) (hk : 1 ≤ k) (hk8 : k ≤ 8) (R : Row w g cs t) (hs : cs.size = 8) (h : ∀ m, m < 8 → cs[m]? = some (.int .u8 (n / 2 ^ (56 - 8 * m) % 256))) : BS w (.slice (some ⟨g, 8 - k, none⟩) k k) (numB n k) := by
  have hl := numB_length n k
  refine ⟨some ⟨g, 8 - k, none⟩, k, by rw [hl], by omega, by unfold maxLen; omega, fun _ => ⟨g, 8 - k, rfl, fun j x hx => ?_⟩, numB_byte n k, fun h => by cases h⟩
  have hj : j < k := by rw [List.getElem?_eq_some_iff] at hx; obtain ⟨h, _⟩ := hx; omega
  rw [numB_get n k j hj] at hx
  rw [R.cell, h _ (by omega), ← Option.some.inj hx, pow256, show 56 - 8 * (8 - k + j) = 8 * (k - 1 - j) by omega]
theorem cut8 (w : World) (g k : Nat) (h1 : 1 ≤ k) (h8 : k ≤ 8) : (Instr.sliceAt 95 (.pointer (some ⟨g, 0, none⟩)) (some (.int .i64 (8 - k))) none none).run Try.prog w = .ok (.slice (some ⟨g, 8 - k, none⟩) k k) w := by
  have ha : Try.prog.arrayLen 95 = 8 := by kernel_rfl
  have he : Try.prog.elem 95 = 5 := by kernel_rfl
  have hu : Try.prog.underlying 95 = some (.array (Try.prog.arrayLen 95) (Try.prog.elem 95)) := by rw [ha, he]; exact Try.underlying95
  rw [run_sliceAt_array_l (P := Try.prog) w 95 ⟨g, 0, none⟩ hu .i64 (8 - k) (by omega) (by rw [ha]; omega)]
  rw [ha, he]
  simp [go_sem]
  omega
theorem Wr.later {base : Nat} {w w1 : World} {p : Nat} {l : List Int} {F : Nat → Prop} (h : Wr base w p l F) (hb : Below w.heap.size w w1) : Wr base w1 p l F := by
  refine ⟨h.lp, h.fp, ?_⟩
  rcases h.st with ⟨R, hl⟩ | ⟨q, v, R, Rq, ho, rest⟩
  · exact .inl ⟨R.later hb, hl⟩
  · exact .inr ⟨q, v, R.later hb, Rq.later hb, ho.later hb, rest⟩
theorem Wr.lt {base : Nat} {w : World} {p : Nat} {l : List Int} {F : Nat → Prop} (h : Wr base w p l F) : p < w.heap.size := by
  rcases h.st with ⟨R, _⟩ | ⟨_, _, R, _⟩ <;> exact R.lt
/-- a contract of the writer from a later world -/
theorem RawPost.back {base : Nat} {w w1 : World} {p : Nat} {l : List Int} {F : Nat → Prop} {e : Ending} {w' : World} (hb : Below w.heap.size w w1) (h : RawPost base w1 p l F e w') : RawPost base w p l F e w' := by
  obtain ⟨rfl, F', h1, h2, h3⟩ := h
  refine ⟨rfl, F', h1, fun k hk => (h2 k hk).imp id (fun h => Nat.le_trans hb.size h), ?_⟩
  exact Keeps.trans (Keeps.of_below hb) h3 (fun i h => .inl h)
set_option maxRecDepth 100000 in
set_option maxHeartbeats 1600000 in
theorem num_t (base p : Nat) (l : List Int) (n s : Int) (hn : Word n) (w : World) (F : Nat → Prop) (h : Wr base w p l F) (hl : l.length ≤ 2000000000) (hbase : base ≤ w.heap.size) :
    Calls Try.prog 41 #[.pointer (some ⟨p, 0, none⟩), .int .u64 n, .int .i64 s] w (RawPost base w p (l ++ numB n (limK s)) F) := by
  obtain ⟨n0, n1⟩ := hn
  obtain ⟨hk1, hk8⟩ := limK_range s
  go_enter Try.func41, Try.ntmps41
  go_wp2
  go_loopw [9] (fun i wr => ∃ (j : Nat) (cs : Array Value), j ≤ 8 ∧ i = .int .i64 j ∧ Row wr w.heap.size cs 95 ∧ cs.size = 8 ∧ (∀ m, m < j → cs[m]? = some (.int .u8 (n / 2 ^ (56 - 8 * m) % 256))) ∧ Below w.heap.size w wr) (fun i _ => 8 - (intOf i).toNat)
  case atStart => exact ⟨0, _, by omega, rfl, Row.new w _ _, rfl, fun m h => absurd h (by omega), (Below.refl _ _).alloc (Nat.le_refl _) _⟩
  case round =>
    obtain ⟨j, cs, hj, rfl, R, hcs, hset, hb1⟩ := hrel
    by_cases hlt : j < 8
    · have hkb : decide ((j : Int) < 8) = true := by simp; omega
      have c0 := cell_at8 R j (by omega)
      have f0 := R.frozen j
      generalize cs[j]'(by omega) = v0 at c0
      have HS := Lib.hid hset; clear hset
      have HC := Lib.hid hcs; clear hcs
      go_wp2
      refine ⟨⟨j + 1, cs.setIfInBounds j (.int .u8 (n / 2 ^ (56 - 8 * j) % 256)), by omega, by go_num, R.set _ _, by simp [HC.out], ?_, hb1.setCell (Nat.le_refl _) _⟩, by simp [intOf]; omega⟩
      intro m hm
      rw [Array.getElem?_setIfInBounds]
      by_cases hjm : j = m
      · rw [if_pos hjm, if_pos (by have := HC.out; omega), hjm]
      · rw [if_neg hjm]; exact HS.out m (by omega)
    · have e8 : j = 8 := by omega
      have hkb : decide ((j : Int) < 8) = false := by simp; omega
      have hbs := last_bytes n (limK s) hk1 hk8 R hcs (fun m hm => hset m (by omega))
      clear hset hcs
      go_wp2_with fail
      have hsz := limited_t s wr
      rw [limK_int] at hsz
      refine hsz.mono ?_; rintro e w' ⟨rfl, rfl⟩
      clear hsz
      generalize limK s = k at *
      have k1 : (1 : Int) ≤ (k : Int) := by omega
      have k2 : (k : Int) ≤ 8 := by omega
      have hcut := cut8 wr w.heap.size k hk1 hk8
      go_wp2_with fail
      refine (raw_t base p _ l (numB n k) wr F (h.later hb1) hbs (by rw [numB_length]; omega) (Nat.le_trans hbase hb1.size) (by have := h.lt; intro e; simp [Value.ownBlock] at e; omega)).mono ?_
      intro e w' hpost
      obtain ⟨rfl, hpo⟩ := hpost.back hb1
      clear hpost
      go_wp2
      go_ret
      exact ⟨rfl, hpo⟩
/-- two steps of a writer, one after the other -/
theorem RawPost.step {base : Nat} {w w1 : World} {p : Nat} {l : List Int} {F F' : Nat → Prop} {e : Ending} {w' : World} (hF : ∀ k, F' k → F k ∨ w.heap.size ≤ k) (hk : Keeps F w w1) (h : RawPost base w1 p l F' e w') : RawPost base w p l F e w' := by
  obtain ⟨rfl, F2, h1, h2, h3⟩ := h
  refine ⟨rfl, F2, h1, fun k hk2 => ?_, hk.trans h3 hF⟩
  rcases h2 k hk2 with h | h
  · exact hF k h
  · exact .inr (Nat.le_trans hk.size h)
set_option maxHeartbeats 400000 in
theorem numN_t (n s : Int) (hn : Word n) (w : World) : Calls Try.prog 41 #[.pointer none, .int .u64 n, .int .i64 s] w fun e w' => e = .returned (.pointer none) ∧ Below w.heap.size w w' := by
  obtain ⟨n0, n1⟩ := hn
  obtain ⟨hk1, hk8⟩ := limK_range s
  go_enter Try.func41, Try.ntmps41
  go_wp2
  go_loopw [9] (fun i wr => ∃ (j : Nat) (cs : Array Value), j ≤ 8 ∧ i = .int .i64 j ∧ Row wr w.heap.size cs 95 ∧ cs.size = 8 ∧ Below w.heap.size w wr) (fun i _ => 8 - (intOf i).toNat)
  case atStart => exact ⟨0, _, by omega, rfl, Row.new w _ _, rfl, (Below.refl _ _).alloc (Nat.le_refl _) _⟩
  case round =>
    obtain ⟨j, cs, hj, rfl, R, hcs, hb1⟩ := hrel
    by_cases hlt : j < 8
    · have hkb : decide ((j : Int) < 8) = true := by simp; omega
      have c0 := cell_at8 R j (by omega)
      have f0 := R.frozen j
      generalize cs[j]'(by omega) = v0 at c0
      have HC := Lib.hid hcs; clear hcs
      go_wp2
      exact ⟨⟨j + 1, cs.setIfInBounds j (.int .u8 (n / 2 ^ (56 - 8 * j) % 256)), by omega, by go_num, R.set _ _, by simp [HC.out], hb1.setCell (Nat.le_refl _) _⟩, by simp [intOf]; omega⟩
    · have e8 : j = 8 := by omega
      have hkb : decide ((j : Int) < 8) = false := by simp; omega
      clear hcs
      go_wp2_with fail
      have hsz := limited_t s wr
      rw [limK_int] at hsz
      refine hsz.mono ?_; rintro e w' ⟨rfl, rfl⟩
      clear hsz
      generalize limK s = k at *
      have k1 : (1 : Int) ≤ (k : Int) := by omega
      have k2 : (k : Int) ≤ 8 := by omega
      have hcut := cut8 wr w.heap.size k hk1 hk8
      go_wp2_with fail
      refine (rawN_t _ wr).mono ?_
      rintro e w' ⟨rfl, rfl⟩
      go_wp2
      go_ret
      exact ⟨rfl, hb1⟩
end Go.Proofs.Ytgioompelogopaa
