/- And, Mask, Top, Bit, Same of package wide. No conditions beyond the words' ranges. -/
import Derived.Test.YtekoicbjpoeijaaWideN
import Derived.Test.YtekoicbjpoeijaaNum4
namespace Go.Proofs.Ytekoicbjpoeijaa
set_option linter.unusedVariables false
set_option linter.unusedSimpArgs false
open Go.RowKit
set_option maxHeartbeats 400000 in
theorem and_any (ah al bh bl : Int) (h1 : Word ah) (h2 : Word al) (h3 : Word bh) (h4 : Word bl) (w : World) :
    Calls Try.prog 88 #[.agg #[.int .u64 ah, .int .u64 al], .agg #[.int .u64 bh, .int .u64 bl]] w fun e w' =>
      e = .returned (.agg #[.int .u64 (hi (andI (wv ah al) (wv bh bl))), .int .u64 (lo (andI (wv ah al) (wv bh bl)))]) ∧ Below w.heap.size w w' := by
  obtain ⟨P1, P2⟩ := and_pure h1 h2 h3 h4
  rw [P1, P2]; clear P1 P2 h1 h2 h3 h4
  go_enter Try.func88, Try.ntmps88
  go_wp2
  exact bodyPost_ret (v := .agg #[.int .u64 (bits .and .u64 ah bh), .int .u64 (bits .and .u64 al bl)]) (by simp [results, Try.results88, go_sem]) rfl ⟨rfl, (by repeat (first | exact Below.refl _ _ | assumption | (with_reducible refine Below.setCell ?_ ?h _; case h => first | omega | (simp; done) | (simp; omega)) | (with_reducible refine Below.alloc ?_ ?h _; case h => first | omega | (simp; done) | (simp; omega)) | (with_reducible refine Below.drew ?_) | (with_reducible refine Below.trans ?_ (hb4.mono ?h); case h => first | omega | (simp; done) | (simp; omega)) | (with_reducible refine Below.trans ?_ (hb3.mono ?h); case h => first | omega | (simp; done) | (simp; omega)) | (with_reducible refine Below.trans ?_ (hb2.mono ?h); case h => first | omega | (simp; done) | (simp; omega)) | (with_reducible refine Below.trans ?_ (hb.mono ?h); case h => first | omega | (simp; done) | (simp; omega)) | (with_reducible refine Below.trans ?_ (hb0.mono ?h); case h => first | omega | (simp; done) | (simp; omega))))⟩
set_option maxHeartbeats 400000 in
theorem mask_any (n : Int) (hn : n ≤ 9223372036854775807) (w : World) :
    Calls Try.prog 89 #[.int .i64 n] w fun e w' =>
      e = .returned (.agg #[.int .u64 (hi (maskI n)), .int .u64 (lo (maskI n))]) ∧ Below w.heap.size w w' := by
  by_cases c1 : n < 1
  · rw [mask_zero n c1, show hi 0 = 0 from rfl, show lo 0 = 0 from rfl]
    go_enter Try.func89, Try.ntmps89
    go_wp2
    exact bodyPost_ret (v := .agg #[.int .u64 0, .int .u64 0]) (by simp [results, Try.results89, go_sem]) rfl ⟨rfl, (by repeat (first | exact Below.refl _ _ | assumption | (with_reducible refine Below.setCell ?_ ?h _; case h => first | omega | (simp; done) | (simp; omega)) | (with_reducible refine Below.alloc ?_ ?h _; case h => first | omega | (simp; done) | (simp; omega)) | (with_reducible refine Below.drew ?_) | (with_reducible refine Below.trans ?_ (hb4.mono ?h); case h => first | omega | (simp; done) | (simp; omega)) | (with_reducible refine Below.trans ?_ (hb3.mono ?h); case h => first | omega | (simp; done) | (simp; omega)) | (with_reducible refine Below.trans ?_ (hb2.mono ?h); case h => first | omega | (simp; done) | (simp; omega)) | (with_reducible refine Below.trans ?_ (hb.mono ?h); case h => first | omega | (simp; done) | (simp; omega)) | (with_reducible refine Below.trans ?_ (hb0.mono ?h); case h => first | omega | (simp; done) | (simp; omega))))⟩
  · rw [hi_congr (mask_mod n (by omega)).symm, lo_congr (mask_mod n (by omega)).symm]
    go_enter Try.func89, Try.ntmps89
    go_wp2_with fail
    refine (left_any _ _ _ (word_lit 18446744073709551615 (by decide) (by decide)) (word_lit 18446744073709551615 (by decide) (by decide)) _).mono ?_
    rintro e w' ⟨rfl, hb⟩; obtain ⟨q1, q2⟩ := bcell hb; have hz := hb.size; (try simp at hz)
    go_wp2
    refine bodyPost_ret (v := .agg #[.int .u64 (hi (wv 18446744073709551615 18446744073709551615 * 2 ^ (128 - n).toNat)), .int .u64 (lo (wv 18446744073709551615 18446744073709551615 * 2 ^ (128 - n).toNat))]) (by simp [results, Try.results89, go_sem, q1]) rfl ⟨rfl, ?_⟩
    exact (by repeat (first | exact Below.refl _ _ | assumption | (with_reducible refine Below.setCell ?_ ?h _; case h => first | omega | (simp; done) | (simp; omega)) | (with_reducible refine Below.alloc ?_ ?h _; case h => first | omega | (simp; done) | (simp; omega)) | (with_reducible refine Below.drew ?_) | (with_reducible refine Below.trans ?_ (hb4.mono ?h); case h => first | omega | (simp; done) | (simp; omega)) | (with_reducible refine Below.trans ?_ (hb3.mono ?h); case h => first | omega | (simp; done) | (simp; omega)) | (with_reducible refine Below.trans ?_ (hb2.mono ?h); case h => first | omega | (simp; done) | (simp; omega)) | (with_reducible refine Below.trans ?_ (hb.mono ?h); case h => first | omega | (simp; done) | (simp; omega)) | (with_reducible refine Below.trans ?_ (hb0.mono ?h); case h => first | omega | (simp; done) | (simp; omega))))

set_option maxHeartbeats 400000 in
theorem top_any (ah al n : Int) (h1 : Word ah) (h2 : Word al) (hn : n ≤ 9223372036854775807) (w : World) :
    Calls Try.prog 75 #[.agg #[.int .u64 ah, .int .u64 al], .int .i64 n] w fun e w' =>
      e = .returned (.agg #[.int .u64 (hi (andI (wv ah al) (maskI n))), .int .u64 (lo (andI (wv ah al) (maskI n)))]) ∧ Below w.heap.size w w' := by
  rw [← wv_mask n]
  go_enter Try.func75, Try.ntmps75
  go_wp2
  go_region_held3 (fun w' => w'.cell? ⟨w.heap.size, 0, none⟩ = some (.int .u64 ah) ∧ w'.cell? ⟨w.heap.size, 1, none⟩ = some (.int .u64 al)) (first | (simp [go_sem, World.cell?_alloc_past]; done) | ((repeat' apply And.intro) <;> (repeat (first | assumption | (simp only [World.cell?_drew]) | (with_reducible refine (World.cell?_setCell_far _ _ _ _ ?h).trans ?_; case h => first | omega | (simp; done) | (simp; omega)) | (with_reducible refine (hb4.cell ?h).trans ?_; case h => first | omega | (simp; done) | (simp; omega)) | (with_reducible refine (hb3.cell ?h).trans ?_; case h => first | omega | (simp; done) | (simp; omega)) | (with_reducible refine (hb2.cell ?h).trans ?_; case h => first | omega | (simp; done) | (simp; omega)) | (with_reducible refine (hb.cell ?h).trans ?_; case h => first | omega | (simp; done) | (simp; omega)) | (with_reducible refine (hb0.cell ?h).trans ?_; case h => first | omega | (simp; done) | (simp; omega)))) <;> (try (simp [go_sem, World.cell?_alloc_past]))))
    (first
      | (go_at_call 89; refine (mask_any n hn _).mono ?_; rintro e w' ⟨rfl, hb⟩; obtain ⟨q1, q2⟩ := bcell hb; have hz := hb.size; (try simp at hz))
      | (go_at_call 88; refine (and_any _ _ _ _ h1 h2 (word_hi _) (word_lo _) _).mono ?_; rintro e w2 ⟨rfl, hb2x⟩; have hb2 := hb.trans (hb2x.mono hb.size); obtain ⟨q3, q4⟩ := bcell hb2; have hz2 := hb2.size; (try simp at hz2)))
  go_wp2
  refine bodyPost_ret (v := .agg #[.int .u64 (hi (andI (wv ah al) (wv (hi (maskI n)) (lo (maskI n))))), .int .u64 (lo (andI (wv ah al) (wv (hi (maskI n)) (lo (maskI n)))))]) (by simp [results, Try.results75, go_sem, q3, q1]) rfl ⟨rfl, ?_⟩
  exact (by repeat (first | exact Below.refl _ _ | assumption | (with_reducible refine Below.setCell ?_ ?h _; case h => first | omega | (simp; done) | (simp; omega)) | (with_reducible refine Below.alloc ?_ ?h _; case h => first | omega | (simp; done) | (simp; omega)) | (with_reducible refine Below.drew ?_) | (with_reducible refine Below.trans ?_ (hb4.mono ?h); case h => first | omega | (simp; done) | (simp; omega)) | (with_reducible refine Below.trans ?_ (hb3.mono ?h); case h => first | omega | (simp; done) | (simp; omega)) | (with_reducible refine Below.trans ?_ (hb2.mono ?h); case h => first | omega | (simp; done) | (simp; omega)) | (with_reducible refine Below.trans ?_ (hb.mono ?h); case h => first | omega | (simp; done) | (simp; omega)) | (with_reducible refine Below.trans ?_ (hb0.mono ?h); case h => first | omega | (simp; done) | (simp; omega))))

theorem bcell' {B : Nat} {W w1 : World} (hb : Below B W w1) : (∀ b o, b < B → w1.cell? ⟨b, o, none⟩ = W.cell? ⟨b, o, none⟩) ∧ (∀ b o, b < B → w1.frozen? ⟨b, o, none⟩ = W.frozen? ⟨b, o, none⟩) :=
  ⟨fun b o h => hb.cell (p := ⟨b, o, none⟩) h, fun b o h => hb.frozen (p := ⟨b, o, none⟩) h⟩
theorem field_lo (x y : Value) (w : World) : (Instr.field 27 (.agg #[x, y]) 1).run Try.prog w = .ok y w := by kernel_rfl
theorem field_hi (x y : Value) (w : World) : (Instr.field 27 (.agg #[x, y]) 0).run Try.prog w = .ok x w := by kernel_rfl
set_option maxRecDepth 100000 in
set_option maxHeartbeats 400000 in
theorem bit_any (ah al i : Int) (h1 : Word ah) (h2 : Word al) (w : World) :
    Calls Try.prog 91 #[.agg #[.int .u64 ah, .int .u64 al], .int .i64 i] w fun e w' =>
      e = .returned (.bool (bitI (wv ah al) i)) ∧ Below w.heap.size w w' := by
  by_cases c1 : 0 ≤ i ∧ i < 128
  · obtain ⟨c1, c2⟩ := c1
    rw [← bit_pure _ _ c1 c2]
    have hl := word_lo (wv ah al / 2 ^ (127 - i).toNat)
    have e1 := and_one _ hl
    have hf := field_lo
    go_enter Try.func91, Try.ntmps91
    go_wp2_with (go_at_call 96; refine (right_any _ _ _ h1 h2 _).mono ?_; rintro e w' ⟨rfl, hb⟩; obtain ⟨q1, q2⟩ := bcell hb; have hz := hb.size; (try simp at hz))
    go_ret
    exact ⟨rfl, (by repeat (first | exact Below.refl _ _ | assumption | (with_reducible refine Below.setCell ?_ ?h _; case h => first | omega | (simp; done) | (simp; omega)) | (with_reducible refine Below.alloc ?_ ?h _; case h => first | omega | (simp; done) | (simp; omega)) | (with_reducible refine Below.drew ?_) | (with_reducible refine Below.trans ?_ (hb4.mono ?h); case h => first | omega | (simp; done) | (simp; omega)) | (with_reducible refine Below.trans ?_ (hb3.mono ?h); case h => first | omega | (simp; done) | (simp; omega)) | (with_reducible refine Below.trans ?_ (hb2.mono ?h); case h => first | omega | (simp; done) | (simp; omega)) | (with_reducible refine Below.trans ?_ (hb.mono ?h); case h => first | omega | (simp; done) | (simp; omega)) | (with_reducible refine Below.trans ?_ (hb0.mono ?h); case h => first | omega | (simp; done) | (simp; omega))))⟩
  · have e1 : bitI (wv ah al) i = false := by unfold bitI; simp; omega
    rw [e1]; clear e1 h1 h2
    by_cases c2 : i < 0
    · go_enter Try.func91, Try.ntmps91
      go_wp2
      go_ret
      exact ⟨rfl, (by repeat (first | exact Below.refl _ _ | assumption | (with_reducible refine Below.setCell ?_ ?h _; case h => first | omega | (simp; done) | (simp; omega)) | (with_reducible refine Below.alloc ?_ ?h _; case h => first | omega | (simp; done) | (simp; omega)) | (with_reducible refine Below.drew ?_) | (with_reducible refine Below.trans ?_ (hb4.mono ?h); case h => first | omega | (simp; done) | (simp; omega)) | (with_reducible refine Below.trans ?_ (hb3.mono ?h); case h => first | omega | (simp; done) | (simp; omega)) | (with_reducible refine Below.trans ?_ (hb2.mono ?h); case h => first | omega | (simp; done) | (simp; omega)) | (with_reducible refine Below.trans ?_ (hb.mono ?h); case h => first | omega | (simp; done) | (simp; omega)) | (with_reducible refine Below.trans ?_ (hb0.mono ?h); case h => first | omega | (simp; done) | (simp; omega))))⟩
    · have c3 : 128 ≤ i := by omega
      clear c1
      go_enter Try.func91, Try.ntmps91
      go_wp2
      go_ret
      exact ⟨rfl, (by repeat (first | exact Below.refl _ _ | assumption | (with_reducible refine Below.setCell ?_ ?h _; case h => first | omega | (simp; done) | (simp; omega)) | (with_reducible refine Below.alloc ?_ ?h _; case h => first | omega | (simp; done) | (simp; omega)) | (with_reducible refine Below.drew ?_) | (with_reducible refine Below.trans ?_ (hb4.mono ?h); case h => first | omega | (simp; done) | (simp; omega)) | (with_reducible refine Below.trans ?_ (hb3.mono ?h); case h => first | omega | (simp; done) | (simp; omega)) | (with_reducible refine Below.trans ?_ (hb2.mono ?h); case h => first | omega | (simp; done) | (simp; omega)) | (with_reducible refine Below.trans ?_ (hb.mono ?h); case h => first | omega | (simp; done) | (simp; omega)) | (with_reducible refine Below.trans ?_ (hb0.mono ?h); case h => first | omega | (simp; done) | (simp; omega))))⟩
set_option maxRecDepth 100000 in
set_option maxHeartbeats 800000 in
theorem same_any (ah al bh bl : Int) (h1 : Word ah) (h2 : Word al) (h3 : Word bh) (h4 : Word bl) (w : World) :
    Calls Try.prog 78 #[.agg #[.int .u64 ah, .int .u64 al], .agg #[.int .u64 bh, .int .u64 bl]] w fun e w' =>
      e = .returned (.int .i64 (sameI (wv ah al) (wv bh bl))) ∧ Below w.heap.size w w' := by
  go_enter Try.func78, Try.ntmps78
  go_wp2
  go_loopw [6] (fun i w' => ∃ k : Nat, k ≤ 128 ∧ i = .int .i64 k ∧ (∀ j : Nat, j < k → bitI (wv ah al) j = bitI (wv bh bl) j) ∧ Below (w.heap.size + 1 + 1) ((w.alloc (.cells #[.int .u64 ah, .int .u64 al] 27)).alloc (.cells #[.int .u64 bh, .int .u64 bl] 27)) w') (fun i _ => 128 - (intOf i).toNat)
  case atStart => exact ⟨0, by omega, rfl, fun j hj => absurd hj (by omega), Below.refl _ _⟩
  case round =>
    obtain ⟨k, hk, rfl, hs, hb0⟩ := hrel
    have HS := Lib.hid hs; clear hs
    have hz0 := hb0.size; simp at hz0
    obtain ⟨r1, r2⟩ := bcell' hb0
    by_cases hlt : k < 128
    · have hkb : decide ((k : Int) < 128) = true := by simp; omega
      by_cases hd : bitI (wv ah al) k = bitI (wv bh bl) k
      · have hne : (!bitI (wv ah al) k == bitI (wv bh bl) k) = false := by simp [hd]
        have HD := Lib.hid hd; clear hd
        go_wp2
        go_region_held3 (fun w' => w'.cell? ⟨w.heap.size, 0, none⟩ = some (.int .u64 ah) ∧ w'.cell? ⟨w.heap.size, 1, none⟩ = some (.int .u64 al) ∧ w'.cell? ⟨w.heap.size + 1, 0, none⟩ = some (.int .u64 bh) ∧ w'.cell? ⟨w.heap.size + 1, 1, none⟩ = some (.int .u64 bl)) (first | (simp [go_sem, World.cell?_alloc_past]; done) | ((repeat' apply And.intro) <;> (repeat (first | assumption | (simp only [World.cell?_drew]) | (with_reducible refine (World.cell?_setCell_far _ _ _ _ ?h).trans ?_; case h => first | omega | (simp; done) | (simp; omega)) | (with_reducible refine (hb4.cell ?h).trans ?_; case h => first | omega | (simp; done) | (simp; omega)) | (with_reducible refine (hb3.cell ?h).trans ?_; case h => first | omega | (simp; done) | (simp; omega)) | (with_reducible refine (hb2.cell ?h).trans ?_; case h => first | omega | (simp; done) | (simp; omega)) | (with_reducible refine (hb.cell ?h).trans ?_; case h => first | omega | (simp; done) | (simp; omega)) | (with_reducible refine (hb0.cell ?h).trans ?_; case h => first | omega | (simp; done) | (simp; omega)))) <;> (try (simp [go_sem, World.cell?_alloc_past]))))
          (first
            | (go_at_call 91; have _t := hb; refine (bit_any _ _ _ (by first | exact h1 | exact h3) (by first | exact h2 | exact h4) _).mono ?_; rintro e w2 ⟨rfl, hb2x⟩; have hb2 := hb.trans (hb2x.mono hb.size); obtain ⟨q3, q4⟩ := bcell hb2; have hz2 := hb2.size; (try simp at hz2))
            | (go_at_call 91; refine (bit_any _ _ _ (by first | exact h1 | exact h3) (by first | exact h2 | exact h4) _).mono ?_; rintro e w' ⟨rfl, hb⟩; obtain ⟨q1, q2⟩ := bcell hb; have hz := hb.size; (try simp at hz)))
        go_wp2
        refine ⟨⟨k + 1, by omega, by go_num, ?_, (by repeat (first | exact Below.refl _ _ | assumption | (with_reducible refine Below.setCell ?_ ?h _; case h => first | omega | (simp; done) | (simp; omega)) | (with_reducible refine Below.alloc ?_ ?h _; case h => first | omega | (simp; done) | (simp; omega)) | (with_reducible refine Below.drew ?_) | (with_reducible refine Below.trans ?_ (hb4.mono ?h); case h => first | omega | (simp; done) | (simp; omega)) | (with_reducible refine Below.trans ?_ (hb3.mono ?h); case h => first | omega | (simp; done) | (simp; omega)) | (with_reducible refine Below.trans ?_ (hb2.mono ?h); case h => first | omega | (simp; done) | (simp; omega)) | (with_reducible refine Below.trans ?_ (hb.mono ?h); case h => first | omega | (simp; done) | (simp; omega)) | (with_reducible refine Below.trans ?_ (hb0.mono ?h); case h => first | omega | (simp; done) | (simp; omega))))⟩, by simp [intOf]; omega⟩
        intro j hj
        by_cases hjk : j = k
        · rw [hjk]; exact HD.out
        · exact HS.out j (by omega)
      · have hne : (!bitI (wv ah al) k == bitI (wv bh bl) k) = true := by simpa using hd
        have e1 := same_of (wv ah al) (wv bh bl) k (by omega) HS.out (fun _ => hd)
        have HE := Lib.hid e1; clear e1
        have HD := Lib.hid hd; clear hd
        go_wp2
        go_region_held3 (fun w' => w'.cell? ⟨w.heap.size, 0, none⟩ = some (.int .u64 ah) ∧ w'.cell? ⟨w.heap.size, 1, none⟩ = some (.int .u64 al) ∧ w'.cell? ⟨w.heap.size + 1, 0, none⟩ = some (.int .u64 bh) ∧ w'.cell? ⟨w.heap.size + 1, 1, none⟩ = some (.int .u64 bl)) (first | (simp [go_sem, World.cell?_alloc_past]; done) | ((repeat' apply And.intro) <;> (repeat (first | assumption | (simp only [World.cell?_drew]) | (with_reducible refine (World.cell?_setCell_far _ _ _ _ ?h).trans ?_; case h => first | omega | (simp; done) | (simp; omega)) | (with_reducible refine (hb4.cell ?h).trans ?_; case h => first | omega | (simp; done) | (simp; omega)) | (with_reducible refine (hb3.cell ?h).trans ?_; case h => first | omega | (simp; done) | (simp; omega)) | (with_reducible refine (hb2.cell ?h).trans ?_; case h => first | omega | (simp; done) | (simp; omega)) | (with_reducible refine (hb.cell ?h).trans ?_; case h => first | omega | (simp; done) | (simp; omega)) | (with_reducible refine (hb0.cell ?h).trans ?_; case h => first | omega | (simp; done) | (simp; omega)))) <;> (try (simp [go_sem, World.cell?_alloc_past]))))
          (first
            | (go_at_call 91; have _t := hb; refine (bit_any _ _ _ (by first | exact h1 | exact h3) (by first | exact h2 | exact h4) _).mono ?_; rintro e w2 ⟨rfl, hb2x⟩; have hb2 := hb.trans (hb2x.mono hb.size); obtain ⟨q3, q4⟩ := bcell hb2; have hz2 := hb2.size; (try simp at hz2))
            | (go_at_call 91; refine (bit_any _ _ _ (by first | exact h1 | exact h3) (by first | exact h2 | exact h4) _).mono ?_; rintro e w' ⟨rfl, hb⟩; obtain ⟨q1, q2⟩ := bcell hb; have hz := hb.size; (try simp at hz)))
        go_wp2
        go_ret
        exact ⟨ret_int (by rw [HE.out]), (by repeat (first | exact Below.refl _ _ | assumption | (with_reducible refine Below.setCell ?_ ?h _; case h => first | omega | (simp; done) | (simp; omega)) | (with_reducible refine Below.alloc ?_ ?h _; case h => first | omega | (simp; done) | (simp; omega)) | (with_reducible refine Below.drew ?_) | (with_reducible refine Below.trans ?_ (hb4.mono ?h); case h => first | omega | (simp; done) | (simp; omega)) | (with_reducible refine Below.trans ?_ (hb3.mono ?h); case h => first | omega | (simp; done) | (simp; omega)) | (with_reducible refine Below.trans ?_ (hb2.mono ?h); case h => first | omega | (simp; done) | (simp; omega)) | (with_reducible refine Below.trans ?_ (hb.mono ?h); case h => first | omega | (simp; done) | (simp; omega)) | (with_reducible refine Below.trans ?_ (hb0.mono ?h); case h => first | omega | (simp; done) | (simp; omega))))⟩
    · have e1 := same_of (wv ah al) (wv bh bl) k (by omega) HS.out (fun h => absurd h hlt)
      have HE := Lib.hid e1; clear e1
      have hk' : k = 128 := by omega
      subst hk'
      go_wp2
      go_ret
      exact ⟨ret_int (by rw [HE.out]; rfl), (by repeat (first | exact Below.refl _ _ | assumption | (with_reducible refine Below.setCell ?_ ?h _; case h => first | omega | (simp; done) | (simp; omega)) | (with_reducible refine Below.alloc ?_ ?h _; case h => first | omega | (simp; done) | (simp; omega)) | (with_reducible refine Below.drew ?_) | (with_reducible refine Below.trans ?_ (hb4.mono ?h); case h => first | omega | (simp; done) | (simp; omega)) | (with_reducible refine Below.trans ?_ (hb3.mono ?h); case h => first | omega | (simp; done) | (simp; omega)) | (with_reducible refine Below.trans ?_ (hb2.mono ?h); case h => first | omega | (simp; done) | (simp; omega)) | (with_reducible refine Below.trans ?_ (hb.mono ?h); case h => first | omega | (simp; done) | (simp; omega)) | (with_reducible refine Below.trans ?_ (hb0.mono ?h); case h => first | omega | (simp; done) | (simp; omega))))⟩
theorem top_h (A n : Int) (hn : n ≤ 9223372036854775807) (w : World) :
    Calls Try.prog 75 #[.agg #[.int .u64 (hi A), .int .u64 (lo A)], .int .i64 n] w fun e w' =>
      e = .returned (.agg #[.int .u64 (hi (andI (A % MM) (maskI n))), .int .u64 (lo (andI (A % MM) (maskI n)))]) ∧ Below w.heap.size w w' := by
  have h := top_any (hi A) (lo A) n (word_hi _) (word_lo _) hn w
  rw [wv_hi_lo] at h
  exact h
theorem same_h (A B : Int) (w : World) :
    Calls Try.prog 78 #[.agg #[.int .u64 (hi A), .int .u64 (lo A)], .agg #[.int .u64 (hi B), .int .u64 (lo B)]] w fun e w' =>
      e = .returned (.int .i64 (sameI (A % MM) (B % MM))) ∧ Below w.heap.size w w' := by
  have h := same_any (hi A) (lo A) (hi B) (lo B) (word_hi _) (word_lo _) (word_hi _) (word_lo _) w
  rw [wv_hi_lo, wv_hi_lo] at h
  exact h
theorem bit_h (A i : Int) (w : World) :
    Calls Try.prog 91 #[.agg #[.int .u64 (hi A), .int .u64 (lo A)], .int .i64 i] w fun e w' =>
      e = .returned (.bool (bitI (A % MM) i)) ∧ Below w.heap.size w w' := by
  have h := bit_any (hi A) (lo A) i (word_hi _) (word_lo _) w
  rw [wv_hi_lo] at h
  exact h
end Go.Proofs.Ytekoicbjpoeijaa
