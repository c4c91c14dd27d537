/- The reference's Left and Right. No conditions. -/
import Derived.Test.YtbofnfccejjolaaRefMul
namespace Go.Proofs.Ytbofnfccejjolaa
set_option linter.unusedVariables false
set_option linter.unusedSimpArgs false
open Go.RowKit
theorem bitF_left (A : Int) (N j : Nat) (hj : j < 128) : bitF (A * 2 ^ N) j = if j + N < 128 then bitF A (j + N) else 0 := by
  unfold bitF
  by_cases h : j + N < 128
  · rw [if_pos h]
    have e : (2 : Int) ^ (127 - j) = 2 ^ N * 2 ^ (127 - (j + N)) := by rw [← Int.pow_add]; congr 1; omega
    rw [e, Int.mul_comm A, Int.mul_ediv_mul_of_pos _ _ (Int.pow_pos (by decide))]
  · rw [if_neg h]
    have e : (2 : Int) ^ N = 2 ^ (127 - j) * (2 * 2 ^ (N - (127 - j) - 1)) := by rw [Int.mul_left_comm, ← Int.pow_add, Int.mul_comm, ← Int.pow_succ]; congr 1; omega
    rw [e, Int.mul_left_comm, Int.mul_ediv_cancel_left _ (Int.ne_of_gt (Int.pow_pos (by decide))), Int.mul_left_comm, Int.mul_emod_right]
theorem bitF_right (A : Int) (N j : Nat) (hj : j < 128) (h0 : 0 ≤ A) (h1 : A < MM) : bitF (A / 2 ^ N) j = if N ≤ j then bitF A (j - N) else 0 := by
  unfold bitF
  rw [Int.ediv_ediv_of_nonneg (Int.pow_nonneg (by decide)), ← Int.pow_add]
  by_cases h : N ≤ j
  · rw [if_pos h]; congr 3; omega
  · rw [if_neg h, Int.ediv_eq_zero_of_lt h0 (Int.lt_of_lt_of_le h1 ?_)]
    · rfl
    · have := Nat.pow_le_pow_right (n := 2) (by decide) (show 128 ≤ N + (127 - j) by omega)
      rw [show MM = ((2 ^ 128 : Nat) : Int) by rfl]
      have h4 := Int.ofNat_le.2 this
      rwa [Int.natCast_pow] at h4
/-- the first k bits of a number, zeros behind -/
def headK (f : Nat → Int) (k : Nat) : Nat → Int := fun j => if j < k then f j else 0
theorem headK_zero (f : Nat → Int) : Try.zeroCells85 = arrV (headK f 0) := by
  rw [outK_zero 0]
  unfold outK
  apply arrV_congr
  intro j hj
  unfold headK
  rw [if_neg (by omega), if_neg (by omega)]
theorem headK_step (f : Nat → Int) (k : Nat) (hk : k < 128) : (arrV (headK f k)).setIfInBounds k (.int .u64 (f k)) = arrV (headK f (k + 1)) := by
  rw [arrV_set _ _ _ hk]
  apply arrV_congr
  intro j hj
  unfold headK
  by_cases h : j = k
  · rw [if_pos h, if_pos (by omega), h]
  · rw [if_neg h]
    by_cases h2 : j < k
    · rw [if_pos h2, if_pos (by omega)]
    · rw [if_neg h2, if_neg (by omega)]
theorem headK_skip (f : Nat → Int) (k : Nat) (h : f k = 0) : arrV (headK f k) = arrV (headK f (k + 1)) := by
  apply arrV_congr
  intro j hj
  unfold headK
  by_cases h2 : j < k
  · rw [if_pos h2, if_pos (by omega)]
  · rw [if_neg h2]
    by_cases h3 : j = k
    · rw [if_pos (by omega), h3, h]
    · rw [if_neg (by omega)]
theorem headK_all (f : Nat → Int) (n : Int) (h : ∀ j, j < 128 → f j = bitF n j) : arrV (headK f 128) = arrV (bitF n) := by
  apply arrV_congr
  intro j hj
  unfold headK
  rw [if_pos hj, h j hj]
set_option maxRecDepth 100000 in
set_option maxHeartbeats 3200000 in
theorem refLeft_t (A n : Int) (n0 : -9223372036854775808 ≤ n) (n1 : n ≤ 9223372036854775807) (w : World) :
    Calls Try.prog 24 #[.agg #[.int .u64 (hi A), .int .u64 (lo A)], .int .i64 n] w fun e w' =>
      e = .returned (.agg #[.int .u64 (hi (A * 2 ^ n.toNat)), .int .u64 (lo (A * 2 ^ n.toNat))]) ∧ Below w.heap.size w w' := by
  go_enter Try.func24, Try.ntmps24
  have RR : Row ((w.alloc (.cells #[.int .u64 (hi A), .int .u64 (lo A)] 27)).alloc (.cells #[.int .u64 0, .int .u64 0] 27)) (w.heap.size + 1) #[.int .u64 0, .int .u64 0] 27 := by simpa using Row.new (w.alloc (.cells #[.int .u64 (hi A), .int .u64 (lo A)] 27)) #[.int .u64 0, .int .u64 0] 27
  go_wp2_with fail
  refine (bits_h A _).mono ?_
  rintro e w1 ⟨rfl, hx1⟩
  have hb1 : Below w.heap.size w w1 := below_step (by repeat (first | exact Below.refl _ _ | assumption | (with_reducible refine Below.setCell ?_ ?h _; case h => first | omega | (simp; done) | (simp; omega)) | (with_reducible refine Below.alloc ?_ ?h _; case h => first | omega | (simp; done) | (simp; omega)) | (with_reducible refine Below.drew ?_) | (with_reducible refine Below.trans ?_ (hb4.mono ?h); case h => first | omega | (simp; done) | (simp; omega)) | (with_reducible refine Below.trans ?_ (hb3.mono ?h); case h => first | omega | (simp; done) | (simp; omega)) | (with_reducible refine Below.trans ?_ (hb2.mono ?h); case h => first | omega | (simp; done) | (simp; omega)) | (with_reducible refine Below.trans ?_ (hb.mono ?h); case h => first | omega | (simp; done) | (simp; omega)) | (with_reducible refine Below.trans ?_ (hb0.mono ?h); case h => first | omega | (simp; done) | (simp; omega)))) hx1
  replace RR := RR.later hx1
  have Rx := Row.new w1 Try.zeroCells85 85
  have hth := Rx.there (bitsA (A % MM)).size (by rw [bitsA_size, zeroA_size]; exact Nat.le_refl _)
  have hinf := bitsA_info (A % MM)
  have hone := bitsA_one (A % MM)
  have tok : True := trivial
  go_wp2_with (have _t := tok; refine wpList_store_mid rfl 85 (.tmp 5) (.tmp 9) rfl w1.heap.size 0 (bitsA (A % MM)) rfl rfl hth hinf hone ?_; clear tok hth hinf hone)
  have nrx : w.heap.size + 1 ≠ w1.heap.size := Nat.ne_of_lt RR.lt
  have hgx : w.heap.size ≤ w1.heap.size := hb1.size
  replace RR := Row.setCells_far (g := w1.heap.size) (o := 0) (vs := (bitsA (A % MM)).toList) (RR.alloc (.cells Try.zeroCells85 85)) nrx
  replace Rx := Rx.setAll (bitsA (A % MM)) (by rw [bitsA_size, zeroA_size])
  replace hb1 := below_setCells hgx (bitsA (A % MM)).toList 0 _ (hb1.alloc hgx (.cells Try.zeroCells85 85))
  clear hx1
  generalize (w1.alloc (.cells Try.zeroCells85 85)).setCells w1.heap.size 0 (bitsA (A % MM)).toList = w2 at *
  generalize w1.heap.size = gx at *
  have nxo : gx ≠ w2.heap.size := Nat.ne_of_lt Rx.lt
  have nro : w.heap.size + 1 ≠ w2.heap.size := Nat.ne_of_lt RR.lt
  have hgo : w.heap.size ≤ w2.heap.size := hb1.size
  have Ro := Row.new w2 Try.zeroCells85 85
  replace Rx := Rx.alloc (.cells Try.zeroCells85 85)
  replace RR := RR.alloc (.cells Try.zeroCells85 85)
  replace hb1 := hb1.alloc hgo (.cells Try.zeroCells85 85)
  generalize w2.alloc (.cells Try.zeroCells85 85) = wd at *
  generalize w2.heap.size = go at *
  have hf : ∃ f : Nat → Int, f = fun j => if j + n.toNat < 128 then bitF (A % MM) (j + n.toNat) else 0 := ⟨_, rfl⟩
  obtain ⟨f, hf⟩ := hf
  have HF := Lib.hid hf; clear hf
  rw [headK_zero f] at Ro
  go_loopw [7] (fun i wr => ∃ k : Nat, k ≤ 128 ∧ i = .int .i64 k ∧ Row wr gx (bitsA (A % MM)) 85 ∧ Row wr go (arrV (headK f k)) 85 ∧ Row wr (w.heap.size + 1) #[.int .u64 0, .int .u64 0] 27 ∧ Below w.heap.size w wr) (fun i _ => 128 - (intOf i).toNat)
  case atStart => exact ⟨0, by omega, rfl, Rx, Ro, RR, hb1⟩
  case round =>
    clear Rx Ro RR hb1
    obtain ⟨k, hk, rfl, Rx, Ro, RR, hb1⟩ := hrel
    by_cases hlt : k < 128
    · have hkb : decide ((k : Int) < 128) = true := by simp; omega
      have co := (Ro.cell k).trans (arrV_get _ k hlt)
      have fo := Ro.frozen k
      generalize headK f k k = vo at co
      have b3 : (k : Int) < 128 := by omega
      have b4 : (0 : Int) ≤ (k : Int) := by omega
      by_cases c1 : n < 1
      · have cx := (Rx.cell k).trans (bitsA_get _ k hlt)
        have hfk : f k = bitF (A % MM) k := by rw [HF.out]; simp only [show n.toNat = 0 by omega]; rw [if_pos (by omega)]; rfl
        have HK := Lib.hid hfk; clear hfk
        go_wp2
        refine ⟨⟨k + 1, by omega, by go_num, Rx.set_far _ _ nxo, ?_, RR.set_far _ _ nro, hb1.setCell hgo _⟩, by simp [intOf]; omega⟩
        have := Ro.set k (.int .u64 (f k))
        rw [headK_step f k hlt, HK.out] at this
        exact this
      · by_cases c2 : n < 128 ∧ (k : Int) + n < 128
        · obtain ⟨c2, c3⟩ := c2
          have ix : ((k : Int) + n).toNat = k + n.toNat := by omega
          have cx := (Rx.cell (k + n.toNat)).trans (bitsA_get _ (k + n.toNat) (by omega))
          have b5 : (0 : Int) ≤ (k : Int) + n := by omega
          have hfk : f k = bitF (A % MM) (k + n.toNat) := by rw [HF.out]; simp only []; rw [if_pos (by omega)]
          have HK := Lib.hid hfk; clear hfk
          go_wp2
          refine ⟨⟨k + 1, by omega, by go_num, Rx.set_far _ _ nxo, ?_, RR.set_far _ _ nro, hb1.setCell hgo _⟩, by simp [intOf]; omega⟩
          have := Ro.set k (.int .u64 (f k))
          rw [headK_step f k hlt, HK.out] at this
          exact this
        · by_cases c3 : n < 128
          · have c4 : ¬ ((k : Int) + n < 128) := fun h => c2 ⟨c3, h⟩
            clear c2
            have hfk : f k = 0 := by rw [HF.out]; simp only []; rw [if_neg (by omega)]
            have hsk := headK_skip f k hfk
            rw [hsk] at Ro
            clear hsk hfk co
            go_wp2
            exact ⟨⟨k + 1, by omega, by go_num, Rx, Ro, RR, hb1⟩, by simp [intOf]; omega⟩
          · clear c2
            have hfk : f k = 0 := by rw [HF.out]; simp only []; rw [if_neg (by omega)]
            have hsk := headK_skip f k hfk
            rw [hsk] at Ro
            clear hsk hfk co
            go_wp2
            exact ⟨⟨k + 1, by omega, by go_num, Rx, Ro, RR, hb1⟩, by simp [intOf]; omega⟩
    · obtain rfl : k = 128 := by omega
      have hall := headK_all f (A % MM * 2 ^ n.toNat) (fun j hj => by rw [HF.out]; exact (bitF_left (A % MM) n.toNat j hj).symm)
      rw [hall] at Ro
      clear hall
      have hinf : (Try.prog.info? 85).map (·.size) = some (arrV (bitF (A % MM * 2 ^ n.toNat))).size := by rw [arrV_size]; kernel_rfl
      have tok : True := trivial
      go_wp2_with (have _t := tok; refine wpList_load_row rfl 85 (.tmp 6) rfl go rfl 85 (arrV (bitF (A % MM * 2 ^ n.toNat))) (0, 0) _ Ro Try.underlying85 rfl hinf ?_; clear tok)
      refine (refOf_h _ _).mono ?_; rintro e w2 ⟨rfl, hb⟩
      replace RR := RR.later hb
      have d0 := RR.cell 0
      have d1 := RR.cell 1
      simp at d0 d1
      have f0 := RR.frozen 0
      have f1 := RR.frozen 1
      go_wp2
      refine bodyPost_ret (v := .agg #[.int .u64 (hi (A * 2 ^ n.toNat)), .int .u64 (lo (A * 2 ^ n.toNat))]) (by simp [results, Try.results24, go_sem, d0, d1, hi_mulmod, lo_mulmod]) rfl ⟨rfl, ?_⟩
      exact Below.setCell (Below.setCell (below_step hb1 hb) (by simp <;> omega) _) (by simp <;> omega) _
set_option maxRecDepth 100000 in
set_option maxHeartbeats 3200000 in
theorem refRight_t (A n : Int) (n0 : -9223372036854775808 ≤ n) (n1 : n ≤ 9223372036854775807) (w : World) :
    Calls Try.prog 26 #[.agg #[.int .u64 (hi A), .int .u64 (lo A)], .int .i64 n] w fun e w' =>
      e = .returned (.agg #[.int .u64 (hi (A % MM / 2 ^ n.toNat)), .int .u64 (lo (A % MM / 2 ^ n.toNat))]) ∧ Below w.heap.size w w' := by
  go_enter Try.func26, Try.ntmps26
  have RR : Row ((w.alloc (.cells #[.int .u64 (hi A), .int .u64 (lo A)] 27)).alloc (.cells #[.int .u64 0, .int .u64 0] 27)) (w.heap.size + 1) #[.int .u64 0, .int .u64 0] 27 := by simpa using Row.new (w.alloc (.cells #[.int .u64 (hi A), .int .u64 (lo A)] 27)) #[.int .u64 0, .int .u64 0] 27
  go_wp2_with fail
  refine (bits_h A _).mono ?_
  rintro e w1 ⟨rfl, hx1⟩
  have hb1 : Below w.heap.size w w1 := below_step (by repeat (first | exact Below.refl _ _ | assumption | (with_reducible refine Below.setCell ?_ ?h _; case h => first | omega | (simp; done) | (simp; omega)) | (with_reducible refine Below.alloc ?_ ?h _; case h => first | omega | (simp; done) | (simp; omega)) | (with_reducible refine Below.drew ?_) | (with_reducible refine Below.trans ?_ (hb4.mono ?h); case h => first | omega | (simp; done) | (simp; omega)) | (with_reducible refine Below.trans ?_ (hb3.mono ?h); case h => first | omega | (simp; done) | (simp; omega)) | (with_reducible refine Below.trans ?_ (hb2.mono ?h); case h => first | omega | (simp; done) | (simp; omega)) | (with_reducible refine Below.trans ?_ (hb.mono ?h); case h => first | omega | (simp; done) | (simp; omega)) | (with_reducible refine Below.trans ?_ (hb0.mono ?h); case h => first | omega | (simp; done) | (simp; omega)))) hx1
  replace RR := RR.later hx1
  have Rx := Row.new w1 Try.zeroCells85 85
  have hth := Rx.there (bitsA (A % MM)).size (by rw [bitsA_size, zeroA_size]; exact Nat.le_refl _)
  have hinf := bitsA_info (A % MM)
  have hone := bitsA_one (A % MM)
  have tok : True := trivial
  go_wp2_with (have _t := tok; refine wpList_store_mid rfl 85 (.tmp 5) (.tmp 9) rfl w1.heap.size 0 (bitsA (A % MM)) rfl rfl hth hinf hone ?_; clear tok hth hinf hone)
  have nrx : w.heap.size + 1 ≠ w1.heap.size := Nat.ne_of_lt RR.lt
  have hgx : w.heap.size ≤ w1.heap.size := hb1.size
  replace RR := Row.setCells_far (g := w1.heap.size) (o := 0) (vs := (bitsA (A % MM)).toList) (RR.alloc (.cells Try.zeroCells85 85)) nrx
  replace Rx := Rx.setAll (bitsA (A % MM)) (by rw [bitsA_size, zeroA_size])
  replace hb1 := below_setCells hgx (bitsA (A % MM)).toList 0 _ (hb1.alloc hgx (.cells Try.zeroCells85 85))
  clear hx1
  generalize (w1.alloc (.cells Try.zeroCells85 85)).setCells w1.heap.size 0 (bitsA (A % MM)).toList = w2 at *
  generalize w1.heap.size = gx at *
  have nxo : gx ≠ w2.heap.size := Nat.ne_of_lt Rx.lt
  have nro : w.heap.size + 1 ≠ w2.heap.size := Nat.ne_of_lt RR.lt
  have hgo : w.heap.size ≤ w2.heap.size := hb1.size
  have Ro := Row.new w2 Try.zeroCells85 85
  replace Rx := Rx.alloc (.cells Try.zeroCells85 85)
  replace RR := RR.alloc (.cells Try.zeroCells85 85)
  replace hb1 := hb1.alloc hgo (.cells Try.zeroCells85 85)
  generalize w2.alloc (.cells Try.zeroCells85 85) = wd at *
  generalize w2.heap.size = go at *
  have hf : ∃ f : Nat → Int, f = fun j => if n.toNat ≤ j then bitF (A % MM) (j - n.toNat) else 0 := ⟨_, rfl⟩
  obtain ⟨f, hf⟩ := hf
  have HF := Lib.hid hf; clear hf
  rw [headK_zero f] at Ro
  go_loopw [7] (fun i wr => ∃ k : Nat, k ≤ 128 ∧ i = .int .i64 k ∧ Row wr gx (bitsA (A % MM)) 85 ∧ Row wr go (arrV (headK f k)) 85 ∧ Row wr (w.heap.size + 1) #[.int .u64 0, .int .u64 0] 27 ∧ Below w.heap.size w wr) (fun i _ => 128 - (intOf i).toNat)
  case atStart => exact ⟨0, by omega, rfl, Rx, Ro, RR, hb1⟩
  case round =>
    clear Rx Ro RR hb1
    obtain ⟨k, hk, rfl, Rx, Ro, RR, hb1⟩ := hrel
    by_cases hlt : k < 128
    · have hkb : decide ((k : Int) < 128) = true := by simp; omega
      have co := (Ro.cell k).trans (arrV_get _ k hlt)
      have fo := Ro.frozen k
      generalize headK f k k = vo at co
      have b3 : (k : Int) < 128 := by omega
      have b4 : (0 : Int) ≤ (k : Int) := by omega
      by_cases c1 : n < 1
      · have cx := (Rx.cell k).trans (bitsA_get _ k hlt)
        have hfk : f k = bitF (A % MM) k := by rw [HF.out]; simp only [show n.toNat = 0 by omega]; rw [if_pos (by omega)]; rfl
        have HK := Lib.hid hfk; clear hfk
        go_wp2
        refine ⟨⟨k + 1, by omega, by go_num, Rx.set_far _ _ nxo, ?_, RR.set_far _ _ nro, hb1.setCell hgo _⟩, by simp [intOf]; omega⟩
        have := Ro.set k (.int .u64 (f k))
        rw [headK_step f k hlt, HK.out] at this
        exact this
      · by_cases c2 : n ≤ (k : Int)
        · have ix : ((k : Int) - n).toNat = k - n.toNat := by omega
          have cx := (Rx.cell (k - n.toNat)).trans (bitsA_get _ (k - n.toNat) (by omega))
          have b5 : (0 : Int) ≤ (k : Int) - n := by omega
          have b6 : (k : Int) - n < 128 := by omega
          have hfk : f k = bitF (A % MM) (k - n.toNat) := by rw [HF.out]; simp only []; rw [if_pos (by omega)]
          have HK := Lib.hid hfk; clear hfk
          go_wp2
          refine ⟨⟨k + 1, by omega, by go_num, Rx.set_far _ _ nxo, ?_, RR.set_far _ _ nro, hb1.setCell hgo _⟩, by simp [intOf]; omega⟩
          have := Ro.set k (.int .u64 (f k))
          rw [headK_step f k hlt, HK.out] at this
          exact this
        · have hfk : f k = 0 := by rw [HF.out]; simp only []; rw [if_neg (by omega)]
          have hsk := headK_skip f k hfk
          rw [hsk] at Ro
          clear hsk hfk co
          go_wp2
          exact ⟨⟨k + 1, by omega, by go_num, Rx, Ro, RR, hb1⟩, by simp [intOf]; omega⟩
    · obtain rfl : k = 128 := by omega
      have hall := headK_all f (A % MM / 2 ^ n.toNat) (fun j hj => by rw [HF.out]; exact (bitF_right (A % MM) n.toNat j hj (Int.emod_nonneg _ (by decide)) (Int.emod_lt_of_pos _ (by decide))).symm)
      rw [hall] at Ro
      clear hall
      have hinf : (Try.prog.info? 85).map (·.size) = some (arrV (bitF (A % MM / 2 ^ n.toNat))).size := by rw [arrV_size]; kernel_rfl
      have tok : True := trivial
      go_wp2_with (have _t := tok; refine wpList_load_row rfl 85 (.tmp 6) rfl go rfl 85 (arrV (bitF (A % MM / 2 ^ n.toNat))) (0, 0) _ Ro Try.underlying85 rfl hinf ?_; clear tok)
      refine (refOf_h _ _).mono ?_; rintro e w2 ⟨rfl, hb⟩
      replace RR := RR.later hb
      have d0 := RR.cell 0
      have d1 := RR.cell 1
      simp at d0 d1
      have f0 := RR.frozen 0
      have f1 := RR.frozen 1
      go_wp2
      refine bodyPost_ret (v := .agg #[.int .u64 (hi (A % MM / 2 ^ n.toNat)), .int .u64 (lo (A % MM / 2 ^ n.toNat))]) (by simp [results, Try.results26, go_sem, d0, d1]) rfl ⟨rfl, ?_⟩
      exact Below.setCell (Below.setCell (below_step hb1 hb) (by simp <;> omega) _) (by simp <;> omega) _
end Go.Proofs.Ytbofnfccejjolaa
