/- The reference's Mask, Bit and Same. No conditions. -/
import Derived.Test.YtbofnfccejjolaaRefBoth
namespace Go.Proofs.Ytbofnfccejjolaa
set_option linter.unusedVariables false
set_option linter.unusedSimpArgs false
open Go.RowKit
theorem bitF_mask (n : Int) (j : Nat) (hj : j < 128) : bitF (maskI n) j = if j < min n.toNat 128 then 1 else 0 := by
  have h := mask_nat n
  have h0 := (mask_range n).1
  have e : maskI n = ((2 ^ 128 - (2 ^ (128 - min n.toNat 128) - 1 + 1) : Nat) : Int) := by rw [← h]; omega
  rw [e, bitF_nat _ j hj]
  have h1 : 2 ^ (128 - min n.toNat 128) - 1 < 2 ^ 128 := by
    have := Nat.two_pow_pos (128 - min n.toNat 128)
    have : 2 ^ (128 - min n.toNat 128) ≤ 2 ^ 128 := Nat.pow_le_pow_right (by decide) (by omega)
    omega
  rw [Nat.testBit_two_pow_sub_succ h1, Nat.testBit_two_pow_sub_one]
  by_cases c : j < min n.toNat 128
  · rw [if_pos c]
    have : ¬ (127 - j < 128 - min n.toNat 128) := by omega
    have h2 : 127 - j < 128 := by omega
    simp [this, h2]
  · rw [if_neg c]
    have : 127 - j < 128 - min n.toNat 128 := by omega
    simp [this]
theorem ones_mask (n : Int) (k : Nat) (hk : k = min n.toNat 128) : arrV (headK (fun _ => 1) k) = arrV (bitF (maskI n)) := by
  apply arrV_congr; intro j hj
  rw [bitF_mask n j hj, ← hk]; rfl
set_option maxRecDepth 100000 in
set_option maxHeartbeats 3200000 in
theorem refMask_t (n : Int) (n0 : -9223372036854775808 ≤ n) (n1 : n ≤ 9223372036854775807) (w : World) :
    Calls Try.prog 31 #[.int .i64 n] w fun e w' =>
      e = .returned (.agg #[.int .u64 (hi (maskI n)), .int .u64 (lo (maskI n))]) ∧ Below w.heap.size w w' := by
  go_enter Try.func31, Try.ntmps31
  go_wp2
  have RR : Row ((w.alloc (.cells #[.int .u64 0, .int .u64 0] 27)).alloc (.cells Try.zeroCells85 85)) w.heap.size #[.int .u64 0, .int .u64 0] 27 := (Row.new w _ _).alloc _
  have Ro : Row ((w.alloc (.cells #[.int .u64 0, .int .u64 0] 27)).alloc (.cells Try.zeroCells85 85)) (w.heap.size + 1) Try.zeroCells85 85 := by simpa using Row.new (w.alloc (.cells #[.int .u64 0, .int .u64 0] 27)) Try.zeroCells85 85
  have hb1 : Below w.heap.size w ((w.alloc (.cells #[.int .u64 0, .int .u64 0] 27)).alloc (.cells Try.zeroCells85 85)) := (by repeat (first | exact Below.refl _ _ | assumption | (with_reducible refine Below.setCell ?_ ?h _; case h => first | omega | (simp; done) | (simp; omega)) | (with_reducible refine Below.alloc ?_ ?h _; case h => first | omega | (simp; done) | (simp; omega)) | (with_reducible refine Below.drew ?_) | (with_reducible refine Below.trans ?_ (hb4.mono ?h); case h => first | omega | (simp; done) | (simp; omega)) | (with_reducible refine Below.trans ?_ (hb3.mono ?h); case h => first | omega | (simp; done) | (simp; omega)) | (with_reducible refine Below.trans ?_ (hb2.mono ?h); case h => first | omega | (simp; done) | (simp; omega)) | (with_reducible refine Below.trans ?_ (hb.mono ?h); case h => first | omega | (simp; done) | (simp; omega)) | (with_reducible refine Below.trans ?_ (hb0.mono ?h); case h => first | omega | (simp; done) | (simp; omega))))
  generalize ((w.alloc (.cells #[.int .u64 0, .int .u64 0] 27)).alloc (.cells Try.zeroCells85 85)) = wd at *
  rw [headK_zero (fun _ => 1)] at Ro
  go_loopw [4] (fun i wr => ∃ k : Nat, k ≤ 128 ∧ k ≤ n.toNat ∧ i = .int .i64 k ∧ Row wr (w.heap.size + 1) (arrV (headK (fun _ => 1) k)) 85 ∧ Row wr w.heap.size #[.int .u64 0, .int .u64 0] 27 ∧ Below w.heap.size w wr) (fun i _ => 128 - (intOf i).toNat)
  case atStart => exact ⟨0, by omega, by omega, rfl, Ro, RR, hb1⟩
  case round =>
    clear Ro RR hb1
    obtain ⟨k, hk, hkn, rfl, Ro, RR, hb1⟩ := hrel
    by_cases hlt : k < 128 ∧ (k : Int) < n
    · obtain ⟨hlt, hln⟩ := hlt
      have hkb : decide ((k : Int) < 128) = true := by simp; omega
      have hkc : decide ((k : Int) < n) = true := by simp; omega
      have co := (Ro.cell k).trans (arrV_get _ k hlt)
      have fo := Ro.frozen k
      generalize headK (fun _ => 1) k k = vo at co
      have b3 : (k : Int) < 128 := by omega
      have b4 : (0 : Int) ≤ (k : Int) := by omega
      go_wp2
      refine ⟨⟨k + 1, by omega, by omega, by go_num, ?_, RR.set_far _ _ (by simp), hb1.setCell (by simp) _⟩, by simp [intOf]; omega⟩
      have := Ro.set k (.int .u64 1)
      rw [headK_step (fun _ => 1) k hlt] at this
      exact this
    · have hkm : k = min n.toNat 128 := by omega
      rw [ones_mask n k hkm] at Ro
      have hinf : (Try.prog.info? 85).map (·.size) = some (arrV (bitF (maskI n))).size := by rw [arrV_size]; kernel_rfl
      have HK := Lib.hid hkm; clear hkm
      by_cases c1 : k < 128
      · have hkb : decide ((k : Int) < 128) = true := by simp; omega
        have hkc : decide ((k : Int) < n) = false := by simp; omega
        clear hlt
        have tok : True := trivial
        go_wp2_with (have _t := tok; refine wpList_load_row rfl 85 (.tmp 3) rfl (w.heap.size + 1) rfl 85 (arrV (bitF (maskI n))) (0, 0) _ Ro Try.underlying85 rfl hinf ?_; clear tok)
        refine (refOf_h _ _).mono ?_; rintro e w2 ⟨rfl, hb⟩
        replace RR := RR.later hb
        have d0 := RR.cell 0
        have d1 := RR.cell 1
        simp at d0 d1
        have f0 := RR.frozen 0
        have f1 := RR.frozen 1
        go_wp2
        refine bodyPost_ret (v := .agg #[.int .u64 (hi (maskI n)), .int .u64 (lo (maskI n))]) (by simp [results, Try.results31, go_sem, d0, d1]) rfl ⟨rfl, ?_⟩
        exact Below.setCell (Below.setCell (below_step hb1 hb) (by simp) _) (by simp) _
      · have hkb : decide ((k : Int) < 128) = false := by simp; omega
        clear hlt
        have tok : True := trivial
        go_wp2_with (have _t := tok; refine wpList_load_row rfl 85 (.tmp 3) rfl (w.heap.size + 1) rfl 85 (arrV (bitF (maskI n))) (0, 0) _ Ro Try.underlying85 rfl hinf ?_; clear tok)
        refine (refOf_h _ _).mono ?_; rintro e w2 ⟨rfl, hb⟩
        replace RR := RR.later hb
        have d0 := RR.cell 0
        have d1 := RR.cell 1
        simp at d0 d1
        have f0 := RR.frozen 0
        have f1 := RR.frozen 1
        go_wp2
        refine bodyPost_ret (v := .agg #[.int .u64 (hi (maskI n)), .int .u64 (lo (maskI n))]) (by simp [results, Try.results31, go_sem, d0, d1]) rfl ⟨rfl, ?_⟩
        exact Below.setCell (Below.setCell (below_step hb1 hb) (by simp) _) (by simp) _
theorem bitF_is (a : Int) (i : Nat) (hi : i < 128) : (bitF a i == 1) = bitI a i := by
  rw [bit_def a i hi]; unfold bitF; rw [Bool.eq_iff_iff]; simp
set_option maxRecDepth 100000 in
set_option maxHeartbeats 3200000 in
theorem refBit_t (A i : Int) (w : World) :
    Calls Try.prog 34 #[.agg #[.int .u64 (hi A), .int .u64 (lo A)], .int .i64 i] w fun e w' =>
      e = .returned (.bool (bitI (A % MM) i)) ∧ Below w.heap.size w w' := by
  go_enter Try.func34, Try.ntmps34
  go_wp2_with fail
  refine (bits_h A _).mono ?_
  rintro e w1 ⟨rfl, hx1⟩
  have hb1 : Below w.heap.size w w1 := below_step (by repeat (first | exact Below.refl _ _ | assumption | (with_reducible refine Below.setCell ?_ ?h _; case h => first | omega | (simp; done) | (simp; omega)) | (with_reducible refine Below.alloc ?_ ?h _; case h => first | omega | (simp; done) | (simp; omega)) | (with_reducible refine Below.drew ?_) | (with_reducible refine Below.trans ?_ (hb4.mono ?h); case h => first | omega | (simp; done) | (simp; omega)) | (with_reducible refine Below.trans ?_ (hb3.mono ?h); case h => first | omega | (simp; done) | (simp; omega)) | (with_reducible refine Below.trans ?_ (hb2.mono ?h); case h => first | omega | (simp; done) | (simp; omega)) | (with_reducible refine Below.trans ?_ (hb.mono ?h); case h => first | omega | (simp; done) | (simp; omega)) | (with_reducible refine Below.trans ?_ (hb0.mono ?h); case h => first | omega | (simp; done) | (simp; omega)))) hx1
  have Rx := Row.new w1 Try.zeroCells85 85
  have hth := Rx.there (bitsA (A % MM)).size (by rw [bitsA_size, zeroA_size]; exact Nat.le_refl _)
  have hinf := bitsA_info (A % MM)
  have hone := bitsA_one (A % MM)
  have hgx : w.heap.size ≤ w1.heap.size := hb1.size
  have hb2 := below_setCells hgx (bitsA (A % MM)).toList 0 _ (hb1.alloc hgx (.cells Try.zeroCells85 85))
  have Ry := Rx.setAll (bitsA (A % MM)) (by rw [bitsA_size, zeroA_size])
  have tok : True := trivial
  by_cases c1 : 0 ≤ i ∧ i < 128
  · obtain ⟨c1, c2⟩ := c1
    obtain ⟨m, rfl⟩ := Int.eq_ofNat_of_zero_le c1
    have cx := (Ry.cell m).trans (bitsA_get _ m (by omega))
    have hbi := bitF_is (A % MM) m (by omega)
    clear Rx hx1
    go_wp2_with (have _t := tok; refine wpList_store_mid rfl 85 (.tmp 5) (.tmp 7) rfl w1.heap.size 0 (bitsA (A % MM)) rfl rfl hth hinf hone ?_; clear tok hth hinf hone)
    go_ret
    exact ⟨by simp, hb2⟩
  · have e1 : bitI (A % MM) i = false := by unfold bitI; simp; omega
    have HE := Lib.hid e1; clear e1
    clear Rx Ry hx1
    by_cases c2 : i < 0
    · have d1 : decide (0 ≤ i) = false := by simp; omega
      clear c1
      go_wp2_with (have _t := tok; refine wpList_store_mid rfl 85 (.tmp 5) (.tmp 7) rfl w1.heap.size 0 (bitsA (A % MM)) rfl rfl hth hinf hone ?_; clear tok hth hinf hone)
      go_ret
      exact ⟨by rw [HE.out]; simp, hb2⟩
    · have d1 : decide (0 ≤ i) = true := by simp; omega
      have d2 : decide (i < 128) = false := by simp; omega
      clear c1
      go_wp2_with (have _t := tok; refine wpList_store_mid rfl 85 (.tmp 5) (.tmp 7) rfl w1.heap.size 0 (bitsA (A % MM)) rfl rfl hth hinf hone ?_; clear tok hth hinf hone)
      go_ret
      exact ⟨by rw [HE.out]; simp, hb2⟩
set_option maxRecDepth 100000 in
set_option maxHeartbeats 3200000 in
theorem refSame_t (A B : Int) (w : World) :
    Calls Try.prog 36 #[.agg #[.int .u64 (hi A), .int .u64 (lo A)], .agg #[.int .u64 (hi B), .int .u64 (lo B)]] w fun e w' => e = .returned (.int .i64 (sameI (A % MM) (B % MM))) ∧ Below w.heap.size w w' := by
  go_enter Try.func36, Try.ntmps36
  go_wp2
  have hbW : Below w.heap.size w ((w.alloc (.cells #[.int .u64 (hi A), .int .u64 (lo A)] 27)).alloc (.cells #[.int .u64 (hi B), .int .u64 (lo B)] 27)) := (by repeat (first | exact Below.refl _ _ | assumption | (with_reducible refine Below.setCell ?_ ?h _; case h => first | omega | (simp; done) | (simp; omega)) | (with_reducible refine Below.alloc ?_ ?h _; case h => first | omega | (simp; done) | (simp; omega)) | (with_reducible refine Below.drew ?_) | (with_reducible refine Below.trans ?_ (hb4.mono ?h); case h => first | omega | (simp; done) | (simp; omega)) | (with_reducible refine Below.trans ?_ (hb3.mono ?h); case h => first | omega | (simp; done) | (simp; omega)) | (with_reducible refine Below.trans ?_ (hb2.mono ?h); case h => first | omega | (simp; done) | (simp; omega)) | (with_reducible refine Below.trans ?_ (hb.mono ?h); case h => first | omega | (simp; done) | (simp; omega)) | (with_reducible refine Below.trans ?_ (hb0.mono ?h); case h => first | omega | (simp; done) | (simp; omega))))
  have a0 : ((w.alloc (.cells #[.int .u64 (hi A), .int .u64 (lo A)] 27)).alloc (.cells #[.int .u64 (hi B), .int .u64 (lo B)] 27)).cell? ⟨w.heap.size, 0, none⟩ = some (.int .u64 (hi A)) := by simp [go_sem]
  have a1 : ((w.alloc (.cells #[.int .u64 (hi A), .int .u64 (lo A)] 27)).alloc (.cells #[.int .u64 (hi B), .int .u64 (lo B)] 27)).cell? ⟨w.heap.size, 1, none⟩ = some (.int .u64 (lo A)) := by simp [go_sem]
  have b0 : ((w.alloc (.cells #[.int .u64 (hi A), .int .u64 (lo A)] 27)).alloc (.cells #[.int .u64 (hi B), .int .u64 (lo B)] 27)).cell? ⟨w.heap.size + 1, 0, none⟩ = some (.int .u64 (hi B)) := by simp [go_sem]
  have b1 : ((w.alloc (.cells #[.int .u64 (hi A), .int .u64 (lo A)] 27)).alloc (.cells #[.int .u64 (hi B), .int .u64 (lo B)] 27)).cell? ⟨w.heap.size + 1, 1, none⟩ = some (.int .u64 (lo B)) := by simp [go_sem]
  generalize ((w.alloc (.cells #[.int .u64 (hi A), .int .u64 (lo A)] 27)).alloc (.cells #[.int .u64 (hi B), .int .u64 (lo B)] 27)) = W0 at *
  go_cut [5, 6] (fun x y wx => ∃ gx gy : Nat, x = .pointer (some ⟨gx, 0, none⟩) ∧ y = .pointer (some ⟨gy, 0, none⟩) ∧ Row wx gx (bitsA (A % MM)) 85 ∧ Row wx gy (bitsA (B % MM)) 85 ∧ gx ≠ gy ∧ W0.heap.size ≤ gx ∧ W0.heap.size ≤ gy ∧ Below W0.heap.size W0 wx)
  case first =>
    refine region_any (S := (fun w' => w'.cell? ⟨w.heap.size, 0, none⟩ = some (.int .u64 (hi A)) ∧ w'.cell? ⟨w.heap.size, 1, none⟩ = some (.int .u64 (lo A)) ∧ w'.cell? ⟨w.heap.size + 1, 0, none⟩ = some (.int .u64 (hi B)) ∧ w'.cell? ⟨w.heap.size + 1, 1, none⟩ = some (.int .u64 (lo B)) ∧ Below W0.heap.size W0 w')) (by kernel_rfl) ?hSr13_ (fun wq hHeld => ?_)
    case hSr13_ => (first | exact ⟨a0, a1, b0, b1, Below.drew (Below.refl _ _)⟩ | exact ⟨cell_later hb hHeld.1, cell_later hb hHeld.2.1, cell_later hb hHeld.2.2.1, cell_later hb hHeld.2.2.2.1, below_step hHeld.2.2.2.2 hb⟩)
    refine wpAnyH_take (i := 0) (oi := { dst := some 8, op := Go.Op.load 27 (Go.Operand.tmp 2), type := 27, pos := _, after := #[], guard := none }) (v := ?vr13_1_0) rfl (by kernel_rfl) (by kernel_rfl) (by kernel_rfl) (fun _ _ _ h => h) (Or.inl ⟨by rfl, ?yr13_1_0⟩) hHeld ?_
    case yr13_1_0 => ((intro w hSw; (try dsimp only at hSw); go_simp) <;> with_reducible rfl)
    (try simp only [Act.put, List.setIfInBounds_toArray, List.set_cons_zero, List.set_cons_succ])
    refine wpAnyH_take (i := 2) (oi := { dst := some 10, op := Go.Op.load 27 (Go.Operand.tmp 3), type := 27, pos := _, after := #[], guard := none }) (v := ?vr13_2_2) rfl (by kernel_rfl) (by kernel_rfl) (by kernel_rfl) (fun _ _ _ h => h) (Or.inl ⟨by rfl, ?yr13_2_2⟩) hHeld ?_
    case yr13_2_2 => ((intro w hSw; (try dsimp only at hSw); go_simp) <;> with_reducible rfl)
    (try simp only [Act.put, List.setIfInBounds_toArray, List.set_cons_zero, List.set_cons_succ])
    refine wpAnyH_ready (rs := [1, 4, 5]) (by kernel_rfl) (by simp) ?_
    refine AllReadyH.cons (o := { dst := some 9, op := Go.Op.call { callee := Go.Callee.value (Go.Operand.func 57), args := #[Go.Operand.tmp 8], argTypes := #[27] }, type := 85, pos := _, after := #[{ on := 0, ground := Go.Ground.data }], guard := none }) rfl (fun K hK => ?_) ?_
    · go_simp
      ((refine (bits_h _ _).mono ?_); (rintro e wn ⟨rfl, hb⟩); (try replace Rx := Rx.later hb); (try replace Ry := Ry.later hb))
      go_wp2_with fail
      refine hK.out _ _ ?hSr13_3_1 (fun hHeld2 => ?_)
      case hSr13_3_1 => (first | exact ⟨a0, a1, b0, b1, Below.drew (Below.refl _ _)⟩ | exact ⟨cell_later hb hHeld.1, cell_later hb hHeld.2.1, cell_later hb hHeld.2.2.1, cell_later hb hHeld.2.2.2.1, below_step hHeld.2.2.2.2 hb⟩)
      clear hK K hHeld
      have hHeld := hHeld2
      clear hHeld2
      rename World => wq
      (try simp only [Act.put, List.setIfInBounds_toArray, List.set_cons_zero, List.set_cons_succ])
      refine wpAnyH_ready (rs := [3, 4, 5]) (by kernel_rfl) (by simp) ?_
      refine AllReadyH.cons (o := { dst := some 11, op := Go.Op.call { callee := Go.Callee.value (Go.Operand.func 57), args := #[Go.Operand.tmp 10], argTypes := #[27] }, type := 85, pos := _, after := #[{ on := 2, ground := Go.Ground.data }, { on := 1, ground := Go.Ground.chain }], guard := none }) rfl (fun K hK => ?_) ?_
      · go_simp
        ((refine (bits_h _ _).mono ?_); (rintro e wn ⟨rfl, hb⟩); (try replace Rx := Rx.later hb); (try replace Ry := Ry.later hb))
        go_wp2_with fail
        refine hK.out _ _ ?hSr13_4_3 (fun hHeld2 => ?_)
        case hSr13_4_3 => (first | exact ⟨a0, a1, b0, b1, Below.drew (Below.refl _ _)⟩ | exact ⟨cell_later hb hHeld.1, cell_later hb hHeld.2.1, cell_later hb hHeld.2.2.1, cell_later hb hHeld.2.2.2.1, below_step hHeld.2.2.2.2 hb⟩)
        clear hK K hHeld
        have hHeld := hHeld2
        clear hHeld2
        rename World => wq
        (try simp only [Act.put, List.setIfInBounds_toArray, List.set_cons_zero, List.set_cons_succ])
        refine wpAnyH_ready (rs := [4, 5]) (by kernel_rfl) (by simp) ?_
        refine AllReadyH.cons (o := { dst := some 5, op := Go.Op.alloc 85, type := 0, pos := _, after := #[], guard := none }) rfl (fun K hK => ?_) ?_
        · (go_simp; (have lx : w.heap.size + 1 < wq.heap.size := World.block_lt_of_cell? _ _ hHeld.2.2.1); (have mx : W0.heap.size ≤ wq.heap.size := hHeld.2.2.2.2.size); (try have hne := Nat.ne_of_lt Ry.lt); (have Rx := Row.new wq Try.zeroCells85 85); (have hb : Below wq.heap.size wq (wq.alloc (.cells Try.zeroCells85 85)) := (Below.refl _ _).alloc (Nat.le_refl _) _); (have s0 := cell_later hb hHeld.1); (have s1 := cell_later hb hHeld.2.1); (have s2 := cell_later hb hHeld.2.2.1); (have s3 := cell_later hb hHeld.2.2.2.1); (have s4 := below_step hHeld.2.2.2.2 hb); (try replace Ry := Ry.later hb); clear hb; generalize wq.alloc (.cells Try.zeroCells85 85) = wn at *; generalize wq.heap.size = gx at *)
          refine hK.out _ _ ?hSr13_5_4 (fun hHeld2 => ?_)
          case hSr13_5_4 => (exact ⟨s0, s1, s2, s3, s4⟩)
          clear hK K hHeld
          have hHeld := hHeld2
          clear hHeld2
          rename World => wq
          (try simp only [Act.put, List.setIfInBounds_toArray, List.set_cons_zero, List.set_cons_succ])
          refine wpAnyH_ready (rs := [5]) (by kernel_rfl) (by simp) ?_
          refine AllReadyH.cons (o := { dst := some 6, op := Go.Op.alloc 85, type := 0, pos := _, after := #[], guard := none }) rfl (fun K hK => ?_) AllReadyH.nil
          (go_simp; (have ly : w.heap.size + 1 < wq.heap.size := World.block_lt_of_cell? _ _ hHeld.2.2.1); (have my : W0.heap.size ≤ wq.heap.size := hHeld.2.2.2.2.size); (try have hne := Nat.ne_of_lt Rx.lt); (have Ry := Row.new wq Try.zeroCells85 85); (have hb : Below wq.heap.size wq (wq.alloc (.cells Try.zeroCells85 85)) := (Below.refl _ _).alloc (Nat.le_refl _) _); (have s0 := cell_later hb hHeld.1); (have s1 := cell_later hb hHeld.2.1); (have s2 := cell_later hb hHeld.2.2.1); (have s3 := cell_later hb hHeld.2.2.2.1); (have s4 := below_step hHeld.2.2.2.2 hb); (try replace Rx := Rx.later hb); clear hb; generalize wq.alloc (.cells Try.zeroCells85 85) = wn at *; generalize wq.heap.size = gy at *)
          refine hK.out _ _ ?hSr13_6_5 (fun hHeld2 => ?_)
          case hSr13_6_5 => (exact ⟨s0, s1, s2, s3, s4⟩)
          clear hK K hHeld
          have hHeld := hHeld2
          clear hHeld2
          rename World => wq
          (try simp only [Act.put, List.setIfInBounds_toArray, List.set_cons_zero, List.set_cons_succ])
          refine wpAnyH_ready (rs := [6]) (by kernel_rfl) (by simp) ?_
          refine AllReadyH.cons (o := { dst := none, op := Go.Op.store 85 (Go.Operand.tmp 5) (Go.Operand.tmp 9), type := 0, pos := _, after := #[{ on := 4, ground := Go.Ground.data }, { on := 1, ground := Go.Ground.data }, { on := 3, ground := Go.Ground.chain }, { on := 0, ground := Go.Ground.phase }, { on := 1, ground := Go.Ground.phase }, { on := 2, ground := Go.Ground.textOnly Go.Departure.lateStores }, { on := 3, ground := Go.Ground.textOnly Go.Departure.lateStoresUnsure }, { on := 4, ground := Go.Ground.phase }, { on := 5, ground := Go.Ground.phase }], guard := none }) rfl (fun K hK => ?_) AllReadyH.nil
          ((have hth := Rx.there (bitsA (A % MM)).size (by rw [bitsA_size, zeroA_size]; exact Nat.le_refl _)); (have hinf := bitsA_info (A % MM)); (have hone := bitsA_one (A % MM)); (rw [if_pos (by rfl)]); (with_reducible refine wp_store_mid 85 (.tmp 5) (.tmp 9) ?_ gx 0 (bitsA (A % MM)) ?_ ?_ hth hinf hone ?_); rfl; rfl; rfl; clear hth hinf hone; (have Rxn := Rx.setAll (bitsA (A % MM)) (by rw [bitsA_size, zeroA_size])); clear Rx; (first | (replace Ry := Row.setCells_far (g := gx) (o := 0) (vs := (bitsA (A % MM)).toList) Ry hne) | (replace Ry := Row.setCells_far (g := gx) (o := 0) (vs := (bitsA (A % MM)).toList) Ry hne.symm)); (have Rx := Rxn); clear Rxn; (have s0 := cell_setCells_far (g := gx) (o := 0) (vs := (bitsA (A % MM)).toList) hHeld.1 (by simp; omega)); (have s1 := cell_setCells_far (g := gx) (o := 0) (vs := (bitsA (A % MM)).toList) hHeld.2.1 (by simp; omega)); (have s2 := cell_setCells_far (g := gx) (o := 0) (vs := (bitsA (A % MM)).toList) hHeld.2.2.1 (by simp; omega)); (have s3 := cell_setCells_far (g := gx) (o := 0) (vs := (bitsA (A % MM)).toList) hHeld.2.2.2.1 (by simp; omega)); (have s4 := below_setCells mx (bitsA (A % MM)).toList 0 _ hHeld.2.2.2.2); generalize wq.setCells gx 0 (bitsA (A % MM)).toList = wn at *)
          refine hK.out _ _ ?hSr13_7_6 (fun hHeld2 => ?_)
          case hSr13_7_6 => (exact ⟨s0, s1, s2, s3, s4⟩)
          clear hK K hHeld
          have hHeld := hHeld2
          clear hHeld2
          rename World => wq
          (try simp only [Act.put, List.setIfInBounds_toArray, List.set_cons_zero, List.set_cons_succ])
          refine wpAnyH_ready (rs := [7]) (by kernel_rfl) (by simp) ?_
          refine AllReadyH.cons (o := { dst := none, op := Go.Op.store 85 (Go.Operand.tmp 6) (Go.Operand.tmp 11), type := 0, pos := _, after := #[{ on := 5, ground := Go.Ground.data }, { on := 3, ground := Go.Ground.data }, { on := 6, ground := Go.Ground.chain }, { on := 0, ground := Go.Ground.phase }, { on := 1, ground := Go.Ground.phase }, { on := 2, ground := Go.Ground.phase }, { on := 3, ground := Go.Ground.phase }, { on := 4, ground := Go.Ground.phase }, { on := 5, ground := Go.Ground.phase }, { on := 6, ground := Go.Ground.phase }], guard := none }) rfl (fun K hK => ?_) AllReadyH.nil
          ((have hth := Ry.there (bitsA (B % MM)).size (by rw [bitsA_size, zeroA_size]; exact Nat.le_refl _)); (have hinf := bitsA_info (B % MM)); (have hone := bitsA_one (B % MM)); (rw [if_pos (by rfl)]); (with_reducible refine wp_store_mid 85 (.tmp 6) (.tmp 11) ?_ gy 0 (bitsA (B % MM)) ?_ ?_ hth hinf hone ?_); rfl; rfl; rfl; clear hth hinf hone; (have Ryn := Ry.setAll (bitsA (B % MM)) (by rw [bitsA_size, zeroA_size])); clear Ry; (first | (replace Rx := Row.setCells_far (g := gy) (o := 0) (vs := (bitsA (B % MM)).toList) Rx hne) | (replace Rx := Row.setCells_far (g := gy) (o := 0) (vs := (bitsA (B % MM)).toList) Rx hne.symm)); (have Ry := Ryn); clear Ryn; (have s0 := cell_setCells_far (g := gy) (o := 0) (vs := (bitsA (B % MM)).toList) hHeld.1 (by simp; omega)); (have s1 := cell_setCells_far (g := gy) (o := 0) (vs := (bitsA (B % MM)).toList) hHeld.2.1 (by simp; omega)); (have s2 := cell_setCells_far (g := gy) (o := 0) (vs := (bitsA (B % MM)).toList) hHeld.2.2.1 (by simp; omega)); (have s3 := cell_setCells_far (g := gy) (o := 0) (vs := (bitsA (B % MM)).toList) hHeld.2.2.2.1 (by simp; omega)); (have s4 := below_setCells my (bitsA (B % MM)).toList 0 _ hHeld.2.2.2.2); generalize wq.setCells gy 0 (bitsA (B % MM)).toList = wn at *)
          refine hK.out _ _ ?hSr13_8_7 (fun hHeld2 => ?_)
          case hSr13_8_7 => (exact ⟨s0, s1, s2, s3, s4⟩)
          clear hK K hHeld
          have hHeld := hHeld2
          clear hHeld2
          rename World => wq
          (try simp only [Act.put, List.setIfInBounds_toArray, List.set_cons_zero, List.set_cons_succ])
          refine wpAnyH_done (by kernel_rfl) ?_ _
          (go_wp2_with fail; go_meet; exact ⟨_, _, rfl, rfl, Rx, Ry, (by first | exact hne | exact hne.symm), mx, my, hHeld.2.2.2.2⟩)
        refine AllReadyH.cons (o := { dst := some 6, op := Go.Op.alloc 85, type := 0, pos := _, after := #[], guard := none }) rfl (fun K hK => ?_) AllReadyH.nil
        · (go_simp; (have ly : w.heap.size + 1 < wq.heap.size := World.block_lt_of_cell? _ _ hHeld.2.2.1); (have my : W0.heap.size ≤ wq.heap.size := hHeld.2.2.2.2.size); (try have hne := Nat.ne_of_lt Rx.lt); (have Ry := Row.new wq Try.zeroCells85 85); (have hb : Below wq.heap.size wq (wq.alloc (.cells Try.zeroCells85 85)) := (Below.refl _ _).alloc (Nat.le_refl _) _); (have s0 := cell_later hb hHeld.1); (have s1 := cell_later hb hHeld.2.1); (have s2 := cell_later hb hHeld.2.2.1); (have s3 := cell_later hb hHeld.2.2.2.1); (have s4 := below_step hHeld.2.2.2.2 hb); (try replace Rx := Rx.later hb); clear hb; generalize wq.alloc (.cells Try.zeroCells85 85) = wn at *; generalize wq.heap.size = gy at *)
          refine hK.out _ _ ?hSr13_9_5 (fun hHeld2 => ?_)
          case hSr13_9_5 => (exact ⟨s0, s1, s2, s3, s4⟩)
          clear hK K hHeld
          have hHeld := hHeld2
          clear hHeld2
          rename World => wq
          (try simp only [Act.put, List.setIfInBounds_toArray, List.set_cons_zero, List.set_cons_succ])
          refine wpAnyH_ready (rs := [4]) (by kernel_rfl) (by simp) ?_
          refine AllReadyH.cons (o := { dst := some 5, op := Go.Op.alloc 85, type := 0, pos := _, after := #[], guard := none }) rfl (fun K hK => ?_) AllReadyH.nil
          (go_simp; (have lx : w.heap.size + 1 < wq.heap.size := World.block_lt_of_cell? _ _ hHeld.2.2.1); (have mx : W0.heap.size ≤ wq.heap.size := hHeld.2.2.2.2.size); (try have hne := Nat.ne_of_lt Ry.lt); (have Rx := Row.new wq Try.zeroCells85 85); (have hb : Below wq.heap.size wq (wq.alloc (.cells Try.zeroCells85 85)) := (Below.refl _ _).alloc (Nat.le_refl _) _); (have s0 := cell_later hb hHeld.1); (have s1 := cell_later hb hHeld.2.1); (have s2 := cell_later hb hHeld.2.2.1); (have s3 := cell_later hb hHeld.2.2.2.1); (have s4 := below_step hHeld.2.2.2.2 hb); (try replace Ry := Ry.later hb); clear hb; generalize wq.alloc (.cells Try.zeroCells85 85) = wn at *; generalize wq.heap.size = gx at *)
          refine hK.out _ _ ?hSr13_10_4 (fun hHeld2 => ?_)
          case hSr13_10_4 => (exact ⟨s0, s1, s2, s3, s4⟩)
          clear hK K hHeld
          have hHeld := hHeld2
          clear hHeld2
          rename World => wq
          (try simp only [Act.put, List.setIfInBounds_toArray, List.set_cons_zero, List.set_cons_succ])
          refine wpAnyH_ready (rs := [6]) (by kernel_rfl) (by simp) ?_
          refine AllReadyH.cons (o := { dst := none, op := Go.Op.store 85 (Go.Operand.tmp 5) (Go.Operand.tmp 9), type := 0, pos := _, after := #[{ on := 4, ground := Go.Ground.data }, { on := 1, ground := Go.Ground.data }, { on := 3, ground := Go.Ground.chain }, { on := 0, ground := Go.Ground.phase }, { on := 1, ground := Go.Ground.phase }, { on := 2, ground := Go.Ground.textOnly Go.Departure.lateStores }, { on := 3, ground := Go.Ground.textOnly Go.Departure.lateStoresUnsure }, { on := 4, ground := Go.Ground.phase }, { on := 5, ground := Go.Ground.phase }], guard := none }) rfl (fun K hK => ?_) AllReadyH.nil
          ((have hth := Rx.there (bitsA (A % MM)).size (by rw [bitsA_size, zeroA_size]; exact Nat.le_refl _)); (have hinf := bitsA_info (A % MM)); (have hone := bitsA_one (A % MM)); (rw [if_pos (by rfl)]); (with_reducible refine wp_store_mid 85 (.tmp 5) (.tmp 9) ?_ gx 0 (bitsA (A % MM)) ?_ ?_ hth hinf hone ?_); rfl; rfl; rfl; clear hth hinf hone; (have Rxn := Rx.setAll (bitsA (A % MM)) (by rw [bitsA_size, zeroA_size])); clear Rx; (first | (replace Ry := Row.setCells_far (g := gx) (o := 0) (vs := (bitsA (A % MM)).toList) Ry hne) | (replace Ry := Row.setCells_far (g := gx) (o := 0) (vs := (bitsA (A % MM)).toList) Ry hne.symm)); (have Rx := Rxn); clear Rxn; (have s0 := cell_setCells_far (g := gx) (o := 0) (vs := (bitsA (A % MM)).toList) hHeld.1 (by simp; omega)); (have s1 := cell_setCells_far (g := gx) (o := 0) (vs := (bitsA (A % MM)).toList) hHeld.2.1 (by simp; omega)); (have s2 := cell_setCells_far (g := gx) (o := 0) (vs := (bitsA (A % MM)).toList) hHeld.2.2.1 (by simp; omega)); (have s3 := cell_setCells_far (g := gx) (o := 0) (vs := (bitsA (A % MM)).toList) hHeld.2.2.2.1 (by simp; omega)); (have s4 := below_setCells mx (bitsA (A % MM)).toList 0 _ hHeld.2.2.2.2); generalize wq.setCells gx 0 (bitsA (A % MM)).toList = wn at *)
          refine hK.out _ _ ?hSr13_11_6 (fun hHeld2 => ?_)
          case hSr13_11_6 => (exact ⟨s0, s1, s2, s3, s4⟩)
          clear hK K hHeld
          have hHeld := hHeld2
          clear hHeld2
          rename World => wq
          (try simp only [Act.put, List.setIfInBounds_toArray, List.set_cons_zero, List.set_cons_succ])
          refine wpAnyH_ready (rs := [7]) (by kernel_rfl) (by simp) ?_
          refine AllReadyH.cons (o := { dst := none, op := Go.Op.store 85 (Go.Operand.tmp 6) (Go.Operand.tmp 11), type := 0, pos := _, after := #[{ on := 5, ground := Go.Ground.data }, { on := 3, ground := Go.Ground.data }, { on := 6, ground := Go.Ground.chain }, { on := 0, ground := Go.Ground.phase }, { on := 1, ground := Go.Ground.phase }, { on := 2, ground := Go.Ground.phase }, { on := 3, ground := Go.Ground.phase }, { on := 4, ground := Go.Ground.phase }, { on := 5, ground := Go.Ground.phase }, { on := 6, ground := Go.Ground.phase }], guard := none }) rfl (fun K hK => ?_) AllReadyH.nil
          ((have hth := Ry.there (bitsA (B % MM)).size (by rw [bitsA_size, zeroA_size]; exact Nat.le_refl _)); (have hinf := bitsA_info (B % MM)); (have hone := bitsA_one (B % MM)); (rw [if_pos (by rfl)]); (with_reducible refine wp_store_mid 85 (.tmp 6) (.tmp 11) ?_ gy 0 (bitsA (B % MM)) ?_ ?_ hth hinf hone ?_); rfl; rfl; rfl; clear hth hinf hone; (have Ryn := Ry.setAll (bitsA (B % MM)) (by rw [bitsA_size, zeroA_size])); clear Ry; (first | (replace Rx := Row.setCells_far (g := gy) (o := 0) (vs := (bitsA (B % MM)).toList) Rx hne) | (replace Rx := Row.setCells_far (g := gy) (o := 0) (vs := (bitsA (B % MM)).toList) Rx hne.symm)); (have Ry := Ryn); clear Ryn; (have s0 := cell_setCells_far (g := gy) (o := 0) (vs := (bitsA (B % MM)).toList) hHeld.1 (by simp; omega)); (have s1 := cell_setCells_far (g := gy) (o := 0) (vs := (bitsA (B % MM)).toList) hHeld.2.1 (by simp; omega)); (have s2 := cell_setCells_far (g := gy) (o := 0) (vs := (bitsA (B % MM)).toList) hHeld.2.2.1 (by simp; omega)); (have s3 := cell_setCells_far (g := gy) (o := 0) (vs := (bitsA (B % MM)).toList) hHeld.2.2.2.1 (by simp; omega)); (have s4 := below_setCells my (bitsA (B % MM)).toList 0 _ hHeld.2.2.2.2); generalize wq.setCells gy 0 (bitsA (B % MM)).toList = wn at *)
          refine hK.out _ _ ?hSr13_12_7 (fun hHeld2 => ?_)
          case hSr13_12_7 => (exact ⟨s0, s1, s2, s3, s4⟩)
          clear hK K hHeld
          have hHeld := hHeld2
          clear hHeld2
          rename World => wq
          (try simp only [Act.put, List.setIfInBounds_toArray, List.set_cons_zero, List.set_cons_succ])
          refine wpAnyH_done (by kernel_rfl) ?_ _
          (go_wp2_with fail; go_meet; exact ⟨_, _, rfl, rfl, Rx, Ry, (by first | exact hne | exact hne.symm), mx, my, hHeld.2.2.2.2⟩)
      refine AllReadyH.cons (o := { dst := some 5, op := Go.Op.alloc 85, type := 0, pos := _, after := #[], guard := none }) rfl (fun K hK => ?_) ?_
      · (go_simp; (have lx : w.heap.size + 1 < wq.heap.size := World.block_lt_of_cell? _ _ hHeld.2.2.1); (have mx : W0.heap.size ≤ wq.heap.size := hHeld.2.2.2.2.size); (try have hne := Nat.ne_of_lt Ry.lt); (have Rx := Row.new wq Try.zeroCells85 85); (have hb : Below wq.heap.size wq (wq.alloc (.cells Try.zeroCells85 85)) := (Below.refl _ _).alloc (Nat.le_refl _) _); (have s0 := cell_later hb hHeld.1); (have s1 := cell_later hb hHeld.2.1); (have s2 := cell_later hb hHeld.2.2.1); (have s3 := cell_later hb hHeld.2.2.2.1); (have s4 := below_step hHeld.2.2.2.2 hb); (try replace Ry := Ry.later hb); clear hb; generalize wq.alloc (.cells Try.zeroCells85 85) = wn at *; generalize wq.heap.size = gx at *)
        refine hK.out _ _ ?hSr13_13_4 (fun hHeld2 => ?_)
        case hSr13_13_4 => (exact ⟨s0, s1, s2, s3, s4⟩)
        clear hK K hHeld
        have hHeld := hHeld2
        clear hHeld2
        rename World => wq
        (try simp only [Act.put, List.setIfInBounds_toArray, List.set_cons_zero, List.set_cons_succ])
        refine wpAnyH_ready (rs := [3, 5]) (by kernel_rfl) (by simp) ?_
        refine AllReadyH.cons (o := { dst := some 11, op := Go.Op.call { callee := Go.Callee.value (Go.Operand.func 57), args := #[Go.Operand.tmp 10], argTypes := #[27] }, type := 85, pos := _, after := #[{ on := 2, ground := Go.Ground.data }, { on := 1, ground := Go.Ground.chain }], guard := none }) rfl (fun K hK => ?_) ?_
        · go_simp
          ((refine (bits_h _ _).mono ?_); (rintro e wn ⟨rfl, hb⟩); (try replace Rx := Rx.later hb); (try replace Ry := Ry.later hb))
          go_wp2_with fail
          refine hK.out _ _ ?hSr13_14_3 (fun hHeld2 => ?_)
          case hSr13_14_3 => (first | exact ⟨a0, a1, b0, b1, Below.drew (Below.refl _ _)⟩ | exact ⟨cell_later hb hHeld.1, cell_later hb hHeld.2.1, cell_later hb hHeld.2.2.1, cell_later hb hHeld.2.2.2.1, below_step hHeld.2.2.2.2 hb⟩)
          clear hK K hHeld
          have hHeld := hHeld2
          clear hHeld2
          rename World => wq
          (try simp only [Act.put, List.setIfInBounds_toArray, List.set_cons_zero, List.set_cons_succ])
          refine wpAnyH_ready (rs := [5]) (by kernel_rfl) (by simp) ?_
          refine AllReadyH.cons (o := { dst := some 6, op := Go.Op.alloc 85, type := 0, pos := _, after := #[], guard := none }) rfl (fun K hK => ?_) AllReadyH.nil
          (go_simp; (have ly : w.heap.size + 1 < wq.heap.size := World.block_lt_of_cell? _ _ hHeld.2.2.1); (have my : W0.heap.size ≤ wq.heap.size := hHeld.2.2.2.2.size); (try have hne := Nat.ne_of_lt Rx.lt); (have Ry := Row.new wq Try.zeroCells85 85); (have hb : Below wq.heap.size wq (wq.alloc (.cells Try.zeroCells85 85)) := (Below.refl _ _).alloc (Nat.le_refl _) _); (have s0 := cell_later hb hHeld.1); (have s1 := cell_later hb hHeld.2.1); (have s2 := cell_later hb hHeld.2.2.1); (have s3 := cell_later hb hHeld.2.2.2.1); (have s4 := below_step hHeld.2.2.2.2 hb); (try replace Rx := Rx.later hb); clear hb; generalize wq.alloc (.cells Try.zeroCells85 85) = wn at *; generalize wq.heap.size = gy at *)
          refine hK.out _ _ ?hSr13_15_5 (fun hHeld2 => ?_)
          case hSr13_15_5 => (exact ⟨s0, s1, s2, s3, s4⟩)
          clear hK K hHeld
          have hHeld := hHeld2
          clear hHeld2
          rename World => wq
          (try simp only [Act.put, List.setIfInBounds_toArray, List.set_cons_zero, List.set_cons_succ])
          refine wpAnyH_ready (rs := [6]) (by kernel_rfl) (by simp) ?_
          refine AllReadyH.cons (o := { dst := none, op := Go.Op.store 85 (Go.Operand.tmp 5) (Go.Operand.tmp 9), type := 0, pos := _, after := #[{ on := 4, ground := Go.Ground.data }, { on := 1, ground := Go.Ground.data }, { on := 3, ground := Go.Ground.chain }, { on := 0, ground := Go.Ground.phase }, { on := 1, ground := Go.Ground.phase }, { on := 2, ground := Go.Ground.textOnly Go.Departure.lateStores }, { on := 3, ground := Go.Ground.textOnly Go.Departure.lateStoresUnsure }, { on := 4, ground := Go.Ground.phase }, { on := 5, ground := Go.Ground.phase }], guard := none }) rfl (fun K hK => ?_) AllReadyH.nil
          ((have hth := Rx.there (bitsA (A % MM)).size (by rw [bitsA_size, zeroA_size]; exact Nat.le_refl _)); (have hinf := bitsA_info (A % MM)); (have hone := bitsA_one (A % MM)); (rw [if_pos (by rfl)]); (with_reducible refine wp_store_mid 85 (.tmp 5) (.tmp 9) ?_ gx 0 (bitsA (A % MM)) ?_ ?_ hth hinf hone ?_); rfl; rfl; rfl; clear hth hinf hone; (have Rxn := Rx.setAll (bitsA (A % MM)) (by rw [bitsA_size, zeroA_size])); clear Rx; (first | (replace Ry := Row.setCells_far (g := gx) (o := 0) (vs := (bitsA (A % MM)).toList) Ry hne) | (replace Ry := Row.setCells_far (g := gx) (o := 0) (vs := (bitsA (A % MM)).toList) Ry hne.symm)); (have Rx := Rxn); clear Rxn; (have s0 := cell_setCells_far (g := gx) (o := 0) (vs := (bitsA (A % MM)).toList) hHeld.1 (by simp; omega)); (have s1 := cell_setCells_far (g := gx) (o := 0) (vs := (bitsA (A % MM)).toList) hHeld.2.1 (by simp; omega)); (have s2 := cell_setCells_far (g := gx) (o := 0) (vs := (bitsA (A % MM)).toList) hHeld.2.2.1 (by simp; omega)); (have s3 := cell_setCells_far (g := gx) (o := 0) (vs := (bitsA (A % MM)).toList) hHeld.2.2.2.1 (by simp; omega)); (have s4 := below_setCells mx (bitsA (A % MM)).toList 0 _ hHeld.2.2.2.2); generalize wq.setCells gx 0 (bitsA (A % MM)).toList = wn at *)
          refine hK.out _ _ ?hSr13_16_6 (fun hHeld2 => ?_)
          case hSr13_16_6 => (exact ⟨s0, s1, s2, s3, s4⟩)
          clear hK K hHeld
          have hHeld := hHeld2
          clear hHeld2
          rename World => wq
          (try simp only [Act.put, List.setIfInBounds_toArray, List.set_cons_zero, List.set_cons_succ])
          refine wpAnyH_ready (rs := [7]) (by kernel_rfl) (by simp) ?_
          refine AllReadyH.cons (o := { dst := none, op := Go.Op.store 85 (Go.Operand.tmp 6) (Go.Operand.tmp 11), type := 0, pos := _, after := #[{ on := 5, ground := Go.Ground.data }, { on := 3, ground := Go.Ground.data }, { on := 6, ground := Go.Ground.chain }, { on := 0, ground := Go.Ground.phase }, { on := 1, ground := Go.Ground.phase }, { on := 2, ground := Go.Ground.phase }, { on := 3, ground := Go.Ground.phase }, { on := 4, ground := Go.Ground.phase }, { on := 5, ground := Go.Ground.phase }, { on := 6, ground := Go.Ground.phase }], guard := none }) rfl (fun K hK => ?_) AllReadyH.nil
          ((have hth := Ry.there (bitsA (B % MM)).size (by rw [bitsA_size, zeroA_size]; exact Nat.le_refl _)); (have hinf := bitsA_info (B % MM)); (have hone := bitsA_one (B % MM)); (rw [if_pos (by rfl)]); (with_reducible refine wp_store_mid 85 (.tmp 6) (.tmp 11) ?_ gy 0 (bitsA (B % MM)) ?_ ?_ hth hinf hone ?_); rfl; rfl; rfl; clear hth hinf hone; (have Ryn := Ry.setAll (bitsA (B % MM)) (by rw [bitsA_size, zeroA_size])); clear Ry; (first | (replace Rx := Row.setCells_far (g := gy) (o := 0) (vs := (bitsA (B % MM)).toList) Rx hne) | (replace Rx := Row.setCells_far (g := gy) (o := 0) (vs := (bitsA (B % MM)).toList) Rx hne.symm)); (have Ry := Ryn); clear Ryn; (have s0 := cell_setCells_far (g := gy) (o := 0) (vs := (bitsA (B % MM)).toList) hHeld.1 (by simp; omega)); (have s1 := cell_setCells_far (g := gy) (o := 0) (vs := (bitsA (B % MM)).toList) hHeld.2.1 (by simp; omega)); (have s2 := cell_setCells_far (g := gy) (o := 0) (vs := (bitsA (B % MM)).toList) hHeld.2.2.1 (by simp; omega)); (have s3 := cell_setCells_far (g := gy) (o := 0) (vs := (bitsA (B % MM)).toList) hHeld.2.2.2.1 (by simp; omega)); (have s4 := below_setCells my (bitsA (B % MM)).toList 0 _ hHeld.2.2.2.2); generalize wq.setCells gy 0 (bitsA (B % MM)).toList = wn at *)
          refine hK.out _ _ ?hSr13_17_7 (fun hHeld2 => ?_)
          case hSr13_17_7 => (exact ⟨s0, s1, s2, s3, s4⟩)
          clear hK K hHeld
          have hHeld := hHeld2
          clear hHeld2
          rename World => wq
          (try simp only [Act.put, List.setIfInBounds_toArray, List.set_cons_zero, List.set_cons_succ])
          refine wpAnyH_done (by kernel_rfl) ?_ _
          (go_wp2_with fail; go_meet; exact ⟨_, _, rfl, rfl, Rx, Ry, (by first | exact hne | exact hne.symm), mx, my, hHeld.2.2.2.2⟩)
        refine AllReadyH.cons (o := { dst := some 6, op := Go.Op.alloc 85, type := 0, pos := _, after := #[], guard := none }) rfl (fun K hK => ?_) AllReadyH.nil
        · (go_simp; (have ly : w.heap.size + 1 < wq.heap.size := World.block_lt_of_cell? _ _ hHeld.2.2.1); (have my : W0.heap.size ≤ wq.heap.size := hHeld.2.2.2.2.size); (try have hne := Nat.ne_of_lt Rx.lt); (have Ry := Row.new wq Try.zeroCells85 85); (have hb : Below wq.heap.size wq (wq.alloc (.cells Try.zeroCells85 85)) := (Below.refl _ _).alloc (Nat.le_refl _) _); (have s0 := cell_later hb hHeld.1); (have s1 := cell_later hb hHeld.2.1); (have s2 := cell_later hb hHeld.2.2.1); (have s3 := cell_later hb hHeld.2.2.2.1); (have s4 := below_step hHeld.2.2.2.2 hb); (try replace Rx := Rx.later hb); clear hb; generalize wq.alloc (.cells Try.zeroCells85 85) = wn at *; generalize wq.heap.size = gy at *)
          refine hK.out _ _ ?hSr13_18_5 (fun hHeld2 => ?_)
          case hSr13_18_5 => (exact ⟨s0, s1, s2, s3, s4⟩)
          clear hK K hHeld
          have hHeld := hHeld2
          clear hHeld2
          rename World => wq
          (try simp only [Act.put, List.setIfInBounds_toArray, List.set_cons_zero, List.set_cons_succ])
          refine wpAnyH_ready (rs := [3]) (by kernel_rfl) (by simp) ?_
          refine AllReadyH.cons (o := { dst := some 11, op := Go.Op.call { callee := Go.Callee.value (Go.Operand.func 57), args := #[Go.Operand.tmp 10], argTypes := #[27] }, type := 85, pos := _, after := #[{ on := 2, ground := Go.Ground.data }, { on := 1, ground := Go.Ground.chain }], guard := none }) rfl (fun K hK => ?_) AllReadyH.nil
          go_simp
          ((refine (bits_h _ _).mono ?_); (rintro e wn ⟨rfl, hb⟩); (try replace Rx := Rx.later hb); (try replace Ry := Ry.later hb))
          go_wp2_with fail
          refine hK.out _ _ ?hSr13_19_3 (fun hHeld2 => ?_)
          case hSr13_19_3 => (first | exact ⟨a0, a1, b0, b1, Below.drew (Below.refl _ _)⟩ | exact ⟨cell_later hb hHeld.1, cell_later hb hHeld.2.1, cell_later hb hHeld.2.2.1, cell_later hb hHeld.2.2.2.1, below_step hHeld.2.2.2.2 hb⟩)
          clear hK K hHeld
          have hHeld := hHeld2
          clear hHeld2
          rename World => wq
          (try simp only [Act.put, List.setIfInBounds_toArray, List.set_cons_zero, List.set_cons_succ])
          refine wpAnyH_ready (rs := [6]) (by kernel_rfl) (by simp) ?_
          refine AllReadyH.cons (o := { dst := none, op := Go.Op.store 85 (Go.Operand.tmp 5) (Go.Operand.tmp 9), type := 0, pos := _, after := #[{ on := 4, ground := Go.Ground.data }, { on := 1, ground := Go.Ground.data }, { on := 3, ground := Go.Ground.chain }, { on := 0, ground := Go.Ground.phase }, { on := 1, ground := Go.Ground.phase }, { on := 2, ground := Go.Ground.textOnly Go.Departure.lateStores }, { on := 3, ground := Go.Ground.textOnly Go.Departure.lateStoresUnsure }, { on := 4, ground := Go.Ground.phase }, { on := 5, ground := Go.Ground.phase }], guard := none }) rfl (fun K hK => ?_) AllReadyH.nil
          ((have hth := Rx.there (bitsA (A % MM)).size (by rw [bitsA_size, zeroA_size]; exact Nat.le_refl _)); (have hinf := bitsA_info (A % MM)); (have hone := bitsA_one (A % MM)); (rw [if_pos (by rfl)]); (with_reducible refine wp_store_mid 85 (.tmp 5) (.tmp 9) ?_ gx 0 (bitsA (A % MM)) ?_ ?_ hth hinf hone ?_); rfl; rfl; rfl; clear hth hinf hone; (have Rxn := Rx.setAll (bitsA (A % MM)) (by rw [bitsA_size, zeroA_size])); clear Rx; (first | (replace Ry := Row.setCells_far (g := gx) (o := 0) (vs := (bitsA (A % MM)).toList) Ry hne) | (replace Ry := Row.setCells_far (g := gx) (o := 0) (vs := (bitsA (A % MM)).toList) Ry hne.symm)); (have Rx := Rxn); clear Rxn; (have s0 := cell_setCells_far (g := gx) (o := 0) (vs := (bitsA (A % MM)).toList) hHeld.1 (by simp; omega)); (have s1 := cell_setCells_far (g := gx) (o := 0) (vs := (bitsA (A % MM)).toList) hHeld.2.1 (by simp; omega)); (have s2 := cell_setCells_far (g := gx) (o := 0) (vs := (bitsA (A % MM)).toList) hHeld.2.2.1 (by simp; omega)); (have s3 := cell_setCells_far (g := gx) (o := 0) (vs := (bitsA (A % MM)).toList) hHeld.2.2.2.1 (by simp; omega)); (have s4 := below_setCells mx (bitsA (A % MM)).toList 0 _ hHeld.2.2.2.2); generalize wq.setCells gx 0 (bitsA (A % MM)).toList = wn at *)
          refine hK.out _ _ ?hSr13_20_6 (fun hHeld2 => ?_)
          case hSr13_20_6 => (exact ⟨s0, s1, s2, s3, s4⟩)
          clear hK K hHeld
          have hHeld := hHeld2
          clear hHeld2
          rename World => wq
          (try simp only [Act.put, List.setIfInBounds_toArray, List.set_cons_zero, List.set_cons_succ])
          refine wpAnyH_ready (rs := [7]) (by kernel_rfl) (by simp) ?_
          refine AllReadyH.cons (o := { dst := none, op := Go.Op.store 85 (Go.Operand.tmp 6) (Go.Operand.tmp 11), type := 0, pos := _, after := #[{ on := 5, ground := Go.Ground.data }, { on := 3, ground := Go.Ground.data }, { on := 6, ground := Go.Ground.chain }, { on := 0, ground := Go.Ground.phase }, { on := 1, ground := Go.Ground.phase }, { on := 2, ground := Go.Ground.phase }, { on := 3, ground := Go.Ground.phase }, { on := 4, ground := Go.Ground.phase }, { on := 5, ground := Go.Ground.phase }, { on := 6, ground := Go.Ground.phase }], guard := none }) rfl (fun K hK => ?_) AllReadyH.nil
          ((have hth := Ry.there (bitsA (B % MM)).size (by rw [bitsA_size, zeroA_size]; exact Nat.le_refl _)); (have hinf := bitsA_info (B % MM)); (have hone := bitsA_one (B % MM)); (rw [if_pos (by rfl)]); (with_reducible refine wp_store_mid 85 (.tmp 6) (.tmp 11) ?_ gy 0 (bitsA (B % MM)) ?_ ?_ hth hinf hone ?_); rfl; rfl; rfl; clear hth hinf hone; (have Ryn := Ry.setAll (bitsA (B % MM)) (by rw [bitsA_size, zeroA_size])); clear Ry; (first | (replace Rx := Row.setCells_far (g := gy) (o := 0) (vs := (bitsA (B % MM)).toList) Rx hne) | (replace Rx := Row.setCells_far (g := gy) (o := 0) (vs := (bitsA (B % MM)).toList) Rx hne.symm)); (have Ry := Ryn); clear Ryn; (have s0 := cell_setCells_far (g := gy) (o := 0) (vs := (bitsA (B % MM)).toList) hHeld.1 (by simp; omega)); (have s1 := cell_setCells_far (g := gy) (o := 0) (vs := (bitsA (B % MM)).toList) hHeld.2.1 (by simp; omega)); (have s2 := cell_setCells_far (g := gy) (o := 0) (vs := (bitsA (B % MM)).toList) hHeld.2.2.1 (by simp; omega)); (have s3 := cell_setCells_far (g := gy) (o := 0) (vs := (bitsA (B % MM)).toList) hHeld.2.2.2.1 (by simp; omega)); (have s4 := below_setCells my (bitsA (B % MM)).toList 0 _ hHeld.2.2.2.2); generalize wq.setCells gy 0 (bitsA (B % MM)).toList = wn at *)
          refine hK.out _ _ ?hSr13_21_7 (fun hHeld2 => ?_)
          case hSr13_21_7 => (exact ⟨s0, s1, s2, s3, s4⟩)
          clear hK K hHeld
          have hHeld := hHeld2
          clear hHeld2
          rename World => wq
          (try simp only [Act.put, List.setIfInBounds_toArray, List.set_cons_zero, List.set_cons_succ])
          refine wpAnyH_done (by kernel_rfl) ?_ _
          (go_wp2_with fail; go_meet; exact ⟨_, _, rfl, rfl, Rx, Ry, (by first | exact hne | exact hne.symm), mx, my, hHeld.2.2.2.2⟩)
      refine AllReadyH.cons (o := { dst := some 6, op := Go.Op.alloc 85, type := 0, pos := _, after := #[], guard := none }) rfl (fun K hK => ?_) AllReadyH.nil
      · (go_simp; (have ly : w.heap.size + 1 < wq.heap.size := World.block_lt_of_cell? _ _ hHeld.2.2.1); (have my : W0.heap.size ≤ wq.heap.size := hHeld.2.2.2.2.size); (try have hne := Nat.ne_of_lt Rx.lt); (have Ry := Row.new wq Try.zeroCells85 85); (have hb : Below wq.heap.size wq (wq.alloc (.cells Try.zeroCells85 85)) := (Below.refl _ _).alloc (Nat.le_refl _) _); (have s0 := cell_later hb hHeld.1); (have s1 := cell_later hb hHeld.2.1); (have s2 := cell_later hb hHeld.2.2.1); (have s3 := cell_later hb hHeld.2.2.2.1); (have s4 := below_step hHeld.2.2.2.2 hb); (try replace Rx := Rx.later hb); clear hb; generalize wq.alloc (.cells Try.zeroCells85 85) = wn at *; generalize wq.heap.size = gy at *)
        refine hK.out _ _ ?hSr13_22_5 (fun hHeld2 => ?_)
        case hSr13_22_5 => (exact ⟨s0, s1, s2, s3, s4⟩)
        clear hK K hHeld
        have hHeld := hHeld2
        clear hHeld2
        rename World => wq
        (try simp only [Act.put, List.setIfInBounds_toArray, List.set_cons_zero, List.set_cons_succ])
        refine wpAnyH_ready (rs := [3, 4]) (by kernel_rfl) (by simp) ?_
        refine AllReadyH.cons (o := { dst := some 11, op := Go.Op.call { callee := Go.Callee.value (Go.Operand.func 57), args := #[Go.Operand.tmp 10], argTypes := #[27] }, type := 85, pos := _, after := #[{ on := 2, ground := Go.Ground.data }, { on := 1, ground := Go.Ground.chain }], guard := none }) rfl (fun K hK => ?_) ?_
        · go_simp
          ((refine (bits_h _ _).mono ?_); (rintro e wn ⟨rfl, hb⟩); (try replace Rx := Rx.later hb); (try replace Ry := Ry.later hb))
          go_wp2_with fail
          refine hK.out _ _ ?hSr13_23_3 (fun hHeld2 => ?_)
          case hSr13_23_3 => (first | exact ⟨a0, a1, b0, b1, Below.drew (Below.refl _ _)⟩ | exact ⟨cell_later hb hHeld.1, cell_later hb hHeld.2.1, cell_later hb hHeld.2.2.1, cell_later hb hHeld.2.2.2.1, below_step hHeld.2.2.2.2 hb⟩)
          clear hK K hHeld
          have hHeld := hHeld2
          clear hHeld2
          rename World => wq
          (try simp only [Act.put, List.setIfInBounds_toArray, List.set_cons_zero, List.set_cons_succ])
          refine wpAnyH_ready (rs := [4]) (by kernel_rfl) (by simp) ?_
          refine AllReadyH.cons (o := { dst := some 5, op := Go.Op.alloc 85, type := 0, pos := _, after := #[], guard := none }) rfl (fun K hK => ?_) AllReadyH.nil
          (go_simp; (have lx : w.heap.size + 1 < wq.heap.size := World.block_lt_of_cell? _ _ hHeld.2.2.1); (have mx : W0.heap.size ≤ wq.heap.size := hHeld.2.2.2.2.size); (try have hne := Nat.ne_of_lt Ry.lt); (have Rx := Row.new wq Try.zeroCells85 85); (have hb : Below wq.heap.size wq (wq.alloc (.cells Try.zeroCells85 85)) := (Below.refl _ _).alloc (Nat.le_refl _) _); (have s0 := cell_later hb hHeld.1); (have s1 := cell_later hb hHeld.2.1); (have s2 := cell_later hb hHeld.2.2.1); (have s3 := cell_later hb hHeld.2.2.2.1); (have s4 := below_step hHeld.2.2.2.2 hb); (try replace Ry := Ry.later hb); clear hb; generalize wq.alloc (.cells Try.zeroCells85 85) = wn at *; generalize wq.heap.size = gx at *)
          refine hK.out _ _ ?hSr13_24_4 (fun hHeld2 => ?_)
          case hSr13_24_4 => (exact ⟨s0, s1, s2, s3, s4⟩)
          clear hK K hHeld
          have hHeld := hHeld2
          clear hHeld2
          rename World => wq
          (try simp only [Act.put, List.setIfInBounds_toArray, List.set_cons_zero, List.set_cons_succ])
          refine wpAnyH_ready (rs := [6]) (by kernel_rfl) (by simp) ?_
          refine AllReadyH.cons (o := { dst := none, op := Go.Op.store 85 (Go.Operand.tmp 5) (Go.Operand.tmp 9), type := 0, pos := _, after := #[{ on := 4, ground := Go.Ground.data }, { on := 1, ground := Go.Ground.data }, { on := 3, ground := Go.Ground.chain }, { on := 0, ground := Go.Ground.phase }, { on := 1, ground := Go.Ground.phase }, { on := 2, ground := Go.Ground.textOnly Go.Departure.lateStores }, { on := 3, ground := Go.Ground.textOnly Go.Departure.lateStoresUnsure }, { on := 4, ground := Go.Ground.phase }, { on := 5, ground := Go.Ground.phase }], guard := none }) rfl (fun K hK => ?_) AllReadyH.nil
          ((have hth := Rx.there (bitsA (A % MM)).size (by rw [bitsA_size, zeroA_size]; exact Nat.le_refl _)); (have hinf := bitsA_info (A % MM)); (have hone := bitsA_one (A % MM)); (rw [if_pos (by rfl)]); (with_reducible refine wp_store_mid 85 (.tmp 5) (.tmp 9) ?_ gx 0 (bitsA (A % MM)) ?_ ?_ hth hinf hone ?_); rfl; rfl; rfl; clear hth hinf hone; (have Rxn := Rx.setAll (bitsA (A % MM)) (by rw [bitsA_size, zeroA_size])); clear Rx; (first | (replace Ry := Row.setCells_far (g := gx) (o := 0) (vs := (bitsA (A % MM)).toList) Ry hne) | (replace Ry := Row.setCells_far (g := gx) (o := 0) (vs := (bitsA (A % MM)).toList) Ry hne.symm)); (have Rx := Rxn); clear Rxn; (have s0 := cell_setCells_far (g := gx) (o := 0) (vs := (bitsA (A % MM)).toList) hHeld.1 (by simp; omega)); (have s1 := cell_setCells_far (g := gx) (o := 0) (vs := (bitsA (A % MM)).toList) hHeld.2.1 (by simp; omega)); (have s2 := cell_setCells_far (g := gx) (o := 0) (vs := (bitsA (A % MM)).toList) hHeld.2.2.1 (by simp; omega)); (have s3 := cell_setCells_far (g := gx) (o := 0) (vs := (bitsA (A % MM)).toList) hHeld.2.2.2.1 (by simp; omega)); (have s4 := below_setCells mx (bitsA (A % MM)).toList 0 _ hHeld.2.2.2.2); generalize wq.setCells gx 0 (bitsA (A % MM)).toList = wn at *)
          refine hK.out _ _ ?hSr13_25_6 (fun hHeld2 => ?_)
          case hSr13_25_6 => (exact ⟨s0, s1, s2, s3, s4⟩)
          clear hK K hHeld
          have hHeld := hHeld2
          clear hHeld2
          rename World => wq
          (try simp only [Act.put, List.setIfInBounds_toArray, List.set_cons_zero, List.set_cons_succ])
          refine wpAnyH_ready (rs := [7]) (by kernel_rfl) (by simp) ?_
          refine AllReadyH.cons (o := { dst := none, op := Go.Op.store 85 (Go.Operand.tmp 6) (Go.Operand.tmp 11), type := 0, pos := _, after := #[{ on := 5, ground := Go.Ground.data }, { on := 3, ground := Go.Ground.data }, { on := 6, ground := Go.Ground.chain }, { on := 0, ground := Go.Ground.phase }, { on := 1, ground := Go.Ground.phase }, { on := 2, ground := Go.Ground.phase }, { on := 3, ground := Go.Ground.phase }, { on := 4, ground := Go.Ground.phase }, { on := 5, ground := Go.Ground.phase }, { on := 6, ground := Go.Ground.phase }], guard := none }) rfl (fun K hK => ?_) AllReadyH.nil
          ((have hth := Ry.there (bitsA (B % MM)).size (by rw [bitsA_size, zeroA_size]; exact Nat.le_refl _)); (have hinf := bitsA_info (B % MM)); (have hone := bitsA_one (B % MM)); (rw [if_pos (by rfl)]); (with_reducible refine wp_store_mid 85 (.tmp 6) (.tmp 11) ?_ gy 0 (bitsA (B % MM)) ?_ ?_ hth hinf hone ?_); rfl; rfl; rfl; clear hth hinf hone; (have Ryn := Ry.setAll (bitsA (B % MM)) (by rw [bitsA_size, zeroA_size])); clear Ry; (first | (replace Rx := Row.setCells_far (g := gy) (o := 0) (vs := (bitsA (B % MM)).toList) Rx hne) | (replace Rx := Row.setCells_far (g := gy) (o := 0) (vs := (bitsA (B % MM)).toList) Rx hne.symm)); (have Ry := Ryn); clear Ryn; (have s0 := cell_setCells_far (g := gy) (o := 0) (vs := (bitsA (B % MM)).toList) hHeld.1 (by simp; omega)); (have s1 := cell_setCells_far (g := gy) (o := 0) (vs := (bitsA (B % MM)).toList) hHeld.2.1 (by simp; omega)); (have s2 := cell_setCells_far (g := gy) (o := 0) (vs := (bitsA (B % MM)).toList) hHeld.2.2.1 (by simp; omega)); (have s3 := cell_setCells_far (g := gy) (o := 0) (vs := (bitsA (B % MM)).toList) hHeld.2.2.2.1 (by simp; omega)); (have s4 := below_setCells my (bitsA (B % MM)).toList 0 _ hHeld.2.2.2.2); generalize wq.setCells gy 0 (bitsA (B % MM)).toList = wn at *)
          refine hK.out _ _ ?hSr13_26_7 (fun hHeld2 => ?_)
          case hSr13_26_7 => (exact ⟨s0, s1, s2, s3, s4⟩)
          clear hK K hHeld
          have hHeld := hHeld2
          clear hHeld2
          rename World => wq
          (try simp only [Act.put, List.setIfInBounds_toArray, List.set_cons_zero, List.set_cons_succ])
          refine wpAnyH_done (by kernel_rfl) ?_ _
          (go_wp2_with fail; go_meet; exact ⟨_, _, rfl, rfl, Rx, Ry, (by first | exact hne | exact hne.symm), mx, my, hHeld.2.2.2.2⟩)
        refine AllReadyH.cons (o := { dst := some 5, op := Go.Op.alloc 85, type := 0, pos := _, after := #[], guard := none }) rfl (fun K hK => ?_) AllReadyH.nil
        · (go_simp; (have lx : w.heap.size + 1 < wq.heap.size := World.block_lt_of_cell? _ _ hHeld.2.2.1); (have mx : W0.heap.size ≤ wq.heap.size := hHeld.2.2.2.2.size); (try have hne := Nat.ne_of_lt Ry.lt); (have Rx := Row.new wq Try.zeroCells85 85); (have hb : Below wq.heap.size wq (wq.alloc (.cells Try.zeroCells85 85)) := (Below.refl _ _).alloc (Nat.le_refl _) _); (have s0 := cell_later hb hHeld.1); (have s1 := cell_later hb hHeld.2.1); (have s2 := cell_later hb hHeld.2.2.1); (have s3 := cell_later hb hHeld.2.2.2.1); (have s4 := below_step hHeld.2.2.2.2 hb); (try replace Ry := Ry.later hb); clear hb; generalize wq.alloc (.cells Try.zeroCells85 85) = wn at *; generalize wq.heap.size = gx at *)
          refine hK.out _ _ ?hSr13_27_4 (fun hHeld2 => ?_)
          case hSr13_27_4 => (exact ⟨s0, s1, s2, s3, s4⟩)
          clear hK K hHeld
          have hHeld := hHeld2
          clear hHeld2
          rename World => wq
          (try simp only [Act.put, List.setIfInBounds_toArray, List.set_cons_zero, List.set_cons_succ])
          refine wpAnyH_ready (rs := [3]) (by kernel_rfl) (by simp) ?_
          refine AllReadyH.cons (o := { dst := some 11, op := Go.Op.call { callee := Go.Callee.value (Go.Operand.func 57), args := #[Go.Operand.tmp 10], argTypes := #[27] }, type := 85, pos := _, after := #[{ on := 2, ground := Go.Ground.data }, { on := 1, ground := Go.Ground.chain }], guard := none }) rfl (fun K hK => ?_) AllReadyH.nil
          go_simp
          ((refine (bits_h _ _).mono ?_); (rintro e wn ⟨rfl, hb⟩); (try replace Rx := Rx.later hb); (try replace Ry := Ry.later hb))
          go_wp2_with fail
          refine hK.out _ _ ?hSr13_28_3 (fun hHeld2 => ?_)
          case hSr13_28_3 => (first | exact ⟨a0, a1, b0, b1, Below.drew (Below.refl _ _)⟩ | exact ⟨cell_later hb hHeld.1, cell_later hb hHeld.2.1, cell_later hb hHeld.2.2.1, cell_later hb hHeld.2.2.2.1, below_step hHeld.2.2.2.2 hb⟩)
          clear hK K hHeld
          have hHeld := hHeld2
          clear hHeld2
          rename World => wq
          (try simp only [Act.put, List.setIfInBounds_toArray, List.set_cons_zero, List.set_cons_succ])
          refine wpAnyH_ready (rs := [6]) (by kernel_rfl) (by simp) ?_
          refine AllReadyH.cons (o := { dst := none, op := Go.Op.store 85 (Go.Operand.tmp 5) (Go.Operand.tmp 9), type := 0, pos := _, after := #[{ on := 4, ground := Go.Ground.data }, { on := 1, ground := Go.Ground.data }, { on := 3, ground := Go.Ground.chain }, { on := 0, ground := Go.Ground.phase }, { on := 1, ground := Go.Ground.phase }, { on := 2, ground := Go.Ground.textOnly Go.Departure.lateStores }, { on := 3, ground := Go.Ground.textOnly Go.Departure.lateStoresUnsure }, { on := 4, ground := Go.Ground.phase }, { on := 5, ground := Go.Ground.phase }], guard := none }) rfl (fun K hK => ?_) AllReadyH.nil
          ((have hth := Rx.there (bitsA (A % MM)).size (by rw [bitsA_size, zeroA_size]; exact Nat.le_refl _)); (have hinf := bitsA_info (A % MM)); (have hone := bitsA_one (A % MM)); (rw [if_pos (by rfl)]); (with_reducible refine wp_store_mid 85 (.tmp 5) (.tmp 9) ?_ gx 0 (bitsA (A % MM)) ?_ ?_ hth hinf hone ?_); rfl; rfl; rfl; clear hth hinf hone; (have Rxn := Rx.setAll (bitsA (A % MM)) (by rw [bitsA_size, zeroA_size])); clear Rx; (first | (replace Ry := Row.setCells_far (g := gx) (o := 0) (vs := (bitsA (A % MM)).toList) Ry hne) | (replace Ry := Row.setCells_far (g := gx) (o := 0) (vs := (bitsA (A % MM)).toList) Ry hne.symm)); (have Rx := Rxn); clear Rxn; (have s0 := cell_setCells_far (g := gx) (o := 0) (vs := (bitsA (A % MM)).toList) hHeld.1 (by simp; omega)); (have s1 := cell_setCells_far (g := gx) (o := 0) (vs := (bitsA (A % MM)).toList) hHeld.2.1 (by simp; omega)); (have s2 := cell_setCells_far (g := gx) (o := 0) (vs := (bitsA (A % MM)).toList) hHeld.2.2.1 (by simp; omega)); (have s3 := cell_setCells_far (g := gx) (o := 0) (vs := (bitsA (A % MM)).toList) hHeld.2.2.2.1 (by simp; omega)); (have s4 := below_setCells mx (bitsA (A % MM)).toList 0 _ hHeld.2.2.2.2); generalize wq.setCells gx 0 (bitsA (A % MM)).toList = wn at *)
          refine hK.out _ _ ?hSr13_29_6 (fun hHeld2 => ?_)
          case hSr13_29_6 => (exact ⟨s0, s1, s2, s3, s4⟩)
          clear hK K hHeld
          have hHeld := hHeld2
          clear hHeld2
          rename World => wq
          (try simp only [Act.put, List.setIfInBounds_toArray, List.set_cons_zero, List.set_cons_succ])
          refine wpAnyH_ready (rs := [7]) (by kernel_rfl) (by simp) ?_
          refine AllReadyH.cons (o := { dst := none, op := Go.Op.store 85 (Go.Operand.tmp 6) (Go.Operand.tmp 11), type := 0, pos := _, after := #[{ on := 5, ground := Go.Ground.data }, { on := 3, ground := Go.Ground.data }, { on := 6, ground := Go.Ground.chain }, { on := 0, ground := Go.Ground.phase }, { on := 1, ground := Go.Ground.phase }, { on := 2, ground := Go.Ground.phase }, { on := 3, ground := Go.Ground.phase }, { on := 4, ground := Go.Ground.phase }, { on := 5, ground := Go.Ground.phase }, { on := 6, ground := Go.Ground.phase }], guard := none }) rfl (fun K hK => ?_) AllReadyH.nil
          ((have hth := Ry.there (bitsA (B % MM)).size (by rw [bitsA_size, zeroA_size]; exact Nat.le_refl _)); (have hinf := bitsA_info (B % MM)); (have hone := bitsA_one (B % MM)); (rw [if_pos (by rfl)]); (with_reducible refine wp_store_mid 85 (.tmp 6) (.tmp 11) ?_ gy 0 (bitsA (B % MM)) ?_ ?_ hth hinf hone ?_); rfl; rfl; rfl; clear hth hinf hone; (have Ryn := Ry.setAll (bitsA (B % MM)) (by rw [bitsA_size, zeroA_size])); clear Ry; (first | (replace Rx := Row.setCells_far (g := gy) (o := 0) (vs := (bitsA (B % MM)).toList) Rx hne) | (replace Rx := Row.setCells_far (g := gy) (o := 0) (vs := (bitsA (B % MM)).toList) Rx hne.symm)); (have Ry := Ryn); clear Ryn; (have s0 := cell_setCells_far (g := gy) (o := 0) (vs := (bitsA (B % MM)).toList) hHeld.1 (by simp; omega)); (have s1 := cell_setCells_far (g := gy) (o := 0) (vs := (bitsA (B % MM)).toList) hHeld.2.1 (by simp; omega)); (have s2 := cell_setCells_far (g := gy) (o := 0) (vs := (bitsA (B % MM)).toList) hHeld.2.2.1 (by simp; omega)); (have s3 := cell_setCells_far (g := gy) (o := 0) (vs := (bitsA (B % MM)).toList) hHeld.2.2.2.1 (by simp; omega)); (have s4 := below_setCells my (bitsA (B % MM)).toList 0 _ hHeld.2.2.2.2); generalize wq.setCells gy 0 (bitsA (B % MM)).toList = wn at *)
          refine hK.out _ _ ?hSr13_30_7 (fun hHeld2 => ?_)
          case hSr13_30_7 => (exact ⟨s0, s1, s2, s3, s4⟩)
          clear hK K hHeld
          have hHeld := hHeld2
          clear hHeld2
          rename World => wq
          (try simp only [Act.put, List.setIfInBounds_toArray, List.set_cons_zero, List.set_cons_succ])
          refine wpAnyH_done (by kernel_rfl) ?_ _
          (go_wp2_with fail; go_meet; exact ⟨_, _, rfl, rfl, Rx, Ry, (by first | exact hne | exact hne.symm), mx, my, hHeld.2.2.2.2⟩)
    refine AllReadyH.cons (o := { dst := some 5, op := Go.Op.alloc 85, type := 0, pos := _, after := #[], guard := none }) rfl (fun K hK => ?_) ?_
    · (go_simp; (have lx : w.heap.size + 1 < wq.heap.size := World.block_lt_of_cell? _ _ hHeld.2.2.1); (have mx : W0.heap.size ≤ wq.heap.size := hHeld.2.2.2.2.size); (try have hne := Nat.ne_of_lt Ry.lt); (have Rx := Row.new wq Try.zeroCells85 85); (have hb : Below wq.heap.size wq (wq.alloc (.cells Try.zeroCells85 85)) := (Below.refl _ _).alloc (Nat.le_refl _) _); (have s0 := cell_later hb hHeld.1); (have s1 := cell_later hb hHeld.2.1); (have s2 := cell_later hb hHeld.2.2.1); (have s3 := cell_later hb hHeld.2.2.2.1); (have s4 := below_step hHeld.2.2.2.2 hb); (try replace Ry := Ry.later hb); clear hb; generalize wq.alloc (.cells Try.zeroCells85 85) = wn at *; generalize wq.heap.size = gx at *)
      refine hK.out _ _ ?hSr13_31_4 (fun hHeld2 => ?_)
      case hSr13_31_4 => (exact ⟨s0, s1, s2, s3, s4⟩)
      clear hK K hHeld
      have hHeld := hHeld2
      clear hHeld2
      rename World => wq
      (try simp only [Act.put, List.setIfInBounds_toArray, List.set_cons_zero, List.set_cons_succ])
      refine wpAnyH_ready (rs := [1, 5]) (by kernel_rfl) (by simp) ?_
      refine AllReadyH.cons (o := { dst := some 9, op := Go.Op.call { callee := Go.Callee.value (Go.Operand.func 57), args := #[Go.Operand.tmp 8], argTypes := #[27] }, type := 85, pos := _, after := #[{ on := 0, ground := Go.Ground.data }], guard := none }) rfl (fun K hK => ?_) ?_
      · go_simp
        ((refine (bits_h _ _).mono ?_); (rintro e wn ⟨rfl, hb⟩); (try replace Rx := Rx.later hb); (try replace Ry := Ry.later hb))
        go_wp2_with fail
        refine hK.out _ _ ?hSr13_32_1 (fun hHeld2 => ?_)
        case hSr13_32_1 => (first | exact ⟨a0, a1, b0, b1, Below.drew (Below.refl _ _)⟩ | exact ⟨cell_later hb hHeld.1, cell_later hb hHeld.2.1, cell_later hb hHeld.2.2.1, cell_later hb hHeld.2.2.2.1, below_step hHeld.2.2.2.2 hb⟩)
        clear hK K hHeld
        have hHeld := hHeld2
        clear hHeld2
        rename World => wq
        (try simp only [Act.put, List.setIfInBounds_toArray, List.set_cons_zero, List.set_cons_succ])
        refine wpAnyH_ready (rs := [3, 5]) (by kernel_rfl) (by simp) ?_
        refine AllReadyH.cons (o := { dst := some 11, op := Go.Op.call { callee := Go.Callee.value (Go.Operand.func 57), args := #[Go.Operand.tmp 10], argTypes := #[27] }, type := 85, pos := _, after := #[{ on := 2, ground := Go.Ground.data }, { on := 1, ground := Go.Ground.chain }], guard := none }) rfl (fun K hK => ?_) ?_
        · go_simp
          ((refine (bits_h _ _).mono ?_); (rintro e wn ⟨rfl, hb⟩); (try replace Rx := Rx.later hb); (try replace Ry := Ry.later hb))
          go_wp2_with fail
          refine hK.out _ _ ?hSr13_33_3 (fun hHeld2 => ?_)
          case hSr13_33_3 => (first | exact ⟨a0, a1, b0, b1, Below.drew (Below.refl _ _)⟩ | exact ⟨cell_later hb hHeld.1, cell_later hb hHeld.2.1, cell_later hb hHeld.2.2.1, cell_later hb hHeld.2.2.2.1, below_step hHeld.2.2.2.2 hb⟩)
          clear hK K hHeld
          have hHeld := hHeld2
          clear hHeld2
          rename World => wq
          (try simp only [Act.put, List.setIfInBounds_toArray, List.set_cons_zero, List.set_cons_succ])
          refine wpAnyH_ready (rs := [5]) (by kernel_rfl) (by simp) ?_
          refine AllReadyH.cons (o := { dst := some 6, op := Go.Op.alloc 85, type := 0, pos := _, after := #[], guard := none }) rfl (fun K hK => ?_) AllReadyH.nil
          (go_simp; (have ly : w.heap.size + 1 < wq.heap.size := World.block_lt_of_cell? _ _ hHeld.2.2.1); (have my : W0.heap.size ≤ wq.heap.size := hHeld.2.2.2.2.size); (try have hne := Nat.ne_of_lt Rx.lt); (have Ry := Row.new wq Try.zeroCells85 85); (have hb : Below wq.heap.size wq (wq.alloc (.cells Try.zeroCells85 85)) := (Below.refl _ _).alloc (Nat.le_refl _) _); (have s0 := cell_later hb hHeld.1); (have s1 := cell_later hb hHeld.2.1); (have s2 := cell_later hb hHeld.2.2.1); (have s3 := cell_later hb hHeld.2.2.2.1); (have s4 := below_step hHeld.2.2.2.2 hb); (try replace Rx := Rx.later hb); clear hb; generalize wq.alloc (.cells Try.zeroCells85 85) = wn at *; generalize wq.heap.size = gy at *)
          refine hK.out _ _ ?hSr13_34_5 (fun hHeld2 => ?_)
          case hSr13_34_5 => (exact ⟨s0, s1, s2, s3, s4⟩)
          clear hK K hHeld
          have hHeld := hHeld2
          clear hHeld2
          rename World => wq
          (try simp only [Act.put, List.setIfInBounds_toArray, List.set_cons_zero, List.set_cons_succ])
          refine wpAnyH_ready (rs := [6]) (by kernel_rfl) (by simp) ?_
          refine AllReadyH.cons (o := { dst := none, op := Go.Op.store 85 (Go.Operand.tmp 5) (Go.Operand.tmp 9), type := 0, pos := _, after := #[{ on := 4, ground := Go.Ground.data }, { on := 1, ground := Go.Ground.data }, { on := 3, ground := Go.Ground.chain }, { on := 0, ground := Go.Ground.phase }, { on := 1, ground := Go.Ground.phase }, { on := 2, ground := Go.Ground.textOnly Go.Departure.lateStores }, { on := 3, ground := Go.Ground.textOnly Go.Departure.lateStoresUnsure }, { on := 4, ground := Go.Ground.phase }, { on := 5, ground := Go.Ground.phase }], guard := none }) rfl (fun K hK => ?_) AllReadyH.nil
          ((have hth := Rx.there (bitsA (A % MM)).size (by rw [bitsA_size, zeroA_size]; exact Nat.le_refl _)); (have hinf := bitsA_info (A % MM)); (have hone := bitsA_one (A % MM)); (rw [if_pos (by rfl)]); (with_reducible refine wp_store_mid 85 (.tmp 5) (.tmp 9) ?_ gx 0 (bitsA (A % MM)) ?_ ?_ hth hinf hone ?_); rfl; rfl; rfl; clear hth hinf hone; (have Rxn := Rx.setAll (bitsA (A % MM)) (by rw [bitsA_size, zeroA_size])); clear Rx; (first | (replace Ry := Row.setCells_far (g := gx) (o := 0) (vs := (bitsA (A % MM)).toList) Ry hne) | (replace Ry := Row.setCells_far (g := gx) (o := 0) (vs := (bitsA (A % MM)).toList) Ry hne.symm)); (have Rx := Rxn); clear Rxn; (have s0 := cell_setCells_far (g := gx) (o := 0) (vs := (bitsA (A % MM)).toList) hHeld.1 (by simp; omega)); (have s1 := cell_setCells_far (g := gx) (o := 0) (vs := (bitsA (A % MM)).toList) hHeld.2.1 (by simp; omega)); (have s2 := cell_setCells_far (g := gx) (o := 0) (vs := (bitsA (A % MM)).toList) hHeld.2.2.1 (by simp; omega)); (have s3 := cell_setCells_far (g := gx) (o := 0) (vs := (bitsA (A % MM)).toList) hHeld.2.2.2.1 (by simp; omega)); (have s4 := below_setCells mx (bitsA (A % MM)).toList 0 _ hHeld.2.2.2.2); generalize wq.setCells gx 0 (bitsA (A % MM)).toList = wn at *)
          refine hK.out _ _ ?hSr13_35_6 (fun hHeld2 => ?_)
          case hSr13_35_6 => (exact ⟨s0, s1, s2, s3, s4⟩)
          clear hK K hHeld
          have hHeld := hHeld2
          clear hHeld2
          rename World => wq
          (try simp only [Act.put, List.setIfInBounds_toArray, List.set_cons_zero, List.set_cons_succ])
          refine wpAnyH_ready (rs := [7]) (by kernel_rfl) (by simp) ?_
          refine AllReadyH.cons (o := { dst := none, op := Go.Op.store 85 (Go.Operand.tmp 6) (Go.Operand.tmp 11), type := 0, pos := _, after := #[{ on := 5, ground := Go.Ground.data }, { on := 3, ground := Go.Ground.data }, { on := 6, ground := Go.Ground.chain }, { on := 0, ground := Go.Ground.phase }, { on := 1, ground := Go.Ground.phase }, { on := 2, ground := Go.Ground.phase }, { on := 3, ground := Go.Ground.phase }, { on := 4, ground := Go.Ground.phase }, { on := 5, ground := Go.Ground.phase }, { on := 6, ground := Go.Ground.phase }], guard := none }) rfl (fun K hK => ?_) AllReadyH.nil
          ((have hth := Ry.there (bitsA (B % MM)).size (by rw [bitsA_size, zeroA_size]; exact Nat.le_refl _)); (have hinf := bitsA_info (B % MM)); (have hone := bitsA_one (B % MM)); (rw [if_pos (by rfl)]); (with_reducible refine wp_store_mid 85 (.tmp 6) (.tmp 11) ?_ gy 0 (bitsA (B % MM)) ?_ ?_ hth hinf hone ?_); rfl; rfl; rfl; clear hth hinf hone; (have Ryn := Ry.setAll (bitsA (B % MM)) (by rw [bitsA_size, zeroA_size])); clear Ry; (first | (replace Rx := Row.setCells_far (g := gy) (o := 0) (vs := (bitsA (B % MM)).toList) Rx hne) | (replace Rx := Row.setCells_far (g := gy) (o := 0) (vs := (bitsA (B % MM)).toList) Rx hne.symm)); (have Ry := Ryn); clear Ryn; (have s0 := cell_setCells_far (g := gy) (o := 0) (vs := (bitsA (B % MM)).toList) hHeld.1 (by simp; omega)); (have s1 := cell_setCells_far (g := gy) (o := 0) (vs := (bitsA (B % MM)).toList) hHeld.2.1 (by simp; omega)); (have s2 := cell_setCells_far (g := gy) (o := 0) (vs := (bitsA (B % MM)).toList) hHeld.2.2.1 (by simp; omega)); (have s3 := cell_setCells_far (g := gy) (o := 0) (vs := (bitsA (B % MM)).toList) hHeld.2.2.2.1 (by simp; omega)); (have s4 := below_setCells my (bitsA (B % MM)).toList 0 _ hHeld.2.2.2.2); generalize wq.setCells gy 0 (bitsA (B % MM)).toList = wn at *)
          refine hK.out _ _ ?hSr13_36_7 (fun hHeld2 => ?_)
          case hSr13_36_7 => (exact ⟨s0, s1, s2, s3, s4⟩)
          clear hK K hHeld
          have hHeld := hHeld2
          clear hHeld2
          rename World => wq
          (try simp only [Act.put, List.setIfInBounds_toArray, List.set_cons_zero, List.set_cons_succ])
          refine wpAnyH_done (by kernel_rfl) ?_ _
          (go_wp2_with fail; go_meet; exact ⟨_, _, rfl, rfl, Rx, Ry, (by first | exact hne | exact hne.symm), mx, my, hHeld.2.2.2.2⟩)
        refine AllReadyH.cons (o := { dst := some 6, op := Go.Op.alloc 85, type := 0, pos := _, after := #[], guard := none }) rfl (fun K hK => ?_) AllReadyH.nil
        · (go_simp; (have ly : w.heap.size + 1 < wq.heap.size := World.block_lt_of_cell? _ _ hHeld.2.2.1); (have my : W0.heap.size ≤ wq.heap.size := hHeld.2.2.2.2.size); (try have hne := Nat.ne_of_lt Rx.lt); (have Ry := Row.new wq Try.zeroCells85 85); (have hb : Below wq.heap.size wq (wq.alloc (.cells Try.zeroCells85 85)) := (Below.refl _ _).alloc (Nat.le_refl _) _); (have s0 := cell_later hb hHeld.1); (have s1 := cell_later hb hHeld.2.1); (have s2 := cell_later hb hHeld.2.2.1); (have s3 := cell_later hb hHeld.2.2.2.1); (have s4 := below_step hHeld.2.2.2.2 hb); (try replace Rx := Rx.later hb); clear hb; generalize wq.alloc (.cells Try.zeroCells85 85) = wn at *; generalize wq.heap.size = gy at *)
          refine hK.out _ _ ?hSr13_37_5 (fun hHeld2 => ?_)
          case hSr13_37_5 => (exact ⟨s0, s1, s2, s3, s4⟩)
          clear hK K hHeld
          have hHeld := hHeld2
          clear hHeld2
          rename World => wq
          (try simp only [Act.put, List.setIfInBounds_toArray, List.set_cons_zero, List.set_cons_succ])
          refine wpAnyH_ready (rs := [3]) (by kernel_rfl) (by simp) ?_
          refine AllReadyH.cons (o := { dst := some 11, op := Go.Op.call { callee := Go.Callee.value (Go.Operand.func 57), args := #[Go.Operand.tmp 10], argTypes := #[27] }, type := 85, pos := _, after := #[{ on := 2, ground := Go.Ground.data }, { on := 1, ground := Go.Ground.chain }], guard := none }) rfl (fun K hK => ?_) AllReadyH.nil
          go_simp
          ((refine (bits_h _ _).mono ?_); (rintro e wn ⟨rfl, hb⟩); (try replace Rx := Rx.later hb); (try replace Ry := Ry.later hb))
          go_wp2_with fail
          refine hK.out _ _ ?hSr13_38_3 (fun hHeld2 => ?_)
          case hSr13_38_3 => (first | exact ⟨a0, a1, b0, b1, Below.drew (Below.refl _ _)⟩ | exact ⟨cell_later hb hHeld.1, cell_later hb hHeld.2.1, cell_later hb hHeld.2.2.1, cell_later hb hHeld.2.2.2.1, below_step hHeld.2.2.2.2 hb⟩)
          clear hK K hHeld
          have hHeld := hHeld2
          clear hHeld2
          rename World => wq
          (try simp only [Act.put, List.setIfInBounds_toArray, List.set_cons_zero, List.set_cons_succ])
          refine wpAnyH_ready (rs := [6]) (by kernel_rfl) (by simp) ?_
          refine AllReadyH.cons (o := { dst := none, op := Go.Op.store 85 (Go.Operand.tmp 5) (Go.Operand.tmp 9), type := 0, pos := _, after := #[{ on := 4, ground := Go.Ground.data }, { on := 1, ground := Go.Ground.data }, { on := 3, ground := Go.Ground.chain }, { on := 0, ground := Go.Ground.phase }, { on := 1, ground := Go.Ground.phase }, { on := 2, ground := Go.Ground.textOnly Go.Departure.lateStores }, { on := 3, ground := Go.Ground.textOnly Go.Departure.lateStoresUnsure }, { on := 4, ground := Go.Ground.phase }, { on := 5, ground := Go.Ground.phase }], guard := none }) rfl (fun K hK => ?_) AllReadyH.nil
          ((have hth := Rx.there (bitsA (A % MM)).size (by rw [bitsA_size, zeroA_size]; exact Nat.le_refl _)); (have hinf := bitsA_info (A % MM)); (have hone := bitsA_one (A % MM)); (rw [if_pos (by rfl)]); (with_reducible refine wp_store_mid 85 (.tmp 5) (.tmp 9) ?_ gx 0 (bitsA (A % MM)) ?_ ?_ hth hinf hone ?_); rfl; rfl; rfl; clear hth hinf hone; (have Rxn := Rx.setAll (bitsA (A % MM)) (by rw [bitsA_size, zeroA_size])); clear Rx; (first | (replace Ry := Row.setCells_far (g := gx) (o := 0) (vs := (bitsA (A % MM)).toList) Ry hne) | (replace Ry := Row.setCells_far (g := gx) (o := 0) (vs := (bitsA (A % MM)).toList) Ry hne.symm)); (have Rx := Rxn); clear Rxn; (have s0 := cell_setCells_far (g := gx) (o := 0) (vs := (bitsA (A % MM)).toList) hHeld.1 (by simp; omega)); (have s1 := cell_setCells_far (g := gx) (o := 0) (vs := (bitsA (A % MM)).toList) hHeld.2.1 (by simp; omega)); (have s2 := cell_setCells_far (g := gx) (o := 0) (vs := (bitsA (A % MM)).toList) hHeld.2.2.1 (by simp; omega)); (have s3 := cell_setCells_far (g := gx) (o := 0) (vs := (bitsA (A % MM)).toList) hHeld.2.2.2.1 (by simp; omega)); (have s4 := below_setCells mx (bitsA (A % MM)).toList 0 _ hHeld.2.2.2.2); generalize wq.setCells gx 0 (bitsA (A % MM)).toList = wn at *)
          refine hK.out _ _ ?hSr13_39_6 (fun hHeld2 => ?_)
          case hSr13_39_6 => (exact ⟨s0, s1, s2, s3, s4⟩)
          clear hK K hHeld
          have hHeld := hHeld2
          clear hHeld2
          rename World => wq
          (try simp only [Act.put, List.setIfInBounds_toArray, List.set_cons_zero, List.set_cons_succ])
          refine wpAnyH_ready (rs := [7]) (by kernel_rfl) (by simp) ?_
          refine AllReadyH.cons (o := { dst := none, op := Go.Op.store 85 (Go.Operand.tmp 6) (Go.Operand.tmp 11), type := 0, pos := _, after := #[{ on := 5, ground := Go.Ground.data }, { on := 3, ground := Go.Ground.data }, { on := 6, ground := Go.Ground.chain }, { on := 0, ground := Go.Ground.phase }, { on := 1, ground := Go.Ground.phase }, { on := 2, ground := Go.Ground.phase }, { on := 3, ground := Go.Ground.phase }, { on := 4, ground := Go.Ground.phase }, { on := 5, ground := Go.Ground.phase }, { on := 6, ground := Go.Ground.phase }], guard := none }) rfl (fun K hK => ?_) AllReadyH.nil
          ((have hth := Ry.there (bitsA (B % MM)).size (by rw [bitsA_size, zeroA_size]; exact Nat.le_refl _)); (have hinf := bitsA_info (B % MM)); (have hone := bitsA_one (B % MM)); (rw [if_pos (by rfl)]); (with_reducible refine wp_store_mid 85 (.tmp 6) (.tmp 11) ?_ gy 0 (bitsA (B % MM)) ?_ ?_ hth hinf hone ?_); rfl; rfl; rfl; clear hth hinf hone; (have Ryn := Ry.setAll (bitsA (B % MM)) (by rw [bitsA_size, zeroA_size])); clear Ry; (first | (replace Rx := Row.setCells_far (g := gy) (o := 0) (vs := (bitsA (B % MM)).toList) Rx hne) | (replace Rx := Row.setCells_far (g := gy) (o := 0) (vs := (bitsA (B % MM)).toList) Rx hne.symm)); (have Ry := Ryn); clear Ryn; (have s0 := cell_setCells_far (g := gy) (o := 0) (vs := (bitsA (B % MM)).toList) hHeld.1 (by simp; omega)); (have s1 := cell_setCells_far (g := gy) (o := 0) (vs := (bitsA (B % MM)).toList) hHeld.2.1 (by simp; omega)); (have s2 := cell_setCells_far (g := gy) (o := 0) (vs := (bitsA (B % MM)).toList) hHeld.2.2.1 (by simp; omega)); (have s3 := cell_setCells_far (g := gy) (o := 0) (vs := (bitsA (B % MM)).toList) hHeld.2.2.2.1 (by simp; omega)); (have s4 := below_setCells my (bitsA (B % MM)).toList 0 _ hHeld.2.2.2.2); generalize wq.setCells gy 0 (bitsA (B % MM)).toList = wn at *)
          refine hK.out _ _ ?hSr13_40_7 (fun hHeld2 => ?_)
          case hSr13_40_7 => (exact ⟨s0, s1, s2, s3, s4⟩)
          clear hK K hHeld
          have hHeld := hHeld2
          clear hHeld2
          rename World => wq
          (try simp only [Act.put, List.setIfInBounds_toArray, List.set_cons_zero, List.set_cons_succ])
          refine wpAnyH_done (by kernel_rfl) ?_ _
          (go_wp2_with fail; go_meet; exact ⟨_, _, rfl, rfl, Rx, Ry, (by first | exact hne | exact hne.symm), mx, my, hHeld.2.2.2.2⟩)
      refine AllReadyH.cons (o := { dst := some 6, op := Go.Op.alloc 85, type := 0, pos := _, after := #[], guard := none }) rfl (fun K hK => ?_) AllReadyH.nil
      · (go_simp; (have ly : w.heap.size + 1 < wq.heap.size := World.block_lt_of_cell? _ _ hHeld.2.2.1); (have my : W0.heap.size ≤ wq.heap.size := hHeld.2.2.2.2.size); (try have hne := Nat.ne_of_lt Rx.lt); (have Ry := Row.new wq Try.zeroCells85 85); (have hb : Below wq.heap.size wq (wq.alloc (.cells Try.zeroCells85 85)) := (Below.refl _ _).alloc (Nat.le_refl _) _); (have s0 := cell_later hb hHeld.1); (have s1 := cell_later hb hHeld.2.1); (have s2 := cell_later hb hHeld.2.2.1); (have s3 := cell_later hb hHeld.2.2.2.1); (have s4 := below_step hHeld.2.2.2.2 hb); (try replace Rx := Rx.later hb); clear hb; generalize wq.alloc (.cells Try.zeroCells85 85) = wn at *; generalize wq.heap.size = gy at *)
        refine hK.out _ _ ?hSr13_41_5 (fun hHeld2 => ?_)
        case hSr13_41_5 => (exact ⟨s0, s1, s2, s3, s4⟩)
        clear hK K hHeld
        have hHeld := hHeld2
        clear hHeld2
        rename World => wq
        (try simp only [Act.put, List.setIfInBounds_toArray, List.set_cons_zero, List.set_cons_succ])
        refine wpAnyH_ready (rs := [1]) (by kernel_rfl) (by simp) ?_
        refine AllReadyH.cons (o := { dst := some 9, op := Go.Op.call { callee := Go.Callee.value (Go.Operand.func 57), args := #[Go.Operand.tmp 8], argTypes := #[27] }, type := 85, pos := _, after := #[{ on := 0, ground := Go.Ground.data }], guard := none }) rfl (fun K hK => ?_) AllReadyH.nil
        go_simp
        ((refine (bits_h _ _).mono ?_); (rintro e wn ⟨rfl, hb⟩); (try replace Rx := Rx.later hb); (try replace Ry := Ry.later hb))
        go_wp2_with fail
        refine hK.out _ _ ?hSr13_42_1 (fun hHeld2 => ?_)
        case hSr13_42_1 => (first | exact ⟨a0, a1, b0, b1, Below.drew (Below.refl _ _)⟩ | exact ⟨cell_later hb hHeld.1, cell_later hb hHeld.2.1, cell_later hb hHeld.2.2.1, cell_later hb hHeld.2.2.2.1, below_step hHeld.2.2.2.2 hb⟩)
        clear hK K hHeld
        have hHeld := hHeld2
        clear hHeld2
        rename World => wq
        (try simp only [Act.put, List.setIfInBounds_toArray, List.set_cons_zero, List.set_cons_succ])
        refine wpAnyH_ready (rs := [3]) (by kernel_rfl) (by simp) ?_
        refine AllReadyH.cons (o := { dst := some 11, op := Go.Op.call { callee := Go.Callee.value (Go.Operand.func 57), args := #[Go.Operand.tmp 10], argTypes := #[27] }, type := 85, pos := _, after := #[{ on := 2, ground := Go.Ground.data }, { on := 1, ground := Go.Ground.chain }], guard := none }) rfl (fun K hK => ?_) AllReadyH.nil
        go_simp
        ((refine (bits_h _ _).mono ?_); (rintro e wn ⟨rfl, hb⟩); (try replace Rx := Rx.later hb); (try replace Ry := Ry.later hb))
        go_wp2_with fail
        refine hK.out _ _ ?hSr13_43_3 (fun hHeld2 => ?_)
        case hSr13_43_3 => (first | exact ⟨a0, a1, b0, b1, Below.drew (Below.refl _ _)⟩ | exact ⟨cell_later hb hHeld.1, cell_later hb hHeld.2.1, cell_later hb hHeld.2.2.1, cell_later hb hHeld.2.2.2.1, below_step hHeld.2.2.2.2 hb⟩)
        clear hK K hHeld
        have hHeld := hHeld2
        clear hHeld2
        rename World => wq
        (try simp only [Act.put, List.setIfInBounds_toArray, List.set_cons_zero, List.set_cons_succ])
        refine wpAnyH_ready (rs := [6]) (by kernel_rfl) (by simp) ?_
        refine AllReadyH.cons (o := { dst := none, op := Go.Op.store 85 (Go.Operand.tmp 5) (Go.Operand.tmp 9), type := 0, pos := _, after := #[{ on := 4, ground := Go.Ground.data }, { on := 1, ground := Go.Ground.data }, { on := 3, ground := Go.Ground.chain }, { on := 0, ground := Go.Ground.phase }, { on := 1, ground := Go.Ground.phase }, { on := 2, ground := Go.Ground.textOnly Go.Departure.lateStores }, { on := 3, ground := Go.Ground.textOnly Go.Departure.lateStoresUnsure }, { on := 4, ground := Go.Ground.phase }, { on := 5, ground := Go.Ground.phase }], guard := none }) rfl (fun K hK => ?_) AllReadyH.nil
        ((have hth := Rx.there (bitsA (A % MM)).size (by rw [bitsA_size, zeroA_size]; exact Nat.le_refl _)); (have hinf := bitsA_info (A % MM)); (have hone := bitsA_one (A % MM)); (rw [if_pos (by rfl)]); (with_reducible refine wp_store_mid 85 (.tmp 5) (.tmp 9) ?_ gx 0 (bitsA (A % MM)) ?_ ?_ hth hinf hone ?_); rfl; rfl; rfl; clear hth hinf hone; (have Rxn := Rx.setAll (bitsA (A % MM)) (by rw [bitsA_size, zeroA_size])); clear Rx; (first | (replace Ry := Row.setCells_far (g := gx) (o := 0) (vs := (bitsA (A % MM)).toList) Ry hne) | (replace Ry := Row.setCells_far (g := gx) (o := 0) (vs := (bitsA (A % MM)).toList) Ry hne.symm)); (have Rx := Rxn); clear Rxn; (have s0 := cell_setCells_far (g := gx) (o := 0) (vs := (bitsA (A % MM)).toList) hHeld.1 (by simp; omega)); (have s1 := cell_setCells_far (g := gx) (o := 0) (vs := (bitsA (A % MM)).toList) hHeld.2.1 (by simp; omega)); (have s2 := cell_setCells_far (g := gx) (o := 0) (vs := (bitsA (A % MM)).toList) hHeld.2.2.1 (by simp; omega)); (have s3 := cell_setCells_far (g := gx) (o := 0) (vs := (bitsA (A % MM)).toList) hHeld.2.2.2.1 (by simp; omega)); (have s4 := below_setCells mx (bitsA (A % MM)).toList 0 _ hHeld.2.2.2.2); generalize wq.setCells gx 0 (bitsA (A % MM)).toList = wn at *)
        refine hK.out _ _ ?hSr13_44_6 (fun hHeld2 => ?_)
        case hSr13_44_6 => (exact ⟨s0, s1, s2, s3, s4⟩)
        clear hK K hHeld
        have hHeld := hHeld2
        clear hHeld2
        rename World => wq
        (try simp only [Act.put, List.setIfInBounds_toArray, List.set_cons_zero, List.set_cons_succ])
        refine wpAnyH_ready (rs := [7]) (by kernel_rfl) (by simp) ?_
        refine AllReadyH.cons (o := { dst := none, op := Go.Op.store 85 (Go.Operand.tmp 6) (Go.Operand.tmp 11), type := 0, pos := _, after := #[{ on := 5, ground := Go.Ground.data }, { on := 3, ground := Go.Ground.data }, { on := 6, ground := Go.Ground.chain }, { on := 0, ground := Go.Ground.phase }, { on := 1, ground := Go.Ground.phase }, { on := 2, ground := Go.Ground.phase }, { on := 3, ground := Go.Ground.phase }, { on := 4, ground := Go.Ground.phase }, { on := 5, ground := Go.Ground.phase }, { on := 6, ground := Go.Ground.phase }], guard := none }) rfl (fun K hK => ?_) AllReadyH.nil
        ((have hth := Ry.there (bitsA (B % MM)).size (by rw [bitsA_size, zeroA_size]; exact Nat.le_refl _)); (have hinf := bitsA_info (B % MM)); (have hone := bitsA_one (B % MM)); (rw [if_pos (by rfl)]); (with_reducible refine wp_store_mid 85 (.tmp 6) (.tmp 11) ?_ gy 0 (bitsA (B % MM)) ?_ ?_ hth hinf hone ?_); rfl; rfl; rfl; clear hth hinf hone; (have Ryn := Ry.setAll (bitsA (B % MM)) (by rw [bitsA_size, zeroA_size])); clear Ry; (first | (replace Rx := Row.setCells_far (g := gy) (o := 0) (vs := (bitsA (B % MM)).toList) Rx hne) | (replace Rx := Row.setCells_far (g := gy) (o := 0) (vs := (bitsA (B % MM)).toList) Rx hne.symm)); (have Ry := Ryn); clear Ryn; (have s0 := cell_setCells_far (g := gy) (o := 0) (vs := (bitsA (B % MM)).toList) hHeld.1 (by simp; omega)); (have s1 := cell_setCells_far (g := gy) (o := 0) (vs := (bitsA (B % MM)).toList) hHeld.2.1 (by simp; omega)); (have s2 := cell_setCells_far (g := gy) (o := 0) (vs := (bitsA (B % MM)).toList) hHeld.2.2.1 (by simp; omega)); (have s3 := cell_setCells_far (g := gy) (o := 0) (vs := (bitsA (B % MM)).toList) hHeld.2.2.2.1 (by simp; omega)); (have s4 := below_setCells my (bitsA (B % MM)).toList 0 _ hHeld.2.2.2.2); generalize wq.setCells gy 0 (bitsA (B % MM)).toList = wn at *)
        refine hK.out _ _ ?hSr13_45_7 (fun hHeld2 => ?_)
        case hSr13_45_7 => (exact ⟨s0, s1, s2, s3, s4⟩)
        clear hK K hHeld
        have hHeld := hHeld2
        clear hHeld2
        rename World => wq
        (try simp only [Act.put, List.setIfInBounds_toArray, List.set_cons_zero, List.set_cons_succ])
        refine wpAnyH_done (by kernel_rfl) ?_ _
        (go_wp2_with fail; go_meet; exact ⟨_, _, rfl, rfl, Rx, Ry, (by first | exact hne | exact hne.symm), mx, my, hHeld.2.2.2.2⟩)
    refine AllReadyH.cons (o := { dst := some 6, op := Go.Op.alloc 85, type := 0, pos := _, after := #[], guard := none }) rfl (fun K hK => ?_) AllReadyH.nil
    · (go_simp; (have ly : w.heap.size + 1 < wq.heap.size := World.block_lt_of_cell? _ _ hHeld.2.2.1); (have my : W0.heap.size ≤ wq.heap.size := hHeld.2.2.2.2.size); (try have hne := Nat.ne_of_lt Rx.lt); (have Ry := Row.new wq Try.zeroCells85 85); (have hb : Below wq.heap.size wq (wq.alloc (.cells Try.zeroCells85 85)) := (Below.refl _ _).alloc (Nat.le_refl _) _); (have s0 := cell_later hb hHeld.1); (have s1 := cell_later hb hHeld.2.1); (have s2 := cell_later hb hHeld.2.2.1); (have s3 := cell_later hb hHeld.2.2.2.1); (have s4 := below_step hHeld.2.2.2.2 hb); (try replace Rx := Rx.later hb); clear hb; generalize wq.alloc (.cells Try.zeroCells85 85) = wn at *; generalize wq.heap.size = gy at *)
      refine hK.out _ _ ?hSr13_46_5 (fun hHeld2 => ?_)
      case hSr13_46_5 => (exact ⟨s0, s1, s2, s3, s4⟩)
      clear hK K hHeld
      have hHeld := hHeld2
      clear hHeld2
      rename World => wq
      (try simp only [Act.put, List.setIfInBounds_toArray, List.set_cons_zero, List.set_cons_succ])
      refine wpAnyH_ready (rs := [1, 4]) (by kernel_rfl) (by simp) ?_
      refine AllReadyH.cons (o := { dst := some 9, op := Go.Op.call { callee := Go.Callee.value (Go.Operand.func 57), args := #[Go.Operand.tmp 8], argTypes := #[27] }, type := 85, pos := _, after := #[{ on := 0, ground := Go.Ground.data }], guard := none }) rfl (fun K hK => ?_) ?_
      · go_simp
        ((refine (bits_h _ _).mono ?_); (rintro e wn ⟨rfl, hb⟩); (try replace Rx := Rx.later hb); (try replace Ry := Ry.later hb))
        go_wp2_with fail
        refine hK.out _ _ ?hSr13_47_1 (fun hHeld2 => ?_)
        case hSr13_47_1 => (first | exact ⟨a0, a1, b0, b1, Below.drew (Below.refl _ _)⟩ | exact ⟨cell_later hb hHeld.1, cell_later hb hHeld.2.1, cell_later hb hHeld.2.2.1, cell_later hb hHeld.2.2.2.1, below_step hHeld.2.2.2.2 hb⟩)
        clear hK K hHeld
        have hHeld := hHeld2
        clear hHeld2
        rename World => wq
        (try simp only [Act.put, List.setIfInBounds_toArray, List.set_cons_zero, List.set_cons_succ])
        refine wpAnyH_ready (rs := [3, 4]) (by kernel_rfl) (by simp) ?_
        refine AllReadyH.cons (o := { dst := some 11, op := Go.Op.call { callee := Go.Callee.value (Go.Operand.func 57), args := #[Go.Operand.tmp 10], argTypes := #[27] }, type := 85, pos := _, after := #[{ on := 2, ground := Go.Ground.data }, { on := 1, ground := Go.Ground.chain }], guard := none }) rfl (fun K hK => ?_) ?_
        · go_simp
          ((refine (bits_h _ _).mono ?_); (rintro e wn ⟨rfl, hb⟩); (try replace Rx := Rx.later hb); (try replace Ry := Ry.later hb))
          go_wp2_with fail
          refine hK.out _ _ ?hSr13_48_3 (fun hHeld2 => ?_)
          case hSr13_48_3 => (first | exact ⟨a0, a1, b0, b1, Below.drew (Below.refl _ _)⟩ | exact ⟨cell_later hb hHeld.1, cell_later hb hHeld.2.1, cell_later hb hHeld.2.2.1, cell_later hb hHeld.2.2.2.1, below_step hHeld.2.2.2.2 hb⟩)
          clear hK K hHeld
          have hHeld := hHeld2
          clear hHeld2
          rename World => wq
          (try simp only [Act.put, List.setIfInBounds_toArray, List.set_cons_zero, List.set_cons_succ])
          refine wpAnyH_ready (rs := [4]) (by kernel_rfl) (by simp) ?_
          refine AllReadyH.cons (o := { dst := some 5, op := Go.Op.alloc 85, type := 0, pos := _, after := #[], guard := none }) rfl (fun K hK => ?_) AllReadyH.nil
          (go_simp; (have lx : w.heap.size + 1 < wq.heap.size := World.block_lt_of_cell? _ _ hHeld.2.2.1); (have mx : W0.heap.size ≤ wq.heap.size := hHeld.2.2.2.2.size); (try have hne := Nat.ne_of_lt Ry.lt); (have Rx := Row.new wq Try.zeroCells85 85); (have hb : Below wq.heap.size wq (wq.alloc (.cells Try.zeroCells85 85)) := (Below.refl _ _).alloc (Nat.le_refl _) _); (have s0 := cell_later hb hHeld.1); (have s1 := cell_later hb hHeld.2.1); (have s2 := cell_later hb hHeld.2.2.1); (have s3 := cell_later hb hHeld.2.2.2.1); (have s4 := below_step hHeld.2.2.2.2 hb); (try replace Ry := Ry.later hb); clear hb; generalize wq.alloc (.cells Try.zeroCells85 85) = wn at *; generalize wq.heap.size = gx at *)
          refine hK.out _ _ ?hSr13_49_4 (fun hHeld2 => ?_)
          case hSr13_49_4 => (exact ⟨s0, s1, s2, s3, s4⟩)
          clear hK K hHeld
          have hHeld := hHeld2
          clear hHeld2
          rename World => wq
          (try simp only [Act.put, List.setIfInBounds_toArray, List.set_cons_zero, List.set_cons_succ])
          refine wpAnyH_ready (rs := [6]) (by kernel_rfl) (by simp) ?_
          refine AllReadyH.cons (o := { dst := none, op := Go.Op.store 85 (Go.Operand.tmp 5) (Go.Operand.tmp 9), type := 0, pos := _, after := #[{ on := 4, ground := Go.Ground.data }, { on := 1, ground := Go.Ground.data }, { on := 3, ground := Go.Ground.chain }, { on := 0, ground := Go.Ground.phase }, { on := 1, ground := Go.Ground.phase }, { on := 2, ground := Go.Ground.textOnly Go.Departure.lateStores }, { on := 3, ground := Go.Ground.textOnly Go.Departure.lateStoresUnsure }, { on := 4, ground := Go.Ground.phase }, { on := 5, ground := Go.Ground.phase }], guard := none }) rfl (fun K hK => ?_) AllReadyH.nil
          ((have hth := Rx.there (bitsA (A % MM)).size (by rw [bitsA_size, zeroA_size]; exact Nat.le_refl _)); (have hinf := bitsA_info (A % MM)); (have hone := bitsA_one (A % MM)); (rw [if_pos (by rfl)]); (with_reducible refine wp_store_mid 85 (.tmp 5) (.tmp 9) ?_ gx 0 (bitsA (A % MM)) ?_ ?_ hth hinf hone ?_); rfl; rfl; rfl; clear hth hinf hone; (have Rxn := Rx.setAll (bitsA (A % MM)) (by rw [bitsA_size, zeroA_size])); clear Rx; (first | (replace Ry := Row.setCells_far (g := gx) (o := 0) (vs := (bitsA (A % MM)).toList) Ry hne) | (replace Ry := Row.setCells_far (g := gx) (o := 0) (vs := (bitsA (A % MM)).toList) Ry hne.symm)); (have Rx := Rxn); clear Rxn; (have s0 := cell_setCells_far (g := gx) (o := 0) (vs := (bitsA (A % MM)).toList) hHeld.1 (by simp; omega)); (have s1 := cell_setCells_far (g := gx) (o := 0) (vs := (bitsA (A % MM)).toList) hHeld.2.1 (by simp; omega)); (have s2 := cell_setCells_far (g := gx) (o := 0) (vs := (bitsA (A % MM)).toList) hHeld.2.2.1 (by simp; omega)); (have s3 := cell_setCells_far (g := gx) (o := 0) (vs := (bitsA (A % MM)).toList) hHeld.2.2.2.1 (by simp; omega)); (have s4 := below_setCells mx (bitsA (A % MM)).toList 0 _ hHeld.2.2.2.2); generalize wq.setCells gx 0 (bitsA (A % MM)).toList = wn at *)
          refine hK.out _ _ ?hSr13_50_6 (fun hHeld2 => ?_)
          case hSr13_50_6 => (exact ⟨s0, s1, s2, s3, s4⟩)
          clear hK K hHeld
          have hHeld := hHeld2
          clear hHeld2
          rename World => wq
          (try simp only [Act.put, List.setIfInBounds_toArray, List.set_cons_zero, List.set_cons_succ])
          refine wpAnyH_ready (rs := [7]) (by kernel_rfl) (by simp) ?_
          refine AllReadyH.cons (o := { dst := none, op := Go.Op.store 85 (Go.Operand.tmp 6) (Go.Operand.tmp 11), type := 0, pos := _, after := #[{ on := 5, ground := Go.Ground.data }, { on := 3, ground := Go.Ground.data }, { on := 6, ground := Go.Ground.chain }, { on := 0, ground := Go.Ground.phase }, { on := 1, ground := Go.Ground.phase }, { on := 2, ground := Go.Ground.phase }, { on := 3, ground := Go.Ground.phase }, { on := 4, ground := Go.Ground.phase }, { on := 5, ground := Go.Ground.phase }, { on := 6, ground := Go.Ground.phase }], guard := none }) rfl (fun K hK => ?_) AllReadyH.nil
          ((have hth := Ry.there (bitsA (B % MM)).size (by rw [bitsA_size, zeroA_size]; exact Nat.le_refl _)); (have hinf := bitsA_info (B % MM)); (have hone := bitsA_one (B % MM)); (rw [if_pos (by rfl)]); (with_reducible refine wp_store_mid 85 (.tmp 6) (.tmp 11) ?_ gy 0 (bitsA (B % MM)) ?_ ?_ hth hinf hone ?_); rfl; rfl; rfl; clear hth hinf hone; (have Ryn := Ry.setAll (bitsA (B % MM)) (by rw [bitsA_size, zeroA_size])); clear Ry; (first | (replace Rx := Row.setCells_far (g := gy) (o := 0) (vs := (bitsA (B % MM)).toList) Rx hne) | (replace Rx := Row.setCells_far (g := gy) (o := 0) (vs := (bitsA (B % MM)).toList) Rx hne.symm)); (have Ry := Ryn); clear Ryn; (have s0 := cell_setCells_far (g := gy) (o := 0) (vs := (bitsA (B % MM)).toList) hHeld.1 (by simp; omega)); (have s1 := cell_setCells_far (g := gy) (o := 0) (vs := (bitsA (B % MM)).toList) hHeld.2.1 (by simp; omega)); (have s2 := cell_setCells_far (g := gy) (o := 0) (vs := (bitsA (B % MM)).toList) hHeld.2.2.1 (by simp; omega)); (have s3 := cell_setCells_far (g := gy) (o := 0) (vs := (bitsA (B % MM)).toList) hHeld.2.2.2.1 (by simp; omega)); (have s4 := below_setCells my (bitsA (B % MM)).toList 0 _ hHeld.2.2.2.2); generalize wq.setCells gy 0 (bitsA (B % MM)).toList = wn at *)
          refine hK.out _ _ ?hSr13_51_7 (fun hHeld2 => ?_)
          case hSr13_51_7 => (exact ⟨s0, s1, s2, s3, s4⟩)
          clear hK K hHeld
          have hHeld := hHeld2
          clear hHeld2
          rename World => wq
          (try simp only [Act.put, List.setIfInBounds_toArray, List.set_cons_zero, List.set_cons_succ])
          refine wpAnyH_done (by kernel_rfl) ?_ _
          (go_wp2_with fail; go_meet; exact ⟨_, _, rfl, rfl, Rx, Ry, (by first | exact hne | exact hne.symm), mx, my, hHeld.2.2.2.2⟩)
        refine AllReadyH.cons (o := { dst := some 5, op := Go.Op.alloc 85, type := 0, pos := _, after := #[], guard := none }) rfl (fun K hK => ?_) AllReadyH.nil
        · (go_simp; (have lx : w.heap.size + 1 < wq.heap.size := World.block_lt_of_cell? _ _ hHeld.2.2.1); (have mx : W0.heap.size ≤ wq.heap.size := hHeld.2.2.2.2.size); (try have hne := Nat.ne_of_lt Ry.lt); (have Rx := Row.new wq Try.zeroCells85 85); (have hb : Below wq.heap.size wq (wq.alloc (.cells Try.zeroCells85 85)) := (Below.refl _ _).alloc (Nat.le_refl _) _); (have s0 := cell_later hb hHeld.1); (have s1 := cell_later hb hHeld.2.1); (have s2 := cell_later hb hHeld.2.2.1); (have s3 := cell_later hb hHeld.2.2.2.1); (have s4 := below_step hHeld.2.2.2.2 hb); (try replace Ry := Ry.later hb); clear hb; generalize wq.alloc (.cells Try.zeroCells85 85) = wn at *; generalize wq.heap.size = gx at *)
          refine hK.out _ _ ?hSr13_52_4 (fun hHeld2 => ?_)
          case hSr13_52_4 => (exact ⟨s0, s1, s2, s3, s4⟩)
          clear hK K hHeld
          have hHeld := hHeld2
          clear hHeld2
          rename World => wq
          (try simp only [Act.put, List.setIfInBounds_toArray, List.set_cons_zero, List.set_cons_succ])
          refine wpAnyH_ready (rs := [3]) (by kernel_rfl) (by simp) ?_
          refine AllReadyH.cons (o := { dst := some 11, op := Go.Op.call { callee := Go.Callee.value (Go.Operand.func 57), args := #[Go.Operand.tmp 10], argTypes := #[27] }, type := 85, pos := _, after := #[{ on := 2, ground := Go.Ground.data }, { on := 1, ground := Go.Ground.chain }], guard := none }) rfl (fun K hK => ?_) AllReadyH.nil
          go_simp
          ((refine (bits_h _ _).mono ?_); (rintro e wn ⟨rfl, hb⟩); (try replace Rx := Rx.later hb); (try replace Ry := Ry.later hb))
          go_wp2_with fail
          refine hK.out _ _ ?hSr13_53_3 (fun hHeld2 => ?_)
          case hSr13_53_3 => (first | exact ⟨a0, a1, b0, b1, Below.drew (Below.refl _ _)⟩ | exact ⟨cell_later hb hHeld.1, cell_later hb hHeld.2.1, cell_later hb hHeld.2.2.1, cell_later hb hHeld.2.2.2.1, below_step hHeld.2.2.2.2 hb⟩)
          clear hK K hHeld
          have hHeld := hHeld2
          clear hHeld2
          rename World => wq
          (try simp only [Act.put, List.setIfInBounds_toArray, List.set_cons_zero, List.set_cons_succ])
          refine wpAnyH_ready (rs := [6]) (by kernel_rfl) (by simp) ?_
          refine AllReadyH.cons (o := { dst := none, op := Go.Op.store 85 (Go.Operand.tmp 5) (Go.Operand.tmp 9), type := 0, pos := _, after := #[{ on := 4, ground := Go.Ground.data }, { on := 1, ground := Go.Ground.data }, { on := 3, ground := Go.Ground.chain }, { on := 0, ground := Go.Ground.phase }, { on := 1, ground := Go.Ground.phase }, { on := 2, ground := Go.Ground.textOnly Go.Departure.lateStores }, { on := 3, ground := Go.Ground.textOnly Go.Departure.lateStoresUnsure }, { on := 4, ground := Go.Ground.phase }, { on := 5, ground := Go.Ground.phase }], guard := none }) rfl (fun K hK => ?_) AllReadyH.nil
          ((have hth := Rx.there (bitsA (A % MM)).size (by rw [bitsA_size, zeroA_size]; exact Nat.le_refl _)); (have hinf := bitsA_info (A % MM)); (have hone := bitsA_one (A % MM)); (rw [if_pos (by rfl)]); (with_reducible refine wp_store_mid 85 (.tmp 5) (.tmp 9) ?_ gx 0 (bitsA (A % MM)) ?_ ?_ hth hinf hone ?_); rfl; rfl; rfl; clear hth hinf hone; (have Rxn := Rx.setAll (bitsA (A % MM)) (by rw [bitsA_size, zeroA_size])); clear Rx; (first | (replace Ry := Row.setCells_far (g := gx) (o := 0) (vs := (bitsA (A % MM)).toList) Ry hne) | (replace Ry := Row.setCells_far (g := gx) (o := 0) (vs := (bitsA (A % MM)).toList) Ry hne.symm)); (have Rx := Rxn); clear Rxn; (have s0 := cell_setCells_far (g := gx) (o := 0) (vs := (bitsA (A % MM)).toList) hHeld.1 (by simp; omega)); (have s1 := cell_setCells_far (g := gx) (o := 0) (vs := (bitsA (A % MM)).toList) hHeld.2.1 (by simp; omega)); (have s2 := cell_setCells_far (g := gx) (o := 0) (vs := (bitsA (A % MM)).toList) hHeld.2.2.1 (by simp; omega)); (have s3 := cell_setCells_far (g := gx) (o := 0) (vs := (bitsA (A % MM)).toList) hHeld.2.2.2.1 (by simp; omega)); (have s4 := below_setCells mx (bitsA (A % MM)).toList 0 _ hHeld.2.2.2.2); generalize wq.setCells gx 0 (bitsA (A % MM)).toList = wn at *)
          refine hK.out _ _ ?hSr13_54_6 (fun hHeld2 => ?_)
          case hSr13_54_6 => (exact ⟨s0, s1, s2, s3, s4⟩)
          clear hK K hHeld
          have hHeld := hHeld2
          clear hHeld2
          rename World => wq
          (try simp only [Act.put, List.setIfInBounds_toArray, List.set_cons_zero, List.set_cons_succ])
          refine wpAnyH_ready (rs := [7]) (by kernel_rfl) (by simp) ?_
          refine AllReadyH.cons (o := { dst := none, op := Go.Op.store 85 (Go.Operand.tmp 6) (Go.Operand.tmp 11), type := 0, pos := _, after := #[{ on := 5, ground := Go.Ground.data }, { on := 3, ground := Go.Ground.data }, { on := 6, ground := Go.Ground.chain }, { on := 0, ground := Go.Ground.phase }, { on := 1, ground := Go.Ground.phase }, { on := 2, ground := Go.Ground.phase }, { on := 3, ground := Go.Ground.phase }, { on := 4, ground := Go.Ground.phase }, { on := 5, ground := Go.Ground.phase }, { on := 6, ground := Go.Ground.phase }], guard := none }) rfl (fun K hK => ?_) AllReadyH.nil
          ((have hth := Ry.there (bitsA (B % MM)).size (by rw [bitsA_size, zeroA_size]; exact Nat.le_refl _)); (have hinf := bitsA_info (B % MM)); (have hone := bitsA_one (B % MM)); (rw [if_pos (by rfl)]); (with_reducible refine wp_store_mid 85 (.tmp 6) (.tmp 11) ?_ gy 0 (bitsA (B % MM)) ?_ ?_ hth hinf hone ?_); rfl; rfl; rfl; clear hth hinf hone; (have Ryn := Ry.setAll (bitsA (B % MM)) (by rw [bitsA_size, zeroA_size])); clear Ry; (first | (replace Rx := Row.setCells_far (g := gy) (o := 0) (vs := (bitsA (B % MM)).toList) Rx hne) | (replace Rx := Row.setCells_far (g := gy) (o := 0) (vs := (bitsA (B % MM)).toList) Rx hne.symm)); (have Ry := Ryn); clear Ryn; (have s0 := cell_setCells_far (g := gy) (o := 0) (vs := (bitsA (B % MM)).toList) hHeld.1 (by simp; omega)); (have s1 := cell_setCells_far (g := gy) (o := 0) (vs := (bitsA (B % MM)).toList) hHeld.2.1 (by simp; omega)); (have s2 := cell_setCells_far (g := gy) (o := 0) (vs := (bitsA (B % MM)).toList) hHeld.2.2.1 (by simp; omega)); (have s3 := cell_setCells_far (g := gy) (o := 0) (vs := (bitsA (B % MM)).toList) hHeld.2.2.2.1 (by simp; omega)); (have s4 := below_setCells my (bitsA (B % MM)).toList 0 _ hHeld.2.2.2.2); generalize wq.setCells gy 0 (bitsA (B % MM)).toList = wn at *)
          refine hK.out _ _ ?hSr13_55_7 (fun hHeld2 => ?_)
          case hSr13_55_7 => (exact ⟨s0, s1, s2, s3, s4⟩)
          clear hK K hHeld
          have hHeld := hHeld2
          clear hHeld2
          rename World => wq
          (try simp only [Act.put, List.setIfInBounds_toArray, List.set_cons_zero, List.set_cons_succ])
          refine wpAnyH_done (by kernel_rfl) ?_ _
          (go_wp2_with fail; go_meet; exact ⟨_, _, rfl, rfl, Rx, Ry, (by first | exact hne | exact hne.symm), mx, my, hHeld.2.2.2.2⟩)
      refine AllReadyH.cons (o := { dst := some 5, op := Go.Op.alloc 85, type := 0, pos := _, after := #[], guard := none }) rfl (fun K hK => ?_) AllReadyH.nil
      · (go_simp; (have lx : w.heap.size + 1 < wq.heap.size := World.block_lt_of_cell? _ _ hHeld.2.2.1); (have mx : W0.heap.size ≤ wq.heap.size := hHeld.2.2.2.2.size); (try have hne := Nat.ne_of_lt Ry.lt); (have Rx := Row.new wq Try.zeroCells85 85); (have hb : Below wq.heap.size wq (wq.alloc (.cells Try.zeroCells85 85)) := (Below.refl _ _).alloc (Nat.le_refl _) _); (have s0 := cell_later hb hHeld.1); (have s1 := cell_later hb hHeld.2.1); (have s2 := cell_later hb hHeld.2.2.1); (have s3 := cell_later hb hHeld.2.2.2.1); (have s4 := below_step hHeld.2.2.2.2 hb); (try replace Ry := Ry.later hb); clear hb; generalize wq.alloc (.cells Try.zeroCells85 85) = wn at *; generalize wq.heap.size = gx at *)
        refine hK.out _ _ ?hSr13_56_4 (fun hHeld2 => ?_)
        case hSr13_56_4 => (exact ⟨s0, s1, s2, s3, s4⟩)
        clear hK K hHeld
        have hHeld := hHeld2
        clear hHeld2
        rename World => wq
        (try simp only [Act.put, List.setIfInBounds_toArray, List.set_cons_zero, List.set_cons_succ])
        refine wpAnyH_ready (rs := [1]) (by kernel_rfl) (by simp) ?_
        refine AllReadyH.cons (o := { dst := some 9, op := Go.Op.call { callee := Go.Callee.value (Go.Operand.func 57), args := #[Go.Operand.tmp 8], argTypes := #[27] }, type := 85, pos := _, after := #[{ on := 0, ground := Go.Ground.data }], guard := none }) rfl (fun K hK => ?_) AllReadyH.nil
        go_simp
        ((refine (bits_h _ _).mono ?_); (rintro e wn ⟨rfl, hb⟩); (try replace Rx := Rx.later hb); (try replace Ry := Ry.later hb))
        go_wp2_with fail
        refine hK.out _ _ ?hSr13_57_1 (fun hHeld2 => ?_)
        case hSr13_57_1 => (first | exact ⟨a0, a1, b0, b1, Below.drew (Below.refl _ _)⟩ | exact ⟨cell_later hb hHeld.1, cell_later hb hHeld.2.1, cell_later hb hHeld.2.2.1, cell_later hb hHeld.2.2.2.1, below_step hHeld.2.2.2.2 hb⟩)
        clear hK K hHeld
        have hHeld := hHeld2
        clear hHeld2
        rename World => wq
        (try simp only [Act.put, List.setIfInBounds_toArray, List.set_cons_zero, List.set_cons_succ])
        refine wpAnyH_ready (rs := [3]) (by kernel_rfl) (by simp) ?_
        refine AllReadyH.cons (o := { dst := some 11, op := Go.Op.call { callee := Go.Callee.value (Go.Operand.func 57), args := #[Go.Operand.tmp 10], argTypes := #[27] }, type := 85, pos := _, after := #[{ on := 2, ground := Go.Ground.data }, { on := 1, ground := Go.Ground.chain }], guard := none }) rfl (fun K hK => ?_) AllReadyH.nil
        go_simp
        ((refine (bits_h _ _).mono ?_); (rintro e wn ⟨rfl, hb⟩); (try replace Rx := Rx.later hb); (try replace Ry := Ry.later hb))
        go_wp2_with fail
        refine hK.out _ _ ?hSr13_58_3 (fun hHeld2 => ?_)
        case hSr13_58_3 => (first | exact ⟨a0, a1, b0, b1, Below.drew (Below.refl _ _)⟩ | exact ⟨cell_later hb hHeld.1, cell_later hb hHeld.2.1, cell_later hb hHeld.2.2.1, cell_later hb hHeld.2.2.2.1, below_step hHeld.2.2.2.2 hb⟩)
        clear hK K hHeld
        have hHeld := hHeld2
        clear hHeld2
        rename World => wq
        (try simp only [Act.put, List.setIfInBounds_toArray, List.set_cons_zero, List.set_cons_succ])
        refine wpAnyH_ready (rs := [6]) (by kernel_rfl) (by simp) ?_
        refine AllReadyH.cons (o := { dst := none, op := Go.Op.store 85 (Go.Operand.tmp 5) (Go.Operand.tmp 9), type := 0, pos := _, after := #[{ on := 4, ground := Go.Ground.data }, { on := 1, ground := Go.Ground.data }, { on := 3, ground := Go.Ground.chain }, { on := 0, ground := Go.Ground.phase }, { on := 1, ground := Go.Ground.phase }, { on := 2, ground := Go.Ground.textOnly Go.Departure.lateStores }, { on := 3, ground := Go.Ground.textOnly Go.Departure.lateStoresUnsure }, { on := 4, ground := Go.Ground.phase }, { on := 5, ground := Go.Ground.phase }], guard := none }) rfl (fun K hK => ?_) AllReadyH.nil
        ((have hth := Rx.there (bitsA (A % MM)).size (by rw [bitsA_size, zeroA_size]; exact Nat.le_refl _)); (have hinf := bitsA_info (A % MM)); (have hone := bitsA_one (A % MM)); (rw [if_pos (by rfl)]); (with_reducible refine wp_store_mid 85 (.tmp 5) (.tmp 9) ?_ gx 0 (bitsA (A % MM)) ?_ ?_ hth hinf hone ?_); rfl; rfl; rfl; clear hth hinf hone; (have Rxn := Rx.setAll (bitsA (A % MM)) (by rw [bitsA_size, zeroA_size])); clear Rx; (first | (replace Ry := Row.setCells_far (g := gx) (o := 0) (vs := (bitsA (A % MM)).toList) Ry hne) | (replace Ry := Row.setCells_far (g := gx) (o := 0) (vs := (bitsA (A % MM)).toList) Ry hne.symm)); (have Rx := Rxn); clear Rxn; (have s0 := cell_setCells_far (g := gx) (o := 0) (vs := (bitsA (A % MM)).toList) hHeld.1 (by simp; omega)); (have s1 := cell_setCells_far (g := gx) (o := 0) (vs := (bitsA (A % MM)).toList) hHeld.2.1 (by simp; omega)); (have s2 := cell_setCells_far (g := gx) (o := 0) (vs := (bitsA (A % MM)).toList) hHeld.2.2.1 (by simp; omega)); (have s3 := cell_setCells_far (g := gx) (o := 0) (vs := (bitsA (A % MM)).toList) hHeld.2.2.2.1 (by simp; omega)); (have s4 := below_setCells mx (bitsA (A % MM)).toList 0 _ hHeld.2.2.2.2); generalize wq.setCells gx 0 (bitsA (A % MM)).toList = wn at *)
        refine hK.out _ _ ?hSr13_59_6 (fun hHeld2 => ?_)
        case hSr13_59_6 => (exact ⟨s0, s1, s2, s3, s4⟩)
        clear hK K hHeld
        have hHeld := hHeld2
        clear hHeld2
        rename World => wq
        (try simp only [Act.put, List.setIfInBounds_toArray, List.set_cons_zero, List.set_cons_succ])
        refine wpAnyH_ready (rs := [7]) (by kernel_rfl) (by simp) ?_
        refine AllReadyH.cons (o := { dst := none, op := Go.Op.store 85 (Go.Operand.tmp 6) (Go.Operand.tmp 11), type := 0, pos := _, after := #[{ on := 5, ground := Go.Ground.data }, { on := 3, ground := Go.Ground.data }, { on := 6, ground := Go.Ground.chain }, { on := 0, ground := Go.Ground.phase }, { on := 1, ground := Go.Ground.phase }, { on := 2, ground := Go.Ground.phase }, { on := 3, ground := Go.Ground.phase }, { on := 4, ground := Go.Ground.phase }, { on := 5, ground := Go.Ground.phase }, { on := 6, ground := Go.Ground.phase }], guard := none }) rfl (fun K hK => ?_) AllReadyH.nil
        ((have hth := Ry.there (bitsA (B % MM)).size (by rw [bitsA_size, zeroA_size]; exact Nat.le_refl _)); (have hinf := bitsA_info (B % MM)); (have hone := bitsA_one (B % MM)); (rw [if_pos (by rfl)]); (with_reducible refine wp_store_mid 85 (.tmp 6) (.tmp 11) ?_ gy 0 (bitsA (B % MM)) ?_ ?_ hth hinf hone ?_); rfl; rfl; rfl; clear hth hinf hone; (have Ryn := Ry.setAll (bitsA (B % MM)) (by rw [bitsA_size, zeroA_size])); clear Ry; (first | (replace Rx := Row.setCells_far (g := gy) (o := 0) (vs := (bitsA (B % MM)).toList) Rx hne) | (replace Rx := Row.setCells_far (g := gy) (o := 0) (vs := (bitsA (B % MM)).toList) Rx hne.symm)); (have Ry := Ryn); clear Ryn; (have s0 := cell_setCells_far (g := gy) (o := 0) (vs := (bitsA (B % MM)).toList) hHeld.1 (by simp; omega)); (have s1 := cell_setCells_far (g := gy) (o := 0) (vs := (bitsA (B % MM)).toList) hHeld.2.1 (by simp; omega)); (have s2 := cell_setCells_far (g := gy) (o := 0) (vs := (bitsA (B % MM)).toList) hHeld.2.2.1 (by simp; omega)); (have s3 := cell_setCells_far (g := gy) (o := 0) (vs := (bitsA (B % MM)).toList) hHeld.2.2.2.1 (by simp; omega)); (have s4 := below_setCells my (bitsA (B % MM)).toList 0 _ hHeld.2.2.2.2); generalize wq.setCells gy 0 (bitsA (B % MM)).toList = wn at *)
        refine hK.out _ _ ?hSr13_60_7 (fun hHeld2 => ?_)
        case hSr13_60_7 => (exact ⟨s0, s1, s2, s3, s4⟩)
        clear hK K hHeld
        have hHeld := hHeld2
        clear hHeld2
        rename World => wq
        (try simp only [Act.put, List.setIfInBounds_toArray, List.set_cons_zero, List.set_cons_succ])
        refine wpAnyH_done (by kernel_rfl) ?_ _
        (go_wp2_with fail; go_meet; exact ⟨_, _, rfl, rfl, Rx, Ry, (by first | exact hne | exact hne.symm), mx, my, hHeld.2.2.2.2⟩)
  case rest =>
    obtain ⟨gx, gy, rfl, rfl, Rx, Ry, hne, hgx, hgy, hbc⟩ := hcut
    replace hbc := below_step hbW hbc
    clear a0 a1 b0 b1 hbW hgx hgy
    go_wp2
    go_loopw [7] (fun i wr => ∃ k : Nat, k ≤ 128 ∧ i = .int .i64 k ∧ (∀ j : Nat, j < k → bitI (A % MM) j = bitI (B % MM) j) ∧ Row wr gx (bitsA (A % MM)) 85 ∧ Row wr gy (bitsA (B % MM)) 85 ∧ Below w.heap.size w wr) (fun i _ => 128 - (intOf i).toNat)
    case atStart => exact ⟨0, by omega, rfl, fun j hj => absurd hj (by omega), Rx, Ry, hbc⟩
    case round =>
      clear Rx Ry hbc
      obtain ⟨k, hk, rfl, hs, Rx, Ry, hbc⟩ := hrel
      by_cases hlt : k < 128
      · have hkb : decide ((k : Int) < 128) = true := by simp; omega
        have cx := (Rx.cell k).trans (bitsA_get _ k hlt)
        have cy := (Ry.cell k).trans (bitsA_get _ k hlt)
        have b3 : (k : Int) < 128 := by omega
        have b4 : (0 : Int) ≤ (k : Int) := by omega
        have hfi := bitF_bitI (A % MM) (B % MM) k hlt
        have HS := Lib.hid hs; clear hs
        have HI := Lib.hid hfi; clear hfi
        by_cases c1 : bitF (A % MM) k = bitF (B % MM) k
        · have d1 : (bitF (A % MM) k == bitF (B % MM) k) = true := by simp [c1]
          have HC := Lib.hid c1; clear c1
          go_wp2
          refine wp_region_held_drew (S := (fun w' => w'.cell? ⟨gx, k, none⟩ = some (.int .u64 (bitF (A % MM) k)) ∧ w'.cell? ⟨gy, k, none⟩ = some (.int .u64 (bitF (B % MM) k)))) (by kernel_rfl) ?hSr14_ (fun hHeld => ?_)
          case hSr14_ => (exact ⟨cx, cy⟩)
          refine wpAnyH_take (i := 0) (oi := { dst := some 12, op := Go.Op.move (Go.Operand.tmp 7), type := 3, pos := _, after := #[], guard := none }) (v := ?vr14_1_0) rfl (by kernel_rfl) (by kernel_rfl) (by kernel_rfl) (fun _ _ _ h => h) (Or.inl ⟨by rfl, ?yr14_1_0⟩) hHeld ?_
          case yr14_1_0 => ((intro w hSw; (try dsimp only at hSw); go_simp) <;> with_reducible rfl)
          (try simp only [Act.put, List.setIfInBounds_toArray, List.set_cons_zero, List.set_cons_succ])
          refine wpAnyH_take (i := 1) (oi := { dst := some 13, op := Go.Op.binOp Go.BinOp.lss 3 (Go.Operand.tmp 12) (Go.Operand.const (Go.Value.int Go.IntKind.i64 128)) 3, type := 4, pos := _, after := #[{ on := 0, ground := Go.Ground.data }], guard := none }) (v := ?vr14_2_1) rfl (by kernel_rfl) (by kernel_rfl) (by kernel_rfl) (fun _ _ _ h => h) (Or.inl ⟨by rfl, ?yr14_2_1⟩) hHeld ?_
          case yr14_2_1 => ((intro w hSw; (try dsimp only at hSw); go_simp) <;> with_reducible rfl)
          (try simp only [Act.put, List.setIfInBounds_toArray, List.set_cons_zero, List.set_cons_succ])
          refine wpAnyH_take (i := 2) (oi := { dst := some 14, op := Go.Op.move (Go.Operand.tmp 13), type := 4, pos := _, after := #[{ on := 1, ground := Go.Ground.data }], guard := none }) (v := ?vr14_3_2) rfl (by kernel_rfl) (by kernel_rfl) (by kernel_rfl) (fun _ _ _ h => h) (Or.inl ⟨by rfl, ?yr14_3_2⟩) hHeld ?_
          case yr14_3_2 => ((intro w hSw; (try dsimp only at hSw); go_simp) <;> with_reducible rfl)
          (try simp only [Act.put, List.setIfInBounds_toArray, List.set_cons_zero, List.set_cons_succ])
          refine wpAnyH_take (i := 3) (oi := { dst := some 15, op := Go.Op.move (Go.Operand.tmp 7), type := 3, pos := _, after := #[{ on := 2, ground := Go.Ground.guard }], guard := some (2, true) }) (v := ?vr14_4_3) rfl (by kernel_rfl) (by kernel_rfl) (by kernel_rfl) (fun _ _ _ h => h) (Or.inl ⟨by rfl, ?yr14_4_3⟩) hHeld ?_
          case yr14_4_3 => ((intro w hSw; (try dsimp only at hSw); go_simp) <;> with_reducible rfl)
          (try simp only [Act.put, List.setIfInBounds_toArray, List.set_cons_zero, List.set_cons_succ])
          refine wpAnyH_take (i := 4) (oi := { dst := some 16, op := Go.Op.indexAddr 85 (Go.Operand.tmp 5) (Go.Operand.tmp 15), type := 0, pos := _, after := #[{ on := 3, ground := Go.Ground.data }, { on := 2, ground := Go.Ground.guard }], guard := some (2, true) }) (v := ?vr14_5_4) rfl (by kernel_rfl) (by kernel_rfl) (by kernel_rfl) (fun _ _ _ h => h) (Or.inl ⟨by rfl, ?yr14_5_4⟩) hHeld ?_
          case yr14_5_4 => ((intro w hSw; (try dsimp only at hSw); go_simp) <;> with_reducible rfl)
          (try simp only [Act.put, List.setIfInBounds_toArray, List.set_cons_zero, List.set_cons_succ])
          refine wpAnyH_take (i := 5) (oi := { dst := some 17, op := Go.Op.load 22 (Go.Operand.tmp 16), type := 22, pos := _, after := #[{ on := 4, ground := Go.Ground.data }, { on := 2, ground := Go.Ground.guard }], guard := some (2, true) }) (v := ?vr14_6_5) rfl (by kernel_rfl) (by kernel_rfl) (by kernel_rfl) (fun _ _ _ h => h) (Or.inl ⟨by rfl, ?yr14_6_5⟩) hHeld ?_
          case yr14_6_5 => ((intro w hSw; (try dsimp only at hSw); go_simp) <;> with_reducible rfl)
          (try simp only [Act.put, List.setIfInBounds_toArray, List.set_cons_zero, List.set_cons_succ])
          refine wpAnyH_take (i := 6) (oi := { dst := some 18, op := Go.Op.move (Go.Operand.tmp 7), type := 3, pos := _, after := #[{ on := 2, ground := Go.Ground.guard }], guard := some (2, true) }) (v := ?vr14_7_6) rfl (by kernel_rfl) (by kernel_rfl) (by kernel_rfl) (fun _ _ _ h => h) (Or.inl ⟨by rfl, ?yr14_7_6⟩) hHeld ?_
          case yr14_7_6 => ((intro w hSw; (try dsimp only at hSw); go_simp) <;> with_reducible rfl)
          (try simp only [Act.put, List.setIfInBounds_toArray, List.set_cons_zero, List.set_cons_succ])
          refine wpAnyH_take (i := 7) (oi := { dst := some 19, op := Go.Op.indexAddr 85 (Go.Operand.tmp 6) (Go.Operand.tmp 18), type := 0, pos := _, after := #[{ on := 6, ground := Go.Ground.data }, { on := 2, ground := Go.Ground.guard }], guard := some (2, true) }) (v := ?vr14_8_7) rfl (by kernel_rfl) (by kernel_rfl) (by kernel_rfl) (fun _ _ _ h => h) (Or.inl ⟨by rfl, ?yr14_8_7⟩) hHeld ?_
          case yr14_8_7 => ((intro w hSw; (try dsimp only at hSw); go_simp) <;> with_reducible rfl)
          (try simp only [Act.put, List.setIfInBounds_toArray, List.set_cons_zero, List.set_cons_succ])
          refine wpAnyH_take (i := 8) (oi := { dst := some 20, op := Go.Op.load 22 (Go.Operand.tmp 19), type := 22, pos := _, after := #[{ on := 7, ground := Go.Ground.data }, { on := 2, ground := Go.Ground.guard }], guard := some (2, true) }) (v := ?vr14_9_8) rfl (by kernel_rfl) (by kernel_rfl) (by kernel_rfl) (fun _ _ _ h => h) (Or.inl ⟨by rfl, ?yr14_9_8⟩) hHeld ?_
          case yr14_9_8 => ((intro w hSw; (try dsimp only at hSw); go_simp) <;> with_reducible rfl)
          (try simp only [Act.put, List.setIfInBounds_toArray, List.set_cons_zero, List.set_cons_succ])
          refine wpAnyH_take (i := 9) (oi := { dst := some 21, op := Go.Op.binOp Go.BinOp.eql 22 (Go.Operand.tmp 17) (Go.Operand.tmp 20) 22, type := 4, pos := _, after := #[{ on := 5, ground := Go.Ground.data }, { on := 8, ground := Go.Ground.data }, { on := 2, ground := Go.Ground.guard }], guard := some (2, true) }) (v := ?vr14_10_9) rfl (by kernel_rfl) (by kernel_rfl) (by kernel_rfl) (fun _ _ _ h => h) (Or.inl ⟨by rfl, ?yr14_10_9⟩) hHeld ?_
          case yr14_10_9 => ((intro w hSw; (try dsimp only at hSw); go_simp) <;> with_reducible rfl)
          (try simp only [Act.put, List.setIfInBounds_toArray, List.set_cons_zero, List.set_cons_succ])
          refine wpAnyH_take (i := 10) (oi := { dst := some 22, op := Go.Op.pick (Go.Operand.tmp 14) (Go.Operand.tmp 21) (Go.Operand.const (Go.Value.bool false)), type := 4, pos := _, after := #[{ on := 2, ground := Go.Ground.data }, { on := 9, ground := Go.Ground.data }], guard := none }) (v := ?vr14_11_10) rfl (by kernel_rfl) (by kernel_rfl) (by kernel_rfl) (fun _ _ _ h => h) (Or.inl ⟨by rfl, ?yr14_11_10⟩) hHeld ?_
          case yr14_11_10 => ((intro w hSw; (try dsimp only at hSw); go_simp) <;> with_reducible rfl)
          (try simp only [Act.put, List.setIfInBounds_toArray, List.set_cons_zero, List.set_cons_succ])
          refine wpAnyH_done (by kernel_rfl) ?_ _
          go_wp2
          refine ⟨⟨k + 1, by omega, by go_num, ?_, Rx.drew, Ry.drew, hbc.drew⟩, by simp [intOf]; omega⟩
          intro j hj
          by_cases hjk : j = k
          · rw [hjk]; exact HI.out.1 HC.out
          · exact HS.out j (by omega)
        · have d1 : (bitF (A % MM) k == bitF (B % MM) k) = false := by simp [c1]
          have he := same_of (A % MM) (B % MM) k (by omega) HS.out (fun _ h => c1 (HI.out.2 h))
          have HE := Lib.hid he; clear he c1
          go_wp2
          refine wp_region_held_drew (S := (fun w' => w'.cell? ⟨gx, k, none⟩ = some (.int .u64 (bitF (A % MM) k)) ∧ w'.cell? ⟨gy, k, none⟩ = some (.int .u64 (bitF (B % MM) k)))) (by kernel_rfl) ?hSr15_ (fun hHeld => ?_)
          case hSr15_ => (exact ⟨cx, cy⟩)
          refine wpAnyH_take (i := 0) (oi := { dst := some 12, op := Go.Op.move (Go.Operand.tmp 7), type := 3, pos := _, after := #[], guard := none }) (v := ?vr15_1_0) rfl (by kernel_rfl) (by kernel_rfl) (by kernel_rfl) (fun _ _ _ h => h) (Or.inl ⟨by rfl, ?yr15_1_0⟩) hHeld ?_
          case yr15_1_0 => ((intro w hSw; (try dsimp only at hSw); go_simp) <;> with_reducible rfl)
          (try simp only [Act.put, List.setIfInBounds_toArray, List.set_cons_zero, List.set_cons_succ])
          refine wpAnyH_take (i := 1) (oi := { dst := some 13, op := Go.Op.binOp Go.BinOp.lss 3 (Go.Operand.tmp 12) (Go.Operand.const (Go.Value.int Go.IntKind.i64 128)) 3, type := 4, pos := _, after := #[{ on := 0, ground := Go.Ground.data }], guard := none }) (v := ?vr15_2_1) rfl (by kernel_rfl) (by kernel_rfl) (by kernel_rfl) (fun _ _ _ h => h) (Or.inl ⟨by rfl, ?yr15_2_1⟩) hHeld ?_
          case yr15_2_1 => ((intro w hSw; (try dsimp only at hSw); go_simp) <;> with_reducible rfl)
          (try simp only [Act.put, List.setIfInBounds_toArray, List.set_cons_zero, List.set_cons_succ])
          refine wpAnyH_take (i := 2) (oi := { dst := some 14, op := Go.Op.move (Go.Operand.tmp 13), type := 4, pos := _, after := #[{ on := 1, ground := Go.Ground.data }], guard := none }) (v := ?vr15_3_2) rfl (by kernel_rfl) (by kernel_rfl) (by kernel_rfl) (fun _ _ _ h => h) (Or.inl ⟨by rfl, ?yr15_3_2⟩) hHeld ?_
          case yr15_3_2 => ((intro w hSw; (try dsimp only at hSw); go_simp) <;> with_reducible rfl)
          (try simp only [Act.put, List.setIfInBounds_toArray, List.set_cons_zero, List.set_cons_succ])
          refine wpAnyH_take (i := 3) (oi := { dst := some 15, op := Go.Op.move (Go.Operand.tmp 7), type := 3, pos := _, after := #[{ on := 2, ground := Go.Ground.guard }], guard := some (2, true) }) (v := ?vr15_4_3) rfl (by kernel_rfl) (by kernel_rfl) (by kernel_rfl) (fun _ _ _ h => h) (Or.inl ⟨by rfl, ?yr15_4_3⟩) hHeld ?_
          case yr15_4_3 => ((intro w hSw; (try dsimp only at hSw); go_simp) <;> with_reducible rfl)
          (try simp only [Act.put, List.setIfInBounds_toArray, List.set_cons_zero, List.set_cons_succ])
          refine wpAnyH_take (i := 4) (oi := { dst := some 16, op := Go.Op.indexAddr 85 (Go.Operand.tmp 5) (Go.Operand.tmp 15), type := 0, pos := _, after := #[{ on := 3, ground := Go.Ground.data }, { on := 2, ground := Go.Ground.guard }], guard := some (2, true) }) (v := ?vr15_5_4) rfl (by kernel_rfl) (by kernel_rfl) (by kernel_rfl) (fun _ _ _ h => h) (Or.inl ⟨by rfl, ?yr15_5_4⟩) hHeld ?_
          case yr15_5_4 => ((intro w hSw; (try dsimp only at hSw); go_simp) <;> with_reducible rfl)
          (try simp only [Act.put, List.setIfInBounds_toArray, List.set_cons_zero, List.set_cons_succ])
          refine wpAnyH_take (i := 5) (oi := { dst := some 17, op := Go.Op.load 22 (Go.Operand.tmp 16), type := 22, pos := _, after := #[{ on := 4, ground := Go.Ground.data }, { on := 2, ground := Go.Ground.guard }], guard := some (2, true) }) (v := ?vr15_6_5) rfl (by kernel_rfl) (by kernel_rfl) (by kernel_rfl) (fun _ _ _ h => h) (Or.inl ⟨by rfl, ?yr15_6_5⟩) hHeld ?_
          case yr15_6_5 => ((intro w hSw; (try dsimp only at hSw); go_simp) <;> with_reducible rfl)
          (try simp only [Act.put, List.setIfInBounds_toArray, List.set_cons_zero, List.set_cons_succ])
          refine wpAnyH_take (i := 6) (oi := { dst := some 18, op := Go.Op.move (Go.Operand.tmp 7), type := 3, pos := _, after := #[{ on := 2, ground := Go.Ground.guard }], guard := some (2, true) }) (v := ?vr15_7_6) rfl (by kernel_rfl) (by kernel_rfl) (by kernel_rfl) (fun _ _ _ h => h) (Or.inl ⟨by rfl, ?yr15_7_6⟩) hHeld ?_
          case yr15_7_6 => ((intro w hSw; (try dsimp only at hSw); go_simp) <;> with_reducible rfl)
          (try simp only [Act.put, List.setIfInBounds_toArray, List.set_cons_zero, List.set_cons_succ])
          refine wpAnyH_take (i := 7) (oi := { dst := some 19, op := Go.Op.indexAddr 85 (Go.Operand.tmp 6) (Go.Operand.tmp 18), type := 0, pos := _, after := #[{ on := 6, ground := Go.Ground.data }, { on := 2, ground := Go.Ground.guard }], guard := some (2, true) }) (v := ?vr15_8_7) rfl (by kernel_rfl) (by kernel_rfl) (by kernel_rfl) (fun _ _ _ h => h) (Or.inl ⟨by rfl, ?yr15_8_7⟩) hHeld ?_
          case yr15_8_7 => ((intro w hSw; (try dsimp only at hSw); go_simp) <;> with_reducible rfl)
          (try simp only [Act.put, List.setIfInBounds_toArray, List.set_cons_zero, List.set_cons_succ])
          refine wpAnyH_take (i := 8) (oi := { dst := some 20, op := Go.Op.load 22 (Go.Operand.tmp 19), type := 22, pos := _, after := #[{ on := 7, ground := Go.Ground.data }, { on := 2, ground := Go.Ground.guard }], guard := some (2, true) }) (v := ?vr15_9_8) rfl (by kernel_rfl) (by kernel_rfl) (by kernel_rfl) (fun _ _ _ h => h) (Or.inl ⟨by rfl, ?yr15_9_8⟩) hHeld ?_
          case yr15_9_8 => ((intro w hSw; (try dsimp only at hSw); go_simp) <;> with_reducible rfl)
          (try simp only [Act.put, List.setIfInBounds_toArray, List.set_cons_zero, List.set_cons_succ])
          refine wpAnyH_take (i := 9) (oi := { dst := some 21, op := Go.Op.binOp Go.BinOp.eql 22 (Go.Operand.tmp 17) (Go.Operand.tmp 20) 22, type := 4, pos := _, after := #[{ on := 5, ground := Go.Ground.data }, { on := 8, ground := Go.Ground.data }, { on := 2, ground := Go.Ground.guard }], guard := some (2, true) }) (v := ?vr15_10_9) rfl (by kernel_rfl) (by kernel_rfl) (by kernel_rfl) (fun _ _ _ h => h) (Or.inl ⟨by rfl, ?yr15_10_9⟩) hHeld ?_
          case yr15_10_9 => ((intro w hSw; (try dsimp only at hSw); go_simp) <;> with_reducible rfl)
          (try simp only [Act.put, List.setIfInBounds_toArray, List.set_cons_zero, List.set_cons_succ])
          refine wpAnyH_take (i := 10) (oi := { dst := some 22, op := Go.Op.pick (Go.Operand.tmp 14) (Go.Operand.tmp 21) (Go.Operand.const (Go.Value.bool false)), type := 4, pos := _, after := #[{ on := 2, ground := Go.Ground.data }, { on := 9, ground := Go.Ground.data }], guard := none }) (v := ?vr15_11_10) rfl (by kernel_rfl) (by kernel_rfl) (by kernel_rfl) (fun _ _ _ h => h) (Or.inl ⟨by rfl, ?yr15_11_10⟩) hHeld ?_
          case yr15_11_10 => ((intro w hSw; (try dsimp only at hSw); go_simp) <;> with_reducible rfl)
          (try simp only [Act.put, List.setIfInBounds_toArray, List.set_cons_zero, List.set_cons_succ])
          refine wpAnyH_done (by kernel_rfl) ?_ _
          go_wp2
          go_ret
          exact ⟨ret_int (by rw [HE.out]), hbc.drew⟩
      · have hkb : decide ((k : Int) < 128) = false := by simp; omega
        have he := same_of (A % MM) (B % MM) k (by omega) hs (fun h => absurd h hlt)
        have HE := Lib.hid he; clear he hs
        go_wp2
        refine wp_region_held_drew (S := (fun w' => True)) (by kernel_rfl) ?hSr16_ (fun hHeld => ?_)
        case hSr16_ => (exact trivial)
        refine wpAnyH_take (i := 0) (oi := { dst := some 12, op := Go.Op.move (Go.Operand.tmp 7), type := 3, pos := _, after := #[], guard := none }) (v := ?vr16_1_0) rfl (by kernel_rfl) (by kernel_rfl) (by kernel_rfl) (fun _ _ _ h => h) (Or.inl ⟨by rfl, ?yr16_1_0⟩) hHeld ?_
        case yr16_1_0 => ((intro w hSw; (try dsimp only at hSw); go_simp) <;> with_reducible rfl)
        (try simp only [Act.put, List.setIfInBounds_toArray, List.set_cons_zero, List.set_cons_succ])
        refine wpAnyH_take (i := 1) (oi := { dst := some 13, op := Go.Op.binOp Go.BinOp.lss 3 (Go.Operand.tmp 12) (Go.Operand.const (Go.Value.int Go.IntKind.i64 128)) 3, type := 4, pos := _, after := #[{ on := 0, ground := Go.Ground.data }], guard := none }) (v := ?vr16_2_1) rfl (by kernel_rfl) (by kernel_rfl) (by kernel_rfl) (fun _ _ _ h => h) (Or.inl ⟨by rfl, ?yr16_2_1⟩) hHeld ?_
        case yr16_2_1 => ((intro w hSw; (try dsimp only at hSw); go_simp) <;> with_reducible rfl)
        (try simp only [Act.put, List.setIfInBounds_toArray, List.set_cons_zero, List.set_cons_succ])
        refine wpAnyH_take (i := 2) (oi := { dst := some 14, op := Go.Op.move (Go.Operand.tmp 13), type := 4, pos := _, after := #[{ on := 1, ground := Go.Ground.data }], guard := none }) (v := ?vr16_3_2) rfl (by kernel_rfl) (by kernel_rfl) (by kernel_rfl) (fun _ _ _ h => h) (Or.inl ⟨by rfl, ?yr16_3_2⟩) hHeld ?_
        case yr16_3_2 => ((intro w hSw; (try dsimp only at hSw); go_simp) <;> with_reducible rfl)
        (try simp only [Act.put, List.setIfInBounds_toArray, List.set_cons_zero, List.set_cons_succ])
        refine wpAnyH_take (i := 3) (oi := { dst := some 15, op := Go.Op.move (Go.Operand.tmp 7), type := 3, pos := _, after := #[{ on := 2, ground := Go.Ground.guard }], guard := some (2, true) }) (v := undef) rfl (by kernel_rfl) (by kernel_rfl) (by kernel_rfl) (fun _ _ _ h => h) (Or.inr ⟨by rfl, rfl⟩) hHeld ?_
        (try simp only [Act.put, List.setIfInBounds_toArray, List.set_cons_zero, List.set_cons_succ])
        refine wpAnyH_take (i := 4) (oi := { dst := some 16, op := Go.Op.indexAddr 85 (Go.Operand.tmp 5) (Go.Operand.tmp 15), type := 0, pos := _, after := #[{ on := 3, ground := Go.Ground.data }, { on := 2, ground := Go.Ground.guard }], guard := some (2, true) }) (v := undef) rfl (by kernel_rfl) (by kernel_rfl) (by kernel_rfl) (fun _ _ _ h => h) (Or.inr ⟨by rfl, rfl⟩) hHeld ?_
        (try simp only [Act.put, List.setIfInBounds_toArray, List.set_cons_zero, List.set_cons_succ])
        refine wpAnyH_take (i := 5) (oi := { dst := some 17, op := Go.Op.load 22 (Go.Operand.tmp 16), type := 22, pos := _, after := #[{ on := 4, ground := Go.Ground.data }, { on := 2, ground := Go.Ground.guard }], guard := some (2, true) }) (v := undef) rfl (by kernel_rfl) (by kernel_rfl) (by kernel_rfl) (fun _ _ _ h => h) (Or.inr ⟨by rfl, rfl⟩) hHeld ?_
        (try simp only [Act.put, List.setIfInBounds_toArray, List.set_cons_zero, List.set_cons_succ])
        refine wpAnyH_take (i := 6) (oi := { dst := some 18, op := Go.Op.move (Go.Operand.tmp 7), type := 3, pos := _, after := #[{ on := 2, ground := Go.Ground.guard }], guard := some (2, true) }) (v := undef) rfl (by kernel_rfl) (by kernel_rfl) (by kernel_rfl) (fun _ _ _ h => h) (Or.inr ⟨by rfl, rfl⟩) hHeld ?_
        (try simp only [Act.put, List.setIfInBounds_toArray, List.set_cons_zero, List.set_cons_succ])
        refine wpAnyH_take (i := 7) (oi := { dst := some 19, op := Go.Op.indexAddr 85 (Go.Operand.tmp 6) (Go.Operand.tmp 18), type := 0, pos := _, after := #[{ on := 6, ground := Go.Ground.data }, { on := 2, ground := Go.Ground.guard }], guard := some (2, true) }) (v := undef) rfl (by kernel_rfl) (by kernel_rfl) (by kernel_rfl) (fun _ _ _ h => h) (Or.inr ⟨by rfl, rfl⟩) hHeld ?_
        (try simp only [Act.put, List.setIfInBounds_toArray, List.set_cons_zero, List.set_cons_succ])
        refine wpAnyH_take (i := 8) (oi := { dst := some 20, op := Go.Op.load 22 (Go.Operand.tmp 19), type := 22, pos := _, after := #[{ on := 7, ground := Go.Ground.data }, { on := 2, ground := Go.Ground.guard }], guard := some (2, true) }) (v := undef) rfl (by kernel_rfl) (by kernel_rfl) (by kernel_rfl) (fun _ _ _ h => h) (Or.inr ⟨by rfl, rfl⟩) hHeld ?_
        (try simp only [Act.put, List.setIfInBounds_toArray, List.set_cons_zero, List.set_cons_succ])
        refine wpAnyH_take (i := 9) (oi := { dst := some 21, op := Go.Op.binOp Go.BinOp.eql 22 (Go.Operand.tmp 17) (Go.Operand.tmp 20) 22, type := 4, pos := _, after := #[{ on := 5, ground := Go.Ground.data }, { on := 8, ground := Go.Ground.data }, { on := 2, ground := Go.Ground.guard }], guard := some (2, true) }) (v := undef) rfl (by kernel_rfl) (by kernel_rfl) (by kernel_rfl) (fun _ _ _ h => h) (Or.inr ⟨by rfl, rfl⟩) hHeld ?_
        (try simp only [Act.put, List.setIfInBounds_toArray, List.set_cons_zero, List.set_cons_succ])
        refine wpAnyH_take (i := 10) (oi := { dst := some 22, op := Go.Op.pick (Go.Operand.tmp 14) (Go.Operand.tmp 21) (Go.Operand.const (Go.Value.bool false)), type := 4, pos := _, after := #[{ on := 2, ground := Go.Ground.data }, { on := 9, ground := Go.Ground.data }], guard := none }) (v := ?vr16_11_10) rfl (by kernel_rfl) (by kernel_rfl) (by kernel_rfl) (fun _ _ _ h => h) (Or.inl ⟨by rfl, ?yr16_11_10⟩) hHeld ?_
        case yr16_11_10 => ((intro w hSw; (try dsimp only at hSw); go_simp) <;> with_reducible rfl)
        (try simp only [Act.put, List.setIfInBounds_toArray, List.set_cons_zero, List.set_cons_succ])
        refine wpAnyH_done (by kernel_rfl) ?_ _
        go_wp2
        go_ret
        exact ⟨ret_int (by rw [HE.out]), hbc.drew⟩
end Go.Proofs.Ytbofnfccejjolaa
