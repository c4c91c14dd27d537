/- The reference's Both. No conditions. -/
import Derived.Test.YtbofnfccejjolaaRefLeft
namespace Go.Proofs.Ytbofnfccejjolaa
set_option linter.unusedVariables false
set_option linter.unusedSimpArgs false
open Go.RowKit
theorem bitF_nat (n i : Nat) (hi : i < 128) : bitF (n : Int) i = ((n.testBit (127 - i)).toNat : Nat) := by
  unfold bitF
  rw [Nat.toNat_testBit]; simp
theorem bitF_and (a b : Int) (ha : 0 ≤ a) (hb : 0 ≤ b) (j : Nat) (hj : j < 128) : bitF (andI a b) j = bitF a j * bitF b j := by
  obtain ⟨x, rfl⟩ := Int.eq_ofNat_of_zero_le ha
  obtain ⟨y, rfl⟩ := Int.eq_ofNat_of_zero_le hb
  unfold andI
  rw [Int.toNat_natCast, Int.toNat_natCast, bitF_nat _ j hj, bitF_nat _ j hj, bitF_nat _ j hj, Nat.testBit_and]
  cases x.testBit (127 - j) <;> cases y.testBit (127 - j) <;> rfl
theorem bitF_or (a b : Int) (ha : 0 ≤ a) (hb : 0 ≤ b) (j : Nat) (hj : j < 128) : bitF (orI a b) j = bitF a j + bitF b j - bitF a j * bitF b j := by
  obtain ⟨x, rfl⟩ := Int.eq_ofNat_of_zero_le ha
  obtain ⟨y, rfl⟩ := Int.eq_ofNat_of_zero_le hb
  unfold orI
  rw [Int.toNat_natCast, Int.toNat_natCast, bitF_nat _ j hj, bitF_nat _ j hj, bitF_nat _ j hj, Nat.testBit_or]
  cases x.testBit (127 - j) <;> cases y.testBit (127 - j) <;> rfl
def mixK (f g : Nat → Int) (k : Nat) : Nat → Int := fun j => if j < k then f j else g j
theorem mixK_zero (f g : Nat → Int) : arrV g = arrV (mixK f g 0) := by
  apply arrV_congr; intro j hj; unfold mixK; rw [if_neg (by omega)]
theorem mixK_at (f g : Nat → Int) (k : Nat) : mixK f g k k = g k := by unfold mixK; rw [if_neg (by omega)]
theorem mixK_step (f g : Nat → Int) (k : Nat) (hk : k < 128) : (arrV (mixK f g k)).setIfInBounds k (.int .u64 (f k)) = arrV (mixK f g (k + 1)) := by
  rw [arrV_set _ _ _ hk]
  apply arrV_congr
  intro j hj
  unfold mixK
  by_cases h : j = k
  · rw [if_pos h, if_pos (by omega), h]
  · rw [if_neg h]
    by_cases h2 : j < k
    · rw [if_pos h2, if_pos (by omega)]
    · rw [if_neg h2, if_neg (by omega)]
theorem mixK_all (f g : Nat → Int) (n : Int) (h : ∀ j, j < 128 → f j = bitF n j) : arrV (mixK f g 128) = arrV (bitF n) := by
  apply arrV_congr; intro j hj; unfold mixK; rw [if_pos hj, h j hj]
def bothI (o : Bool) (a b : Int) : Int := if o then orI a b else andI a b
def bothF (o : Bool) (x y : Int) : Int := if o then x + y - x * y else x * y
theorem bitF_both (o : Bool) (a b : Int) (ha : 0 ≤ a) (hb : 0 ≤ b) (j : Nat) (hj : j < 128) : bothF o (bitF a j) (bitF b j) = bitF (bothI o a b) j := by
  cases o
  · exact (bitF_and a b ha hb j hj).symm
  · exact (bitF_or a b ha hb j hj).symm
set_option maxRecDepth 100000 in
set_option maxHeartbeats 3200000 in
theorem refBoth_t (A B : Int) (o : Bool) (w : World) :
    Calls Try.prog 28 #[.agg #[.int .u64 (hi A), .int .u64 (lo A)], .agg #[.int .u64 (hi B), .int .u64 (lo B)], .bool o] w fun e w' =>
      e = .returned (.agg #[.int .u64 (hi (bothI o (A % MM) (B % MM))), .int .u64 (lo (bothI o (A % MM) (B % MM)))]) ∧ Below w.heap.size w w' := by
  go_enter Try.func28, Try.ntmps28
  go_wp2
  have hbW : Below w.heap.size w (((w.alloc (.cells #[.int .u64 (hi A), .int .u64 (lo A)] 27)).alloc (.cells #[.int .u64 (hi B), .int .u64 (lo B)] 27)).alloc (.cells #[.int .u64 0, .int .u64 0] 27)) := (by repeat (first | exact Below.refl _ _ | assumption | (with_reducible refine Below.setCell ?_ ?h _; case h => first | omega | (simp; done) | (simp; omega)) | (with_reducible refine Below.alloc ?_ ?h _; case h => first | omega | (simp; done) | (simp; omega)) | (with_reducible refine Below.drew ?_) | (with_reducible refine Below.trans ?_ (hb4.mono ?h); case h => first | omega | (simp; done) | (simp; omega)) | (with_reducible refine Below.trans ?_ (hb3.mono ?h); case h => first | omega | (simp; done) | (simp; omega)) | (with_reducible refine Below.trans ?_ (hb2.mono ?h); case h => first | omega | (simp; done) | (simp; omega)) | (with_reducible refine Below.trans ?_ (hb.mono ?h); case h => first | omega | (simp; done) | (simp; omega)) | (with_reducible refine Below.trans ?_ (hb0.mono ?h); case h => first | omega | (simp; done) | (simp; omega))))
  have a0 : (((w.alloc (.cells #[.int .u64 (hi A), .int .u64 (lo A)] 27)).alloc (.cells #[.int .u64 (hi B), .int .u64 (lo B)] 27)).alloc (.cells #[.int .u64 0, .int .u64 0] 27)).cell? ⟨w.heap.size, 0, none⟩ = some (.int .u64 (hi A)) := by simp [go_sem]
  have a1 : (((w.alloc (.cells #[.int .u64 (hi A), .int .u64 (lo A)] 27)).alloc (.cells #[.int .u64 (hi B), .int .u64 (lo B)] 27)).alloc (.cells #[.int .u64 0, .int .u64 0] 27)).cell? ⟨w.heap.size, 1, none⟩ = some (.int .u64 (lo A)) := by simp [go_sem]
  have b0 : (((w.alloc (.cells #[.int .u64 (hi A), .int .u64 (lo A)] 27)).alloc (.cells #[.int .u64 (hi B), .int .u64 (lo B)] 27)).alloc (.cells #[.int .u64 0, .int .u64 0] 27)).cell? ⟨w.heap.size + 1, 0, none⟩ = some (.int .u64 (hi B)) := by simp [go_sem]
  have b1 : (((w.alloc (.cells #[.int .u64 (hi A), .int .u64 (lo A)] 27)).alloc (.cells #[.int .u64 (hi B), .int .u64 (lo B)] 27)).alloc (.cells #[.int .u64 0, .int .u64 0] 27)).cell? ⟨w.heap.size + 1, 1, none⟩ = some (.int .u64 (lo B)) := by simp [go_sem]
  have Rr : Row (((w.alloc (.cells #[.int .u64 (hi A), .int .u64 (lo A)] 27)).alloc (.cells #[.int .u64 (hi B), .int .u64 (lo B)] 27)).alloc (.cells #[.int .u64 0, .int .u64 0] 27)) (w.heap.size + 1 + 1) #[.int .u64 0, .int .u64 0] 27 := by simpa using Row.new ((w.alloc (.cells #[.int .u64 (hi A), .int .u64 (lo A)] 27)).alloc (.cells #[.int .u64 (hi B), .int .u64 (lo B)] 27)) #[.int .u64 0, .int .u64 0] 27
  generalize (((w.alloc (.cells #[.int .u64 (hi A), .int .u64 (lo A)] 27)).alloc (.cells #[.int .u64 (hi B), .int .u64 (lo B)] 27)).alloc (.cells #[.int .u64 0, .int .u64 0] 27)) = W0 at *
  go_cut [7, 8] (fun x y wx => ∃ gx gy : Nat, x = .pointer (some ⟨gx, 0, none⟩) ∧ y = .pointer (some ⟨gy, 0, none⟩) ∧ Row wx gx (bitsA (A % MM)) 85 ∧ Row wx gy (bitsA (B % MM)) 85 ∧ gx ≠ gy ∧ W0.heap.size ≤ gx ∧ W0.heap.size ≤ gy ∧ Below W0.heap.size W0 wx)
  case first =>
    refine region_any (S := (fun w' => w'.cell? ⟨w.heap.size, 0, none⟩ = some (.int .u64 (hi A)) ∧ w'.cell? ⟨w.heap.size, 1, none⟩ = some (.int .u64 (lo A)) ∧ w'.cell? ⟨w.heap.size + 1, 0, none⟩ = some (.int .u64 (hi B)) ∧ w'.cell? ⟨w.heap.size + 1, 1, none⟩ = some (.int .u64 (lo B)) ∧ Below W0.heap.size W0 w')) (by kernel_rfl) ?hSr12_ (fun wq hHeld => ?_)
    case hSr12_ => (first | exact ⟨a0, a1, b0, b1, Below.drew (Below.refl _ _)⟩ | exact ⟨cell_later hb hHeld.1, cell_later hb hHeld.2.1, cell_later hb hHeld.2.2.1, cell_later hb hHeld.2.2.2.1, below_step hHeld.2.2.2.2 hb⟩)
    refine wpAnyH_take (i := 0) (oi := { dst := some 10, op := Go.Op.load 27 (Go.Operand.tmp 3), type := 27, pos := _, after := #[], guard := none }) (v := ?vr12_1_0) rfl (by kernel_rfl) (by kernel_rfl) (by kernel_rfl) (fun _ _ _ h => h) (Or.inl ⟨by rfl, ?yr12_1_0⟩) hHeld ?_
    case yr12_1_0 => ((intro w hSw; (try dsimp only at hSw); go_simp) <;> with_reducible rfl)
    (try simp only [Act.put, List.setIfInBounds_toArray, List.set_cons_zero, List.set_cons_succ])
    refine wpAnyH_take (i := 2) (oi := { dst := some 12, op := Go.Op.load 27 (Go.Operand.tmp 4), type := 27, pos := _, after := #[], guard := none }) (v := ?vr12_2_2) rfl (by kernel_rfl) (by kernel_rfl) (by kernel_rfl) (fun _ _ _ h => h) (Or.inl ⟨by rfl, ?yr12_2_2⟩) hHeld ?_
    case yr12_2_2 => ((intro w hSw; (try dsimp only at hSw); go_simp) <;> with_reducible rfl)
    (try simp only [Act.put, List.setIfInBounds_toArray, List.set_cons_zero, List.set_cons_succ])
    refine wpAnyH_ready (rs := [1, 4, 5]) (by kernel_rfl) (by simp) ?_
    refine AllReadyH.cons (o := { dst := some 11, op := Go.Op.call { callee := Go.Callee.value (Go.Operand.func 57), args := #[Go.Operand.tmp 10], argTypes := #[27] }, type := 85, pos := _, after := #[{ on := 0, ground := Go.Ground.data }], guard := none }) rfl (fun K hK => ?_) ?_
    · go_simp
      ((refine (bits_h _ _).mono ?_); (rintro e wn ⟨rfl, hb⟩); (try replace Rx := Rx.later hb); (try replace Ry := Ry.later hb))
      go_wp2_with fail
      refine hK.out _ _ ?hSr12_3_1 (fun hHeld2 => ?_)
      case hSr12_3_1 => (first | exact ⟨a0, a1, b0, b1, Below.drew (Below.refl _ _)⟩ | exact ⟨cell_later hb hHeld.1, cell_later hb hHeld.2.1, cell_later hb hHeld.2.2.1, cell_later hb hHeld.2.2.2.1, below_step hHeld.2.2.2.2 hb⟩)
      clear hK K hHeld
      have hHeld := hHeld2
      clear hHeld2
      rename World => wq
      (try simp only [Act.put, List.setIfInBounds_toArray, List.set_cons_zero, List.set_cons_succ])
      refine wpAnyH_ready (rs := [3, 4, 5]) (by kernel_rfl) (by simp) ?_
      refine AllReadyH.cons (o := { dst := some 13, op := Go.Op.call { callee := Go.Callee.value (Go.Operand.func 57), args := #[Go.Operand.tmp 12], argTypes := #[27] }, type := 85, pos := _, after := #[{ on := 2, ground := Go.Ground.data }, { on := 1, ground := Go.Ground.chain }], guard := none }) rfl (fun K hK => ?_) ?_
      · go_simp
        ((refine (bits_h _ _).mono ?_); (rintro e wn ⟨rfl, hb⟩); (try replace Rx := Rx.later hb); (try replace Ry := Ry.later hb))
        go_wp2_with fail
        refine hK.out _ _ ?hSr12_4_3 (fun hHeld2 => ?_)
        case hSr12_4_3 => (first | exact ⟨a0, a1, b0, b1, Below.drew (Below.refl _ _)⟩ | exact ⟨cell_later hb hHeld.1, cell_later hb hHeld.2.1, cell_later hb hHeld.2.2.1, cell_later hb hHeld.2.2.2.1, below_step hHeld.2.2.2.2 hb⟩)
        clear hK K hHeld
        have hHeld := hHeld2
        clear hHeld2
        rename World => wq
        (try simp only [Act.put, List.setIfInBounds_toArray, List.set_cons_zero, List.set_cons_succ])
        refine wpAnyH_ready (rs := [4, 5]) (by kernel_rfl) (by simp) ?_
        refine AllReadyH.cons (o := { dst := some 7, op := Go.Op.alloc 85, type := 0, pos := _, after := #[], guard := none }) rfl (fun K hK => ?_) ?_
        · (go_simp; (have lx : w.heap.size + 1 < wq.heap.size := World.block_lt_of_cell? _ _ hHeld.2.2.1); (have mx : W0.heap.size ≤ wq.heap.size := hHeld.2.2.2.2.size); (try have hne := Nat.ne_of_lt Ry.lt); (have Rx := Row.new wq Try.zeroCells85 85); (have hb : Below wq.heap.size wq (wq.alloc (.cells Try.zeroCells85 85)) := (Below.refl _ _).alloc (Nat.le_refl _) _); (have s0 := cell_later hb hHeld.1); (have s1 := cell_later hb hHeld.2.1); (have s2 := cell_later hb hHeld.2.2.1); (have s3 := cell_later hb hHeld.2.2.2.1); (have s4 := below_step hHeld.2.2.2.2 hb); (try replace Ry := Ry.later hb); clear hb; generalize wq.alloc (.cells Try.zeroCells85 85) = wn at *; generalize wq.heap.size = gx at *)
          refine hK.out _ _ ?hSr12_5_4 (fun hHeld2 => ?_)
          case hSr12_5_4 => (exact ⟨s0, s1, s2, s3, s4⟩)
          clear hK K hHeld
          have hHeld := hHeld2
          clear hHeld2
          rename World => wq
          (try simp only [Act.put, List.setIfInBounds_toArray, List.set_cons_zero, List.set_cons_succ])
          refine wpAnyH_ready (rs := [5]) (by kernel_rfl) (by simp) ?_
          refine AllReadyH.cons (o := { dst := some 8, op := Go.Op.alloc 85, type := 0, pos := _, after := #[], guard := none }) rfl (fun K hK => ?_) AllReadyH.nil
          (go_simp; (have ly : w.heap.size + 1 < wq.heap.size := World.block_lt_of_cell? _ _ hHeld.2.2.1); (have my : W0.heap.size ≤ wq.heap.size := hHeld.2.2.2.2.size); (try have hne := Nat.ne_of_lt Rx.lt); (have Ry := Row.new wq Try.zeroCells85 85); (have hb : Below wq.heap.size wq (wq.alloc (.cells Try.zeroCells85 85)) := (Below.refl _ _).alloc (Nat.le_refl _) _); (have s0 := cell_later hb hHeld.1); (have s1 := cell_later hb hHeld.2.1); (have s2 := cell_later hb hHeld.2.2.1); (have s3 := cell_later hb hHeld.2.2.2.1); (have s4 := below_step hHeld.2.2.2.2 hb); (try replace Rx := Rx.later hb); clear hb; generalize wq.alloc (.cells Try.zeroCells85 85) = wn at *; generalize wq.heap.size = gy at *)
          refine hK.out _ _ ?hSr12_6_5 (fun hHeld2 => ?_)
          case hSr12_6_5 => (exact ⟨s0, s1, s2, s3, s4⟩)
          clear hK K hHeld
          have hHeld := hHeld2
          clear hHeld2
          rename World => wq
          (try simp only [Act.put, List.setIfInBounds_toArray, List.set_cons_zero, List.set_cons_succ])
          refine wpAnyH_ready (rs := [6]) (by kernel_rfl) (by simp) ?_
          refine AllReadyH.cons (o := { dst := none, op := Go.Op.store 85 (Go.Operand.tmp 7) (Go.Operand.tmp 11), type := 0, pos := _, after := #[{ on := 4, ground := Go.Ground.data }, { on := 1, ground := Go.Ground.data }, { on := 3, ground := Go.Ground.chain }, { on := 0, ground := Go.Ground.phase }, { on := 1, ground := Go.Ground.phase }, { on := 2, ground := Go.Ground.textOnly Go.Departure.lateStores }, { on := 3, ground := Go.Ground.textOnly Go.Departure.lateStoresUnsure }, { on := 4, ground := Go.Ground.phase }, { on := 5, ground := Go.Ground.phase }], guard := none }) rfl (fun K hK => ?_) AllReadyH.nil
          ((have hth := Rx.there (bitsA (A % MM)).size (by rw [bitsA_size, zeroA_size]; exact Nat.le_refl _)); (have hinf := bitsA_info (A % MM)); (have hone := bitsA_one (A % MM)); (rw [if_pos (by rfl)]); (with_reducible refine wp_store_mid 85 (.tmp 7) (.tmp 11) ?_ gx 0 (bitsA (A % MM)) ?_ ?_ hth hinf hone ?_); rfl; rfl; rfl; clear hth hinf hone; (have Rxn := Rx.setAll (bitsA (A % MM)) (by rw [bitsA_size, zeroA_size])); clear Rx; (first | (replace Ry := Row.setCells_far (g := gx) (o := 0) (vs := (bitsA (A % MM)).toList) Ry hne) | (replace Ry := Row.setCells_far (g := gx) (o := 0) (vs := (bitsA (A % MM)).toList) Ry hne.symm)); (have Rx := Rxn); clear Rxn; (have s0 := cell_setCells_far (g := gx) (o := 0) (vs := (bitsA (A % MM)).toList) hHeld.1 (by simp; omega)); (have s1 := cell_setCells_far (g := gx) (o := 0) (vs := (bitsA (A % MM)).toList) hHeld.2.1 (by simp; omega)); (have s2 := cell_setCells_far (g := gx) (o := 0) (vs := (bitsA (A % MM)).toList) hHeld.2.2.1 (by simp; omega)); (have s3 := cell_setCells_far (g := gx) (o := 0) (vs := (bitsA (A % MM)).toList) hHeld.2.2.2.1 (by simp; omega)); (have s4 := below_setCells mx (bitsA (A % MM)).toList 0 _ hHeld.2.2.2.2); generalize wq.setCells gx 0 (bitsA (A % MM)).toList = wn at *)
          refine hK.out _ _ ?hSr12_7_6 (fun hHeld2 => ?_)
          case hSr12_7_6 => (exact ⟨s0, s1, s2, s3, s4⟩)
          clear hK K hHeld
          have hHeld := hHeld2
          clear hHeld2
          rename World => wq
          (try simp only [Act.put, List.setIfInBounds_toArray, List.set_cons_zero, List.set_cons_succ])
          refine wpAnyH_ready (rs := [7]) (by kernel_rfl) (by simp) ?_
          refine AllReadyH.cons (o := { dst := none, op := Go.Op.store 85 (Go.Operand.tmp 8) (Go.Operand.tmp 13), type := 0, pos := _, after := #[{ on := 5, ground := Go.Ground.data }, { on := 3, ground := Go.Ground.data }, { on := 6, ground := Go.Ground.chain }, { on := 0, ground := Go.Ground.phase }, { on := 1, ground := Go.Ground.phase }, { on := 2, ground := Go.Ground.phase }, { on := 3, ground := Go.Ground.phase }, { on := 4, ground := Go.Ground.phase }, { on := 5, ground := Go.Ground.phase }, { on := 6, ground := Go.Ground.phase }], guard := none }) rfl (fun K hK => ?_) AllReadyH.nil
          ((have hth := Ry.there (bitsA (B % MM)).size (by rw [bitsA_size, zeroA_size]; exact Nat.le_refl _)); (have hinf := bitsA_info (B % MM)); (have hone := bitsA_one (B % MM)); (rw [if_pos (by rfl)]); (with_reducible refine wp_store_mid 85 (.tmp 8) (.tmp 13) ?_ gy 0 (bitsA (B % MM)) ?_ ?_ hth hinf hone ?_); rfl; rfl; rfl; clear hth hinf hone; (have Ryn := Ry.setAll (bitsA (B % MM)) (by rw [bitsA_size, zeroA_size])); clear Ry; (first | (replace Rx := Row.setCells_far (g := gy) (o := 0) (vs := (bitsA (B % MM)).toList) Rx hne) | (replace Rx := Row.setCells_far (g := gy) (o := 0) (vs := (bitsA (B % MM)).toList) Rx hne.symm)); (have Ry := Ryn); clear Ryn; (have s0 := cell_setCells_far (g := gy) (o := 0) (vs := (bitsA (B % MM)).toList) hHeld.1 (by simp; omega)); (have s1 := cell_setCells_far (g := gy) (o := 0) (vs := (bitsA (B % MM)).toList) hHeld.2.1 (by simp; omega)); (have s2 := cell_setCells_far (g := gy) (o := 0) (vs := (bitsA (B % MM)).toList) hHeld.2.2.1 (by simp; omega)); (have s3 := cell_setCells_far (g := gy) (o := 0) (vs := (bitsA (B % MM)).toList) hHeld.2.2.2.1 (by simp; omega)); (have s4 := below_setCells my (bitsA (B % MM)).toList 0 _ hHeld.2.2.2.2); generalize wq.setCells gy 0 (bitsA (B % MM)).toList = wn at *)
          refine hK.out _ _ ?hSr12_8_7 (fun hHeld2 => ?_)
          case hSr12_8_7 => (exact ⟨s0, s1, s2, s3, s4⟩)
          clear hK K hHeld
          have hHeld := hHeld2
          clear hHeld2
          rename World => wq
          (try simp only [Act.put, List.setIfInBounds_toArray, List.set_cons_zero, List.set_cons_succ])
          refine wpAnyH_done (by kernel_rfl) ?_ _
          (go_wp2_with fail; go_meet; exact ⟨_, _, rfl, rfl, Rx, Ry, (by first | exact hne | exact hne.symm), mx, my, hHeld.2.2.2.2⟩)
        refine AllReadyH.cons (o := { dst := some 8, op := Go.Op.alloc 85, type := 0, pos := _, after := #[], guard := none }) rfl (fun K hK => ?_) AllReadyH.nil
        · (go_simp; (have ly : w.heap.size + 1 < wq.heap.size := World.block_lt_of_cell? _ _ hHeld.2.2.1); (have my : W0.heap.size ≤ wq.heap.size := hHeld.2.2.2.2.size); (try have hne := Nat.ne_of_lt Rx.lt); (have Ry := Row.new wq Try.zeroCells85 85); (have hb : Below wq.heap.size wq (wq.alloc (.cells Try.zeroCells85 85)) := (Below.refl _ _).alloc (Nat.le_refl _) _); (have s0 := cell_later hb hHeld.1); (have s1 := cell_later hb hHeld.2.1); (have s2 := cell_later hb hHeld.2.2.1); (have s3 := cell_later hb hHeld.2.2.2.1); (have s4 := below_step hHeld.2.2.2.2 hb); (try replace Rx := Rx.later hb); clear hb; generalize wq.alloc (.cells Try.zeroCells85 85) = wn at *; generalize wq.heap.size = gy at *)
          refine hK.out _ _ ?hSr12_9_5 (fun hHeld2 => ?_)
          case hSr12_9_5 => (exact ⟨s0, s1, s2, s3, s4⟩)
          clear hK K hHeld
          have hHeld := hHeld2
          clear hHeld2
          rename World => wq
          (try simp only [Act.put, List.setIfInBounds_toArray, List.set_cons_zero, List.set_cons_succ])
          refine wpAnyH_ready (rs := [4]) (by kernel_rfl) (by simp) ?_
          refine AllReadyH.cons (o := { dst := some 7, op := Go.Op.alloc 85, type := 0, pos := _, after := #[], guard := none }) rfl (fun K hK => ?_) AllReadyH.nil
          (go_simp; (have lx : w.heap.size + 1 < wq.heap.size := World.block_lt_of_cell? _ _ hHeld.2.2.1); (have mx : W0.heap.size ≤ wq.heap.size := hHeld.2.2.2.2.size); (try have hne := Nat.ne_of_lt Ry.lt); (have Rx := Row.new wq Try.zeroCells85 85); (have hb : Below wq.heap.size wq (wq.alloc (.cells Try.zeroCells85 85)) := (Below.refl _ _).alloc (Nat.le_refl _) _); (have s0 := cell_later hb hHeld.1); (have s1 := cell_later hb hHeld.2.1); (have s2 := cell_later hb hHeld.2.2.1); (have s3 := cell_later hb hHeld.2.2.2.1); (have s4 := below_step hHeld.2.2.2.2 hb); (try replace Ry := Ry.later hb); clear hb; generalize wq.alloc (.cells Try.zeroCells85 85) = wn at *; generalize wq.heap.size = gx at *)
          refine hK.out _ _ ?hSr12_10_4 (fun hHeld2 => ?_)
          case hSr12_10_4 => (exact ⟨s0, s1, s2, s3, s4⟩)
          clear hK K hHeld
          have hHeld := hHeld2
          clear hHeld2
          rename World => wq
          (try simp only [Act.put, List.setIfInBounds_toArray, List.set_cons_zero, List.set_cons_succ])
          refine wpAnyH_ready (rs := [6]) (by kernel_rfl) (by simp) ?_
          refine AllReadyH.cons (o := { dst := none, op := Go.Op.store 85 (Go.Operand.tmp 7) (Go.Operand.tmp 11), type := 0, pos := _, after := #[{ on := 4, ground := Go.Ground.data }, { on := 1, ground := Go.Ground.data }, { on := 3, ground := Go.Ground.chain }, { on := 0, ground := Go.Ground.phase }, { on := 1, ground := Go.Ground.phase }, { on := 2, ground := Go.Ground.textOnly Go.Departure.lateStores }, { on := 3, ground := Go.Ground.textOnly Go.Departure.lateStoresUnsure }, { on := 4, ground := Go.Ground.phase }, { on := 5, ground := Go.Ground.phase }], guard := none }) rfl (fun K hK => ?_) AllReadyH.nil
          ((have hth := Rx.there (bitsA (A % MM)).size (by rw [bitsA_size, zeroA_size]; exact Nat.le_refl _)); (have hinf := bitsA_info (A % MM)); (have hone := bitsA_one (A % MM)); (rw [if_pos (by rfl)]); (with_reducible refine wp_store_mid 85 (.tmp 7) (.tmp 11) ?_ gx 0 (bitsA (A % MM)) ?_ ?_ hth hinf hone ?_); rfl; rfl; rfl; clear hth hinf hone; (have Rxn := Rx.setAll (bitsA (A % MM)) (by rw [bitsA_size, zeroA_size])); clear Rx; (first | (replace Ry := Row.setCells_far (g := gx) (o := 0) (vs := (bitsA (A % MM)).toList) Ry hne) | (replace Ry := Row.setCells_far (g := gx) (o := 0) (vs := (bitsA (A % MM)).toList) Ry hne.symm)); (have Rx := Rxn); clear Rxn; (have s0 := cell_setCells_far (g := gx) (o := 0) (vs := (bitsA (A % MM)).toList) hHeld.1 (by simp; omega)); (have s1 := cell_setCells_far (g := gx) (o := 0) (vs := (bitsA (A % MM)).toList) hHeld.2.1 (by simp; omega)); (have s2 := cell_setCells_far (g := gx) (o := 0) (vs := (bitsA (A % MM)).toList) hHeld.2.2.1 (by simp; omega)); (have s3 := cell_setCells_far (g := gx) (o := 0) (vs := (bitsA (A % MM)).toList) hHeld.2.2.2.1 (by simp; omega)); (have s4 := below_setCells mx (bitsA (A % MM)).toList 0 _ hHeld.2.2.2.2); generalize wq.setCells gx 0 (bitsA (A % MM)).toList = wn at *)
          refine hK.out _ _ ?hSr12_11_6 (fun hHeld2 => ?_)
          case hSr12_11_6 => (exact ⟨s0, s1, s2, s3, s4⟩)
          clear hK K hHeld
          have hHeld := hHeld2
          clear hHeld2
          rename World => wq
          (try simp only [Act.put, List.setIfInBounds_toArray, List.set_cons_zero, List.set_cons_succ])
          refine wpAnyH_ready (rs := [7]) (by kernel_rfl) (by simp) ?_
          refine AllReadyH.cons (o := { dst := none, op := Go.Op.store 85 (Go.Operand.tmp 8) (Go.Operand.tmp 13), type := 0, pos := _, after := #[{ on := 5, ground := Go.Ground.data }, { on := 3, ground := Go.Ground.data }, { on := 6, ground := Go.Ground.chain }, { on := 0, ground := Go.Ground.phase }, { on := 1, ground := Go.Ground.phase }, { on := 2, ground := Go.Ground.phase }, { on := 3, ground := Go.Ground.phase }, { on := 4, ground := Go.Ground.phase }, { on := 5, ground := Go.Ground.phase }, { on := 6, ground := Go.Ground.phase }], guard := none }) rfl (fun K hK => ?_) AllReadyH.nil
          ((have hth := Ry.there (bitsA (B % MM)).size (by rw [bitsA_size, zeroA_size]; exact Nat.le_refl _)); (have hinf := bitsA_info (B % MM)); (have hone := bitsA_one (B % MM)); (rw [if_pos (by rfl)]); (with_reducible refine wp_store_mid 85 (.tmp 8) (.tmp 13) ?_ gy 0 (bitsA (B % MM)) ?_ ?_ hth hinf hone ?_); rfl; rfl; rfl; clear hth hinf hone; (have Ryn := Ry.setAll (bitsA (B % MM)) (by rw [bitsA_size, zeroA_size])); clear Ry; (first | (replace Rx := Row.setCells_far (g := gy) (o := 0) (vs := (bitsA (B % MM)).toList) Rx hne) | (replace Rx := Row.setCells_far (g := gy) (o := 0) (vs := (bitsA (B % MM)).toList) Rx hne.symm)); (have Ry := Ryn); clear Ryn; (have s0 := cell_setCells_far (g := gy) (o := 0) (vs := (bitsA (B % MM)).toList) hHeld.1 (by simp; omega)); (have s1 := cell_setCells_far (g := gy) (o := 0) (vs := (bitsA (B % MM)).toList) hHeld.2.1 (by simp; omega)); (have s2 := cell_setCells_far (g := gy) (o := 0) (vs := (bitsA (B % MM)).toList) hHeld.2.2.1 (by simp; omega)); (have s3 := cell_setCells_far (g := gy) (o := 0) (vs := (bitsA (B % MM)).toList) hHeld.2.2.2.1 (by simp; omega)); (have s4 := below_setCells my (bitsA (B % MM)).toList 0 _ hHeld.2.2.2.2); generalize wq.setCells gy 0 (bitsA (B % MM)).toList = wn at *)
          refine hK.out _ _ ?hSr12_12_7 (fun hHeld2 => ?_)
          case hSr12_12_7 => (exact ⟨s0, s1, s2, s3, s4⟩)
          clear hK K hHeld
          have hHeld := hHeld2
          clear hHeld2
          rename World => wq
          (try simp only [Act.put, List.setIfInBounds_toArray, List.set_cons_zero, List.set_cons_succ])
          refine wpAnyH_done (by kernel_rfl) ?_ _
          (go_wp2_with fail; go_meet; exact ⟨_, _, rfl, rfl, Rx, Ry, (by first | exact hne | exact hne.symm), mx, my, hHeld.2.2.2.2⟩)
      refine AllReadyH.cons (o := { dst := some 7, op := Go.Op.alloc 85, type := 0, pos := _, after := #[], guard := none }) rfl (fun K hK => ?_) ?_
      · (go_simp; (have lx : w.heap.size + 1 < wq.heap.size := World.block_lt_of_cell? _ _ hHeld.2.2.1); (have mx : W0.heap.size ≤ wq.heap.size := hHeld.2.2.2.2.size); (try have hne := Nat.ne_of_lt Ry.lt); (have Rx := Row.new wq Try.zeroCells85 85); (have hb : Below wq.heap.size wq (wq.alloc (.cells Try.zeroCells85 85)) := (Below.refl _ _).alloc (Nat.le_refl _) _); (have s0 := cell_later hb hHeld.1); (have s1 := cell_later hb hHeld.2.1); (have s2 := cell_later hb hHeld.2.2.1); (have s3 := cell_later hb hHeld.2.2.2.1); (have s4 := below_step hHeld.2.2.2.2 hb); (try replace Ry := Ry.later hb); clear hb; generalize wq.alloc (.cells Try.zeroCells85 85) = wn at *; generalize wq.heap.size = gx at *)
        refine hK.out _ _ ?hSr12_13_4 (fun hHeld2 => ?_)
        case hSr12_13_4 => (exact ⟨s0, s1, s2, s3, s4⟩)
        clear hK K hHeld
        have hHeld := hHeld2
        clear hHeld2
        rename World => wq
        (try simp only [Act.put, List.setIfInBounds_toArray, List.set_cons_zero, List.set_cons_succ])
        refine wpAnyH_ready (rs := [3, 5]) (by kernel_rfl) (by simp) ?_
        refine AllReadyH.cons (o := { dst := some 13, op := Go.Op.call { callee := Go.Callee.value (Go.Operand.func 57), args := #[Go.Operand.tmp 12], argTypes := #[27] }, type := 85, pos := _, after := #[{ on := 2, ground := Go.Ground.data }, { on := 1, ground := Go.Ground.chain }], guard := none }) rfl (fun K hK => ?_) ?_
        · go_simp
          ((refine (bits_h _ _).mono ?_); (rintro e wn ⟨rfl, hb⟩); (try replace Rx := Rx.later hb); (try replace Ry := Ry.later hb))
          go_wp2_with fail
          refine hK.out _ _ ?hSr12_14_3 (fun hHeld2 => ?_)
          case hSr12_14_3 => (first | exact ⟨a0, a1, b0, b1, Below.drew (Below.refl _ _)⟩ | exact ⟨cell_later hb hHeld.1, cell_later hb hHeld.2.1, cell_later hb hHeld.2.2.1, cell_later hb hHeld.2.2.2.1, below_step hHeld.2.2.2.2 hb⟩)
          clear hK K hHeld
          have hHeld := hHeld2
          clear hHeld2
          rename World => wq
          (try simp only [Act.put, List.setIfInBounds_toArray, List.set_cons_zero, List.set_cons_succ])
          refine wpAnyH_ready (rs := [5]) (by kernel_rfl) (by simp) ?_
          refine AllReadyH.cons (o := { dst := some 8, op := Go.Op.alloc 85, type := 0, pos := _, after := #[], guard := none }) rfl (fun K hK => ?_) AllReadyH.nil
          (go_simp; (have ly : w.heap.size + 1 < wq.heap.size := World.block_lt_of_cell? _ _ hHeld.2.2.1); (have my : W0.heap.size ≤ wq.heap.size := hHeld.2.2.2.2.size); (try have hne := Nat.ne_of_lt Rx.lt); (have Ry := Row.new wq Try.zeroCells85 85); (have hb : Below wq.heap.size wq (wq.alloc (.cells Try.zeroCells85 85)) := (Below.refl _ _).alloc (Nat.le_refl _) _); (have s0 := cell_later hb hHeld.1); (have s1 := cell_later hb hHeld.2.1); (have s2 := cell_later hb hHeld.2.2.1); (have s3 := cell_later hb hHeld.2.2.2.1); (have s4 := below_step hHeld.2.2.2.2 hb); (try replace Rx := Rx.later hb); clear hb; generalize wq.alloc (.cells Try.zeroCells85 85) = wn at *; generalize wq.heap.size = gy at *)
          refine hK.out _ _ ?hSr12_15_5 (fun hHeld2 => ?_)
          case hSr12_15_5 => (exact ⟨s0, s1, s2, s3, s4⟩)
          clear hK K hHeld
          have hHeld := hHeld2
          clear hHeld2
          rename World => wq
          (try simp only [Act.put, List.setIfInBounds_toArray, List.set_cons_zero, List.set_cons_succ])
          refine wpAnyH_ready (rs := [6]) (by kernel_rfl) (by simp) ?_
          refine AllReadyH.cons (o := { dst := none, op := Go.Op.store 85 (Go.Operand.tmp 7) (Go.Operand.tmp 11), type := 0, pos := _, after := #[{ on := 4, ground := Go.Ground.data }, { on := 1, ground := Go.Ground.data }, { on := 3, ground := Go.Ground.chain }, { on := 0, ground := Go.Ground.phase }, { on := 1, ground := Go.Ground.phase }, { on := 2, ground := Go.Ground.textOnly Go.Departure.lateStores }, { on := 3, ground := Go.Ground.textOnly Go.Departure.lateStoresUnsure }, { on := 4, ground := Go.Ground.phase }, { on := 5, ground := Go.Ground.phase }], guard := none }) rfl (fun K hK => ?_) AllReadyH.nil
          ((have hth := Rx.there (bitsA (A % MM)).size (by rw [bitsA_size, zeroA_size]; exact Nat.le_refl _)); (have hinf := bitsA_info (A % MM)); (have hone := bitsA_one (A % MM)); (rw [if_pos (by rfl)]); (with_reducible refine wp_store_mid 85 (.tmp 7) (.tmp 11) ?_ gx 0 (bitsA (A % MM)) ?_ ?_ hth hinf hone ?_); rfl; rfl; rfl; clear hth hinf hone; (have Rxn := Rx.setAll (bitsA (A % MM)) (by rw [bitsA_size, zeroA_size])); clear Rx; (first | (replace Ry := Row.setCells_far (g := gx) (o := 0) (vs := (bitsA (A % MM)).toList) Ry hne) | (replace Ry := Row.setCells_far (g := gx) (o := 0) (vs := (bitsA (A % MM)).toList) Ry hne.symm)); (have Rx := Rxn); clear Rxn; (have s0 := cell_setCells_far (g := gx) (o := 0) (vs := (bitsA (A % MM)).toList) hHeld.1 (by simp; omega)); (have s1 := cell_setCells_far (g := gx) (o := 0) (vs := (bitsA (A % MM)).toList) hHeld.2.1 (by simp; omega)); (have s2 := cell_setCells_far (g := gx) (o := 0) (vs := (bitsA (A % MM)).toList) hHeld.2.2.1 (by simp; omega)); (have s3 := cell_setCells_far (g := gx) (o := 0) (vs := (bitsA (A % MM)).toList) hHeld.2.2.2.1 (by simp; omega)); (have s4 := below_setCells mx (bitsA (A % MM)).toList 0 _ hHeld.2.2.2.2); generalize wq.setCells gx 0 (bitsA (A % MM)).toList = wn at *)
          refine hK.out _ _ ?hSr12_16_6 (fun hHeld2 => ?_)
          case hSr12_16_6 => (exact ⟨s0, s1, s2, s3, s4⟩)
          clear hK K hHeld
          have hHeld := hHeld2
          clear hHeld2
          rename World => wq
          (try simp only [Act.put, List.setIfInBounds_toArray, List.set_cons_zero, List.set_cons_succ])
          refine wpAnyH_ready (rs := [7]) (by kernel_rfl) (by simp) ?_
          refine AllReadyH.cons (o := { dst := none, op := Go.Op.store 85 (Go.Operand.tmp 8) (Go.Operand.tmp 13), type := 0, pos := _, after := #[{ on := 5, ground := Go.Ground.data }, { on := 3, ground := Go.Ground.data }, { on := 6, ground := Go.Ground.chain }, { on := 0, ground := Go.Ground.phase }, { on := 1, ground := Go.Ground.phase }, { on := 2, ground := Go.Ground.phase }, { on := 3, ground := Go.Ground.phase }, { on := 4, ground := Go.Ground.phase }, { on := 5, ground := Go.Ground.phase }, { on := 6, ground := Go.Ground.phase }], guard := none }) rfl (fun K hK => ?_) AllReadyH.nil
          ((have hth := Ry.there (bitsA (B % MM)).size (by rw [bitsA_size, zeroA_size]; exact Nat.le_refl _)); (have hinf := bitsA_info (B % MM)); (have hone := bitsA_one (B % MM)); (rw [if_pos (by rfl)]); (with_reducible refine wp_store_mid 85 (.tmp 8) (.tmp 13) ?_ gy 0 (bitsA (B % MM)) ?_ ?_ hth hinf hone ?_); rfl; rfl; rfl; clear hth hinf hone; (have Ryn := Ry.setAll (bitsA (B % MM)) (by rw [bitsA_size, zeroA_size])); clear Ry; (first | (replace Rx := Row.setCells_far (g := gy) (o := 0) (vs := (bitsA (B % MM)).toList) Rx hne) | (replace Rx := Row.setCells_far (g := gy) (o := 0) (vs := (bitsA (B % MM)).toList) Rx hne.symm)); (have Ry := Ryn); clear Ryn; (have s0 := cell_setCells_far (g := gy) (o := 0) (vs := (bitsA (B % MM)).toList) hHeld.1 (by simp; omega)); (have s1 := cell_setCells_far (g := gy) (o := 0) (vs := (bitsA (B % MM)).toList) hHeld.2.1 (by simp; omega)); (have s2 := cell_setCells_far (g := gy) (o := 0) (vs := (bitsA (B % MM)).toList) hHeld.2.2.1 (by simp; omega)); (have s3 := cell_setCells_far (g := gy) (o := 0) (vs := (bitsA (B % MM)).toList) hHeld.2.2.2.1 (by simp; omega)); (have s4 := below_setCells my (bitsA (B % MM)).toList 0 _ hHeld.2.2.2.2); generalize wq.setCells gy 0 (bitsA (B % MM)).toList = wn at *)
          refine hK.out _ _ ?hSr12_17_7 (fun hHeld2 => ?_)
          case hSr12_17_7 => (exact ⟨s0, s1, s2, s3, s4⟩)
          clear hK K hHeld
          have hHeld := hHeld2
          clear hHeld2
          rename World => wq
          (try simp only [Act.put, List.setIfInBounds_toArray, List.set_cons_zero, List.set_cons_succ])
          refine wpAnyH_done (by kernel_rfl) ?_ _
          (go_wp2_with fail; go_meet; exact ⟨_, _, rfl, rfl, Rx, Ry, (by first | exact hne | exact hne.symm), mx, my, hHeld.2.2.2.2⟩)
        refine AllReadyH.cons (o := { dst := some 8, op := Go.Op.alloc 85, type := 0, pos := _, after := #[], guard := none }) rfl (fun K hK => ?_) AllReadyH.nil
        · (go_simp; (have ly : w.heap.size + 1 < wq.heap.size := World.block_lt_of_cell? _ _ hHeld.2.2.1); (have my : W0.heap.size ≤ wq.heap.size := hHeld.2.2.2.2.size); (try have hne := Nat.ne_of_lt Rx.lt); (have Ry := Row.new wq Try.zeroCells85 85); (have hb : Below wq.heap.size wq (wq.alloc (.cells Try.zeroCells85 85)) := (Below.refl _ _).alloc (Nat.le_refl _) _); (have s0 := cell_later hb hHeld.1); (have s1 := cell_later hb hHeld.2.1); (have s2 := cell_later hb hHeld.2.2.1); (have s3 := cell_later hb hHeld.2.2.2.1); (have s4 := below_step hHeld.2.2.2.2 hb); (try replace Rx := Rx.later hb); clear hb; generalize wq.alloc (.cells Try.zeroCells85 85) = wn at *; generalize wq.heap.size = gy at *)
          refine hK.out _ _ ?hSr12_18_5 (fun hHeld2 => ?_)
          case hSr12_18_5 => (exact ⟨s0, s1, s2, s3, s4⟩)
          clear hK K hHeld
          have hHeld := hHeld2
          clear hHeld2
          rename World => wq
          (try simp only [Act.put, List.setIfInBounds_toArray, List.set_cons_zero, List.set_cons_succ])
          refine wpAnyH_ready (rs := [3]) (by kernel_rfl) (by simp) ?_
          refine AllReadyH.cons (o := { dst := some 13, op := Go.Op.call { callee := Go.Callee.value (Go.Operand.func 57), args := #[Go.Operand.tmp 12], argTypes := #[27] }, type := 85, pos := _, after := #[{ on := 2, ground := Go.Ground.data }, { on := 1, ground := Go.Ground.chain }], guard := none }) rfl (fun K hK => ?_) AllReadyH.nil
          go_simp
          ((refine (bits_h _ _).mono ?_); (rintro e wn ⟨rfl, hb⟩); (try replace Rx := Rx.later hb); (try replace Ry := Ry.later hb))
          go_wp2_with fail
          refine hK.out _ _ ?hSr12_19_3 (fun hHeld2 => ?_)
          case hSr12_19_3 => (first | exact ⟨a0, a1, b0, b1, Below.drew (Below.refl _ _)⟩ | exact ⟨cell_later hb hHeld.1, cell_later hb hHeld.2.1, cell_later hb hHeld.2.2.1, cell_later hb hHeld.2.2.2.1, below_step hHeld.2.2.2.2 hb⟩)
          clear hK K hHeld
          have hHeld := hHeld2
          clear hHeld2
          rename World => wq
          (try simp only [Act.put, List.setIfInBounds_toArray, List.set_cons_zero, List.set_cons_succ])
          refine wpAnyH_ready (rs := [6]) (by kernel_rfl) (by simp) ?_
          refine AllReadyH.cons (o := { dst := none, op := Go.Op.store 85 (Go.Operand.tmp 7) (Go.Operand.tmp 11), type := 0, pos := _, after := #[{ on := 4, ground := Go.Ground.data }, { on := 1, ground := Go.Ground.data }, { on := 3, ground := Go.Ground.chain }, { on := 0, ground := Go.Ground.phase }, { on := 1, ground := Go.Ground.phase }, { on := 2, ground := Go.Ground.textOnly Go.Departure.lateStores }, { on := 3, ground := Go.Ground.textOnly Go.Departure.lateStoresUnsure }, { on := 4, ground := Go.Ground.phase }, { on := 5, ground := Go.Ground.phase }], guard := none }) rfl (fun K hK => ?_) AllReadyH.nil
          ((have hth := Rx.there (bitsA (A % MM)).size (by rw [bitsA_size, zeroA_size]; exact Nat.le_refl _)); (have hinf := bitsA_info (A % MM)); (have hone := bitsA_one (A % MM)); (rw [if_pos (by rfl)]); (with_reducible refine wp_store_mid 85 (.tmp 7) (.tmp 11) ?_ gx 0 (bitsA (A % MM)) ?_ ?_ hth hinf hone ?_); rfl; rfl; rfl; clear hth hinf hone; (have Rxn := Rx.setAll (bitsA (A % MM)) (by rw [bitsA_size, zeroA_size])); clear Rx; (first | (replace Ry := Row.setCells_far (g := gx) (o := 0) (vs := (bitsA (A % MM)).toList) Ry hne) | (replace Ry := Row.setCells_far (g := gx) (o := 0) (vs := (bitsA (A % MM)).toList) Ry hne.symm)); (have Rx := Rxn); clear Rxn; (have s0 := cell_setCells_far (g := gx) (o := 0) (vs := (bitsA (A % MM)).toList) hHeld.1 (by simp; omega)); (have s1 := cell_setCells_far (g := gx) (o := 0) (vs := (bitsA (A % MM)).toList) hHeld.2.1 (by simp; omega)); (have s2 := cell_setCells_far (g := gx) (o := 0) (vs := (bitsA (A % MM)).toList) hHeld.2.2.1 (by simp; omega)); (have s3 := cell_setCells_far (g := gx) (o := 0) (vs := (bitsA (A % MM)).toList) hHeld.2.2.2.1 (by simp; omega)); (have s4 := below_setCells mx (bitsA (A % MM)).toList 0 _ hHeld.2.2.2.2); generalize wq.setCells gx 0 (bitsA (A % MM)).toList = wn at *)
          refine hK.out _ _ ?hSr12_20_6 (fun hHeld2 => ?_)
          case hSr12_20_6 => (exact ⟨s0, s1, s2, s3, s4⟩)
          clear hK K hHeld
          have hHeld := hHeld2
          clear hHeld2
          rename World => wq
          (try simp only [Act.put, List.setIfInBounds_toArray, List.set_cons_zero, List.set_cons_succ])
          refine wpAnyH_ready (rs := [7]) (by kernel_rfl) (by simp) ?_
          refine AllReadyH.cons (o := { dst := none, op := Go.Op.store 85 (Go.Operand.tmp 8) (Go.Operand.tmp 13), type := 0, pos := _, after := #[{ on := 5, ground := Go.Ground.data }, { on := 3, ground := Go.Ground.data }, { on := 6, ground := Go.Ground.chain }, { on := 0, ground := Go.Ground.phase }, { on := 1, ground := Go.Ground.phase }, { on := 2, ground := Go.Ground.phase }, { on := 3, ground := Go.Ground.phase }, { on := 4, ground := Go.Ground.phase }, { on := 5, ground := Go.Ground.phase }, { on := 6, ground := Go.Ground.phase }], guard := none }) rfl (fun K hK => ?_) AllReadyH.nil
          ((have hth := Ry.there (bitsA (B % MM)).size (by rw [bitsA_size, zeroA_size]; exact Nat.le_refl _)); (have hinf := bitsA_info (B % MM)); (have hone := bitsA_one (B % MM)); (rw [if_pos (by rfl)]); (with_reducible refine wp_store_mid 85 (.tmp 8) (.tmp 13) ?_ gy 0 (bitsA (B % MM)) ?_ ?_ hth hinf hone ?_); rfl; rfl; rfl; clear hth hinf hone; (have Ryn := Ry.setAll (bitsA (B % MM)) (by rw [bitsA_size, zeroA_size])); clear Ry; (first | (replace Rx := Row.setCells_far (g := gy) (o := 0) (vs := (bitsA (B % MM)).toList) Rx hne) | (replace Rx := Row.setCells_far (g := gy) (o := 0) (vs := (bitsA (B % MM)).toList) Rx hne.symm)); (have Ry := Ryn); clear Ryn; (have s0 := cell_setCells_far (g := gy) (o := 0) (vs := (bitsA (B % MM)).toList) hHeld.1 (by simp; omega)); (have s1 := cell_setCells_far (g := gy) (o := 0) (vs := (bitsA (B % MM)).toList) hHeld.2.1 (by simp; omega)); (have s2 := cell_setCells_far (g := gy) (o := 0) (vs := (bitsA (B % MM)).toList) hHeld.2.2.1 (by simp; omega)); (have s3 := cell_setCells_far (g := gy) (o := 0) (vs := (bitsA (B % MM)).toList) hHeld.2.2.2.1 (by simp; omega)); (have s4 := below_setCells my (bitsA (B % MM)).toList 0 _ hHeld.2.2.2.2); generalize wq.setCells gy 0 (bitsA (B % MM)).toList = wn at *)
          refine hK.out _ _ ?hSr12_21_7 (fun hHeld2 => ?_)
          case hSr12_21_7 => (exact ⟨s0, s1, s2, s3, s4⟩)
          clear hK K hHeld
          have hHeld := hHeld2
          clear hHeld2
          rename World => wq
          (try simp only [Act.put, List.setIfInBounds_toArray, List.set_cons_zero, List.set_cons_succ])
          refine wpAnyH_done (by kernel_rfl) ?_ _
          (go_wp2_with fail; go_meet; exact ⟨_, _, rfl, rfl, Rx, Ry, (by first | exact hne | exact hne.symm), mx, my, hHeld.2.2.2.2⟩)
      refine AllReadyH.cons (o := { dst := some 8, op := Go.Op.alloc 85, type := 0, pos := _, after := #[], guard := none }) rfl (fun K hK => ?_) AllReadyH.nil
      · (go_simp; (have ly : w.heap.size + 1 < wq.heap.size := World.block_lt_of_cell? _ _ hHeld.2.2.1); (have my : W0.heap.size ≤ wq.heap.size := hHeld.2.2.2.2.size); (try have hne := Nat.ne_of_lt Rx.lt); (have Ry := Row.new wq Try.zeroCells85 85); (have hb : Below wq.heap.size wq (wq.alloc (.cells Try.zeroCells85 85)) := (Below.refl _ _).alloc (Nat.le_refl _) _); (have s0 := cell_later hb hHeld.1); (have s1 := cell_later hb hHeld.2.1); (have s2 := cell_later hb hHeld.2.2.1); (have s3 := cell_later hb hHeld.2.2.2.1); (have s4 := below_step hHeld.2.2.2.2 hb); (try replace Rx := Rx.later hb); clear hb; generalize wq.alloc (.cells Try.zeroCells85 85) = wn at *; generalize wq.heap.size = gy at *)
        refine hK.out _ _ ?hSr12_22_5 (fun hHeld2 => ?_)
        case hSr12_22_5 => (exact ⟨s0, s1, s2, s3, s4⟩)
        clear hK K hHeld
        have hHeld := hHeld2
        clear hHeld2
        rename World => wq
        (try simp only [Act.put, List.setIfInBounds_toArray, List.set_cons_zero, List.set_cons_succ])
        refine wpAnyH_ready (rs := [3, 4]) (by kernel_rfl) (by simp) ?_
        refine AllReadyH.cons (o := { dst := some 13, op := Go.Op.call { callee := Go.Callee.value (Go.Operand.func 57), args := #[Go.Operand.tmp 12], argTypes := #[27] }, type := 85, pos := _, after := #[{ on := 2, ground := Go.Ground.data }, { on := 1, ground := Go.Ground.chain }], guard := none }) rfl (fun K hK => ?_) ?_
        · go_simp
          ((refine (bits_h _ _).mono ?_); (rintro e wn ⟨rfl, hb⟩); (try replace Rx := Rx.later hb); (try replace Ry := Ry.later hb))
          go_wp2_with fail
          refine hK.out _ _ ?hSr12_23_3 (fun hHeld2 => ?_)
          case hSr12_23_3 => (first | exact ⟨a0, a1, b0, b1, Below.drew (Below.refl _ _)⟩ | exact ⟨cell_later hb hHeld.1, cell_later hb hHeld.2.1, cell_later hb hHeld.2.2.1, cell_later hb hHeld.2.2.2.1, below_step hHeld.2.2.2.2 hb⟩)
          clear hK K hHeld
          have hHeld := hHeld2
          clear hHeld2
          rename World => wq
          (try simp only [Act.put, List.setIfInBounds_toArray, List.set_cons_zero, List.set_cons_succ])
          refine wpAnyH_ready (rs := [4]) (by kernel_rfl) (by simp) ?_
          refine AllReadyH.cons (o := { dst := some 7, op := Go.Op.alloc 85, type := 0, pos := _, after := #[], guard := none }) rfl (fun K hK => ?_) AllReadyH.nil
          (go_simp; (have lx : w.heap.size + 1 < wq.heap.size := World.block_lt_of_cell? _ _ hHeld.2.2.1); (have mx : W0.heap.size ≤ wq.heap.size := hHeld.2.2.2.2.size); (try have hne := Nat.ne_of_lt Ry.lt); (have Rx := Row.new wq Try.zeroCells85 85); (have hb : Below wq.heap.size wq (wq.alloc (.cells Try.zeroCells85 85)) := (Below.refl _ _).alloc (Nat.le_refl _) _); (have s0 := cell_later hb hHeld.1); (have s1 := cell_later hb hHeld.2.1); (have s2 := cell_later hb hHeld.2.2.1); (have s3 := cell_later hb hHeld.2.2.2.1); (have s4 := below_step hHeld.2.2.2.2 hb); (try replace Ry := Ry.later hb); clear hb; generalize wq.alloc (.cells Try.zeroCells85 85) = wn at *; generalize wq.heap.size = gx at *)
          refine hK.out _ _ ?hSr12_24_4 (fun hHeld2 => ?_)
          case hSr12_24_4 => (exact ⟨s0, s1, s2, s3, s4⟩)
          clear hK K hHeld
          have hHeld := hHeld2
          clear hHeld2
          rename World => wq
          (try simp only [Act.put, List.setIfInBounds_toArray, List.set_cons_zero, List.set_cons_succ])
          refine wpAnyH_ready (rs := [6]) (by kernel_rfl) (by simp) ?_
          refine AllReadyH.cons (o := { dst := none, op := Go.Op.store 85 (Go.Operand.tmp 7) (Go.Operand.tmp 11), type := 0, pos := _, after := #[{ on := 4, ground := Go.Ground.data }, { on := 1, ground := Go.Ground.data }, { on := 3, ground := Go.Ground.chain }, { on := 0, ground := Go.Ground.phase }, { on := 1, ground := Go.Ground.phase }, { on := 2, ground := Go.Ground.textOnly Go.Departure.lateStores }, { on := 3, ground := Go.Ground.textOnly Go.Departure.lateStoresUnsure }, { on := 4, ground := Go.Ground.phase }, { on := 5, ground := Go.Ground.phase }], guard := none }) rfl (fun K hK => ?_) AllReadyH.nil
          ((have hth := Rx.there (bitsA (A % MM)).size (by rw [bitsA_size, zeroA_size]; exact Nat.le_refl _)); (have hinf := bitsA_info (A % MM)); (have hone := bitsA_one (A % MM)); (rw [if_pos (by rfl)]); (with_reducible refine wp_store_mid 85 (.tmp 7) (.tmp 11) ?_ gx 0 (bitsA (A % MM)) ?_ ?_ hth hinf hone ?_); rfl; rfl; rfl; clear hth hinf hone; (have Rxn := Rx.setAll (bitsA (A % MM)) (by rw [bitsA_size, zeroA_size])); clear Rx; (first | (replace Ry := Row.setCells_far (g := gx) (o := 0) (vs := (bitsA (A % MM)).toList) Ry hne) | (replace Ry := Row.setCells_far (g := gx) (o := 0) (vs := (bitsA (A % MM)).toList) Ry hne.symm)); (have Rx := Rxn); clear Rxn; (have s0 := cell_setCells_far (g := gx) (o := 0) (vs := (bitsA (A % MM)).toList) hHeld.1 (by simp; omega)); (have s1 := cell_setCells_far (g := gx) (o := 0) (vs := (bitsA (A % MM)).toList) hHeld.2.1 (by simp; omega)); (have s2 := cell_setCells_far (g := gx) (o := 0) (vs := (bitsA (A % MM)).toList) hHeld.2.2.1 (by simp; omega)); (have s3 := cell_setCells_far (g := gx) (o := 0) (vs := (bitsA (A % MM)).toList) hHeld.2.2.2.1 (by simp; omega)); (have s4 := below_setCells mx (bitsA (A % MM)).toList 0 _ hHeld.2.2.2.2); generalize wq.setCells gx 0 (bitsA (A % MM)).toList = wn at *)
          refine hK.out _ _ ?hSr12_25_6 (fun hHeld2 => ?_)
          case hSr12_25_6 => (exact ⟨s0, s1, s2, s3, s4⟩)
          clear hK K hHeld
          have hHeld := hHeld2
          clear hHeld2
          rename World => wq
          (try simp only [Act.put, List.setIfInBounds_toArray, List.set_cons_zero, List.set_cons_succ])
          refine wpAnyH_ready (rs := [7]) (by kernel_rfl) (by simp) ?_
          refine AllReadyH.cons (o := { dst := none, op := Go.Op.store 85 (Go.Operand.tmp 8) (Go.Operand.tmp 13), type := 0, pos := _, after := #[{ on := 5, ground := Go.Ground.data }, { on := 3, ground := Go.Ground.data }, { on := 6, ground := Go.Ground.chain }, { on := 0, ground := Go.Ground.phase }, { on := 1, ground := Go.Ground.phase }, { on := 2, ground := Go.Ground.phase }, { on := 3, ground := Go.Ground.phase }, { on := 4, ground := Go.Ground.phase }, { on := 5, ground := Go.Ground.phase }, { on := 6, ground := Go.Ground.phase }], guard := none }) rfl (fun K hK => ?_) AllReadyH.nil
          ((have hth := Ry.there (bitsA (B % MM)).size (by rw [bitsA_size, zeroA_size]; exact Nat.le_refl _)); (have hinf := bitsA_info (B % MM)); (have hone := bitsA_one (B % MM)); (rw [if_pos (by rfl)]); (with_reducible refine wp_store_mid 85 (.tmp 8) (.tmp 13) ?_ gy 0 (bitsA (B % MM)) ?_ ?_ hth hinf hone ?_); rfl; rfl; rfl; clear hth hinf hone; (have Ryn := Ry.setAll (bitsA (B % MM)) (by rw [bitsA_size, zeroA_size])); clear Ry; (first | (replace Rx := Row.setCells_far (g := gy) (o := 0) (vs := (bitsA (B % MM)).toList) Rx hne) | (replace Rx := Row.setCells_far (g := gy) (o := 0) (vs := (bitsA (B % MM)).toList) Rx hne.symm)); (have Ry := Ryn); clear Ryn; (have s0 := cell_setCells_far (g := gy) (o := 0) (vs := (bitsA (B % MM)).toList) hHeld.1 (by simp; omega)); (have s1 := cell_setCells_far (g := gy) (o := 0) (vs := (bitsA (B % MM)).toList) hHeld.2.1 (by simp; omega)); (have s2 := cell_setCells_far (g := gy) (o := 0) (vs := (bitsA (B % MM)).toList) hHeld.2.2.1 (by simp; omega)); (have s3 := cell_setCells_far (g := gy) (o := 0) (vs := (bitsA (B % MM)).toList) hHeld.2.2.2.1 (by simp; omega)); (have s4 := below_setCells my (bitsA (B % MM)).toList 0 _ hHeld.2.2.2.2); generalize wq.setCells gy 0 (bitsA (B % MM)).toList = wn at *)
          refine hK.out _ _ ?hSr12_26_7 (fun hHeld2 => ?_)
          case hSr12_26_7 => (exact ⟨s0, s1, s2, s3, s4⟩)
          clear hK K hHeld
          have hHeld := hHeld2
          clear hHeld2
          rename World => wq
          (try simp only [Act.put, List.setIfInBounds_toArray, List.set_cons_zero, List.set_cons_succ])
          refine wpAnyH_done (by kernel_rfl) ?_ _
          (go_wp2_with fail; go_meet; exact ⟨_, _, rfl, rfl, Rx, Ry, (by first | exact hne | exact hne.symm), mx, my, hHeld.2.2.2.2⟩)
        refine AllReadyH.cons (o := { dst := some 7, op := Go.Op.alloc 85, type := 0, pos := _, after := #[], guard := none }) rfl (fun K hK => ?_) AllReadyH.nil
        · (go_simp; (have lx : w.heap.size + 1 < wq.heap.size := World.block_lt_of_cell? _ _ hHeld.2.2.1); (have mx : W0.heap.size ≤ wq.heap.size := hHeld.2.2.2.2.size); (try have hne := Nat.ne_of_lt Ry.lt); (have Rx := Row.new wq Try.zeroCells85 85); (have hb : Below wq.heap.size wq (wq.alloc (.cells Try.zeroCells85 85)) := (Below.refl _ _).alloc (Nat.le_refl _) _); (have s0 := cell_later hb hHeld.1); (have s1 := cell_later hb hHeld.2.1); (have s2 := cell_later hb hHeld.2.2.1); (have s3 := cell_later hb hHeld.2.2.2.1); (have s4 := below_step hHeld.2.2.2.2 hb); (try replace Ry := Ry.later hb); clear hb; generalize wq.alloc (.cells Try.zeroCells85 85) = wn at *; generalize wq.heap.size = gx at *)
          refine hK.out _ _ ?hSr12_27_4 (fun hHeld2 => ?_)
          case hSr12_27_4 => (exact ⟨s0, s1, s2, s3, s4⟩)
          clear hK K hHeld
          have hHeld := hHeld2
          clear hHeld2
          rename World => wq
          (try simp only [Act.put, List.setIfInBounds_toArray, List.set_cons_zero, List.set_cons_succ])
          refine wpAnyH_ready (rs := [3]) (by kernel_rfl) (by simp) ?_
          refine AllReadyH.cons (o := { dst := some 13, op := Go.Op.call { callee := Go.Callee.value (Go.Operand.func 57), args := #[Go.Operand.tmp 12], argTypes := #[27] }, type := 85, pos := _, after := #[{ on := 2, ground := Go.Ground.data }, { on := 1, ground := Go.Ground.chain }], guard := none }) rfl (fun K hK => ?_) AllReadyH.nil
          go_simp
          ((refine (bits_h _ _).mono ?_); (rintro e wn ⟨rfl, hb⟩); (try replace Rx := Rx.later hb); (try replace Ry := Ry.later hb))
          go_wp2_with fail
          refine hK.out _ _ ?hSr12_28_3 (fun hHeld2 => ?_)
          case hSr12_28_3 => (first | exact ⟨a0, a1, b0, b1, Below.drew (Below.refl _ _)⟩ | exact ⟨cell_later hb hHeld.1, cell_later hb hHeld.2.1, cell_later hb hHeld.2.2.1, cell_later hb hHeld.2.2.2.1, below_step hHeld.2.2.2.2 hb⟩)
          clear hK K hHeld
          have hHeld := hHeld2
          clear hHeld2
          rename World => wq
          (try simp only [Act.put, List.setIfInBounds_toArray, List.set_cons_zero, List.set_cons_succ])
          refine wpAnyH_ready (rs := [6]) (by kernel_rfl) (by simp) ?_
          refine AllReadyH.cons (o := { dst := none, op := Go.Op.store 85 (Go.Operand.tmp 7) (Go.Operand.tmp 11), type := 0, pos := _, after := #[{ on := 4, ground := Go.Ground.data }, { on := 1, ground := Go.Ground.data }, { on := 3, ground := Go.Ground.chain }, { on := 0, ground := Go.Ground.phase }, { on := 1, ground := Go.Ground.phase }, { on := 2, ground := Go.Ground.textOnly Go.Departure.lateStores }, { on := 3, ground := Go.Ground.textOnly Go.Departure.lateStoresUnsure }, { on := 4, ground := Go.Ground.phase }, { on := 5, ground := Go.Ground.phase }], guard := none }) rfl (fun K hK => ?_) AllReadyH.nil
          ((have hth := Rx.there (bitsA (A % MM)).size (by rw [bitsA_size, zeroA_size]; exact Nat.le_refl _)); (have hinf := bitsA_info (A % MM)); (have hone := bitsA_one (A % MM)); (rw [if_pos (by rfl)]); (with_reducible refine wp_store_mid 85 (.tmp 7) (.tmp 11) ?_ gx 0 (bitsA (A % MM)) ?_ ?_ hth hinf hone ?_); rfl; rfl; rfl; clear hth hinf hone; (have Rxn := Rx.setAll (bitsA (A % MM)) (by rw [bitsA_size, zeroA_size])); clear Rx; (first | (replace Ry := Row.setCells_far (g := gx) (o := 0) (vs := (bitsA (A % MM)).toList) Ry hne) | (replace Ry := Row.setCells_far (g := gx) (o := 0) (vs := (bitsA (A % MM)).toList) Ry hne.symm)); (have Rx := Rxn); clear Rxn; (have s0 := cell_setCells_far (g := gx) (o := 0) (vs := (bitsA (A % MM)).toList) hHeld.1 (by simp; omega)); (have s1 := cell_setCells_far (g := gx) (o := 0) (vs := (bitsA (A % MM)).toList) hHeld.2.1 (by simp; omega)); (have s2 := cell_setCells_far (g := gx) (o := 0) (vs := (bitsA (A % MM)).toList) hHeld.2.2.1 (by simp; omega)); (have s3 := cell_setCells_far (g := gx) (o := 0) (vs := (bitsA (A % MM)).toList) hHeld.2.2.2.1 (by simp; omega)); (have s4 := below_setCells mx (bitsA (A % MM)).toList 0 _ hHeld.2.2.2.2); generalize wq.setCells gx 0 (bitsA (A % MM)).toList = wn at *)
          refine hK.out _ _ ?hSr12_29_6 (fun hHeld2 => ?_)
          case hSr12_29_6 => (exact ⟨s0, s1, s2, s3, s4⟩)
          clear hK K hHeld
          have hHeld := hHeld2
          clear hHeld2
          rename World => wq
          (try simp only [Act.put, List.setIfInBounds_toArray, List.set_cons_zero, List.set_cons_succ])
          refine wpAnyH_ready (rs := [7]) (by kernel_rfl) (by simp) ?_
          refine AllReadyH.cons (o := { dst := none, op := Go.Op.store 85 (Go.Operand.tmp 8) (Go.Operand.tmp 13), type := 0, pos := _, after := #[{ on := 5, ground := Go.Ground.data }, { on := 3, ground := Go.Ground.data }, { on := 6, ground := Go.Ground.chain }, { on := 0, ground := Go.Ground.phase }, { on := 1, ground := Go.Ground.phase }, { on := 2, ground := Go.Ground.phase }, { on := 3, ground := Go.Ground.phase }, { on := 4, ground := Go.Ground.phase }, { on := 5, ground := Go.Ground.phase }, { on := 6, ground := Go.Ground.phase }], guard := none }) rfl (fun K hK => ?_) AllReadyH.nil
          ((have hth := Ry.there (bitsA (B % MM)).size (by rw [bitsA_size, zeroA_size]; exact Nat.le_refl _)); (have hinf := bitsA_info (B % MM)); (have hone := bitsA_one (B % MM)); (rw [if_pos (by rfl)]); (with_reducible refine wp_store_mid 85 (.tmp 8) (.tmp 13) ?_ gy 0 (bitsA (B % MM)) ?_ ?_ hth hinf hone ?_); rfl; rfl; rfl; clear hth hinf hone; (have Ryn := Ry.setAll (bitsA (B % MM)) (by rw [bitsA_size, zeroA_size])); clear Ry; (first | (replace Rx := Row.setCells_far (g := gy) (o := 0) (vs := (bitsA (B % MM)).toList) Rx hne) | (replace Rx := Row.setCells_far (g := gy) (o := 0) (vs := (bitsA (B % MM)).toList) Rx hne.symm)); (have Ry := Ryn); clear Ryn; (have s0 := cell_setCells_far (g := gy) (o := 0) (vs := (bitsA (B % MM)).toList) hHeld.1 (by simp; omega)); (have s1 := cell_setCells_far (g := gy) (o := 0) (vs := (bitsA (B % MM)).toList) hHeld.2.1 (by simp; omega)); (have s2 := cell_setCells_far (g := gy) (o := 0) (vs := (bitsA (B % MM)).toList) hHeld.2.2.1 (by simp; omega)); (have s3 := cell_setCells_far (g := gy) (o := 0) (vs := (bitsA (B % MM)).toList) hHeld.2.2.2.1 (by simp; omega)); (have s4 := below_setCells my (bitsA (B % MM)).toList 0 _ hHeld.2.2.2.2); generalize wq.setCells gy 0 (bitsA (B % MM)).toList = wn at *)
          refine hK.out _ _ ?hSr12_30_7 (fun hHeld2 => ?_)
          case hSr12_30_7 => (exact ⟨s0, s1, s2, s3, s4⟩)
          clear hK K hHeld
          have hHeld := hHeld2
          clear hHeld2
          rename World => wq
          (try simp only [Act.put, List.setIfInBounds_toArray, List.set_cons_zero, List.set_cons_succ])
          refine wpAnyH_done (by kernel_rfl) ?_ _
          (go_wp2_with fail; go_meet; exact ⟨_, _, rfl, rfl, Rx, Ry, (by first | exact hne | exact hne.symm), mx, my, hHeld.2.2.2.2⟩)
    refine AllReadyH.cons (o := { dst := some 7, op := Go.Op.alloc 85, type := 0, pos := _, after := #[], guard := none }) rfl (fun K hK => ?_) ?_
    · (go_simp; (have lx : w.heap.size + 1 < wq.heap.size := World.block_lt_of_cell? _ _ hHeld.2.2.1); (have mx : W0.heap.size ≤ wq.heap.size := hHeld.2.2.2.2.size); (try have hne := Nat.ne_of_lt Ry.lt); (have Rx := Row.new wq Try.zeroCells85 85); (have hb : Below wq.heap.size wq (wq.alloc (.cells Try.zeroCells85 85)) := (Below.refl _ _).alloc (Nat.le_refl _) _); (have s0 := cell_later hb hHeld.1); (have s1 := cell_later hb hHeld.2.1); (have s2 := cell_later hb hHeld.2.2.1); (have s3 := cell_later hb hHeld.2.2.2.1); (have s4 := below_step hHeld.2.2.2.2 hb); (try replace Ry := Ry.later hb); clear hb; generalize wq.alloc (.cells Try.zeroCells85 85) = wn at *; generalize wq.heap.size = gx at *)
      refine hK.out _ _ ?hSr12_31_4 (fun hHeld2 => ?_)
      case hSr12_31_4 => (exact ⟨s0, s1, s2, s3, s4⟩)
      clear hK K hHeld
      have hHeld := hHeld2
      clear hHeld2
      rename World => wq
      (try simp only [Act.put, List.setIfInBounds_toArray, List.set_cons_zero, List.set_cons_succ])
      refine wpAnyH_ready (rs := [1, 5]) (by kernel_rfl) (by simp) ?_
      refine AllReadyH.cons (o := { dst := some 11, op := Go.Op.call { callee := Go.Callee.value (Go.Operand.func 57), args := #[Go.Operand.tmp 10], argTypes := #[27] }, type := 85, pos := _, after := #[{ on := 0, ground := Go.Ground.data }], guard := none }) rfl (fun K hK => ?_) ?_
      · go_simp
        ((refine (bits_h _ _).mono ?_); (rintro e wn ⟨rfl, hb⟩); (try replace Rx := Rx.later hb); (try replace Ry := Ry.later hb))
        go_wp2_with fail
        refine hK.out _ _ ?hSr12_32_1 (fun hHeld2 => ?_)
        case hSr12_32_1 => (first | exact ⟨a0, a1, b0, b1, Below.drew (Below.refl _ _)⟩ | exact ⟨cell_later hb hHeld.1, cell_later hb hHeld.2.1, cell_later hb hHeld.2.2.1, cell_later hb hHeld.2.2.2.1, below_step hHeld.2.2.2.2 hb⟩)
        clear hK K hHeld
        have hHeld := hHeld2
        clear hHeld2
        rename World => wq
        (try simp only [Act.put, List.setIfInBounds_toArray, List.set_cons_zero, List.set_cons_succ])
        refine wpAnyH_ready (rs := [3, 5]) (by kernel_rfl) (by simp) ?_
        refine AllReadyH.cons (o := { dst := some 13, op := Go.Op.call { callee := Go.Callee.value (Go.Operand.func 57), args := #[Go.Operand.tmp 12], argTypes := #[27] }, type := 85, pos := _, after := #[{ on := 2, ground := Go.Ground.data }, { on := 1, ground := Go.Ground.chain }], guard := none }) rfl (fun K hK => ?_) ?_
        · go_simp
          ((refine (bits_h _ _).mono ?_); (rintro e wn ⟨rfl, hb⟩); (try replace Rx := Rx.later hb); (try replace Ry := Ry.later hb))
          go_wp2_with fail
          refine hK.out _ _ ?hSr12_33_3 (fun hHeld2 => ?_)
          case hSr12_33_3 => (first | exact ⟨a0, a1, b0, b1, Below.drew (Below.refl _ _)⟩ | exact ⟨cell_later hb hHeld.1, cell_later hb hHeld.2.1, cell_later hb hHeld.2.2.1, cell_later hb hHeld.2.2.2.1, below_step hHeld.2.2.2.2 hb⟩)
          clear hK K hHeld
          have hHeld := hHeld2
          clear hHeld2
          rename World => wq
          (try simp only [Act.put, List.setIfInBounds_toArray, List.set_cons_zero, List.set_cons_succ])
          refine wpAnyH_ready (rs := [5]) (by kernel_rfl) (by simp) ?_
          refine AllReadyH.cons (o := { dst := some 8, op := Go.Op.alloc 85, type := 0, pos := _, after := #[], guard := none }) rfl (fun K hK => ?_) AllReadyH.nil
          (go_simp; (have ly : w.heap.size + 1 < wq.heap.size := World.block_lt_of_cell? _ _ hHeld.2.2.1); (have my : W0.heap.size ≤ wq.heap.size := hHeld.2.2.2.2.size); (try have hne := Nat.ne_of_lt Rx.lt); (have Ry := Row.new wq Try.zeroCells85 85); (have hb : Below wq.heap.size wq (wq.alloc (.cells Try.zeroCells85 85)) := (Below.refl _ _).alloc (Nat.le_refl _) _); (have s0 := cell_later hb hHeld.1); (have s1 := cell_later hb hHeld.2.1); (have s2 := cell_later hb hHeld.2.2.1); (have s3 := cell_later hb hHeld.2.2.2.1); (have s4 := below_step hHeld.2.2.2.2 hb); (try replace Rx := Rx.later hb); clear hb; generalize wq.alloc (.cells Try.zeroCells85 85) = wn at *; generalize wq.heap.size = gy at *)
          refine hK.out _ _ ?hSr12_34_5 (fun hHeld2 => ?_)
          case hSr12_34_5 => (exact ⟨s0, s1, s2, s3, s4⟩)
          clear hK K hHeld
          have hHeld := hHeld2
          clear hHeld2
          rename World => wq
          (try simp only [Act.put, List.setIfInBounds_toArray, List.set_cons_zero, List.set_cons_succ])
          refine wpAnyH_ready (rs := [6]) (by kernel_rfl) (by simp) ?_
          refine AllReadyH.cons (o := { dst := none, op := Go.Op.store 85 (Go.Operand.tmp 7) (Go.Operand.tmp 11), type := 0, pos := _, after := #[{ on := 4, ground := Go.Ground.data }, { on := 1, ground := Go.Ground.data }, { on := 3, ground := Go.Ground.chain }, { on := 0, ground := Go.Ground.phase }, { on := 1, ground := Go.Ground.phase }, { on := 2, ground := Go.Ground.textOnly Go.Departure.lateStores }, { on := 3, ground := Go.Ground.textOnly Go.Departure.lateStoresUnsure }, { on := 4, ground := Go.Ground.phase }, { on := 5, ground := Go.Ground.phase }], guard := none }) rfl (fun K hK => ?_) AllReadyH.nil
          ((have hth := Rx.there (bitsA (A % MM)).size (by rw [bitsA_size, zeroA_size]; exact Nat.le_refl _)); (have hinf := bitsA_info (A % MM)); (have hone := bitsA_one (A % MM)); (rw [if_pos (by rfl)]); (with_reducible refine wp_store_mid 85 (.tmp 7) (.tmp 11) ?_ gx 0 (bitsA (A % MM)) ?_ ?_ hth hinf hone ?_); rfl; rfl; rfl; clear hth hinf hone; (have Rxn := Rx.setAll (bitsA (A % MM)) (by rw [bitsA_size, zeroA_size])); clear Rx; (first | (replace Ry := Row.setCells_far (g := gx) (o := 0) (vs := (bitsA (A % MM)).toList) Ry hne) | (replace Ry := Row.setCells_far (g := gx) (o := 0) (vs := (bitsA (A % MM)).toList) Ry hne.symm)); (have Rx := Rxn); clear Rxn; (have s0 := cell_setCells_far (g := gx) (o := 0) (vs := (bitsA (A % MM)).toList) hHeld.1 (by simp; omega)); (have s1 := cell_setCells_far (g := gx) (o := 0) (vs := (bitsA (A % MM)).toList) hHeld.2.1 (by simp; omega)); (have s2 := cell_setCells_far (g := gx) (o := 0) (vs := (bitsA (A % MM)).toList) hHeld.2.2.1 (by simp; omega)); (have s3 := cell_setCells_far (g := gx) (o := 0) (vs := (bitsA (A % MM)).toList) hHeld.2.2.2.1 (by simp; omega)); (have s4 := below_setCells mx (bitsA (A % MM)).toList 0 _ hHeld.2.2.2.2); generalize wq.setCells gx 0 (bitsA (A % MM)).toList = wn at *)
          refine hK.out _ _ ?hSr12_35_6 (fun hHeld2 => ?_)
          case hSr12_35_6 => (exact ⟨s0, s1, s2, s3, s4⟩)
          clear hK K hHeld
          have hHeld := hHeld2
          clear hHeld2
          rename World => wq
          (try simp only [Act.put, List.setIfInBounds_toArray, List.set_cons_zero, List.set_cons_succ])
          refine wpAnyH_ready (rs := [7]) (by kernel_rfl) (by simp) ?_
          refine AllReadyH.cons (o := { dst := none, op := Go.Op.store 85 (Go.Operand.tmp 8) (Go.Operand.tmp 13), type := 0, pos := _, after := #[{ on := 5, ground := Go.Ground.data }, { on := 3, ground := Go.Ground.data }, { on := 6, ground := Go.Ground.chain }, { on := 0, ground := Go.Ground.phase }, { on := 1, ground := Go.Ground.phase }, { on := 2, ground := Go.Ground.phase }, { on := 3, ground := Go.Ground.phase }, { on := 4, ground := Go.Ground.phase }, { on := 5, ground := Go.Ground.phase }, { on := 6, ground := Go.Ground.phase }], guard := none }) rfl (fun K hK => ?_) AllReadyH.nil
          ((have hth := Ry.there (bitsA (B % MM)).size (by rw [bitsA_size, zeroA_size]; exact Nat.le_refl _)); (have hinf := bitsA_info (B % MM)); (have hone := bitsA_one (B % MM)); (rw [if_pos (by rfl)]); (with_reducible refine wp_store_mid 85 (.tmp 8) (.tmp 13) ?_ gy 0 (bitsA (B % MM)) ?_ ?_ hth hinf hone ?_); rfl; rfl; rfl; clear hth hinf hone; (have Ryn := Ry.setAll (bitsA (B % MM)) (by rw [bitsA_size, zeroA_size])); clear Ry; (first | (replace Rx := Row.setCells_far (g := gy) (o := 0) (vs := (bitsA (B % MM)).toList) Rx hne) | (replace Rx := Row.setCells_far (g := gy) (o := 0) (vs := (bitsA (B % MM)).toList) Rx hne.symm)); (have Ry := Ryn); clear Ryn; (have s0 := cell_setCells_far (g := gy) (o := 0) (vs := (bitsA (B % MM)).toList) hHeld.1 (by simp; omega)); (have s1 := cell_setCells_far (g := gy) (o := 0) (vs := (bitsA (B % MM)).toList) hHeld.2.1 (by simp; omega)); (have s2 := cell_setCells_far (g := gy) (o := 0) (vs := (bitsA (B % MM)).toList) hHeld.2.2.1 (by simp; omega)); (have s3 := cell_setCells_far (g := gy) (o := 0) (vs := (bitsA (B % MM)).toList) hHeld.2.2.2.1 (by simp; omega)); (have s4 := below_setCells my (bitsA (B % MM)).toList 0 _ hHeld.2.2.2.2); generalize wq.setCells gy 0 (bitsA (B % MM)).toList = wn at *)
          refine hK.out _ _ ?hSr12_36_7 (fun hHeld2 => ?_)
          case hSr12_36_7 => (exact ⟨s0, s1, s2, s3, s4⟩)
          clear hK K hHeld
          have hHeld := hHeld2
          clear hHeld2
          rename World => wq
          (try simp only [Act.put, List.setIfInBounds_toArray, List.set_cons_zero, List.set_cons_succ])
          refine wpAnyH_done (by kernel_rfl) ?_ _
          (go_wp2_with fail; go_meet; exact ⟨_, _, rfl, rfl, Rx, Ry, (by first | exact hne | exact hne.symm), mx, my, hHeld.2.2.2.2⟩)
        refine AllReadyH.cons (o := { dst := some 8, op := Go.Op.alloc 85, type := 0, pos := _, after := #[], guard := none }) rfl (fun K hK => ?_) AllReadyH.nil
        · (go_simp; (have ly : w.heap.size + 1 < wq.heap.size := World.block_lt_of_cell? _ _ hHeld.2.2.1); (have my : W0.heap.size ≤ wq.heap.size := hHeld.2.2.2.2.size); (try have hne := Nat.ne_of_lt Rx.lt); (have Ry := Row.new wq Try.zeroCells85 85); (have hb : Below wq.heap.size wq (wq.alloc (.cells Try.zeroCells85 85)) := (Below.refl _ _).alloc (Nat.le_refl _) _); (have s0 := cell_later hb hHeld.1); (have s1 := cell_later hb hHeld.2.1); (have s2 := cell_later hb hHeld.2.2.1); (have s3 := cell_later hb hHeld.2.2.2.1); (have s4 := below_step hHeld.2.2.2.2 hb); (try replace Rx := Rx.later hb); clear hb; generalize wq.alloc (.cells Try.zeroCells85 85) = wn at *; generalize wq.heap.size = gy at *)
          refine hK.out _ _ ?hSr12_37_5 (fun hHeld2 => ?_)
          case hSr12_37_5 => (exact ⟨s0, s1, s2, s3, s4⟩)
          clear hK K hHeld
          have hHeld := hHeld2
          clear hHeld2
          rename World => wq
          (try simp only [Act.put, List.setIfInBounds_toArray, List.set_cons_zero, List.set_cons_succ])
          refine wpAnyH_ready (rs := [3]) (by kernel_rfl) (by simp) ?_
          refine AllReadyH.cons (o := { dst := some 13, op := Go.Op.call { callee := Go.Callee.value (Go.Operand.func 57), args := #[Go.Operand.tmp 12], argTypes := #[27] }, type := 85, pos := _, after := #[{ on := 2, ground := Go.Ground.data }, { on := 1, ground := Go.Ground.chain }], guard := none }) rfl (fun K hK => ?_) AllReadyH.nil
          go_simp
          ((refine (bits_h _ _).mono ?_); (rintro e wn ⟨rfl, hb⟩); (try replace Rx := Rx.later hb); (try replace Ry := Ry.later hb))
          go_wp2_with fail
          refine hK.out _ _ ?hSr12_38_3 (fun hHeld2 => ?_)
          case hSr12_38_3 => (first | exact ⟨a0, a1, b0, b1, Below.drew (Below.refl _ _)⟩ | exact ⟨cell_later hb hHeld.1, cell_later hb hHeld.2.1, cell_later hb hHeld.2.2.1, cell_later hb hHeld.2.2.2.1, below_step hHeld.2.2.2.2 hb⟩)
          clear hK K hHeld
          have hHeld := hHeld2
          clear hHeld2
          rename World => wq
          (try simp only [Act.put, List.setIfInBounds_toArray, List.set_cons_zero, List.set_cons_succ])
          refine wpAnyH_ready (rs := [6]) (by kernel_rfl) (by simp) ?_
          refine AllReadyH.cons (o := { dst := none, op := Go.Op.store 85 (Go.Operand.tmp 7) (Go.Operand.tmp 11), type := 0, pos := _, after := #[{ on := 4, ground := Go.Ground.data }, { on := 1, ground := Go.Ground.data }, { on := 3, ground := Go.Ground.chain }, { on := 0, ground := Go.Ground.phase }, { on := 1, ground := Go.Ground.phase }, { on := 2, ground := Go.Ground.textOnly Go.Departure.lateStores }, { on := 3, ground := Go.Ground.textOnly Go.Departure.lateStoresUnsure }, { on := 4, ground := Go.Ground.phase }, { on := 5, ground := Go.Ground.phase }], guard := none }) rfl (fun K hK => ?_) AllReadyH.nil
          ((have hth := Rx.there (bitsA (A % MM)).size (by rw [bitsA_size, zeroA_size]; exact Nat.le_refl _)); (have hinf := bitsA_info (A % MM)); (have hone := bitsA_one (A % MM)); (rw [if_pos (by rfl)]); (with_reducible refine wp_store_mid 85 (.tmp 7) (.tmp 11) ?_ gx 0 (bitsA (A % MM)) ?_ ?_ hth hinf hone ?_); rfl; rfl; rfl; clear hth hinf hone; (have Rxn := Rx.setAll (bitsA (A % MM)) (by rw [bitsA_size, zeroA_size])); clear Rx; (first | (replace Ry := Row.setCells_far (g := gx) (o := 0) (vs := (bitsA (A % MM)).toList) Ry hne) | (replace Ry := Row.setCells_far (g := gx) (o := 0) (vs := (bitsA (A % MM)).toList) Ry hne.symm)); (have Rx := Rxn); clear Rxn; (have s0 := cell_setCells_far (g := gx) (o := 0) (vs := (bitsA (A % MM)).toList) hHeld.1 (by simp; omega)); (have s1 := cell_setCells_far (g := gx) (o := 0) (vs := (bitsA (A % MM)).toList) hHeld.2.1 (by simp; omega)); (have s2 := cell_setCells_far (g := gx) (o := 0) (vs := (bitsA (A % MM)).toList) hHeld.2.2.1 (by simp; omega)); (have s3 := cell_setCells_far (g := gx) (o := 0) (vs := (bitsA (A % MM)).toList) hHeld.2.2.2.1 (by simp; omega)); (have s4 := below_setCells mx (bitsA (A % MM)).toList 0 _ hHeld.2.2.2.2); generalize wq.setCells gx 0 (bitsA (A % MM)).toList = wn at *)
          refine hK.out _ _ ?hSr12_39_6 (fun hHeld2 => ?_)
          case hSr12_39_6 => (exact ⟨s0, s1, s2, s3, s4⟩)
          clear hK K hHeld
          have hHeld := hHeld2
          clear hHeld2
          rename World => wq
          (try simp only [Act.put, List.setIfInBounds_toArray, List.set_cons_zero, List.set_cons_succ])
          refine wpAnyH_ready (rs := [7]) (by kernel_rfl) (by simp) ?_
          refine AllReadyH.cons (o := { dst := none, op := Go.Op.store 85 (Go.Operand.tmp 8) (Go.Operand.tmp 13), type := 0, pos := _, after := #[{ on := 5, ground := Go.Ground.data }, { on := 3, ground := Go.Ground.data }, { on := 6, ground := Go.Ground.chain }, { on := 0, ground := Go.Ground.phase }, { on := 1, ground := Go.Ground.phase }, { on := 2, ground := Go.Ground.phase }, { on := 3, ground := Go.Ground.phase }, { on := 4, ground := Go.Ground.phase }, { on := 5, ground := Go.Ground.phase }, { on := 6, ground := Go.Ground.phase }], guard := none }) rfl (fun K hK => ?_) AllReadyH.nil
          ((have hth := Ry.there (bitsA (B % MM)).size (by rw [bitsA_size, zeroA_size]; exact Nat.le_refl _)); (have hinf := bitsA_info (B % MM)); (have hone := bitsA_one (B % MM)); (rw [if_pos (by rfl)]); (with_reducible refine wp_store_mid 85 (.tmp 8) (.tmp 13) ?_ gy 0 (bitsA (B % MM)) ?_ ?_ hth hinf hone ?_); rfl; rfl; rfl; clear hth hinf hone; (have Ryn := Ry.setAll (bitsA (B % MM)) (by rw [bitsA_size, zeroA_size])); clear Ry; (first | (replace Rx := Row.setCells_far (g := gy) (o := 0) (vs := (bitsA (B % MM)).toList) Rx hne) | (replace Rx := Row.setCells_far (g := gy) (o := 0) (vs := (bitsA (B % MM)).toList) Rx hne.symm)); (have Ry := Ryn); clear Ryn; (have s0 := cell_setCells_far (g := gy) (o := 0) (vs := (bitsA (B % MM)).toList) hHeld.1 (by simp; omega)); (have s1 := cell_setCells_far (g := gy) (o := 0) (vs := (bitsA (B % MM)).toList) hHeld.2.1 (by simp; omega)); (have s2 := cell_setCells_far (g := gy) (o := 0) (vs := (bitsA (B % MM)).toList) hHeld.2.2.1 (by simp; omega)); (have s3 := cell_setCells_far (g := gy) (o := 0) (vs := (bitsA (B % MM)).toList) hHeld.2.2.2.1 (by simp; omega)); (have s4 := below_setCells my (bitsA (B % MM)).toList 0 _ hHeld.2.2.2.2); generalize wq.setCells gy 0 (bitsA (B % MM)).toList = wn at *)
          refine hK.out _ _ ?hSr12_40_7 (fun hHeld2 => ?_)
          case hSr12_40_7 => (exact ⟨s0, s1, s2, s3, s4⟩)
          clear hK K hHeld
          have hHeld := hHeld2
          clear hHeld2
          rename World => wq
          (try simp only [Act.put, List.setIfInBounds_toArray, List.set_cons_zero, List.set_cons_succ])
          refine wpAnyH_done (by kernel_rfl) ?_ _
          (go_wp2_with fail; go_meet; exact ⟨_, _, rfl, rfl, Rx, Ry, (by first | exact hne | exact hne.symm), mx, my, hHeld.2.2.2.2⟩)
      refine AllReadyH.cons (o := { dst := some 8, op := Go.Op.alloc 85, type := 0, pos := _, after := #[], guard := none }) rfl (fun K hK => ?_) AllReadyH.nil
      · (go_simp; (have ly : w.heap.size + 1 < wq.heap.size := World.block_lt_of_cell? _ _ hHeld.2.2.1); (have my : W0.heap.size ≤ wq.heap.size := hHeld.2.2.2.2.size); (try have hne := Nat.ne_of_lt Rx.lt); (have Ry := Row.new wq Try.zeroCells85 85); (have hb : Below wq.heap.size wq (wq.alloc (.cells Try.zeroCells85 85)) := (Below.refl _ _).alloc (Nat.le_refl _) _); (have s0 := cell_later hb hHeld.1); (have s1 := cell_later hb hHeld.2.1); (have s2 := cell_later hb hHeld.2.2.1); (have s3 := cell_later hb hHeld.2.2.2.1); (have s4 := below_step hHeld.2.2.2.2 hb); (try replace Rx := Rx.later hb); clear hb; generalize wq.alloc (.cells Try.zeroCells85 85) = wn at *; generalize wq.heap.size = gy at *)
        refine hK.out _ _ ?hSr12_41_5 (fun hHeld2 => ?_)
        case hSr12_41_5 => (exact ⟨s0, s1, s2, s3, s4⟩)
        clear hK K hHeld
        have hHeld := hHeld2
        clear hHeld2
        rename World => wq
        (try simp only [Act.put, List.setIfInBounds_toArray, List.set_cons_zero, List.set_cons_succ])
        refine wpAnyH_ready (rs := [1]) (by kernel_rfl) (by simp) ?_
        refine AllReadyH.cons (o := { dst := some 11, op := Go.Op.call { callee := Go.Callee.value (Go.Operand.func 57), args := #[Go.Operand.tmp 10], argTypes := #[27] }, type := 85, pos := _, after := #[{ on := 0, ground := Go.Ground.data }], guard := none }) rfl (fun K hK => ?_) AllReadyH.nil
        go_simp
        ((refine (bits_h _ _).mono ?_); (rintro e wn ⟨rfl, hb⟩); (try replace Rx := Rx.later hb); (try replace Ry := Ry.later hb))
        go_wp2_with fail
        refine hK.out _ _ ?hSr12_42_1 (fun hHeld2 => ?_)
        case hSr12_42_1 => (first | exact ⟨a0, a1, b0, b1, Below.drew (Below.refl _ _)⟩ | exact ⟨cell_later hb hHeld.1, cell_later hb hHeld.2.1, cell_later hb hHeld.2.2.1, cell_later hb hHeld.2.2.2.1, below_step hHeld.2.2.2.2 hb⟩)
        clear hK K hHeld
        have hHeld := hHeld2
        clear hHeld2
        rename World => wq
        (try simp only [Act.put, List.setIfInBounds_toArray, List.set_cons_zero, List.set_cons_succ])
        refine wpAnyH_ready (rs := [3]) (by kernel_rfl) (by simp) ?_
        refine AllReadyH.cons (o := { dst := some 13, op := Go.Op.call { callee := Go.Callee.value (Go.Operand.func 57), args := #[Go.Operand.tmp 12], argTypes := #[27] }, type := 85, pos := _, after := #[{ on := 2, ground := Go.Ground.data }, { on := 1, ground := Go.Ground.chain }], guard := none }) rfl (fun K hK => ?_) AllReadyH.nil
        go_simp
        ((refine (bits_h _ _).mono ?_); (rintro e wn ⟨rfl, hb⟩); (try replace Rx := Rx.later hb); (try replace Ry := Ry.later hb))
        go_wp2_with fail
        refine hK.out _ _ ?hSr12_43_3 (fun hHeld2 => ?_)
        case hSr12_43_3 => (first | exact ⟨a0, a1, b0, b1, Below.drew (Below.refl _ _)⟩ | exact ⟨cell_later hb hHeld.1, cell_later hb hHeld.2.1, cell_later hb hHeld.2.2.1, cell_later hb hHeld.2.2.2.1, below_step hHeld.2.2.2.2 hb⟩)
        clear hK K hHeld
        have hHeld := hHeld2
        clear hHeld2
        rename World => wq
        (try simp only [Act.put, List.setIfInBounds_toArray, List.set_cons_zero, List.set_cons_succ])
        refine wpAnyH_ready (rs := [6]) (by kernel_rfl) (by simp) ?_
        refine AllReadyH.cons (o := { dst := none, op := Go.Op.store 85 (Go.Operand.tmp 7) (Go.Operand.tmp 11), type := 0, pos := _, after := #[{ on := 4, ground := Go.Ground.data }, { on := 1, ground := Go.Ground.data }, { on := 3, ground := Go.Ground.chain }, { on := 0, ground := Go.Ground.phase }, { on := 1, ground := Go.Ground.phase }, { on := 2, ground := Go.Ground.textOnly Go.Departure.lateStores }, { on := 3, ground := Go.Ground.textOnly Go.Departure.lateStoresUnsure }, { on := 4, ground := Go.Ground.phase }, { on := 5, ground := Go.Ground.phase }], guard := none }) rfl (fun K hK => ?_) AllReadyH.nil
        ((have hth := Rx.there (bitsA (A % MM)).size (by rw [bitsA_size, zeroA_size]; exact Nat.le_refl _)); (have hinf := bitsA_info (A % MM)); (have hone := bitsA_one (A % MM)); (rw [if_pos (by rfl)]); (with_reducible refine wp_store_mid 85 (.tmp 7) (.tmp 11) ?_ gx 0 (bitsA (A % MM)) ?_ ?_ hth hinf hone ?_); rfl; rfl; rfl; clear hth hinf hone; (have Rxn := Rx.setAll (bitsA (A % MM)) (by rw [bitsA_size, zeroA_size])); clear Rx; (first | (replace Ry := Row.setCells_far (g := gx) (o := 0) (vs := (bitsA (A % MM)).toList) Ry hne) | (replace Ry := Row.setCells_far (g := gx) (o := 0) (vs := (bitsA (A % MM)).toList) Ry hne.symm)); (have Rx := Rxn); clear Rxn; (have s0 := cell_setCells_far (g := gx) (o := 0) (vs := (bitsA (A % MM)).toList) hHeld.1 (by simp; omega)); (have s1 := cell_setCells_far (g := gx) (o := 0) (vs := (bitsA (A % MM)).toList) hHeld.2.1 (by simp; omega)); (have s2 := cell_setCells_far (g := gx) (o := 0) (vs := (bitsA (A % MM)).toList) hHeld.2.2.1 (by simp; omega)); (have s3 := cell_setCells_far (g := gx) (o := 0) (vs := (bitsA (A % MM)).toList) hHeld.2.2.2.1 (by simp; omega)); (have s4 := below_setCells mx (bitsA (A % MM)).toList 0 _ hHeld.2.2.2.2); generalize wq.setCells gx 0 (bitsA (A % MM)).toList = wn at *)
        refine hK.out _ _ ?hSr12_44_6 (fun hHeld2 => ?_)
        case hSr12_44_6 => (exact ⟨s0, s1, s2, s3, s4⟩)
        clear hK K hHeld
        have hHeld := hHeld2
        clear hHeld2
        rename World => wq
        (try simp only [Act.put, List.setIfInBounds_toArray, List.set_cons_zero, List.set_cons_succ])
        refine wpAnyH_ready (rs := [7]) (by kernel_rfl) (by simp) ?_
        refine AllReadyH.cons (o := { dst := none, op := Go.Op.store 85 (Go.Operand.tmp 8) (Go.Operand.tmp 13), type := 0, pos := _, after := #[{ on := 5, ground := Go.Ground.data }, { on := 3, ground := Go.Ground.data }, { on := 6, ground := Go.Ground.chain }, { on := 0, ground := Go.Ground.phase }, { on := 1, ground := Go.Ground.phase }, { on := 2, ground := Go.Ground.phase }, { on := 3, ground := Go.Ground.phase }, { on := 4, ground := Go.Ground.phase }, { on := 5, ground := Go.Ground.phase }, { on := 6, ground := Go.Ground.phase }], guard := none }) rfl (fun K hK => ?_) AllReadyH.nil
        ((have hth := Ry.there (bitsA (B % MM)).size (by rw [bitsA_size, zeroA_size]; exact Nat.le_refl _)); (have hinf := bitsA_info (B % MM)); (have hone := bitsA_one (B % MM)); (rw [if_pos (by rfl)]); (with_reducible refine wp_store_mid 85 (.tmp 8) (.tmp 13) ?_ gy 0 (bitsA (B % MM)) ?_ ?_ hth hinf hone ?_); rfl; rfl; rfl; clear hth hinf hone; (have Ryn := Ry.setAll (bitsA (B % MM)) (by rw [bitsA_size, zeroA_size])); clear Ry; (first | (replace Rx := Row.setCells_far (g := gy) (o := 0) (vs := (bitsA (B % MM)).toList) Rx hne) | (replace Rx := Row.setCells_far (g := gy) (o := 0) (vs := (bitsA (B % MM)).toList) Rx hne.symm)); (have Ry := Ryn); clear Ryn; (have s0 := cell_setCells_far (g := gy) (o := 0) (vs := (bitsA (B % MM)).toList) hHeld.1 (by simp; omega)); (have s1 := cell_setCells_far (g := gy) (o := 0) (vs := (bitsA (B % MM)).toList) hHeld.2.1 (by simp; omega)); (have s2 := cell_setCells_far (g := gy) (o := 0) (vs := (bitsA (B % MM)).toList) hHeld.2.2.1 (by simp; omega)); (have s3 := cell_setCells_far (g := gy) (o := 0) (vs := (bitsA (B % MM)).toList) hHeld.2.2.2.1 (by simp; omega)); (have s4 := below_setCells my (bitsA (B % MM)).toList 0 _ hHeld.2.2.2.2); generalize wq.setCells gy 0 (bitsA (B % MM)).toList = wn at *)
        refine hK.out _ _ ?hSr12_45_7 (fun hHeld2 => ?_)
        case hSr12_45_7 => (exact ⟨s0, s1, s2, s3, s4⟩)
        clear hK K hHeld
        have hHeld := hHeld2
        clear hHeld2
        rename World => wq
        (try simp only [Act.put, List.setIfInBounds_toArray, List.set_cons_zero, List.set_cons_succ])
        refine wpAnyH_done (by kernel_rfl) ?_ _
        (go_wp2_with fail; go_meet; exact ⟨_, _, rfl, rfl, Rx, Ry, (by first | exact hne | exact hne.symm), mx, my, hHeld.2.2.2.2⟩)
    refine AllReadyH.cons (o := { dst := some 8, op := Go.Op.alloc 85, type := 0, pos := _, after := #[], guard := none }) rfl (fun K hK => ?_) AllReadyH.nil
    · (go_simp; (have ly : w.heap.size + 1 < wq.heap.size := World.block_lt_of_cell? _ _ hHeld.2.2.1); (have my : W0.heap.size ≤ wq.heap.size := hHeld.2.2.2.2.size); (try have hne := Nat.ne_of_lt Rx.lt); (have Ry := Row.new wq Try.zeroCells85 85); (have hb : Below wq.heap.size wq (wq.alloc (.cells Try.zeroCells85 85)) := (Below.refl _ _).alloc (Nat.le_refl _) _); (have s0 := cell_later hb hHeld.1); (have s1 := cell_later hb hHeld.2.1); (have s2 := cell_later hb hHeld.2.2.1); (have s3 := cell_later hb hHeld.2.2.2.1); (have s4 := below_step hHeld.2.2.2.2 hb); (try replace Rx := Rx.later hb); clear hb; generalize wq.alloc (.cells Try.zeroCells85 85) = wn at *; generalize wq.heap.size = gy at *)
      refine hK.out _ _ ?hSr12_46_5 (fun hHeld2 => ?_)
      case hSr12_46_5 => (exact ⟨s0, s1, s2, s3, s4⟩)
      clear hK K hHeld
      have hHeld := hHeld2
      clear hHeld2
      rename World => wq
      (try simp only [Act.put, List.setIfInBounds_toArray, List.set_cons_zero, List.set_cons_succ])
      refine wpAnyH_ready (rs := [1, 4]) (by kernel_rfl) (by simp) ?_
      refine AllReadyH.cons (o := { dst := some 11, op := Go.Op.call { callee := Go.Callee.value (Go.Operand.func 57), args := #[Go.Operand.tmp 10], argTypes := #[27] }, type := 85, pos := _, after := #[{ on := 0, ground := Go.Ground.data }], guard := none }) rfl (fun K hK => ?_) ?_
      · go_simp
        ((refine (bits_h _ _).mono ?_); (rintro e wn ⟨rfl, hb⟩); (try replace Rx := Rx.later hb); (try replace Ry := Ry.later hb))
        go_wp2_with fail
        refine hK.out _ _ ?hSr12_47_1 (fun hHeld2 => ?_)
        case hSr12_47_1 => (first | exact ⟨a0, a1, b0, b1, Below.drew (Below.refl _ _)⟩ | exact ⟨cell_later hb hHeld.1, cell_later hb hHeld.2.1, cell_later hb hHeld.2.2.1, cell_later hb hHeld.2.2.2.1, below_step hHeld.2.2.2.2 hb⟩)
        clear hK K hHeld
        have hHeld := hHeld2
        clear hHeld2
        rename World => wq
        (try simp only [Act.put, List.setIfInBounds_toArray, List.set_cons_zero, List.set_cons_succ])
        refine wpAnyH_ready (rs := [3, 4]) (by kernel_rfl) (by simp) ?_
        refine AllReadyH.cons (o := { dst := some 13, op := Go.Op.call { callee := Go.Callee.value (Go.Operand.func 57), args := #[Go.Operand.tmp 12], argTypes := #[27] }, type := 85, pos := _, after := #[{ on := 2, ground := Go.Ground.data }, { on := 1, ground := Go.Ground.chain }], guard := none }) rfl (fun K hK => ?_) ?_
        · go_simp
          ((refine (bits_h _ _).mono ?_); (rintro e wn ⟨rfl, hb⟩); (try replace Rx := Rx.later hb); (try replace Ry := Ry.later hb))
          go_wp2_with fail
          refine hK.out _ _ ?hSr12_48_3 (fun hHeld2 => ?_)
          case hSr12_48_3 => (first | exact ⟨a0, a1, b0, b1, Below.drew (Below.refl _ _)⟩ | exact ⟨cell_later hb hHeld.1, cell_later hb hHeld.2.1, cell_later hb hHeld.2.2.1, cell_later hb hHeld.2.2.2.1, below_step hHeld.2.2.2.2 hb⟩)
          clear hK K hHeld
          have hHeld := hHeld2
          clear hHeld2
          rename World => wq
          (try simp only [Act.put, List.setIfInBounds_toArray, List.set_cons_zero, List.set_cons_succ])
          refine wpAnyH_ready (rs := [4]) (by kernel_rfl) (by simp) ?_
          refine AllReadyH.cons (o := { dst := some 7, op := Go.Op.alloc 85, type := 0, pos := _, after := #[], guard := none }) rfl (fun K hK => ?_) AllReadyH.nil
          (go_simp; (have lx : w.heap.size + 1 < wq.heap.size := World.block_lt_of_cell? _ _ hHeld.2.2.1); (have mx : W0.heap.size ≤ wq.heap.size := hHeld.2.2.2.2.size); (try have hne := Nat.ne_of_lt Ry.lt); (have Rx := Row.new wq Try.zeroCells85 85); (have hb : Below wq.heap.size wq (wq.alloc (.cells Try.zeroCells85 85)) := (Below.refl _ _).alloc (Nat.le_refl _) _); (have s0 := cell_later hb hHeld.1); (have s1 := cell_later hb hHeld.2.1); (have s2 := cell_later hb hHeld.2.2.1); (have s3 := cell_later hb hHeld.2.2.2.1); (have s4 := below_step hHeld.2.2.2.2 hb); (try replace Ry := Ry.later hb); clear hb; generalize wq.alloc (.cells Try.zeroCells85 85) = wn at *; generalize wq.heap.size = gx at *)
          refine hK.out _ _ ?hSr12_49_4 (fun hHeld2 => ?_)
          case hSr12_49_4 => (exact ⟨s0, s1, s2, s3, s4⟩)
          clear hK K hHeld
          have hHeld := hHeld2
          clear hHeld2
          rename World => wq
          (try simp only [Act.put, List.setIfInBounds_toArray, List.set_cons_zero, List.set_cons_succ])
          refine wpAnyH_ready (rs := [6]) (by kernel_rfl) (by simp) ?_
          refine AllReadyH.cons (o := { dst := none, op := Go.Op.store 85 (Go.Operand.tmp 7) (Go.Operand.tmp 11), type := 0, pos := _, after := #[{ on := 4, ground := Go.Ground.data }, { on := 1, ground := Go.Ground.data }, { on := 3, ground := Go.Ground.chain }, { on := 0, ground := Go.Ground.phase }, { on := 1, ground := Go.Ground.phase }, { on := 2, ground := Go.Ground.textOnly Go.Departure.lateStores }, { on := 3, ground := Go.Ground.textOnly Go.Departure.lateStoresUnsure }, { on := 4, ground := Go.Ground.phase }, { on := 5, ground := Go.Ground.phase }], guard := none }) rfl (fun K hK => ?_) AllReadyH.nil
          ((have hth := Rx.there (bitsA (A % MM)).size (by rw [bitsA_size, zeroA_size]; exact Nat.le_refl _)); (have hinf := bitsA_info (A % MM)); (have hone := bitsA_one (A % MM)); (rw [if_pos (by rfl)]); (with_reducible refine wp_store_mid 85 (.tmp 7) (.tmp 11) ?_ gx 0 (bitsA (A % MM)) ?_ ?_ hth hinf hone ?_); rfl; rfl; rfl; clear hth hinf hone; (have Rxn := Rx.setAll (bitsA (A % MM)) (by rw [bitsA_size, zeroA_size])); clear Rx; (first | (replace Ry := Row.setCells_far (g := gx) (o := 0) (vs := (bitsA (A % MM)).toList) Ry hne) | (replace Ry := Row.setCells_far (g := gx) (o := 0) (vs := (bitsA (A % MM)).toList) Ry hne.symm)); (have Rx := Rxn); clear Rxn; (have s0 := cell_setCells_far (g := gx) (o := 0) (vs := (bitsA (A % MM)).toList) hHeld.1 (by simp; omega)); (have s1 := cell_setCells_far (g := gx) (o := 0) (vs := (bitsA (A % MM)).toList) hHeld.2.1 (by simp; omega)); (have s2 := cell_setCells_far (g := gx) (o := 0) (vs := (bitsA (A % MM)).toList) hHeld.2.2.1 (by simp; omega)); (have s3 := cell_setCells_far (g := gx) (o := 0) (vs := (bitsA (A % MM)).toList) hHeld.2.2.2.1 (by simp; omega)); (have s4 := below_setCells mx (bitsA (A % MM)).toList 0 _ hHeld.2.2.2.2); generalize wq.setCells gx 0 (bitsA (A % MM)).toList = wn at *)
          refine hK.out _ _ ?hSr12_50_6 (fun hHeld2 => ?_)
          case hSr12_50_6 => (exact ⟨s0, s1, s2, s3, s4⟩)
          clear hK K hHeld
          have hHeld := hHeld2
          clear hHeld2
          rename World => wq
          (try simp only [Act.put, List.setIfInBounds_toArray, List.set_cons_zero, List.set_cons_succ])
          refine wpAnyH_ready (rs := [7]) (by kernel_rfl) (by simp) ?_
          refine AllReadyH.cons (o := { dst := none, op := Go.Op.store 85 (Go.Operand.tmp 8) (Go.Operand.tmp 13), type := 0, pos := _, after := #[{ on := 5, ground := Go.Ground.data }, { on := 3, ground := Go.Ground.data }, { on := 6, ground := Go.Ground.chain }, { on := 0, ground := Go.Ground.phase }, { on := 1, ground := Go.Ground.phase }, { on := 2, ground := Go.Ground.phase }, { on := 3, ground := Go.Ground.phase }, { on := 4, ground := Go.Ground.phase }, { on := 5, ground := Go.Ground.phase }, { on := 6, ground := Go.Ground.phase }], guard := none }) rfl (fun K hK => ?_) AllReadyH.nil
          ((have hth := Ry.there (bitsA (B % MM)).size (by rw [bitsA_size, zeroA_size]; exact Nat.le_refl _)); (have hinf := bitsA_info (B % MM)); (have hone := bitsA_one (B % MM)); (rw [if_pos (by rfl)]); (with_reducible refine wp_store_mid 85 (.tmp 8) (.tmp 13) ?_ gy 0 (bitsA (B % MM)) ?_ ?_ hth hinf hone ?_); rfl; rfl; rfl; clear hth hinf hone; (have Ryn := Ry.setAll (bitsA (B % MM)) (by rw [bitsA_size, zeroA_size])); clear Ry; (first | (replace Rx := Row.setCells_far (g := gy) (o := 0) (vs := (bitsA (B % MM)).toList) Rx hne) | (replace Rx := Row.setCells_far (g := gy) (o := 0) (vs := (bitsA (B % MM)).toList) Rx hne.symm)); (have Ry := Ryn); clear Ryn; (have s0 := cell_setCells_far (g := gy) (o := 0) (vs := (bitsA (B % MM)).toList) hHeld.1 (by simp; omega)); (have s1 := cell_setCells_far (g := gy) (o := 0) (vs := (bitsA (B % MM)).toList) hHeld.2.1 (by simp; omega)); (have s2 := cell_setCells_far (g := gy) (o := 0) (vs := (bitsA (B % MM)).toList) hHeld.2.2.1 (by simp; omega)); (have s3 := cell_setCells_far (g := gy) (o := 0) (vs := (bitsA (B % MM)).toList) hHeld.2.2.2.1 (by simp; omega)); (have s4 := below_setCells my (bitsA (B % MM)).toList 0 _ hHeld.2.2.2.2); generalize wq.setCells gy 0 (bitsA (B % MM)).toList = wn at *)
          refine hK.out _ _ ?hSr12_51_7 (fun hHeld2 => ?_)
          case hSr12_51_7 => (exact ⟨s0, s1, s2, s3, s4⟩)
          clear hK K hHeld
          have hHeld := hHeld2
          clear hHeld2
          rename World => wq
          (try simp only [Act.put, List.setIfInBounds_toArray, List.set_cons_zero, List.set_cons_succ])
          refine wpAnyH_done (by kernel_rfl) ?_ _
          (go_wp2_with fail; go_meet; exact ⟨_, _, rfl, rfl, Rx, Ry, (by first | exact hne | exact hne.symm), mx, my, hHeld.2.2.2.2⟩)
        refine AllReadyH.cons (o := { dst := some 7, op := Go.Op.alloc 85, type := 0, pos := _, after := #[], guard := none }) rfl (fun K hK => ?_) AllReadyH.nil
        · (go_simp; (have lx : w.heap.size + 1 < wq.heap.size := World.block_lt_of_cell? _ _ hHeld.2.2.1); (have mx : W0.heap.size ≤ wq.heap.size := hHeld.2.2.2.2.size); (try have hne := Nat.ne_of_lt Ry.lt); (have Rx := Row.new wq Try.zeroCells85 85); (have hb : Below wq.heap.size wq (wq.alloc (.cells Try.zeroCells85 85)) := (Below.refl _ _).alloc (Nat.le_refl _) _); (have s0 := cell_later hb hHeld.1); (have s1 := cell_later hb hHeld.2.1); (have s2 := cell_later hb hHeld.2.2.1); (have s3 := cell_later hb hHeld.2.2.2.1); (have s4 := below_step hHeld.2.2.2.2 hb); (try replace Ry := Ry.later hb); clear hb; generalize wq.alloc (.cells Try.zeroCells85 85) = wn at *; generalize wq.heap.size = gx at *)
          refine hK.out _ _ ?hSr12_52_4 (fun hHeld2 => ?_)
          case hSr12_52_4 => (exact ⟨s0, s1, s2, s3, s4⟩)
          clear hK K hHeld
          have hHeld := hHeld2
          clear hHeld2
          rename World => wq
          (try simp only [Act.put, List.setIfInBounds_toArray, List.set_cons_zero, List.set_cons_succ])
          refine wpAnyH_ready (rs := [3]) (by kernel_rfl) (by simp) ?_
          refine AllReadyH.cons (o := { dst := some 13, op := Go.Op.call { callee := Go.Callee.value (Go.Operand.func 57), args := #[Go.Operand.tmp 12], argTypes := #[27] }, type := 85, pos := _, after := #[{ on := 2, ground := Go.Ground.data }, { on := 1, ground := Go.Ground.chain }], guard := none }) rfl (fun K hK => ?_) AllReadyH.nil
          go_simp
          ((refine (bits_h _ _).mono ?_); (rintro e wn ⟨rfl, hb⟩); (try replace Rx := Rx.later hb); (try replace Ry := Ry.later hb))
          go_wp2_with fail
          refine hK.out _ _ ?hSr12_53_3 (fun hHeld2 => ?_)
          case hSr12_53_3 => (first | exact ⟨a0, a1, b0, b1, Below.drew (Below.refl _ _)⟩ | exact ⟨cell_later hb hHeld.1, cell_later hb hHeld.2.1, cell_later hb hHeld.2.2.1, cell_later hb hHeld.2.2.2.1, below_step hHeld.2.2.2.2 hb⟩)
          clear hK K hHeld
          have hHeld := hHeld2
          clear hHeld2
          rename World => wq
          (try simp only [Act.put, List.setIfInBounds_toArray, List.set_cons_zero, List.set_cons_succ])
          refine wpAnyH_ready (rs := [6]) (by kernel_rfl) (by simp) ?_
          refine AllReadyH.cons (o := { dst := none, op := Go.Op.store 85 (Go.Operand.tmp 7) (Go.Operand.tmp 11), type := 0, pos := _, after := #[{ on := 4, ground := Go.Ground.data }, { on := 1, ground := Go.Ground.data }, { on := 3, ground := Go.Ground.chain }, { on := 0, ground := Go.Ground.phase }, { on := 1, ground := Go.Ground.phase }, { on := 2, ground := Go.Ground.textOnly Go.Departure.lateStores }, { on := 3, ground := Go.Ground.textOnly Go.Departure.lateStoresUnsure }, { on := 4, ground := Go.Ground.phase }, { on := 5, ground := Go.Ground.phase }], guard := none }) rfl (fun K hK => ?_) AllReadyH.nil
          ((have hth := Rx.there (bitsA (A % MM)).size (by rw [bitsA_size, zeroA_size]; exact Nat.le_refl _)); (have hinf := bitsA_info (A % MM)); (have hone := bitsA_one (A % MM)); (rw [if_pos (by rfl)]); (with_reducible refine wp_store_mid 85 (.tmp 7) (.tmp 11) ?_ gx 0 (bitsA (A % MM)) ?_ ?_ hth hinf hone ?_); rfl; rfl; rfl; clear hth hinf hone; (have Rxn := Rx.setAll (bitsA (A % MM)) (by rw [bitsA_size, zeroA_size])); clear Rx; (first | (replace Ry := Row.setCells_far (g := gx) (o := 0) (vs := (bitsA (A % MM)).toList) Ry hne) | (replace Ry := Row.setCells_far (g := gx) (o := 0) (vs := (bitsA (A % MM)).toList) Ry hne.symm)); (have Rx := Rxn); clear Rxn; (have s0 := cell_setCells_far (g := gx) (o := 0) (vs := (bitsA (A % MM)).toList) hHeld.1 (by simp; omega)); (have s1 := cell_setCells_far (g := gx) (o := 0) (vs := (bitsA (A % MM)).toList) hHeld.2.1 (by simp; omega)); (have s2 := cell_setCells_far (g := gx) (o := 0) (vs := (bitsA (A % MM)).toList) hHeld.2.2.1 (by simp; omega)); (have s3 := cell_setCells_far (g := gx) (o := 0) (vs := (bitsA (A % MM)).toList) hHeld.2.2.2.1 (by simp; omega)); (have s4 := below_setCells mx (bitsA (A % MM)).toList 0 _ hHeld.2.2.2.2); generalize wq.setCells gx 0 (bitsA (A % MM)).toList = wn at *)
          refine hK.out _ _ ?hSr12_54_6 (fun hHeld2 => ?_)
          case hSr12_54_6 => (exact ⟨s0, s1, s2, s3, s4⟩)
          clear hK K hHeld
          have hHeld := hHeld2
          clear hHeld2
          rename World => wq
          (try simp only [Act.put, List.setIfInBounds_toArray, List.set_cons_zero, List.set_cons_succ])
          refine wpAnyH_ready (rs := [7]) (by kernel_rfl) (by simp) ?_
          refine AllReadyH.cons (o := { dst := none, op := Go.Op.store 85 (Go.Operand.tmp 8) (Go.Operand.tmp 13), type := 0, pos := _, after := #[{ on := 5, ground := Go.Ground.data }, { on := 3, ground := Go.Ground.data }, { on := 6, ground := Go.Ground.chain }, { on := 0, ground := Go.Ground.phase }, { on := 1, ground := Go.Ground.phase }, { on := 2, ground := Go.Ground.phase }, { on := 3, ground := Go.Ground.phase }, { on := 4, ground := Go.Ground.phase }, { on := 5, ground := Go.Ground.phase }, { on := 6, ground := Go.Ground.phase }], guard := none }) rfl (fun K hK => ?_) AllReadyH.nil
          ((have hth := Ry.there (bitsA (B % MM)).size (by rw [bitsA_size, zeroA_size]; exact Nat.le_refl _)); (have hinf := bitsA_info (B % MM)); (have hone := bitsA_one (B % MM)); (rw [if_pos (by rfl)]); (with_reducible refine wp_store_mid 85 (.tmp 8) (.tmp 13) ?_ gy 0 (bitsA (B % MM)) ?_ ?_ hth hinf hone ?_); rfl; rfl; rfl; clear hth hinf hone; (have Ryn := Ry.setAll (bitsA (B % MM)) (by rw [bitsA_size, zeroA_size])); clear Ry; (first | (replace Rx := Row.setCells_far (g := gy) (o := 0) (vs := (bitsA (B % MM)).toList) Rx hne) | (replace Rx := Row.setCells_far (g := gy) (o := 0) (vs := (bitsA (B % MM)).toList) Rx hne.symm)); (have Ry := Ryn); clear Ryn; (have s0 := cell_setCells_far (g := gy) (o := 0) (vs := (bitsA (B % MM)).toList) hHeld.1 (by simp; omega)); (have s1 := cell_setCells_far (g := gy) (o := 0) (vs := (bitsA (B % MM)).toList) hHeld.2.1 (by simp; omega)); (have s2 := cell_setCells_far (g := gy) (o := 0) (vs := (bitsA (B % MM)).toList) hHeld.2.2.1 (by simp; omega)); (have s3 := cell_setCells_far (g := gy) (o := 0) (vs := (bitsA (B % MM)).toList) hHeld.2.2.2.1 (by simp; omega)); (have s4 := below_setCells my (bitsA (B % MM)).toList 0 _ hHeld.2.2.2.2); generalize wq.setCells gy 0 (bitsA (B % MM)).toList = wn at *)
          refine hK.out _ _ ?hSr12_55_7 (fun hHeld2 => ?_)
          case hSr12_55_7 => (exact ⟨s0, s1, s2, s3, s4⟩)
          clear hK K hHeld
          have hHeld := hHeld2
          clear hHeld2
          rename World => wq
          (try simp only [Act.put, List.setIfInBounds_toArray, List.set_cons_zero, List.set_cons_succ])
          refine wpAnyH_done (by kernel_rfl) ?_ _
          (go_wp2_with fail; go_meet; exact ⟨_, _, rfl, rfl, Rx, Ry, (by first | exact hne | exact hne.symm), mx, my, hHeld.2.2.2.2⟩)
      refine AllReadyH.cons (o := { dst := some 7, op := Go.Op.alloc 85, type := 0, pos := _, after := #[], guard := none }) rfl (fun K hK => ?_) AllReadyH.nil
      · (go_simp; (have lx : w.heap.size + 1 < wq.heap.size := World.block_lt_of_cell? _ _ hHeld.2.2.1); (have mx : W0.heap.size ≤ wq.heap.size := hHeld.2.2.2.2.size); (try have hne := Nat.ne_of_lt Ry.lt); (have Rx := Row.new wq Try.zeroCells85 85); (have hb : Below wq.heap.size wq (wq.alloc (.cells Try.zeroCells85 85)) := (Below.refl _ _).alloc (Nat.le_refl _) _); (have s0 := cell_later hb hHeld.1); (have s1 := cell_later hb hHeld.2.1); (have s2 := cell_later hb hHeld.2.2.1); (have s3 := cell_later hb hHeld.2.2.2.1); (have s4 := below_step hHeld.2.2.2.2 hb); (try replace Ry := Ry.later hb); clear hb; generalize wq.alloc (.cells Try.zeroCells85 85) = wn at *; generalize wq.heap.size = gx at *)
        refine hK.out _ _ ?hSr12_56_4 (fun hHeld2 => ?_)
        case hSr12_56_4 => (exact ⟨s0, s1, s2, s3, s4⟩)
        clear hK K hHeld
        have hHeld := hHeld2
        clear hHeld2
        rename World => wq
        (try simp only [Act.put, List.setIfInBounds_toArray, List.set_cons_zero, List.set_cons_succ])
        refine wpAnyH_ready (rs := [1]) (by kernel_rfl) (by simp) ?_
        refine AllReadyH.cons (o := { dst := some 11, op := Go.Op.call { callee := Go.Callee.value (Go.Operand.func 57), args := #[Go.Operand.tmp 10], argTypes := #[27] }, type := 85, pos := _, after := #[{ on := 0, ground := Go.Ground.data }], guard := none }) rfl (fun K hK => ?_) AllReadyH.nil
        go_simp
        ((refine (bits_h _ _).mono ?_); (rintro e wn ⟨rfl, hb⟩); (try replace Rx := Rx.later hb); (try replace Ry := Ry.later hb))
        go_wp2_with fail
        refine hK.out _ _ ?hSr12_57_1 (fun hHeld2 => ?_)
        case hSr12_57_1 => (first | exact ⟨a0, a1, b0, b1, Below.drew (Below.refl _ _)⟩ | exact ⟨cell_later hb hHeld.1, cell_later hb hHeld.2.1, cell_later hb hHeld.2.2.1, cell_later hb hHeld.2.2.2.1, below_step hHeld.2.2.2.2 hb⟩)
        clear hK K hHeld
        have hHeld := hHeld2
        clear hHeld2
        rename World => wq
        (try simp only [Act.put, List.setIfInBounds_toArray, List.set_cons_zero, List.set_cons_succ])
        refine wpAnyH_ready (rs := [3]) (by kernel_rfl) (by simp) ?_
        refine AllReadyH.cons (o := { dst := some 13, op := Go.Op.call { callee := Go.Callee.value (Go.Operand.func 57), args := #[Go.Operand.tmp 12], argTypes := #[27] }, type := 85, pos := _, after := #[{ on := 2, ground := Go.Ground.data }, { on := 1, ground := Go.Ground.chain }], guard := none }) rfl (fun K hK => ?_) AllReadyH.nil
        go_simp
        ((refine (bits_h _ _).mono ?_); (rintro e wn ⟨rfl, hb⟩); (try replace Rx := Rx.later hb); (try replace Ry := Ry.later hb))
        go_wp2_with fail
        refine hK.out _ _ ?hSr12_58_3 (fun hHeld2 => ?_)
        case hSr12_58_3 => (first | exact ⟨a0, a1, b0, b1, Below.drew (Below.refl _ _)⟩ | exact ⟨cell_later hb hHeld.1, cell_later hb hHeld.2.1, cell_later hb hHeld.2.2.1, cell_later hb hHeld.2.2.2.1, below_step hHeld.2.2.2.2 hb⟩)
        clear hK K hHeld
        have hHeld := hHeld2
        clear hHeld2
        rename World => wq
        (try simp only [Act.put, List.setIfInBounds_toArray, List.set_cons_zero, List.set_cons_succ])
        refine wpAnyH_ready (rs := [6]) (by kernel_rfl) (by simp) ?_
        refine AllReadyH.cons (o := { dst := none, op := Go.Op.store 85 (Go.Operand.tmp 7) (Go.Operand.tmp 11), type := 0, pos := _, after := #[{ on := 4, ground := Go.Ground.data }, { on := 1, ground := Go.Ground.data }, { on := 3, ground := Go.Ground.chain }, { on := 0, ground := Go.Ground.phase }, { on := 1, ground := Go.Ground.phase }, { on := 2, ground := Go.Ground.textOnly Go.Departure.lateStores }, { on := 3, ground := Go.Ground.textOnly Go.Departure.lateStoresUnsure }, { on := 4, ground := Go.Ground.phase }, { on := 5, ground := Go.Ground.phase }], guard := none }) rfl (fun K hK => ?_) AllReadyH.nil
        ((have hth := Rx.there (bitsA (A % MM)).size (by rw [bitsA_size, zeroA_size]; exact Nat.le_refl _)); (have hinf := bitsA_info (A % MM)); (have hone := bitsA_one (A % MM)); (rw [if_pos (by rfl)]); (with_reducible refine wp_store_mid 85 (.tmp 7) (.tmp 11) ?_ gx 0 (bitsA (A % MM)) ?_ ?_ hth hinf hone ?_); rfl; rfl; rfl; clear hth hinf hone; (have Rxn := Rx.setAll (bitsA (A % MM)) (by rw [bitsA_size, zeroA_size])); clear Rx; (first | (replace Ry := Row.setCells_far (g := gx) (o := 0) (vs := (bitsA (A % MM)).toList) Ry hne) | (replace Ry := Row.setCells_far (g := gx) (o := 0) (vs := (bitsA (A % MM)).toList) Ry hne.symm)); (have Rx := Rxn); clear Rxn; (have s0 := cell_setCells_far (g := gx) (o := 0) (vs := (bitsA (A % MM)).toList) hHeld.1 (by simp; omega)); (have s1 := cell_setCells_far (g := gx) (o := 0) (vs := (bitsA (A % MM)).toList) hHeld.2.1 (by simp; omega)); (have s2 := cell_setCells_far (g := gx) (o := 0) (vs := (bitsA (A % MM)).toList) hHeld.2.2.1 (by simp; omega)); (have s3 := cell_setCells_far (g := gx) (o := 0) (vs := (bitsA (A % MM)).toList) hHeld.2.2.2.1 (by simp; omega)); (have s4 := below_setCells mx (bitsA (A % MM)).toList 0 _ hHeld.2.2.2.2); generalize wq.setCells gx 0 (bitsA (A % MM)).toList = wn at *)
        refine hK.out _ _ ?hSr12_59_6 (fun hHeld2 => ?_)
        case hSr12_59_6 => (exact ⟨s0, s1, s2, s3, s4⟩)
        clear hK K hHeld
        have hHeld := hHeld2
        clear hHeld2
        rename World => wq
        (try simp only [Act.put, List.setIfInBounds_toArray, List.set_cons_zero, List.set_cons_succ])
        refine wpAnyH_ready (rs := [7]) (by kernel_rfl) (by simp) ?_
        refine AllReadyH.cons (o := { dst := none, op := Go.Op.store 85 (Go.Operand.tmp 8) (Go.Operand.tmp 13), type := 0, pos := _, after := #[{ on := 5, ground := Go.Ground.data }, { on := 3, ground := Go.Ground.data }, { on := 6, ground := Go.Ground.chain }, { on := 0, ground := Go.Ground.phase }, { on := 1, ground := Go.Ground.phase }, { on := 2, ground := Go.Ground.phase }, { on := 3, ground := Go.Ground.phase }, { on := 4, ground := Go.Ground.phase }, { on := 5, ground := Go.Ground.phase }, { on := 6, ground := Go.Ground.phase }], guard := none }) rfl (fun K hK => ?_) AllReadyH.nil
        ((have hth := Ry.there (bitsA (B % MM)).size (by rw [bitsA_size, zeroA_size]; exact Nat.le_refl _)); (have hinf := bitsA_info (B % MM)); (have hone := bitsA_one (B % MM)); (rw [if_pos (by rfl)]); (with_reducible refine wp_store_mid 85 (.tmp 8) (.tmp 13) ?_ gy 0 (bitsA (B % MM)) ?_ ?_ hth hinf hone ?_); rfl; rfl; rfl; clear hth hinf hone; (have Ryn := Ry.setAll (bitsA (B % MM)) (by rw [bitsA_size, zeroA_size])); clear Ry; (first | (replace Rx := Row.setCells_far (g := gy) (o := 0) (vs := (bitsA (B % MM)).toList) Rx hne) | (replace Rx := Row.setCells_far (g := gy) (o := 0) (vs := (bitsA (B % MM)).toList) Rx hne.symm)); (have Ry := Ryn); clear Ryn; (have s0 := cell_setCells_far (g := gy) (o := 0) (vs := (bitsA (B % MM)).toList) hHeld.1 (by simp; omega)); (have s1 := cell_setCells_far (g := gy) (o := 0) (vs := (bitsA (B % MM)).toList) hHeld.2.1 (by simp; omega)); (have s2 := cell_setCells_far (g := gy) (o := 0) (vs := (bitsA (B % MM)).toList) hHeld.2.2.1 (by simp; omega)); (have s3 := cell_setCells_far (g := gy) (o := 0) (vs := (bitsA (B % MM)).toList) hHeld.2.2.2.1 (by simp; omega)); (have s4 := below_setCells my (bitsA (B % MM)).toList 0 _ hHeld.2.2.2.2); generalize wq.setCells gy 0 (bitsA (B % MM)).toList = wn at *)
        refine hK.out _ _ ?hSr12_60_7 (fun hHeld2 => ?_)
        case hSr12_60_7 => (exact ⟨s0, s1, s2, s3, s4⟩)
        clear hK K hHeld
        have hHeld := hHeld2
        clear hHeld2
        rename World => wq
        (try simp only [Act.put, List.setIfInBounds_toArray, List.set_cons_zero, List.set_cons_succ])
        refine wpAnyH_done (by kernel_rfl) ?_ _
        (go_wp2_with fail; go_meet; exact ⟨_, _, rfl, rfl, Rx, Ry, (by first | exact hne | exact hne.symm), mx, my, hHeld.2.2.2.2⟩)
  case rest =>
    obtain ⟨gx, gy, rfl, rfl, Rx, Ry, hne, hgx, hgy, hbc⟩ := hcut
    have nrx : w.heap.size + 1 + 1 ≠ gx := Nat.ne_of_lt (Nat.lt_of_lt_of_le Rr.lt hgx)
    have hg0 : w.heap.size ≤ gx := Nat.le_trans hbW.size hgx
    replace Rr := Rr.later hbc
    replace hbc := below_step hbW hbc
    clear a0 a1 b0 b1 hbW
    go_wp2
    have hf : ∃ f : Nat → Int, f = fun j => bothF o (bitF (A % MM) j) (bitF (B % MM) j) := ⟨_, rfl⟩
    obtain ⟨f, hf⟩ := hf
    have HF := Lib.hid hf; clear hf
    rw [bitsA_arrV (A % MM), mixK_zero f] at Rx
    go_loopw [9] (fun i wr => ∃ k : Nat, k ≤ 128 ∧ i = .int .i64 k ∧ Row wr gx (arrV (mixK f (bitF (A % MM)) k)) 85 ∧ Row wr gy (bitsA (B % MM)) 85 ∧ Row wr (w.heap.size + 1 + 1) #[.int .u64 0, .int .u64 0] 27 ∧ Below w.heap.size w wr) (fun i _ => 128 - (intOf i).toNat)
    case atStart => exact ⟨0, by omega, rfl, Rx, Ry, Rr, hbc⟩
    case round =>
      clear Rx Ry Rr hbc
      obtain ⟨k, hk, rfl, Rx, Ry, Rr, hbc⟩ := hrel
      by_cases hlt : k < 128
      · have hkb : decide ((k : Int) < 128) = true := by simp; omega
        have cx := (Rx.cell k).trans (arrV_get _ k hlt)
        rw [mixK_at] at cx
        have cy := (Ry.cell k).trans (bitsA_get _ k hlt)
        have fx := Rx.frozen k
        have b3 : (k : Int) < 128 := by omega
        have b4 : (0 : Int) ≤ (k : Int) := by omega
        have hX := bitF_01 (A % MM) k
        have hY := bitF_01 (B % MM) k
        have hfk : f k = bothF o (bitF (A % MM) k) (bitF (B % MM) k) := by rw [HF.out]
        have HK := Lib.hid hfk; clear hfk
        generalize bitF (A % MM) k = X at *
        generalize bitF (B % MM) k = Y at *
        obtain ⟨X0, X1⟩ := hX; obtain ⟨Y0, Y1⟩ := hY
        have hXY : 0 ≤ X * Y ∧ X * Y ≤ 1 ∧ X * Y ≤ X + Y := by
          rcases (show X = 0 ∨ X = 1 by omega) with h | h <;> rcases (show Y = 0 ∨ Y = 1 by omega) with h' | h' <;> subst h h' <;> decide
        cases o
        · have e1 : IntKind.u64.wrap (X * Y) = X * Y := by rw [IntKind.wrap_u64]; omega
          clear hXY
          go_wp2
          go_region
          all_goals go_wp2
          refine ⟨⟨k + 1, by omega, by go_num, ?_, (Ry.set_far _ _ hne.symm).drew, (Rr.set_far _ _ nrx).drew, (hbc.setCell hg0 _).drew⟩, by simp [intOf]; omega⟩
          have := (Rx.set k (.int .u64 (f k))).drew
          rw [mixK_step f _ k hlt, HK.out] at this
          exact this
        · have e1 : IntKind.u64.wrap (X * Y) = X * Y := by rw [IntKind.wrap_u64]; omega
          have e2 : IntKind.u64.wrap (X + Y) = X + Y := by rw [IntKind.wrap_u64]; omega
          have e3 : IntKind.u64.wrap (X + Y - X * Y) = X + Y - X * Y := by rw [IntKind.wrap_u64]; omega
          clear hXY
          go_wp2
          go_region
          all_goals go_wp2
          refine ⟨⟨k + 1, by omega, by go_num, ?_, (Ry.set_far _ _ hne.symm).drew, (Rr.set_far _ _ nrx).drew, (hbc.setCell hg0 _).drew⟩, by simp [intOf]; omega⟩
          have := (Rx.set k (.int .u64 (f k))).drew
          rw [mixK_step f _ k hlt, HK.out] at this
          exact this
      · obtain rfl : k = 128 := by omega
        have hall := mixK_all f (bitF (A % MM)) (bothI o (A % MM) (B % MM)) (fun j hj => by rw [HF.out]; exact bitF_both o _ _ (Int.emod_nonneg _ (by decide)) (Int.emod_nonneg _ (by decide)) j hj)
        rw [hall] at Rx
        clear hall
        have hinf : (Try.prog.info? 85).map (·.size) = some (arrV (bitF (bothI o (A % MM) (B % MM)))).size := by rw [arrV_size]; kernel_rfl
        have tok : True := trivial
        go_wp2_with (have _t := tok; refine wpList_load_row rfl 85 (.tmp 7) rfl gx rfl 85 (arrV (bitF (bothI o (A % MM) (B % MM)))) (0, 0) _ Rx Try.underlying85 rfl hinf ?_; clear tok)
        refine (refOf_h _ _).mono ?_; rintro e w2 ⟨rfl, hb⟩
        replace Rr := Rr.later hb
        have d0 := Rr.cell 0
        have d1 := Rr.cell 1
        simp at d0 d1
        have f0 := Rr.frozen 0
        have f1 := Rr.frozen 1
        go_wp2
        refine bodyPost_ret (v := .agg #[.int .u64 (hi (bothI o (A % MM) (B % MM))), .int .u64 (lo (bothI o (A % MM) (B % MM)))]) (by simp [results, Try.results28, go_sem, d0, d1]) rfl ⟨rfl, ?_⟩
        exact Below.setCell (Below.setCell (below_step hbc hb) (by simp <;> omega) _) (by simp <;> omega) _
end Go.Proofs.Ytbofnfccejjolaa
