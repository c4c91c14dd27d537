/- RefAddN: what the theorem needs of these texts. No conditions beyond those that are written. -/
import Derived.Test.YthohpcbfohlmhaaJRefOfN
namespace Go.Proofs.Ythohpcbfohlmhaa
set_option linter.unusedVariables false
set_option linter.unusedSimpArgs false
open Go.RowKit
def carryK (a b : Int) (k : Nat) : Int := (a % 2 ^ k + b % 2 ^ k) / 2 ^ k
theorem mod_step (a : Int) (k : Nat) : a % 2 ^ (k + 1) = a % 2 ^ k + 2 ^ k * (a / 2 ^ k % 2) := by
  rw [Int.pow_succ]
  have hp : (0 : Int) < 2 ^ k := Int.pow_pos (by decide)
  generalize (2 : Int) ^ k = P at *
  have h1 : a % P + P * (a / P) = a := Int.emod_add_mul_ediv _ _
  have h2 : a / P % 2 + 2 * (a / P / 2) = a / P := Int.emod_add_mul_ediv _ _
  have h3 : a = (a % P + P * (a / P % 2)) + P * 2 * (a / P / 2) := by
    rw [Int.mul_assoc, Int.add_assoc, ← Int.mul_add, h2, h1]
  have d2 : 0 ≤ a % P := Int.emod_nonneg _ (Int.ne_of_gt hp)
  have d3 : a % P < P := Int.emod_lt_of_pos _ hp
  have d4 : 0 ≤ P * (a / P % 2) ∧ P * (a / P % 2) ≤ P := by
    rcases (show a / P % 2 = 0 ∨ a / P % 2 = 1 by omega) with h | h <;> rw [h] <;> omega
  have d5 : ((a % P + P * (a / P % 2)) + P * 2 * (a / P / 2)) % (P * 2) = a % P + P * (a / P % 2) := by
    rw [Int.add_mul_emod_self_left]; exact Int.emod_eq_of_lt (by omega) (by omega)
  rwa [← h3] at d5
theorem sum_div (a b : Int) (k : Nat) : (a + b) / 2 ^ k = a / 2 ^ k + b / 2 ^ k + carryK a b k := by
  unfold carryK
  have hp : (0 : Int) < 2 ^ k := Int.pow_pos (by decide)
  generalize (2 : Int) ^ k = P at *
  have h1 : a % P + P * (a / P) = a := Int.emod_add_mul_ediv _ _
  have h2 : b % P + P * (b / P) = b := Int.emod_add_mul_ediv _ _
  have : a + b = (a % P + b % P) + P * (a / P + b / P) := by rw [Int.mul_add]; omega
  rw [this, Int.add_mul_ediv_left _ _ (Int.ne_of_gt hp)]; omega
theorem carry_range (a b : Int) (k : Nat) : 0 ≤ carryK a b k ∧ carryK a b k ≤ 1 := by
  unfold carryK
  have hp : (0 : Int) < 2 ^ k := Int.pow_pos (by decide)
  generalize (2 : Int) ^ k = P at *
  have d2 : 0 ≤ a % P := Int.emod_nonneg _ (Int.ne_of_gt hp)
  have d3 : a % P < P := Int.emod_lt_of_pos _ hp
  have d4 : 0 ≤ b % P := Int.emod_nonneg _ (Int.ne_of_gt hp)
  have d5 : b % P < P := Int.emod_lt_of_pos _ hp
  refine ⟨Int.ediv_nonneg (by omega) (by omega), ?_⟩
  have : (a % P + b % P) / P < 2 := Int.ediv_lt_of_lt_mul hp (by omega)
  omega
theorem carry_step (a b : Int) (k : Nat) : (a / 2 ^ k % 2 + b / 2 ^ k % 2 + carryK a b k) / 2 = carryK a b (k + 1) := by
  have h := mod_step a k; have h' := mod_step b k
  unfold carryK
  rw [h, h', Int.pow_succ]
  have hp : (0 : Int) < 2 ^ k := Int.pow_pos (by decide)
  generalize (2 : Int) ^ k = P at *
  rw [← Int.ediv_ediv_of_nonneg (Int.le_of_lt hp)]
  congr 1
  rw [show a % P + P * (a / P % 2) + (b % P + P * (b / P % 2)) = (a % P + b % P) + P * (a / P % 2 + b / P % 2) by rw [Int.mul_add]; omega, Int.add_mul_ediv_left _ _ (Int.ne_of_gt hp)]
  omega
theorem bit_sum (a b : Int) (k : Nat) (hk : k < 128) : (bitF a (127 - k) + bitF b (127 - k) + carryK a b k) % 2 = bitF (a + b) (127 - k) := by
  unfold bitF
  rw [show 127 - (127 - k) = k by omega, sum_div]; omega
theorem carry_bit (a b : Int) (k : Nat) (hk : k < 128) : (bitF a (127 - k) + bitF b (127 - k) + carryK a b k) / 2 = carryK a b (k + 1) := by
  unfold bitF
  rw [show 127 - (127 - k) = k by omega, carry_step]
theorem carry_end (A B : Int) : (carryK (A % MM) (B % MM) 128 == 1) = addB (A % MM) (B % MM) := by
  unfold carryK addB
  rw [show (2 : Int) ^ 128 = MM by rfl, Int.emod_emod, Int.emod_emod, Bool.eq_iff_iff]
  simp only [beq_iff_eq, decide_eq_true_eq]
  unfold MM; omega
theorem carry_zero (a b : Int) : carryK a b 0 = 0 := by unfold carryK; simp
set_option maxRecDepth 100000 in
set_option maxHeartbeats 3200000 in
theorem refAdd_t (A B : Int) (w : World) :
    Calls Try.prog 23 #[.agg #[.int .u64 (hi A), .int .u64 (lo A)], .agg #[.int .u64 (hi B), .int .u64 (lo B)]] w fun e w' =>
      e = .returned (.tuple #[.agg #[.int .u64 (hi (A + B)), .int .u64 (lo (A + B))], .bool (addB (A % MM) (B % MM))]) ∧ Below w.heap.size w w' := by
  go_enter Try.func23, Try.ntmps23
  go_wp2
  have hbW : Below w.heap.size w (((w.alloc (.cells #[.int .u64 (hi A), .int .u64 (lo A)] 34)).alloc (.cells #[.int .u64 (hi B), .int .u64 (lo B)] 34)).alloc (.cells #[.int .u64 0, .int .u64 0] 34)) := (by repeat (first | exact Below.refl _ _ | assumption | (with_reducible refine Below.setCell ?_ ?h _; case h => first | omega | (simp; done) | (simp; omega)) | (with_reducible refine Below.alloc ?_ ?h _; case h => first | omega | (simp; done) | (simp; omega)) | (with_reducible refine Below.drew ?_) | (with_reducible refine Below.trans ?_ (hb4.mono ?h); case h => first | omega | (simp; done) | (simp; omega)) | (with_reducible refine Below.trans ?_ (hb3.mono ?h); case h => first | omega | (simp; done) | (simp; omega)) | (with_reducible refine Below.trans ?_ (hb2.mono ?h); case h => first | omega | (simp; done) | (simp; omega)) | (with_reducible refine Below.trans ?_ (hb.mono ?h); case h => first | omega | (simp; done) | (simp; omega)) | (with_reducible refine Below.trans ?_ (hb0.mono ?h); case h => first | omega | (simp; done) | (simp; omega))))
  have a0 : (((w.alloc (.cells #[.int .u64 (hi A), .int .u64 (lo A)] 34)).alloc (.cells #[.int .u64 (hi B), .int .u64 (lo B)] 34)).alloc (.cells #[.int .u64 0, .int .u64 0] 34)).cell? ⟨w.heap.size, 0, none⟩ = some (.int .u64 (hi A)) := by simp [go_sem]
  have a1 : (((w.alloc (.cells #[.int .u64 (hi A), .int .u64 (lo A)] 34)).alloc (.cells #[.int .u64 (hi B), .int .u64 (lo B)] 34)).alloc (.cells #[.int .u64 0, .int .u64 0] 34)).cell? ⟨w.heap.size, 1, none⟩ = some (.int .u64 (lo A)) := by simp [go_sem]
  have b0 : (((w.alloc (.cells #[.int .u64 (hi A), .int .u64 (lo A)] 34)).alloc (.cells #[.int .u64 (hi B), .int .u64 (lo B)] 34)).alloc (.cells #[.int .u64 0, .int .u64 0] 34)).cell? ⟨w.heap.size + 1, 0, none⟩ = some (.int .u64 (hi B)) := by simp [go_sem]
  have b1 : (((w.alloc (.cells #[.int .u64 (hi A), .int .u64 (lo A)] 34)).alloc (.cells #[.int .u64 (hi B), .int .u64 (lo B)] 34)).alloc (.cells #[.int .u64 0, .int .u64 0] 34)).cell? ⟨w.heap.size + 1, 1, none⟩ = some (.int .u64 (lo B)) := by simp [go_sem]
  have Rr : Row (((w.alloc (.cells #[.int .u64 (hi A), .int .u64 (lo A)] 34)).alloc (.cells #[.int .u64 (hi B), .int .u64 (lo B)] 34)).alloc (.cells #[.int .u64 0, .int .u64 0] 34)) (w.heap.size + 1 + 1) #[.int .u64 0, .int .u64 0] 34 := by simpa using Row.new ((w.alloc (.cells #[.int .u64 (hi A), .int .u64 (lo A)] 34)).alloc (.cells #[.int .u64 (hi B), .int .u64 (lo B)] 34)) #[.int .u64 0, .int .u64 0] 34
  generalize (((w.alloc (.cells #[.int .u64 (hi A), .int .u64 (lo A)] 34)).alloc (.cells #[.int .u64 (hi B), .int .u64 (lo B)] 34)).alloc (.cells #[.int .u64 0, .int .u64 0] 34)) = W0 at *
  go_cut [6, 7] (fun x y wx => ∃ gx gy : Nat, x = .pointer (some ⟨gx, 0, none⟩) ∧ y = .pointer (some ⟨gy, 0, none⟩) ∧ Row wx gx (bitsA (A % MM)) 55 ∧ Row wx gy (bitsA (B % MM)) 55 ∧ gx ≠ gy ∧ W0.heap.size ≤ gx ∧ W0.heap.size ≤ gy ∧ Below W0.heap.size W0 wx)
  case first =>
    refine region_any (S := (fun w' => w'.cell? ⟨w.heap.size, 0, none⟩ = some (.int .u64 (hi A)) ∧ w'.cell? ⟨w.heap.size, 1, none⟩ = some (.int .u64 (lo A)) ∧ w'.cell? ⟨w.heap.size + 1, 0, none⟩ = some (.int .u64 (hi B)) ∧ w'.cell? ⟨w.heap.size + 1, 1, none⟩ = some (.int .u64 (lo B)) ∧ Below W0.heap.size W0 w')) (by kernel_rfl) ?hSr1_ (fun wq hHeld => ?_)
    case hSr1_ => (first | exact ⟨a0, a1, b0, b1, Below.drew (Below.refl _ _)⟩ | exact ⟨cell_later hb hHeld.1, cell_later hb hHeld.2.1, cell_later hb hHeld.2.2.1, cell_later hb hHeld.2.2.2.1, below_step hHeld.2.2.2.2 hb⟩)
    refine wpAnyH_take (i := 0) (oi := { dst := some 12, op := Go.Op.load 34 (Go.Operand.tmp 2), type := 34, pos := _, after := #[], guard := none }) (v := ?vr1_1_0) rfl (by kernel_rfl) (by kernel_rfl) (by kernel_rfl) (fun _ _ _ h => h) (Or.inl ⟨by rfl, ?yr1_1_0⟩) hHeld ?_
    case yr1_1_0 => ((intro w hSw; (try dsimp only at hSw); go_simp) <;> with_reducible rfl)
    (try simp only [Act.put, List.setIfInBounds_toArray, List.set_cons_zero, List.set_cons_succ])
    refine wpAnyH_take (i := 2) (oi := { dst := some 14, op := Go.Op.load 34 (Go.Operand.tmp 3), type := 34, pos := _, after := #[], guard := none }) (v := ?vr1_2_2) rfl (by kernel_rfl) (by kernel_rfl) (by kernel_rfl) (fun _ _ _ h => h) (Or.inl ⟨by rfl, ?yr1_2_2⟩) hHeld ?_
    case yr1_2_2 => ((intro w hSw; (try dsimp only at hSw); go_simp) <;> with_reducible rfl)
    (try simp only [Act.put, List.setIfInBounds_toArray, List.set_cons_zero, List.set_cons_succ])
    refine wpAnyH_ready (rs := [1, 4, 5]) (by kernel_rfl) (by simp) ?_
    refine AllReadyH.cons (o := { dst := some 13, op := Go.Op.call { callee := Go.Callee.value (Go.Operand.func 33), args := #[Go.Operand.tmp 12], argTypes := #[34] }, type := 55, pos := _, after := #[{ on := 0, ground := Go.Ground.data }], guard := none }) rfl (fun K hK => ?_) ?_
    · go_simp
      ((refine (bits_h _ _).mono ?_); (rintro e wn ⟨rfl, hb⟩); (try replace Rx := Rx.later hb); (try replace Ry := Ry.later hb))
      go_wp2_with fail
      refine hK.out _ _ ?hSr1_3_1 (fun hHeld2 => ?_)
      case hSr1_3_1 => (first | exact ⟨a0, a1, b0, b1, Below.drew (Below.refl _ _)⟩ | exact ⟨cell_later hb hHeld.1, cell_later hb hHeld.2.1, cell_later hb hHeld.2.2.1, cell_later hb hHeld.2.2.2.1, below_step hHeld.2.2.2.2 hb⟩)
      clear hK K hHeld
      have hHeld := hHeld2
      clear hHeld2
      rename World => wq
      (try simp only [Act.put, List.setIfInBounds_toArray, List.set_cons_zero, List.set_cons_succ])
      refine wpAnyH_ready (rs := [3, 4, 5]) (by kernel_rfl) (by simp) ?_
      refine AllReadyH.cons (o := { dst := some 15, op := Go.Op.call { callee := Go.Callee.value (Go.Operand.func 33), args := #[Go.Operand.tmp 14], argTypes := #[34] }, type := 55, pos := _, after := #[{ on := 2, ground := Go.Ground.data }, { on := 1, ground := Go.Ground.chain }], guard := none }) rfl (fun K hK => ?_) ?_
      · go_simp
        ((refine (bits_h _ _).mono ?_); (rintro e wn ⟨rfl, hb⟩); (try replace Rx := Rx.later hb); (try replace Ry := Ry.later hb))
        go_wp2_with fail
        refine hK.out _ _ ?hSr1_4_3 (fun hHeld2 => ?_)
        case hSr1_4_3 => (first | exact ⟨a0, a1, b0, b1, Below.drew (Below.refl _ _)⟩ | exact ⟨cell_later hb hHeld.1, cell_later hb hHeld.2.1, cell_later hb hHeld.2.2.1, cell_later hb hHeld.2.2.2.1, below_step hHeld.2.2.2.2 hb⟩)
        clear hK K hHeld
        have hHeld := hHeld2
        clear hHeld2
        rename World => wq
        (try simp only [Act.put, List.setIfInBounds_toArray, List.set_cons_zero, List.set_cons_succ])
        refine wpAnyH_ready (rs := [4, 5]) (by kernel_rfl) (by simp) ?_
        refine AllReadyH.cons (o := { dst := some 6, op := Go.Op.alloc 55, type := 0, pos := _, after := #[], guard := none }) rfl (fun K hK => ?_) ?_
        · ((rw [if_pos (by rfl)]); (with_reducible refine wp_alloc_run 55 z128 ?_ z128_zero z128_ne ?_); rfl; (have lx : w.heap.size + 1 < wq.heap.size := World.block_lt_of_cell? _ _ hHeld.2.2.1); (have mx : W0.heap.size ≤ wq.heap.size := hHeld.2.2.2.2.size); (try have hne := Nat.ne_of_lt Ry.lt); (have Rx := Row.new wq z128 55); (have hb : Below wq.heap.size wq (wq.alloc (.cells z128 55)) := (Below.refl _ _).alloc (Nat.le_refl _) _); (have s0 := cell_later hb hHeld.1); (have s1 := cell_later hb hHeld.2.1); (have s2 := cell_later hb hHeld.2.2.1); (have s3 := cell_later hb hHeld.2.2.2.1); (have s4 := below_step hHeld.2.2.2.2 hb); (try replace Ry := Ry.later hb); clear hb; generalize wq.alloc (.cells z128 55) = wn at *; generalize wq.heap.size = gx at *)
          refine hK.out _ _ ?hSr1_5_4 (fun hHeld2 => ?_)
          case hSr1_5_4 => (exact ⟨s0, s1, s2, s3, s4⟩)
          clear hK K hHeld
          have hHeld := hHeld2
          clear hHeld2
          rename World => wq
          (try simp only [Act.put, List.setIfInBounds_toArray, List.set_cons_zero, List.set_cons_succ])
          refine wpAnyH_ready (rs := [5]) (by kernel_rfl) (by simp) ?_
          refine AllReadyH.cons (o := { dst := some 7, op := Go.Op.alloc 55, type := 0, pos := _, after := #[], guard := none }) rfl (fun K hK => ?_) AllReadyH.nil
          ((rw [if_pos (by rfl)]); (with_reducible refine wp_alloc_run 55 z128 ?_ z128_zero z128_ne ?_); rfl; (have ly : w.heap.size + 1 < wq.heap.size := World.block_lt_of_cell? _ _ hHeld.2.2.1); (have my : W0.heap.size ≤ wq.heap.size := hHeld.2.2.2.2.size); (try have hne := Nat.ne_of_lt Rx.lt); (have Ry := Row.new wq z128 55); (have hb : Below wq.heap.size wq (wq.alloc (.cells z128 55)) := (Below.refl _ _).alloc (Nat.le_refl _) _); (have s0 := cell_later hb hHeld.1); (have s1 := cell_later hb hHeld.2.1); (have s2 := cell_later hb hHeld.2.2.1); (have s3 := cell_later hb hHeld.2.2.2.1); (have s4 := below_step hHeld.2.2.2.2 hb); (try replace Rx := Rx.later hb); clear hb; generalize wq.alloc (.cells z128 55) = wn at *; generalize wq.heap.size = gy at *)
          refine hK.out _ _ ?hSr1_6_5 (fun hHeld2 => ?_)
          case hSr1_6_5 => (exact ⟨s0, s1, s2, s3, s4⟩)
          clear hK K hHeld
          have hHeld := hHeld2
          clear hHeld2
          rename World => wq
          (try simp only [Act.put, List.setIfInBounds_toArray, List.set_cons_zero, List.set_cons_succ])
          refine wpAnyH_ready (rs := [6]) (by kernel_rfl) (by simp) ?_
          refine AllReadyH.cons (o := { dst := none, op := Go.Op.store 55 (Go.Operand.tmp 6) (Go.Operand.tmp 13), type := 0, pos := _, after := #[{ on := 4, ground := Go.Ground.data }, { on := 1, ground := Go.Ground.data }, { on := 3, ground := Go.Ground.chain }, { on := 0, ground := Go.Ground.phase }, { on := 1, ground := Go.Ground.phase }, { on := 2, ground := Go.Ground.textOnly Go.Departure.lateStores }, { on := 3, ground := Go.Ground.textOnly Go.Departure.lateStoresUnsure }, { on := 4, ground := Go.Ground.phase }, { on := 5, ground := Go.Ground.phase }], guard := none }) rfl (fun K hK => ?_) AllReadyH.nil
          ((have hth := Rx.there (bitsA (A % MM)).size (by rw [bitsA_size, zeroA_size]; exact Nat.le_refl _)); (have hinf := bitsA_info (A % MM)); (have hone := bitsA_one (A % MM)); (rw [if_pos (by rfl)]); (with_reducible refine wp_store_mid 55 (.tmp 6) (.tmp 13) ?_ gx 0 (bitsA (A % MM)) ?_ ?_ hth hinf hone ?_); rfl; rfl; rfl; clear hth hinf hone; (have Rxn := Rx.setAll (bitsA (A % MM)) (by rw [bitsA_size, zeroA_size])); clear Rx; (first | (replace Ry := Row.setCells_far (g := gx) (o := 0) (vs := (bitsA (A % MM)).toList) Ry hne) | (replace Ry := Row.setCells_far (g := gx) (o := 0) (vs := (bitsA (A % MM)).toList) Ry hne.symm)); (have Rx := Rxn); clear Rxn; (have s0 := cell_setCells_far (g := gx) (o := 0) (vs := (bitsA (A % MM)).toList) hHeld.1 (by simp; omega)); (have s1 := cell_setCells_far (g := gx) (o := 0) (vs := (bitsA (A % MM)).toList) hHeld.2.1 (by simp; omega)); (have s2 := cell_setCells_far (g := gx) (o := 0) (vs := (bitsA (A % MM)).toList) hHeld.2.2.1 (by simp; omega)); (have s3 := cell_setCells_far (g := gx) (o := 0) (vs := (bitsA (A % MM)).toList) hHeld.2.2.2.1 (by simp; omega)); (have s4 := below_setCells mx (bitsA (A % MM)).toList 0 _ hHeld.2.2.2.2); generalize wq.setCells gx 0 (bitsA (A % MM)).toList = wn at *)
          refine hK.out _ _ ?hSr1_7_6 (fun hHeld2 => ?_)
          case hSr1_7_6 => (exact ⟨s0, s1, s2, s3, s4⟩)
          clear hK K hHeld
          have hHeld := hHeld2
          clear hHeld2
          rename World => wq
          (try simp only [Act.put, List.setIfInBounds_toArray, List.set_cons_zero, List.set_cons_succ])
          refine wpAnyH_ready (rs := [7]) (by kernel_rfl) (by simp) ?_
          refine AllReadyH.cons (o := { dst := none, op := Go.Op.store 55 (Go.Operand.tmp 7) (Go.Operand.tmp 15), type := 0, pos := _, after := #[{ on := 5, ground := Go.Ground.data }, { on := 3, ground := Go.Ground.data }, { on := 6, ground := Go.Ground.chain }, { on := 0, ground := Go.Ground.phase }, { on := 1, ground := Go.Ground.phase }, { on := 2, ground := Go.Ground.phase }, { on := 3, ground := Go.Ground.phase }, { on := 4, ground := Go.Ground.phase }, { on := 5, ground := Go.Ground.phase }, { on := 6, ground := Go.Ground.phase }], guard := none }) rfl (fun K hK => ?_) AllReadyH.nil
          ((have hth := Ry.there (bitsA (B % MM)).size (by rw [bitsA_size, zeroA_size]; exact Nat.le_refl _)); (have hinf := bitsA_info (B % MM)); (have hone := bitsA_one (B % MM)); (rw [if_pos (by rfl)]); (with_reducible refine wp_store_mid 55 (.tmp 7) (.tmp 15) ?_ gy 0 (bitsA (B % MM)) ?_ ?_ hth hinf hone ?_); rfl; rfl; rfl; clear hth hinf hone; (have Ryn := Ry.setAll (bitsA (B % MM)) (by rw [bitsA_size, zeroA_size])); clear Ry; (first | (replace Rx := Row.setCells_far (g := gy) (o := 0) (vs := (bitsA (B % MM)).toList) Rx hne) | (replace Rx := Row.setCells_far (g := gy) (o := 0) (vs := (bitsA (B % MM)).toList) Rx hne.symm)); (have Ry := Ryn); clear Ryn; (have s0 := cell_setCells_far (g := gy) (o := 0) (vs := (bitsA (B % MM)).toList) hHeld.1 (by simp; omega)); (have s1 := cell_setCells_far (g := gy) (o := 0) (vs := (bitsA (B % MM)).toList) hHeld.2.1 (by simp; omega)); (have s2 := cell_setCells_far (g := gy) (o := 0) (vs := (bitsA (B % MM)).toList) hHeld.2.2.1 (by simp; omega)); (have s3 := cell_setCells_far (g := gy) (o := 0) (vs := (bitsA (B % MM)).toList) hHeld.2.2.2.1 (by simp; omega)); (have s4 := below_setCells my (bitsA (B % MM)).toList 0 _ hHeld.2.2.2.2); generalize wq.setCells gy 0 (bitsA (B % MM)).toList = wn at *)
          refine hK.out _ _ ?hSr1_8_7 (fun hHeld2 => ?_)
          case hSr1_8_7 => (exact ⟨s0, s1, s2, s3, s4⟩)
          clear hK K hHeld
          have hHeld := hHeld2
          clear hHeld2
          rename World => wq
          (try simp only [Act.put, List.setIfInBounds_toArray, List.set_cons_zero, List.set_cons_succ])
          refine wpAnyH_done (by kernel_rfl) ?_ _
          (go_wp2_with fail; go_meet; exact ⟨_, _, rfl, rfl, Rx, Ry, (by first | exact hne | exact hne.symm), mx, my, hHeld.2.2.2.2⟩)
        refine AllReadyH.cons (o := { dst := some 7, op := Go.Op.alloc 55, type := 0, pos := _, after := #[], guard := none }) rfl (fun K hK => ?_) AllReadyH.nil
        · ((rw [if_pos (by rfl)]); (with_reducible refine wp_alloc_run 55 z128 ?_ z128_zero z128_ne ?_); rfl; (have ly : w.heap.size + 1 < wq.heap.size := World.block_lt_of_cell? _ _ hHeld.2.2.1); (have my : W0.heap.size ≤ wq.heap.size := hHeld.2.2.2.2.size); (try have hne := Nat.ne_of_lt Rx.lt); (have Ry := Row.new wq z128 55); (have hb : Below wq.heap.size wq (wq.alloc (.cells z128 55)) := (Below.refl _ _).alloc (Nat.le_refl _) _); (have s0 := cell_later hb hHeld.1); (have s1 := cell_later hb hHeld.2.1); (have s2 := cell_later hb hHeld.2.2.1); (have s3 := cell_later hb hHeld.2.2.2.1); (have s4 := below_step hHeld.2.2.2.2 hb); (try replace Rx := Rx.later hb); clear hb; generalize wq.alloc (.cells z128 55) = wn at *; generalize wq.heap.size = gy at *)
          refine hK.out _ _ ?hSr1_9_5 (fun hHeld2 => ?_)
          case hSr1_9_5 => (exact ⟨s0, s1, s2, s3, s4⟩)
          clear hK K hHeld
          have hHeld := hHeld2
          clear hHeld2
          rename World => wq
          (try simp only [Act.put, List.setIfInBounds_toArray, List.set_cons_zero, List.set_cons_succ])
          refine wpAnyH_ready (rs := [4]) (by kernel_rfl) (by simp) ?_
          refine AllReadyH.cons (o := { dst := some 6, op := Go.Op.alloc 55, type := 0, pos := _, after := #[], guard := none }) rfl (fun K hK => ?_) AllReadyH.nil
          ((rw [if_pos (by rfl)]); (with_reducible refine wp_alloc_run 55 z128 ?_ z128_zero z128_ne ?_); rfl; (have lx : w.heap.size + 1 < wq.heap.size := World.block_lt_of_cell? _ _ hHeld.2.2.1); (have mx : W0.heap.size ≤ wq.heap.size := hHeld.2.2.2.2.size); (try have hne := Nat.ne_of_lt Ry.lt); (have Rx := Row.new wq z128 55); (have hb : Below wq.heap.size wq (wq.alloc (.cells z128 55)) := (Below.refl _ _).alloc (Nat.le_refl _) _); (have s0 := cell_later hb hHeld.1); (have s1 := cell_later hb hHeld.2.1); (have s2 := cell_later hb hHeld.2.2.1); (have s3 := cell_later hb hHeld.2.2.2.1); (have s4 := below_step hHeld.2.2.2.2 hb); (try replace Ry := Ry.later hb); clear hb; generalize wq.alloc (.cells z128 55) = wn at *; generalize wq.heap.size = gx at *)
          refine hK.out _ _ ?hSr1_10_4 (fun hHeld2 => ?_)
          case hSr1_10_4 => (exact ⟨s0, s1, s2, s3, s4⟩)
          clear hK K hHeld
          have hHeld := hHeld2
          clear hHeld2
          rename World => wq
          (try simp only [Act.put, List.setIfInBounds_toArray, List.set_cons_zero, List.set_cons_succ])
          refine wpAnyH_ready (rs := [6]) (by kernel_rfl) (by simp) ?_
          refine AllReadyH.cons (o := { dst := none, op := Go.Op.store 55 (Go.Operand.tmp 6) (Go.Operand.tmp 13), type := 0, pos := _, after := #[{ on := 4, ground := Go.Ground.data }, { on := 1, ground := Go.Ground.data }, { on := 3, ground := Go.Ground.chain }, { on := 0, ground := Go.Ground.phase }, { on := 1, ground := Go.Ground.phase }, { on := 2, ground := Go.Ground.textOnly Go.Departure.lateStores }, { on := 3, ground := Go.Ground.textOnly Go.Departure.lateStoresUnsure }, { on := 4, ground := Go.Ground.phase }, { on := 5, ground := Go.Ground.phase }], guard := none }) rfl (fun K hK => ?_) AllReadyH.nil
          ((have hth := Rx.there (bitsA (A % MM)).size (by rw [bitsA_size, zeroA_size]; exact Nat.le_refl _)); (have hinf := bitsA_info (A % MM)); (have hone := bitsA_one (A % MM)); (rw [if_pos (by rfl)]); (with_reducible refine wp_store_mid 55 (.tmp 6) (.tmp 13) ?_ gx 0 (bitsA (A % MM)) ?_ ?_ hth hinf hone ?_); rfl; rfl; rfl; clear hth hinf hone; (have Rxn := Rx.setAll (bitsA (A % MM)) (by rw [bitsA_size, zeroA_size])); clear Rx; (first | (replace Ry := Row.setCells_far (g := gx) (o := 0) (vs := (bitsA (A % MM)).toList) Ry hne) | (replace Ry := Row.setCells_far (g := gx) (o := 0) (vs := (bitsA (A % MM)).toList) Ry hne.symm)); (have Rx := Rxn); clear Rxn; (have s0 := cell_setCells_far (g := gx) (o := 0) (vs := (bitsA (A % MM)).toList) hHeld.1 (by simp; omega)); (have s1 := cell_setCells_far (g := gx) (o := 0) (vs := (bitsA (A % MM)).toList) hHeld.2.1 (by simp; omega)); (have s2 := cell_setCells_far (g := gx) (o := 0) (vs := (bitsA (A % MM)).toList) hHeld.2.2.1 (by simp; omega)); (have s3 := cell_setCells_far (g := gx) (o := 0) (vs := (bitsA (A % MM)).toList) hHeld.2.2.2.1 (by simp; omega)); (have s4 := below_setCells mx (bitsA (A % MM)).toList 0 _ hHeld.2.2.2.2); generalize wq.setCells gx 0 (bitsA (A % MM)).toList = wn at *)
          refine hK.out _ _ ?hSr1_11_6 (fun hHeld2 => ?_)
          case hSr1_11_6 => (exact ⟨s0, s1, s2, s3, s4⟩)
          clear hK K hHeld
          have hHeld := hHeld2
          clear hHeld2
          rename World => wq
          (try simp only [Act.put, List.setIfInBounds_toArray, List.set_cons_zero, List.set_cons_succ])
          refine wpAnyH_ready (rs := [7]) (by kernel_rfl) (by simp) ?_
          refine AllReadyH.cons (o := { dst := none, op := Go.Op.store 55 (Go.Operand.tmp 7) (Go.Operand.tmp 15), type := 0, pos := _, after := #[{ on := 5, ground := Go.Ground.data }, { on := 3, ground := Go.Ground.data }, { on := 6, ground := Go.Ground.chain }, { on := 0, ground := Go.Ground.phase }, { on := 1, ground := Go.Ground.phase }, { on := 2, ground := Go.Ground.phase }, { on := 3, ground := Go.Ground.phase }, { on := 4, ground := Go.Ground.phase }, { on := 5, ground := Go.Ground.phase }, { on := 6, ground := Go.Ground.phase }], guard := none }) rfl (fun K hK => ?_) AllReadyH.nil
          ((have hth := Ry.there (bitsA (B % MM)).size (by rw [bitsA_size, zeroA_size]; exact Nat.le_refl _)); (have hinf := bitsA_info (B % MM)); (have hone := bitsA_one (B % MM)); (rw [if_pos (by rfl)]); (with_reducible refine wp_store_mid 55 (.tmp 7) (.tmp 15) ?_ gy 0 (bitsA (B % MM)) ?_ ?_ hth hinf hone ?_); rfl; rfl; rfl; clear hth hinf hone; (have Ryn := Ry.setAll (bitsA (B % MM)) (by rw [bitsA_size, zeroA_size])); clear Ry; (first | (replace Rx := Row.setCells_far (g := gy) (o := 0) (vs := (bitsA (B % MM)).toList) Rx hne) | (replace Rx := Row.setCells_far (g := gy) (o := 0) (vs := (bitsA (B % MM)).toList) Rx hne.symm)); (have Ry := Ryn); clear Ryn; (have s0 := cell_setCells_far (g := gy) (o := 0) (vs := (bitsA (B % MM)).toList) hHeld.1 (by simp; omega)); (have s1 := cell_setCells_far (g := gy) (o := 0) (vs := (bitsA (B % MM)).toList) hHeld.2.1 (by simp; omega)); (have s2 := cell_setCells_far (g := gy) (o := 0) (vs := (bitsA (B % MM)).toList) hHeld.2.2.1 (by simp; omega)); (have s3 := cell_setCells_far (g := gy) (o := 0) (vs := (bitsA (B % MM)).toList) hHeld.2.2.2.1 (by simp; omega)); (have s4 := below_setCells my (bitsA (B % MM)).toList 0 _ hHeld.2.2.2.2); generalize wq.setCells gy 0 (bitsA (B % MM)).toList = wn at *)
          refine hK.out _ _ ?hSr1_12_7 (fun hHeld2 => ?_)
          case hSr1_12_7 => (exact ⟨s0, s1, s2, s3, s4⟩)
          clear hK K hHeld
          have hHeld := hHeld2
          clear hHeld2
          rename World => wq
          (try simp only [Act.put, List.setIfInBounds_toArray, List.set_cons_zero, List.set_cons_succ])
          refine wpAnyH_done (by kernel_rfl) ?_ _
          (go_wp2_with fail; go_meet; exact ⟨_, _, rfl, rfl, Rx, Ry, (by first | exact hne | exact hne.symm), mx, my, hHeld.2.2.2.2⟩)
      refine AllReadyH.cons (o := { dst := some 6, op := Go.Op.alloc 55, type := 0, pos := _, after := #[], guard := none }) rfl (fun K hK => ?_) ?_
      · ((rw [if_pos (by rfl)]); (with_reducible refine wp_alloc_run 55 z128 ?_ z128_zero z128_ne ?_); rfl; (have lx : w.heap.size + 1 < wq.heap.size := World.block_lt_of_cell? _ _ hHeld.2.2.1); (have mx : W0.heap.size ≤ wq.heap.size := hHeld.2.2.2.2.size); (try have hne := Nat.ne_of_lt Ry.lt); (have Rx := Row.new wq z128 55); (have hb : Below wq.heap.size wq (wq.alloc (.cells z128 55)) := (Below.refl _ _).alloc (Nat.le_refl _) _); (have s0 := cell_later hb hHeld.1); (have s1 := cell_later hb hHeld.2.1); (have s2 := cell_later hb hHeld.2.2.1); (have s3 := cell_later hb hHeld.2.2.2.1); (have s4 := below_step hHeld.2.2.2.2 hb); (try replace Ry := Ry.later hb); clear hb; generalize wq.alloc (.cells z128 55) = wn at *; generalize wq.heap.size = gx at *)
        refine hK.out _ _ ?hSr1_13_4 (fun hHeld2 => ?_)
        case hSr1_13_4 => (exact ⟨s0, s1, s2, s3, s4⟩)
        clear hK K hHeld
        have hHeld := hHeld2
        clear hHeld2
        rename World => wq
        (try simp only [Act.put, List.setIfInBounds_toArray, List.set_cons_zero, List.set_cons_succ])
        refine wpAnyH_ready (rs := [3, 5]) (by kernel_rfl) (by simp) ?_
        refine AllReadyH.cons (o := { dst := some 15, op := Go.Op.call { callee := Go.Callee.value (Go.Operand.func 33), args := #[Go.Operand.tmp 14], argTypes := #[34] }, type := 55, pos := _, after := #[{ on := 2, ground := Go.Ground.data }, { on := 1, ground := Go.Ground.chain }], guard := none }) rfl (fun K hK => ?_) ?_
        · go_simp
          ((refine (bits_h _ _).mono ?_); (rintro e wn ⟨rfl, hb⟩); (try replace Rx := Rx.later hb); (try replace Ry := Ry.later hb))
          go_wp2_with fail
          refine hK.out _ _ ?hSr1_14_3 (fun hHeld2 => ?_)
          case hSr1_14_3 => (first | exact ⟨a0, a1, b0, b1, Below.drew (Below.refl _ _)⟩ | exact ⟨cell_later hb hHeld.1, cell_later hb hHeld.2.1, cell_later hb hHeld.2.2.1, cell_later hb hHeld.2.2.2.1, below_step hHeld.2.2.2.2 hb⟩)
          clear hK K hHeld
          have hHeld := hHeld2
          clear hHeld2
          rename World => wq
          (try simp only [Act.put, List.setIfInBounds_toArray, List.set_cons_zero, List.set_cons_succ])
          refine wpAnyH_ready (rs := [5]) (by kernel_rfl) (by simp) ?_
          refine AllReadyH.cons (o := { dst := some 7, op := Go.Op.alloc 55, type := 0, pos := _, after := #[], guard := none }) rfl (fun K hK => ?_) AllReadyH.nil
          ((rw [if_pos (by rfl)]); (with_reducible refine wp_alloc_run 55 z128 ?_ z128_zero z128_ne ?_); rfl; (have ly : w.heap.size + 1 < wq.heap.size := World.block_lt_of_cell? _ _ hHeld.2.2.1); (have my : W0.heap.size ≤ wq.heap.size := hHeld.2.2.2.2.size); (try have hne := Nat.ne_of_lt Rx.lt); (have Ry := Row.new wq z128 55); (have hb : Below wq.heap.size wq (wq.alloc (.cells z128 55)) := (Below.refl _ _).alloc (Nat.le_refl _) _); (have s0 := cell_later hb hHeld.1); (have s1 := cell_later hb hHeld.2.1); (have s2 := cell_later hb hHeld.2.2.1); (have s3 := cell_later hb hHeld.2.2.2.1); (have s4 := below_step hHeld.2.2.2.2 hb); (try replace Rx := Rx.later hb); clear hb; generalize wq.alloc (.cells z128 55) = wn at *; generalize wq.heap.size = gy at *)
          refine hK.out _ _ ?hSr1_15_5 (fun hHeld2 => ?_)
          case hSr1_15_5 => (exact ⟨s0, s1, s2, s3, s4⟩)
          clear hK K hHeld
          have hHeld := hHeld2
          clear hHeld2
          rename World => wq
          (try simp only [Act.put, List.setIfInBounds_toArray, List.set_cons_zero, List.set_cons_succ])
          refine wpAnyH_ready (rs := [6]) (by kernel_rfl) (by simp) ?_
          refine AllReadyH.cons (o := { dst := none, op := Go.Op.store 55 (Go.Operand.tmp 6) (Go.Operand.tmp 13), type := 0, pos := _, after := #[{ on := 4, ground := Go.Ground.data }, { on := 1, ground := Go.Ground.data }, { on := 3, ground := Go.Ground.chain }, { on := 0, ground := Go.Ground.phase }, { on := 1, ground := Go.Ground.phase }, { on := 2, ground := Go.Ground.textOnly Go.Departure.lateStores }, { on := 3, ground := Go.Ground.textOnly Go.Departure.lateStoresUnsure }, { on := 4, ground := Go.Ground.phase }, { on := 5, ground := Go.Ground.phase }], guard := none }) rfl (fun K hK => ?_) AllReadyH.nil
          ((have hth := Rx.there (bitsA (A % MM)).size (by rw [bitsA_size, zeroA_size]; exact Nat.le_refl _)); (have hinf := bitsA_info (A % MM)); (have hone := bitsA_one (A % MM)); (rw [if_pos (by rfl)]); (with_reducible refine wp_store_mid 55 (.tmp 6) (.tmp 13) ?_ gx 0 (bitsA (A % MM)) ?_ ?_ hth hinf hone ?_); rfl; rfl; rfl; clear hth hinf hone; (have Rxn := Rx.setAll (bitsA (A % MM)) (by rw [bitsA_size, zeroA_size])); clear Rx; (first | (replace Ry := Row.setCells_far (g := gx) (o := 0) (vs := (bitsA (A % MM)).toList) Ry hne) | (replace Ry := Row.setCells_far (g := gx) (o := 0) (vs := (bitsA (A % MM)).toList) Ry hne.symm)); (have Rx := Rxn); clear Rxn; (have s0 := cell_setCells_far (g := gx) (o := 0) (vs := (bitsA (A % MM)).toList) hHeld.1 (by simp; omega)); (have s1 := cell_setCells_far (g := gx) (o := 0) (vs := (bitsA (A % MM)).toList) hHeld.2.1 (by simp; omega)); (have s2 := cell_setCells_far (g := gx) (o := 0) (vs := (bitsA (A % MM)).toList) hHeld.2.2.1 (by simp; omega)); (have s3 := cell_setCells_far (g := gx) (o := 0) (vs := (bitsA (A % MM)).toList) hHeld.2.2.2.1 (by simp; omega)); (have s4 := below_setCells mx (bitsA (A % MM)).toList 0 _ hHeld.2.2.2.2); generalize wq.setCells gx 0 (bitsA (A % MM)).toList = wn at *)
          refine hK.out _ _ ?hSr1_16_6 (fun hHeld2 => ?_)
          case hSr1_16_6 => (exact ⟨s0, s1, s2, s3, s4⟩)
          clear hK K hHeld
          have hHeld := hHeld2
          clear hHeld2
          rename World => wq
          (try simp only [Act.put, List.setIfInBounds_toArray, List.set_cons_zero, List.set_cons_succ])
          refine wpAnyH_ready (rs := [7]) (by kernel_rfl) (by simp) ?_
          refine AllReadyH.cons (o := { dst := none, op := Go.Op.store 55 (Go.Operand.tmp 7) (Go.Operand.tmp 15), type := 0, pos := _, after := #[{ on := 5, ground := Go.Ground.data }, { on := 3, ground := Go.Ground.data }, { on := 6, ground := Go.Ground.chain }, { on := 0, ground := Go.Ground.phase }, { on := 1, ground := Go.Ground.phase }, { on := 2, ground := Go.Ground.phase }, { on := 3, ground := Go.Ground.phase }, { on := 4, ground := Go.Ground.phase }, { on := 5, ground := Go.Ground.phase }, { on := 6, ground := Go.Ground.phase }], guard := none }) rfl (fun K hK => ?_) AllReadyH.nil
          ((have hth := Ry.there (bitsA (B % MM)).size (by rw [bitsA_size, zeroA_size]; exact Nat.le_refl _)); (have hinf := bitsA_info (B % MM)); (have hone := bitsA_one (B % MM)); (rw [if_pos (by rfl)]); (with_reducible refine wp_store_mid 55 (.tmp 7) (.tmp 15) ?_ gy 0 (bitsA (B % MM)) ?_ ?_ hth hinf hone ?_); rfl; rfl; rfl; clear hth hinf hone; (have Ryn := Ry.setAll (bitsA (B % MM)) (by rw [bitsA_size, zeroA_size])); clear Ry; (first | (replace Rx := Row.setCells_far (g := gy) (o := 0) (vs := (bitsA (B % MM)).toList) Rx hne) | (replace Rx := Row.setCells_far (g := gy) (o := 0) (vs := (bitsA (B % MM)).toList) Rx hne.symm)); (have Ry := Ryn); clear Ryn; (have s0 := cell_setCells_far (g := gy) (o := 0) (vs := (bitsA (B % MM)).toList) hHeld.1 (by simp; omega)); (have s1 := cell_setCells_far (g := gy) (o := 0) (vs := (bitsA (B % MM)).toList) hHeld.2.1 (by simp; omega)); (have s2 := cell_setCells_far (g := gy) (o := 0) (vs := (bitsA (B % MM)).toList) hHeld.2.2.1 (by simp; omega)); (have s3 := cell_setCells_far (g := gy) (o := 0) (vs := (bitsA (B % MM)).toList) hHeld.2.2.2.1 (by simp; omega)); (have s4 := below_setCells my (bitsA (B % MM)).toList 0 _ hHeld.2.2.2.2); generalize wq.setCells gy 0 (bitsA (B % MM)).toList = wn at *)
          refine hK.out _ _ ?hSr1_17_7 (fun hHeld2 => ?_)
          case hSr1_17_7 => (exact ⟨s0, s1, s2, s3, s4⟩)
          clear hK K hHeld
          have hHeld := hHeld2
          clear hHeld2
          rename World => wq
          (try simp only [Act.put, List.setIfInBounds_toArray, List.set_cons_zero, List.set_cons_succ])
          refine wpAnyH_done (by kernel_rfl) ?_ _
          (go_wp2_with fail; go_meet; exact ⟨_, _, rfl, rfl, Rx, Ry, (by first | exact hne | exact hne.symm), mx, my, hHeld.2.2.2.2⟩)
        refine AllReadyH.cons (o := { dst := some 7, op := Go.Op.alloc 55, type := 0, pos := _, after := #[], guard := none }) rfl (fun K hK => ?_) AllReadyH.nil
        · ((rw [if_pos (by rfl)]); (with_reducible refine wp_alloc_run 55 z128 ?_ z128_zero z128_ne ?_); rfl; (have ly : w.heap.size + 1 < wq.heap.size := World.block_lt_of_cell? _ _ hHeld.2.2.1); (have my : W0.heap.size ≤ wq.heap.size := hHeld.2.2.2.2.size); (try have hne := Nat.ne_of_lt Rx.lt); (have Ry := Row.new wq z128 55); (have hb : Below wq.heap.size wq (wq.alloc (.cells z128 55)) := (Below.refl _ _).alloc (Nat.le_refl _) _); (have s0 := cell_later hb hHeld.1); (have s1 := cell_later hb hHeld.2.1); (have s2 := cell_later hb hHeld.2.2.1); (have s3 := cell_later hb hHeld.2.2.2.1); (have s4 := below_step hHeld.2.2.2.2 hb); (try replace Rx := Rx.later hb); clear hb; generalize wq.alloc (.cells z128 55) = wn at *; generalize wq.heap.size = gy at *)
          refine hK.out _ _ ?hSr1_18_5 (fun hHeld2 => ?_)
          case hSr1_18_5 => (exact ⟨s0, s1, s2, s3, s4⟩)
          clear hK K hHeld
          have hHeld := hHeld2
          clear hHeld2
          rename World => wq
          (try simp only [Act.put, List.setIfInBounds_toArray, List.set_cons_zero, List.set_cons_succ])
          refine wpAnyH_ready (rs := [3]) (by kernel_rfl) (by simp) ?_
          refine AllReadyH.cons (o := { dst := some 15, op := Go.Op.call { callee := Go.Callee.value (Go.Operand.func 33), args := #[Go.Operand.tmp 14], argTypes := #[34] }, type := 55, pos := _, after := #[{ on := 2, ground := Go.Ground.data }, { on := 1, ground := Go.Ground.chain }], guard := none }) rfl (fun K hK => ?_) AllReadyH.nil
          go_simp
          ((refine (bits_h _ _).mono ?_); (rintro e wn ⟨rfl, hb⟩); (try replace Rx := Rx.later hb); (try replace Ry := Ry.later hb))
          go_wp2_with fail
          refine hK.out _ _ ?hSr1_19_3 (fun hHeld2 => ?_)
          case hSr1_19_3 => (first | exact ⟨a0, a1, b0, b1, Below.drew (Below.refl _ _)⟩ | exact ⟨cell_later hb hHeld.1, cell_later hb hHeld.2.1, cell_later hb hHeld.2.2.1, cell_later hb hHeld.2.2.2.1, below_step hHeld.2.2.2.2 hb⟩)
          clear hK K hHeld
          have hHeld := hHeld2
          clear hHeld2
          rename World => wq
          (try simp only [Act.put, List.setIfInBounds_toArray, List.set_cons_zero, List.set_cons_succ])
          refine wpAnyH_ready (rs := [6]) (by kernel_rfl) (by simp) ?_
          refine AllReadyH.cons (o := { dst := none, op := Go.Op.store 55 (Go.Operand.tmp 6) (Go.Operand.tmp 13), type := 0, pos := _, after := #[{ on := 4, ground := Go.Ground.data }, { on := 1, ground := Go.Ground.data }, { on := 3, ground := Go.Ground.chain }, { on := 0, ground := Go.Ground.phase }, { on := 1, ground := Go.Ground.phase }, { on := 2, ground := Go.Ground.textOnly Go.Departure.lateStores }, { on := 3, ground := Go.Ground.textOnly Go.Departure.lateStoresUnsure }, { on := 4, ground := Go.Ground.phase }, { on := 5, ground := Go.Ground.phase }], guard := none }) rfl (fun K hK => ?_) AllReadyH.nil
          ((have hth := Rx.there (bitsA (A % MM)).size (by rw [bitsA_size, zeroA_size]; exact Nat.le_refl _)); (have hinf := bitsA_info (A % MM)); (have hone := bitsA_one (A % MM)); (rw [if_pos (by rfl)]); (with_reducible refine wp_store_mid 55 (.tmp 6) (.tmp 13) ?_ gx 0 (bitsA (A % MM)) ?_ ?_ hth hinf hone ?_); rfl; rfl; rfl; clear hth hinf hone; (have Rxn := Rx.setAll (bitsA (A % MM)) (by rw [bitsA_size, zeroA_size])); clear Rx; (first | (replace Ry := Row.setCells_far (g := gx) (o := 0) (vs := (bitsA (A % MM)).toList) Ry hne) | (replace Ry := Row.setCells_far (g := gx) (o := 0) (vs := (bitsA (A % MM)).toList) Ry hne.symm)); (have Rx := Rxn); clear Rxn; (have s0 := cell_setCells_far (g := gx) (o := 0) (vs := (bitsA (A % MM)).toList) hHeld.1 (by simp; omega)); (have s1 := cell_setCells_far (g := gx) (o := 0) (vs := (bitsA (A % MM)).toList) hHeld.2.1 (by simp; omega)); (have s2 := cell_setCells_far (g := gx) (o := 0) (vs := (bitsA (A % MM)).toList) hHeld.2.2.1 (by simp; omega)); (have s3 := cell_setCells_far (g := gx) (o := 0) (vs := (bitsA (A % MM)).toList) hHeld.2.2.2.1 (by simp; omega)); (have s4 := below_setCells mx (bitsA (A % MM)).toList 0 _ hHeld.2.2.2.2); generalize wq.setCells gx 0 (bitsA (A % MM)).toList = wn at *)
          refine hK.out _ _ ?hSr1_20_6 (fun hHeld2 => ?_)
          case hSr1_20_6 => (exact ⟨s0, s1, s2, s3, s4⟩)
          clear hK K hHeld
          have hHeld := hHeld2
          clear hHeld2
          rename World => wq
          (try simp only [Act.put, List.setIfInBounds_toArray, List.set_cons_zero, List.set_cons_succ])
          refine wpAnyH_ready (rs := [7]) (by kernel_rfl) (by simp) ?_
          refine AllReadyH.cons (o := { dst := none, op := Go.Op.store 55 (Go.Operand.tmp 7) (Go.Operand.tmp 15), type := 0, pos := _, after := #[{ on := 5, ground := Go.Ground.data }, { on := 3, ground := Go.Ground.data }, { on := 6, ground := Go.Ground.chain }, { on := 0, ground := Go.Ground.phase }, { on := 1, ground := Go.Ground.phase }, { on := 2, ground := Go.Ground.phase }, { on := 3, ground := Go.Ground.phase }, { on := 4, ground := Go.Ground.phase }, { on := 5, ground := Go.Ground.phase }, { on := 6, ground := Go.Ground.phase }], guard := none }) rfl (fun K hK => ?_) AllReadyH.nil
          ((have hth := Ry.there (bitsA (B % MM)).size (by rw [bitsA_size, zeroA_size]; exact Nat.le_refl _)); (have hinf := bitsA_info (B % MM)); (have hone := bitsA_one (B % MM)); (rw [if_pos (by rfl)]); (with_reducible refine wp_store_mid 55 (.tmp 7) (.tmp 15) ?_ gy 0 (bitsA (B % MM)) ?_ ?_ hth hinf hone ?_); rfl; rfl; rfl; clear hth hinf hone; (have Ryn := Ry.setAll (bitsA (B % MM)) (by rw [bitsA_size, zeroA_size])); clear Ry; (first | (replace Rx := Row.setCells_far (g := gy) (o := 0) (vs := (bitsA (B % MM)).toList) Rx hne) | (replace Rx := Row.setCells_far (g := gy) (o := 0) (vs := (bitsA (B % MM)).toList) Rx hne.symm)); (have Ry := Ryn); clear Ryn; (have s0 := cell_setCells_far (g := gy) (o := 0) (vs := (bitsA (B % MM)).toList) hHeld.1 (by simp; omega)); (have s1 := cell_setCells_far (g := gy) (o := 0) (vs := (bitsA (B % MM)).toList) hHeld.2.1 (by simp; omega)); (have s2 := cell_setCells_far (g := gy) (o := 0) (vs := (bitsA (B % MM)).toList) hHeld.2.2.1 (by simp; omega)); (have s3 := cell_setCells_far (g := gy) (o := 0) (vs := (bitsA (B % MM)).toList) hHeld.2.2.2.1 (by simp; omega)); (have s4 := below_setCells my (bitsA (B % MM)).toList 0 _ hHeld.2.2.2.2); generalize wq.setCells gy 0 (bitsA (B % MM)).toList = wn at *)
          refine hK.out _ _ ?hSr1_21_7 (fun hHeld2 => ?_)
          case hSr1_21_7 => (exact ⟨s0, s1, s2, s3, s4⟩)
          clear hK K hHeld
          have hHeld := hHeld2
          clear hHeld2
          rename World => wq
          (try simp only [Act.put, List.setIfInBounds_toArray, List.set_cons_zero, List.set_cons_succ])
          refine wpAnyH_done (by kernel_rfl) ?_ _
          (go_wp2_with fail; go_meet; exact ⟨_, _, rfl, rfl, Rx, Ry, (by first | exact hne | exact hne.symm), mx, my, hHeld.2.2.2.2⟩)
      refine AllReadyH.cons (o := { dst := some 7, op := Go.Op.alloc 55, type := 0, pos := _, after := #[], guard := none }) rfl (fun K hK => ?_) AllReadyH.nil
      · ((rw [if_pos (by rfl)]); (with_reducible refine wp_alloc_run 55 z128 ?_ z128_zero z128_ne ?_); rfl; (have ly : w.heap.size + 1 < wq.heap.size := World.block_lt_of_cell? _ _ hHeld.2.2.1); (have my : W0.heap.size ≤ wq.heap.size := hHeld.2.2.2.2.size); (try have hne := Nat.ne_of_lt Rx.lt); (have Ry := Row.new wq z128 55); (have hb : Below wq.heap.size wq (wq.alloc (.cells z128 55)) := (Below.refl _ _).alloc (Nat.le_refl _) _); (have s0 := cell_later hb hHeld.1); (have s1 := cell_later hb hHeld.2.1); (have s2 := cell_later hb hHeld.2.2.1); (have s3 := cell_later hb hHeld.2.2.2.1); (have s4 := below_step hHeld.2.2.2.2 hb); (try replace Rx := Rx.later hb); clear hb; generalize wq.alloc (.cells z128 55) = wn at *; generalize wq.heap.size = gy at *)
        refine hK.out _ _ ?hSr1_22_5 (fun hHeld2 => ?_)
        case hSr1_22_5 => (exact ⟨s0, s1, s2, s3, s4⟩)
        clear hK K hHeld
        have hHeld := hHeld2
        clear hHeld2
        rename World => wq
        (try simp only [Act.put, List.setIfInBounds_toArray, List.set_cons_zero, List.set_cons_succ])
        refine wpAnyH_ready (rs := [3, 4]) (by kernel_rfl) (by simp) ?_
        refine AllReadyH.cons (o := { dst := some 15, op := Go.Op.call { callee := Go.Callee.value (Go.Operand.func 33), args := #[Go.Operand.tmp 14], argTypes := #[34] }, type := 55, pos := _, after := #[{ on := 2, ground := Go.Ground.data }, { on := 1, ground := Go.Ground.chain }], guard := none }) rfl (fun K hK => ?_) ?_
        · go_simp
          ((refine (bits_h _ _).mono ?_); (rintro e wn ⟨rfl, hb⟩); (try replace Rx := Rx.later hb); (try replace Ry := Ry.later hb))
          go_wp2_with fail
          refine hK.out _ _ ?hSr1_23_3 (fun hHeld2 => ?_)
          case hSr1_23_3 => (first | exact ⟨a0, a1, b0, b1, Below.drew (Below.refl _ _)⟩ | exact ⟨cell_later hb hHeld.1, cell_later hb hHeld.2.1, cell_later hb hHeld.2.2.1, cell_later hb hHeld.2.2.2.1, below_step hHeld.2.2.2.2 hb⟩)
          clear hK K hHeld
          have hHeld := hHeld2
          clear hHeld2
          rename World => wq
          (try simp only [Act.put, List.setIfInBounds_toArray, List.set_cons_zero, List.set_cons_succ])
          refine wpAnyH_ready (rs := [4]) (by kernel_rfl) (by simp) ?_
          refine AllReadyH.cons (o := { dst := some 6, op := Go.Op.alloc 55, type := 0, pos := _, after := #[], guard := none }) rfl (fun K hK => ?_) AllReadyH.nil
          ((rw [if_pos (by rfl)]); (with_reducible refine wp_alloc_run 55 z128 ?_ z128_zero z128_ne ?_); rfl; (have lx : w.heap.size + 1 < wq.heap.size := World.block_lt_of_cell? _ _ hHeld.2.2.1); (have mx : W0.heap.size ≤ wq.heap.size := hHeld.2.2.2.2.size); (try have hne := Nat.ne_of_lt Ry.lt); (have Rx := Row.new wq z128 55); (have hb : Below wq.heap.size wq (wq.alloc (.cells z128 55)) := (Below.refl _ _).alloc (Nat.le_refl _) _); (have s0 := cell_later hb hHeld.1); (have s1 := cell_later hb hHeld.2.1); (have s2 := cell_later hb hHeld.2.2.1); (have s3 := cell_later hb hHeld.2.2.2.1); (have s4 := below_step hHeld.2.2.2.2 hb); (try replace Ry := Ry.later hb); clear hb; generalize wq.alloc (.cells z128 55) = wn at *; generalize wq.heap.size = gx at *)
          refine hK.out _ _ ?hSr1_24_4 (fun hHeld2 => ?_)
          case hSr1_24_4 => (exact ⟨s0, s1, s2, s3, s4⟩)
          clear hK K hHeld
          have hHeld := hHeld2
          clear hHeld2
          rename World => wq
          (try simp only [Act.put, List.setIfInBounds_toArray, List.set_cons_zero, List.set_cons_succ])
          refine wpAnyH_ready (rs := [6]) (by kernel_rfl) (by simp) ?_
          refine AllReadyH.cons (o := { dst := none, op := Go.Op.store 55 (Go.Operand.tmp 6) (Go.Operand.tmp 13), type := 0, pos := _, after := #[{ on := 4, ground := Go.Ground.data }, { on := 1, ground := Go.Ground.data }, { on := 3, ground := Go.Ground.chain }, { on := 0, ground := Go.Ground.phase }, { on := 1, ground := Go.Ground.phase }, { on := 2, ground := Go.Ground.textOnly Go.Departure.lateStores }, { on := 3, ground := Go.Ground.textOnly Go.Departure.lateStoresUnsure }, { on := 4, ground := Go.Ground.phase }, { on := 5, ground := Go.Ground.phase }], guard := none }) rfl (fun K hK => ?_) AllReadyH.nil
          ((have hth := Rx.there (bitsA (A % MM)).size (by rw [bitsA_size, zeroA_size]; exact Nat.le_refl _)); (have hinf := bitsA_info (A % MM)); (have hone := bitsA_one (A % MM)); (rw [if_pos (by rfl)]); (with_reducible refine wp_store_mid 55 (.tmp 6) (.tmp 13) ?_ gx 0 (bitsA (A % MM)) ?_ ?_ hth hinf hone ?_); rfl; rfl; rfl; clear hth hinf hone; (have Rxn := Rx.setAll (bitsA (A % MM)) (by rw [bitsA_size, zeroA_size])); clear Rx; (first | (replace Ry := Row.setCells_far (g := gx) (o := 0) (vs := (bitsA (A % MM)).toList) Ry hne) | (replace Ry := Row.setCells_far (g := gx) (o := 0) (vs := (bitsA (A % MM)).toList) Ry hne.symm)); (have Rx := Rxn); clear Rxn; (have s0 := cell_setCells_far (g := gx) (o := 0) (vs := (bitsA (A % MM)).toList) hHeld.1 (by simp; omega)); (have s1 := cell_setCells_far (g := gx) (o := 0) (vs := (bitsA (A % MM)).toList) hHeld.2.1 (by simp; omega)); (have s2 := cell_setCells_far (g := gx) (o := 0) (vs := (bitsA (A % MM)).toList) hHeld.2.2.1 (by simp; omega)); (have s3 := cell_setCells_far (g := gx) (o := 0) (vs := (bitsA (A % MM)).toList) hHeld.2.2.2.1 (by simp; omega)); (have s4 := below_setCells mx (bitsA (A % MM)).toList 0 _ hHeld.2.2.2.2); generalize wq.setCells gx 0 (bitsA (A % MM)).toList = wn at *)
          refine hK.out _ _ ?hSr1_25_6 (fun hHeld2 => ?_)
          case hSr1_25_6 => (exact ⟨s0, s1, s2, s3, s4⟩)
          clear hK K hHeld
          have hHeld := hHeld2
          clear hHeld2
          rename World => wq
          (try simp only [Act.put, List.setIfInBounds_toArray, List.set_cons_zero, List.set_cons_succ])
          refine wpAnyH_ready (rs := [7]) (by kernel_rfl) (by simp) ?_
          refine AllReadyH.cons (o := { dst := none, op := Go.Op.store 55 (Go.Operand.tmp 7) (Go.Operand.tmp 15), type := 0, pos := _, after := #[{ on := 5, ground := Go.Ground.data }, { on := 3, ground := Go.Ground.data }, { on := 6, ground := Go.Ground.chain }, { on := 0, ground := Go.Ground.phase }, { on := 1, ground := Go.Ground.phase }, { on := 2, ground := Go.Ground.phase }, { on := 3, ground := Go.Ground.phase }, { on := 4, ground := Go.Ground.phase }, { on := 5, ground := Go.Ground.phase }, { on := 6, ground := Go.Ground.phase }], guard := none }) rfl (fun K hK => ?_) AllReadyH.nil
          ((have hth := Ry.there (bitsA (B % MM)).size (by rw [bitsA_size, zeroA_size]; exact Nat.le_refl _)); (have hinf := bitsA_info (B % MM)); (have hone := bitsA_one (B % MM)); (rw [if_pos (by rfl)]); (with_reducible refine wp_store_mid 55 (.tmp 7) (.tmp 15) ?_ gy 0 (bitsA (B % MM)) ?_ ?_ hth hinf hone ?_); rfl; rfl; rfl; clear hth hinf hone; (have Ryn := Ry.setAll (bitsA (B % MM)) (by rw [bitsA_size, zeroA_size])); clear Ry; (first | (replace Rx := Row.setCells_far (g := gy) (o := 0) (vs := (bitsA (B % MM)).toList) Rx hne) | (replace Rx := Row.setCells_far (g := gy) (o := 0) (vs := (bitsA (B % MM)).toList) Rx hne.symm)); (have Ry := Ryn); clear Ryn; (have s0 := cell_setCells_far (g := gy) (o := 0) (vs := (bitsA (B % MM)).toList) hHeld.1 (by simp; omega)); (have s1 := cell_setCells_far (g := gy) (o := 0) (vs := (bitsA (B % MM)).toList) hHeld.2.1 (by simp; omega)); (have s2 := cell_setCells_far (g := gy) (o := 0) (vs := (bitsA (B % MM)).toList) hHeld.2.2.1 (by simp; omega)); (have s3 := cell_setCells_far (g := gy) (o := 0) (vs := (bitsA (B % MM)).toList) hHeld.2.2.2.1 (by simp; omega)); (have s4 := below_setCells my (bitsA (B % MM)).toList 0 _ hHeld.2.2.2.2); generalize wq.setCells gy 0 (bitsA (B % MM)).toList = wn at *)
          refine hK.out _ _ ?hSr1_26_7 (fun hHeld2 => ?_)
          case hSr1_26_7 => (exact ⟨s0, s1, s2, s3, s4⟩)
          clear hK K hHeld
          have hHeld := hHeld2
          clear hHeld2
          rename World => wq
          (try simp only [Act.put, List.setIfInBounds_toArray, List.set_cons_zero, List.set_cons_succ])
          refine wpAnyH_done (by kernel_rfl) ?_ _
          (go_wp2_with fail; go_meet; exact ⟨_, _, rfl, rfl, Rx, Ry, (by first | exact hne | exact hne.symm), mx, my, hHeld.2.2.2.2⟩)
        refine AllReadyH.cons (o := { dst := some 6, op := Go.Op.alloc 55, type := 0, pos := _, after := #[], guard := none }) rfl (fun K hK => ?_) AllReadyH.nil
        · ((rw [if_pos (by rfl)]); (with_reducible refine wp_alloc_run 55 z128 ?_ z128_zero z128_ne ?_); rfl; (have lx : w.heap.size + 1 < wq.heap.size := World.block_lt_of_cell? _ _ hHeld.2.2.1); (have mx : W0.heap.size ≤ wq.heap.size := hHeld.2.2.2.2.size); (try have hne := Nat.ne_of_lt Ry.lt); (have Rx := Row.new wq z128 55); (have hb : Below wq.heap.size wq (wq.alloc (.cells z128 55)) := (Below.refl _ _).alloc (Nat.le_refl _) _); (have s0 := cell_later hb hHeld.1); (have s1 := cell_later hb hHeld.2.1); (have s2 := cell_later hb hHeld.2.2.1); (have s3 := cell_later hb hHeld.2.2.2.1); (have s4 := below_step hHeld.2.2.2.2 hb); (try replace Ry := Ry.later hb); clear hb; generalize wq.alloc (.cells z128 55) = wn at *; generalize wq.heap.size = gx at *)
          refine hK.out _ _ ?hSr1_27_4 (fun hHeld2 => ?_)
          case hSr1_27_4 => (exact ⟨s0, s1, s2, s3, s4⟩)
          clear hK K hHeld
          have hHeld := hHeld2
          clear hHeld2
          rename World => wq
          (try simp only [Act.put, List.setIfInBounds_toArray, List.set_cons_zero, List.set_cons_succ])
          refine wpAnyH_ready (rs := [3]) (by kernel_rfl) (by simp) ?_
          refine AllReadyH.cons (o := { dst := some 15, op := Go.Op.call { callee := Go.Callee.value (Go.Operand.func 33), args := #[Go.Operand.tmp 14], argTypes := #[34] }, type := 55, pos := _, after := #[{ on := 2, ground := Go.Ground.data }, { on := 1, ground := Go.Ground.chain }], guard := none }) rfl (fun K hK => ?_) AllReadyH.nil
          go_simp
          ((refine (bits_h _ _).mono ?_); (rintro e wn ⟨rfl, hb⟩); (try replace Rx := Rx.later hb); (try replace Ry := Ry.later hb))
          go_wp2_with fail
          refine hK.out _ _ ?hSr1_28_3 (fun hHeld2 => ?_)
          case hSr1_28_3 => (first | exact ⟨a0, a1, b0, b1, Below.drew (Below.refl _ _)⟩ | exact ⟨cell_later hb hHeld.1, cell_later hb hHeld.2.1, cell_later hb hHeld.2.2.1, cell_later hb hHeld.2.2.2.1, below_step hHeld.2.2.2.2 hb⟩)
          clear hK K hHeld
          have hHeld := hHeld2
          clear hHeld2
          rename World => wq
          (try simp only [Act.put, List.setIfInBounds_toArray, List.set_cons_zero, List.set_cons_succ])
          refine wpAnyH_ready (rs := [6]) (by kernel_rfl) (by simp) ?_
          refine AllReadyH.cons (o := { dst := none, op := Go.Op.store 55 (Go.Operand.tmp 6) (Go.Operand.tmp 13), type := 0, pos := _, after := #[{ on := 4, ground := Go.Ground.data }, { on := 1, ground := Go.Ground.data }, { on := 3, ground := Go.Ground.chain }, { on := 0, ground := Go.Ground.phase }, { on := 1, ground := Go.Ground.phase }, { on := 2, ground := Go.Ground.textOnly Go.Departure.lateStores }, { on := 3, ground := Go.Ground.textOnly Go.Departure.lateStoresUnsure }, { on := 4, ground := Go.Ground.phase }, { on := 5, ground := Go.Ground.phase }], guard := none }) rfl (fun K hK => ?_) AllReadyH.nil
          ((have hth := Rx.there (bitsA (A % MM)).size (by rw [bitsA_size, zeroA_size]; exact Nat.le_refl _)); (have hinf := bitsA_info (A % MM)); (have hone := bitsA_one (A % MM)); (rw [if_pos (by rfl)]); (with_reducible refine wp_store_mid 55 (.tmp 6) (.tmp 13) ?_ gx 0 (bitsA (A % MM)) ?_ ?_ hth hinf hone ?_); rfl; rfl; rfl; clear hth hinf hone; (have Rxn := Rx.setAll (bitsA (A % MM)) (by rw [bitsA_size, zeroA_size])); clear Rx; (first | (replace Ry := Row.setCells_far (g := gx) (o := 0) (vs := (bitsA (A % MM)).toList) Ry hne) | (replace Ry := Row.setCells_far (g := gx) (o := 0) (vs := (bitsA (A % MM)).toList) Ry hne.symm)); (have Rx := Rxn); clear Rxn; (have s0 := cell_setCells_far (g := gx) (o := 0) (vs := (bitsA (A % MM)).toList) hHeld.1 (by simp; omega)); (have s1 := cell_setCells_far (g := gx) (o := 0) (vs := (bitsA (A % MM)).toList) hHeld.2.1 (by simp; omega)); (have s2 := cell_setCells_far (g := gx) (o := 0) (vs := (bitsA (A % MM)).toList) hHeld.2.2.1 (by simp; omega)); (have s3 := cell_setCells_far (g := gx) (o := 0) (vs := (bitsA (A % MM)).toList) hHeld.2.2.2.1 (by simp; omega)); (have s4 := below_setCells mx (bitsA (A % MM)).toList 0 _ hHeld.2.2.2.2); generalize wq.setCells gx 0 (bitsA (A % MM)).toList = wn at *)
          refine hK.out _ _ ?hSr1_29_6 (fun hHeld2 => ?_)
          case hSr1_29_6 => (exact ⟨s0, s1, s2, s3, s4⟩)
          clear hK K hHeld
          have hHeld := hHeld2
          clear hHeld2
          rename World => wq
          (try simp only [Act.put, List.setIfInBounds_toArray, List.set_cons_zero, List.set_cons_succ])
          refine wpAnyH_ready (rs := [7]) (by kernel_rfl) (by simp) ?_
          refine AllReadyH.cons (o := { dst := none, op := Go.Op.store 55 (Go.Operand.tmp 7) (Go.Operand.tmp 15), type := 0, pos := _, after := #[{ on := 5, ground := Go.Ground.data }, { on := 3, ground := Go.Ground.data }, { on := 6, ground := Go.Ground.chain }, { on := 0, ground := Go.Ground.phase }, { on := 1, ground := Go.Ground.phase }, { on := 2, ground := Go.Ground.phase }, { on := 3, ground := Go.Ground.phase }, { on := 4, ground := Go.Ground.phase }, { on := 5, ground := Go.Ground.phase }, { on := 6, ground := Go.Ground.phase }], guard := none }) rfl (fun K hK => ?_) AllReadyH.nil
          ((have hth := Ry.there (bitsA (B % MM)).size (by rw [bitsA_size, zeroA_size]; exact Nat.le_refl _)); (have hinf := bitsA_info (B % MM)); (have hone := bitsA_one (B % MM)); (rw [if_pos (by rfl)]); (with_reducible refine wp_store_mid 55 (.tmp 7) (.tmp 15) ?_ gy 0 (bitsA (B % MM)) ?_ ?_ hth hinf hone ?_); rfl; rfl; rfl; clear hth hinf hone; (have Ryn := Ry.setAll (bitsA (B % MM)) (by rw [bitsA_size, zeroA_size])); clear Ry; (first | (replace Rx := Row.setCells_far (g := gy) (o := 0) (vs := (bitsA (B % MM)).toList) Rx hne) | (replace Rx := Row.setCells_far (g := gy) (o := 0) (vs := (bitsA (B % MM)).toList) Rx hne.symm)); (have Ry := Ryn); clear Ryn; (have s0 := cell_setCells_far (g := gy) (o := 0) (vs := (bitsA (B % MM)).toList) hHeld.1 (by simp; omega)); (have s1 := cell_setCells_far (g := gy) (o := 0) (vs := (bitsA (B % MM)).toList) hHeld.2.1 (by simp; omega)); (have s2 := cell_setCells_far (g := gy) (o := 0) (vs := (bitsA (B % MM)).toList) hHeld.2.2.1 (by simp; omega)); (have s3 := cell_setCells_far (g := gy) (o := 0) (vs := (bitsA (B % MM)).toList) hHeld.2.2.2.1 (by simp; omega)); (have s4 := below_setCells my (bitsA (B % MM)).toList 0 _ hHeld.2.2.2.2); generalize wq.setCells gy 0 (bitsA (B % MM)).toList = wn at *)
          refine hK.out _ _ ?hSr1_30_7 (fun hHeld2 => ?_)
          case hSr1_30_7 => (exact ⟨s0, s1, s2, s3, s4⟩)
          clear hK K hHeld
          have hHeld := hHeld2
          clear hHeld2
          rename World => wq
          (try simp only [Act.put, List.setIfInBounds_toArray, List.set_cons_zero, List.set_cons_succ])
          refine wpAnyH_done (by kernel_rfl) ?_ _
          (go_wp2_with fail; go_meet; exact ⟨_, _, rfl, rfl, Rx, Ry, (by first | exact hne | exact hne.symm), mx, my, hHeld.2.2.2.2⟩)
    refine AllReadyH.cons (o := { dst := some 6, op := Go.Op.alloc 55, type := 0, pos := _, after := #[], guard := none }) rfl (fun K hK => ?_) ?_
    · ((rw [if_pos (by rfl)]); (with_reducible refine wp_alloc_run 55 z128 ?_ z128_zero z128_ne ?_); rfl; (have lx : w.heap.size + 1 < wq.heap.size := World.block_lt_of_cell? _ _ hHeld.2.2.1); (have mx : W0.heap.size ≤ wq.heap.size := hHeld.2.2.2.2.size); (try have hne := Nat.ne_of_lt Ry.lt); (have Rx := Row.new wq z128 55); (have hb : Below wq.heap.size wq (wq.alloc (.cells z128 55)) := (Below.refl _ _).alloc (Nat.le_refl _) _); (have s0 := cell_later hb hHeld.1); (have s1 := cell_later hb hHeld.2.1); (have s2 := cell_later hb hHeld.2.2.1); (have s3 := cell_later hb hHeld.2.2.2.1); (have s4 := below_step hHeld.2.2.2.2 hb); (try replace Ry := Ry.later hb); clear hb; generalize wq.alloc (.cells z128 55) = wn at *; generalize wq.heap.size = gx at *)
      refine hK.out _ _ ?hSr1_31_4 (fun hHeld2 => ?_)
      case hSr1_31_4 => (exact ⟨s0, s1, s2, s3, s4⟩)
      clear hK K hHeld
      have hHeld := hHeld2
      clear hHeld2
      rename World => wq
      (try simp only [Act.put, List.setIfInBounds_toArray, List.set_cons_zero, List.set_cons_succ])
      refine wpAnyH_ready (rs := [1, 5]) (by kernel_rfl) (by simp) ?_
      refine AllReadyH.cons (o := { dst := some 13, op := Go.Op.call { callee := Go.Callee.value (Go.Operand.func 33), args := #[Go.Operand.tmp 12], argTypes := #[34] }, type := 55, pos := _, after := #[{ on := 0, ground := Go.Ground.data }], guard := none }) rfl (fun K hK => ?_) ?_
      · go_simp
        ((refine (bits_h _ _).mono ?_); (rintro e wn ⟨rfl, hb⟩); (try replace Rx := Rx.later hb); (try replace Ry := Ry.later hb))
        go_wp2_with fail
        refine hK.out _ _ ?hSr1_32_1 (fun hHeld2 => ?_)
        case hSr1_32_1 => (first | exact ⟨a0, a1, b0, b1, Below.drew (Below.refl _ _)⟩ | exact ⟨cell_later hb hHeld.1, cell_later hb hHeld.2.1, cell_later hb hHeld.2.2.1, cell_later hb hHeld.2.2.2.1, below_step hHeld.2.2.2.2 hb⟩)
        clear hK K hHeld
        have hHeld := hHeld2
        clear hHeld2
        rename World => wq
        (try simp only [Act.put, List.setIfInBounds_toArray, List.set_cons_zero, List.set_cons_succ])
        refine wpAnyH_ready (rs := [3, 5]) (by kernel_rfl) (by simp) ?_
        refine AllReadyH.cons (o := { dst := some 15, op := Go.Op.call { callee := Go.Callee.value (Go.Operand.func 33), args := #[Go.Operand.tmp 14], argTypes := #[34] }, type := 55, pos := _, after := #[{ on := 2, ground := Go.Ground.data }, { on := 1, ground := Go.Ground.chain }], guard := none }) rfl (fun K hK => ?_) ?_
        · go_simp
          ((refine (bits_h _ _).mono ?_); (rintro e wn ⟨rfl, hb⟩); (try replace Rx := Rx.later hb); (try replace Ry := Ry.later hb))
          go_wp2_with fail
          refine hK.out _ _ ?hSr1_33_3 (fun hHeld2 => ?_)
          case hSr1_33_3 => (first | exact ⟨a0, a1, b0, b1, Below.drew (Below.refl _ _)⟩ | exact ⟨cell_later hb hHeld.1, cell_later hb hHeld.2.1, cell_later hb hHeld.2.2.1, cell_later hb hHeld.2.2.2.1, below_step hHeld.2.2.2.2 hb⟩)
          clear hK K hHeld
          have hHeld := hHeld2
          clear hHeld2
          rename World => wq
          (try simp only [Act.put, List.setIfInBounds_toArray, List.set_cons_zero, List.set_cons_succ])
          refine wpAnyH_ready (rs := [5]) (by kernel_rfl) (by simp) ?_
          refine AllReadyH.cons (o := { dst := some 7, op := Go.Op.alloc 55, type := 0, pos := _, after := #[], guard := none }) rfl (fun K hK => ?_) AllReadyH.nil
          ((rw [if_pos (by rfl)]); (with_reducible refine wp_alloc_run 55 z128 ?_ z128_zero z128_ne ?_); rfl; (have ly : w.heap.size + 1 < wq.heap.size := World.block_lt_of_cell? _ _ hHeld.2.2.1); (have my : W0.heap.size ≤ wq.heap.size := hHeld.2.2.2.2.size); (try have hne := Nat.ne_of_lt Rx.lt); (have Ry := Row.new wq z128 55); (have hb : Below wq.heap.size wq (wq.alloc (.cells z128 55)) := (Below.refl _ _).alloc (Nat.le_refl _) _); (have s0 := cell_later hb hHeld.1); (have s1 := cell_later hb hHeld.2.1); (have s2 := cell_later hb hHeld.2.2.1); (have s3 := cell_later hb hHeld.2.2.2.1); (have s4 := below_step hHeld.2.2.2.2 hb); (try replace Rx := Rx.later hb); clear hb; generalize wq.alloc (.cells z128 55) = wn at *; generalize wq.heap.size = gy at *)
          refine hK.out _ _ ?hSr1_34_5 (fun hHeld2 => ?_)
          case hSr1_34_5 => (exact ⟨s0, s1, s2, s3, s4⟩)
          clear hK K hHeld
          have hHeld := hHeld2
          clear hHeld2
          rename World => wq
          (try simp only [Act.put, List.setIfInBounds_toArray, List.set_cons_zero, List.set_cons_succ])
          refine wpAnyH_ready (rs := [6]) (by kernel_rfl) (by simp) ?_
          refine AllReadyH.cons (o := { dst := none, op := Go.Op.store 55 (Go.Operand.tmp 6) (Go.Operand.tmp 13), type := 0, pos := _, after := #[{ on := 4, ground := Go.Ground.data }, { on := 1, ground := Go.Ground.data }, { on := 3, ground := Go.Ground.chain }, { on := 0, ground := Go.Ground.phase }, { on := 1, ground := Go.Ground.phase }, { on := 2, ground := Go.Ground.textOnly Go.Departure.lateStores }, { on := 3, ground := Go.Ground.textOnly Go.Departure.lateStoresUnsure }, { on := 4, ground := Go.Ground.phase }, { on := 5, ground := Go.Ground.phase }], guard := none }) rfl (fun K hK => ?_) AllReadyH.nil
          ((have hth := Rx.there (bitsA (A % MM)).size (by rw [bitsA_size, zeroA_size]; exact Nat.le_refl _)); (have hinf := bitsA_info (A % MM)); (have hone := bitsA_one (A % MM)); (rw [if_pos (by rfl)]); (with_reducible refine wp_store_mid 55 (.tmp 6) (.tmp 13) ?_ gx 0 (bitsA (A % MM)) ?_ ?_ hth hinf hone ?_); rfl; rfl; rfl; clear hth hinf hone; (have Rxn := Rx.setAll (bitsA (A % MM)) (by rw [bitsA_size, zeroA_size])); clear Rx; (first | (replace Ry := Row.setCells_far (g := gx) (o := 0) (vs := (bitsA (A % MM)).toList) Ry hne) | (replace Ry := Row.setCells_far (g := gx) (o := 0) (vs := (bitsA (A % MM)).toList) Ry hne.symm)); (have Rx := Rxn); clear Rxn; (have s0 := cell_setCells_far (g := gx) (o := 0) (vs := (bitsA (A % MM)).toList) hHeld.1 (by simp; omega)); (have s1 := cell_setCells_far (g := gx) (o := 0) (vs := (bitsA (A % MM)).toList) hHeld.2.1 (by simp; omega)); (have s2 := cell_setCells_far (g := gx) (o := 0) (vs := (bitsA (A % MM)).toList) hHeld.2.2.1 (by simp; omega)); (have s3 := cell_setCells_far (g := gx) (o := 0) (vs := (bitsA (A % MM)).toList) hHeld.2.2.2.1 (by simp; omega)); (have s4 := below_setCells mx (bitsA (A % MM)).toList 0 _ hHeld.2.2.2.2); generalize wq.setCells gx 0 (bitsA (A % MM)).toList = wn at *)
          refine hK.out _ _ ?hSr1_35_6 (fun hHeld2 => ?_)
          case hSr1_35_6 => (exact ⟨s0, s1, s2, s3, s4⟩)
          clear hK K hHeld
          have hHeld := hHeld2
          clear hHeld2
          rename World => wq
          (try simp only [Act.put, List.setIfInBounds_toArray, List.set_cons_zero, List.set_cons_succ])
          refine wpAnyH_ready (rs := [7]) (by kernel_rfl) (by simp) ?_
          refine AllReadyH.cons (o := { dst := none, op := Go.Op.store 55 (Go.Operand.tmp 7) (Go.Operand.tmp 15), type := 0, pos := _, after := #[{ on := 5, ground := Go.Ground.data }, { on := 3, ground := Go.Ground.data }, { on := 6, ground := Go.Ground.chain }, { on := 0, ground := Go.Ground.phase }, { on := 1, ground := Go.Ground.phase }, { on := 2, ground := Go.Ground.phase }, { on := 3, ground := Go.Ground.phase }, { on := 4, ground := Go.Ground.phase }, { on := 5, ground := Go.Ground.phase }, { on := 6, ground := Go.Ground.phase }], guard := none }) rfl (fun K hK => ?_) AllReadyH.nil
          ((have hth := Ry.there (bitsA (B % MM)).size (by rw [bitsA_size, zeroA_size]; exact Nat.le_refl _)); (have hinf := bitsA_info (B % MM)); (have hone := bitsA_one (B % MM)); (rw [if_pos (by rfl)]); (with_reducible refine wp_store_mid 55 (.tmp 7) (.tmp 15) ?_ gy 0 (bitsA (B % MM)) ?_ ?_ hth hinf hone ?_); rfl; rfl; rfl; clear hth hinf hone; (have Ryn := Ry.setAll (bitsA (B % MM)) (by rw [bitsA_size, zeroA_size])); clear Ry; (first | (replace Rx := Row.setCells_far (g := gy) (o := 0) (vs := (bitsA (B % MM)).toList) Rx hne) | (replace Rx := Row.setCells_far (g := gy) (o := 0) (vs := (bitsA (B % MM)).toList) Rx hne.symm)); (have Ry := Ryn); clear Ryn; (have s0 := cell_setCells_far (g := gy) (o := 0) (vs := (bitsA (B % MM)).toList) hHeld.1 (by simp; omega)); (have s1 := cell_setCells_far (g := gy) (o := 0) (vs := (bitsA (B % MM)).toList) hHeld.2.1 (by simp; omega)); (have s2 := cell_setCells_far (g := gy) (o := 0) (vs := (bitsA (B % MM)).toList) hHeld.2.2.1 (by simp; omega)); (have s3 := cell_setCells_far (g := gy) (o := 0) (vs := (bitsA (B % MM)).toList) hHeld.2.2.2.1 (by simp; omega)); (have s4 := below_setCells my (bitsA (B % MM)).toList 0 _ hHeld.2.2.2.2); generalize wq.setCells gy 0 (bitsA (B % MM)).toList = wn at *)
          refine hK.out _ _ ?hSr1_36_7 (fun hHeld2 => ?_)
          case hSr1_36_7 => (exact ⟨s0, s1, s2, s3, s4⟩)
          clear hK K hHeld
          have hHeld := hHeld2
          clear hHeld2
          rename World => wq
          (try simp only [Act.put, List.setIfInBounds_toArray, List.set_cons_zero, List.set_cons_succ])
          refine wpAnyH_done (by kernel_rfl) ?_ _
          (go_wp2_with fail; go_meet; exact ⟨_, _, rfl, rfl, Rx, Ry, (by first | exact hne | exact hne.symm), mx, my, hHeld.2.2.2.2⟩)
        refine AllReadyH.cons (o := { dst := some 7, op := Go.Op.alloc 55, type := 0, pos := _, after := #[], guard := none }) rfl (fun K hK => ?_) AllReadyH.nil
        · ((rw [if_pos (by rfl)]); (with_reducible refine wp_alloc_run 55 z128 ?_ z128_zero z128_ne ?_); rfl; (have ly : w.heap.size + 1 < wq.heap.size := World.block_lt_of_cell? _ _ hHeld.2.2.1); (have my : W0.heap.size ≤ wq.heap.size := hHeld.2.2.2.2.size); (try have hne := Nat.ne_of_lt Rx.lt); (have Ry := Row.new wq z128 55); (have hb : Below wq.heap.size wq (wq.alloc (.cells z128 55)) := (Below.refl _ _).alloc (Nat.le_refl _) _); (have s0 := cell_later hb hHeld.1); (have s1 := cell_later hb hHeld.2.1); (have s2 := cell_later hb hHeld.2.2.1); (have s3 := cell_later hb hHeld.2.2.2.1); (have s4 := below_step hHeld.2.2.2.2 hb); (try replace Rx := Rx.later hb); clear hb; generalize wq.alloc (.cells z128 55) = wn at *; generalize wq.heap.size = gy at *)
          refine hK.out _ _ ?hSr1_37_5 (fun hHeld2 => ?_)
          case hSr1_37_5 => (exact ⟨s0, s1, s2, s3, s4⟩)
          clear hK K hHeld
          have hHeld := hHeld2
          clear hHeld2
          rename World => wq
          (try simp only [Act.put, List.setIfInBounds_toArray, List.set_cons_zero, List.set_cons_succ])
          refine wpAnyH_ready (rs := [3]) (by kernel_rfl) (by simp) ?_
          refine AllReadyH.cons (o := { dst := some 15, op := Go.Op.call { callee := Go.Callee.value (Go.Operand.func 33), args := #[Go.Operand.tmp 14], argTypes := #[34] }, type := 55, pos := _, after := #[{ on := 2, ground := Go.Ground.data }, { on := 1, ground := Go.Ground.chain }], guard := none }) rfl (fun K hK => ?_) AllReadyH.nil
          go_simp
          ((refine (bits_h _ _).mono ?_); (rintro e wn ⟨rfl, hb⟩); (try replace Rx := Rx.later hb); (try replace Ry := Ry.later hb))
          go_wp2_with fail
          refine hK.out _ _ ?hSr1_38_3 (fun hHeld2 => ?_)
          case hSr1_38_3 => (first | exact ⟨a0, a1, b0, b1, Below.drew (Below.refl _ _)⟩ | exact ⟨cell_later hb hHeld.1, cell_later hb hHeld.2.1, cell_later hb hHeld.2.2.1, cell_later hb hHeld.2.2.2.1, below_step hHeld.2.2.2.2 hb⟩)
          clear hK K hHeld
          have hHeld := hHeld2
          clear hHeld2
          rename World => wq
          (try simp only [Act.put, List.setIfInBounds_toArray, List.set_cons_zero, List.set_cons_succ])
          refine wpAnyH_ready (rs := [6]) (by kernel_rfl) (by simp) ?_
          refine AllReadyH.cons (o := { dst := none, op := Go.Op.store 55 (Go.Operand.tmp 6) (Go.Operand.tmp 13), type := 0, pos := _, after := #[{ on := 4, ground := Go.Ground.data }, { on := 1, ground := Go.Ground.data }, { on := 3, ground := Go.Ground.chain }, { on := 0, ground := Go.Ground.phase }, { on := 1, ground := Go.Ground.phase }, { on := 2, ground := Go.Ground.textOnly Go.Departure.lateStores }, { on := 3, ground := Go.Ground.textOnly Go.Departure.lateStoresUnsure }, { on := 4, ground := Go.Ground.phase }, { on := 5, ground := Go.Ground.phase }], guard := none }) rfl (fun K hK => ?_) AllReadyH.nil
          ((have hth := Rx.there (bitsA (A % MM)).size (by rw [bitsA_size, zeroA_size]; exact Nat.le_refl _)); (have hinf := bitsA_info (A % MM)); (have hone := bitsA_one (A % MM)); (rw [if_pos (by rfl)]); (with_reducible refine wp_store_mid 55 (.tmp 6) (.tmp 13) ?_ gx 0 (bitsA (A % MM)) ?_ ?_ hth hinf hone ?_); rfl; rfl; rfl; clear hth hinf hone; (have Rxn := Rx.setAll (bitsA (A % MM)) (by rw [bitsA_size, zeroA_size])); clear Rx; (first | (replace Ry := Row.setCells_far (g := gx) (o := 0) (vs := (bitsA (A % MM)).toList) Ry hne) | (replace Ry := Row.setCells_far (g := gx) (o := 0) (vs := (bitsA (A % MM)).toList) Ry hne.symm)); (have Rx := Rxn); clear Rxn; (have s0 := cell_setCells_far (g := gx) (o := 0) (vs := (bitsA (A % MM)).toList) hHeld.1 (by simp; omega)); (have s1 := cell_setCells_far (g := gx) (o := 0) (vs := (bitsA (A % MM)).toList) hHeld.2.1 (by simp; omega)); (have s2 := cell_setCells_far (g := gx) (o := 0) (vs := (bitsA (A % MM)).toList) hHeld.2.2.1 (by simp; omega)); (have s3 := cell_setCells_far (g := gx) (o := 0) (vs := (bitsA (A % MM)).toList) hHeld.2.2.2.1 (by simp; omega)); (have s4 := below_setCells mx (bitsA (A % MM)).toList 0 _ hHeld.2.2.2.2); generalize wq.setCells gx 0 (bitsA (A % MM)).toList = wn at *)
          refine hK.out _ _ ?hSr1_39_6 (fun hHeld2 => ?_)
          case hSr1_39_6 => (exact ⟨s0, s1, s2, s3, s4⟩)
          clear hK K hHeld
          have hHeld := hHeld2
          clear hHeld2
          rename World => wq
          (try simp only [Act.put, List.setIfInBounds_toArray, List.set_cons_zero, List.set_cons_succ])
          refine wpAnyH_ready (rs := [7]) (by kernel_rfl) (by simp) ?_
          refine AllReadyH.cons (o := { dst := none, op := Go.Op.store 55 (Go.Operand.tmp 7) (Go.Operand.tmp 15), type := 0, pos := _, after := #[{ on := 5, ground := Go.Ground.data }, { on := 3, ground := Go.Ground.data }, { on := 6, ground := Go.Ground.chain }, { on := 0, ground := Go.Ground.phase }, { on := 1, ground := Go.Ground.phase }, { on := 2, ground := Go.Ground.phase }, { on := 3, ground := Go.Ground.phase }, { on := 4, ground := Go.Ground.phase }, { on := 5, ground := Go.Ground.phase }, { on := 6, ground := Go.Ground.phase }], guard := none }) rfl (fun K hK => ?_) AllReadyH.nil
          ((have hth := Ry.there (bitsA (B % MM)).size (by rw [bitsA_size, zeroA_size]; exact Nat.le_refl _)); (have hinf := bitsA_info (B % MM)); (have hone := bitsA_one (B % MM)); (rw [if_pos (by rfl)]); (with_reducible refine wp_store_mid 55 (.tmp 7) (.tmp 15) ?_ gy 0 (bitsA (B % MM)) ?_ ?_ hth hinf hone ?_); rfl; rfl; rfl; clear hth hinf hone; (have Ryn := Ry.setAll (bitsA (B % MM)) (by rw [bitsA_size, zeroA_size])); clear Ry; (first | (replace Rx := Row.setCells_far (g := gy) (o := 0) (vs := (bitsA (B % MM)).toList) Rx hne) | (replace Rx := Row.setCells_far (g := gy) (o := 0) (vs := (bitsA (B % MM)).toList) Rx hne.symm)); (have Ry := Ryn); clear Ryn; (have s0 := cell_setCells_far (g := gy) (o := 0) (vs := (bitsA (B % MM)).toList) hHeld.1 (by simp; omega)); (have s1 := cell_setCells_far (g := gy) (o := 0) (vs := (bitsA (B % MM)).toList) hHeld.2.1 (by simp; omega)); (have s2 := cell_setCells_far (g := gy) (o := 0) (vs := (bitsA (B % MM)).toList) hHeld.2.2.1 (by simp; omega)); (have s3 := cell_setCells_far (g := gy) (o := 0) (vs := (bitsA (B % MM)).toList) hHeld.2.2.2.1 (by simp; omega)); (have s4 := below_setCells my (bitsA (B % MM)).toList 0 _ hHeld.2.2.2.2); generalize wq.setCells gy 0 (bitsA (B % MM)).toList = wn at *)
          refine hK.out _ _ ?hSr1_40_7 (fun hHeld2 => ?_)
          case hSr1_40_7 => (exact ⟨s0, s1, s2, s3, s4⟩)
          clear hK K hHeld
          have hHeld := hHeld2
          clear hHeld2
          rename World => wq
          (try simp only [Act.put, List.setIfInBounds_toArray, List.set_cons_zero, List.set_cons_succ])
          refine wpAnyH_done (by kernel_rfl) ?_ _
          (go_wp2_with fail; go_meet; exact ⟨_, _, rfl, rfl, Rx, Ry, (by first | exact hne | exact hne.symm), mx, my, hHeld.2.2.2.2⟩)
      refine AllReadyH.cons (o := { dst := some 7, op := Go.Op.alloc 55, type := 0, pos := _, after := #[], guard := none }) rfl (fun K hK => ?_) AllReadyH.nil
      · ((rw [if_pos (by rfl)]); (with_reducible refine wp_alloc_run 55 z128 ?_ z128_zero z128_ne ?_); rfl; (have ly : w.heap.size + 1 < wq.heap.size := World.block_lt_of_cell? _ _ hHeld.2.2.1); (have my : W0.heap.size ≤ wq.heap.size := hHeld.2.2.2.2.size); (try have hne := Nat.ne_of_lt Rx.lt); (have Ry := Row.new wq z128 55); (have hb : Below wq.heap.size wq (wq.alloc (.cells z128 55)) := (Below.refl _ _).alloc (Nat.le_refl _) _); (have s0 := cell_later hb hHeld.1); (have s1 := cell_later hb hHeld.2.1); (have s2 := cell_later hb hHeld.2.2.1); (have s3 := cell_later hb hHeld.2.2.2.1); (have s4 := below_step hHeld.2.2.2.2 hb); (try replace Rx := Rx.later hb); clear hb; generalize wq.alloc (.cells z128 55) = wn at *; generalize wq.heap.size = gy at *)
        refine hK.out _ _ ?hSr1_41_5 (fun hHeld2 => ?_)
        case hSr1_41_5 => (exact ⟨s0, s1, s2, s3, s4⟩)
        clear hK K hHeld
        have hHeld := hHeld2
        clear hHeld2
        rename World => wq
        (try simp only [Act.put, List.setIfInBounds_toArray, List.set_cons_zero, List.set_cons_succ])
        refine wpAnyH_ready (rs := [1]) (by kernel_rfl) (by simp) ?_
        refine AllReadyH.cons (o := { dst := some 13, op := Go.Op.call { callee := Go.Callee.value (Go.Operand.func 33), args := #[Go.Operand.tmp 12], argTypes := #[34] }, type := 55, pos := _, after := #[{ on := 0, ground := Go.Ground.data }], guard := none }) rfl (fun K hK => ?_) AllReadyH.nil
        go_simp
        ((refine (bits_h _ _).mono ?_); (rintro e wn ⟨rfl, hb⟩); (try replace Rx := Rx.later hb); (try replace Ry := Ry.later hb))
        go_wp2_with fail
        refine hK.out _ _ ?hSr1_42_1 (fun hHeld2 => ?_)
        case hSr1_42_1 => (first | exact ⟨a0, a1, b0, b1, Below.drew (Below.refl _ _)⟩ | exact ⟨cell_later hb hHeld.1, cell_later hb hHeld.2.1, cell_later hb hHeld.2.2.1, cell_later hb hHeld.2.2.2.1, below_step hHeld.2.2.2.2 hb⟩)
        clear hK K hHeld
        have hHeld := hHeld2
        clear hHeld2
        rename World => wq
        (try simp only [Act.put, List.setIfInBounds_toArray, List.set_cons_zero, List.set_cons_succ])
        refine wpAnyH_ready (rs := [3]) (by kernel_rfl) (by simp) ?_
        refine AllReadyH.cons (o := { dst := some 15, op := Go.Op.call { callee := Go.Callee.value (Go.Operand.func 33), args := #[Go.Operand.tmp 14], argTypes := #[34] }, type := 55, pos := _, after := #[{ on := 2, ground := Go.Ground.data }, { on := 1, ground := Go.Ground.chain }], guard := none }) rfl (fun K hK => ?_) AllReadyH.nil
        go_simp
        ((refine (bits_h _ _).mono ?_); (rintro e wn ⟨rfl, hb⟩); (try replace Rx := Rx.later hb); (try replace Ry := Ry.later hb))
        go_wp2_with fail
        refine hK.out _ _ ?hSr1_43_3 (fun hHeld2 => ?_)
        case hSr1_43_3 => (first | exact ⟨a0, a1, b0, b1, Below.drew (Below.refl _ _)⟩ | exact ⟨cell_later hb hHeld.1, cell_later hb hHeld.2.1, cell_later hb hHeld.2.2.1, cell_later hb hHeld.2.2.2.1, below_step hHeld.2.2.2.2 hb⟩)
        clear hK K hHeld
        have hHeld := hHeld2
        clear hHeld2
        rename World => wq
        (try simp only [Act.put, List.setIfInBounds_toArray, List.set_cons_zero, List.set_cons_succ])
        refine wpAnyH_ready (rs := [6]) (by kernel_rfl) (by simp) ?_
        refine AllReadyH.cons (o := { dst := none, op := Go.Op.store 55 (Go.Operand.tmp 6) (Go.Operand.tmp 13), type := 0, pos := _, after := #[{ on := 4, ground := Go.Ground.data }, { on := 1, ground := Go.Ground.data }, { on := 3, ground := Go.Ground.chain }, { on := 0, ground := Go.Ground.phase }, { on := 1, ground := Go.Ground.phase }, { on := 2, ground := Go.Ground.textOnly Go.Departure.lateStores }, { on := 3, ground := Go.Ground.textOnly Go.Departure.lateStoresUnsure }, { on := 4, ground := Go.Ground.phase }, { on := 5, ground := Go.Ground.phase }], guard := none }) rfl (fun K hK => ?_) AllReadyH.nil
        ((have hth := Rx.there (bitsA (A % MM)).size (by rw [bitsA_size, zeroA_size]; exact Nat.le_refl _)); (have hinf := bitsA_info (A % MM)); (have hone := bitsA_one (A % MM)); (rw [if_pos (by rfl)]); (with_reducible refine wp_store_mid 55 (.tmp 6) (.tmp 13) ?_ gx 0 (bitsA (A % MM)) ?_ ?_ hth hinf hone ?_); rfl; rfl; rfl; clear hth hinf hone; (have Rxn := Rx.setAll (bitsA (A % MM)) (by rw [bitsA_size, zeroA_size])); clear Rx; (first | (replace Ry := Row.setCells_far (g := gx) (o := 0) (vs := (bitsA (A % MM)).toList) Ry hne) | (replace Ry := Row.setCells_far (g := gx) (o := 0) (vs := (bitsA (A % MM)).toList) Ry hne.symm)); (have Rx := Rxn); clear Rxn; (have s0 := cell_setCells_far (g := gx) (o := 0) (vs := (bitsA (A % MM)).toList) hHeld.1 (by simp; omega)); (have s1 := cell_setCells_far (g := gx) (o := 0) (vs := (bitsA (A % MM)).toList) hHeld.2.1 (by simp; omega)); (have s2 := cell_setCells_far (g := gx) (o := 0) (vs := (bitsA (A % MM)).toList) hHeld.2.2.1 (by simp; omega)); (have s3 := cell_setCells_far (g := gx) (o := 0) (vs := (bitsA (A % MM)).toList) hHeld.2.2.2.1 (by simp; omega)); (have s4 := below_setCells mx (bitsA (A % MM)).toList 0 _ hHeld.2.2.2.2); generalize wq.setCells gx 0 (bitsA (A % MM)).toList = wn at *)
        refine hK.out _ _ ?hSr1_44_6 (fun hHeld2 => ?_)
        case hSr1_44_6 => (exact ⟨s0, s1, s2, s3, s4⟩)
        clear hK K hHeld
        have hHeld := hHeld2
        clear hHeld2
        rename World => wq
        (try simp only [Act.put, List.setIfInBounds_toArray, List.set_cons_zero, List.set_cons_succ])
        refine wpAnyH_ready (rs := [7]) (by kernel_rfl) (by simp) ?_
        refine AllReadyH.cons (o := { dst := none, op := Go.Op.store 55 (Go.Operand.tmp 7) (Go.Operand.tmp 15), type := 0, pos := _, after := #[{ on := 5, ground := Go.Ground.data }, { on := 3, ground := Go.Ground.data }, { on := 6, ground := Go.Ground.chain }, { on := 0, ground := Go.Ground.phase }, { on := 1, ground := Go.Ground.phase }, { on := 2, ground := Go.Ground.phase }, { on := 3, ground := Go.Ground.phase }, { on := 4, ground := Go.Ground.phase }, { on := 5, ground := Go.Ground.phase }, { on := 6, ground := Go.Ground.phase }], guard := none }) rfl (fun K hK => ?_) AllReadyH.nil
        ((have hth := Ry.there (bitsA (B % MM)).size (by rw [bitsA_size, zeroA_size]; exact Nat.le_refl _)); (have hinf := bitsA_info (B % MM)); (have hone := bitsA_one (B % MM)); (rw [if_pos (by rfl)]); (with_reducible refine wp_store_mid 55 (.tmp 7) (.tmp 15) ?_ gy 0 (bitsA (B % MM)) ?_ ?_ hth hinf hone ?_); rfl; rfl; rfl; clear hth hinf hone; (have Ryn := Ry.setAll (bitsA (B % MM)) (by rw [bitsA_size, zeroA_size])); clear Ry; (first | (replace Rx := Row.setCells_far (g := gy) (o := 0) (vs := (bitsA (B % MM)).toList) Rx hne) | (replace Rx := Row.setCells_far (g := gy) (o := 0) (vs := (bitsA (B % MM)).toList) Rx hne.symm)); (have Ry := Ryn); clear Ryn; (have s0 := cell_setCells_far (g := gy) (o := 0) (vs := (bitsA (B % MM)).toList) hHeld.1 (by simp; omega)); (have s1 := cell_setCells_far (g := gy) (o := 0) (vs := (bitsA (B % MM)).toList) hHeld.2.1 (by simp; omega)); (have s2 := cell_setCells_far (g := gy) (o := 0) (vs := (bitsA (B % MM)).toList) hHeld.2.2.1 (by simp; omega)); (have s3 := cell_setCells_far (g := gy) (o := 0) (vs := (bitsA (B % MM)).toList) hHeld.2.2.2.1 (by simp; omega)); (have s4 := below_setCells my (bitsA (B % MM)).toList 0 _ hHeld.2.2.2.2); generalize wq.setCells gy 0 (bitsA (B % MM)).toList = wn at *)
        refine hK.out _ _ ?hSr1_45_7 (fun hHeld2 => ?_)
        case hSr1_45_7 => (exact ⟨s0, s1, s2, s3, s4⟩)
        clear hK K hHeld
        have hHeld := hHeld2
        clear hHeld2
        rename World => wq
        (try simp only [Act.put, List.setIfInBounds_toArray, List.set_cons_zero, List.set_cons_succ])
        refine wpAnyH_done (by kernel_rfl) ?_ _
        (go_wp2_with fail; go_meet; exact ⟨_, _, rfl, rfl, Rx, Ry, (by first | exact hne | exact hne.symm), mx, my, hHeld.2.2.2.2⟩)
    refine AllReadyH.cons (o := { dst := some 7, op := Go.Op.alloc 55, type := 0, pos := _, after := #[], guard := none }) rfl (fun K hK => ?_) AllReadyH.nil
    · ((rw [if_pos (by rfl)]); (with_reducible refine wp_alloc_run 55 z128 ?_ z128_zero z128_ne ?_); rfl; (have ly : w.heap.size + 1 < wq.heap.size := World.block_lt_of_cell? _ _ hHeld.2.2.1); (have my : W0.heap.size ≤ wq.heap.size := hHeld.2.2.2.2.size); (try have hne := Nat.ne_of_lt Rx.lt); (have Ry := Row.new wq z128 55); (have hb : Below wq.heap.size wq (wq.alloc (.cells z128 55)) := (Below.refl _ _).alloc (Nat.le_refl _) _); (have s0 := cell_later hb hHeld.1); (have s1 := cell_later hb hHeld.2.1); (have s2 := cell_later hb hHeld.2.2.1); (have s3 := cell_later hb hHeld.2.2.2.1); (have s4 := below_step hHeld.2.2.2.2 hb); (try replace Rx := Rx.later hb); clear hb; generalize wq.alloc (.cells z128 55) = wn at *; generalize wq.heap.size = gy at *)
      refine hK.out _ _ ?hSr1_46_5 (fun hHeld2 => ?_)
      case hSr1_46_5 => (exact ⟨s0, s1, s2, s3, s4⟩)
      clear hK K hHeld
      have hHeld := hHeld2
      clear hHeld2
      rename World => wq
      (try simp only [Act.put, List.setIfInBounds_toArray, List.set_cons_zero, List.set_cons_succ])
      refine wpAnyH_ready (rs := [1, 4]) (by kernel_rfl) (by simp) ?_
      refine AllReadyH.cons (o := { dst := some 13, op := Go.Op.call { callee := Go.Callee.value (Go.Operand.func 33), args := #[Go.Operand.tmp 12], argTypes := #[34] }, type := 55, pos := _, after := #[{ on := 0, ground := Go.Ground.data }], guard := none }) rfl (fun K hK => ?_) ?_
      · go_simp
        ((refine (bits_h _ _).mono ?_); (rintro e wn ⟨rfl, hb⟩); (try replace Rx := Rx.later hb); (try replace Ry := Ry.later hb))
        go_wp2_with fail
        refine hK.out _ _ ?hSr1_47_1 (fun hHeld2 => ?_)
        case hSr1_47_1 => (first | exact ⟨a0, a1, b0, b1, Below.drew (Below.refl _ _)⟩ | exact ⟨cell_later hb hHeld.1, cell_later hb hHeld.2.1, cell_later hb hHeld.2.2.1, cell_later hb hHeld.2.2.2.1, below_step hHeld.2.2.2.2 hb⟩)
        clear hK K hHeld
        have hHeld := hHeld2
        clear hHeld2
        rename World => wq
        (try simp only [Act.put, List.setIfInBounds_toArray, List.set_cons_zero, List.set_cons_succ])
        refine wpAnyH_ready (rs := [3, 4]) (by kernel_rfl) (by simp) ?_
        refine AllReadyH.cons (o := { dst := some 15, op := Go.Op.call { callee := Go.Callee.value (Go.Operand.func 33), args := #[Go.Operand.tmp 14], argTypes := #[34] }, type := 55, pos := _, after := #[{ on := 2, ground := Go.Ground.data }, { on := 1, ground := Go.Ground.chain }], guard := none }) rfl (fun K hK => ?_) ?_
        · go_simp
          ((refine (bits_h _ _).mono ?_); (rintro e wn ⟨rfl, hb⟩); (try replace Rx := Rx.later hb); (try replace Ry := Ry.later hb))
          go_wp2_with fail
          refine hK.out _ _ ?hSr1_48_3 (fun hHeld2 => ?_)
          case hSr1_48_3 => (first | exact ⟨a0, a1, b0, b1, Below.drew (Below.refl _ _)⟩ | exact ⟨cell_later hb hHeld.1, cell_later hb hHeld.2.1, cell_later hb hHeld.2.2.1, cell_later hb hHeld.2.2.2.1, below_step hHeld.2.2.2.2 hb⟩)
          clear hK K hHeld
          have hHeld := hHeld2
          clear hHeld2
          rename World => wq
          (try simp only [Act.put, List.setIfInBounds_toArray, List.set_cons_zero, List.set_cons_succ])
          refine wpAnyH_ready (rs := [4]) (by kernel_rfl) (by simp) ?_
          refine AllReadyH.cons (o := { dst := some 6, op := Go.Op.alloc 55, type := 0, pos := _, after := #[], guard := none }) rfl (fun K hK => ?_) AllReadyH.nil
          ((rw [if_pos (by rfl)]); (with_reducible refine wp_alloc_run 55 z128 ?_ z128_zero z128_ne ?_); rfl; (have lx : w.heap.size + 1 < wq.heap.size := World.block_lt_of_cell? _ _ hHeld.2.2.1); (have mx : W0.heap.size ≤ wq.heap.size := hHeld.2.2.2.2.size); (try have hne := Nat.ne_of_lt Ry.lt); (have Rx := Row.new wq z128 55); (have hb : Below wq.heap.size wq (wq.alloc (.cells z128 55)) := (Below.refl _ _).alloc (Nat.le_refl _) _); (have s0 := cell_later hb hHeld.1); (have s1 := cell_later hb hHeld.2.1); (have s2 := cell_later hb hHeld.2.2.1); (have s3 := cell_later hb hHeld.2.2.2.1); (have s4 := below_step hHeld.2.2.2.2 hb); (try replace Ry := Ry.later hb); clear hb; generalize wq.alloc (.cells z128 55) = wn at *; generalize wq.heap.size = gx at *)
          refine hK.out _ _ ?hSr1_49_4 (fun hHeld2 => ?_)
          case hSr1_49_4 => (exact ⟨s0, s1, s2, s3, s4⟩)
          clear hK K hHeld
          have hHeld := hHeld2
          clear hHeld2
          rename World => wq
          (try simp only [Act.put, List.setIfInBounds_toArray, List.set_cons_zero, List.set_cons_succ])
          refine wpAnyH_ready (rs := [6]) (by kernel_rfl) (by simp) ?_
          refine AllReadyH.cons (o := { dst := none, op := Go.Op.store 55 (Go.Operand.tmp 6) (Go.Operand.tmp 13), type := 0, pos := _, after := #[{ on := 4, ground := Go.Ground.data }, { on := 1, ground := Go.Ground.data }, { on := 3, ground := Go.Ground.chain }, { on := 0, ground := Go.Ground.phase }, { on := 1, ground := Go.Ground.phase }, { on := 2, ground := Go.Ground.textOnly Go.Departure.lateStores }, { on := 3, ground := Go.Ground.textOnly Go.Departure.lateStoresUnsure }, { on := 4, ground := Go.Ground.phase }, { on := 5, ground := Go.Ground.phase }], guard := none }) rfl (fun K hK => ?_) AllReadyH.nil
          ((have hth := Rx.there (bitsA (A % MM)).size (by rw [bitsA_size, zeroA_size]; exact Nat.le_refl _)); (have hinf := bitsA_info (A % MM)); (have hone := bitsA_one (A % MM)); (rw [if_pos (by rfl)]); (with_reducible refine wp_store_mid 55 (.tmp 6) (.tmp 13) ?_ gx 0 (bitsA (A % MM)) ?_ ?_ hth hinf hone ?_); rfl; rfl; rfl; clear hth hinf hone; (have Rxn := Rx.setAll (bitsA (A % MM)) (by rw [bitsA_size, zeroA_size])); clear Rx; (first | (replace Ry := Row.setCells_far (g := gx) (o := 0) (vs := (bitsA (A % MM)).toList) Ry hne) | (replace Ry := Row.setCells_far (g := gx) (o := 0) (vs := (bitsA (A % MM)).toList) Ry hne.symm)); (have Rx := Rxn); clear Rxn; (have s0 := cell_setCells_far (g := gx) (o := 0) (vs := (bitsA (A % MM)).toList) hHeld.1 (by simp; omega)); (have s1 := cell_setCells_far (g := gx) (o := 0) (vs := (bitsA (A % MM)).toList) hHeld.2.1 (by simp; omega)); (have s2 := cell_setCells_far (g := gx) (o := 0) (vs := (bitsA (A % MM)).toList) hHeld.2.2.1 (by simp; omega)); (have s3 := cell_setCells_far (g := gx) (o := 0) (vs := (bitsA (A % MM)).toList) hHeld.2.2.2.1 (by simp; omega)); (have s4 := below_setCells mx (bitsA (A % MM)).toList 0 _ hHeld.2.2.2.2); generalize wq.setCells gx 0 (bitsA (A % MM)).toList = wn at *)
          refine hK.out _ _ ?hSr1_50_6 (fun hHeld2 => ?_)
          case hSr1_50_6 => (exact ⟨s0, s1, s2, s3, s4⟩)
          clear hK K hHeld
          have hHeld := hHeld2
          clear hHeld2
          rename World => wq
          (try simp only [Act.put, List.setIfInBounds_toArray, List.set_cons_zero, List.set_cons_succ])
          refine wpAnyH_ready (rs := [7]) (by kernel_rfl) (by simp) ?_
          refine AllReadyH.cons (o := { dst := none, op := Go.Op.store 55 (Go.Operand.tmp 7) (Go.Operand.tmp 15), type := 0, pos := _, after := #[{ on := 5, ground := Go.Ground.data }, { on := 3, ground := Go.Ground.data }, { on := 6, ground := Go.Ground.chain }, { on := 0, ground := Go.Ground.phase }, { on := 1, ground := Go.Ground.phase }, { on := 2, ground := Go.Ground.phase }, { on := 3, ground := Go.Ground.phase }, { on := 4, ground := Go.Ground.phase }, { on := 5, ground := Go.Ground.phase }, { on := 6, ground := Go.Ground.phase }], guard := none }) rfl (fun K hK => ?_) AllReadyH.nil
          ((have hth := Ry.there (bitsA (B % MM)).size (by rw [bitsA_size, zeroA_size]; exact Nat.le_refl _)); (have hinf := bitsA_info (B % MM)); (have hone := bitsA_one (B % MM)); (rw [if_pos (by rfl)]); (with_reducible refine wp_store_mid 55 (.tmp 7) (.tmp 15) ?_ gy 0 (bitsA (B % MM)) ?_ ?_ hth hinf hone ?_); rfl; rfl; rfl; clear hth hinf hone; (have Ryn := Ry.setAll (bitsA (B % MM)) (by rw [bitsA_size, zeroA_size])); clear Ry; (first | (replace Rx := Row.setCells_far (g := gy) (o := 0) (vs := (bitsA (B % MM)).toList) Rx hne) | (replace Rx := Row.setCells_far (g := gy) (o := 0) (vs := (bitsA (B % MM)).toList) Rx hne.symm)); (have Ry := Ryn); clear Ryn; (have s0 := cell_setCells_far (g := gy) (o := 0) (vs := (bitsA (B % MM)).toList) hHeld.1 (by simp; omega)); (have s1 := cell_setCells_far (g := gy) (o := 0) (vs := (bitsA (B % MM)).toList) hHeld.2.1 (by simp; omega)); (have s2 := cell_setCells_far (g := gy) (o := 0) (vs := (bitsA (B % MM)).toList) hHeld.2.2.1 (by simp; omega)); (have s3 := cell_setCells_far (g := gy) (o := 0) (vs := (bitsA (B % MM)).toList) hHeld.2.2.2.1 (by simp; omega)); (have s4 := below_setCells my (bitsA (B % MM)).toList 0 _ hHeld.2.2.2.2); generalize wq.setCells gy 0 (bitsA (B % MM)).toList = wn at *)
          refine hK.out _ _ ?hSr1_51_7 (fun hHeld2 => ?_)
          case hSr1_51_7 => (exact ⟨s0, s1, s2, s3, s4⟩)
          clear hK K hHeld
          have hHeld := hHeld2
          clear hHeld2
          rename World => wq
          (try simp only [Act.put, List.setIfInBounds_toArray, List.set_cons_zero, List.set_cons_succ])
          refine wpAnyH_done (by kernel_rfl) ?_ _
          (go_wp2_with fail; go_meet; exact ⟨_, _, rfl, rfl, Rx, Ry, (by first | exact hne | exact hne.symm), mx, my, hHeld.2.2.2.2⟩)
        refine AllReadyH.cons (o := { dst := some 6, op := Go.Op.alloc 55, type := 0, pos := _, after := #[], guard := none }) rfl (fun K hK => ?_) AllReadyH.nil
        · ((rw [if_pos (by rfl)]); (with_reducible refine wp_alloc_run 55 z128 ?_ z128_zero z128_ne ?_); rfl; (have lx : w.heap.size + 1 < wq.heap.size := World.block_lt_of_cell? _ _ hHeld.2.2.1); (have mx : W0.heap.size ≤ wq.heap.size := hHeld.2.2.2.2.size); (try have hne := Nat.ne_of_lt Ry.lt); (have Rx := Row.new wq z128 55); (have hb : Below wq.heap.size wq (wq.alloc (.cells z128 55)) := (Below.refl _ _).alloc (Nat.le_refl _) _); (have s0 := cell_later hb hHeld.1); (have s1 := cell_later hb hHeld.2.1); (have s2 := cell_later hb hHeld.2.2.1); (have s3 := cell_later hb hHeld.2.2.2.1); (have s4 := below_step hHeld.2.2.2.2 hb); (try replace Ry := Ry.later hb); clear hb; generalize wq.alloc (.cells z128 55) = wn at *; generalize wq.heap.size = gx at *)
          refine hK.out _ _ ?hSr1_52_4 (fun hHeld2 => ?_)
          case hSr1_52_4 => (exact ⟨s0, s1, s2, s3, s4⟩)
          clear hK K hHeld
          have hHeld := hHeld2
          clear hHeld2
          rename World => wq
          (try simp only [Act.put, List.setIfInBounds_toArray, List.set_cons_zero, List.set_cons_succ])
          refine wpAnyH_ready (rs := [3]) (by kernel_rfl) (by simp) ?_
          refine AllReadyH.cons (o := { dst := some 15, op := Go.Op.call { callee := Go.Callee.value (Go.Operand.func 33), args := #[Go.Operand.tmp 14], argTypes := #[34] }, type := 55, pos := _, after := #[{ on := 2, ground := Go.Ground.data }, { on := 1, ground := Go.Ground.chain }], guard := none }) rfl (fun K hK => ?_) AllReadyH.nil
          go_simp
          ((refine (bits_h _ _).mono ?_); (rintro e wn ⟨rfl, hb⟩); (try replace Rx := Rx.later hb); (try replace Ry := Ry.later hb))
          go_wp2_with fail
          refine hK.out _ _ ?hSr1_53_3 (fun hHeld2 => ?_)
          case hSr1_53_3 => (first | exact ⟨a0, a1, b0, b1, Below.drew (Below.refl _ _)⟩ | exact ⟨cell_later hb hHeld.1, cell_later hb hHeld.2.1, cell_later hb hHeld.2.2.1, cell_later hb hHeld.2.2.2.1, below_step hHeld.2.2.2.2 hb⟩)
          clear hK K hHeld
          have hHeld := hHeld2
          clear hHeld2
          rename World => wq
          (try simp only [Act.put, List.setIfInBounds_toArray, List.set_cons_zero, List.set_cons_succ])
          refine wpAnyH_ready (rs := [6]) (by kernel_rfl) (by simp) ?_
          refine AllReadyH.cons (o := { dst := none, op := Go.Op.store 55 (Go.Operand.tmp 6) (Go.Operand.tmp 13), type := 0, pos := _, after := #[{ on := 4, ground := Go.Ground.data }, { on := 1, ground := Go.Ground.data }, { on := 3, ground := Go.Ground.chain }, { on := 0, ground := Go.Ground.phase }, { on := 1, ground := Go.Ground.phase }, { on := 2, ground := Go.Ground.textOnly Go.Departure.lateStores }, { on := 3, ground := Go.Ground.textOnly Go.Departure.lateStoresUnsure }, { on := 4, ground := Go.Ground.phase }, { on := 5, ground := Go.Ground.phase }], guard := none }) rfl (fun K hK => ?_) AllReadyH.nil
          ((have hth := Rx.there (bitsA (A % MM)).size (by rw [bitsA_size, zeroA_size]; exact Nat.le_refl _)); (have hinf := bitsA_info (A % MM)); (have hone := bitsA_one (A % MM)); (rw [if_pos (by rfl)]); (with_reducible refine wp_store_mid 55 (.tmp 6) (.tmp 13) ?_ gx 0 (bitsA (A % MM)) ?_ ?_ hth hinf hone ?_); rfl; rfl; rfl; clear hth hinf hone; (have Rxn := Rx.setAll (bitsA (A % MM)) (by rw [bitsA_size, zeroA_size])); clear Rx; (first | (replace Ry := Row.setCells_far (g := gx) (o := 0) (vs := (bitsA (A % MM)).toList) Ry hne) | (replace Ry := Row.setCells_far (g := gx) (o := 0) (vs := (bitsA (A % MM)).toList) Ry hne.symm)); (have Rx := Rxn); clear Rxn; (have s0 := cell_setCells_far (g := gx) (o := 0) (vs := (bitsA (A % MM)).toList) hHeld.1 (by simp; omega)); (have s1 := cell_setCells_far (g := gx) (o := 0) (vs := (bitsA (A % MM)).toList) hHeld.2.1 (by simp; omega)); (have s2 := cell_setCells_far (g := gx) (o := 0) (vs := (bitsA (A % MM)).toList) hHeld.2.2.1 (by simp; omega)); (have s3 := cell_setCells_far (g := gx) (o := 0) (vs := (bitsA (A % MM)).toList) hHeld.2.2.2.1 (by simp; omega)); (have s4 := below_setCells mx (bitsA (A % MM)).toList 0 _ hHeld.2.2.2.2); generalize wq.setCells gx 0 (bitsA (A % MM)).toList = wn at *)
          refine hK.out _ _ ?hSr1_54_6 (fun hHeld2 => ?_)
          case hSr1_54_6 => (exact ⟨s0, s1, s2, s3, s4⟩)
          clear hK K hHeld
          have hHeld := hHeld2
          clear hHeld2
          rename World => wq
          (try simp only [Act.put, List.setIfInBounds_toArray, List.set_cons_zero, List.set_cons_succ])
          refine wpAnyH_ready (rs := [7]) (by kernel_rfl) (by simp) ?_
          refine AllReadyH.cons (o := { dst := none, op := Go.Op.store 55 (Go.Operand.tmp 7) (Go.Operand.tmp 15), type := 0, pos := _, after := #[{ on := 5, ground := Go.Ground.data }, { on := 3, ground := Go.Ground.data }, { on := 6, ground := Go.Ground.chain }, { on := 0, ground := Go.Ground.phase }, { on := 1, ground := Go.Ground.phase }, { on := 2, ground := Go.Ground.phase }, { on := 3, ground := Go.Ground.phase }, { on := 4, ground := Go.Ground.phase }, { on := 5, ground := Go.Ground.phase }, { on := 6, ground := Go.Ground.phase }], guard := none }) rfl (fun K hK => ?_) AllReadyH.nil
          ((have hth := Ry.there (bitsA (B % MM)).size (by rw [bitsA_size, zeroA_size]; exact Nat.le_refl _)); (have hinf := bitsA_info (B % MM)); (have hone := bitsA_one (B % MM)); (rw [if_pos (by rfl)]); (with_reducible refine wp_store_mid 55 (.tmp 7) (.tmp 15) ?_ gy 0 (bitsA (B % MM)) ?_ ?_ hth hinf hone ?_); rfl; rfl; rfl; clear hth hinf hone; (have Ryn := Ry.setAll (bitsA (B % MM)) (by rw [bitsA_size, zeroA_size])); clear Ry; (first | (replace Rx := Row.setCells_far (g := gy) (o := 0) (vs := (bitsA (B % MM)).toList) Rx hne) | (replace Rx := Row.setCells_far (g := gy) (o := 0) (vs := (bitsA (B % MM)).toList) Rx hne.symm)); (have Ry := Ryn); clear Ryn; (have s0 := cell_setCells_far (g := gy) (o := 0) (vs := (bitsA (B % MM)).toList) hHeld.1 (by simp; omega)); (have s1 := cell_setCells_far (g := gy) (o := 0) (vs := (bitsA (B % MM)).toList) hHeld.2.1 (by simp; omega)); (have s2 := cell_setCells_far (g := gy) (o := 0) (vs := (bitsA (B % MM)).toList) hHeld.2.2.1 (by simp; omega)); (have s3 := cell_setCells_far (g := gy) (o := 0) (vs := (bitsA (B % MM)).toList) hHeld.2.2.2.1 (by simp; omega)); (have s4 := below_setCells my (bitsA (B % MM)).toList 0 _ hHeld.2.2.2.2); generalize wq.setCells gy 0 (bitsA (B % MM)).toList = wn at *)
          refine hK.out _ _ ?hSr1_55_7 (fun hHeld2 => ?_)
          case hSr1_55_7 => (exact ⟨s0, s1, s2, s3, s4⟩)
          clear hK K hHeld
          have hHeld := hHeld2
          clear hHeld2
          rename World => wq
          (try simp only [Act.put, List.setIfInBounds_toArray, List.set_cons_zero, List.set_cons_succ])
          refine wpAnyH_done (by kernel_rfl) ?_ _
          (go_wp2_with fail; go_meet; exact ⟨_, _, rfl, rfl, Rx, Ry, (by first | exact hne | exact hne.symm), mx, my, hHeld.2.2.2.2⟩)
      refine AllReadyH.cons (o := { dst := some 6, op := Go.Op.alloc 55, type := 0, pos := _, after := #[], guard := none }) rfl (fun K hK => ?_) AllReadyH.nil
      · ((rw [if_pos (by rfl)]); (with_reducible refine wp_alloc_run 55 z128 ?_ z128_zero z128_ne ?_); rfl; (have lx : w.heap.size + 1 < wq.heap.size := World.block_lt_of_cell? _ _ hHeld.2.2.1); (have mx : W0.heap.size ≤ wq.heap.size := hHeld.2.2.2.2.size); (try have hne := Nat.ne_of_lt Ry.lt); (have Rx := Row.new wq z128 55); (have hb : Below wq.heap.size wq (wq.alloc (.cells z128 55)) := (Below.refl _ _).alloc (Nat.le_refl _) _); (have s0 := cell_later hb hHeld.1); (have s1 := cell_later hb hHeld.2.1); (have s2 := cell_later hb hHeld.2.2.1); (have s3 := cell_later hb hHeld.2.2.2.1); (have s4 := below_step hHeld.2.2.2.2 hb); (try replace Ry := Ry.later hb); clear hb; generalize wq.alloc (.cells z128 55) = wn at *; generalize wq.heap.size = gx at *)
        refine hK.out _ _ ?hSr1_56_4 (fun hHeld2 => ?_)
        case hSr1_56_4 => (exact ⟨s0, s1, s2, s3, s4⟩)
        clear hK K hHeld
        have hHeld := hHeld2
        clear hHeld2
        rename World => wq
        (try simp only [Act.put, List.setIfInBounds_toArray, List.set_cons_zero, List.set_cons_succ])
        refine wpAnyH_ready (rs := [1]) (by kernel_rfl) (by simp) ?_
        refine AllReadyH.cons (o := { dst := some 13, op := Go.Op.call { callee := Go.Callee.value (Go.Operand.func 33), args := #[Go.Operand.tmp 12], argTypes := #[34] }, type := 55, pos := _, after := #[{ on := 0, ground := Go.Ground.data }], guard := none }) rfl (fun K hK => ?_) AllReadyH.nil
        go_simp
        ((refine (bits_h _ _).mono ?_); (rintro e wn ⟨rfl, hb⟩); (try replace Rx := Rx.later hb); (try replace Ry := Ry.later hb))
        go_wp2_with fail
        refine hK.out _ _ ?hSr1_57_1 (fun hHeld2 => ?_)
        case hSr1_57_1 => (first | exact ⟨a0, a1, b0, b1, Below.drew (Below.refl _ _)⟩ | exact ⟨cell_later hb hHeld.1, cell_later hb hHeld.2.1, cell_later hb hHeld.2.2.1, cell_later hb hHeld.2.2.2.1, below_step hHeld.2.2.2.2 hb⟩)
        clear hK K hHeld
        have hHeld := hHeld2
        clear hHeld2
        rename World => wq
        (try simp only [Act.put, List.setIfInBounds_toArray, List.set_cons_zero, List.set_cons_succ])
        refine wpAnyH_ready (rs := [3]) (by kernel_rfl) (by simp) ?_
        refine AllReadyH.cons (o := { dst := some 15, op := Go.Op.call { callee := Go.Callee.value (Go.Operand.func 33), args := #[Go.Operand.tmp 14], argTypes := #[34] }, type := 55, pos := _, after := #[{ on := 2, ground := Go.Ground.data }, { on := 1, ground := Go.Ground.chain }], guard := none }) rfl (fun K hK => ?_) AllReadyH.nil
        go_simp
        ((refine (bits_h _ _).mono ?_); (rintro e wn ⟨rfl, hb⟩); (try replace Rx := Rx.later hb); (try replace Ry := Ry.later hb))
        go_wp2_with fail
        refine hK.out _ _ ?hSr1_58_3 (fun hHeld2 => ?_)
        case hSr1_58_3 => (first | exact ⟨a0, a1, b0, b1, Below.drew (Below.refl _ _)⟩ | exact ⟨cell_later hb hHeld.1, cell_later hb hHeld.2.1, cell_later hb hHeld.2.2.1, cell_later hb hHeld.2.2.2.1, below_step hHeld.2.2.2.2 hb⟩)
        clear hK K hHeld
        have hHeld := hHeld2
        clear hHeld2
        rename World => wq
        (try simp only [Act.put, List.setIfInBounds_toArray, List.set_cons_zero, List.set_cons_succ])
        refine wpAnyH_ready (rs := [6]) (by kernel_rfl) (by simp) ?_
        refine AllReadyH.cons (o := { dst := none, op := Go.Op.store 55 (Go.Operand.tmp 6) (Go.Operand.tmp 13), type := 0, pos := _, after := #[{ on := 4, ground := Go.Ground.data }, { on := 1, ground := Go.Ground.data }, { on := 3, ground := Go.Ground.chain }, { on := 0, ground := Go.Ground.phase }, { on := 1, ground := Go.Ground.phase }, { on := 2, ground := Go.Ground.textOnly Go.Departure.lateStores }, { on := 3, ground := Go.Ground.textOnly Go.Departure.lateStoresUnsure }, { on := 4, ground := Go.Ground.phase }, { on := 5, ground := Go.Ground.phase }], guard := none }) rfl (fun K hK => ?_) AllReadyH.nil
        ((have hth := Rx.there (bitsA (A % MM)).size (by rw [bitsA_size, zeroA_size]; exact Nat.le_refl _)); (have hinf := bitsA_info (A % MM)); (have hone := bitsA_one (A % MM)); (rw [if_pos (by rfl)]); (with_reducible refine wp_store_mid 55 (.tmp 6) (.tmp 13) ?_ gx 0 (bitsA (A % MM)) ?_ ?_ hth hinf hone ?_); rfl; rfl; rfl; clear hth hinf hone; (have Rxn := Rx.setAll (bitsA (A % MM)) (by rw [bitsA_size, zeroA_size])); clear Rx; (first | (replace Ry := Row.setCells_far (g := gx) (o := 0) (vs := (bitsA (A % MM)).toList) Ry hne) | (replace Ry := Row.setCells_far (g := gx) (o := 0) (vs := (bitsA (A % MM)).toList) Ry hne.symm)); (have Rx := Rxn); clear Rxn; (have s0 := cell_setCells_far (g := gx) (o := 0) (vs := (bitsA (A % MM)).toList) hHeld.1 (by simp; omega)); (have s1 := cell_setCells_far (g := gx) (o := 0) (vs := (bitsA (A % MM)).toList) hHeld.2.1 (by simp; omega)); (have s2 := cell_setCells_far (g := gx) (o := 0) (vs := (bitsA (A % MM)).toList) hHeld.2.2.1 (by simp; omega)); (have s3 := cell_setCells_far (g := gx) (o := 0) (vs := (bitsA (A % MM)).toList) hHeld.2.2.2.1 (by simp; omega)); (have s4 := below_setCells mx (bitsA (A % MM)).toList 0 _ hHeld.2.2.2.2); generalize wq.setCells gx 0 (bitsA (A % MM)).toList = wn at *)
        refine hK.out _ _ ?hSr1_59_6 (fun hHeld2 => ?_)
        case hSr1_59_6 => (exact ⟨s0, s1, s2, s3, s4⟩)
        clear hK K hHeld
        have hHeld := hHeld2
        clear hHeld2
        rename World => wq
        (try simp only [Act.put, List.setIfInBounds_toArray, List.set_cons_zero, List.set_cons_succ])
        refine wpAnyH_ready (rs := [7]) (by kernel_rfl) (by simp) ?_
        refine AllReadyH.cons (o := { dst := none, op := Go.Op.store 55 (Go.Operand.tmp 7) (Go.Operand.tmp 15), type := 0, pos := _, after := #[{ on := 5, ground := Go.Ground.data }, { on := 3, ground := Go.Ground.data }, { on := 6, ground := Go.Ground.chain }, { on := 0, ground := Go.Ground.phase }, { on := 1, ground := Go.Ground.phase }, { on := 2, ground := Go.Ground.phase }, { on := 3, ground := Go.Ground.phase }, { on := 4, ground := Go.Ground.phase }, { on := 5, ground := Go.Ground.phase }, { on := 6, ground := Go.Ground.phase }], guard := none }) rfl (fun K hK => ?_) AllReadyH.nil
        ((have hth := Ry.there (bitsA (B % MM)).size (by rw [bitsA_size, zeroA_size]; exact Nat.le_refl _)); (have hinf := bitsA_info (B % MM)); (have hone := bitsA_one (B % MM)); (rw [if_pos (by rfl)]); (with_reducible refine wp_store_mid 55 (.tmp 7) (.tmp 15) ?_ gy 0 (bitsA (B % MM)) ?_ ?_ hth hinf hone ?_); rfl; rfl; rfl; clear hth hinf hone; (have Ryn := Ry.setAll (bitsA (B % MM)) (by rw [bitsA_size, zeroA_size])); clear Ry; (first | (replace Rx := Row.setCells_far (g := gy) (o := 0) (vs := (bitsA (B % MM)).toList) Rx hne) | (replace Rx := Row.setCells_far (g := gy) (o := 0) (vs := (bitsA (B % MM)).toList) Rx hne.symm)); (have Ry := Ryn); clear Ryn; (have s0 := cell_setCells_far (g := gy) (o := 0) (vs := (bitsA (B % MM)).toList) hHeld.1 (by simp; omega)); (have s1 := cell_setCells_far (g := gy) (o := 0) (vs := (bitsA (B % MM)).toList) hHeld.2.1 (by simp; omega)); (have s2 := cell_setCells_far (g := gy) (o := 0) (vs := (bitsA (B % MM)).toList) hHeld.2.2.1 (by simp; omega)); (have s3 := cell_setCells_far (g := gy) (o := 0) (vs := (bitsA (B % MM)).toList) hHeld.2.2.2.1 (by simp; omega)); (have s4 := below_setCells my (bitsA (B % MM)).toList 0 _ hHeld.2.2.2.2); generalize wq.setCells gy 0 (bitsA (B % MM)).toList = wn at *)
        refine hK.out _ _ ?hSr1_60_7 (fun hHeld2 => ?_)
        case hSr1_60_7 => (exact ⟨s0, s1, s2, s3, s4⟩)
        clear hK K hHeld
        have hHeld := hHeld2
        clear hHeld2
        rename World => wq
        (try simp only [Act.put, List.setIfInBounds_toArray, List.set_cons_zero, List.set_cons_succ])
        refine wpAnyH_done (by kernel_rfl) ?_ _
        (go_wp2_with fail; go_meet; exact ⟨_, _, rfl, rfl, Rx, Ry, (by first | exact hne | exact hne.symm), mx, my, hHeld.2.2.2.2⟩)
  case rest =>
    obtain ⟨gx, gy, rfl, rfl, Rx, Ry, hne, hgx, hgy, hbc⟩ := hcut
    replace Rr := Rr.later hbc
    go_wp2_with (first | (with_reducible refine wpList_alloc128 ?_) | fail)
    have Ro := Row.new wc z128 55
    rw [outK_zero (A % MM + B % MM)] at Ro
    have nx : gx ≠ wc.heap.size := Nat.ne_of_lt Rx.lt
    have ny : gy ≠ wc.heap.size := Nat.ne_of_lt Ry.lt
    have nr : w.heap.size + 1 + 1 ≠ wc.heap.size := Nat.ne_of_lt Rr.lt
    have hgo : w.heap.size ≤ wc.heap.size := Nat.le_trans hbW.size hbc.size
    replace Rx := Rx.alloc (.cells z128 55)
    replace Ry := Ry.alloc (.cells z128 55)
    replace Rr := Rr.alloc (.cells z128 55)
    have hbd : Below w.heap.size w (wc.alloc (.cells z128 55)) := (below_step hbW hbc).alloc hgo _
    rw [← outK_zero (A % MM + B % MM)] at Ro
    generalize wc.alloc (.cells z128 55) = wd at *
    generalize wc.heap.size = go at *
    rw [outK_zero (A % MM + B % MM)] at Ro
    clear a0 a1 b0 b1 hbc hgx hgy hbW
    go_loopw [9, 10] (fun c i wr => ∃ k : Nat, k ≤ 128 ∧ i = .int .i64 (127 - (k : Int)) ∧ c = .int .u64 (carryK (A % MM) (B % MM) k) ∧ Row wr gx (bitsA (A % MM)) 55 ∧ Row wr gy (bitsA (B % MM)) 55 ∧ Row wr go (outK (A % MM + B % MM) k) 55 ∧ Row wr (w.heap.size + 1 + 1) #[.int .u64 0, .int .u64 0] 34 ∧ Below w.heap.size w wr) (fun _ i _ => (intOf i + 1).toNat)
    case atStart => exact ⟨0, by omega, rfl, by rw [carry_zero], Rx, Ry, Ro, Rr, hbd⟩
    case round =>
      clear Rx Ry Ro Rr hbd
      obtain ⟨k, hk, rfl, rfl, Rx, Ry, Ro, Rr, hbd⟩ := hrel
      by_cases hlt : k < 128
      · have hkb : decide ((0 : Int) ≤ 127 - (k : Int)) = true := by simp; omega
        have i1 : (127 - (k : Int)).toNat = 127 - k := by omega
        have cx := (Rx.cell (127 - k)).trans (bitsA_get _ (127 - k) (by omega))
        have cy := (Ry.cell (127 - k)).trans (bitsA_get _ (127 - k) (by omega))
        have co := cell_at Ro (127 - k) (by rw [outK_size]; omega)
        have fo := Ro.frozen (127 - k)
        generalize (outK (A % MM + B % MM) k)[127 - k]'(by rw [outK_size]; omega) = vo at co
        have b3 : (127 - (k : Int)) < 128 := by omega
        have b4 : (0 : Int) ≤ 127 - (k : Int) := by omega
        have hX := bitF_01 (A % MM) (127 - k)
        have hY := bitF_01 (B % MM) (127 - k)
        have hC := carry_range (A % MM) (B % MM) k
        have HB := Lib.hid (bit_sum (A % MM) (B % MM) k hlt)
        have HC := Lib.hid (carry_bit (A % MM) (B % MM) k hlt)
        generalize bitF (A % MM) (127 - k) = X at *
        generalize bitF (B % MM) (127 - k) = Y at *
        generalize carryK (A % MM) (B % MM) k = C at *
        obtain ⟨X0, X1⟩ := hX; obtain ⟨Y0, Y1⟩ := hY; obtain ⟨C0, C1⟩ := hC
        go_wp2
        have e1 : IntKind.u64.wrap (X + Y) = X + Y := by rw [IntKind.wrap_u64]; omega
        have e2 : IntKind.u64.wrap (X + Y + C) = X + Y + C := by rw [IntKind.wrap_u64]; omega
        go_region
        clear e1 e2
        go_wp2
        refine ⟨⟨k + 1, by omega, by go_num, by rw [HC.out], ?_, ?_, ?_, ?_, ?_⟩, by simp [intOf]; omega⟩
        · exact (Rx.set_far _ _ nx).drew
        · exact (Ry.set_far _ _ ny).drew
        · have := (Ro.set (127 - k) (.int .u64 ((X + Y + C) % 2))).drew
          rw [HB.out, outK_step _ k hlt] at this
          simpa [HB.out] using this
        · exact (Rr.set_far _ _ nr).drew
        · exact (hbd.setCell hgo _).drew
      · obtain rfl : k = 128 := by omega
        have Rp := Ro
        rw [outK_all] at Rp
        have hinf : (Try.prog.info? 55).map (·.size) = some (arrV (bitF (A % MM + B % MM))).size := by rw [arrV_size]; kernel_rfl
        have hce := carry_end A B
        clear Ro
        go_wp2_with (first
          | (refine wpList_load_row rfl 55 (.tmp 8) rfl go rfl 55 (arrV (bitF (A % MM + B % MM))) (0, 0) _ Rp Try.underlying55 rfl hinf ?_)
          | fail)
        refine (refOf_h _ _).mono ?_; rintro e w2 ⟨rfl, hb⟩
        replace Rr := Rr.later hb
        have d0 := Rr.cell 0
        have d1 := Rr.cell 1
        simp at d0 d1
        have f0 := Rr.frozen 0
        have f1 := Rr.frozen 1
        have eh := hi_addmod A B
        have el := lo_addmod A B
        go_wp2
        refine bodyPost_ret (v := .tuple #[.agg #[.int .u64 (hi (A + B)), .int .u64 (lo (A + B))], .bool (addB (A % MM) (B % MM))]) (by simp [results, Try.results23, go_sem, d0, d1, hce]) rfl ⟨rfl, ?_⟩
        exact Below.setCell (Below.setCell (below_step hbd hb) (by simp <;> omega) _) (by simp <;> omega) _
end Go.Proofs.Ythohpcbfohlmhaa
