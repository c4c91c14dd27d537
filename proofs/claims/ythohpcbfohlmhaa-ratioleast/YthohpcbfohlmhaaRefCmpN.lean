/- RefCmpN: what the theorem needs of these texts. No conditions beyond those that are written. -/
import Derived.Test.YthohpcbfohlmhaaJRefMulN
namespace Go.Proofs.Ythohpcbfohlmhaa
set_option linter.unusedVariables false
set_option linter.unusedSimpArgs false
open Go.RowKit
set_option maxRecDepth 100000 in
set_option maxHeartbeats 1600000 in
theorem refCmp_t (A B : Int) (w : World) :
    Calls Try.prog 31 #[.agg #[.int .u64 (hi A), .int .u64 (lo A)], .agg #[.int .u64 (hi B), .int .u64 (lo B)]] w fun e w' => e = .returned (.int .i64 (cmpI (A % MM) (B % MM))) ∧ Below w.heap.size w w' := by
  go_enter Try.func31, Try.ntmps31
  go_wp2
  have hbW : Below w.heap.size w ((w.alloc (.cells #[.int .u64 (hi A), .int .u64 (lo A)] 34)).alloc (.cells #[.int .u64 (hi B), .int .u64 (lo B)] 34)) := (by repeat (first | exact Below.refl _ _ | assumption | (with_reducible refine Below.setCell ?_ ?h _; case h => first | omega | (simp; done) | (simp; omega)) | (with_reducible refine Below.alloc ?_ ?h _; case h => first | omega | (simp; done) | (simp; omega)) | (with_reducible refine Below.drew ?_) | (with_reducible refine Below.trans ?_ (hb4.mono ?h); case h => first | omega | (simp; done) | (simp; omega)) | (with_reducible refine Below.trans ?_ (hb3.mono ?h); case h => first | omega | (simp; done) | (simp; omega)) | (with_reducible refine Below.trans ?_ (hb2.mono ?h); case h => first | omega | (simp; done) | (simp; omega)) | (with_reducible refine Below.trans ?_ (hb.mono ?h); case h => first | omega | (simp; done) | (simp; omega)) | (with_reducible refine Below.trans ?_ (hb0.mono ?h); case h => first | omega | (simp; done) | (simp; omega))))
  have a0 : ((w.alloc (.cells #[.int .u64 (hi A), .int .u64 (lo A)] 34)).alloc (.cells #[.int .u64 (hi B), .int .u64 (lo B)] 34)).cell? ⟨w.heap.size, 0, none⟩ = some (.int .u64 (hi A)) := by simp [go_sem]
  have a1 : ((w.alloc (.cells #[.int .u64 (hi A), .int .u64 (lo A)] 34)).alloc (.cells #[.int .u64 (hi B), .int .u64 (lo B)] 34)).cell? ⟨w.heap.size, 1, none⟩ = some (.int .u64 (lo A)) := by simp [go_sem]
  have b0 : ((w.alloc (.cells #[.int .u64 (hi A), .int .u64 (lo A)] 34)).alloc (.cells #[.int .u64 (hi B), .int .u64 (lo B)] 34)).cell? ⟨w.heap.size + 1, 0, none⟩ = some (.int .u64 (hi B)) := by simp [go_sem]
  have b1 : ((w.alloc (.cells #[.int .u64 (hi A), .int .u64 (lo A)] 34)).alloc (.cells #[.int .u64 (hi B), .int .u64 (lo B)] 34)).cell? ⟨w.heap.size + 1, 1, none⟩ = some (.int .u64 (lo B)) := by simp [go_sem]
  generalize ((w.alloc (.cells #[.int .u64 (hi A), .int .u64 (lo A)] 34)).alloc (.cells #[.int .u64 (hi B), .int .u64 (lo B)] 34)) = W0 at *
  go_cut [5, 6] (fun x y wx => ∃ gx gy : Nat, x = .pointer (some ⟨gx, 0, none⟩) ∧ y = .pointer (some ⟨gy, 0, none⟩) ∧ Row wx gx (bitsA (A % MM)) 55 ∧ Row wx gy (bitsA (B % MM)) 55 ∧ gx ≠ gy ∧ W0.heap.size ≤ gx ∧ W0.heap.size ≤ gy ∧ Below W0.heap.size W0 wx)
  case first =>
    refine region_any (S := (fun w' => w'.cell? ⟨w.heap.size, 0, none⟩ = some (.int .u64 (hi A)) ∧ w'.cell? ⟨w.heap.size, 1, none⟩ = some (.int .u64 (lo A)) ∧ w'.cell? ⟨w.heap.size + 1, 0, none⟩ = some (.int .u64 (hi B)) ∧ w'.cell? ⟨w.heap.size + 1, 1, none⟩ = some (.int .u64 (lo B)) ∧ Below W0.heap.size W0 w')) (by kernel_rfl) ?hSr1_ (fun wq hHeld => ?_)
    case hSr1_ => (first | exact ⟨a0, a1, b0, b1, Below.drew (Below.refl _ _)⟩ | exact ⟨cell_later hb hHeld.1, cell_later hb hHeld.2.1, cell_later hb hHeld.2.2.1, cell_later hb hHeld.2.2.2.1, below_step hHeld.2.2.2.2 hb⟩)
    refine wpAnyH_take (i := 0) (oi := { dst := some 8, op := Go.Op.load 34 (Go.Operand.tmp 2), type := 34, pos := _, after := #[], guard := none }) (v := ?vr1_1_0) rfl (by kernel_rfl) (by kernel_rfl) (by kernel_rfl) (fun _ _ _ h => h) (Or.inl ⟨by rfl, ?yr1_1_0⟩) hHeld ?_
    case yr1_1_0 => ((intro w hSw; (try dsimp only at hSw); go_simp) <;> with_reducible rfl)
    (try simp only [Act.put, List.setIfInBounds_toArray, List.set_cons_zero, List.set_cons_succ])
    refine wpAnyH_take (i := 2) (oi := { dst := some 10, op := Go.Op.load 34 (Go.Operand.tmp 3), type := 34, pos := _, after := #[], guard := none }) (v := ?vr1_2_2) rfl (by kernel_rfl) (by kernel_rfl) (by kernel_rfl) (fun _ _ _ h => h) (Or.inl ⟨by rfl, ?yr1_2_2⟩) hHeld ?_
    case yr1_2_2 => ((intro w hSw; (try dsimp only at hSw); go_simp) <;> with_reducible rfl)
    (try simp only [Act.put, List.setIfInBounds_toArray, List.set_cons_zero, List.set_cons_succ])
    refine wpAnyH_ready (rs := [1, 4, 5]) (by kernel_rfl) (by simp) ?_
    refine AllReadyH.cons (o := { dst := some 9, op := Go.Op.call { callee := Go.Callee.value (Go.Operand.func 33), args := #[Go.Operand.tmp 8], argTypes := #[34] }, type := 55, pos := _, after := #[{ on := 0, ground := Go.Ground.data }], guard := none }) rfl (fun K hK => ?_) ?_
    · go_simp
      ((refine (bits_h _ _).mono ?_); (rintro e wn ⟨rfl, hb⟩); (try replace Rx := Rx.later hb); (try replace Ry := Ry.later hb))
      go_wp2_with fail
      refine hK.out _ _ ?hSr1_3_1 (fun hHeld2 => ?_)
      case hSr1_3_1 => (first | exact ⟨a0, a1, b0, b1, Below.drew (Below.refl _ _)⟩ | exact ⟨cell_later hb hHeld.1, cell_later hb hHeld.2.1, cell_later hb hHeld.2.2.1, cell_later hb hHeld.2.2.2.1, below_step hHeld.2.2.2.2 hb⟩)
      clear hK K hHeld
      have hHeld := hHeld2
      clear hHeld2
      rename World => wq
      (try simp only [Act.put, List.setIfInBounds_toArray, List.set_cons_zero, List.set_cons_succ])
      refine wpAnyH_ready (rs := [3, 4, 5]) (by kernel_rfl) (by simp) ?_
      refine AllReadyH.cons (o := { dst := some 11, op := Go.Op.call { callee := Go.Callee.value (Go.Operand.func 33), args := #[Go.Operand.tmp 10], argTypes := #[34] }, type := 55, pos := _, after := #[{ on := 2, ground := Go.Ground.data }, { on := 1, ground := Go.Ground.chain }], guard := none }) rfl (fun K hK => ?_) ?_
      · go_simp
        ((refine (bits_h _ _).mono ?_); (rintro e wn ⟨rfl, hb⟩); (try replace Rx := Rx.later hb); (try replace Ry := Ry.later hb))
        go_wp2_with fail
        refine hK.out _ _ ?hSr1_4_3 (fun hHeld2 => ?_)
        case hSr1_4_3 => (first | exact ⟨a0, a1, b0, b1, Below.drew (Below.refl _ _)⟩ | exact ⟨cell_later hb hHeld.1, cell_later hb hHeld.2.1, cell_later hb hHeld.2.2.1, cell_later hb hHeld.2.2.2.1, below_step hHeld.2.2.2.2 hb⟩)
        clear hK K hHeld
        have hHeld := hHeld2
        clear hHeld2
        rename World => wq
        (try simp only [Act.put, List.setIfInBounds_toArray, List.set_cons_zero, List.set_cons_succ])
        refine wpAnyH_ready (rs := [4, 5]) (by kernel_rfl) (by simp) ?_
        refine AllReadyH.cons (o := { dst := some 5, op := Go.Op.alloc 55, type := 0, pos := _, after := #[], guard := none }) rfl (fun K hK => ?_) ?_
        · ((rw [if_pos (by rfl)]); (with_reducible refine wp_alloc_run 55 z128 ?_ z128_zero z128_ne ?_); rfl; (have lx : w.heap.size + 1 < wq.heap.size := World.block_lt_of_cell? _ _ hHeld.2.2.1); (have mx : W0.heap.size ≤ wq.heap.size := hHeld.2.2.2.2.size); (try have hne := Nat.ne_of_lt Ry.lt); (have Rx := Row.new wq z128 55); (have hb : Below wq.heap.size wq (wq.alloc (.cells z128 55)) := (Below.refl _ _).alloc (Nat.le_refl _) _); (have s0 := cell_later hb hHeld.1); (have s1 := cell_later hb hHeld.2.1); (have s2 := cell_later hb hHeld.2.2.1); (have s3 := cell_later hb hHeld.2.2.2.1); (have s4 := below_step hHeld.2.2.2.2 hb); (try replace Ry := Ry.later hb); clear hb; generalize wq.alloc (.cells z128 55) = wn at *; generalize wq.heap.size = gx at *)
          refine hK.out _ _ ?hSr1_5_4 (fun hHeld2 => ?_)
          case hSr1_5_4 => (exact ⟨s0, s1, s2, s3, s4⟩)
          clear hK K hHeld
          have hHeld := hHeld2
          clear hHeld2
          rename World => wq
          (try simp only [Act.put, List.setIfInBounds_toArray, List.set_cons_zero, List.set_cons_succ])
          refine wpAnyH_ready (rs := [5]) (by kernel_rfl) (by simp) ?_
          refine AllReadyH.cons (o := { dst := some 6, op := Go.Op.alloc 55, type := 0, pos := _, after := #[], guard := none }) rfl (fun K hK => ?_) AllReadyH.nil
          ((rw [if_pos (by rfl)]); (with_reducible refine wp_alloc_run 55 z128 ?_ z128_zero z128_ne ?_); rfl; (have ly : w.heap.size + 1 < wq.heap.size := World.block_lt_of_cell? _ _ hHeld.2.2.1); (have my : W0.heap.size ≤ wq.heap.size := hHeld.2.2.2.2.size); (try have hne := Nat.ne_of_lt Rx.lt); (have Ry := Row.new wq z128 55); (have hb : Below wq.heap.size wq (wq.alloc (.cells z128 55)) := (Below.refl _ _).alloc (Nat.le_refl _) _); (have s0 := cell_later hb hHeld.1); (have s1 := cell_later hb hHeld.2.1); (have s2 := cell_later hb hHeld.2.2.1); (have s3 := cell_later hb hHeld.2.2.2.1); (have s4 := below_step hHeld.2.2.2.2 hb); (try replace Rx := Rx.later hb); clear hb; generalize wq.alloc (.cells z128 55) = wn at *; generalize wq.heap.size = gy at *)
          refine hK.out _ _ ?hSr1_6_5 (fun hHeld2 => ?_)
          case hSr1_6_5 => (exact ⟨s0, s1, s2, s3, s4⟩)
          clear hK K hHeld
          have hHeld := hHeld2
          clear hHeld2
          rename World => wq
          (try simp only [Act.put, List.setIfInBounds_toArray, List.set_cons_zero, List.set_cons_succ])
          refine wpAnyH_ready (rs := [6]) (by kernel_rfl) (by simp) ?_
          refine AllReadyH.cons (o := { dst := none, op := Go.Op.store 55 (Go.Operand.tmp 5) (Go.Operand.tmp 9), type := 0, pos := _, after := #[{ on := 4, ground := Go.Ground.data }, { on := 1, ground := Go.Ground.data }, { on := 3, ground := Go.Ground.chain }, { on := 0, ground := Go.Ground.phase }, { on := 1, ground := Go.Ground.phase }, { on := 2, ground := Go.Ground.textOnly Go.Departure.lateStores }, { on := 3, ground := Go.Ground.textOnly Go.Departure.lateStoresUnsure }, { on := 4, ground := Go.Ground.phase }, { on := 5, ground := Go.Ground.phase }], guard := none }) rfl (fun K hK => ?_) AllReadyH.nil
          ((have hth := Rx.there (bitsA (A % MM)).size (by rw [bitsA_size, zeroA_size]; exact Nat.le_refl _)); (have hinf := bitsA_info (A % MM)); (have hone := bitsA_one (A % MM)); (rw [if_pos (by rfl)]); (with_reducible refine wp_store_mid 55 (.tmp 5) (.tmp 9) ?_ gx 0 (bitsA (A % MM)) ?_ ?_ hth hinf hone ?_); rfl; rfl; rfl; clear hth hinf hone; (have Rxn := Rx.setAll (bitsA (A % MM)) (by rw [bitsA_size, zeroA_size])); clear Rx; (first | (replace Ry := Row.setCells_far (g := gx) (o := 0) (vs := (bitsA (A % MM)).toList) Ry hne) | (replace Ry := Row.setCells_far (g := gx) (o := 0) (vs := (bitsA (A % MM)).toList) Ry hne.symm)); (have Rx := Rxn); clear Rxn; (have s0 := cell_setCells_far (g := gx) (o := 0) (vs := (bitsA (A % MM)).toList) hHeld.1 (by simp; omega)); (have s1 := cell_setCells_far (g := gx) (o := 0) (vs := (bitsA (A % MM)).toList) hHeld.2.1 (by simp; omega)); (have s2 := cell_setCells_far (g := gx) (o := 0) (vs := (bitsA (A % MM)).toList) hHeld.2.2.1 (by simp; omega)); (have s3 := cell_setCells_far (g := gx) (o := 0) (vs := (bitsA (A % MM)).toList) hHeld.2.2.2.1 (by simp; omega)); (have s4 := below_setCells mx (bitsA (A % MM)).toList 0 _ hHeld.2.2.2.2); generalize wq.setCells gx 0 (bitsA (A % MM)).toList = wn at *)
          refine hK.out _ _ ?hSr1_7_6 (fun hHeld2 => ?_)
          case hSr1_7_6 => (exact ⟨s0, s1, s2, s3, s4⟩)
          clear hK K hHeld
          have hHeld := hHeld2
          clear hHeld2
          rename World => wq
          (try simp only [Act.put, List.setIfInBounds_toArray, List.set_cons_zero, List.set_cons_succ])
          refine wpAnyH_ready (rs := [7]) (by kernel_rfl) (by simp) ?_
          refine AllReadyH.cons (o := { dst := none, op := Go.Op.store 55 (Go.Operand.tmp 6) (Go.Operand.tmp 11), type := 0, pos := _, after := #[{ on := 5, ground := Go.Ground.data }, { on := 3, ground := Go.Ground.data }, { on := 6, ground := Go.Ground.chain }, { on := 0, ground := Go.Ground.phase }, { on := 1, ground := Go.Ground.phase }, { on := 2, ground := Go.Ground.phase }, { on := 3, ground := Go.Ground.phase }, { on := 4, ground := Go.Ground.phase }, { on := 5, ground := Go.Ground.phase }, { on := 6, ground := Go.Ground.phase }], guard := none }) rfl (fun K hK => ?_) AllReadyH.nil
          ((have hth := Ry.there (bitsA (B % MM)).size (by rw [bitsA_size, zeroA_size]; exact Nat.le_refl _)); (have hinf := bitsA_info (B % MM)); (have hone := bitsA_one (B % MM)); (rw [if_pos (by rfl)]); (with_reducible refine wp_store_mid 55 (.tmp 6) (.tmp 11) ?_ gy 0 (bitsA (B % MM)) ?_ ?_ hth hinf hone ?_); rfl; rfl; rfl; clear hth hinf hone; (have Ryn := Ry.setAll (bitsA (B % MM)) (by rw [bitsA_size, zeroA_size])); clear Ry; (first | (replace Rx := Row.setCells_far (g := gy) (o := 0) (vs := (bitsA (B % MM)).toList) Rx hne) | (replace Rx := Row.setCells_far (g := gy) (o := 0) (vs := (bitsA (B % MM)).toList) Rx hne.symm)); (have Ry := Ryn); clear Ryn; (have s0 := cell_setCells_far (g := gy) (o := 0) (vs := (bitsA (B % MM)).toList) hHeld.1 (by simp; omega)); (have s1 := cell_setCells_far (g := gy) (o := 0) (vs := (bitsA (B % MM)).toList) hHeld.2.1 (by simp; omega)); (have s2 := cell_setCells_far (g := gy) (o := 0) (vs := (bitsA (B % MM)).toList) hHeld.2.2.1 (by simp; omega)); (have s3 := cell_setCells_far (g := gy) (o := 0) (vs := (bitsA (B % MM)).toList) hHeld.2.2.2.1 (by simp; omega)); (have s4 := below_setCells my (bitsA (B % MM)).toList 0 _ hHeld.2.2.2.2); generalize wq.setCells gy 0 (bitsA (B % MM)).toList = wn at *)
          refine hK.out _ _ ?hSr1_8_7 (fun hHeld2 => ?_)
          case hSr1_8_7 => (exact ⟨s0, s1, s2, s3, s4⟩)
          clear hK K hHeld
          have hHeld := hHeld2
          clear hHeld2
          rename World => wq
          (try simp only [Act.put, List.setIfInBounds_toArray, List.set_cons_zero, List.set_cons_succ])
          refine wpAnyH_done (by kernel_rfl) ?_ _
          (go_wp2_with fail; go_meet; exact ⟨_, _, rfl, rfl, Rx, Ry, (by first | exact hne | exact hne.symm), mx, my, hHeld.2.2.2.2⟩)
        refine AllReadyH.cons (o := { dst := some 6, op := Go.Op.alloc 55, type := 0, pos := _, after := #[], guard := none }) rfl (fun K hK => ?_) AllReadyH.nil
        · ((rw [if_pos (by rfl)]); (with_reducible refine wp_alloc_run 55 z128 ?_ z128_zero z128_ne ?_); rfl; (have ly : w.heap.size + 1 < wq.heap.size := World.block_lt_of_cell? _ _ hHeld.2.2.1); (have my : W0.heap.size ≤ wq.heap.size := hHeld.2.2.2.2.size); (try have hne := Nat.ne_of_lt Rx.lt); (have Ry := Row.new wq z128 55); (have hb : Below wq.heap.size wq (wq.alloc (.cells z128 55)) := (Below.refl _ _).alloc (Nat.le_refl _) _); (have s0 := cell_later hb hHeld.1); (have s1 := cell_later hb hHeld.2.1); (have s2 := cell_later hb hHeld.2.2.1); (have s3 := cell_later hb hHeld.2.2.2.1); (have s4 := below_step hHeld.2.2.2.2 hb); (try replace Rx := Rx.later hb); clear hb; generalize wq.alloc (.cells z128 55) = wn at *; generalize wq.heap.size = gy at *)
          refine hK.out _ _ ?hSr1_9_5 (fun hHeld2 => ?_)
          case hSr1_9_5 => (exact ⟨s0, s1, s2, s3, s4⟩)
          clear hK K hHeld
          have hHeld := hHeld2
          clear hHeld2
          rename World => wq
          (try simp only [Act.put, List.setIfInBounds_toArray, List.set_cons_zero, List.set_cons_succ])
          refine wpAnyH_ready (rs := [4]) (by kernel_rfl) (by simp) ?_
          refine AllReadyH.cons (o := { dst := some 5, op := Go.Op.alloc 55, type := 0, pos := _, after := #[], guard := none }) rfl (fun K hK => ?_) AllReadyH.nil
          ((rw [if_pos (by rfl)]); (with_reducible refine wp_alloc_run 55 z128 ?_ z128_zero z128_ne ?_); rfl; (have lx : w.heap.size + 1 < wq.heap.size := World.block_lt_of_cell? _ _ hHeld.2.2.1); (have mx : W0.heap.size ≤ wq.heap.size := hHeld.2.2.2.2.size); (try have hne := Nat.ne_of_lt Ry.lt); (have Rx := Row.new wq z128 55); (have hb : Below wq.heap.size wq (wq.alloc (.cells z128 55)) := (Below.refl _ _).alloc (Nat.le_refl _) _); (have s0 := cell_later hb hHeld.1); (have s1 := cell_later hb hHeld.2.1); (have s2 := cell_later hb hHeld.2.2.1); (have s3 := cell_later hb hHeld.2.2.2.1); (have s4 := below_step hHeld.2.2.2.2 hb); (try replace Ry := Ry.later hb); clear hb; generalize wq.alloc (.cells z128 55) = wn at *; generalize wq.heap.size = gx at *)
          refine hK.out _ _ ?hSr1_10_4 (fun hHeld2 => ?_)
          case hSr1_10_4 => (exact ⟨s0, s1, s2, s3, s4⟩)
          clear hK K hHeld
          have hHeld := hHeld2
          clear hHeld2
          rename World => wq
          (try simp only [Act.put, List.setIfInBounds_toArray, List.set_cons_zero, List.set_cons_succ])
          refine wpAnyH_ready (rs := [6]) (by kernel_rfl) (by simp) ?_
          refine AllReadyH.cons (o := { dst := none, op := Go.Op.store 55 (Go.Operand.tmp 5) (Go.Operand.tmp 9), type := 0, pos := _, after := #[{ on := 4, ground := Go.Ground.data }, { on := 1, ground := Go.Ground.data }, { on := 3, ground := Go.Ground.chain }, { on := 0, ground := Go.Ground.phase }, { on := 1, ground := Go.Ground.phase }, { on := 2, ground := Go.Ground.textOnly Go.Departure.lateStores }, { on := 3, ground := Go.Ground.textOnly Go.Departure.lateStoresUnsure }, { on := 4, ground := Go.Ground.phase }, { on := 5, ground := Go.Ground.phase }], guard := none }) rfl (fun K hK => ?_) AllReadyH.nil
          ((have hth := Rx.there (bitsA (A % MM)).size (by rw [bitsA_size, zeroA_size]; exact Nat.le_refl _)); (have hinf := bitsA_info (A % MM)); (have hone := bitsA_one (A % MM)); (rw [if_pos (by rfl)]); (with_reducible refine wp_store_mid 55 (.tmp 5) (.tmp 9) ?_ gx 0 (bitsA (A % MM)) ?_ ?_ hth hinf hone ?_); rfl; rfl; rfl; clear hth hinf hone; (have Rxn := Rx.setAll (bitsA (A % MM)) (by rw [bitsA_size, zeroA_size])); clear Rx; (first | (replace Ry := Row.setCells_far (g := gx) (o := 0) (vs := (bitsA (A % MM)).toList) Ry hne) | (replace Ry := Row.setCells_far (g := gx) (o := 0) (vs := (bitsA (A % MM)).toList) Ry hne.symm)); (have Rx := Rxn); clear Rxn; (have s0 := cell_setCells_far (g := gx) (o := 0) (vs := (bitsA (A % MM)).toList) hHeld.1 (by simp; omega)); (have s1 := cell_setCells_far (g := gx) (o := 0) (vs := (bitsA (A % MM)).toList) hHeld.2.1 (by simp; omega)); (have s2 := cell_setCells_far (g := gx) (o := 0) (vs := (bitsA (A % MM)).toList) hHeld.2.2.1 (by simp; omega)); (have s3 := cell_setCells_far (g := gx) (o := 0) (vs := (bitsA (A % MM)).toList) hHeld.2.2.2.1 (by simp; omega)); (have s4 := below_setCells mx (bitsA (A % MM)).toList 0 _ hHeld.2.2.2.2); generalize wq.setCells gx 0 (bitsA (A % MM)).toList = wn at *)
          refine hK.out _ _ ?hSr1_11_6 (fun hHeld2 => ?_)
          case hSr1_11_6 => (exact ⟨s0, s1, s2, s3, s4⟩)
          clear hK K hHeld
          have hHeld := hHeld2
          clear hHeld2
          rename World => wq
          (try simp only [Act.put, List.setIfInBounds_toArray, List.set_cons_zero, List.set_cons_succ])
          refine wpAnyH_ready (rs := [7]) (by kernel_rfl) (by simp) ?_
          refine AllReadyH.cons (o := { dst := none, op := Go.Op.store 55 (Go.Operand.tmp 6) (Go.Operand.tmp 11), type := 0, pos := _, after := #[{ on := 5, ground := Go.Ground.data }, { on := 3, ground := Go.Ground.data }, { on := 6, ground := Go.Ground.chain }, { on := 0, ground := Go.Ground.phase }, { on := 1, ground := Go.Ground.phase }, { on := 2, ground := Go.Ground.phase }, { on := 3, ground := Go.Ground.phase }, { on := 4, ground := Go.Ground.phase }, { on := 5, ground := Go.Ground.phase }, { on := 6, ground := Go.Ground.phase }], guard := none }) rfl (fun K hK => ?_) AllReadyH.nil
          ((have hth := Ry.there (bitsA (B % MM)).size (by rw [bitsA_size, zeroA_size]; exact Nat.le_refl _)); (have hinf := bitsA_info (B % MM)); (have hone := bitsA_one (B % MM)); (rw [if_pos (by rfl)]); (with_reducible refine wp_store_mid 55 (.tmp 6) (.tmp 11) ?_ gy 0 (bitsA (B % MM)) ?_ ?_ hth hinf hone ?_); rfl; rfl; rfl; clear hth hinf hone; (have Ryn := Ry.setAll (bitsA (B % MM)) (by rw [bitsA_size, zeroA_size])); clear Ry; (first | (replace Rx := Row.setCells_far (g := gy) (o := 0) (vs := (bitsA (B % MM)).toList) Rx hne) | (replace Rx := Row.setCells_far (g := gy) (o := 0) (vs := (bitsA (B % MM)).toList) Rx hne.symm)); (have Ry := Ryn); clear Ryn; (have s0 := cell_setCells_far (g := gy) (o := 0) (vs := (bitsA (B % MM)).toList) hHeld.1 (by simp; omega)); (have s1 := cell_setCells_far (g := gy) (o := 0) (vs := (bitsA (B % MM)).toList) hHeld.2.1 (by simp; omega)); (have s2 := cell_setCells_far (g := gy) (o := 0) (vs := (bitsA (B % MM)).toList) hHeld.2.2.1 (by simp; omega)); (have s3 := cell_setCells_far (g := gy) (o := 0) (vs := (bitsA (B % MM)).toList) hHeld.2.2.2.1 (by simp; omega)); (have s4 := below_setCells my (bitsA (B % MM)).toList 0 _ hHeld.2.2.2.2); generalize wq.setCells gy 0 (bitsA (B % MM)).toList = wn at *)
          refine hK.out _ _ ?hSr1_12_7 (fun hHeld2 => ?_)
          case hSr1_12_7 => (exact ⟨s0, s1, s2, s3, s4⟩)
          clear hK K hHeld
          have hHeld := hHeld2
          clear hHeld2
          rename World => wq
          (try simp only [Act.put, List.setIfInBounds_toArray, List.set_cons_zero, List.set_cons_succ])
          refine wpAnyH_done (by kernel_rfl) ?_ _
          (go_wp2_with fail; go_meet; exact ⟨_, _, rfl, rfl, Rx, Ry, (by first | exact hne | exact hne.symm), mx, my, hHeld.2.2.2.2⟩)
      refine AllReadyH.cons (o := { dst := some 5, op := Go.Op.alloc 55, type := 0, pos := _, after := #[], guard := none }) rfl (fun K hK => ?_) ?_
      · ((rw [if_pos (by rfl)]); (with_reducible refine wp_alloc_run 55 z128 ?_ z128_zero z128_ne ?_); rfl; (have lx : w.heap.size + 1 < wq.heap.size := World.block_lt_of_cell? _ _ hHeld.2.2.1); (have mx : W0.heap.size ≤ wq.heap.size := hHeld.2.2.2.2.size); (try have hne := Nat.ne_of_lt Ry.lt); (have Rx := Row.new wq z128 55); (have hb : Below wq.heap.size wq (wq.alloc (.cells z128 55)) := (Below.refl _ _).alloc (Nat.le_refl _) _); (have s0 := cell_later hb hHeld.1); (have s1 := cell_later hb hHeld.2.1); (have s2 := cell_later hb hHeld.2.2.1); (have s3 := cell_later hb hHeld.2.2.2.1); (have s4 := below_step hHeld.2.2.2.2 hb); (try replace Ry := Ry.later hb); clear hb; generalize wq.alloc (.cells z128 55) = wn at *; generalize wq.heap.size = gx at *)
        refine hK.out _ _ ?hSr1_13_4 (fun hHeld2 => ?_)
        case hSr1_13_4 => (exact ⟨s0, s1, s2, s3, s4⟩)
        clear hK K hHeld
        have hHeld := hHeld2
        clear hHeld2
        rename World => wq
        (try simp only [Act.put, List.setIfInBounds_toArray, List.set_cons_zero, List.set_cons_succ])
        refine wpAnyH_ready (rs := [3, 5]) (by kernel_rfl) (by simp) ?_
        refine AllReadyH.cons (o := { dst := some 11, op := Go.Op.call { callee := Go.Callee.value (Go.Operand.func 33), args := #[Go.Operand.tmp 10], argTypes := #[34] }, type := 55, pos := _, after := #[{ on := 2, ground := Go.Ground.data }, { on := 1, ground := Go.Ground.chain }], guard := none }) rfl (fun K hK => ?_) ?_
        · go_simp
          ((refine (bits_h _ _).mono ?_); (rintro e wn ⟨rfl, hb⟩); (try replace Rx := Rx.later hb); (try replace Ry := Ry.later hb))
          go_wp2_with fail
          refine hK.out _ _ ?hSr1_14_3 (fun hHeld2 => ?_)
          case hSr1_14_3 => (first | exact ⟨a0, a1, b0, b1, Below.drew (Below.refl _ _)⟩ | exact ⟨cell_later hb hHeld.1, cell_later hb hHeld.2.1, cell_later hb hHeld.2.2.1, cell_later hb hHeld.2.2.2.1, below_step hHeld.2.2.2.2 hb⟩)
          clear hK K hHeld
          have hHeld := hHeld2
          clear hHeld2
          rename World => wq
          (try simp only [Act.put, List.setIfInBounds_toArray, List.set_cons_zero, List.set_cons_succ])
          refine wpAnyH_ready (rs := [5]) (by kernel_rfl) (by simp) ?_
          refine AllReadyH.cons (o := { dst := some 6, op := Go.Op.alloc 55, type := 0, pos := _, after := #[], guard := none }) rfl (fun K hK => ?_) AllReadyH.nil
          ((rw [if_pos (by rfl)]); (with_reducible refine wp_alloc_run 55 z128 ?_ z128_zero z128_ne ?_); rfl; (have ly : w.heap.size + 1 < wq.heap.size := World.block_lt_of_cell? _ _ hHeld.2.2.1); (have my : W0.heap.size ≤ wq.heap.size := hHeld.2.2.2.2.size); (try have hne := Nat.ne_of_lt Rx.lt); (have Ry := Row.new wq z128 55); (have hb : Below wq.heap.size wq (wq.alloc (.cells z128 55)) := (Below.refl _ _).alloc (Nat.le_refl _) _); (have s0 := cell_later hb hHeld.1); (have s1 := cell_later hb hHeld.2.1); (have s2 := cell_later hb hHeld.2.2.1); (have s3 := cell_later hb hHeld.2.2.2.1); (have s4 := below_step hHeld.2.2.2.2 hb); (try replace Rx := Rx.later hb); clear hb; generalize wq.alloc (.cells z128 55) = wn at *; generalize wq.heap.size = gy at *)
          refine hK.out _ _ ?hSr1_15_5 (fun hHeld2 => ?_)
          case hSr1_15_5 => (exact ⟨s0, s1, s2, s3, s4⟩)
          clear hK K hHeld
          have hHeld := hHeld2
          clear hHeld2
          rename World => wq
          (try simp only [Act.put, List.setIfInBounds_toArray, List.set_cons_zero, List.set_cons_succ])
          refine wpAnyH_ready (rs := [6]) (by kernel_rfl) (by simp) ?_
          refine AllReadyH.cons (o := { dst := none, op := Go.Op.store 55 (Go.Operand.tmp 5) (Go.Operand.tmp 9), type := 0, pos := _, after := #[{ on := 4, ground := Go.Ground.data }, { on := 1, ground := Go.Ground.data }, { on := 3, ground := Go.Ground.chain }, { on := 0, ground := Go.Ground.phase }, { on := 1, ground := Go.Ground.phase }, { on := 2, ground := Go.Ground.textOnly Go.Departure.lateStores }, { on := 3, ground := Go.Ground.textOnly Go.Departure.lateStoresUnsure }, { on := 4, ground := Go.Ground.phase }, { on := 5, ground := Go.Ground.phase }], guard := none }) rfl (fun K hK => ?_) AllReadyH.nil
          ((have hth := Rx.there (bitsA (A % MM)).size (by rw [bitsA_size, zeroA_size]; exact Nat.le_refl _)); (have hinf := bitsA_info (A % MM)); (have hone := bitsA_one (A % MM)); (rw [if_pos (by rfl)]); (with_reducible refine wp_store_mid 55 (.tmp 5) (.tmp 9) ?_ gx 0 (bitsA (A % MM)) ?_ ?_ hth hinf hone ?_); rfl; rfl; rfl; clear hth hinf hone; (have Rxn := Rx.setAll (bitsA (A % MM)) (by rw [bitsA_size, zeroA_size])); clear Rx; (first | (replace Ry := Row.setCells_far (g := gx) (o := 0) (vs := (bitsA (A % MM)).toList) Ry hne) | (replace Ry := Row.setCells_far (g := gx) (o := 0) (vs := (bitsA (A % MM)).toList) Ry hne.symm)); (have Rx := Rxn); clear Rxn; (have s0 := cell_setCells_far (g := gx) (o := 0) (vs := (bitsA (A % MM)).toList) hHeld.1 (by simp; omega)); (have s1 := cell_setCells_far (g := gx) (o := 0) (vs := (bitsA (A % MM)).toList) hHeld.2.1 (by simp; omega)); (have s2 := cell_setCells_far (g := gx) (o := 0) (vs := (bitsA (A % MM)).toList) hHeld.2.2.1 (by simp; omega)); (have s3 := cell_setCells_far (g := gx) (o := 0) (vs := (bitsA (A % MM)).toList) hHeld.2.2.2.1 (by simp; omega)); (have s4 := below_setCells mx (bitsA (A % MM)).toList 0 _ hHeld.2.2.2.2); generalize wq.setCells gx 0 (bitsA (A % MM)).toList = wn at *)
          refine hK.out _ _ ?hSr1_16_6 (fun hHeld2 => ?_)
          case hSr1_16_6 => (exact ⟨s0, s1, s2, s3, s4⟩)
          clear hK K hHeld
          have hHeld := hHeld2
          clear hHeld2
          rename World => wq
          (try simp only [Act.put, List.setIfInBounds_toArray, List.set_cons_zero, List.set_cons_succ])
          refine wpAnyH_ready (rs := [7]) (by kernel_rfl) (by simp) ?_
          refine AllReadyH.cons (o := { dst := none, op := Go.Op.store 55 (Go.Operand.tmp 6) (Go.Operand.tmp 11), type := 0, pos := _, after := #[{ on := 5, ground := Go.Ground.data }, { on := 3, ground := Go.Ground.data }, { on := 6, ground := Go.Ground.chain }, { on := 0, ground := Go.Ground.phase }, { on := 1, ground := Go.Ground.phase }, { on := 2, ground := Go.Ground.phase }, { on := 3, ground := Go.Ground.phase }, { on := 4, ground := Go.Ground.phase }, { on := 5, ground := Go.Ground.phase }, { on := 6, ground := Go.Ground.phase }], guard := none }) rfl (fun K hK => ?_) AllReadyH.nil
          ((have hth := Ry.there (bitsA (B % MM)).size (by rw [bitsA_size, zeroA_size]; exact Nat.le_refl _)); (have hinf := bitsA_info (B % MM)); (have hone := bitsA_one (B % MM)); (rw [if_pos (by rfl)]); (with_reducible refine wp_store_mid 55 (.tmp 6) (.tmp 11) ?_ gy 0 (bitsA (B % MM)) ?_ ?_ hth hinf hone ?_); rfl; rfl; rfl; clear hth hinf hone; (have Ryn := Ry.setAll (bitsA (B % MM)) (by rw [bitsA_size, zeroA_size])); clear Ry; (first | (replace Rx := Row.setCells_far (g := gy) (o := 0) (vs := (bitsA (B % MM)).toList) Rx hne) | (replace Rx := Row.setCells_far (g := gy) (o := 0) (vs := (bitsA (B % MM)).toList) Rx hne.symm)); (have Ry := Ryn); clear Ryn; (have s0 := cell_setCells_far (g := gy) (o := 0) (vs := (bitsA (B % MM)).toList) hHeld.1 (by simp; omega)); (have s1 := cell_setCells_far (g := gy) (o := 0) (vs := (bitsA (B % MM)).toList) hHeld.2.1 (by simp; omega)); (have s2 := cell_setCells_far (g := gy) (o := 0) (vs := (bitsA (B % MM)).toList) hHeld.2.2.1 (by simp; omega)); (have s3 := cell_setCells_far (g := gy) (o := 0) (vs := (bitsA (B % MM)).toList) hHeld.2.2.2.1 (by simp; omega)); (have s4 := below_setCells my (bitsA (B % MM)).toList 0 _ hHeld.2.2.2.2); generalize wq.setCells gy 0 (bitsA (B % MM)).toList = wn at *)
          refine hK.out _ _ ?hSr1_17_7 (fun hHeld2 => ?_)
          case hSr1_17_7 => (exact ⟨s0, s1, s2, s3, s4⟩)
          clear hK K hHeld
          have hHeld := hHeld2
          clear hHeld2
          rename World => wq
          (try simp only [Act.put, List.setIfInBounds_toArray, List.set_cons_zero, List.set_cons_succ])
          refine wpAnyH_done (by kernel_rfl) ?_ _
          (go_wp2_with fail; go_meet; exact ⟨_, _, rfl, rfl, Rx, Ry, (by first | exact hne | exact hne.symm), mx, my, hHeld.2.2.2.2⟩)
        refine AllReadyH.cons (o := { dst := some 6, op := Go.Op.alloc 55, type := 0, pos := _, after := #[], guard := none }) rfl (fun K hK => ?_) AllReadyH.nil
        · ((rw [if_pos (by rfl)]); (with_reducible refine wp_alloc_run 55 z128 ?_ z128_zero z128_ne ?_); rfl; (have ly : w.heap.size + 1 < wq.heap.size := World.block_lt_of_cell? _ _ hHeld.2.2.1); (have my : W0.heap.size ≤ wq.heap.size := hHeld.2.2.2.2.size); (try have hne := Nat.ne_of_lt Rx.lt); (have Ry := Row.new wq z128 55); (have hb : Below wq.heap.size wq (wq.alloc (.cells z128 55)) := (Below.refl _ _).alloc (Nat.le_refl _) _); (have s0 := cell_later hb hHeld.1); (have s1 := cell_later hb hHeld.2.1); (have s2 := cell_later hb hHeld.2.2.1); (have s3 := cell_later hb hHeld.2.2.2.1); (have s4 := below_step hHeld.2.2.2.2 hb); (try replace Rx := Rx.later hb); clear hb; generalize wq.alloc (.cells z128 55) = wn at *; generalize wq.heap.size = gy at *)
          refine hK.out _ _ ?hSr1_18_5 (fun hHeld2 => ?_)
          case hSr1_18_5 => (exact ⟨s0, s1, s2, s3, s4⟩)
          clear hK K hHeld
          have hHeld := hHeld2
          clear hHeld2
          rename World => wq
          (try simp only [Act.put, List.setIfInBounds_toArray, List.set_cons_zero, List.set_cons_succ])
          refine wpAnyH_ready (rs := [3]) (by kernel_rfl) (by simp) ?_
          refine AllReadyH.cons (o := { dst := some 11, op := Go.Op.call { callee := Go.Callee.value (Go.Operand.func 33), args := #[Go.Operand.tmp 10], argTypes := #[34] }, type := 55, pos := _, after := #[{ on := 2, ground := Go.Ground.data }, { on := 1, ground := Go.Ground.chain }], guard := none }) rfl (fun K hK => ?_) AllReadyH.nil
          go_simp
          ((refine (bits_h _ _).mono ?_); (rintro e wn ⟨rfl, hb⟩); (try replace Rx := Rx.later hb); (try replace Ry := Ry.later hb))
          go_wp2_with fail
          refine hK.out _ _ ?hSr1_19_3 (fun hHeld2 => ?_)
          case hSr1_19_3 => (first | exact ⟨a0, a1, b0, b1, Below.drew (Below.refl _ _)⟩ | exact ⟨cell_later hb hHeld.1, cell_later hb hHeld.2.1, cell_later hb hHeld.2.2.1, cell_later hb hHeld.2.2.2.1, below_step hHeld.2.2.2.2 hb⟩)
          clear hK K hHeld
          have hHeld := hHeld2
          clear hHeld2
          rename World => wq
          (try simp only [Act.put, List.setIfInBounds_toArray, List.set_cons_zero, List.set_cons_succ])
          refine wpAnyH_ready (rs := [6]) (by kernel_rfl) (by simp) ?_
          refine AllReadyH.cons (o := { dst := none, op := Go.Op.store 55 (Go.Operand.tmp 5) (Go.Operand.tmp 9), type := 0, pos := _, after := #[{ on := 4, ground := Go.Ground.data }, { on := 1, ground := Go.Ground.data }, { on := 3, ground := Go.Ground.chain }, { on := 0, ground := Go.Ground.phase }, { on := 1, ground := Go.Ground.phase }, { on := 2, ground := Go.Ground.textOnly Go.Departure.lateStores }, { on := 3, ground := Go.Ground.textOnly Go.Departure.lateStoresUnsure }, { on := 4, ground := Go.Ground.phase }, { on := 5, ground := Go.Ground.phase }], guard := none }) rfl (fun K hK => ?_) AllReadyH.nil
          ((have hth := Rx.there (bitsA (A % MM)).size (by rw [bitsA_size, zeroA_size]; exact Nat.le_refl _)); (have hinf := bitsA_info (A % MM)); (have hone := bitsA_one (A % MM)); (rw [if_pos (by rfl)]); (with_reducible refine wp_store_mid 55 (.tmp 5) (.tmp 9) ?_ gx 0 (bitsA (A % MM)) ?_ ?_ hth hinf hone ?_); rfl; rfl; rfl; clear hth hinf hone; (have Rxn := Rx.setAll (bitsA (A % MM)) (by rw [bitsA_size, zeroA_size])); clear Rx; (first | (replace Ry := Row.setCells_far (g := gx) (o := 0) (vs := (bitsA (A % MM)).toList) Ry hne) | (replace Ry := Row.setCells_far (g := gx) (o := 0) (vs := (bitsA (A % MM)).toList) Ry hne.symm)); (have Rx := Rxn); clear Rxn; (have s0 := cell_setCells_far (g := gx) (o := 0) (vs := (bitsA (A % MM)).toList) hHeld.1 (by simp; omega)); (have s1 := cell_setCells_far (g := gx) (o := 0) (vs := (bitsA (A % MM)).toList) hHeld.2.1 (by simp; omega)); (have s2 := cell_setCells_far (g := gx) (o := 0) (vs := (bitsA (A % MM)).toList) hHeld.2.2.1 (by simp; omega)); (have s3 := cell_setCells_far (g := gx) (o := 0) (vs := (bitsA (A % MM)).toList) hHeld.2.2.2.1 (by simp; omega)); (have s4 := below_setCells mx (bitsA (A % MM)).toList 0 _ hHeld.2.2.2.2); generalize wq.setCells gx 0 (bitsA (A % MM)).toList = wn at *)
          refine hK.out _ _ ?hSr1_20_6 (fun hHeld2 => ?_)
          case hSr1_20_6 => (exact ⟨s0, s1, s2, s3, s4⟩)
          clear hK K hHeld
          have hHeld := hHeld2
          clear hHeld2
          rename World => wq
          (try simp only [Act.put, List.setIfInBounds_toArray, List.set_cons_zero, List.set_cons_succ])
          refine wpAnyH_ready (rs := [7]) (by kernel_rfl) (by simp) ?_
          refine AllReadyH.cons (o := { dst := none, op := Go.Op.store 55 (Go.Operand.tmp 6) (Go.Operand.tmp 11), type := 0, pos := _, after := #[{ on := 5, ground := Go.Ground.data }, { on := 3, ground := Go.Ground.data }, { on := 6, ground := Go.Ground.chain }, { on := 0, ground := Go.Ground.phase }, { on := 1, ground := Go.Ground.phase }, { on := 2, ground := Go.Ground.phase }, { on := 3, ground := Go.Ground.phase }, { on := 4, ground := Go.Ground.phase }, { on := 5, ground := Go.Ground.phase }, { on := 6, ground := Go.Ground.phase }], guard := none }) rfl (fun K hK => ?_) AllReadyH.nil
          ((have hth := Ry.there (bitsA (B % MM)).size (by rw [bitsA_size, zeroA_size]; exact Nat.le_refl _)); (have hinf := bitsA_info (B % MM)); (have hone := bitsA_one (B % MM)); (rw [if_pos (by rfl)]); (with_reducible refine wp_store_mid 55 (.tmp 6) (.tmp 11) ?_ gy 0 (bitsA (B % MM)) ?_ ?_ hth hinf hone ?_); rfl; rfl; rfl; clear hth hinf hone; (have Ryn := Ry.setAll (bitsA (B % MM)) (by rw [bitsA_size, zeroA_size])); clear Ry; (first | (replace Rx := Row.setCells_far (g := gy) (o := 0) (vs := (bitsA (B % MM)).toList) Rx hne) | (replace Rx := Row.setCells_far (g := gy) (o := 0) (vs := (bitsA (B % MM)).toList) Rx hne.symm)); (have Ry := Ryn); clear Ryn; (have s0 := cell_setCells_far (g := gy) (o := 0) (vs := (bitsA (B % MM)).toList) hHeld.1 (by simp; omega)); (have s1 := cell_setCells_far (g := gy) (o := 0) (vs := (bitsA (B % MM)).toList) hHeld.2.1 (by simp; omega)); (have s2 := cell_setCells_far (g := gy) (o := 0) (vs := (bitsA (B % MM)).toList) hHeld.2.2.1 (by simp; omega)); (have s3 := cell_setCells_far (g := gy) (o := 0) (vs := (bitsA (B % MM)).toList) hHeld.2.2.2.1 (by simp; omega)); (have s4 := below_setCells my (bitsA (B % MM)).toList 0 _ hHeld.2.2.2.2); generalize wq.setCells gy 0 (bitsA (B % MM)).toList = wn at *)
          refine hK.out _ _ ?hSr1_21_7 (fun hHeld2 => ?_)
          case hSr1_21_7 => (exact ⟨s0, s1, s2, s3, s4⟩)
          clear hK K hHeld
          have hHeld := hHeld2
          clear hHeld2
          rename World => wq
          (try simp only [Act.put, List.setIfInBounds_toArray, List.set_cons_zero, List.set_cons_succ])
          refine wpAnyH_done (by kernel_rfl) ?_ _
          (go_wp2_with fail; go_meet; exact ⟨_, _, rfl, rfl, Rx, Ry, (by first | exact hne | exact hne.symm), mx, my, hHeld.2.2.2.2⟩)
      refine AllReadyH.cons (o := { dst := some 6, op := Go.Op.alloc 55, type := 0, pos := _, after := #[], guard := none }) rfl (fun K hK => ?_) AllReadyH.nil
      · ((rw [if_pos (by rfl)]); (with_reducible refine wp_alloc_run 55 z128 ?_ z128_zero z128_ne ?_); rfl; (have ly : w.heap.size + 1 < wq.heap.size := World.block_lt_of_cell? _ _ hHeld.2.2.1); (have my : W0.heap.size ≤ wq.heap.size := hHeld.2.2.2.2.size); (try have hne := Nat.ne_of_lt Rx.lt); (have Ry := Row.new wq z128 55); (have hb : Below wq.heap.size wq (wq.alloc (.cells z128 55)) := (Below.refl _ _).alloc (Nat.le_refl _) _); (have s0 := cell_later hb hHeld.1); (have s1 := cell_later hb hHeld.2.1); (have s2 := cell_later hb hHeld.2.2.1); (have s3 := cell_later hb hHeld.2.2.2.1); (have s4 := below_step hHeld.2.2.2.2 hb); (try replace Rx := Rx.later hb); clear hb; generalize wq.alloc (.cells z128 55) = wn at *; generalize wq.heap.size = gy at *)
        refine hK.out _ _ ?hSr1_22_5 (fun hHeld2 => ?_)
        case hSr1_22_5 => (exact ⟨s0, s1, s2, s3, s4⟩)
        clear hK K hHeld
        have hHeld := hHeld2
        clear hHeld2
        rename World => wq
        (try simp only [Act.put, List.setIfInBounds_toArray, List.set_cons_zero, List.set_cons_succ])
        refine wpAnyH_ready (rs := [3, 4]) (by kernel_rfl) (by simp) ?_
        refine AllReadyH.cons (o := { dst := some 11, op := Go.Op.call { callee := Go.Callee.value (Go.Operand.func 33), args := #[Go.Operand.tmp 10], argTypes := #[34] }, type := 55, pos := _, after := #[{ on := 2, ground := Go.Ground.data }, { on := 1, ground := Go.Ground.chain }], guard := none }) rfl (fun K hK => ?_) ?_
        · go_simp
          ((refine (bits_h _ _).mono ?_); (rintro e wn ⟨rfl, hb⟩); (try replace Rx := Rx.later hb); (try replace Ry := Ry.later hb))
          go_wp2_with fail
          refine hK.out _ _ ?hSr1_23_3 (fun hHeld2 => ?_)
          case hSr1_23_3 => (first | exact ⟨a0, a1, b0, b1, Below.drew (Below.refl _ _)⟩ | exact ⟨cell_later hb hHeld.1, cell_later hb hHeld.2.1, cell_later hb hHeld.2.2.1, cell_later hb hHeld.2.2.2.1, below_step hHeld.2.2.2.2 hb⟩)
          clear hK K hHeld
          have hHeld := hHeld2
          clear hHeld2
          rename World => wq
          (try simp only [Act.put, List.setIfInBounds_toArray, List.set_cons_zero, List.set_cons_succ])
          refine wpAnyH_ready (rs := [4]) (by kernel_rfl) (by simp) ?_
          refine AllReadyH.cons (o := { dst := some 5, op := Go.Op.alloc 55, type := 0, pos := _, after := #[], guard := none }) rfl (fun K hK => ?_) AllReadyH.nil
          ((rw [if_pos (by rfl)]); (with_reducible refine wp_alloc_run 55 z128 ?_ z128_zero z128_ne ?_); rfl; (have lx : w.heap.size + 1 < wq.heap.size := World.block_lt_of_cell? _ _ hHeld.2.2.1); (have mx : W0.heap.size ≤ wq.heap.size := hHeld.2.2.2.2.size); (try have hne := Nat.ne_of_lt Ry.lt); (have Rx := Row.new wq z128 55); (have hb : Below wq.heap.size wq (wq.alloc (.cells z128 55)) := (Below.refl _ _).alloc (Nat.le_refl _) _); (have s0 := cell_later hb hHeld.1); (have s1 := cell_later hb hHeld.2.1); (have s2 := cell_later hb hHeld.2.2.1); (have s3 := cell_later hb hHeld.2.2.2.1); (have s4 := below_step hHeld.2.2.2.2 hb); (try replace Ry := Ry.later hb); clear hb; generalize wq.alloc (.cells z128 55) = wn at *; generalize wq.heap.size = gx at *)
          refine hK.out _ _ ?hSr1_24_4 (fun hHeld2 => ?_)
          case hSr1_24_4 => (exact ⟨s0, s1, s2, s3, s4⟩)
          clear hK K hHeld
          have hHeld := hHeld2
          clear hHeld2
          rename World => wq
          (try simp only [Act.put, List.setIfInBounds_toArray, List.set_cons_zero, List.set_cons_succ])
          refine wpAnyH_ready (rs := [6]) (by kernel_rfl) (by simp) ?_
          refine AllReadyH.cons (o := { dst := none, op := Go.Op.store 55 (Go.Operand.tmp 5) (Go.Operand.tmp 9), type := 0, pos := _, after := #[{ on := 4, ground := Go.Ground.data }, { on := 1, ground := Go.Ground.data }, { on := 3, ground := Go.Ground.chain }, { on := 0, ground := Go.Ground.phase }, { on := 1, ground := Go.Ground.phase }, { on := 2, ground := Go.Ground.textOnly Go.Departure.lateStores }, { on := 3, ground := Go.Ground.textOnly Go.Departure.lateStoresUnsure }, { on := 4, ground := Go.Ground.phase }, { on := 5, ground := Go.Ground.phase }], guard := none }) rfl (fun K hK => ?_) AllReadyH.nil
          ((have hth := Rx.there (bitsA (A % MM)).size (by rw [bitsA_size, zeroA_size]; exact Nat.le_refl _)); (have hinf := bitsA_info (A % MM)); (have hone := bitsA_one (A % MM)); (rw [if_pos (by rfl)]); (with_reducible refine wp_store_mid 55 (.tmp 5) (.tmp 9) ?_ gx 0 (bitsA (A % MM)) ?_ ?_ hth hinf hone ?_); rfl; rfl; rfl; clear hth hinf hone; (have Rxn := Rx.setAll (bitsA (A % MM)) (by rw [bitsA_size, zeroA_size])); clear Rx; (first | (replace Ry := Row.setCells_far (g := gx) (o := 0) (vs := (bitsA (A % MM)).toList) Ry hne) | (replace Ry := Row.setCells_far (g := gx) (o := 0) (vs := (bitsA (A % MM)).toList) Ry hne.symm)); (have Rx := Rxn); clear Rxn; (have s0 := cell_setCells_far (g := gx) (o := 0) (vs := (bitsA (A % MM)).toList) hHeld.1 (by simp; omega)); (have s1 := cell_setCells_far (g := gx) (o := 0) (vs := (bitsA (A % MM)).toList) hHeld.2.1 (by simp; omega)); (have s2 := cell_setCells_far (g := gx) (o := 0) (vs := (bitsA (A % MM)).toList) hHeld.2.2.1 (by simp; omega)); (have s3 := cell_setCells_far (g := gx) (o := 0) (vs := (bitsA (A % MM)).toList) hHeld.2.2.2.1 (by simp; omega)); (have s4 := below_setCells mx (bitsA (A % MM)).toList 0 _ hHeld.2.2.2.2); generalize wq.setCells gx 0 (bitsA (A % MM)).toList = wn at *)
          refine hK.out _ _ ?hSr1_25_6 (fun hHeld2 => ?_)
          case hSr1_25_6 => (exact ⟨s0, s1, s2, s3, s4⟩)
          clear hK K hHeld
          have hHeld := hHeld2
          clear hHeld2
          rename World => wq
          (try simp only [Act.put, List.setIfInBounds_toArray, List.set_cons_zero, List.set_cons_succ])
          refine wpAnyH_ready (rs := [7]) (by kernel_rfl) (by simp) ?_
          refine AllReadyH.cons (o := { dst := none, op := Go.Op.store 55 (Go.Operand.tmp 6) (Go.Operand.tmp 11), type := 0, pos := _, after := #[{ on := 5, ground := Go.Ground.data }, { on := 3, ground := Go.Ground.data }, { on := 6, ground := Go.Ground.chain }, { on := 0, ground := Go.Ground.phase }, { on := 1, ground := Go.Ground.phase }, { on := 2, ground := Go.Ground.phase }, { on := 3, ground := Go.Ground.phase }, { on := 4, ground := Go.Ground.phase }, { on := 5, ground := Go.Ground.phase }, { on := 6, ground := Go.Ground.phase }], guard := none }) rfl (fun K hK => ?_) AllReadyH.nil
          ((have hth := Ry.there (bitsA (B % MM)).size (by rw [bitsA_size, zeroA_size]; exact Nat.le_refl _)); (have hinf := bitsA_info (B % MM)); (have hone := bitsA_one (B % MM)); (rw [if_pos (by rfl)]); (with_reducible refine wp_store_mid 55 (.tmp 6) (.tmp 11) ?_ gy 0 (bitsA (B % MM)) ?_ ?_ hth hinf hone ?_); rfl; rfl; rfl; clear hth hinf hone; (have Ryn := Ry.setAll (bitsA (B % MM)) (by rw [bitsA_size, zeroA_size])); clear Ry; (first | (replace Rx := Row.setCells_far (g := gy) (o := 0) (vs := (bitsA (B % MM)).toList) Rx hne) | (replace Rx := Row.setCells_far (g := gy) (o := 0) (vs := (bitsA (B % MM)).toList) Rx hne.symm)); (have Ry := Ryn); clear Ryn; (have s0 := cell_setCells_far (g := gy) (o := 0) (vs := (bitsA (B % MM)).toList) hHeld.1 (by simp; omega)); (have s1 := cell_setCells_far (g := gy) (o := 0) (vs := (bitsA (B % MM)).toList) hHeld.2.1 (by simp; omega)); (have s2 := cell_setCells_far (g := gy) (o := 0) (vs := (bitsA (B % MM)).toList) hHeld.2.2.1 (by simp; omega)); (have s3 := cell_setCells_far (g := gy) (o := 0) (vs := (bitsA (B % MM)).toList) hHeld.2.2.2.1 (by simp; omega)); (have s4 := below_setCells my (bitsA (B % MM)).toList 0 _ hHeld.2.2.2.2); generalize wq.setCells gy 0 (bitsA (B % MM)).toList = wn at *)
          refine hK.out _ _ ?hSr1_26_7 (fun hHeld2 => ?_)
          case hSr1_26_7 => (exact ⟨s0, s1, s2, s3, s4⟩)
          clear hK K hHeld
          have hHeld := hHeld2
          clear hHeld2
          rename World => wq
          (try simp only [Act.put, List.setIfInBounds_toArray, List.set_cons_zero, List.set_cons_succ])
          refine wpAnyH_done (by kernel_rfl) ?_ _
          (go_wp2_with fail; go_meet; exact ⟨_, _, rfl, rfl, Rx, Ry, (by first | exact hne | exact hne.symm), mx, my, hHeld.2.2.2.2⟩)
        refine AllReadyH.cons (o := { dst := some 5, op := Go.Op.alloc 55, type := 0, pos := _, after := #[], guard := none }) rfl (fun K hK => ?_) AllReadyH.nil
        · ((rw [if_pos (by rfl)]); (with_reducible refine wp_alloc_run 55 z128 ?_ z128_zero z128_ne ?_); rfl; (have lx : w.heap.size + 1 < wq.heap.size := World.block_lt_of_cell? _ _ hHeld.2.2.1); (have mx : W0.heap.size ≤ wq.heap.size := hHeld.2.2.2.2.size); (try have hne := Nat.ne_of_lt Ry.lt); (have Rx := Row.new wq z128 55); (have hb : Below wq.heap.size wq (wq.alloc (.cells z128 55)) := (Below.refl _ _).alloc (Nat.le_refl _) _); (have s0 := cell_later hb hHeld.1); (have s1 := cell_later hb hHeld.2.1); (have s2 := cell_later hb hHeld.2.2.1); (have s3 := cell_later hb hHeld.2.2.2.1); (have s4 := below_step hHeld.2.2.2.2 hb); (try replace Ry := Ry.later hb); clear hb; generalize wq.alloc (.cells z128 55) = wn at *; generalize wq.heap.size = gx at *)
          refine hK.out _ _ ?hSr1_27_4 (fun hHeld2 => ?_)
          case hSr1_27_4 => (exact ⟨s0, s1, s2, s3, s4⟩)
          clear hK K hHeld
          have hHeld := hHeld2
          clear hHeld2
          rename World => wq
          (try simp only [Act.put, List.setIfInBounds_toArray, List.set_cons_zero, List.set_cons_succ])
          refine wpAnyH_ready (rs := [3]) (by kernel_rfl) (by simp) ?_
          refine AllReadyH.cons (o := { dst := some 11, op := Go.Op.call { callee := Go.Callee.value (Go.Operand.func 33), args := #[Go.Operand.tmp 10], argTypes := #[34] }, type := 55, pos := _, after := #[{ on := 2, ground := Go.Ground.data }, { on := 1, ground := Go.Ground.chain }], guard := none }) rfl (fun K hK => ?_) AllReadyH.nil
          go_simp
          ((refine (bits_h _ _).mono ?_); (rintro e wn ⟨rfl, hb⟩); (try replace Rx := Rx.later hb); (try replace Ry := Ry.later hb))
          go_wp2_with fail
          refine hK.out _ _ ?hSr1_28_3 (fun hHeld2 => ?_)
          case hSr1_28_3 => (first | exact ⟨a0, a1, b0, b1, Below.drew (Below.refl _ _)⟩ | exact ⟨cell_later hb hHeld.1, cell_later hb hHeld.2.1, cell_later hb hHeld.2.2.1, cell_later hb hHeld.2.2.2.1, below_step hHeld.2.2.2.2 hb⟩)
          clear hK K hHeld
          have hHeld := hHeld2
          clear hHeld2
          rename World => wq
          (try simp only [Act.put, List.setIfInBounds_toArray, List.set_cons_zero, List.set_cons_succ])
          refine wpAnyH_ready (rs := [6]) (by kernel_rfl) (by simp) ?_
          refine AllReadyH.cons (o := { dst := none, op := Go.Op.store 55 (Go.Operand.tmp 5) (Go.Operand.tmp 9), type := 0, pos := _, after := #[{ on := 4, ground := Go.Ground.data }, { on := 1, ground := Go.Ground.data }, { on := 3, ground := Go.Ground.chain }, { on := 0, ground := Go.Ground.phase }, { on := 1, ground := Go.Ground.phase }, { on := 2, ground := Go.Ground.textOnly Go.Departure.lateStores }, { on := 3, ground := Go.Ground.textOnly Go.Departure.lateStoresUnsure }, { on := 4, ground := Go.Ground.phase }, { on := 5, ground := Go.Ground.phase }], guard := none }) rfl (fun K hK => ?_) AllReadyH.nil
          ((have hth := Rx.there (bitsA (A % MM)).size (by rw [bitsA_size, zeroA_size]; exact Nat.le_refl _)); (have hinf := bitsA_info (A % MM)); (have hone := bitsA_one (A % MM)); (rw [if_pos (by rfl)]); (with_reducible refine wp_store_mid 55 (.tmp 5) (.tmp 9) ?_ gx 0 (bitsA (A % MM)) ?_ ?_ hth hinf hone ?_); rfl; rfl; rfl; clear hth hinf hone; (have Rxn := Rx.setAll (bitsA (A % MM)) (by rw [bitsA_size, zeroA_size])); clear Rx; (first | (replace Ry := Row.setCells_far (g := gx) (o := 0) (vs := (bitsA (A % MM)).toList) Ry hne) | (replace Ry := Row.setCells_far (g := gx) (o := 0) (vs := (bitsA (A % MM)).toList) Ry hne.symm)); (have Rx := Rxn); clear Rxn; (have s0 := cell_setCells_far (g := gx) (o := 0) (vs := (bitsA (A % MM)).toList) hHeld.1 (by simp; omega)); (have s1 := cell_setCells_far (g := gx) (o := 0) (vs := (bitsA (A % MM)).toList) hHeld.2.1 (by simp; omega)); (have s2 := cell_setCells_far (g := gx) (o := 0) (vs := (bitsA (A % MM)).toList) hHeld.2.2.1 (by simp; omega)); (have s3 := cell_setCells_far (g := gx) (o := 0) (vs := (bitsA (A % MM)).toList) hHeld.2.2.2.1 (by simp; omega)); (have s4 := below_setCells mx (bitsA (A % MM)).toList 0 _ hHeld.2.2.2.2); generalize wq.setCells gx 0 (bitsA (A % MM)).toList = wn at *)
          refine hK.out _ _ ?hSr1_29_6 (fun hHeld2 => ?_)
          case hSr1_29_6 => (exact ⟨s0, s1, s2, s3, s4⟩)
          clear hK K hHeld
          have hHeld := hHeld2
          clear hHeld2
          rename World => wq
          (try simp only [Act.put, List.setIfInBounds_toArray, List.set_cons_zero, List.set_cons_succ])
          refine wpAnyH_ready (rs := [7]) (by kernel_rfl) (by simp) ?_
          refine AllReadyH.cons (o := { dst := none, op := Go.Op.store 55 (Go.Operand.tmp 6) (Go.Operand.tmp 11), type := 0, pos := _, after := #[{ on := 5, ground := Go.Ground.data }, { on := 3, ground := Go.Ground.data }, { on := 6, ground := Go.Ground.chain }, { on := 0, ground := Go.Ground.phase }, { on := 1, ground := Go.Ground.phase }, { on := 2, ground := Go.Ground.phase }, { on := 3, ground := Go.Ground.phase }, { on := 4, ground := Go.Ground.phase }, { on := 5, ground := Go.Ground.phase }, { on := 6, ground := Go.Ground.phase }], guard := none }) rfl (fun K hK => ?_) AllReadyH.nil
          ((have hth := Ry.there (bitsA (B % MM)).size (by rw [bitsA_size, zeroA_size]; exact Nat.le_refl _)); (have hinf := bitsA_info (B % MM)); (have hone := bitsA_one (B % MM)); (rw [if_pos (by rfl)]); (with_reducible refine wp_store_mid 55 (.tmp 6) (.tmp 11) ?_ gy 0 (bitsA (B % MM)) ?_ ?_ hth hinf hone ?_); rfl; rfl; rfl; clear hth hinf hone; (have Ryn := Ry.setAll (bitsA (B % MM)) (by rw [bitsA_size, zeroA_size])); clear Ry; (first | (replace Rx := Row.setCells_far (g := gy) (o := 0) (vs := (bitsA (B % MM)).toList) Rx hne) | (replace Rx := Row.setCells_far (g := gy) (o := 0) (vs := (bitsA (B % MM)).toList) Rx hne.symm)); (have Ry := Ryn); clear Ryn; (have s0 := cell_setCells_far (g := gy) (o := 0) (vs := (bitsA (B % MM)).toList) hHeld.1 (by simp; omega)); (have s1 := cell_setCells_far (g := gy) (o := 0) (vs := (bitsA (B % MM)).toList) hHeld.2.1 (by simp; omega)); (have s2 := cell_setCells_far (g := gy) (o := 0) (vs := (bitsA (B % MM)).toList) hHeld.2.2.1 (by simp; omega)); (have s3 := cell_setCells_far (g := gy) (o := 0) (vs := (bitsA (B % MM)).toList) hHeld.2.2.2.1 (by simp; omega)); (have s4 := below_setCells my (bitsA (B % MM)).toList 0 _ hHeld.2.2.2.2); generalize wq.setCells gy 0 (bitsA (B % MM)).toList = wn at *)
          refine hK.out _ _ ?hSr1_30_7 (fun hHeld2 => ?_)
          case hSr1_30_7 => (exact ⟨s0, s1, s2, s3, s4⟩)
          clear hK K hHeld
          have hHeld := hHeld2
          clear hHeld2
          rename World => wq
          (try simp only [Act.put, List.setIfInBounds_toArray, List.set_cons_zero, List.set_cons_succ])
          refine wpAnyH_done (by kernel_rfl) ?_ _
          (go_wp2_with fail; go_meet; exact ⟨_, _, rfl, rfl, Rx, Ry, (by first | exact hne | exact hne.symm), mx, my, hHeld.2.2.2.2⟩)
    refine AllReadyH.cons (o := { dst := some 5, op := Go.Op.alloc 55, type := 0, pos := _, after := #[], guard := none }) rfl (fun K hK => ?_) ?_
    · ((rw [if_pos (by rfl)]); (with_reducible refine wp_alloc_run 55 z128 ?_ z128_zero z128_ne ?_); rfl; (have lx : w.heap.size + 1 < wq.heap.size := World.block_lt_of_cell? _ _ hHeld.2.2.1); (have mx : W0.heap.size ≤ wq.heap.size := hHeld.2.2.2.2.size); (try have hne := Nat.ne_of_lt Ry.lt); (have Rx := Row.new wq z128 55); (have hb : Below wq.heap.size wq (wq.alloc (.cells z128 55)) := (Below.refl _ _).alloc (Nat.le_refl _) _); (have s0 := cell_later hb hHeld.1); (have s1 := cell_later hb hHeld.2.1); (have s2 := cell_later hb hHeld.2.2.1); (have s3 := cell_later hb hHeld.2.2.2.1); (have s4 := below_step hHeld.2.2.2.2 hb); (try replace Ry := Ry.later hb); clear hb; generalize wq.alloc (.cells z128 55) = wn at *; generalize wq.heap.size = gx at *)
      refine hK.out _ _ ?hSr1_31_4 (fun hHeld2 => ?_)
      case hSr1_31_4 => (exact ⟨s0, s1, s2, s3, s4⟩)
      clear hK K hHeld
      have hHeld := hHeld2
      clear hHeld2
      rename World => wq
      (try simp only [Act.put, List.setIfInBounds_toArray, List.set_cons_zero, List.set_cons_succ])
      refine wpAnyH_ready (rs := [1, 5]) (by kernel_rfl) (by simp) ?_
      refine AllReadyH.cons (o := { dst := some 9, op := Go.Op.call { callee := Go.Callee.value (Go.Operand.func 33), args := #[Go.Operand.tmp 8], argTypes := #[34] }, type := 55, pos := _, after := #[{ on := 0, ground := Go.Ground.data }], guard := none }) rfl (fun K hK => ?_) ?_
      · go_simp
        ((refine (bits_h _ _).mono ?_); (rintro e wn ⟨rfl, hb⟩); (try replace Rx := Rx.later hb); (try replace Ry := Ry.later hb))
        go_wp2_with fail
        refine hK.out _ _ ?hSr1_32_1 (fun hHeld2 => ?_)
        case hSr1_32_1 => (first | exact ⟨a0, a1, b0, b1, Below.drew (Below.refl _ _)⟩ | exact ⟨cell_later hb hHeld.1, cell_later hb hHeld.2.1, cell_later hb hHeld.2.2.1, cell_later hb hHeld.2.2.2.1, below_step hHeld.2.2.2.2 hb⟩)
        clear hK K hHeld
        have hHeld := hHeld2
        clear hHeld2
        rename World => wq
        (try simp only [Act.put, List.setIfInBounds_toArray, List.set_cons_zero, List.set_cons_succ])
        refine wpAnyH_ready (rs := [3, 5]) (by kernel_rfl) (by simp) ?_
        refine AllReadyH.cons (o := { dst := some 11, op := Go.Op.call { callee := Go.Callee.value (Go.Operand.func 33), args := #[Go.Operand.tmp 10], argTypes := #[34] }, type := 55, pos := _, after := #[{ on := 2, ground := Go.Ground.data }, { on := 1, ground := Go.Ground.chain }], guard := none }) rfl (fun K hK => ?_) ?_
        · go_simp
          ((refine (bits_h _ _).mono ?_); (rintro e wn ⟨rfl, hb⟩); (try replace Rx := Rx.later hb); (try replace Ry := Ry.later hb))
          go_wp2_with fail
          refine hK.out _ _ ?hSr1_33_3 (fun hHeld2 => ?_)
          case hSr1_33_3 => (first | exact ⟨a0, a1, b0, b1, Below.drew (Below.refl _ _)⟩ | exact ⟨cell_later hb hHeld.1, cell_later hb hHeld.2.1, cell_later hb hHeld.2.2.1, cell_later hb hHeld.2.2.2.1, below_step hHeld.2.2.2.2 hb⟩)
          clear hK K hHeld
          have hHeld := hHeld2
          clear hHeld2
          rename World => wq
          (try simp only [Act.put, List.setIfInBounds_toArray, List.set_cons_zero, List.set_cons_succ])
          refine wpAnyH_ready (rs := [5]) (by kernel_rfl) (by simp) ?_
          refine AllReadyH.cons (o := { dst := some 6, op := Go.Op.alloc 55, type := 0, pos := _, after := #[], guard := none }) rfl (fun K hK => ?_) AllReadyH.nil
          ((rw [if_pos (by rfl)]); (with_reducible refine wp_alloc_run 55 z128 ?_ z128_zero z128_ne ?_); rfl; (have ly : w.heap.size + 1 < wq.heap.size := World.block_lt_of_cell? _ _ hHeld.2.2.1); (have my : W0.heap.size ≤ wq.heap.size := hHeld.2.2.2.2.size); (try have hne := Nat.ne_of_lt Rx.lt); (have Ry := Row.new wq z128 55); (have hb : Below wq.heap.size wq (wq.alloc (.cells z128 55)) := (Below.refl _ _).alloc (Nat.le_refl _) _); (have s0 := cell_later hb hHeld.1); (have s1 := cell_later hb hHeld.2.1); (have s2 := cell_later hb hHeld.2.2.1); (have s3 := cell_later hb hHeld.2.2.2.1); (have s4 := below_step hHeld.2.2.2.2 hb); (try replace Rx := Rx.later hb); clear hb; generalize wq.alloc (.cells z128 55) = wn at *; generalize wq.heap.size = gy at *)
          refine hK.out _ _ ?hSr1_34_5 (fun hHeld2 => ?_)
          case hSr1_34_5 => (exact ⟨s0, s1, s2, s3, s4⟩)
          clear hK K hHeld
          have hHeld := hHeld2
          clear hHeld2
          rename World => wq
          (try simp only [Act.put, List.setIfInBounds_toArray, List.set_cons_zero, List.set_cons_succ])
          refine wpAnyH_ready (rs := [6]) (by kernel_rfl) (by simp) ?_
          refine AllReadyH.cons (o := { dst := none, op := Go.Op.store 55 (Go.Operand.tmp 5) (Go.Operand.tmp 9), type := 0, pos := _, after := #[{ on := 4, ground := Go.Ground.data }, { on := 1, ground := Go.Ground.data }, { on := 3, ground := Go.Ground.chain }, { on := 0, ground := Go.Ground.phase }, { on := 1, ground := Go.Ground.phase }, { on := 2, ground := Go.Ground.textOnly Go.Departure.lateStores }, { on := 3, ground := Go.Ground.textOnly Go.Departure.lateStoresUnsure }, { on := 4, ground := Go.Ground.phase }, { on := 5, ground := Go.Ground.phase }], guard := none }) rfl (fun K hK => ?_) AllReadyH.nil
          ((have hth := Rx.there (bitsA (A % MM)).size (by rw [bitsA_size, zeroA_size]; exact Nat.le_refl _)); (have hinf := bitsA_info (A % MM)); (have hone := bitsA_one (A % MM)); (rw [if_pos (by rfl)]); (with_reducible refine wp_store_mid 55 (.tmp 5) (.tmp 9) ?_ gx 0 (bitsA (A % MM)) ?_ ?_ hth hinf hone ?_); rfl; rfl; rfl; clear hth hinf hone; (have Rxn := Rx.setAll (bitsA (A % MM)) (by rw [bitsA_size, zeroA_size])); clear Rx; (first | (replace Ry := Row.setCells_far (g := gx) (o := 0) (vs := (bitsA (A % MM)).toList) Ry hne) | (replace Ry := Row.setCells_far (g := gx) (o := 0) (vs := (bitsA (A % MM)).toList) Ry hne.symm)); (have Rx := Rxn); clear Rxn; (have s0 := cell_setCells_far (g := gx) (o := 0) (vs := (bitsA (A % MM)).toList) hHeld.1 (by simp; omega)); (have s1 := cell_setCells_far (g := gx) (o := 0) (vs := (bitsA (A % MM)).toList) hHeld.2.1 (by simp; omega)); (have s2 := cell_setCells_far (g := gx) (o := 0) (vs := (bitsA (A % MM)).toList) hHeld.2.2.1 (by simp; omega)); (have s3 := cell_setCells_far (g := gx) (o := 0) (vs := (bitsA (A % MM)).toList) hHeld.2.2.2.1 (by simp; omega)); (have s4 := below_setCells mx (bitsA (A % MM)).toList 0 _ hHeld.2.2.2.2); generalize wq.setCells gx 0 (bitsA (A % MM)).toList = wn at *)
          refine hK.out _ _ ?hSr1_35_6 (fun hHeld2 => ?_)
          case hSr1_35_6 => (exact ⟨s0, s1, s2, s3, s4⟩)
          clear hK K hHeld
          have hHeld := hHeld2
          clear hHeld2
          rename World => wq
          (try simp only [Act.put, List.setIfInBounds_toArray, List.set_cons_zero, List.set_cons_succ])
          refine wpAnyH_ready (rs := [7]) (by kernel_rfl) (by simp) ?_
          refine AllReadyH.cons (o := { dst := none, op := Go.Op.store 55 (Go.Operand.tmp 6) (Go.Operand.tmp 11), type := 0, pos := _, after := #[{ on := 5, ground := Go.Ground.data }, { on := 3, ground := Go.Ground.data }, { on := 6, ground := Go.Ground.chain }, { on := 0, ground := Go.Ground.phase }, { on := 1, ground := Go.Ground.phase }, { on := 2, ground := Go.Ground.phase }, { on := 3, ground := Go.Ground.phase }, { on := 4, ground := Go.Ground.phase }, { on := 5, ground := Go.Ground.phase }, { on := 6, ground := Go.Ground.phase }], guard := none }) rfl (fun K hK => ?_) AllReadyH.nil
          ((have hth := Ry.there (bitsA (B % MM)).size (by rw [bitsA_size, zeroA_size]; exact Nat.le_refl _)); (have hinf := bitsA_info (B % MM)); (have hone := bitsA_one (B % MM)); (rw [if_pos (by rfl)]); (with_reducible refine wp_store_mid 55 (.tmp 6) (.tmp 11) ?_ gy 0 (bitsA (B % MM)) ?_ ?_ hth hinf hone ?_); rfl; rfl; rfl; clear hth hinf hone; (have Ryn := Ry.setAll (bitsA (B % MM)) (by rw [bitsA_size, zeroA_size])); clear Ry; (first | (replace Rx := Row.setCells_far (g := gy) (o := 0) (vs := (bitsA (B % MM)).toList) Rx hne) | (replace Rx := Row.setCells_far (g := gy) (o := 0) (vs := (bitsA (B % MM)).toList) Rx hne.symm)); (have Ry := Ryn); clear Ryn; (have s0 := cell_setCells_far (g := gy) (o := 0) (vs := (bitsA (B % MM)).toList) hHeld.1 (by simp; omega)); (have s1 := cell_setCells_far (g := gy) (o := 0) (vs := (bitsA (B % MM)).toList) hHeld.2.1 (by simp; omega)); (have s2 := cell_setCells_far (g := gy) (o := 0) (vs := (bitsA (B % MM)).toList) hHeld.2.2.1 (by simp; omega)); (have s3 := cell_setCells_far (g := gy) (o := 0) (vs := (bitsA (B % MM)).toList) hHeld.2.2.2.1 (by simp; omega)); (have s4 := below_setCells my (bitsA (B % MM)).toList 0 _ hHeld.2.2.2.2); generalize wq.setCells gy 0 (bitsA (B % MM)).toList = wn at *)
          refine hK.out _ _ ?hSr1_36_7 (fun hHeld2 => ?_)
          case hSr1_36_7 => (exact ⟨s0, s1, s2, s3, s4⟩)
          clear hK K hHeld
          have hHeld := hHeld2
          clear hHeld2
          rename World => wq
          (try simp only [Act.put, List.setIfInBounds_toArray, List.set_cons_zero, List.set_cons_succ])
          refine wpAnyH_done (by kernel_rfl) ?_ _
          (go_wp2_with fail; go_meet; exact ⟨_, _, rfl, rfl, Rx, Ry, (by first | exact hne | exact hne.symm), mx, my, hHeld.2.2.2.2⟩)
        refine AllReadyH.cons (o := { dst := some 6, op := Go.Op.alloc 55, type := 0, pos := _, after := #[], guard := none }) rfl (fun K hK => ?_) AllReadyH.nil
        · ((rw [if_pos (by rfl)]); (with_reducible refine wp_alloc_run 55 z128 ?_ z128_zero z128_ne ?_); rfl; (have ly : w.heap.size + 1 < wq.heap.size := World.block_lt_of_cell? _ _ hHeld.2.2.1); (have my : W0.heap.size ≤ wq.heap.size := hHeld.2.2.2.2.size); (try have hne := Nat.ne_of_lt Rx.lt); (have Ry := Row.new wq z128 55); (have hb : Below wq.heap.size wq (wq.alloc (.cells z128 55)) := (Below.refl _ _).alloc (Nat.le_refl _) _); (have s0 := cell_later hb hHeld.1); (have s1 := cell_later hb hHeld.2.1); (have s2 := cell_later hb hHeld.2.2.1); (have s3 := cell_later hb hHeld.2.2.2.1); (have s4 := below_step hHeld.2.2.2.2 hb); (try replace Rx := Rx.later hb); clear hb; generalize wq.alloc (.cells z128 55) = wn at *; generalize wq.heap.size = gy at *)
          refine hK.out _ _ ?hSr1_37_5 (fun hHeld2 => ?_)
          case hSr1_37_5 => (exact ⟨s0, s1, s2, s3, s4⟩)
          clear hK K hHeld
          have hHeld := hHeld2
          clear hHeld2
          rename World => wq
          (try simp only [Act.put, List.setIfInBounds_toArray, List.set_cons_zero, List.set_cons_succ])
          refine wpAnyH_ready (rs := [3]) (by kernel_rfl) (by simp) ?_
          refine AllReadyH.cons (o := { dst := some 11, op := Go.Op.call { callee := Go.Callee.value (Go.Operand.func 33), args := #[Go.Operand.tmp 10], argTypes := #[34] }, type := 55, pos := _, after := #[{ on := 2, ground := Go.Ground.data }, { on := 1, ground := Go.Ground.chain }], guard := none }) rfl (fun K hK => ?_) AllReadyH.nil
          go_simp
          ((refine (bits_h _ _).mono ?_); (rintro e wn ⟨rfl, hb⟩); (try replace Rx := Rx.later hb); (try replace Ry := Ry.later hb))
          go_wp2_with fail
          refine hK.out _ _ ?hSr1_38_3 (fun hHeld2 => ?_)
          case hSr1_38_3 => (first | exact ⟨a0, a1, b0, b1, Below.drew (Below.refl _ _)⟩ | exact ⟨cell_later hb hHeld.1, cell_later hb hHeld.2.1, cell_later hb hHeld.2.2.1, cell_later hb hHeld.2.2.2.1, below_step hHeld.2.2.2.2 hb⟩)
          clear hK K hHeld
          have hHeld := hHeld2
          clear hHeld2
          rename World => wq
          (try simp only [Act.put, List.setIfInBounds_toArray, List.set_cons_zero, List.set_cons_succ])
          refine wpAnyH_ready (rs := [6]) (by kernel_rfl) (by simp) ?_
          refine AllReadyH.cons (o := { dst := none, op := Go.Op.store 55 (Go.Operand.tmp 5) (Go.Operand.tmp 9), type := 0, pos := _, after := #[{ on := 4, ground := Go.Ground.data }, { on := 1, ground := Go.Ground.data }, { on := 3, ground := Go.Ground.chain }, { on := 0, ground := Go.Ground.phase }, { on := 1, ground := Go.Ground.phase }, { on := 2, ground := Go.Ground.textOnly Go.Departure.lateStores }, { on := 3, ground := Go.Ground.textOnly Go.Departure.lateStoresUnsure }, { on := 4, ground := Go.Ground.phase }, { on := 5, ground := Go.Ground.phase }], guard := none }) rfl (fun K hK => ?_) AllReadyH.nil
          ((have hth := Rx.there (bitsA (A % MM)).size (by rw [bitsA_size, zeroA_size]; exact Nat.le_refl _)); (have hinf := bitsA_info (A % MM)); (have hone := bitsA_one (A % MM)); (rw [if_pos (by rfl)]); (with_reducible refine wp_store_mid 55 (.tmp 5) (.tmp 9) ?_ gx 0 (bitsA (A % MM)) ?_ ?_ hth hinf hone ?_); rfl; rfl; rfl; clear hth hinf hone; (have Rxn := Rx.setAll (bitsA (A % MM)) (by rw [bitsA_size, zeroA_size])); clear Rx; (first | (replace Ry := Row.setCells_far (g := gx) (o := 0) (vs := (bitsA (A % MM)).toList) Ry hne) | (replace Ry := Row.setCells_far (g := gx) (o := 0) (vs := (bitsA (A % MM)).toList) Ry hne.symm)); (have Rx := Rxn); clear Rxn; (have s0 := cell_setCells_far (g := gx) (o := 0) (vs := (bitsA (A % MM)).toList) hHeld.1 (by simp; omega)); (have s1 := cell_setCells_far (g := gx) (o := 0) (vs := (bitsA (A % MM)).toList) hHeld.2.1 (by simp; omega)); (have s2 := cell_setCells_far (g := gx) (o := 0) (vs := (bitsA (A % MM)).toList) hHeld.2.2.1 (by simp; omega)); (have s3 := cell_setCells_far (g := gx) (o := 0) (vs := (bitsA (A % MM)).toList) hHeld.2.2.2.1 (by simp; omega)); (have s4 := below_setCells mx (bitsA (A % MM)).toList 0 _ hHeld.2.2.2.2); generalize wq.setCells gx 0 (bitsA (A % MM)).toList = wn at *)
          refine hK.out _ _ ?hSr1_39_6 (fun hHeld2 => ?_)
          case hSr1_39_6 => (exact ⟨s0, s1, s2, s3, s4⟩)
          clear hK K hHeld
          have hHeld := hHeld2
          clear hHeld2
          rename World => wq
          (try simp only [Act.put, List.setIfInBounds_toArray, List.set_cons_zero, List.set_cons_succ])
          refine wpAnyH_ready (rs := [7]) (by kernel_rfl) (by simp) ?_
          refine AllReadyH.cons (o := { dst := none, op := Go.Op.store 55 (Go.Operand.tmp 6) (Go.Operand.tmp 11), type := 0, pos := _, after := #[{ on := 5, ground := Go.Ground.data }, { on := 3, ground := Go.Ground.data }, { on := 6, ground := Go.Ground.chain }, { on := 0, ground := Go.Ground.phase }, { on := 1, ground := Go.Ground.phase }, { on := 2, ground := Go.Ground.phase }, { on := 3, ground := Go.Ground.phase }, { on := 4, ground := Go.Ground.phase }, { on := 5, ground := Go.Ground.phase }, { on := 6, ground := Go.Ground.phase }], guard := none }) rfl (fun K hK => ?_) AllReadyH.nil
          ((have hth := Ry.there (bitsA (B % MM)).size (by rw [bitsA_size, zeroA_size]; exact Nat.le_refl _)); (have hinf := bitsA_info (B % MM)); (have hone := bitsA_one (B % MM)); (rw [if_pos (by rfl)]); (with_reducible refine wp_store_mid 55 (.tmp 6) (.tmp 11) ?_ gy 0 (bitsA (B % MM)) ?_ ?_ hth hinf hone ?_); rfl; rfl; rfl; clear hth hinf hone; (have Ryn := Ry.setAll (bitsA (B % MM)) (by rw [bitsA_size, zeroA_size])); clear Ry; (first | (replace Rx := Row.setCells_far (g := gy) (o := 0) (vs := (bitsA (B % MM)).toList) Rx hne) | (replace Rx := Row.setCells_far (g := gy) (o := 0) (vs := (bitsA (B % MM)).toList) Rx hne.symm)); (have Ry := Ryn); clear Ryn; (have s0 := cell_setCells_far (g := gy) (o := 0) (vs := (bitsA (B % MM)).toList) hHeld.1 (by simp; omega)); (have s1 := cell_setCells_far (g := gy) (o := 0) (vs := (bitsA (B % MM)).toList) hHeld.2.1 (by simp; omega)); (have s2 := cell_setCells_far (g := gy) (o := 0) (vs := (bitsA (B % MM)).toList) hHeld.2.2.1 (by simp; omega)); (have s3 := cell_setCells_far (g := gy) (o := 0) (vs := (bitsA (B % MM)).toList) hHeld.2.2.2.1 (by simp; omega)); (have s4 := below_setCells my (bitsA (B % MM)).toList 0 _ hHeld.2.2.2.2); generalize wq.setCells gy 0 (bitsA (B % MM)).toList = wn at *)
          refine hK.out _ _ ?hSr1_40_7 (fun hHeld2 => ?_)
          case hSr1_40_7 => (exact ⟨s0, s1, s2, s3, s4⟩)
          clear hK K hHeld
          have hHeld := hHeld2
          clear hHeld2
          rename World => wq
          (try simp only [Act.put, List.setIfInBounds_toArray, List.set_cons_zero, List.set_cons_succ])
          refine wpAnyH_done (by kernel_rfl) ?_ _
          (go_wp2_with fail; go_meet; exact ⟨_, _, rfl, rfl, Rx, Ry, (by first | exact hne | exact hne.symm), mx, my, hHeld.2.2.2.2⟩)
      refine AllReadyH.cons (o := { dst := some 6, op := Go.Op.alloc 55, type := 0, pos := _, after := #[], guard := none }) rfl (fun K hK => ?_) AllReadyH.nil
      · ((rw [if_pos (by rfl)]); (with_reducible refine wp_alloc_run 55 z128 ?_ z128_zero z128_ne ?_); rfl; (have ly : w.heap.size + 1 < wq.heap.size := World.block_lt_of_cell? _ _ hHeld.2.2.1); (have my : W0.heap.size ≤ wq.heap.size := hHeld.2.2.2.2.size); (try have hne := Nat.ne_of_lt Rx.lt); (have Ry := Row.new wq z128 55); (have hb : Below wq.heap.size wq (wq.alloc (.cells z128 55)) := (Below.refl _ _).alloc (Nat.le_refl _) _); (have s0 := cell_later hb hHeld.1); (have s1 := cell_later hb hHeld.2.1); (have s2 := cell_later hb hHeld.2.2.1); (have s3 := cell_later hb hHeld.2.2.2.1); (have s4 := below_step hHeld.2.2.2.2 hb); (try replace Rx := Rx.later hb); clear hb; generalize wq.alloc (.cells z128 55) = wn at *; generalize wq.heap.size = gy at *)
        refine hK.out _ _ ?hSr1_41_5 (fun hHeld2 => ?_)
        case hSr1_41_5 => (exact ⟨s0, s1, s2, s3, s4⟩)
        clear hK K hHeld
        have hHeld := hHeld2
        clear hHeld2
        rename World => wq
        (try simp only [Act.put, List.setIfInBounds_toArray, List.set_cons_zero, List.set_cons_succ])
        refine wpAnyH_ready (rs := [1]) (by kernel_rfl) (by simp) ?_
        refine AllReadyH.cons (o := { dst := some 9, op := Go.Op.call { callee := Go.Callee.value (Go.Operand.func 33), args := #[Go.Operand.tmp 8], argTypes := #[34] }, type := 55, pos := _, after := #[{ on := 0, ground := Go.Ground.data }], guard := none }) rfl (fun K hK => ?_) AllReadyH.nil
        go_simp
        ((refine (bits_h _ _).mono ?_); (rintro e wn ⟨rfl, hb⟩); (try replace Rx := Rx.later hb); (try replace Ry := Ry.later hb))
        go_wp2_with fail
        refine hK.out _ _ ?hSr1_42_1 (fun hHeld2 => ?_)
        case hSr1_42_1 => (first | exact ⟨a0, a1, b0, b1, Below.drew (Below.refl _ _)⟩ | exact ⟨cell_later hb hHeld.1, cell_later hb hHeld.2.1, cell_later hb hHeld.2.2.1, cell_later hb hHeld.2.2.2.1, below_step hHeld.2.2.2.2 hb⟩)
        clear hK K hHeld
        have hHeld := hHeld2
        clear hHeld2
        rename World => wq
        (try simp only [Act.put, List.setIfInBounds_toArray, List.set_cons_zero, List.set_cons_succ])
        refine wpAnyH_ready (rs := [3]) (by kernel_rfl) (by simp) ?_
        refine AllReadyH.cons (o := { dst := some 11, op := Go.Op.call { callee := Go.Callee.value (Go.Operand.func 33), args := #[Go.Operand.tmp 10], argTypes := #[34] }, type := 55, pos := _, after := #[{ on := 2, ground := Go.Ground.data }, { on := 1, ground := Go.Ground.chain }], guard := none }) rfl (fun K hK => ?_) AllReadyH.nil
        go_simp
        ((refine (bits_h _ _).mono ?_); (rintro e wn ⟨rfl, hb⟩); (try replace Rx := Rx.later hb); (try replace Ry := Ry.later hb))
        go_wp2_with fail
        refine hK.out _ _ ?hSr1_43_3 (fun hHeld2 => ?_)
        case hSr1_43_3 => (first | exact ⟨a0, a1, b0, b1, Below.drew (Below.refl _ _)⟩ | exact ⟨cell_later hb hHeld.1, cell_later hb hHeld.2.1, cell_later hb hHeld.2.2.1, cell_later hb hHeld.2.2.2.1, below_step hHeld.2.2.2.2 hb⟩)
        clear hK K hHeld
        have hHeld := hHeld2
        clear hHeld2
        rename World => wq
        (try simp only [Act.put, List.setIfInBounds_toArray, List.set_cons_zero, List.set_cons_succ])
        refine wpAnyH_ready (rs := [6]) (by kernel_rfl) (by simp) ?_
        refine AllReadyH.cons (o := { dst := none, op := Go.Op.store 55 (Go.Operand.tmp 5) (Go.Operand.tmp 9), type := 0, pos := _, after := #[{ on := 4, ground := Go.Ground.data }, { on := 1, ground := Go.Ground.data }, { on := 3, ground := Go.Ground.chain }, { on := 0, ground := Go.Ground.phase }, { on := 1, ground := Go.Ground.phase }, { on := 2, ground := Go.Ground.textOnly Go.Departure.lateStores }, { on := 3, ground := Go.Ground.textOnly Go.Departure.lateStoresUnsure }, { on := 4, ground := Go.Ground.phase }, { on := 5, ground := Go.Ground.phase }], guard := none }) rfl (fun K hK => ?_) AllReadyH.nil
        ((have hth := Rx.there (bitsA (A % MM)).size (by rw [bitsA_size, zeroA_size]; exact Nat.le_refl _)); (have hinf := bitsA_info (A % MM)); (have hone := bitsA_one (A % MM)); (rw [if_pos (by rfl)]); (with_reducible refine wp_store_mid 55 (.tmp 5) (.tmp 9) ?_ gx 0 (bitsA (A % MM)) ?_ ?_ hth hinf hone ?_); rfl; rfl; rfl; clear hth hinf hone; (have Rxn := Rx.setAll (bitsA (A % MM)) (by rw [bitsA_size, zeroA_size])); clear Rx; (first | (replace Ry := Row.setCells_far (g := gx) (o := 0) (vs := (bitsA (A % MM)).toList) Ry hne) | (replace Ry := Row.setCells_far (g := gx) (o := 0) (vs := (bitsA (A % MM)).toList) Ry hne.symm)); (have Rx := Rxn); clear Rxn; (have s0 := cell_setCells_far (g := gx) (o := 0) (vs := (bitsA (A % MM)).toList) hHeld.1 (by simp; omega)); (have s1 := cell_setCells_far (g := gx) (o := 0) (vs := (bitsA (A % MM)).toList) hHeld.2.1 (by simp; omega)); (have s2 := cell_setCells_far (g := gx) (o := 0) (vs := (bitsA (A % MM)).toList) hHeld.2.2.1 (by simp; omega)); (have s3 := cell_setCells_far (g := gx) (o := 0) (vs := (bitsA (A % MM)).toList) hHeld.2.2.2.1 (by simp; omega)); (have s4 := below_setCells mx (bitsA (A % MM)).toList 0 _ hHeld.2.2.2.2); generalize wq.setCells gx 0 (bitsA (A % MM)).toList = wn at *)
        refine hK.out _ _ ?hSr1_44_6 (fun hHeld2 => ?_)
        case hSr1_44_6 => (exact ⟨s0, s1, s2, s3, s4⟩)
        clear hK K hHeld
        have hHeld := hHeld2
        clear hHeld2
        rename World => wq
        (try simp only [Act.put, List.setIfInBounds_toArray, List.set_cons_zero, List.set_cons_succ])
        refine wpAnyH_ready (rs := [7]) (by kernel_rfl) (by simp) ?_
        refine AllReadyH.cons (o := { dst := none, op := Go.Op.store 55 (Go.Operand.tmp 6) (Go.Operand.tmp 11), type := 0, pos := _, after := #[{ on := 5, ground := Go.Ground.data }, { on := 3, ground := Go.Ground.data }, { on := 6, ground := Go.Ground.chain }, { on := 0, ground := Go.Ground.phase }, { on := 1, ground := Go.Ground.phase }, { on := 2, ground := Go.Ground.phase }, { on := 3, ground := Go.Ground.phase }, { on := 4, ground := Go.Ground.phase }, { on := 5, ground := Go.Ground.phase }, { on := 6, ground := Go.Ground.phase }], guard := none }) rfl (fun K hK => ?_) AllReadyH.nil
        ((have hth := Ry.there (bitsA (B % MM)).size (by rw [bitsA_size, zeroA_size]; exact Nat.le_refl _)); (have hinf := bitsA_info (B % MM)); (have hone := bitsA_one (B % MM)); (rw [if_pos (by rfl)]); (with_reducible refine wp_store_mid 55 (.tmp 6) (.tmp 11) ?_ gy 0 (bitsA (B % MM)) ?_ ?_ hth hinf hone ?_); rfl; rfl; rfl; clear hth hinf hone; (have Ryn := Ry.setAll (bitsA (B % MM)) (by rw [bitsA_size, zeroA_size])); clear Ry; (first | (replace Rx := Row.setCells_far (g := gy) (o := 0) (vs := (bitsA (B % MM)).toList) Rx hne) | (replace Rx := Row.setCells_far (g := gy) (o := 0) (vs := (bitsA (B % MM)).toList) Rx hne.symm)); (have Ry := Ryn); clear Ryn; (have s0 := cell_setCells_far (g := gy) (o := 0) (vs := (bitsA (B % MM)).toList) hHeld.1 (by simp; omega)); (have s1 := cell_setCells_far (g := gy) (o := 0) (vs := (bitsA (B % MM)).toList) hHeld.2.1 (by simp; omega)); (have s2 := cell_setCells_far (g := gy) (o := 0) (vs := (bitsA (B % MM)).toList) hHeld.2.2.1 (by simp; omega)); (have s3 := cell_setCells_far (g := gy) (o := 0) (vs := (bitsA (B % MM)).toList) hHeld.2.2.2.1 (by simp; omega)); (have s4 := below_setCells my (bitsA (B % MM)).toList 0 _ hHeld.2.2.2.2); generalize wq.setCells gy 0 (bitsA (B % MM)).toList = wn at *)
        refine hK.out _ _ ?hSr1_45_7 (fun hHeld2 => ?_)
        case hSr1_45_7 => (exact ⟨s0, s1, s2, s3, s4⟩)
        clear hK K hHeld
        have hHeld := hHeld2
        clear hHeld2
        rename World => wq
        (try simp only [Act.put, List.setIfInBounds_toArray, List.set_cons_zero, List.set_cons_succ])
        refine wpAnyH_done (by kernel_rfl) ?_ _
        (go_wp2_with fail; go_meet; exact ⟨_, _, rfl, rfl, Rx, Ry, (by first | exact hne | exact hne.symm), mx, my, hHeld.2.2.2.2⟩)
    refine AllReadyH.cons (o := { dst := some 6, op := Go.Op.alloc 55, type := 0, pos := _, after := #[], guard := none }) rfl (fun K hK => ?_) AllReadyH.nil
    · ((rw [if_pos (by rfl)]); (with_reducible refine wp_alloc_run 55 z128 ?_ z128_zero z128_ne ?_); rfl; (have ly : w.heap.size + 1 < wq.heap.size := World.block_lt_of_cell? _ _ hHeld.2.2.1); (have my : W0.heap.size ≤ wq.heap.size := hHeld.2.2.2.2.size); (try have hne := Nat.ne_of_lt Rx.lt); (have Ry := Row.new wq z128 55); (have hb : Below wq.heap.size wq (wq.alloc (.cells z128 55)) := (Below.refl _ _).alloc (Nat.le_refl _) _); (have s0 := cell_later hb hHeld.1); (have s1 := cell_later hb hHeld.2.1); (have s2 := cell_later hb hHeld.2.2.1); (have s3 := cell_later hb hHeld.2.2.2.1); (have s4 := below_step hHeld.2.2.2.2 hb); (try replace Rx := Rx.later hb); clear hb; generalize wq.alloc (.cells z128 55) = wn at *; generalize wq.heap.size = gy at *)
      refine hK.out _ _ ?hSr1_46_5 (fun hHeld2 => ?_)
      case hSr1_46_5 => (exact ⟨s0, s1, s2, s3, s4⟩)
      clear hK K hHeld
      have hHeld := hHeld2
      clear hHeld2
      rename World => wq
      (try simp only [Act.put, List.setIfInBounds_toArray, List.set_cons_zero, List.set_cons_succ])
      refine wpAnyH_ready (rs := [1, 4]) (by kernel_rfl) (by simp) ?_
      refine AllReadyH.cons (o := { dst := some 9, op := Go.Op.call { callee := Go.Callee.value (Go.Operand.func 33), args := #[Go.Operand.tmp 8], argTypes := #[34] }, type := 55, pos := _, after := #[{ on := 0, ground := Go.Ground.data }], guard := none }) rfl (fun K hK => ?_) ?_
      · go_simp
        ((refine (bits_h _ _).mono ?_); (rintro e wn ⟨rfl, hb⟩); (try replace Rx := Rx.later hb); (try replace Ry := Ry.later hb))
        go_wp2_with fail
        refine hK.out _ _ ?hSr1_47_1 (fun hHeld2 => ?_)
        case hSr1_47_1 => (first | exact ⟨a0, a1, b0, b1, Below.drew (Below.refl _ _)⟩ | exact ⟨cell_later hb hHeld.1, cell_later hb hHeld.2.1, cell_later hb hHeld.2.2.1, cell_later hb hHeld.2.2.2.1, below_step hHeld.2.2.2.2 hb⟩)
        clear hK K hHeld
        have hHeld := hHeld2
        clear hHeld2
        rename World => wq
        (try simp only [Act.put, List.setIfInBounds_toArray, List.set_cons_zero, List.set_cons_succ])
        refine wpAnyH_ready (rs := [3, 4]) (by kernel_rfl) (by simp) ?_
        refine AllReadyH.cons (o := { dst := some 11, op := Go.Op.call { callee := Go.Callee.value (Go.Operand.func 33), args := #[Go.Operand.tmp 10], argTypes := #[34] }, type := 55, pos := _, after := #[{ on := 2, ground := Go.Ground.data }, { on := 1, ground := Go.Ground.chain }], guard := none }) rfl (fun K hK => ?_) ?_
        · go_simp
          ((refine (bits_h _ _).mono ?_); (rintro e wn ⟨rfl, hb⟩); (try replace Rx := Rx.later hb); (try replace Ry := Ry.later hb))
          go_wp2_with fail
          refine hK.out _ _ ?hSr1_48_3 (fun hHeld2 => ?_)
          case hSr1_48_3 => (first | exact ⟨a0, a1, b0, b1, Below.drew (Below.refl _ _)⟩ | exact ⟨cell_later hb hHeld.1, cell_later hb hHeld.2.1, cell_later hb hHeld.2.2.1, cell_later hb hHeld.2.2.2.1, below_step hHeld.2.2.2.2 hb⟩)
          clear hK K hHeld
          have hHeld := hHeld2
          clear hHeld2
          rename World => wq
          (try simp only [Act.put, List.setIfInBounds_toArray, List.set_cons_zero, List.set_cons_succ])
          refine wpAnyH_ready (rs := [4]) (by kernel_rfl) (by simp) ?_
          refine AllReadyH.cons (o := { dst := some 5, op := Go.Op.alloc 55, type := 0, pos := _, after := #[], guard := none }) rfl (fun K hK => ?_) AllReadyH.nil
          ((rw [if_pos (by rfl)]); (with_reducible refine wp_alloc_run 55 z128 ?_ z128_zero z128_ne ?_); rfl; (have lx : w.heap.size + 1 < wq.heap.size := World.block_lt_of_cell? _ _ hHeld.2.2.1); (have mx : W0.heap.size ≤ wq.heap.size := hHeld.2.2.2.2.size); (try have hne := Nat.ne_of_lt Ry.lt); (have Rx := Row.new wq z128 55); (have hb : Below wq.heap.size wq (wq.alloc (.cells z128 55)) := (Below.refl _ _).alloc (Nat.le_refl _) _); (have s0 := cell_later hb hHeld.1); (have s1 := cell_later hb hHeld.2.1); (have s2 := cell_later hb hHeld.2.2.1); (have s3 := cell_later hb hHeld.2.2.2.1); (have s4 := below_step hHeld.2.2.2.2 hb); (try replace Ry := Ry.later hb); clear hb; generalize wq.alloc (.cells z128 55) = wn at *; generalize wq.heap.size = gx at *)
          refine hK.out _ _ ?hSr1_49_4 (fun hHeld2 => ?_)
          case hSr1_49_4 => (exact ⟨s0, s1, s2, s3, s4⟩)
          clear hK K hHeld
          have hHeld := hHeld2
          clear hHeld2
          rename World => wq
          (try simp only [Act.put, List.setIfInBounds_toArray, List.set_cons_zero, List.set_cons_succ])
          refine wpAnyH_ready (rs := [6]) (by kernel_rfl) (by simp) ?_
          refine AllReadyH.cons (o := { dst := none, op := Go.Op.store 55 (Go.Operand.tmp 5) (Go.Operand.tmp 9), type := 0, pos := _, after := #[{ on := 4, ground := Go.Ground.data }, { on := 1, ground := Go.Ground.data }, { on := 3, ground := Go.Ground.chain }, { on := 0, ground := Go.Ground.phase }, { on := 1, ground := Go.Ground.phase }, { on := 2, ground := Go.Ground.textOnly Go.Departure.lateStores }, { on := 3, ground := Go.Ground.textOnly Go.Departure.lateStoresUnsure }, { on := 4, ground := Go.Ground.phase }, { on := 5, ground := Go.Ground.phase }], guard := none }) rfl (fun K hK => ?_) AllReadyH.nil
          ((have hth := Rx.there (bitsA (A % MM)).size (by rw [bitsA_size, zeroA_size]; exact Nat.le_refl _)); (have hinf := bitsA_info (A % MM)); (have hone := bitsA_one (A % MM)); (rw [if_pos (by rfl)]); (with_reducible refine wp_store_mid 55 (.tmp 5) (.tmp 9) ?_ gx 0 (bitsA (A % MM)) ?_ ?_ hth hinf hone ?_); rfl; rfl; rfl; clear hth hinf hone; (have Rxn := Rx.setAll (bitsA (A % MM)) (by rw [bitsA_size, zeroA_size])); clear Rx; (first | (replace Ry := Row.setCells_far (g := gx) (o := 0) (vs := (bitsA (A % MM)).toList) Ry hne) | (replace Ry := Row.setCells_far (g := gx) (o := 0) (vs := (bitsA (A % MM)).toList) Ry hne.symm)); (have Rx := Rxn); clear Rxn; (have s0 := cell_setCells_far (g := gx) (o := 0) (vs := (bitsA (A % MM)).toList) hHeld.1 (by simp; omega)); (have s1 := cell_setCells_far (g := gx) (o := 0) (vs := (bitsA (A % MM)).toList) hHeld.2.1 (by simp; omega)); (have s2 := cell_setCells_far (g := gx) (o := 0) (vs := (bitsA (A % MM)).toList) hHeld.2.2.1 (by simp; omega)); (have s3 := cell_setCells_far (g := gx) (o := 0) (vs := (bitsA (A % MM)).toList) hHeld.2.2.2.1 (by simp; omega)); (have s4 := below_setCells mx (bitsA (A % MM)).toList 0 _ hHeld.2.2.2.2); generalize wq.setCells gx 0 (bitsA (A % MM)).toList = wn at *)
          refine hK.out _ _ ?hSr1_50_6 (fun hHeld2 => ?_)
          case hSr1_50_6 => (exact ⟨s0, s1, s2, s3, s4⟩)
          clear hK K hHeld
          have hHeld := hHeld2
          clear hHeld2
          rename World => wq
          (try simp only [Act.put, List.setIfInBounds_toArray, List.set_cons_zero, List.set_cons_succ])
          refine wpAnyH_ready (rs := [7]) (by kernel_rfl) (by simp) ?_
          refine AllReadyH.cons (o := { dst := none, op := Go.Op.store 55 (Go.Operand.tmp 6) (Go.Operand.tmp 11), type := 0, pos := _, after := #[{ on := 5, ground := Go.Ground.data }, { on := 3, ground := Go.Ground.data }, { on := 6, ground := Go.Ground.chain }, { on := 0, ground := Go.Ground.phase }, { on := 1, ground := Go.Ground.phase }, { on := 2, ground := Go.Ground.phase }, { on := 3, ground := Go.Ground.phase }, { on := 4, ground := Go.Ground.phase }, { on := 5, ground := Go.Ground.phase }, { on := 6, ground := Go.Ground.phase }], guard := none }) rfl (fun K hK => ?_) AllReadyH.nil
          ((have hth := Ry.there (bitsA (B % MM)).size (by rw [bitsA_size, zeroA_size]; exact Nat.le_refl _)); (have hinf := bitsA_info (B % MM)); (have hone := bitsA_one (B % MM)); (rw [if_pos (by rfl)]); (with_reducible refine wp_store_mid 55 (.tmp 6) (.tmp 11) ?_ gy 0 (bitsA (B % MM)) ?_ ?_ hth hinf hone ?_); rfl; rfl; rfl; clear hth hinf hone; (have Ryn := Ry.setAll (bitsA (B % MM)) (by rw [bitsA_size, zeroA_size])); clear Ry; (first | (replace Rx := Row.setCells_far (g := gy) (o := 0) (vs := (bitsA (B % MM)).toList) Rx hne) | (replace Rx := Row.setCells_far (g := gy) (o := 0) (vs := (bitsA (B % MM)).toList) Rx hne.symm)); (have Ry := Ryn); clear Ryn; (have s0 := cell_setCells_far (g := gy) (o := 0) (vs := (bitsA (B % MM)).toList) hHeld.1 (by simp; omega)); (have s1 := cell_setCells_far (g := gy) (o := 0) (vs := (bitsA (B % MM)).toList) hHeld.2.1 (by simp; omega)); (have s2 := cell_setCells_far (g := gy) (o := 0) (vs := (bitsA (B % MM)).toList) hHeld.2.2.1 (by simp; omega)); (have s3 := cell_setCells_far (g := gy) (o := 0) (vs := (bitsA (B % MM)).toList) hHeld.2.2.2.1 (by simp; omega)); (have s4 := below_setCells my (bitsA (B % MM)).toList 0 _ hHeld.2.2.2.2); generalize wq.setCells gy 0 (bitsA (B % MM)).toList = wn at *)
          refine hK.out _ _ ?hSr1_51_7 (fun hHeld2 => ?_)
          case hSr1_51_7 => (exact ⟨s0, s1, s2, s3, s4⟩)
          clear hK K hHeld
          have hHeld := hHeld2
          clear hHeld2
          rename World => wq
          (try simp only [Act.put, List.setIfInBounds_toArray, List.set_cons_zero, List.set_cons_succ])
          refine wpAnyH_done (by kernel_rfl) ?_ _
          (go_wp2_with fail; go_meet; exact ⟨_, _, rfl, rfl, Rx, Ry, (by first | exact hne | exact hne.symm), mx, my, hHeld.2.2.2.2⟩)
        refine AllReadyH.cons (o := { dst := some 5, op := Go.Op.alloc 55, type := 0, pos := _, after := #[], guard := none }) rfl (fun K hK => ?_) AllReadyH.nil
        · ((rw [if_pos (by rfl)]); (with_reducible refine wp_alloc_run 55 z128 ?_ z128_zero z128_ne ?_); rfl; (have lx : w.heap.size + 1 < wq.heap.size := World.block_lt_of_cell? _ _ hHeld.2.2.1); (have mx : W0.heap.size ≤ wq.heap.size := hHeld.2.2.2.2.size); (try have hne := Nat.ne_of_lt Ry.lt); (have Rx := Row.new wq z128 55); (have hb : Below wq.heap.size wq (wq.alloc (.cells z128 55)) := (Below.refl _ _).alloc (Nat.le_refl _) _); (have s0 := cell_later hb hHeld.1); (have s1 := cell_later hb hHeld.2.1); (have s2 := cell_later hb hHeld.2.2.1); (have s3 := cell_later hb hHeld.2.2.2.1); (have s4 := below_step hHeld.2.2.2.2 hb); (try replace Ry := Ry.later hb); clear hb; generalize wq.alloc (.cells z128 55) = wn at *; generalize wq.heap.size = gx at *)
          refine hK.out _ _ ?hSr1_52_4 (fun hHeld2 => ?_)
          case hSr1_52_4 => (exact ⟨s0, s1, s2, s3, s4⟩)
          clear hK K hHeld
          have hHeld := hHeld2
          clear hHeld2
          rename World => wq
          (try simp only [Act.put, List.setIfInBounds_toArray, List.set_cons_zero, List.set_cons_succ])
          refine wpAnyH_ready (rs := [3]) (by kernel_rfl) (by simp) ?_
          refine AllReadyH.cons (o := { dst := some 11, op := Go.Op.call { callee := Go.Callee.value (Go.Operand.func 33), args := #[Go.Operand.tmp 10], argTypes := #[34] }, type := 55, pos := _, after := #[{ on := 2, ground := Go.Ground.data }, { on := 1, ground := Go.Ground.chain }], guard := none }) rfl (fun K hK => ?_) AllReadyH.nil
          go_simp
          ((refine (bits_h _ _).mono ?_); (rintro e wn ⟨rfl, hb⟩); (try replace Rx := Rx.later hb); (try replace Ry := Ry.later hb))
          go_wp2_with fail
          refine hK.out _ _ ?hSr1_53_3 (fun hHeld2 => ?_)
          case hSr1_53_3 => (first | exact ⟨a0, a1, b0, b1, Below.drew (Below.refl _ _)⟩ | exact ⟨cell_later hb hHeld.1, cell_later hb hHeld.2.1, cell_later hb hHeld.2.2.1, cell_later hb hHeld.2.2.2.1, below_step hHeld.2.2.2.2 hb⟩)
          clear hK K hHeld
          have hHeld := hHeld2
          clear hHeld2
          rename World => wq
          (try simp only [Act.put, List.setIfInBounds_toArray, List.set_cons_zero, List.set_cons_succ])
          refine wpAnyH_ready (rs := [6]) (by kernel_rfl) (by simp) ?_
          refine AllReadyH.cons (o := { dst := none, op := Go.Op.store 55 (Go.Operand.tmp 5) (Go.Operand.tmp 9), type := 0, pos := _, after := #[{ on := 4, ground := Go.Ground.data }, { on := 1, ground := Go.Ground.data }, { on := 3, ground := Go.Ground.chain }, { on := 0, ground := Go.Ground.phase }, { on := 1, ground := Go.Ground.phase }, { on := 2, ground := Go.Ground.textOnly Go.Departure.lateStores }, { on := 3, ground := Go.Ground.textOnly Go.Departure.lateStoresUnsure }, { on := 4, ground := Go.Ground.phase }, { on := 5, ground := Go.Ground.phase }], guard := none }) rfl (fun K hK => ?_) AllReadyH.nil
          ((have hth := Rx.there (bitsA (A % MM)).size (by rw [bitsA_size, zeroA_size]; exact Nat.le_refl _)); (have hinf := bitsA_info (A % MM)); (have hone := bitsA_one (A % MM)); (rw [if_pos (by rfl)]); (with_reducible refine wp_store_mid 55 (.tmp 5) (.tmp 9) ?_ gx 0 (bitsA (A % MM)) ?_ ?_ hth hinf hone ?_); rfl; rfl; rfl; clear hth hinf hone; (have Rxn := Rx.setAll (bitsA (A % MM)) (by rw [bitsA_size, zeroA_size])); clear Rx; (first | (replace Ry := Row.setCells_far (g := gx) (o := 0) (vs := (bitsA (A % MM)).toList) Ry hne) | (replace Ry := Row.setCells_far (g := gx) (o := 0) (vs := (bitsA (A % MM)).toList) Ry hne.symm)); (have Rx := Rxn); clear Rxn; (have s0 := cell_setCells_far (g := gx) (o := 0) (vs := (bitsA (A % MM)).toList) hHeld.1 (by simp; omega)); (have s1 := cell_setCells_far (g := gx) (o := 0) (vs := (bitsA (A % MM)).toList) hHeld.2.1 (by simp; omega)); (have s2 := cell_setCells_far (g := gx) (o := 0) (vs := (bitsA (A % MM)).toList) hHeld.2.2.1 (by simp; omega)); (have s3 := cell_setCells_far (g := gx) (o := 0) (vs := (bitsA (A % MM)).toList) hHeld.2.2.2.1 (by simp; omega)); (have s4 := below_setCells mx (bitsA (A % MM)).toList 0 _ hHeld.2.2.2.2); generalize wq.setCells gx 0 (bitsA (A % MM)).toList = wn at *)
          refine hK.out _ _ ?hSr1_54_6 (fun hHeld2 => ?_)
          case hSr1_54_6 => (exact ⟨s0, s1, s2, s3, s4⟩)
          clear hK K hHeld
          have hHeld := hHeld2
          clear hHeld2
          rename World => wq
          (try simp only [Act.put, List.setIfInBounds_toArray, List.set_cons_zero, List.set_cons_succ])
          refine wpAnyH_ready (rs := [7]) (by kernel_rfl) (by simp) ?_
          refine AllReadyH.cons (o := { dst := none, op := Go.Op.store 55 (Go.Operand.tmp 6) (Go.Operand.tmp 11), type := 0, pos := _, after := #[{ on := 5, ground := Go.Ground.data }, { on := 3, ground := Go.Ground.data }, { on := 6, ground := Go.Ground.chain }, { on := 0, ground := Go.Ground.phase }, { on := 1, ground := Go.Ground.phase }, { on := 2, ground := Go.Ground.phase }, { on := 3, ground := Go.Ground.phase }, { on := 4, ground := Go.Ground.phase }, { on := 5, ground := Go.Ground.phase }, { on := 6, ground := Go.Ground.phase }], guard := none }) rfl (fun K hK => ?_) AllReadyH.nil
          ((have hth := Ry.there (bitsA (B % MM)).size (by rw [bitsA_size, zeroA_size]; exact Nat.le_refl _)); (have hinf := bitsA_info (B % MM)); (have hone := bitsA_one (B % MM)); (rw [if_pos (by rfl)]); (with_reducible refine wp_store_mid 55 (.tmp 6) (.tmp 11) ?_ gy 0 (bitsA (B % MM)) ?_ ?_ hth hinf hone ?_); rfl; rfl; rfl; clear hth hinf hone; (have Ryn := Ry.setAll (bitsA (B % MM)) (by rw [bitsA_size, zeroA_size])); clear Ry; (first | (replace Rx := Row.setCells_far (g := gy) (o := 0) (vs := (bitsA (B % MM)).toList) Rx hne) | (replace Rx := Row.setCells_far (g := gy) (o := 0) (vs := (bitsA (B % MM)).toList) Rx hne.symm)); (have Ry := Ryn); clear Ryn; (have s0 := cell_setCells_far (g := gy) (o := 0) (vs := (bitsA (B % MM)).toList) hHeld.1 (by simp; omega)); (have s1 := cell_setCells_far (g := gy) (o := 0) (vs := (bitsA (B % MM)).toList) hHeld.2.1 (by simp; omega)); (have s2 := cell_setCells_far (g := gy) (o := 0) (vs := (bitsA (B % MM)).toList) hHeld.2.2.1 (by simp; omega)); (have s3 := cell_setCells_far (g := gy) (o := 0) (vs := (bitsA (B % MM)).toList) hHeld.2.2.2.1 (by simp; omega)); (have s4 := below_setCells my (bitsA (B % MM)).toList 0 _ hHeld.2.2.2.2); generalize wq.setCells gy 0 (bitsA (B % MM)).toList = wn at *)
          refine hK.out _ _ ?hSr1_55_7 (fun hHeld2 => ?_)
          case hSr1_55_7 => (exact ⟨s0, s1, s2, s3, s4⟩)
          clear hK K hHeld
          have hHeld := hHeld2
          clear hHeld2
          rename World => wq
          (try simp only [Act.put, List.setIfInBounds_toArray, List.set_cons_zero, List.set_cons_succ])
          refine wpAnyH_done (by kernel_rfl) ?_ _
          (go_wp2_with fail; go_meet; exact ⟨_, _, rfl, rfl, Rx, Ry, (by first | exact hne | exact hne.symm), mx, my, hHeld.2.2.2.2⟩)
      refine AllReadyH.cons (o := { dst := some 5, op := Go.Op.alloc 55, type := 0, pos := _, after := #[], guard := none }) rfl (fun K hK => ?_) AllReadyH.nil
      · ((rw [if_pos (by rfl)]); (with_reducible refine wp_alloc_run 55 z128 ?_ z128_zero z128_ne ?_); rfl; (have lx : w.heap.size + 1 < wq.heap.size := World.block_lt_of_cell? _ _ hHeld.2.2.1); (have mx : W0.heap.size ≤ wq.heap.size := hHeld.2.2.2.2.size); (try have hne := Nat.ne_of_lt Ry.lt); (have Rx := Row.new wq z128 55); (have hb : Below wq.heap.size wq (wq.alloc (.cells z128 55)) := (Below.refl _ _).alloc (Nat.le_refl _) _); (have s0 := cell_later hb hHeld.1); (have s1 := cell_later hb hHeld.2.1); (have s2 := cell_later hb hHeld.2.2.1); (have s3 := cell_later hb hHeld.2.2.2.1); (have s4 := below_step hHeld.2.2.2.2 hb); (try replace Ry := Ry.later hb); clear hb; generalize wq.alloc (.cells z128 55) = wn at *; generalize wq.heap.size = gx at *)
        refine hK.out _ _ ?hSr1_56_4 (fun hHeld2 => ?_)
        case hSr1_56_4 => (exact ⟨s0, s1, s2, s3, s4⟩)
        clear hK K hHeld
        have hHeld := hHeld2
        clear hHeld2
        rename World => wq
        (try simp only [Act.put, List.setIfInBounds_toArray, List.set_cons_zero, List.set_cons_succ])
        refine wpAnyH_ready (rs := [1]) (by kernel_rfl) (by simp) ?_
        refine AllReadyH.cons (o := { dst := some 9, op := Go.Op.call { callee := Go.Callee.value (Go.Operand.func 33), args := #[Go.Operand.tmp 8], argTypes := #[34] }, type := 55, pos := _, after := #[{ on := 0, ground := Go.Ground.data }], guard := none }) rfl (fun K hK => ?_) AllReadyH.nil
        go_simp
        ((refine (bits_h _ _).mono ?_); (rintro e wn ⟨rfl, hb⟩); (try replace Rx := Rx.later hb); (try replace Ry := Ry.later hb))
        go_wp2_with fail
        refine hK.out _ _ ?hSr1_57_1 (fun hHeld2 => ?_)
        case hSr1_57_1 => (first | exact ⟨a0, a1, b0, b1, Below.drew (Below.refl _ _)⟩ | exact ⟨cell_later hb hHeld.1, cell_later hb hHeld.2.1, cell_later hb hHeld.2.2.1, cell_later hb hHeld.2.2.2.1, below_step hHeld.2.2.2.2 hb⟩)
        clear hK K hHeld
        have hHeld := hHeld2
        clear hHeld2
        rename World => wq
        (try simp only [Act.put, List.setIfInBounds_toArray, List.set_cons_zero, List.set_cons_succ])
        refine wpAnyH_ready (rs := [3]) (by kernel_rfl) (by simp) ?_
        refine AllReadyH.cons (o := { dst := some 11, op := Go.Op.call { callee := Go.Callee.value (Go.Operand.func 33), args := #[Go.Operand.tmp 10], argTypes := #[34] }, type := 55, pos := _, after := #[{ on := 2, ground := Go.Ground.data }, { on := 1, ground := Go.Ground.chain }], guard := none }) rfl (fun K hK => ?_) AllReadyH.nil
        go_simp
        ((refine (bits_h _ _).mono ?_); (rintro e wn ⟨rfl, hb⟩); (try replace Rx := Rx.later hb); (try replace Ry := Ry.later hb))
        go_wp2_with fail
        refine hK.out _ _ ?hSr1_58_3 (fun hHeld2 => ?_)
        case hSr1_58_3 => (first | exact ⟨a0, a1, b0, b1, Below.drew (Below.refl _ _)⟩ | exact ⟨cell_later hb hHeld.1, cell_later hb hHeld.2.1, cell_later hb hHeld.2.2.1, cell_later hb hHeld.2.2.2.1, below_step hHeld.2.2.2.2 hb⟩)
        clear hK K hHeld
        have hHeld := hHeld2
        clear hHeld2
        rename World => wq
        (try simp only [Act.put, List.setIfInBounds_toArray, List.set_cons_zero, List.set_cons_succ])
        refine wpAnyH_ready (rs := [6]) (by kernel_rfl) (by simp) ?_
        refine AllReadyH.cons (o := { dst := none, op := Go.Op.store 55 (Go.Operand.tmp 5) (Go.Operand.tmp 9), type := 0, pos := _, after := #[{ on := 4, ground := Go.Ground.data }, { on := 1, ground := Go.Ground.data }, { on := 3, ground := Go.Ground.chain }, { on := 0, ground := Go.Ground.phase }, { on := 1, ground := Go.Ground.phase }, { on := 2, ground := Go.Ground.textOnly Go.Departure.lateStores }, { on := 3, ground := Go.Ground.textOnly Go.Departure.lateStoresUnsure }, { on := 4, ground := Go.Ground.phase }, { on := 5, ground := Go.Ground.phase }], guard := none }) rfl (fun K hK => ?_) AllReadyH.nil
        ((have hth := Rx.there (bitsA (A % MM)).size (by rw [bitsA_size, zeroA_size]; exact Nat.le_refl _)); (have hinf := bitsA_info (A % MM)); (have hone := bitsA_one (A % MM)); (rw [if_pos (by rfl)]); (with_reducible refine wp_store_mid 55 (.tmp 5) (.tmp 9) ?_ gx 0 (bitsA (A % MM)) ?_ ?_ hth hinf hone ?_); rfl; rfl; rfl; clear hth hinf hone; (have Rxn := Rx.setAll (bitsA (A % MM)) (by rw [bitsA_size, zeroA_size])); clear Rx; (first | (replace Ry := Row.setCells_far (g := gx) (o := 0) (vs := (bitsA (A % MM)).toList) Ry hne) | (replace Ry := Row.setCells_far (g := gx) (o := 0) (vs := (bitsA (A % MM)).toList) Ry hne.symm)); (have Rx := Rxn); clear Rxn; (have s0 := cell_setCells_far (g := gx) (o := 0) (vs := (bitsA (A % MM)).toList) hHeld.1 (by simp; omega)); (have s1 := cell_setCells_far (g := gx) (o := 0) (vs := (bitsA (A % MM)).toList) hHeld.2.1 (by simp; omega)); (have s2 := cell_setCells_far (g := gx) (o := 0) (vs := (bitsA (A % MM)).toList) hHeld.2.2.1 (by simp; omega)); (have s3 := cell_setCells_far (g := gx) (o := 0) (vs := (bitsA (A % MM)).toList) hHeld.2.2.2.1 (by simp; omega)); (have s4 := below_setCells mx (bitsA (A % MM)).toList 0 _ hHeld.2.2.2.2); generalize wq.setCells gx 0 (bitsA (A % MM)).toList = wn at *)
        refine hK.out _ _ ?hSr1_59_6 (fun hHeld2 => ?_)
        case hSr1_59_6 => (exact ⟨s0, s1, s2, s3, s4⟩)
        clear hK K hHeld
        have hHeld := hHeld2
        clear hHeld2
        rename World => wq
        (try simp only [Act.put, List.setIfInBounds_toArray, List.set_cons_zero, List.set_cons_succ])
        refine wpAnyH_ready (rs := [7]) (by kernel_rfl) (by simp) ?_
        refine AllReadyH.cons (o := { dst := none, op := Go.Op.store 55 (Go.Operand.tmp 6) (Go.Operand.tmp 11), type := 0, pos := _, after := #[{ on := 5, ground := Go.Ground.data }, { on := 3, ground := Go.Ground.data }, { on := 6, ground := Go.Ground.chain }, { on := 0, ground := Go.Ground.phase }, { on := 1, ground := Go.Ground.phase }, { on := 2, ground := Go.Ground.phase }, { on := 3, ground := Go.Ground.phase }, { on := 4, ground := Go.Ground.phase }, { on := 5, ground := Go.Ground.phase }, { on := 6, ground := Go.Ground.phase }], guard := none }) rfl (fun K hK => ?_) AllReadyH.nil
        ((have hth := Ry.there (bitsA (B % MM)).size (by rw [bitsA_size, zeroA_size]; exact Nat.le_refl _)); (have hinf := bitsA_info (B % MM)); (have hone := bitsA_one (B % MM)); (rw [if_pos (by rfl)]); (with_reducible refine wp_store_mid 55 (.tmp 6) (.tmp 11) ?_ gy 0 (bitsA (B % MM)) ?_ ?_ hth hinf hone ?_); rfl; rfl; rfl; clear hth hinf hone; (have Ryn := Ry.setAll (bitsA (B % MM)) (by rw [bitsA_size, zeroA_size])); clear Ry; (first | (replace Rx := Row.setCells_far (g := gy) (o := 0) (vs := (bitsA (B % MM)).toList) Rx hne) | (replace Rx := Row.setCells_far (g := gy) (o := 0) (vs := (bitsA (B % MM)).toList) Rx hne.symm)); (have Ry := Ryn); clear Ryn; (have s0 := cell_setCells_far (g := gy) (o := 0) (vs := (bitsA (B % MM)).toList) hHeld.1 (by simp; omega)); (have s1 := cell_setCells_far (g := gy) (o := 0) (vs := (bitsA (B % MM)).toList) hHeld.2.1 (by simp; omega)); (have s2 := cell_setCells_far (g := gy) (o := 0) (vs := (bitsA (B % MM)).toList) hHeld.2.2.1 (by simp; omega)); (have s3 := cell_setCells_far (g := gy) (o := 0) (vs := (bitsA (B % MM)).toList) hHeld.2.2.2.1 (by simp; omega)); (have s4 := below_setCells my (bitsA (B % MM)).toList 0 _ hHeld.2.2.2.2); generalize wq.setCells gy 0 (bitsA (B % MM)).toList = wn at *)
        refine hK.out _ _ ?hSr1_60_7 (fun hHeld2 => ?_)
        case hSr1_60_7 => (exact ⟨s0, s1, s2, s3, s4⟩)
        clear hK K hHeld
        have hHeld := hHeld2
        clear hHeld2
        rename World => wq
        (try simp only [Act.put, List.setIfInBounds_toArray, List.set_cons_zero, List.set_cons_succ])
        refine wpAnyH_done (by kernel_rfl) ?_ _
        (go_wp2_with fail; go_meet; exact ⟨_, _, rfl, rfl, Rx, Ry, (by first | exact hne | exact hne.symm), mx, my, hHeld.2.2.2.2⟩)
  case rest =>
    obtain ⟨gx, gy, rfl, rfl, Rx, Ry, hne, hgx, hgy, hbc⟩ := hcut
    go_wp2
    go_loopw [7] (fun i wr => ∃ k : Nat, k ≤ 128 ∧ i = .int .i64 k ∧ (∀ j : Nat, j < k → bitF (A % MM) j = bitF (B % MM) j) ∧ Row wr gx (bitsA (A % MM)) 55 ∧ Row wr gy (bitsA (B % MM)) 55 ∧ Below W0.heap.size W0 wr) (fun i _ => 128 - (intOf i).toNat)
    case atStart => exact ⟨0, by omega, rfl, fun j hj => absurd hj (by omega), Rx, Ry, hbc⟩
    case round =>
      clear Rx Ry hbc a0 a1 b0 b1
      obtain ⟨k, hk, rfl, hs, Rx, Ry, hbc⟩ := hrel
      by_cases hlt : k < 128
      · have hkb : decide ((k : Int) < 128) = true := by simp; omega
        have cx := (Rx.cell k).trans (bitsA_get _ k hlt)
        have cy := (Ry.cell k).trans (bitsA_get _ k hlt)
        have b3 : (k : Int) < 128 := by omega
        have b4 : (0 : Int) ≤ (k : Int) := by omega
        have hl := cmp_bit A B k hlt hs
        have hg := fun h => cmp_bit B A k hlt (fun j hj => (hs j hj).symm) h
        have HS := Lib.hid hs; have HL := Lib.hid hl; have HG := Lib.hid hg; clear hs hl hg
        by_cases c1 : bitF (A % MM) k < bitF (B % MM) k
        · have d1 : decide (bitF (A % MM) k < bitF (B % MM) k) = true := decide_eq_true c1
          have hl := HL.out c1
          go_wp2
          go_region
          all_goals go_wp2
          go_ret
          exact ⟨ret_int (by unfold cmpI; rw [if_pos hl]), below_step hbW hbc.drew⟩
        · have d1 : decide (bitF (A % MM) k < bitF (B % MM) k) = false := decide_eq_false c1
          by_cases c2 : bitF (B % MM) k < bitF (A % MM) k
          · have d2 : decide (bitF (B % MM) k < bitF (A % MM) k) = true := decide_eq_true c2
            have hl := HG.out c2
            go_wp2
            go_region
            all_goals go_wp2
            go_region
            all_goals go_wp2
            go_ret
            exact ⟨ret_int (by unfold cmpI; rw [if_neg (by omega), if_neg (by omega)]), below_step hbW hbc.drew.drew⟩
          · have d2 : decide (bitF (B % MM) k < bitF (A % MM) k) = false := decide_eq_false c2
            go_wp2
            go_region
            all_goals go_wp2
            go_region
            all_goals go_wp2
            refine ⟨⟨k + 1, by omega, by go_num, ?_, Rx.drew.drew, Ry.drew.drew, hbc.drew.drew⟩, by simp [intOf]; omega⟩
            intro j hj
            by_cases hjk : j = k
            · rw [hjk]; omega
            · exact HS.out j (by omega)
      · obtain rfl : k = 128 := by omega
        have he := cmp_all A B hs
        have HE := Lib.hid he; clear he hs
        go_wp2
        go_ret
        exact ⟨ret_int (by unfold cmpI; rw [if_neg (by rw [HE.out]; omega), if_pos HE.out]), below_step hbW hbc⟩
end Go.Proofs.Ythohpcbfohlmhaa
