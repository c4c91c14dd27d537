/- RefSubN, AsN, V5, V6: what the theorem needs of these texts. No conditions beyond those that are written. -/
import Derived.Test.YthohpcbfohlmhaaRefCmpN
namespace Go.Proofs.Ythohpcbfohlmhaa
set_option linter.unusedVariables false
set_option linter.unusedSimpArgs false
open Go.RowKit
theorem exec_load_row {P : Program} {o : Oper} {a : Act} {w : World} (ty : TypeId) (x : Operand) (ho : o.op = .load ty x) (g : Nat) (hx : a.eval x = .pointer (some ⟨g, 0, none⟩)) (t : TypeId) (cs : Array Value) (d : TypeDesc) (hg : Row w g cs t)
    (hu : P.underlying ty = some d) (hd : (match d with | .struct _ | .array _ _ => true | _ => false) = true) (hi : (P.info? ty).map (·.size) = some cs.size) : (execOp a.eval o).run P w = .ok (.value (.agg cs)) w := by
  unfold execOp
  simp only [ho, hx, Instr.loadAt, Instr.sureAddr, Sem.run_bind, Sem.run_pure, Result.andThen_ok, run_loadVar_row w g t ty cs (0, 0) d hg hu hd hi]
/-- the first k bits turned -/
def notK (n : Int) (k : Nat) : Nat → Int := fun j => if j < k then 1 - bitF n j else bitF n j
theorem notK_step (n : Int) (k : Nat) (hk : k < 128) : (arrV (notK n k)).setIfInBounds k (.int .u64 (1 - bitF n k)) = arrV (notK n (k + 1)) := by
  rw [arrV_set _ _ _ hk]
  apply arrV_congr
  intro j hj
  unfold notK
  by_cases h : j = k
  · rw [if_pos h, if_pos (by omega), h]
  · rw [if_neg h]
    by_cases h2 : j < k
    · rw [if_pos h2, if_pos (by omega)]
    · rw [if_neg h2, if_neg (by omega)]
theorem not_bit (b : Int) (k : Nat) (hk : k ≤ 128) : (340282366920938463463374607431768211455 - b) / 2 ^ k = (2 ^ (128 - k) - 1) - b / 2 ^ k := by
  have hp : (0 : Int) < 2 ^ k := Int.pow_pos (by decide)
  have e : (340282366920938463463374607431768211456 : Int) = 2 ^ k * 2 ^ (128 - k) := by rw [← Int.pow_add, show k + (128 - k) = 128 by omega]; rfl
  have e' : (340282366920938463463374607431768211455 : Int) - b = (2 ^ k - 1 - b % 2 ^ k) + 2 ^ k * (2 ^ (128 - k) - 1 - b / 2 ^ k) := by
    have h1 : b % 2 ^ k + 2 ^ k * (b / 2 ^ k) = b := Int.emod_add_mul_ediv _ _
    rw [Int.mul_sub, Int.mul_sub, ← e]; omega
  have d2 : 0 ≤ b % 2 ^ k := Int.emod_nonneg _ (Int.ne_of_gt hp)
  have d3 : b % 2 ^ k < 2 ^ k := Int.emod_lt_of_pos _ hp
  rw [e', Int.add_mul_ediv_left _ _ (Int.ne_of_gt hp), Int.ediv_eq_zero_of_lt (by omega) (by omega)]; omega
theorem notK_all (n : Int) : arrV (notK n 128) = arrV (bitF (340282366920938463463374607431768211455 - n)) := by
  apply arrV_congr
  intro j hj
  unfold notK bitF
  rw [if_pos hj, not_bit n _ (by omega)]
  have : (2 : Int) ^ (128 - (127 - j)) = 2 * 2 ^ j := by rw [show 128 - (127 - j) = j + 1 by omega, Int.pow_succ, Int.mul_comm]
  rw [this]; generalize (2 : Int) ^ j = P; generalize n / 2 ^ (127 - j) = z; omega
theorem notK_zero (n : Int) : arrV (notK n 0) = bitsA n := by
  rw [bitsA_arrV]; apply arrV_congr; intro j hj; unfold notK; rw [if_neg (by omega)]
theorem notK_at (n : Int) (k : Nat) : notK n k k = bitF n k := by unfold notK; rw [if_neg (by omega)]
set_option maxRecDepth 100000 in
set_option maxHeartbeats 3200000 in
theorem refSub_t (A B : Int) (w : World) :
    Calls Try.prog 37 #[.agg #[.int .u64 (hi A), .int .u64 (lo A)], .agg #[.int .u64 (hi B), .int .u64 (lo B)]] w fun e w' =>
      e = .returned (.tuple #[.agg #[.int .u64 (hi (A - B)), .int .u64 (lo (A - B))], .bool (subB (A % MM) (B % MM))]) ∧ Below w.heap.size w w' := by
  go_enter Try.func37, Try.ntmps37
  have RA : Row (((w.alloc (.cells #[.int .u64 (hi A), .int .u64 (lo A)] 34)).alloc (.cells #[.int .u64 (hi B), .int .u64 (lo B)] 34)).alloc (.cells #[.int .u64 0, .int .u64 0] 34)) w.heap.size #[.int .u64 (hi A), .int .u64 (lo A)] 34 := by simpa using ((Row.new w #[.int .u64 (hi A), .int .u64 (lo A)] 34).alloc (.cells #[.int .u64 (hi B), .int .u64 (lo B)] 34)).alloc (.cells #[.int .u64 0, .int .u64 0] 34)
  have RB : Row (((w.alloc (.cells #[.int .u64 (hi A), .int .u64 (lo A)] 34)).alloc (.cells #[.int .u64 (hi B), .int .u64 (lo B)] 34)).alloc (.cells #[.int .u64 0, .int .u64 0] 34)) (w.heap.size + 1) #[.int .u64 (hi B), .int .u64 (lo B)] 34 := by simpa using (Row.new (w.alloc (.cells #[.int .u64 (hi A), .int .u64 (lo A)] 34)) #[.int .u64 (hi B), .int .u64 (lo B)] 34).alloc (.cells #[.int .u64 0, .int .u64 0] 34)
  have RR : Row (((w.alloc (.cells #[.int .u64 (hi A), .int .u64 (lo A)] 34)).alloc (.cells #[.int .u64 (hi B), .int .u64 (lo B)] 34)).alloc (.cells #[.int .u64 0, .int .u64 0] 34)) (w.heap.size + 1 + 1) #[.int .u64 0, .int .u64 0] 34 := by simpa using (Row.new ((w.alloc (.cells #[.int .u64 (hi A), .int .u64 (lo A)] 34)).alloc (.cells #[.int .u64 (hi B), .int .u64 (lo B)] 34)) #[.int .u64 0, .int .u64 0] 34)
  go_wp2_with fail
  refine (bits_h B _).mono ?_
  rintro e w1 ⟨rfl, hx1⟩
  have hb1 : Below w.heap.size w w1 := below_step (by repeat (first | exact Below.refl _ _ | assumption | (with_reducible refine Below.setCell ?_ ?h _; case h => first | omega | (simp; done) | (simp; omega)) | (with_reducible refine Below.alloc ?_ ?h _; case h => first | omega | (simp; done) | (simp; omega)) | (with_reducible refine Below.drew ?_) | (with_reducible refine Below.trans ?_ (hb4.mono ?h); case h => first | omega | (simp; done) | (simp; omega)) | (with_reducible refine Below.trans ?_ (hb3.mono ?h); case h => first | omega | (simp; done) | (simp; omega)) | (with_reducible refine Below.trans ?_ (hb2.mono ?h); case h => first | omega | (simp; done) | (simp; omega)) | (with_reducible refine Below.trans ?_ (hb.mono ?h); case h => first | omega | (simp; done) | (simp; omega)) | (with_reducible refine Below.trans ?_ (hb0.mono ?h); case h => first | omega | (simp; done) | (simp; omega)))) hx1
  replace RA := RA.later hx1
  replace RB := RB.later hx1
  replace RR := RR.later hx1
  have Ry := Row.new w1 z128 55
  have hth := Ry.there (bitsA (B % MM)).size (by rw [bitsA_size, zeroA_size]; exact Nat.le_refl _)
  have hinf := bitsA_info (B % MM)
  have hone := bitsA_one (B % MM)
  go_wp2_with (first | (with_reducible refine wpList_alloc128 ?_) | refine wpList_store_mid rfl 55 (.tmp 6) (.tmp 11) rfl w1.heap.size 0 (bitsA (B % MM)) rfl rfl hth hinf hone ?_)
  clear hth hinf hone hx1
  have nA : w.heap.size ≠ w1.heap.size := Nat.ne_of_lt RA.lt
  have nB : w.heap.size + 1 ≠ w1.heap.size := Nat.ne_of_lt RB.lt
  have nR : w.heap.size + 1 + 1 ≠ w1.heap.size := Nat.ne_of_lt RR.lt
  have hgy : w.heap.size ≤ w1.heap.size := hb1.size
  replace RA := Row.setCells_far (g := w1.heap.size) (o := 0) (vs := (bitsA (B % MM)).toList) (RA.alloc (.cells z128 55)) nA
  replace RB := Row.setCells_far (g := w1.heap.size) (o := 0) (vs := (bitsA (B % MM)).toList) (RB.alloc (.cells z128 55)) nB
  replace RR := Row.setCells_far (g := w1.heap.size) (o := 0) (vs := (bitsA (B % MM)).toList) (RR.alloc (.cells z128 55)) nR
  replace Ry := Ry.setAll (bitsA (B % MM)) (by rw [bitsA_size, zeroA_size])
  rw [← notK_zero] at Ry
  replace hb1 := below_setCells hgy (bitsA (B % MM)).toList 0 _ (hb1.alloc hgy (.cells z128 55))
  rw [← notK_zero] at RA RB RR hb1
  have ez := notK_zero (B % MM)
  rw [← ez]
  clear ez
  generalize (w1.alloc (.cells z128 55)).setCells w1.heap.size 0 (arrV (notK (B % MM) 0)).toList = wd at *
  generalize w1.heap.size = gy at *
  go_loopw [7] (fun i wr => ∃ k : Nat, k ≤ 128 ∧ i = .int .i64 k ∧ Row wr w.heap.size #[.int .u64 (hi A), .int .u64 (lo A)] 34 ∧ Row wr (w.heap.size + 1) #[.int .u64 (hi B), .int .u64 (lo B)] 34 ∧ Row wr (w.heap.size + 1 + 1) #[.int .u64 0, .int .u64 0] 34 ∧ Row wr gy (arrV (notK (B % MM) k)) 55 ∧ Below w.heap.size w wr) (fun i _ => 128 - (intOf i).toNat)
  case atStart => exact ⟨0, by omega, rfl, RA, RB, RR, Ry, hb1⟩
  case round =>
    clear RA RB RR Ry hb1
    obtain ⟨k, hk, rfl, RA, RB, RR, Ry, hb1⟩ := hrel
    by_cases hlt : k < 128
    · have hkb : decide ((k : Int) < 128) = true := by simp; omega
      have cy := (Ry.cell k).trans (arrV_get _ k hlt)
      rw [notK_at] at cy
      have fy := Ry.frozen k
      have b3 : (k : Int) < 128 := by omega
      have b4 : (0 : Int) ≤ (k : Int) := by omega
      have hX := bitF_01 (B % MM) k
      obtain ⟨X0, X1⟩ := hX
      go_wp2
      refine ⟨⟨k + 1, by omega, by go_num, RA.set_far _ _ nA, RB.set_far _ _ nB, RR.set_far _ _ nR, ?_, hb1.setCell hgy _⟩, by simp [intOf]; omega⟩
      have := Ry.set k (.int .u64 (1 - bitF (B % MM) k))
      rwa [notK_step _ k hlt] at this
    · obtain rfl : k = 128 := by omega
      rw [notK_all] at Ry
      generalize hN : 340282366920938463463374607431768211455 - B % MM = N at *
      have HN := Lib.hid hN; clear hN
      have a0 := RA.cell 0
      have a1 := RA.cell 1
      simp at a0 a1
      have hinf : (Try.prog.info? 55).map (·.size) = some (arrV (bitF N)).size := by rw [arrV_size]; kernel_rfl
      go_wp2
      go_cut [8] (fun s8 wx => ∃ g8 : Nat, s8 = .pointer (some ⟨g8, 0, none⟩) ∧ Row wx g8 #[.int .u64 (hi (A + N)), .int .u64 (lo (A + N))] 34 ∧ Row wx w.heap.size #[.int .u64 (hi A), .int .u64 (lo A)] 34 ∧ Row wx (w.heap.size + 1) #[.int .u64 (hi B), .int .u64 (lo B)] 34 ∧ Row wx (w.heap.size + 1 + 1) #[.int .u64 0, .int .u64 0] 34 ∧ w.heap.size ≠ g8 ∧ w.heap.size + 1 ≠ g8 ∧ w.heap.size + 1 + 1 ≠ g8 ∧ w.heap.size ≤ g8 ∧ Below w.heap.size w wx)
      case first =>
        refine region_any (S := (fun w' => w'.cell? ⟨w.heap.size, 0, none⟩ = some (.int .u64 (hi A)) ∧ w'.cell? ⟨w.heap.size, 1, none⟩ = some (.int .u64 (lo A)) ∧ Row w' gy (arrV (bitF N)) 55 ∧ Row w' w.heap.size #[.int .u64 (hi A), .int .u64 (lo A)] 34 ∧ Row w' (w.heap.size + 1) #[.int .u64 (hi B), .int .u64 (lo B)] 34 ∧ Row w' (w.heap.size + 1 + 1) #[.int .u64 0, .int .u64 0] 34 ∧ Below w.heap.size w w')) (by kernel_rfl) ?hSr1_ (fun wq hHeld => ?_)
        case hSr1_ => (first | exact ⟨a0, a1, Ry.drew, RA.drew, RB.drew, RR.drew, hb1.drew⟩ | exact ⟨cell_later hb hHeld.1, cell_later hb hHeld.2.1, hHeld.2.2.1.later hb, hHeld.2.2.2.1.later hb, hHeld.2.2.2.2.1.later hb, hHeld.2.2.2.2.2.1.later hb, below_step hHeld.2.2.2.2.2.2 hb⟩)
        refine wpAnyH_take (i := 0) (oi := { dst := some 23, op := Go.Op.load 34 (Go.Operand.tmp 2), type := 34, pos := _, after := #[], guard := none }) (v := ?vr1_1_0) rfl (by kernel_rfl) (by kernel_rfl) (by kernel_rfl) (fun _ _ _ h => h) (Or.inl ⟨by rfl, ?yr1_1_0⟩) hHeld ?_
        case yr1_1_0 => ((intro w hSw; (try dsimp only at hSw); go_simp) <;> with_reducible rfl)
        (try simp only [Act.put, List.setIfInBounds_toArray, List.set_cons_zero, List.set_cons_succ])
        refine wpAnyH_take (i := 1) (oi := { dst := some 24, op := Go.Op.load 55 (Go.Operand.tmp 6), type := 55, pos := _, after := #[], guard := none }) (v := ?vr1_2_1) rfl (by kernel_rfl) (by kernel_rfl) (by kernel_rfl) (fun _ _ _ h => h) (Or.inl ⟨by rfl, ?yr1_2_1⟩) hHeld ?_
        case yr1_2_1 => (intro wz hSw; (with_reducible refine exec_load_row 55 (.tmp 6) ?_ gy ?_ 55 (arrV (bitF N)) _ hSw.2.2.1 Try.underlying55 ?_ hinf) <;> rfl)
        (try simp only [Act.put, List.setIfInBounds_toArray, List.set_cons_zero, List.set_cons_succ])
        refine wpAnyH_ready (rs := [2, 7]) (by kernel_rfl) (by simp) ?_
        refine AllReadyH.cons (o := { dst := some 25, op := Go.Op.call { callee := Go.Callee.value (Go.Operand.func 34), args := #[Go.Operand.tmp 24], argTypes := #[55] }, type := 34, pos := _, after := #[{ on := 1, ground := Go.Ground.data }], guard := none }) rfl (fun K hK => ?_) ?_
        · go_simp
          ((refine (refOf_h _ _).mono ?_); (rintro e wn ⟨rfl, hb⟩); (try replace R8 := R8.later hb))
          go_wp2_with fail
          refine hK.out _ _ ?hSr1_3_2 (fun hHeld2 => ?_)
          case hSr1_3_2 => (first | exact ⟨a0, a1, Ry.drew, RA.drew, RB.drew, RR.drew, hb1.drew⟩ | exact ⟨cell_later hb hHeld.1, cell_later hb hHeld.2.1, hHeld.2.2.1.later hb, hHeld.2.2.2.1.later hb, hHeld.2.2.2.2.1.later hb, hHeld.2.2.2.2.2.1.later hb, below_step hHeld.2.2.2.2.2.2 hb⟩)
          clear hK K hHeld
          have hHeld := hHeld2
          clear hHeld2
          rename World => wq
          (try simp only [Act.put, List.setIfInBounds_toArray, List.set_cons_zero, List.set_cons_succ])
          refine wpAnyH_ready (rs := [3, 7]) (by kernel_rfl) (by simp) ?_
          refine AllReadyH.cons (o := { dst := some 26, op := Go.Op.call { callee := Go.Callee.value (Go.Operand.func 23), args := #[Go.Operand.tmp 23, Go.Operand.tmp 25], argTypes := #[34, 34] }, type := 36, pos := _, after := #[{ on := 0, ground := Go.Ground.data }, { on := 2, ground := Go.Ground.data }, { on := 2, ground := Go.Ground.chain }], guard := none }) rfl (fun K hK => ?_) ?_
          · go_simp
            ((refine (refAdd_t _ _ _).mono ?_); (rintro e wn ⟨rfl, hb⟩); (try replace R8 := R8.later hb))
            go_wp2_with fail
            refine hK.out _ _ ?hSr1_4_3 (fun hHeld2 => ?_)
            case hSr1_4_3 => (first | exact ⟨a0, a1, Ry.drew, RA.drew, RB.drew, RR.drew, hb1.drew⟩ | exact ⟨cell_later hb hHeld.1, cell_later hb hHeld.2.1, hHeld.2.2.1.later hb, hHeld.2.2.2.1.later hb, hHeld.2.2.2.2.1.later hb, hHeld.2.2.2.2.2.1.later hb, below_step hHeld.2.2.2.2.2.2 hb⟩)
            clear hK K hHeld
            have hHeld := hHeld2
            clear hHeld2
            rename World => wq
            (try simp only [Act.put, List.setIfInBounds_toArray, List.set_cons_zero, List.set_cons_succ])
            refine wpAnyH_take (i := 4) (oi := { dst := some 22, op := Go.Op.move (Go.Operand.tmp 26), type := 36, pos := _, after := #[{ on := 3, ground := Go.Ground.data }], guard := none }) (v := ?vr1_5_4) rfl (by kernel_rfl) (by kernel_rfl) (by kernel_rfl) (fun _ _ _ h => h) (Or.inl ⟨by rfl, ?yr1_5_4⟩) hHeld ?_
            case yr1_5_4 => ((intro w hSw; (try dsimp only at hSw); go_simp) <;> with_reducible rfl)
            (try simp only [Act.put, List.setIfInBounds_toArray, List.set_cons_zero, List.set_cons_succ])
            refine wpAnyH_take (i := 5) (oi := { dst := some 27, op := Go.Op.extract (Go.Operand.tmp 22) 0, type := 34, pos := _, after := #[{ on := 4, ground := Go.Ground.data }], guard := none }) (v := ?vr1_6_5) rfl (by kernel_rfl) (by kernel_rfl) (by kernel_rfl) (fun _ _ _ h => h) (Or.inl ⟨by rfl, ?yr1_6_5⟩) hHeld ?_
            case yr1_6_5 => ((intro w hSw; (try dsimp only at hSw); go_simp) <;> with_reducible rfl)
            (try simp only [Act.put, List.setIfInBounds_toArray, List.set_cons_zero, List.set_cons_succ])
            refine wpAnyH_take (i := 6) (oi := { dst := some 28, op := Go.Op.extract (Go.Operand.tmp 22) 1, type := 4, pos := _, after := #[{ on := 4, ground := Go.Ground.data }, { on := 8, ground := Go.Ground.gcOnly Go.Departure.lateStores }], guard := none }) (v := ?vr1_7_6) rfl (by kernel_rfl) (by kernel_rfl) (by kernel_rfl) (fun _ _ _ h => h) (Or.inl ⟨by rfl, ?yr1_7_6⟩) hHeld ?_
            case yr1_7_6 => ((intro w hSw; (try dsimp only at hSw); go_simp) <;> with_reducible rfl)
            (try simp only [Act.put, List.setIfInBounds_toArray, List.set_cons_zero, List.set_cons_succ])
            refine wpAnyH_ready (rs := [7]) (by kernel_rfl) (by simp) ?_
            refine AllReadyH.cons (o := { dst := some 8, op := Go.Op.alloc 34, type := 0, pos := _, after := #[], guard := none }) rfl (fun K hK => ?_) AllReadyH.nil
            (go_simp; (have n0 := Nat.ne_of_lt hHeld.2.2.2.1.lt); (have n1 := Nat.ne_of_lt hHeld.2.2.2.2.1.lt); (have n2 := Nat.ne_of_lt hHeld.2.2.2.2.2.1.lt); (have n3 := Nat.ne_of_lt hHeld.2.2.1.lt); (have m8 := hHeld.2.2.2.2.2.2.size); (have R8 := Row.new wq #[.int .u64 0, .int .u64 0] 34); (have hb : Below wq.heap.size wq (wq.alloc (.cells #[.int .u64 0, .int .u64 0] 34)) := (Below.refl _ _).alloc (Nat.le_refl _) _); (have hS8 := And.intro (cell_later hb hHeld.1) (And.intro (cell_later hb hHeld.2.1) (And.intro (hHeld.2.2.1.later hb) (And.intro (hHeld.2.2.2.1.later hb) (And.intro (hHeld.2.2.2.2.1.later hb) (And.intro (hHeld.2.2.2.2.2.1.later hb) (below_step hHeld.2.2.2.2.2.2 hb))))))); clear hb; generalize wq.alloc (.cells #[.int .u64 0, .int .u64 0] 34) = wn at *; generalize wq.heap.size = g8 at *)
            refine hK.out _ _ ?hSr1_8_7 (fun hHeld2 => ?_)
            case hSr1_8_7 => (exact hS8)
            clear hK K hHeld
            have hHeld := hHeld2
            clear hHeld2
            rename World => wq
            (try simp only [Act.put, List.setIfInBounds_toArray, List.set_cons_zero, List.set_cons_succ])
            refine wpAnyH_ready (rs := [8]) (by kernel_rfl) (by simp) ?_
            refine AllReadyH.cons (o := { dst := none, op := Go.Op.store 34 (Go.Operand.tmp 8) (Go.Operand.tmp 27), type := 0, pos := _, after := #[{ on := 7, ground := Go.Ground.data }, { on := 5, ground := Go.Ground.data }, { on := 3, ground := Go.Ground.chain }, { on := 0, ground := Go.Ground.phase }, { on := 1, ground := Go.Ground.phase }, { on := 2, ground := Go.Ground.phase }, { on := 3, ground := Go.Ground.phase }, { on := 4, ground := Go.Ground.phase }, { on := 5, ground := Go.Ground.phase }, { on := 6, ground := Go.Ground.textOnly Go.Departure.lateStores }, { on := 7, ground := Go.Ground.phase }], guard := none }) rfl (fun K hK => ?_) AllReadyH.nil
            ((have c0 := R8.cell 0); (have c1 := R8.cell 1); (simp at c0 c1); (have f0 := R8.frozen 0); (have f1 := R8.frozen 1); go_simp; clear c0 c1 f0 f1)
            refine hK.out _ _ ?hSr1_9_8 (fun hHeld2 => ?_)
            case hSr1_9_8 => (exact ⟨(World.cell?_setCell_far _ _ _ _ n0.symm).trans ((World.cell?_setCell_far _ _ _ _ n0.symm).trans hHeld.1), (World.cell?_setCell_far _ _ _ _ n0.symm).trans ((World.cell?_setCell_far _ _ _ _ n0.symm).trans hHeld.2.1), (hHeld.2.2.1.set_far _ _ n3).set_far _ _ n3, (hHeld.2.2.2.1.set_far _ _ n0).set_far _ _ n0, (hHeld.2.2.2.2.1.set_far _ _ n1).set_far _ _ n1, (hHeld.2.2.2.2.2.1.set_far _ _ n2).set_far _ _ n2, (hHeld.2.2.2.2.2.2.setCell m8 _).setCell m8 _⟩)
            clear hK K hHeld
            have hHeld := hHeld2
            clear hHeld2
            rename World => wq
            (try simp only [Act.put, List.setIfInBounds_toArray, List.set_cons_zero, List.set_cons_succ])
            refine wpAnyH_take (i := 9) (oi := { dst := some 9, op := Go.Op.assign (Go.Operand.tmp 28), type := 4, pos := _, after := #[{ on := 6, ground := Go.Ground.data }, { on := 8, ground := Go.Ground.chain }, { on := 0, ground := Go.Ground.phase }, { on := 1, ground := Go.Ground.phase }, { on := 2, ground := Go.Ground.phase }, { on := 3, ground := Go.Ground.phase }, { on := 4, ground := Go.Ground.phase }, { on := 5, ground := Go.Ground.phase }, { on := 6, ground := Go.Ground.phase }, { on := 7, ground := Go.Ground.phase }, { on := 8, ground := Go.Ground.phase }], guard := none }) (v := ?vr1_10_9) rfl (by kernel_rfl) (by kernel_rfl) (by kernel_rfl) (fun _ _ _ h => h) (Or.inl ⟨by rfl, ?yr1_10_9⟩) hHeld ?_
            case yr1_10_9 => ((intro w hSw; (try dsimp only at hSw); go_simp) <;> with_reducible rfl)
            (try simp only [Act.put, List.setIfInBounds_toArray, List.set_cons_zero, List.set_cons_succ])
            refine wpAnyH_done (by kernel_rfl) ?_ _
            (go_wp2_with fail; go_meet; exact ⟨g8, rfl, (by simpa using (R8.set 0 (.int .u64 (hi (A + N)))).set 1 (.int .u64 (lo (A + N)))), hHeld.2.2.2.1, hHeld.2.2.2.2.1, hHeld.2.2.2.2.2.1, n0, n1, n2, m8, hHeld.2.2.2.2.2.2⟩)
          refine AllReadyH.cons (o := { dst := some 8, op := Go.Op.alloc 34, type := 0, pos := _, after := #[], guard := none }) rfl (fun K hK => ?_) AllReadyH.nil
          · (go_simp; (have n0 := Nat.ne_of_lt hHeld.2.2.2.1.lt); (have n1 := Nat.ne_of_lt hHeld.2.2.2.2.1.lt); (have n2 := Nat.ne_of_lt hHeld.2.2.2.2.2.1.lt); (have n3 := Nat.ne_of_lt hHeld.2.2.1.lt); (have m8 := hHeld.2.2.2.2.2.2.size); (have R8 := Row.new wq #[.int .u64 0, .int .u64 0] 34); (have hb : Below wq.heap.size wq (wq.alloc (.cells #[.int .u64 0, .int .u64 0] 34)) := (Below.refl _ _).alloc (Nat.le_refl _) _); (have hS8 := And.intro (cell_later hb hHeld.1) (And.intro (cell_later hb hHeld.2.1) (And.intro (hHeld.2.2.1.later hb) (And.intro (hHeld.2.2.2.1.later hb) (And.intro (hHeld.2.2.2.2.1.later hb) (And.intro (hHeld.2.2.2.2.2.1.later hb) (below_step hHeld.2.2.2.2.2.2 hb))))))); clear hb; generalize wq.alloc (.cells #[.int .u64 0, .int .u64 0] 34) = wn at *; generalize wq.heap.size = g8 at *)
            refine hK.out _ _ ?hSr1_11_7 (fun hHeld2 => ?_)
            case hSr1_11_7 => (exact hS8)
            clear hK K hHeld
            have hHeld := hHeld2
            clear hHeld2
            rename World => wq
            (try simp only [Act.put, List.setIfInBounds_toArray, List.set_cons_zero, List.set_cons_succ])
            refine wpAnyH_ready (rs := [3]) (by kernel_rfl) (by simp) ?_
            refine AllReadyH.cons (o := { dst := some 26, op := Go.Op.call { callee := Go.Callee.value (Go.Operand.func 23), args := #[Go.Operand.tmp 23, Go.Operand.tmp 25], argTypes := #[34, 34] }, type := 36, pos := _, after := #[{ on := 0, ground := Go.Ground.data }, { on := 2, ground := Go.Ground.data }, { on := 2, ground := Go.Ground.chain }], guard := none }) rfl (fun K hK => ?_) AllReadyH.nil
            go_simp
            ((refine (refAdd_t _ _ _).mono ?_); (rintro e wn ⟨rfl, hb⟩); (try replace R8 := R8.later hb))
            go_wp2_with fail
            refine hK.out _ _ ?hSr1_12_3 (fun hHeld2 => ?_)
            case hSr1_12_3 => (first | exact ⟨a0, a1, Ry.drew, RA.drew, RB.drew, RR.drew, hb1.drew⟩ | exact ⟨cell_later hb hHeld.1, cell_later hb hHeld.2.1, hHeld.2.2.1.later hb, hHeld.2.2.2.1.later hb, hHeld.2.2.2.2.1.later hb, hHeld.2.2.2.2.2.1.later hb, below_step hHeld.2.2.2.2.2.2 hb⟩)
            clear hK K hHeld
            have hHeld := hHeld2
            clear hHeld2
            rename World => wq
            (try simp only [Act.put, List.setIfInBounds_toArray, List.set_cons_zero, List.set_cons_succ])
            refine wpAnyH_take (i := 4) (oi := { dst := some 22, op := Go.Op.move (Go.Operand.tmp 26), type := 36, pos := _, after := #[{ on := 3, ground := Go.Ground.data }], guard := none }) (v := ?vr1_13_4) rfl (by kernel_rfl) (by kernel_rfl) (by kernel_rfl) (fun _ _ _ h => h) (Or.inl ⟨by rfl, ?yr1_13_4⟩) hHeld ?_
            case yr1_13_4 => ((intro w hSw; (try dsimp only at hSw); go_simp) <;> with_reducible rfl)
            (try simp only [Act.put, List.setIfInBounds_toArray, List.set_cons_zero, List.set_cons_succ])
            refine wpAnyH_take (i := 5) (oi := { dst := some 27, op := Go.Op.extract (Go.Operand.tmp 22) 0, type := 34, pos := _, after := #[{ on := 4, ground := Go.Ground.data }], guard := none }) (v := ?vr1_14_5) rfl (by kernel_rfl) (by kernel_rfl) (by kernel_rfl) (fun _ _ _ h => h) (Or.inl ⟨by rfl, ?yr1_14_5⟩) hHeld ?_
            case yr1_14_5 => ((intro w hSw; (try dsimp only at hSw); go_simp) <;> with_reducible rfl)
            (try simp only [Act.put, List.setIfInBounds_toArray, List.set_cons_zero, List.set_cons_succ])
            refine wpAnyH_take (i := 6) (oi := { dst := some 28, op := Go.Op.extract (Go.Operand.tmp 22) 1, type := 4, pos := _, after := #[{ on := 4, ground := Go.Ground.data }, { on := 8, ground := Go.Ground.gcOnly Go.Departure.lateStores }], guard := none }) (v := ?vr1_15_6) rfl (by kernel_rfl) (by kernel_rfl) (by kernel_rfl) (fun _ _ _ h => h) (Or.inl ⟨by rfl, ?yr1_15_6⟩) hHeld ?_
            case yr1_15_6 => ((intro w hSw; (try dsimp only at hSw); go_simp) <;> with_reducible rfl)
            (try simp only [Act.put, List.setIfInBounds_toArray, List.set_cons_zero, List.set_cons_succ])
            refine wpAnyH_ready (rs := [8]) (by kernel_rfl) (by simp) ?_
            refine AllReadyH.cons (o := { dst := none, op := Go.Op.store 34 (Go.Operand.tmp 8) (Go.Operand.tmp 27), type := 0, pos := _, after := #[{ on := 7, ground := Go.Ground.data }, { on := 5, ground := Go.Ground.data }, { on := 3, ground := Go.Ground.chain }, { on := 0, ground := Go.Ground.phase }, { on := 1, ground := Go.Ground.phase }, { on := 2, ground := Go.Ground.phase }, { on := 3, ground := Go.Ground.phase }, { on := 4, ground := Go.Ground.phase }, { on := 5, ground := Go.Ground.phase }, { on := 6, ground := Go.Ground.textOnly Go.Departure.lateStores }, { on := 7, ground := Go.Ground.phase }], guard := none }) rfl (fun K hK => ?_) AllReadyH.nil
            ((have c0 := R8.cell 0); (have c1 := R8.cell 1); (simp at c0 c1); (have f0 := R8.frozen 0); (have f1 := R8.frozen 1); go_simp; clear c0 c1 f0 f1)
            refine hK.out _ _ ?hSr1_16_8 (fun hHeld2 => ?_)
            case hSr1_16_8 => (exact ⟨(World.cell?_setCell_far _ _ _ _ n0.symm).trans ((World.cell?_setCell_far _ _ _ _ n0.symm).trans hHeld.1), (World.cell?_setCell_far _ _ _ _ n0.symm).trans ((World.cell?_setCell_far _ _ _ _ n0.symm).trans hHeld.2.1), (hHeld.2.2.1.set_far _ _ n3).set_far _ _ n3, (hHeld.2.2.2.1.set_far _ _ n0).set_far _ _ n0, (hHeld.2.2.2.2.1.set_far _ _ n1).set_far _ _ n1, (hHeld.2.2.2.2.2.1.set_far _ _ n2).set_far _ _ n2, (hHeld.2.2.2.2.2.2.setCell m8 _).setCell m8 _⟩)
            clear hK K hHeld
            have hHeld := hHeld2
            clear hHeld2
            rename World => wq
            (try simp only [Act.put, List.setIfInBounds_toArray, List.set_cons_zero, List.set_cons_succ])
            refine wpAnyH_take (i := 9) (oi := { dst := some 9, op := Go.Op.assign (Go.Operand.tmp 28), type := 4, pos := _, after := #[{ on := 6, ground := Go.Ground.data }, { on := 8, ground := Go.Ground.chain }, { on := 0, ground := Go.Ground.phase }, { on := 1, ground := Go.Ground.phase }, { on := 2, ground := Go.Ground.phase }, { on := 3, ground := Go.Ground.phase }, { on := 4, ground := Go.Ground.phase }, { on := 5, ground := Go.Ground.phase }, { on := 6, ground := Go.Ground.phase }, { on := 7, ground := Go.Ground.phase }, { on := 8, ground := Go.Ground.phase }], guard := none }) (v := ?vr1_17_9) rfl (by kernel_rfl) (by kernel_rfl) (by kernel_rfl) (fun _ _ _ h => h) (Or.inl ⟨by rfl, ?yr1_17_9⟩) hHeld ?_
            case yr1_17_9 => ((intro w hSw; (try dsimp only at hSw); go_simp) <;> with_reducible rfl)
            (try simp only [Act.put, List.setIfInBounds_toArray, List.set_cons_zero, List.set_cons_succ])
            refine wpAnyH_done (by kernel_rfl) ?_ _
            (go_wp2_with fail; go_meet; exact ⟨g8, rfl, (by simpa using (R8.set 0 (.int .u64 (hi (A + N)))).set 1 (.int .u64 (lo (A + N)))), hHeld.2.2.2.1, hHeld.2.2.2.2.1, hHeld.2.2.2.2.2.1, n0, n1, n2, m8, hHeld.2.2.2.2.2.2⟩)
        refine AllReadyH.cons (o := { dst := some 8, op := Go.Op.alloc 34, type := 0, pos := _, after := #[], guard := none }) rfl (fun K hK => ?_) AllReadyH.nil
        · (go_simp; (have n0 := Nat.ne_of_lt hHeld.2.2.2.1.lt); (have n1 := Nat.ne_of_lt hHeld.2.2.2.2.1.lt); (have n2 := Nat.ne_of_lt hHeld.2.2.2.2.2.1.lt); (have n3 := Nat.ne_of_lt hHeld.2.2.1.lt); (have m8 := hHeld.2.2.2.2.2.2.size); (have R8 := Row.new wq #[.int .u64 0, .int .u64 0] 34); (have hb : Below wq.heap.size wq (wq.alloc (.cells #[.int .u64 0, .int .u64 0] 34)) := (Below.refl _ _).alloc (Nat.le_refl _) _); (have hS8 := And.intro (cell_later hb hHeld.1) (And.intro (cell_later hb hHeld.2.1) (And.intro (hHeld.2.2.1.later hb) (And.intro (hHeld.2.2.2.1.later hb) (And.intro (hHeld.2.2.2.2.1.later hb) (And.intro (hHeld.2.2.2.2.2.1.later hb) (below_step hHeld.2.2.2.2.2.2 hb))))))); clear hb; generalize wq.alloc (.cells #[.int .u64 0, .int .u64 0] 34) = wn at *; generalize wq.heap.size = g8 at *)
          refine hK.out _ _ ?hSr1_18_7 (fun hHeld2 => ?_)
          case hSr1_18_7 => (exact hS8)
          clear hK K hHeld
          have hHeld := hHeld2
          clear hHeld2
          rename World => wq
          (try simp only [Act.put, List.setIfInBounds_toArray, List.set_cons_zero, List.set_cons_succ])
          refine wpAnyH_ready (rs := [2]) (by kernel_rfl) (by simp) ?_
          refine AllReadyH.cons (o := { dst := some 25, op := Go.Op.call { callee := Go.Callee.value (Go.Operand.func 34), args := #[Go.Operand.tmp 24], argTypes := #[55] }, type := 34, pos := _, after := #[{ on := 1, ground := Go.Ground.data }], guard := none }) rfl (fun K hK => ?_) AllReadyH.nil
          go_simp
          ((refine (refOf_h _ _).mono ?_); (rintro e wn ⟨rfl, hb⟩); (try replace R8 := R8.later hb))
          go_wp2_with fail
          refine hK.out _ _ ?hSr1_19_2 (fun hHeld2 => ?_)
          case hSr1_19_2 => (first | exact ⟨a0, a1, Ry.drew, RA.drew, RB.drew, RR.drew, hb1.drew⟩ | exact ⟨cell_later hb hHeld.1, cell_later hb hHeld.2.1, hHeld.2.2.1.later hb, hHeld.2.2.2.1.later hb, hHeld.2.2.2.2.1.later hb, hHeld.2.2.2.2.2.1.later hb, below_step hHeld.2.2.2.2.2.2 hb⟩)
          clear hK K hHeld
          have hHeld := hHeld2
          clear hHeld2
          rename World => wq
          (try simp only [Act.put, List.setIfInBounds_toArray, List.set_cons_zero, List.set_cons_succ])
          refine wpAnyH_ready (rs := [3]) (by kernel_rfl) (by simp) ?_
          refine AllReadyH.cons (o := { dst := some 26, op := Go.Op.call { callee := Go.Callee.value (Go.Operand.func 23), args := #[Go.Operand.tmp 23, Go.Operand.tmp 25], argTypes := #[34, 34] }, type := 36, pos := _, after := #[{ on := 0, ground := Go.Ground.data }, { on := 2, ground := Go.Ground.data }, { on := 2, ground := Go.Ground.chain }], guard := none }) rfl (fun K hK => ?_) AllReadyH.nil
          go_simp
          ((refine (refAdd_t _ _ _).mono ?_); (rintro e wn ⟨rfl, hb⟩); (try replace R8 := R8.later hb))
          go_wp2_with fail
          refine hK.out _ _ ?hSr1_20_3 (fun hHeld2 => ?_)
          case hSr1_20_3 => (first | exact ⟨a0, a1, Ry.drew, RA.drew, RB.drew, RR.drew, hb1.drew⟩ | exact ⟨cell_later hb hHeld.1, cell_later hb hHeld.2.1, hHeld.2.2.1.later hb, hHeld.2.2.2.1.later hb, hHeld.2.2.2.2.1.later hb, hHeld.2.2.2.2.2.1.later hb, below_step hHeld.2.2.2.2.2.2 hb⟩)
          clear hK K hHeld
          have hHeld := hHeld2
          clear hHeld2
          rename World => wq
          (try simp only [Act.put, List.setIfInBounds_toArray, List.set_cons_zero, List.set_cons_succ])
          refine wpAnyH_take (i := 4) (oi := { dst := some 22, op := Go.Op.move (Go.Operand.tmp 26), type := 36, pos := _, after := #[{ on := 3, ground := Go.Ground.data }], guard := none }) (v := ?vr1_21_4) rfl (by kernel_rfl) (by kernel_rfl) (by kernel_rfl) (fun _ _ _ h => h) (Or.inl ⟨by rfl, ?yr1_21_4⟩) hHeld ?_
          case yr1_21_4 => ((intro w hSw; (try dsimp only at hSw); go_simp) <;> with_reducible rfl)
          (try simp only [Act.put, List.setIfInBounds_toArray, List.set_cons_zero, List.set_cons_succ])
          refine wpAnyH_take (i := 5) (oi := { dst := some 27, op := Go.Op.extract (Go.Operand.tmp 22) 0, type := 34, pos := _, after := #[{ on := 4, ground := Go.Ground.data }], guard := none }) (v := ?vr1_22_5) rfl (by kernel_rfl) (by kernel_rfl) (by kernel_rfl) (fun _ _ _ h => h) (Or.inl ⟨by rfl, ?yr1_22_5⟩) hHeld ?_
          case yr1_22_5 => ((intro w hSw; (try dsimp only at hSw); go_simp) <;> with_reducible rfl)
          (try simp only [Act.put, List.setIfInBounds_toArray, List.set_cons_zero, List.set_cons_succ])
          refine wpAnyH_take (i := 6) (oi := { dst := some 28, op := Go.Op.extract (Go.Operand.tmp 22) 1, type := 4, pos := _, after := #[{ on := 4, ground := Go.Ground.data }, { on := 8, ground := Go.Ground.gcOnly Go.Departure.lateStores }], guard := none }) (v := ?vr1_23_6) rfl (by kernel_rfl) (by kernel_rfl) (by kernel_rfl) (fun _ _ _ h => h) (Or.inl ⟨by rfl, ?yr1_23_6⟩) hHeld ?_
          case yr1_23_6 => ((intro w hSw; (try dsimp only at hSw); go_simp) <;> with_reducible rfl)
          (try simp only [Act.put, List.setIfInBounds_toArray, List.set_cons_zero, List.set_cons_succ])
          refine wpAnyH_ready (rs := [8]) (by kernel_rfl) (by simp) ?_
          refine AllReadyH.cons (o := { dst := none, op := Go.Op.store 34 (Go.Operand.tmp 8) (Go.Operand.tmp 27), type := 0, pos := _, after := #[{ on := 7, ground := Go.Ground.data }, { on := 5, ground := Go.Ground.data }, { on := 3, ground := Go.Ground.chain }, { on := 0, ground := Go.Ground.phase }, { on := 1, ground := Go.Ground.phase }, { on := 2, ground := Go.Ground.phase }, { on := 3, ground := Go.Ground.phase }, { on := 4, ground := Go.Ground.phase }, { on := 5, ground := Go.Ground.phase }, { on := 6, ground := Go.Ground.textOnly Go.Departure.lateStores }, { on := 7, ground := Go.Ground.phase }], guard := none }) rfl (fun K hK => ?_) AllReadyH.nil
          ((have c0 := R8.cell 0); (have c1 := R8.cell 1); (simp at c0 c1); (have f0 := R8.frozen 0); (have f1 := R8.frozen 1); go_simp; clear c0 c1 f0 f1)
          refine hK.out _ _ ?hSr1_24_8 (fun hHeld2 => ?_)
          case hSr1_24_8 => (exact ⟨(World.cell?_setCell_far _ _ _ _ n0.symm).trans ((World.cell?_setCell_far _ _ _ _ n0.symm).trans hHeld.1), (World.cell?_setCell_far _ _ _ _ n0.symm).trans ((World.cell?_setCell_far _ _ _ _ n0.symm).trans hHeld.2.1), (hHeld.2.2.1.set_far _ _ n3).set_far _ _ n3, (hHeld.2.2.2.1.set_far _ _ n0).set_far _ _ n0, (hHeld.2.2.2.2.1.set_far _ _ n1).set_far _ _ n1, (hHeld.2.2.2.2.2.1.set_far _ _ n2).set_far _ _ n2, (hHeld.2.2.2.2.2.2.setCell m8 _).setCell m8 _⟩)
          clear hK K hHeld
          have hHeld := hHeld2
          clear hHeld2
          rename World => wq
          (try simp only [Act.put, List.setIfInBounds_toArray, List.set_cons_zero, List.set_cons_succ])
          refine wpAnyH_take (i := 9) (oi := { dst := some 9, op := Go.Op.assign (Go.Operand.tmp 28), type := 4, pos := _, after := #[{ on := 6, ground := Go.Ground.data }, { on := 8, ground := Go.Ground.chain }, { on := 0, ground := Go.Ground.phase }, { on := 1, ground := Go.Ground.phase }, { on := 2, ground := Go.Ground.phase }, { on := 3, ground := Go.Ground.phase }, { on := 4, ground := Go.Ground.phase }, { on := 5, ground := Go.Ground.phase }, { on := 6, ground := Go.Ground.phase }, { on := 7, ground := Go.Ground.phase }, { on := 8, ground := Go.Ground.phase }], guard := none }) (v := ?vr1_25_9) rfl (by kernel_rfl) (by kernel_rfl) (by kernel_rfl) (fun _ _ _ h => h) (Or.inl ⟨by rfl, ?yr1_25_9⟩) hHeld ?_
          case yr1_25_9 => ((intro w hSw; (try dsimp only at hSw); go_simp) <;> with_reducible rfl)
          (try simp only [Act.put, List.setIfInBounds_toArray, List.set_cons_zero, List.set_cons_succ])
          refine wpAnyH_done (by kernel_rfl) ?_ _
          (go_wp2_with fail; go_meet; exact ⟨g8, rfl, (by simpa using (R8.set 0 (.int .u64 (hi (A + N)))).set 1 (.int .u64 (lo (A + N)))), hHeld.2.2.2.1, hHeld.2.2.2.2.1, hHeld.2.2.2.2.2.1, n0, n1, n2, m8, hHeld.2.2.2.2.2.2⟩)
      case rest =>
        clear RA RB RR Ry hb1 a0 a1
        obtain ⟨g8, rfl, R8, RA, RB, RR, n0, n1, n2, m8, hb1⟩ := hcut
        have d0 := R8.cell 0
        have d1 := R8.cell 1
        simp at d0 d1
        go_wp2_with fail
        have h1 : Calls Try.prog 23 #[.agg #[.int .u64 (hi (A + N)), .int .u64 (lo (A + N))], .agg #[.int .u64 0, .int .u64 1]] wc fun e w' => e = .returned (.tuple #[.agg #[.int .u64 (hi (A + N + 1)), .int .u64 (lo (A + N + 1))], .bool (addB ((A + N) % MM) (1 % MM))]) ∧ Below wc.heap.size wc w' := refAdd_t (A + N) 1 wc
        refine h1.mono ?_; rintro e w2 ⟨rfl, hb⟩
        clear h1 d0 d1
        replace R8 := R8.later hb
        replace RA := RA.later hb
        replace RB := RB.later hb
        replace RR := RR.later hb
        replace hb1 := below_step hb1 hb
        clear hb
        have eh : hi (A + N + 1) = hi (A - B) := hi_congr (by have h := HN.out; unfold MM at *; omega)
        have el : lo (A + N + 1) = lo (A - B) := lo_congr (by have h := HN.out; unfold MM at *; omega)
        have d0 := R8.cell 0
        have d1 := R8.cell 1
        simp at d0 d1
        have f0 := R8.frozen 0
        have f1 := R8.frozen 1
        go_wp2
        clear eh el d0 d1 f0 f1
        replace R8 := (R8.set 0 (.int .u64 (hi (A - B)))).set 1 (.int .u64 (lo (A - B)))
        replace RA := (RA.set_far ⟨g8, 0, none⟩ (.int .u64 (hi (A - B))) n0).set_far ⟨g8, 1, none⟩ (.int .u64 (lo (A - B))) n0
        replace RB := (RB.set_far ⟨g8, 0, none⟩ (.int .u64 (hi (A - B))) n1).set_far ⟨g8, 1, none⟩ (.int .u64 (lo (A - B))) n1
        replace RR := (RR.set_far ⟨g8, 0, none⟩ (.int .u64 (hi (A - B))) n2).set_far ⟨g8, 1, none⟩ (.int .u64 (lo (A - B))) n2
        replace hb1 := (hb1.setCell (p := ⟨g8, 0, none⟩) m8 (.int .u64 (hi (A - B)))).setCell (p := ⟨g8, 1, none⟩) m8 (.int .u64 (lo (A - B)))
        simp at R8
        generalize (w2.setCell ⟨g8, 0, none⟩ (.int .u64 (hi (A - B)))).setCell ⟨g8, 1, none⟩ (.int .u64 (lo (A - B))) = w3 at *
        have a0 := RA.cell 0
        have a1 := RA.cell 1
        have b0 := RB.cell 0
        have b1 := RB.cell 1
        have r0 := RR.cell 0
        have r1 := RR.cell 1
        have d0 := R8.cell 0
        have d1 := R8.cell 1
        simp at a0 a1 b0 b1 d0 d1 r0 r1
        have f0 := RR.frozen 0
        have f1 := RR.frozen 1
        have hsub : subB (A % MM) (B % MM) = decide (cmpI (A % MM) (B % MM) < 0) := (cmpI_neg _ _).symm
        have HSB := Lib.hid hsub; clear hsub
        go_region_held3 (fun w' => w'.cell? ⟨w.heap.size, 0, none⟩ = some (.int .u64 (hi A)) ∧ w'.cell? ⟨w.heap.size, 1, none⟩ = some (.int .u64 (lo A)) ∧ w'.cell? ⟨w.heap.size + 1, 0, none⟩ = some (.int .u64 (hi B)) ∧ w'.cell? ⟨w.heap.size + 1, 1, none⟩ = some (.int .u64 (lo B)) ∧ w'.cell? ⟨g8, 0, none⟩ = some (.int .u64 (hi (A - B))) ∧ w'.cell? ⟨g8, 1, none⟩ = some (.int .u64 (lo (A - B)))) (first | (simp [*]; done) | exact ⟨cell_later hb a0, cell_later hb a1, cell_later hb b0, cell_later hb b1, cell_later hb d0, cell_later hb d1⟩ | (go_split_ands; (repeat' apply And.intro) <;> (refine (World.cell?_setCell_far _ _ _ _ (by first | (simp; done) | (simp; omega))).trans ((World.cell?_setCell_far _ _ _ _ (by first | (simp; done) | (simp; omega))).trans ?_); assumption)))
          (first
            | (go_at_call 31; refine (refCmp_t _ _ _).mono ?_; rintro e w4 ⟨rfl, hb⟩; have r2 := cell_later hb r0; have r3 := cell_later hb r1; have f2 := (hb.frozen (p := ⟨w.heap.size + 1 + 1, 0, none⟩) RR.lt).trans f0; have f3 := (hb.frozen (p := ⟨w.heap.size + 1 + 1, 1, none⟩) RR.lt).trans f1))
        go_wp2
        refine bodyPost_ret (v := .tuple #[.agg #[.int .u64 (hi (A - B)), .int .u64 (lo (A - B))], .bool (decide (cmpI (A % MM) (B % MM) < 0))]) (by simp [results, Try.results37, go_sem, r2, r3]) rfl ⟨by rw [HSB.out], ?_⟩
        exact Below.setCell (Below.setCell (below_step hb1.drew hb) (by simp <;> omega) _) (by simp <;> omega) _
end Go.Proofs.Ythohpcbfohlmhaa
namespace Go.Proofs.Ythohpcbfohlmhaa
set_option linter.unusedVariables false
set_option linter.unusedSimpArgs false
open Go.RowKit
set_option maxHeartbeats 400000 in
theorem as_h (A : Int) (w : World) : Calls Try.prog 24 #[.agg #[.int .u64 (hi A), .int .u64 (lo A)]] w fun e w' => e = .returned (.agg #[.int .u64 (hi A), .int .u64 (lo A)]) ∧ Below w.heap.size w w' := by
  go_enter Try.func24, Try.ntmps24
  go_wp2
  exact bodyPost_ret (v := .agg #[.int .u64 (hi A), .int .u64 (lo A)]) (by simp [results, Try.results24, go_sem]) rfl ⟨rfl, (by repeat (first | exact Below.refl _ _ | assumption | (with_reducible refine Below.setCell ?_ ?h _; case h => first | omega | (simp; done) | (simp; omega)) | (with_reducible refine Below.alloc ?_ ?h _; case h => first | omega | (simp; done) | (simp; omega)) | (with_reducible refine Below.drew ?_) | (with_reducible refine Below.trans ?_ (hb4.mono ?h); case h => first | omega | (simp; done) | (simp; omega)) | (with_reducible refine Below.trans ?_ (hb3.mono ?h); case h => first | omega | (simp; done) | (simp; omega)) | (with_reducible refine Below.trans ?_ (hb2.mono ?h); case h => first | omega | (simp; done) | (simp; omega)) | (with_reducible refine Below.trans ?_ (hb.mono ?h); case h => first | omega | (simp; done) | (simp; omega)) | (with_reducible refine Below.trans ?_ (hb0.mono ?h); case h => first | omega | (simp; done) | (simp; omega))))⟩
end Go.Proofs.Ythohpcbfohlmhaa
namespace Go.Proofs.Ythohpcbfohlmhaa
set_option linter.unusedVariables false
set_option linter.unusedSimpArgs false
open Go.RowKit
set_option maxHeartbeats 800000 in
theorem rright_t (k a b : Int) (w : World) : Calls Try.prog 12 #[.int .i64 k, .int .i64 a, .int .i64 b] w fun e w' => e = .returned (.bool (rightB k a b)) ∧ Below w.heap.size w w' := by
  by_cases c0 : k < 1
  case pos =>
    rw [rightB_false (by omega)]
    have d0 : decide (k < 1) = true := decide_eq_true c0
    go_enter Try.func12, Try.ntmps12
    go_wp2_with fail
    exact bodyPost_ret (v := .bool false) (by simp [results, Try.results12, go_sem]) rfl ⟨rfl, (by repeat (first | exact Below.refl _ _ | assumption | (with_reducible refine Below.setCell ?_ ?h _; case h => first | omega | (simp; done) | (simp; omega)) | (with_reducible refine Below.alloc ?_ ?h _; case h => first | omega | (simp; done) | (simp; omega)) | (with_reducible refine Below.drew ?_) | (with_reducible refine Below.trans ?_ (hb4.mono ?h); case h => first | omega | (simp; done) | (simp; omega)) | (with_reducible refine Below.trans ?_ (hb3.mono ?h); case h => first | omega | (simp; done) | (simp; omega)) | (with_reducible refine Below.trans ?_ (hb2.mono ?h); case h => first | omega | (simp; done) | (simp; omega)) | (with_reducible refine Below.trans ?_ (hb.mono ?h); case h => first | omega | (simp; done) | (simp; omega)) | (with_reducible refine Below.trans ?_ (hb0.mono ?h); case h => first | omega | (simp; done) | (simp; omega))))⟩
  by_cases c1 : 200 < k
  case pos =>
    rw [rightB_false (by omega)]
    have d0 : decide (k < 1) = false := decide_eq_false c0
    have d1 : decide (200 < k) = true := decide_eq_true c1
    go_enter Try.func12, Try.ntmps12
    go_wp2_with fail
    exact bodyPost_ret (v := .bool false) (by simp [results, Try.results12, go_sem]) rfl ⟨rfl, (by repeat (first | exact Below.refl _ _ | assumption | (with_reducible refine Below.setCell ?_ ?h _; case h => first | omega | (simp; done) | (simp; omega)) | (with_reducible refine Below.alloc ?_ ?h _; case h => first | omega | (simp; done) | (simp; omega)) | (with_reducible refine Below.drew ?_) | (with_reducible refine Below.trans ?_ (hb4.mono ?h); case h => first | omega | (simp; done) | (simp; omega)) | (with_reducible refine Below.trans ?_ (hb3.mono ?h); case h => first | omega | (simp; done) | (simp; omega)) | (with_reducible refine Below.trans ?_ (hb2.mono ?h); case h => first | omega | (simp; done) | (simp; omega)) | (with_reducible refine Below.trans ?_ (hb.mono ?h); case h => first | omega | (simp; done) | (simp; omega)) | (with_reducible refine Below.trans ?_ (hb0.mono ?h); case h => first | omega | (simp; done) | (simp; omega))))⟩
  by_cases c2 : a < 1
  case pos =>
    rw [rightB_false (by omega)]
    have d0 : decide (k < 1) = false := decide_eq_false c0
    have d1 : decide (200 < k) = false := decide_eq_false c1
    have d2 : decide (a < 1) = true := decide_eq_true c2
    go_enter Try.func12, Try.ntmps12
    go_wp2_with fail
    exact bodyPost_ret (v := .bool false) (by simp [results, Try.results12, go_sem]) rfl ⟨rfl, (by repeat (first | exact Below.refl _ _ | assumption | (with_reducible refine Below.setCell ?_ ?h _; case h => first | omega | (simp; done) | (simp; omega)) | (with_reducible refine Below.alloc ?_ ?h _; case h => first | omega | (simp; done) | (simp; omega)) | (with_reducible refine Below.drew ?_) | (with_reducible refine Below.trans ?_ (hb4.mono ?h); case h => first | omega | (simp; done) | (simp; omega)) | (with_reducible refine Below.trans ?_ (hb3.mono ?h); case h => first | omega | (simp; done) | (simp; omega)) | (with_reducible refine Below.trans ?_ (hb2.mono ?h); case h => first | omega | (simp; done) | (simp; omega)) | (with_reducible refine Below.trans ?_ (hb.mono ?h); case h => first | omega | (simp; done) | (simp; omega)) | (with_reducible refine Below.trans ?_ (hb0.mono ?h); case h => first | omega | (simp; done) | (simp; omega))))⟩
  by_cases c3 : b < a
  case pos =>
    rw [rightB_false (by omega)]
    have d0 : decide (k < 1) = false := decide_eq_false c0
    have d1 : decide (200 < k) = false := decide_eq_false c1
    have d2 : decide (a < 1) = false := decide_eq_false c2
    have d3 : decide (b < a) = true := decide_eq_true c3
    go_enter Try.func12, Try.ntmps12
    go_wp2_with fail
    exact bodyPost_ret (v := .bool false) (by simp [results, Try.results12, go_sem]) rfl ⟨rfl, (by repeat (first | exact Below.refl _ _ | assumption | (with_reducible refine Below.setCell ?_ ?h _; case h => first | omega | (simp; done) | (simp; omega)) | (with_reducible refine Below.alloc ?_ ?h _; case h => first | omega | (simp; done) | (simp; omega)) | (with_reducible refine Below.drew ?_) | (with_reducible refine Below.trans ?_ (hb4.mono ?h); case h => first | omega | (simp; done) | (simp; omega)) | (with_reducible refine Below.trans ?_ (hb3.mono ?h); case h => first | omega | (simp; done) | (simp; omega)) | (with_reducible refine Below.trans ?_ (hb2.mono ?h); case h => first | omega | (simp; done) | (simp; omega)) | (with_reducible refine Below.trans ?_ (hb.mono ?h); case h => first | omega | (simp; done) | (simp; omega)) | (with_reducible refine Below.trans ?_ (hb0.mono ?h); case h => first | omega | (simp; done) | (simp; omega))))⟩
  by_cases c4 : 1048576 < b
  case pos =>
    rw [rightB_false (by omega)]
    have d0 : decide (k < 1) = false := decide_eq_false c0
    have d1 : decide (200 < k) = false := decide_eq_false c1
    have d2 : decide (a < 1) = false := decide_eq_false c2
    have d3 : decide (b < a) = false := decide_eq_false c3
    have d4 : decide (1048576 < b) = true := decide_eq_true c4
    go_enter Try.func12, Try.ntmps12
    go_wp2_with fail
    exact bodyPost_ret (v := .bool false) (by simp [results, Try.results12, go_sem]) rfl ⟨rfl, (by repeat (first | exact Below.refl _ _ | assumption | (with_reducible refine Below.setCell ?_ ?h _; case h => first | omega | (simp; done) | (simp; omega)) | (with_reducible refine Below.alloc ?_ ?h _; case h => first | omega | (simp; done) | (simp; omega)) | (with_reducible refine Below.drew ?_) | (with_reducible refine Below.trans ?_ (hb4.mono ?h); case h => first | omega | (simp; done) | (simp; omega)) | (with_reducible refine Below.trans ?_ (hb3.mono ?h); case h => first | omega | (simp; done) | (simp; omega)) | (with_reducible refine Below.trans ?_ (hb2.mono ?h); case h => first | omega | (simp; done) | (simp; omega)) | (with_reducible refine Below.trans ?_ (hb.mono ?h); case h => first | omega | (simp; done) | (simp; omega)) | (with_reducible refine Below.trans ?_ (hb0.mono ?h); case h => first | omega | (simp; done) | (simp; omega))))⟩
  have m := mul_small (show 1 ≤ k by omega) (show k ≤ 200 by omega) (show 0 ≤ a by omega) (show a ≤ 1048576 by omega)
  have mw : IntKind.i64.wrap (k * a) = k * a := by rw [IntKind.wrap_i64]; omega
  have d0 : decide (k < 1) = false := decide_eq_false c0
  have d1 : decide (200 < k) = false := decide_eq_false c1
  have d2 : decide (a < 1) = false := decide_eq_false c2
  have d3 : decide (b < a) = false := decide_eq_false c3
  have d4 : decide (1048576 < b) = false := decide_eq_false c4
  have e : rightB k a b = decide (b < k * a) := by unfold rightB; rw [decide_eq_decide]; exact ⟨fun h => h.2.2.2.2.2, fun h => ⟨by omega, by omega, by omega, by omega, by omega, h⟩⟩
  rw [e]
  clear e m
  go_enter Try.func12, Try.ntmps12
  go_wp2_with fail
  exact bodyPost_ret (v := .bool (decide (b < k * a))) (by simp [results, Try.results12, go_sem]) rfl ⟨rfl, (by repeat (first | exact Below.refl _ _ | assumption | (with_reducible refine Below.setCell ?_ ?h _; case h => first | omega | (simp; done) | (simp; omega)) | (with_reducible refine Below.alloc ?_ ?h _; case h => first | omega | (simp; done) | (simp; omega)) | (with_reducible refine Below.drew ?_) | (with_reducible refine Below.trans ?_ (hb4.mono ?h); case h => first | omega | (simp; done) | (simp; omega)) | (with_reducible refine Below.trans ?_ (hb3.mono ?h); case h => first | omega | (simp; done) | (simp; omega)) | (with_reducible refine Below.trans ?_ (hb2.mono ?h); case h => first | omega | (simp; done) | (simp; omega)) | (with_reducible refine Below.trans ?_ (hb.mono ?h); case h => first | omega | (simp; done) | (simp; omega)) | (with_reducible refine Below.trans ?_ (hb0.mono ?h); case h => first | omega | (simp; done) | (simp; omega))))⟩
set_option maxHeartbeats 800000 in
theorem rshare_t (k n : Int) (k1 : k ≤ 9223372036854775807) (n0 : 0 ≤ n) (n1 : n < 18446744073709551616) (w : World) : Calls Try.prog 14 #[.int .i64 k, .int .u64 n] w fun e w' => e = .returned (.int .u64 (shareI k n)) ∧ Below w.heap.size w w' := by
  unfold shareI
  by_cases c : k < 1
  · rw [if_pos c]
    go_enter Try.func14, Try.ntmps14
    go_wp2
    exact bodyPost_ret (v := .int .u64 0) (by simp [results, Try.results14, go_sem]) rfl ⟨rfl, (by repeat (first | exact Below.refl _ _ | assumption | (with_reducible refine Below.setCell ?_ ?h _; case h => first | omega | (simp; done) | (simp; omega)) | (with_reducible refine Below.alloc ?_ ?h _; case h => first | omega | (simp; done) | (simp; omega)) | (with_reducible refine Below.drew ?_) | (with_reducible refine Below.trans ?_ (hb4.mono ?h); case h => first | omega | (simp; done) | (simp; omega)) | (with_reducible refine Below.trans ?_ (hb3.mono ?h); case h => first | omega | (simp; done) | (simp; omega)) | (with_reducible refine Below.trans ?_ (hb2.mono ?h); case h => first | omega | (simp; done) | (simp; omega)) | (with_reducible refine Below.trans ?_ (hb.mono ?h); case h => first | omega | (simp; done) | (simp; omega)) | (with_reducible refine Below.trans ?_ (hb0.mono ?h); case h => first | omega | (simp; done) | (simp; omega))))⟩
  · rw [if_neg c]
    have kw : IntKind.u64.wrap k = k := by rw [IntKind.wrap_u64]; omega
    have k0 : ¬ k = 0 := by omega
    have kb : (k == 0) = false := by simpa using k0
    have kp : 0 ≤ k := by omega
    have m0 := Int.emod_nonneg n (b := k) k0
    have m1 := Int.emod_lt_of_pos n (b := k) (by omega)
    have e := Int.emod_add_mul_ediv n k
    have q0 : 0 ≤ n / k := Int.ediv_nonneg n0 kp
    have q1 : n / k ≤ n := Int.ediv_le_self _ n0
    have q2 : 0 ≤ k * (n / k) := Int.mul_nonneg kp q0
    have e1 : (n - n % k) / k = n / k := by rw [show n - n % k = k * (n / k) by omega, Int.mul_ediv_cancel_left _ k0]
    have t1 : n.tmod k = n % k := Int.tmod_eq_emod_of_nonneg n0
    have t2 : (n - n % k).tdiv k = n / k := (Int.tdiv_eq_ediv_of_nonneg (by omega)).trans e1
    have w0 : IntKind.u64.wrap (n % k) = n % k := by rw [IntKind.wrap_u64]; omega
    have w1 : IntKind.u64.wrap (n - n % k) = n - n % k := by rw [IntKind.wrap_u64]; omega
    have w2 : IntKind.u64.wrap (n / k) = n / k := by rw [IntKind.wrap_u64]; omega
    clear e q2 m1
    go_enter Try.func14, Try.ntmps14
    go_wp2
    exact bodyPost_ret (v := .int .u64 (n / k)) (by simp [results, Try.results14, go_sem]) rfl ⟨rfl, (by repeat (first | exact Below.refl _ _ | assumption | (with_reducible refine Below.setCell ?_ ?h _; case h => first | omega | (simp; done) | (simp; omega)) | (with_reducible refine Below.alloc ?_ ?h _; case h => first | omega | (simp; done) | (simp; omega)) | (with_reducible refine Below.drew ?_) | (with_reducible refine Below.trans ?_ (hb4.mono ?h); case h => first | omega | (simp; done) | (simp; omega)) | (with_reducible refine Below.trans ?_ (hb3.mono ?h); case h => first | omega | (simp; done) | (simp; omega)) | (with_reducible refine Below.trans ?_ (hb2.mono ?h); case h => first | omega | (simp; done) | (simp; omega)) | (with_reducible refine Below.trans ?_ (hb.mono ?h); case h => first | omega | (simp; done) | (simp; omega)) | (with_reducible refine Below.trans ?_ (hb0.mono ?h); case h => first | omega | (simp; done) | (simp; omega))))⟩
set_option maxHeartbeats 800000 in
theorem rheavy_t (a b x n : Int) (a1 : a ≤ 9223372036854775807) (b1 : b ≤ 9223372036854775807) (hx : Word x) (hn : Word n) (w : World) : Calls Try.prog 16 #[.int .i64 a, .int .i64 b, .int .u64 x, .int .u64 n] w fun e w' => e = .returned (.bool (heavyB a b x n)) ∧ Below w.heap.size w w' := by
  by_cases c1 : 0 < a
  · by_cases c2 : 0 < b
    · rw [heavyB_pos c1 c2]
      have aw : IntKind.u64.wrap a = a := by rw [IntKind.wrap_u64]; omega
      have bw : IntKind.u64.wrap b = b := by rw [IntKind.wrap_u64]; omega
      have wa : Word a := ⟨by omega, by omega⟩
      have wb : Word b := ⟨by omega, by omega⟩
      have e := cmp_ge (prod_range wb hx).1 (prod_range wb hx).2 (prod_range wa hn).1 (prod_range wa hn).2
      have d1 : decide (0 < a) = true := decide_eq_true c1
      have d2 : decide (0 < b) = true := decide_eq_true c2
      go_enter Try.func16, Try.ntmps16
      go_wp2_with fail
      refine (refMul_t b x wb hx _).mono ?_
      rintro e w1 ⟨rfl, hx1⟩
      have hb1 : Below w.heap.size w w1 := below_step (by repeat (first | exact Below.refl _ _ | assumption | (with_reducible refine Below.setCell ?_ ?h _; case h => first | omega | (simp; done) | (simp; omega)) | (with_reducible refine Below.alloc ?_ ?h _; case h => first | omega | (simp; done) | (simp; omega)) | (with_reducible refine Below.drew ?_) | (with_reducible refine Below.trans ?_ (hb4.mono ?h); case h => first | omega | (simp; done) | (simp; omega)) | (with_reducible refine Below.trans ?_ (hb3.mono ?h); case h => first | omega | (simp; done) | (simp; omega)) | (with_reducible refine Below.trans ?_ (hb2.mono ?h); case h => first | omega | (simp; done) | (simp; omega)) | (with_reducible refine Below.trans ?_ (hb.mono ?h); case h => first | omega | (simp; done) | (simp; omega)) | (with_reducible refine Below.trans ?_ (hb0.mono ?h); case h => first | omega | (simp; done) | (simp; omega)))) hx1
      go_wp2_with fail
      refine (refMul_t a n wa hn _).mono ?_
      rintro e w2 ⟨rfl, hx2⟩
      have hb2 : Below w1.heap.size w1 w2 := below_step (by repeat (first | exact Below.refl _ _ | assumption | (with_reducible refine Below.setCell ?_ ?h _; case h => first | omega | (simp; done) | (simp; omega)) | (with_reducible refine Below.alloc ?_ ?h _; case h => first | omega | (simp; done) | (simp; omega)) | (with_reducible refine Below.drew ?_) | (with_reducible refine Below.trans ?_ (hb4.mono ?h); case h => first | omega | (simp; done) | (simp; omega)) | (with_reducible refine Below.trans ?_ (hb3.mono ?h); case h => first | omega | (simp; done) | (simp; omega)) | (with_reducible refine Below.trans ?_ (hb2.mono ?h); case h => first | omega | (simp; done) | (simp; omega)) | (with_reducible refine Below.trans ?_ (hb.mono ?h); case h => first | omega | (simp; done) | (simp; omega)) | (with_reducible refine Below.trans ?_ (hb0.mono ?h); case h => first | omega | (simp; done) | (simp; omega)))) hx2
      go_wp2_with fail
      refine (refCmp_t (b * x) (a * n) _).mono ?_
      rintro e w3 ⟨rfl, hx3⟩
      have hb3 : Below w2.heap.size w2 w3 := below_step (by repeat (first | exact Below.refl _ _ | assumption | (with_reducible refine Below.setCell ?_ ?h _; case h => first | omega | (simp; done) | (simp; omega)) | (with_reducible refine Below.alloc ?_ ?h _; case h => first | omega | (simp; done) | (simp; omega)) | (with_reducible refine Below.drew ?_) | (with_reducible refine Below.trans ?_ (hb4.mono ?h); case h => first | omega | (simp; done) | (simp; omega)) | (with_reducible refine Below.trans ?_ (hb3.mono ?h); case h => first | omega | (simp; done) | (simp; omega)) | (with_reducible refine Below.trans ?_ (hb2.mono ?h); case h => first | omega | (simp; done) | (simp; omega)) | (with_reducible refine Below.trans ?_ (hb.mono ?h); case h => first | omega | (simp; done) | (simp; omega)) | (with_reducible refine Below.trans ?_ (hb0.mono ?h); case h => first | omega | (simp; done) | (simp; omega)))) hx3
      go_wp2_with fail
      exact bodyPost_ret (v := .bool (decide (a * n ≤ b * x))) (by simp [results, Try.results16, go_sem]) rfl ⟨rfl, below_step (below_step hb1 hb2) hb3⟩
    · rw [heavyB_neg (fun h => c2 h.2)]
      have d1 : decide (0 < a) = true := decide_eq_true c1
      have d2 : decide (0 < b) = false := decide_eq_false c2
      go_enter Try.func16, Try.ntmps16
      go_wp2_with fail
      exact bodyPost_ret (v := .bool false) (by simp [results, Try.results16, go_sem]) rfl ⟨rfl, (by repeat (first | exact Below.refl _ _ | assumption | (with_reducible refine Below.setCell ?_ ?h _; case h => first | omega | (simp; done) | (simp; omega)) | (with_reducible refine Below.alloc ?_ ?h _; case h => first | omega | (simp; done) | (simp; omega)) | (with_reducible refine Below.drew ?_) | (with_reducible refine Below.trans ?_ (hb4.mono ?h); case h => first | omega | (simp; done) | (simp; omega)) | (with_reducible refine Below.trans ?_ (hb3.mono ?h); case h => first | omega | (simp; done) | (simp; omega)) | (with_reducible refine Below.trans ?_ (hb2.mono ?h); case h => first | omega | (simp; done) | (simp; omega)) | (with_reducible refine Below.trans ?_ (hb.mono ?h); case h => first | omega | (simp; done) | (simp; omega)) | (with_reducible refine Below.trans ?_ (hb0.mono ?h); case h => first | omega | (simp; done) | (simp; omega))))⟩
  · rw [heavyB_neg (fun h => c1 h.1)]
    have d1 : decide (0 < a) = false := decide_eq_false c1
    go_enter Try.func16, Try.ntmps16
    go_wp2_with fail
    exact bodyPost_ret (v := .bool false) (by simp [results, Try.results16, go_sem]) rfl ⟨rfl, (by repeat (first | exact Below.refl _ _ | assumption | (with_reducible refine Below.setCell ?_ ?h _; case h => first | omega | (simp; done) | (simp; omega)) | (with_reducible refine Below.alloc ?_ ?h _; case h => first | omega | (simp; done) | (simp; omega)) | (with_reducible refine Below.drew ?_) | (with_reducible refine Below.trans ?_ (hb4.mono ?h); case h => first | omega | (simp; done) | (simp; omega)) | (with_reducible refine Below.trans ?_ (hb3.mono ?h); case h => first | omega | (simp; done) | (simp; omega)) | (with_reducible refine Below.trans ?_ (hb2.mono ?h); case h => first | omega | (simp; done) | (simp; omega)) | (with_reducible refine Below.trans ?_ (hb.mono ?h); case h => first | omega | (simp; done) | (simp; omega)) | (with_reducible refine Below.trans ?_ (hb0.mono ?h); case h => first | omega | (simp; done) | (simp; omega))))⟩
theorem heavy_iff {a b x n : Int} (h1 : 1 ≤ a) (h2 : a ≤ b) : heavyB a b x n = decide (leastI a b n ≤ x) := by
  rw [heavyB_pos h1 (by omega), leastI_in h1 h2, decide_eq_decide]
  have hlt : (a * n + (b - 1)) / b < x + 1 ↔ a * n + (b - 1) < (x + 1) * b := Int.ediv_lt_iff_lt_mul (by omega)
  have e : (x + 1) * b = b * x + b := by rw [Int.add_mul, Int.one_mul, Int.mul_comm]
  rw [e] at hlt
  omega
set_option maxRecDepth 100000 in
set_option maxHeartbeats 1600000 in
theorem rleast_t (a b n : Int) (a1 : a ≤ 9223372036854775807) (b1 : b ≤ 9223372036854775807) (hn : Word n) (w : World) : Calls Try.prog 18 #[.int .i64 a, .int .i64 b, .int .u64 n] w fun e w' => e = .returned (.int .u64 (leastI a b n)) ∧ Below w.heap.size w w' := by
  by_cases c1 : a < 1
  · rw [leastI_out (.inl c1)]
    have d1 : decide (a < 1) = true := decide_eq_true c1
    go_enter Try.func18, Try.ntmps18
    go_wp2_with fail
    exact bodyPost_ret (v := .int .u64 0) (by simp [results, Try.results18, go_sem]) rfl ⟨rfl, (by repeat (first | exact Below.refl _ _ | assumption | (with_reducible refine Below.setCell ?_ ?h _; case h => first | omega | (simp; done) | (simp; omega)) | (with_reducible refine Below.alloc ?_ ?h _; case h => first | omega | (simp; done) | (simp; omega)) | (with_reducible refine Below.drew ?_) | (with_reducible refine Below.trans ?_ (hb4.mono ?h); case h => first | omega | (simp; done) | (simp; omega)) | (with_reducible refine Below.trans ?_ (hb3.mono ?h); case h => first | omega | (simp; done) | (simp; omega)) | (with_reducible refine Below.trans ?_ (hb2.mono ?h); case h => first | omega | (simp; done) | (simp; omega)) | (with_reducible refine Below.trans ?_ (hb.mono ?h); case h => first | omega | (simp; done) | (simp; omega)) | (with_reducible refine Below.trans ?_ (hb0.mono ?h); case h => first | omega | (simp; done) | (simp; omega))))⟩
  have d1 : decide (a < 1) = false := decide_eq_false c1
  by_cases c2 : b < a
  · rw [leastI_out (.inr c2)]
    have d2 : decide (b < a) = true := decide_eq_true c2
    go_enter Try.func18, Try.ntmps18
    go_wp2_with fail
    exact bodyPost_ret (v := .int .u64 0) (by simp [results, Try.results18, go_sem]) rfl ⟨rfl, (by repeat (first | exact Below.refl _ _ | assumption | (with_reducible refine Below.setCell ?_ ?h _; case h => first | omega | (simp; done) | (simp; omega)) | (with_reducible refine Below.alloc ?_ ?h _; case h => first | omega | (simp; done) | (simp; omega)) | (with_reducible refine Below.drew ?_) | (with_reducible refine Below.trans ?_ (hb4.mono ?h); case h => first | omega | (simp; done) | (simp; omega)) | (with_reducible refine Below.trans ?_ (hb3.mono ?h); case h => first | omega | (simp; done) | (simp; omega)) | (with_reducible refine Below.trans ?_ (hb2.mono ?h); case h => first | omega | (simp; done) | (simp; omega)) | (with_reducible refine Below.trans ?_ (hb.mono ?h); case h => first | omega | (simp; done) | (simp; omega)) | (with_reducible refine Below.trans ?_ (hb0.mono ?h); case h => first | omega | (simp; done) | (simp; omega))))⟩
  have d2 : decide (b < a) = false := decide_eq_false c2
  have hc := ceil_le (show 1 ≤ a by omega) (show a ≤ b by omega) hn.1
  rw [← leastI_in (by omega) (by omega)] at hc
  have hh := fun x (hx : Word x) w => rheavy_t a b x n a1 b1 hx hn w
  have hi' := fun x => heavy_iff (x := x) (n := n) (show 1 ≤ a by omega) (show a ≤ b by omega)
  simp only [hi'] at hh
  clear hi'
  obtain ⟨n0, n1⟩ := hn
  generalize leastI a b n = L at *
  obtain ⟨L0, L1⟩ := hc
  go_enter Try.func18, Try.ntmps18
  go_wp2_with fail
  go_loopw [7, 8] (fun l h wr => ∃ lo hi : Int, l = .int .u64 lo ∧ h = .int .u64 hi ∧ 0 ≤ lo ∧ lo ≤ L ∧ L ≤ hi ∧ hi ≤ n ∧ Below w.heap.size w wr) (fun l h _ => (intOf h - intOf l).toNat)
  case atStart => exact ⟨0, n, rfl, rfl, by omega, L0, L1, by omega, (by repeat (first | exact Below.refl _ _ | assumption | (with_reducible refine Below.setCell ?_ ?h _; case h => first | omega | (simp; done) | (simp; omega)) | (with_reducible refine Below.alloc ?_ ?h _; case h => first | omega | (simp; done) | (simp; omega)) | (with_reducible refine Below.drew ?_) | (with_reducible refine Below.trans ?_ (hb4.mono ?h); case h => first | omega | (simp; done) | (simp; omega)) | (with_reducible refine Below.trans ?_ (hb3.mono ?h); case h => first | omega | (simp; done) | (simp; omega)) | (with_reducible refine Below.trans ?_ (hb2.mono ?h); case h => first | omega | (simp; done) | (simp; omega)) | (with_reducible refine Below.trans ?_ (hb.mono ?h); case h => first | omega | (simp; done) | (simp; omega)) | (with_reducible refine Below.trans ?_ (hb0.mono ?h); case h => first | omega | (simp; done) | (simp; omega))))⟩
  case round =>
    obtain ⟨lo, hi, rfl, rfl, l0, l1, h0, h1, hbT⟩ := hrel
    by_cases c3 : lo < hi
    · have d3 : decide (lo < hi) = true := decide_eq_true c3
      have w1 : IntKind.u64.wrap (hi - lo) = hi - lo := by rw [IntKind.wrap_u64]; omega
      have w2 : IntKind.u64.wrap ((hi - lo) / 2) = (hi - lo) / 2 := by rw [IntKind.wrap_u64]; omega
      have w3 : IntKind.u64.wrap (lo + (hi - lo) / 2) = lo + (hi - lo) / 2 := by rw [IntKind.wrap_u64]; omega
      have t1 : (hi - lo).tdiv 2 = (hi - lo) / 2 := Int.tdiv_eq_ediv_of_nonneg (by omega)
      obtain ⟨m, hm⟩ : ∃ m, lo + (hi - lo) / 2 = m := ⟨_, rfl⟩
      have m0 : lo ≤ m := by omega
      have m1 : m < hi := by omega
      have hx := hh m ⟨by omega, by omega⟩
      by_cases c4 : L ≤ m
      · rw [decide_eq_true c4] at hx
        go_wp2_with fail
        refine (hx _).mono ?_; rintro e w5 ⟨rfl, hb5⟩
        go_wp2
        exact ⟨⟨lo, m, rfl, rfl, l0, l1, c4, by omega, below_step hbT hb5⟩, by simp [intOf]; omega⟩
      · rw [decide_eq_false c4] at hx
        have w4 : IntKind.u64.wrap (m + 1) = m + 1 := by rw [IntKind.wrap_u64]; omega
        go_wp2_with fail
        refine (hx _).mono ?_; rintro e w5 ⟨rfl, hb5⟩
        go_wp2
        exact ⟨⟨m + 1, hi, rfl, rfl, by omega, by omega, h0, h1, below_step hbT hb5⟩, by simp [intOf]; omega⟩
    · have d3 : decide (lo < hi) = false := decide_eq_false c3
      obtain rfl : lo = L := by omega
      go_wp2
      exact bodyPost_ret (v := .int .u64 lo) (by simp [results, Try.results18, go_sem]) rfl ⟨rfl, hbT⟩
set_option maxHeartbeats 1600000 in
theorem rmost_t (k a b : Int) (w : World) : Calls Try.prog 20 #[.int .i64 k, .int .i64 a, .int .i64 b] w fun e w' => e = .returned (.int .i64 (mostI k a b)) ∧ Below w.heap.size w w' := by
  cases hr : rightB k a b with
  | false =>
    rw [mostI_no hr]
    have hm := fun w => rright_t k a b w
    rw [hr] at hm
    go_enter Try.func20, Try.ntmps20
    go_wp2_with fail
    refine (hm _).mono ?_; rintro e w1 ⟨rfl, hb1⟩
    go_wp2_with fail
    exact bodyPost_ret (v := .int .i64 0) (by simp [results, Try.results20, go_sem]) rfl ⟨rfl, hb1⟩
  | true =>
    rw [mostI_yes hr]
    have hm := fun w => rright_t k a b w
    rw [hr] at hm
    obtain ⟨k1, k2, a1, a2, b2, hk⟩ := rightB_iff.1 hr
    clear hr
    have ma := mul_small k1 k2 (show 0 ≤ a by omega) (show a ≤ 1048576 by omega)
    have mb := mul_small k1 k2 (show 0 ≤ b by omega) (show b ≤ 1048576 by omega)
    rw [Int.mul_comm k a] at ma hk
    rw [Int.mul_comm k b] at mb
    have w1 : IntKind.i64.wrap (b * k) = b * k := by rw [IntKind.wrap_i64]; omega
    have w2 : IntKind.i64.wrap (a * k) = a * k := by rw [IntKind.wrap_i64]; omega
    have w3 : IntKind.i64.wrap (a * k - b) = a * k - b := by rw [IntKind.wrap_i64]; omega
    have pz : ¬ (a * k - b) = 0 := by omega
    have pb : ((a * k - b) == 0) = false := by simpa using pz
    have pp : 0 < a * k - b := by omega
    have m0 := Int.emod_nonneg (b * k) (b := (a * k - b)) pz
    have m1 := Int.emod_lt_of_pos (b * k) (b := (a * k - b)) pp
    have e := Int.emod_add_mul_ediv (b * k) (a * k - b)
    have q0 : 0 ≤ (b * k) / (a * k - b) := Int.ediv_nonneg mb.1 (by omega)
    have q1 : (b * k) / (a * k - b) ≤ (b * k) := Int.ediv_le_self _ mb.1
    have q2 : 0 ≤ (a * k - b) * ((b * k) / (a * k - b)) := Int.mul_nonneg (by omega) q0
    have e1 : ((b * k) - (b * k) % (a * k - b)) / (a * k - b) = (b * k) / (a * k - b) := by rw [show (b * k) - (b * k) % (a * k - b) = (a * k - b) * ((b * k) / (a * k - b)) by omega, Int.mul_ediv_cancel_left _ pz]
    have t1 : (b * k).tmod (a * k - b) = (b * k) % (a * k - b) := Int.tmod_eq_emod_of_nonneg mb.1
    have t2 : ((b * k) - (b * k) % (a * k - b)).tdiv (a * k - b) = (b * k) / (a * k - b) := (Int.tdiv_eq_ediv_of_nonneg (by omega)).trans e1
    have w5 : IntKind.i64.wrap ((b * k) % (a * k - b)) = (b * k) % (a * k - b) := by rw [IntKind.wrap_i64]; omega
    have w6 : IntKind.i64.wrap ((b * k) - (b * k) % (a * k - b)) = (b * k) - (b * k) % (a * k - b) := by rw [IntKind.wrap_i64]; omega
    have w7 : IntKind.i64.wrap ((b * k) / (a * k - b)) = (b * k) / (a * k - b) := by rw [IntKind.wrap_i64]; omega
    clear e q2 m1
    go_enter Try.func20, Try.ntmps20
    go_wp2_with fail
    refine (hm _).mono ?_; rintro e w1 ⟨rfl, hb1⟩
    go_wp2_with fail
    exact bodyPost_ret (v := .int .i64 ((b * k) / (a * k - b))) (by simp [results, Try.results20, go_sem]) rfl ⟨rfl, hb1⟩
set_option maxRecDepth 100000 in
set_option maxHeartbeats 1600000 in
theorem rclip_t (n P M : Int) (hn : Word n) (p0 : 0 ≤ P) (p1 : P < MM) (m0 : 0 ≤ M) (m1 : M < MM) (w : World) : Calls Try.prog 27 #[.int .u64 n, .agg #[.int .u64 (hi P), .int .u64 (lo P)], .agg #[.int .u64 (hi M), .int .u64 (lo M)]] w fun e w' => e = .returned (.int .u64 (clipI n P M)) ∧ Below w.heap.size w w' := by
  have hs := fun w => refSub_t M P w
  have hc := fun w => refCmp_t P M w
  rw [Int.emod_eq_of_lt m0 m1, Int.emod_eq_of_lt p0 p1] at hs hc
  by_cases c1 : M ≤ P
  · have e0 : clipI n P M = n := by
      obtain ⟨_, _⟩ := hn
      unfold clipI; split
      · rfl
      · split <;> omega
    rw [e0]
    have e1 : decide (0 ≤ cmpI P M) = true := by
      apply decide_eq_true; unfold cmpI; split <;> (try split) <;> omega
    go_enter Try.func27, Try.ntmps27
    go_wp2_with fail
    refine (hc _).mono ?_; rintro e w1 ⟨rfl, hb1⟩
    have hb : Below w.heap.size w w1 := below_step (by repeat (first | exact Below.refl _ _ | assumption | (with_reducible refine Below.setCell ?_ ?h _; case h => first | omega | (simp; done) | (simp; omega)) | (with_reducible refine Below.alloc ?_ ?h _; case h => first | omega | (simp; done) | (simp; omega)) | (with_reducible refine Below.drew ?_) | (with_reducible refine Below.trans ?_ (hb4.mono ?h); case h => first | omega | (simp; done) | (simp; omega)) | (with_reducible refine Below.trans ?_ (hb3.mono ?h); case h => first | omega | (simp; done) | (simp; omega)) | (with_reducible refine Below.trans ?_ (hb2.mono ?h); case h => first | omega | (simp; done) | (simp; omega)) | (with_reducible refine Below.trans ?_ (hb.mono ?h); case h => first | omega | (simp; done) | (simp; omega)) | (with_reducible refine Below.trans ?_ (hb0.mono ?h); case h => first | omega | (simp; done) | (simp; omega)))) hb1
    go_wp2_with fail
    exact bodyPost_ret (v := .int .u64 n) (by simp [results, Try.results27, go_sem]) rfl ⟨rfl, hb⟩
  have e1 : decide (0 ≤ cmpI P M) = false := by
    apply decide_eq_false; unfold cmpI; rw [if_pos (by omega)]; omega
  have L0 : 0 < M - P := by omega
  have L1 : M - P < MM := by omega
  have hcl : clipI n P M = if n < M - P then 0 else n - (M - P) := by unfold clipI; rw [if_neg (by omega)]
  generalize clipI n P M = C at *
  have R0 : Row ((w.alloc (.cells #[.int .u64 (hi P), .int .u64 (lo P)] 34)).alloc (.cells #[.int .u64 (hi M), .int .u64 (lo M)] 34)) w.heap.size #[.int .u64 (hi P), .int .u64 (lo P)] 34 := (Row.new w _ _).alloc _
  have R1 : Row ((w.alloc (.cells #[.int .u64 (hi P), .int .u64 (lo P)] 34)).alloc (.cells #[.int .u64 (hi M), .int .u64 (lo M)] 34)) (w.heap.size + 1) #[.int .u64 (hi M), .int .u64 (lo M)] 34 := by
    have := Row.new (w.alloc (.cells #[.int .u64 (hi P), .int .u64 (lo P)] 34)) #[.int .u64 (hi M), .int .u64 (lo M)] 34
    rwa [World.size_alloc] at this
  obtain ⟨n0, n1⟩ := hn
  have HCL := Lib.hid hcl
  clear hcl
  go_enter Try.func27, Try.ntmps27
  go_wp2_with fail
  refine (hc _).mono ?_; rintro e w1 ⟨rfl, hb1⟩
  have hb : Below w.heap.size w w1 := below_step (by repeat (first | exact Below.refl _ _ | assumption | (with_reducible refine Below.setCell ?_ ?h _; case h => first | omega | (simp; done) | (simp; omega)) | (with_reducible refine Below.alloc ?_ ?h _; case h => first | omega | (simp; done) | (simp; omega)) | (with_reducible refine Below.drew ?_) | (with_reducible refine Below.trans ?_ (hb4.mono ?h); case h => first | omega | (simp; done) | (simp; omega)) | (with_reducible refine Below.trans ?_ (hb3.mono ?h); case h => first | omega | (simp; done) | (simp; omega)) | (with_reducible refine Below.trans ?_ (hb2.mono ?h); case h => first | omega | (simp; done) | (simp; omega)) | (with_reducible refine Below.trans ?_ (hb.mono ?h); case h => first | omega | (simp; done) | (simp; omega)) | (with_reducible refine Below.trans ?_ (hb0.mono ?h); case h => first | omega | (simp; done) | (simp; omega)))) hb1
  replace R0 := R0.later hb1
  replace R1 := R1.later hb1
  clear hb1 hc
  have a0 := (R0.cell 0).trans (show _ = some (Value.int .u64 (hi P)) from rfl)
  have a1 := (R0.cell 1).trans (show _ = some (Value.int .u64 (lo P)) from rfl)
  have b0 := (R1.cell 0).trans (show _ = some (Value.int .u64 (hi M)) from rfl)
  have b1 := (R1.cell 1).trans (show _ = some (Value.int .u64 (lo M)) from rfl)
  clear R0 R1
  go_wp2_with fail
  refine (hs _).mono ?_; rintro e w2 ⟨rfl, hb2⟩
  replace hb := below_step hb hb2
  clear hb2 hs a0 a1 b0 b1
  generalize M - P = L at *
  have eL : L = hi L * 18446744073709551616 + lo L := by unfold hi lo; unfold MM at L1; omega
  have h0 := hi_nonneg L
  have l0 := lo_nonneg L
  have l1 := lo_le L
  generalize hi L = H at *
  generalize lo L = l at *
  by_cases c3 : 0 < H
  · have d3 : decide (0 < H) = true := decide_eq_true c3
    have HE := Lib.hid (show C = 0 by rw [HCL.out, if_pos (by omega)])
    go_wp2_with fail
    exact bodyPost_ret (v := .int .u64 0) (by simp [results, Try.results27, go_sem]) rfl ⟨by rw [HE.out], hb.alloc hb.size _⟩
  · have d3 : decide (0 < H) = false := decide_eq_false c3
    obtain rfl : H = 0 := by omega
    by_cases c4 : n ≤ l
    · have d4 : decide (n ≤ l) = true := decide_eq_true c4
      have HE := Lib.hid (show C = 0 by rw [HCL.out]; split <;> omega)
      go_wp2_with fail
      exact bodyPost_ret (v := .int .u64 0) (by simp [results, Try.results27, go_sem]) rfl ⟨by rw [HE.out], hb.alloc hb.size _⟩
    · have d4 : decide (n ≤ l) = false := decide_eq_false c4
      have HE := Lib.hid (show C = n - l by rw [HCL.out]; split <;> omega)
      have hw : IntKind.u64.wrap (n - l) = n - l := by rw [IntKind.wrap_u64]; omega
      go_wp2_with fail
      exact bodyPost_ret (v := .int .u64 (n - l)) (by simp [results, Try.results27, go_sem, hw]) rfl ⟨by rw [HE.out], hb.alloc hb.size _⟩
end Go.Proofs.Ythohpcbfohlmhaa
namespace Go.Proofs.Ythohpcbfohlmhaa
set_option linter.unusedVariables false
set_option linter.unusedSimpArgs false
open Go.RowKit
theorem eqlw (x0 x1 y0 y1 : Int) (w : World) : (binOp .eql 31 (.agg #[.int .u64 x0, .int .u64 x1]) (.agg #[.int .u64 y0, .int .u64 y1])).run Try.prog w = .ok (.bool (decide (x0 = y0 ∧ x1 = y1))) w := by
  by_cases h0 : x0 = y0 <;> by_cases h1 : x1 = y1 <;> simp [go_sem, h0, h1]
set_option maxRecDepth 100000 in
set_option maxHeartbeats 3200000 in
theorem alive12_t (w : World) : Calls Try.prog 10 #[] w fun e w' => e = .returned (.bool true) ∧ Below w.heap.size w w' := by
  have m1 : ∀ w, Calls Try.prog 28 #[.int .u64 9223372036854775808, .int .u64 6] w fun e w' => e = .returned (.agg #[.int .u64 (hi 55340232221128654848), .int .u64 (lo 55340232221128654848)]) ∧ Below w.heap.size w w' := fun w => by
    have h := mul_any 9223372036854775808 6 ⟨by decide, by decide⟩ ⟨by decide, by decide⟩ w; exact h
  have m2 : ∀ w, Calls Try.prog 21 #[.agg #[.int .u64 (hi 55340232221128654848), .int .u64 (lo 55340232221128654848)], .int .u64 5] w fun e w' => e = .returned (.tuple #[.agg #[.int .u64 0, .int .u64 11068046444225730969], .int .u64 3]) ∧ Below w.heap.size w w' := fun w => by
    have h := div_t 55340232221128654848 5 (by decide) (by unfold MM; decide) (by decide) (by decide) w; exact h
  have r1 : ∀ w, Calls Try.prog 11 #[.int .i64 10, .int .i64 1, .int .i64 4] w fun e w' => e = .returned (.bool true) ∧ Below w.heap.size w w' := fun w => right12_t 10 1 4 w
  have r2 : ∀ w, Calls Try.prog 11 #[.int .i64 4, .int .i64 1, .int .i64 4] w fun e w' => e = .returned (.bool false) ∧ Below w.heap.size w w' := fun w => right12_t 4 1 4 w
  have r3 : ∀ w, Calls Try.prog 13 #[.int .i64 3, .int .u64 10] w fun e w' => e = .returned (.int .u64 3) ∧ Below w.heap.size w w' := fun w => share_t 3 10 (by decide) (by decide) (by decide) w
  have r4 : ∀ w, Calls Try.prog 15 #[.int .i64 1, .int .i64 3, .int .u64 4, .int .u64 10] w fun e w' => e = .returned (.bool true) ∧ Below w.heap.size w w' := fun w => heavy_t 1 3 4 10 (by decide) (by decide) ⟨by decide, by decide⟩ ⟨by decide, by decide⟩ w
  have r5 : ∀ w, Calls Try.prog 15 #[.int .i64 1, .int .i64 3, .int .u64 3, .int .u64 10] w fun e w' => e = .returned (.bool false) ∧ Below w.heap.size w w' := fun w => heavy_t 1 3 3 10 (by decide) (by decide) ⟨by decide, by decide⟩ ⟨by decide, by decide⟩ w
  have r6 : ∀ w, Calls Try.prog 17 #[.int .i64 1, .int .i64 3, .int .u64 10] w fun e w' => e = .returned (.int .u64 4) ∧ Below w.heap.size w w' := fun w => least_t 1 3 10 (by decide) (by decide) ⟨by decide, by decide⟩ w
  have r7 : ∀ w, Calls Try.prog 19 #[.int .i64 10, .int .i64 1, .int .i64 4] w fun e w' => e = .returned (.int .i64 6) ∧ Below w.heap.size w w' := fun w => most_t 10 1 4 w
  have r8 : ∀ (w : World) (g : Nat), Row w g #[.int .u64 1, .int .u64 2, .int .u64 3] 22 → Calls Try.prog 25 #[.slice (some ⟨g, 0, none⟩) 3 3] w fun e w' => e = .returned (.agg #[.int .u64 0, .int .u64 6]) ∧ Below w.heap.size w w' := fun w g R => by
    refine sum_t _ [1, 2, 3] w ⟨_, 3, rfl, by decide, fun _ => ⟨g, 0, rfl, R.lt, fun j x hj => ?_⟩, (fun x hx => by simp at hx; rcases hx with rfl | rfl | rfl <;> exact ⟨by decide, by decide⟩), by decide⟩
    rw [Nat.zero_add, R.cell j]
    match j, hj with
    | 0, h => simp at h; subst h; rfl
    | 1, h => simp at h; subst h; rfl
    | 2, h => simp at h; subst h; rfl
  have r9 : ∀ w, Calls Try.prog 26 #[.int .u64 10, .agg #[.int .u64 0, .int .u64 1], .agg #[.int .u64 0, .int .u64 4]] w fun e w' => e = .returned (.int .u64 7) ∧ Below w.heap.size w w' := fun w => clip_t 10 1 4 ⟨by decide, by decide⟩ (by decide) (by unfold MM; decide) (by decide) (by unfold MM; decide) w
  go_enter Try.func10, Try.ntmps10
  go_wp2_with fail
  refine (m1 _).mono ?_; rintro e w1 ⟨rfl, hb⟩
  go_wp2_with fail
  refine (m2 _).mono ?_; rintro e w2 ⟨rfl, hb2⟩
  replace hb := below_step hb hb2; clear hb2
  go_wp2_with fail
  have d1 : (w2.alloc (.cells #[.int .u64 0, .int .u64 11068046444225730969] 31)).cell? ⟨w2.heap.size, 1, none⟩ = some (.int .u64 11068046444225730969) := by simp [go_sem]
  replace hb := hb.alloc hb.size (.cells #[.int .u64 0, .int .u64 11068046444225730969] 31)
  generalize w2.alloc (.cells #[.int .u64 0, .int .u64 11068046444225730969] 31) = w3 at *
  generalize w2.heap.size = g at *
  refine (r1 _).mono ?_; rintro e w4 ⟨rfl, hb2⟩
  replace hb := below_step hb hb2; replace d1 := cell_later hb2 d1; clear hb2
  go_wp2_with fail
  refine (r2 _).mono ?_; rintro e w5 ⟨rfl, hb2⟩
  replace hb := below_step hb hb2; replace d1 := cell_later hb2 d1; clear hb2
  go_wp2_with fail
  refine (r3 _).mono ?_; rintro e w6 ⟨rfl, hb2⟩
  replace hb := below_step hb hb2; replace d1 := cell_later hb2 d1; clear hb2
  go_wp2_with fail
  refine (r4 _).mono ?_; rintro e w7 ⟨rfl, hb2⟩
  replace hb := below_step hb hb2; replace d1 := cell_later hb2 d1; clear hb2
  go_wp2_with fail
  refine (r5 _).mono ?_; rintro e w8 ⟨rfl, hb2⟩
  replace hb := below_step hb hb2; replace d1 := cell_later hb2 d1; clear hb2
  go_wp2_with fail
  refine (r6 _).mono ?_; rintro e w9 ⟨rfl, hb2⟩
  replace hb := below_step hb hb2; replace d1 := cell_later hb2 d1; clear hb2
  go_wp2_with fail
  refine (r7 _).mono ?_; rintro e wa ⟨rfl, hb2⟩
  replace hb := below_step hb hb2; replace d1 := cell_later hb2 d1; clear hb2
  go_wp2_with fail
  refine (r8 _ _ (Row.new wa _ _)).mono ?_; rintro e wb ⟨rfl, hb2⟩
  replace hb := below_step (hb.alloc hb.size _) hb2; clear hb2 d1
  go_wp2_with fail
  refine (of_any _ _).mono ?_; rintro e wc ⟨rfl, hb2⟩
  replace hb := below_step hb hb2; clear hb2
  have eq6 := eqlw 0 6 0 6
  go_wp2_with fail
  refine (of_any _ _).mono ?_; rintro e wd ⟨rfl, hb2⟩
  replace hb := below_step hb hb2; clear hb2
  go_wp2_with fail
  refine (of_any _ _).mono ?_; rintro e we ⟨rfl, hb2⟩
  replace hb := below_step hb hb2; clear hb2
  go_wp2_with fail
  refine (r9 _).mono ?_; rintro e wf ⟨rfl, hb2⟩
  replace hb := below_step hb hb2; clear hb2
  go_wp2_with fail
  exact bodyPost_ret (v := .bool true) (by simp [results, Try.results10, go_sem]) rfl ⟨rfl, hb⟩
def I64 (x : Int) : Prop := x ≤ 9223372036854775807
set_option maxRecDepth 100000 in
set_option maxHeartbeats 1600000 in
theorem ratioTells_any (k a b x n : Int) (k1 : I64 k) (a1 : I64 a) (b1 : I64 b) (hx : Word x) (hn : Word n) (w : World) :
    Calls Try.prog 3 #[.int .i64 k, .int .i64 a, .int .i64 b, .int .u64 x, .int .u64 n] w fun e w' => e = .returned (.bool true) ∧ Below w.heap.size w w' := by
  have c1 := fun w => right12_t k a b w
  have c2 := fun w => rright_t k a b w
  have c3 := fun w => share_t k n k1 hn.1 hn.2 w
  have c4 := fun w => rshare_t k n k1 hn.1 hn.2 w
  have c5 := fun w => heavy_t a b x n a1 b1 hx hn w
  have c6 := fun w => rheavy_t a b x n a1 b1 hx hn w
  have c7 := fun w => least_t a b n a1 b1 hn w
  have c8 := fun w => rleast_t a b n a1 b1 hn w
  have c9 := fun w => most_t k a b w
  have ca := fun w => rmost_t k a b w
  generalize rightB k a b = B1 at *
  generalize shareI k n = B2 at *
  generalize heavyB a b x n = B3 at *
  generalize leastI a b n = B4 at *
  generalize mostI k a b = B5 at *
  clear k1 a1 b1 hx hn
  go_enter Try.func3, Try.ntmps3
  go_wp2_with fail
  refine (alive12_t _).mono ?_
  rintro e w0 ⟨rfl, hx0⟩
  have hb0 : Below w.heap.size w w0 := below_step (by repeat (first | exact Below.refl _ _ | assumption | (with_reducible refine Below.setCell ?_ ?h _; case h => first | omega | (simp; done) | (simp; omega)) | (with_reducible refine Below.alloc ?_ ?h _; case h => first | omega | (simp; done) | (simp; omega)) | (with_reducible refine Below.drew ?_) | (with_reducible refine Below.trans ?_ (hb4.mono ?h); case h => first | omega | (simp; done) | (simp; omega)) | (with_reducible refine Below.trans ?_ (hb3.mono ?h); case h => first | omega | (simp; done) | (simp; omega)) | (with_reducible refine Below.trans ?_ (hb2.mono ?h); case h => first | omega | (simp; done) | (simp; omega)) | (with_reducible refine Below.trans ?_ (hb.mono ?h); case h => first | omega | (simp; done) | (simp; omega)) | (with_reducible refine Below.trans ?_ (hb0.mono ?h); case h => first | omega | (simp; done) | (simp; omega)))) hx0
  go_wp2_with fail
  refine (c1 _).mono ?_
  rintro e w1 ⟨rfl, hx1⟩
  have hb1 : Below w0.heap.size w0 w1 := below_step (by repeat (first | exact Below.refl _ _ | assumption | (with_reducible refine Below.setCell ?_ ?h _; case h => first | omega | (simp; done) | (simp; omega)) | (with_reducible refine Below.alloc ?_ ?h _; case h => first | omega | (simp; done) | (simp; omega)) | (with_reducible refine Below.drew ?_) | (with_reducible refine Below.trans ?_ (hb4.mono ?h); case h => first | omega | (simp; done) | (simp; omega)) | (with_reducible refine Below.trans ?_ (hb3.mono ?h); case h => first | omega | (simp; done) | (simp; omega)) | (with_reducible refine Below.trans ?_ (hb2.mono ?h); case h => first | omega | (simp; done) | (simp; omega)) | (with_reducible refine Below.trans ?_ (hb.mono ?h); case h => first | omega | (simp; done) | (simp; omega)) | (with_reducible refine Below.trans ?_ (hb0.mono ?h); case h => first | omega | (simp; done) | (simp; omega)))) hx1
  go_wp2_with fail
  refine (c2 _).mono ?_
  rintro e w2 ⟨rfl, hx2⟩
  have hb2 : Below w1.heap.size w1 w2 := below_step (by repeat (first | exact Below.refl _ _ | assumption | (with_reducible refine Below.setCell ?_ ?h _; case h => first | omega | (simp; done) | (simp; omega)) | (with_reducible refine Below.alloc ?_ ?h _; case h => first | omega | (simp; done) | (simp; omega)) | (with_reducible refine Below.drew ?_) | (with_reducible refine Below.trans ?_ (hb4.mono ?h); case h => first | omega | (simp; done) | (simp; omega)) | (with_reducible refine Below.trans ?_ (hb3.mono ?h); case h => first | omega | (simp; done) | (simp; omega)) | (with_reducible refine Below.trans ?_ (hb2.mono ?h); case h => first | omega | (simp; done) | (simp; omega)) | (with_reducible refine Below.trans ?_ (hb.mono ?h); case h => first | omega | (simp; done) | (simp; omega)) | (with_reducible refine Below.trans ?_ (hb0.mono ?h); case h => first | omega | (simp; done) | (simp; omega)))) hx2
  go_wp2_with fail
  refine (c3 _).mono ?_
  rintro e w3 ⟨rfl, hx3⟩
  have hb3 : Below w2.heap.size w2 w3 := below_step (by repeat (first | exact Below.refl _ _ | assumption | (with_reducible refine Below.setCell ?_ ?h _; case h => first | omega | (simp; done) | (simp; omega)) | (with_reducible refine Below.alloc ?_ ?h _; case h => first | omega | (simp; done) | (simp; omega)) | (with_reducible refine Below.drew ?_) | (with_reducible refine Below.trans ?_ (hb4.mono ?h); case h => first | omega | (simp; done) | (simp; omega)) | (with_reducible refine Below.trans ?_ (hb3.mono ?h); case h => first | omega | (simp; done) | (simp; omega)) | (with_reducible refine Below.trans ?_ (hb2.mono ?h); case h => first | omega | (simp; done) | (simp; omega)) | (with_reducible refine Below.trans ?_ (hb.mono ?h); case h => first | omega | (simp; done) | (simp; omega)) | (with_reducible refine Below.trans ?_ (hb0.mono ?h); case h => first | omega | (simp; done) | (simp; omega)))) hx3
  go_wp2_with fail
  refine (c4 _).mono ?_
  rintro e w4 ⟨rfl, hx4⟩
  have hb4 : Below w3.heap.size w3 w4 := below_step (by repeat (first | exact Below.refl _ _ | assumption | (with_reducible refine Below.setCell ?_ ?h _; case h => first | omega | (simp; done) | (simp; omega)) | (with_reducible refine Below.alloc ?_ ?h _; case h => first | omega | (simp; done) | (simp; omega)) | (with_reducible refine Below.drew ?_) | (with_reducible refine Below.trans ?_ (hb4.mono ?h); case h => first | omega | (simp; done) | (simp; omega)) | (with_reducible refine Below.trans ?_ (hb3.mono ?h); case h => first | omega | (simp; done) | (simp; omega)) | (with_reducible refine Below.trans ?_ (hb2.mono ?h); case h => first | omega | (simp; done) | (simp; omega)) | (with_reducible refine Below.trans ?_ (hb.mono ?h); case h => first | omega | (simp; done) | (simp; omega)) | (with_reducible refine Below.trans ?_ (hb0.mono ?h); case h => first | omega | (simp; done) | (simp; omega)))) hx4
  go_wp2_with fail
  refine (c5 _).mono ?_
  rintro e w5 ⟨rfl, hx5⟩
  have hb5 : Below w4.heap.size w4 w5 := below_step (by repeat (first | exact Below.refl _ _ | assumption | (with_reducible refine Below.setCell ?_ ?h _; case h => first | omega | (simp; done) | (simp; omega)) | (with_reducible refine Below.alloc ?_ ?h _; case h => first | omega | (simp; done) | (simp; omega)) | (with_reducible refine Below.drew ?_) | (with_reducible refine Below.trans ?_ (hb4.mono ?h); case h => first | omega | (simp; done) | (simp; omega)) | (with_reducible refine Below.trans ?_ (hb3.mono ?h); case h => first | omega | (simp; done) | (simp; omega)) | (with_reducible refine Below.trans ?_ (hb2.mono ?h); case h => first | omega | (simp; done) | (simp; omega)) | (with_reducible refine Below.trans ?_ (hb.mono ?h); case h => first | omega | (simp; done) | (simp; omega)) | (with_reducible refine Below.trans ?_ (hb0.mono ?h); case h => first | omega | (simp; done) | (simp; omega)))) hx5
  go_wp2_with fail
  refine (c6 _).mono ?_
  rintro e w6 ⟨rfl, hx6⟩
  have hb6 : Below w5.heap.size w5 w6 := below_step (by repeat (first | exact Below.refl _ _ | assumption | (with_reducible refine Below.setCell ?_ ?h _; case h => first | omega | (simp; done) | (simp; omega)) | (with_reducible refine Below.alloc ?_ ?h _; case h => first | omega | (simp; done) | (simp; omega)) | (with_reducible refine Below.drew ?_) | (with_reducible refine Below.trans ?_ (hb4.mono ?h); case h => first | omega | (simp; done) | (simp; omega)) | (with_reducible refine Below.trans ?_ (hb3.mono ?h); case h => first | omega | (simp; done) | (simp; omega)) | (with_reducible refine Below.trans ?_ (hb2.mono ?h); case h => first | omega | (simp; done) | (simp; omega)) | (with_reducible refine Below.trans ?_ (hb.mono ?h); case h => first | omega | (simp; done) | (simp; omega)) | (with_reducible refine Below.trans ?_ (hb0.mono ?h); case h => first | omega | (simp; done) | (simp; omega)))) hx6
  go_wp2_with fail
  refine (c7 _).mono ?_
  rintro e w7 ⟨rfl, hx7⟩
  have hb7 : Below w6.heap.size w6 w7 := below_step (by repeat (first | exact Below.refl _ _ | assumption | (with_reducible refine Below.setCell ?_ ?h _; case h => first | omega | (simp; done) | (simp; omega)) | (with_reducible refine Below.alloc ?_ ?h _; case h => first | omega | (simp; done) | (simp; omega)) | (with_reducible refine Below.drew ?_) | (with_reducible refine Below.trans ?_ (hb4.mono ?h); case h => first | omega | (simp; done) | (simp; omega)) | (with_reducible refine Below.trans ?_ (hb3.mono ?h); case h => first | omega | (simp; done) | (simp; omega)) | (with_reducible refine Below.trans ?_ (hb2.mono ?h); case h => first | omega | (simp; done) | (simp; omega)) | (with_reducible refine Below.trans ?_ (hb.mono ?h); case h => first | omega | (simp; done) | (simp; omega)) | (with_reducible refine Below.trans ?_ (hb0.mono ?h); case h => first | omega | (simp; done) | (simp; omega)))) hx7
  go_wp2_with fail
  refine (c8 _).mono ?_
  rintro e w8 ⟨rfl, hx8⟩
  have hb8 : Below w7.heap.size w7 w8 := below_step (by repeat (first | exact Below.refl _ _ | assumption | (with_reducible refine Below.setCell ?_ ?h _; case h => first | omega | (simp; done) | (simp; omega)) | (with_reducible refine Below.alloc ?_ ?h _; case h => first | omega | (simp; done) | (simp; omega)) | (with_reducible refine Below.drew ?_) | (with_reducible refine Below.trans ?_ (hb4.mono ?h); case h => first | omega | (simp; done) | (simp; omega)) | (with_reducible refine Below.trans ?_ (hb3.mono ?h); case h => first | omega | (simp; done) | (simp; omega)) | (with_reducible refine Below.trans ?_ (hb2.mono ?h); case h => first | omega | (simp; done) | (simp; omega)) | (with_reducible refine Below.trans ?_ (hb.mono ?h); case h => first | omega | (simp; done) | (simp; omega)) | (with_reducible refine Below.trans ?_ (hb0.mono ?h); case h => first | omega | (simp; done) | (simp; omega)))) hx8
  go_wp2_with fail
  refine (c9 _).mono ?_
  rintro e w9 ⟨rfl, hx9⟩
  have hb9 : Below w8.heap.size w8 w9 := below_step (by repeat (first | exact Below.refl _ _ | assumption | (with_reducible refine Below.setCell ?_ ?h _; case h => first | omega | (simp; done) | (simp; omega)) | (with_reducible refine Below.alloc ?_ ?h _; case h => first | omega | (simp; done) | (simp; omega)) | (with_reducible refine Below.drew ?_) | (with_reducible refine Below.trans ?_ (hb4.mono ?h); case h => first | omega | (simp; done) | (simp; omega)) | (with_reducible refine Below.trans ?_ (hb3.mono ?h); case h => first | omega | (simp; done) | (simp; omega)) | (with_reducible refine Below.trans ?_ (hb2.mono ?h); case h => first | omega | (simp; done) | (simp; omega)) | (with_reducible refine Below.trans ?_ (hb.mono ?h); case h => first | omega | (simp; done) | (simp; omega)) | (with_reducible refine Below.trans ?_ (hb0.mono ?h); case h => first | omega | (simp; done) | (simp; omega)))) hx9
  go_wp2_with fail
  refine (ca _).mono ?_
  rintro e wa ⟨rfl, hxa⟩
  have hba : Below w9.heap.size w9 wa := below_step (by repeat (first | exact Below.refl _ _ | assumption | (with_reducible refine Below.setCell ?_ ?h _; case h => first | omega | (simp; done) | (simp; omega)) | (with_reducible refine Below.alloc ?_ ?h _; case h => first | omega | (simp; done) | (simp; omega)) | (with_reducible refine Below.drew ?_) | (with_reducible refine Below.trans ?_ (hb4.mono ?h); case h => first | omega | (simp; done) | (simp; omega)) | (with_reducible refine Below.trans ?_ (hb3.mono ?h); case h => first | omega | (simp; done) | (simp; omega)) | (with_reducible refine Below.trans ?_ (hb2.mono ?h); case h => first | omega | (simp; done) | (simp; omega)) | (with_reducible refine Below.trans ?_ (hb.mono ?h); case h => first | omega | (simp; done) | (simp; omega)) | (with_reducible refine Below.trans ?_ (hb0.mono ?h); case h => first | omega | (simp; done) | (simp; omega)))) hxa
  go_wp2_with fail
  have hb := below_step (below_step (below_step (below_step (below_step (below_step (below_step (below_step (below_step (below_step hb0 hb1) hb2) hb3) hb4) hb5) hb6) hb7) hb8) hb9) hba
  exact bodyPost_ret (v := .bool true) (by simp [results, Try.results3, go_sem]) rfl ⟨rfl, hb⟩
theorem share_heavy {k a b n : Int} (h : rightB k a b = true) (n0 : 0 ≤ n) : heavyB a b (shareI k n) n = (n == 0) := by
  rw [show (n == 0) = decide (n = 0) by by_cases h0 : n = 0 <;> simp [h0]]
  obtain ⟨k1, k2, a1, a2, b2, hk⟩ := rightB_iff.1 h
  rw [heavyB_pos a1 (by omega), decide_eq_decide]
  unfold shareI
  rw [if_neg (by omega)]
  have e := Int.emod_add_mul_ediv n k
  have m0 := Int.emod_nonneg n (b := k) (by omega)
  constructor
  · intro hle
    have h1 : k * (a * n) ≤ k * (b * (n / k)) := Int.mul_le_mul_of_nonneg_left hle (by omega)
    have h2 : k * (b * (n / k)) = b * (k * (n / k)) := Int.mul_left_comm _ _ _
    have h3 : b * (k * (n / k)) ≤ b * n := Int.mul_le_mul_of_nonneg_left (by omega) (by omega)
    have h4 : k * (a * n) = k * a * n := (Int.mul_assoc _ _ _).symm
    have h5 : (b + 1) * n ≤ k * a * n := Int.mul_le_mul_of_nonneg_right (by omega) n0
    rw [Int.add_mul, Int.one_mul] at h5
    omega
  · rintro rfl
    simp
set_option maxRecDepth 100000 in
set_option maxHeartbeats 1600000 in
theorem ratioLeast_any (k a b x n : Int) (k1 : I64 k) (a1 : I64 a) (b1 : I64 b) (hx : Word x) (hn : Word n) (w : World) :
    Calls Try.prog 6 #[.int .i64 k, .int .i64 a, .int .i64 b, .int .u64 x, .int .u64 n] w fun e w' => e = .returned (.bool true) ∧ Below w.heap.size w w' := by
  have cr := fun w => right12_t k a b w
  have cs := fun w => share_t k n k1 hn.1 hn.2 w
  have ch := fun w => heavy_t a b x n a1 b1 hx hn w
  have cl := fun w => least_t a b n a1 b1 hn w
  have cm := fun w => most_t k a b w
  have sw : Word (shareI k n) := by
    unfold shareI; obtain ⟨n0, n1⟩ := hn
    split
    · exact ⟨by omega, by omega⟩
    · have := Int.ediv_le_self k n0; exact ⟨Int.ediv_nonneg n0 (by omega), by omega⟩
  have ci := fun w => heavy_t a b (shareI k n) n a1 b1 sw hn w
  have hfin := fun h => share_heavy (k := k) (a := a) (b := b) (n := n) h hn.1
  have hzero := fun h => mostI_no (k := k) (a := a) (b := b) h
  have hlh := fun h1 h2 => heavy_iff (a := a) (b := b) (x := x) (n := n) h1 h2
  generalize heavyB a b (shareI k n) n = S at *
  generalize shareI k n = sh at *
  generalize heavyB a b x n = H at *
  generalize leastI a b n = L at *
  generalize mostI k a b = m at *
  generalize rightB k a b = r at *
  clear hx hn sw k1 a1 b1
  have HF := Lib.hid hfin; have HZ := Lib.hid hzero; have HL := Lib.hid hlh
  clear hfin hzero hlh
  go_enter Try.func6, Try.ntmps6
  by_cases q1 : 1 ≤ a
  · have d1 : decide (1 ≤ a) = true := decide_eq_true q1
    by_cases q2 : a ≤ b
    · have d2 : decide (a ≤ b) = true := decide_eq_true q2
      have hl := HL.out q1 q2
      subst hl
      go_wp2_with fail
      refine (ch _).mono ?_
      rintro e w1 ⟨rfl, hx1⟩
      have hb1 : Below w.heap.size w w1 := below_step (by repeat (first | exact Below.refl _ _ | assumption | (with_reducible refine Below.setCell ?_ ?h _; case h => first | omega | (simp; done) | (simp; omega)) | (with_reducible refine Below.alloc ?_ ?h _; case h => first | omega | (simp; done) | (simp; omega)) | (with_reducible refine Below.drew ?_) | (with_reducible refine Below.trans ?_ (hb4.mono ?h); case h => first | omega | (simp; done) | (simp; omega)) | (with_reducible refine Below.trans ?_ (hb3.mono ?h); case h => first | omega | (simp; done) | (simp; omega)) | (with_reducible refine Below.trans ?_ (hb2.mono ?h); case h => first | omega | (simp; done) | (simp; omega)) | (with_reducible refine Below.trans ?_ (hb.mono ?h); case h => first | omega | (simp; done) | (simp; omega)) | (with_reducible refine Below.trans ?_ (hb0.mono ?h); case h => first | omega | (simp; done) | (simp; omega)))) hx1
      go_wp2_with fail
      refine (cl _).mono ?_
      rintro e w2 ⟨rfl, hx2⟩
      have hb2 : Below w1.heap.size w1 w2 := below_step (by repeat (first | exact Below.refl _ _ | assumption | (with_reducible refine Below.setCell ?_ ?h _; case h => first | omega | (simp; done) | (simp; omega)) | (with_reducible refine Below.alloc ?_ ?h _; case h => first | omega | (simp; done) | (simp; omega)) | (with_reducible refine Below.drew ?_) | (with_reducible refine Below.trans ?_ (hb4.mono ?h); case h => first | omega | (simp; done) | (simp; omega)) | (with_reducible refine Below.trans ?_ (hb3.mono ?h); case h => first | omega | (simp; done) | (simp; omega)) | (with_reducible refine Below.trans ?_ (hb2.mono ?h); case h => first | omega | (simp; done) | (simp; omega)) | (with_reducible refine Below.trans ?_ (hb.mono ?h); case h => first | omega | (simp; done) | (simp; omega)) | (with_reducible refine Below.trans ?_ (hb0.mono ?h); case h => first | omega | (simp; done) | (simp; omega)))) hx2
      have hb := below_step hb1 hb2
      clear hb1 hb2 hx1 hx2
      go_wp2_with fail
      refine (cr _).mono ?_; rintro e w3 ⟨rfl, hb3⟩
      replace hb := below_step hb hb3; clear hb3
      cases r with
        | false =>
          have hz := HZ.out rfl
          subst hz
          go_wp2_with fail
          refine (alive12_t _).mono ?_; rintro e w4 ⟨rfl, hb4⟩
          replace hb := below_step hb hb4; clear hb4
          go_wp2_with fail
          refine (cm _).mono ?_; rintro e w5 ⟨rfl, hb5⟩
          replace hb := below_step hb hb5; clear hb5
          go_wp2_with fail
          exact bodyPost_ret (v := .bool true) (by simp [results, Try.results6, go_sem]) rfl ⟨rfl, hb⟩
        | true =>
          have hf := HF.out rfl
          subst hf
          go_wp2_with fail
          refine (alive12_t _).mono ?_; rintro e w4 ⟨rfl, hb4⟩
          replace hb := below_step hb hb4; clear hb4
          go_wp2_with fail
          refine (cs _).mono ?_; rintro e w5 ⟨rfl, hb5⟩
          replace hb := below_step hb hb5; clear hb5
          go_wp2_with fail
          refine (ci _).mono ?_; rintro e w6 ⟨rfl, hb6⟩
          replace hb := below_step hb hb6; clear hb6
          go_wp2_with fail
          exact bodyPost_ret (v := .bool true) (by simp [results, Try.results6, go_sem]) rfl ⟨rfl, hb⟩
    · have d2 : decide (a ≤ b) = false := decide_eq_false q2
      go_wp2_with fail
      refine (cr _).mono ?_; rintro e w3 ⟨rfl, hb⟩
      cases r with
        | false =>
          have hz := HZ.out rfl
          subst hz
          go_wp2_with fail
          refine (alive12_t _).mono ?_; rintro e w4 ⟨rfl, hb4⟩
          replace hb := below_step hb hb4; clear hb4
          go_wp2_with fail
          refine (cm _).mono ?_; rintro e w5 ⟨rfl, hb5⟩
          replace hb := below_step hb hb5; clear hb5
          go_wp2_with fail
          exact bodyPost_ret (v := .bool true) (by simp [results, Try.results6, go_sem]) rfl ⟨rfl, hb⟩
        | true =>
          have hf := HF.out rfl
          subst hf
          go_wp2_with fail
          refine (alive12_t _).mono ?_; rintro e w4 ⟨rfl, hb4⟩
          replace hb := below_step hb hb4; clear hb4
          go_wp2_with fail
          refine (cs _).mono ?_; rintro e w5 ⟨rfl, hb5⟩
          replace hb := below_step hb hb5; clear hb5
          go_wp2_with fail
          refine (ci _).mono ?_; rintro e w6 ⟨rfl, hb6⟩
          replace hb := below_step hb hb6; clear hb6
          go_wp2_with fail
          exact bodyPost_ret (v := .bool true) (by simp [results, Try.results6, go_sem]) rfl ⟨rfl, hb⟩
  · have d1 : decide (1 ≤ a) = false := decide_eq_false q1
    go_wp2_with fail
    refine (cr _).mono ?_; rintro e w3 ⟨rfl, hb⟩
    cases r with
      | false =>
        have hz := HZ.out rfl
        subst hz
        go_wp2_with fail
        refine (alive12_t _).mono ?_; rintro e w4 ⟨rfl, hb4⟩
        replace hb := below_step hb hb4; clear hb4
        go_wp2_with fail
        refine (cm _).mono ?_; rintro e w5 ⟨rfl, hb5⟩
        replace hb := below_step hb hb5; clear hb5
        go_wp2_with fail
        exact bodyPost_ret (v := .bool true) (by simp [results, Try.results6, go_sem]) rfl ⟨rfl, hb⟩
      | true =>
        have hf := HF.out rfl
        subst hf
        go_wp2_with fail
        refine (alive12_t _).mono ?_; rintro e w4 ⟨rfl, hb4⟩
        replace hb := below_step hb hb4; clear hb4
        go_wp2_with fail
        refine (cs _).mono ?_; rintro e w5 ⟨rfl, hb5⟩
        replace hb := below_step hb hb5; clear hb5
        go_wp2_with fail
        refine (ci _).mono ?_; rintro e w6 ⟨rfl, hb6⟩
        replace hb := below_step hb hb6; clear hb6
        go_wp2_with fail
        exact bodyPost_ret (v := .bool true) (by simp [results, Try.results6, go_sem]) rfl ⟨rfl, hb⟩
set_option maxRecDepth 100000 in
set_option maxHeartbeats 3200000 in
theorem rj_walk (a b x y n m : Int) (h1 h2 h3 : Bool) (x0 : 0 ≤ x) (x1 : x < 4294967296) (y0 : 0 ≤ y) (y1 : y < 4294967296) (n0 : 0 ≤ n) (n1 : n < 4294967296) (m0 : 0 ≤ m) (m1 : m < 4294967296) (w : World)
    (c1 : ∀ w, Calls Try.prog 15 #[.int .i64 a, .int .i64 b, .int .u64 x, .int .u64 n] w fun e w' => e = .returned (.bool h1) ∧ Below w.heap.size w w')
    (c2 : ∀ w, Calls Try.prog 15 #[.int .i64 a, .int .i64 b, .int .u64 y, .int .u64 m] w fun e w' => e = .returned (.bool h2) ∧ Below w.heap.size w w')
    (c3 : ∀ w, Calls Try.prog 15 #[.int .i64 a, .int .i64 b, .int .u64 (x + y), .int .u64 (n + m)] w fun e w' => e = .returned (.bool h3) ∧ Below w.heap.size w w')
    (p1 : (!h1 || !h2 || h3) = true) (p2 : (h1 || h2 || !h3) = true) :
    Calls Try.prog 7 #[.int .i64 a, .int .i64 b, .int .u32 x, .int .u32 y, .int .u32 n, .int .u32 m] w fun e w' => e = .returned (.bool true) ∧ Below w.heap.size w w' := by
  have ex : IntKind.u64.wrap x = x := by rw [IntKind.wrap_u64]; omega
  have ey : IntKind.u64.wrap y = y := by rw [IntKind.wrap_u64]; omega
  have en : IntKind.u64.wrap n = n := by rw [IntKind.wrap_u64]; omega
  have em : IntKind.u64.wrap m = m := by rw [IntKind.wrap_u64]; omega
  have es : IntKind.u64.wrap (x + y) = x + y := by rw [IntKind.wrap_u64]; omega
  have et : IntKind.u64.wrap (n + m) = n + m := by rw [IntKind.wrap_u64]; omega
  cases h1 <;> cases h2 <;> cases h3 <;> (try (simp at p1; done)) <;> (try (simp at p2; done)) <;> clear p1 p2
  all_goals
    go_enter Try.func7, Try.ntmps7
    go_wp2_with fail
    refine (c1 _).mono ?_; rintro e w1 ⟨rfl, hb⟩
    go_wp2_with fail
    refine (c2 _).mono ?_; rintro e w2 ⟨rfl, hb2⟩
    replace hb := below_step hb hb2; clear hb2
    go_wp2_with fail
    refine (c3 _).mono ?_; rintro e w3 ⟨rfl, hb3⟩
    replace hb := below_step hb hb3; clear hb3
    go_wp2_with fail
    refine (alive12_t _).mono ?_; rintro e w4 ⟨rfl, hb4⟩
    replace hb := below_step hb hb4; clear hb4
    go_wp2_with fail
    exact bodyPost_ret (v := .bool true) (by simp [results, Try.results7, go_sem]) rfl ⟨rfl, hb⟩
theorem ratioJoins_any (a b x y n m : Int) (a1 : I64 a) (b1 : I64 b) (x0 : 0 ≤ x) (x1 : x < 4294967296) (y0 : 0 ≤ y) (y1 : y < 4294967296) (n0 : 0 ≤ n) (n1 : n < 4294967296) (m0 : 0 ≤ m) (m1 : m < 4294967296) (w : World) :
    Calls Try.prog 7 #[.int .i64 a, .int .i64 b, .int .u32 x, .int .u32 y, .int .u32 n, .int .u32 m] w fun e w' => e = .returned (.bool true) ∧ Below w.heap.size w w' := by
  have hd : ∀ p q : Int, a * (p + q) = a * p + a * q := fun p q => Int.mul_add _ _ _
  have hb : ∀ p q : Int, b * (p + q) = b * p + b * q := fun p q => Int.mul_add _ _ _
  refine rj_walk a b x y n m (heavyB a b x n) (heavyB a b y m) (heavyB a b (x + y) (n + m)) x0 x1 y0 y1 n0 n1 m0 m1 w (fun w => heavy_t a b x n a1 b1 ⟨x0, by omega⟩ ⟨n0, by omega⟩ w) (fun w => heavy_t a b y m a1 b1 ⟨y0, by omega⟩ ⟨m0, by omega⟩ w) (fun w => heavy_t a b (x + y) (n + m) a1 b1 ⟨by omega, by omega⟩ ⟨by omega, by omega⟩ w) ?_ ?_
  all_goals
    unfold heavyB
    rw [hd, hb]
    generalize a * n = p
    generalize a * m = q
    generalize b * x = s
    generalize b * y = t
    by_cases u1 : 1 ≤ a <;> by_cases u2 : 1 ≤ b <;> by_cases u3 : p ≤ s <;> by_cases u4 : q ≤ t <;> by_cases u5 : p + q ≤ s + t <;> simp [u1, u2, u3, u4, u5] <;> omega
end Go.Proofs.Ythohpcbfohlmhaa
