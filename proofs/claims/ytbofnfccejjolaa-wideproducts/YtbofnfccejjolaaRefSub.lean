/- The reference's Sub. No conditions. -/
import Derived.Test.YtbofnfccejjolaaRefAdd
import Derived.Test.YtbofnfccejjolaaRefCmp
namespace Go.Proofs.Ytbofnfccejjolaa
set_option linter.unusedVariables false
set_option linter.unusedSimpArgs false
open Go.RowKit
theorem exec_load_row {P : Program} {o : Oper} {a : Act} {w : World} (ty : TypeId) (x : Operand) (ho : o.op = .load ty x) (g : Nat) (hx : a.eval x = .pointer (some ⟨g, 0, none⟩)) (t : TypeId) (cs : Array Value) (d : TypeDesc) (hg : Row w g cs t)
    (hu : P.underlying ty = some d) (hd : (match d with | .struct _ | .array _ _ => true | _ => false) = true) (hi : (P.info? ty).map (·.size) = some cs.size) : (execOp a.eval o).run P w = .ok (.value (.agg cs)) w := by
  unfold execOp
  simp only [ho, hx, Instr.loadAt, Instr.sureAddr, Sem.run_bind, Sem.run_pure, Result.andThen_ok, run_loadVar_row w g t ty cs (0, 0) d hg hu hd hi]
/-- the first k bits turned -/
def notK (n : Int) (k : Nat) : Nat → Int := fun j => if j < k then 1 - bitF n j else bitF n j
theorem notK_step (n : Int) (k : Nat) (hk : k < 128) : (arrV (notK n k)).setIfInBounds k (.int .u64 (1 - bitF n k)) = arrV (notK n (k + 1)) := by
  rw [arrV_set _ _ _ hk]
  apply arrV_congr
  intro j hj
  unfold notK
  by_cases h : j = k
  · rw [if_pos h, if_pos (by omega), h]
  · rw [if_neg h]
    by_cases h2 : j < k
    · rw [if_pos h2, if_pos (by omega)]
    · rw [if_neg h2, if_neg (by omega)]
theorem not_bit (b : Int) (k : Nat) (hk : k ≤ 128) : (340282366920938463463374607431768211455 - b) / 2 ^ k = (2 ^ (128 - k) - 1) - b / 2 ^ k := by
  have hp : (0 : Int) < 2 ^ k := Int.pow_pos (by decide)
  have e : (340282366920938463463374607431768211456 : Int) = 2 ^ k * 2 ^ (128 - k) := by rw [← Int.pow_add, show k + (128 - k) = 128 by omega]; rfl
  have e' : (340282366920938463463374607431768211455 : Int) - b = (2 ^ k - 1 - b % 2 ^ k) + 2 ^ k * (2 ^ (128 - k) - 1 - b / 2 ^ k) := by
    have h1 : b % 2 ^ k + 2 ^ k * (b / 2 ^ k) = b := Int.emod_add_mul_ediv _ _
    rw [Int.mul_sub, Int.mul_sub, ← e]; omega
  have d2 : 0 ≤ b % 2 ^ k := Int.emod_nonneg _ (Int.ne_of_gt hp)
  have d3 : b % 2 ^ k < 2 ^ k := Int.emod_lt_of_pos _ hp
  rw [e', Int.add_mul_ediv_left _ _ (Int.ne_of_gt hp), Int.ediv_eq_zero_of_lt (by omega) (by omega)]; omega
theorem notK_all (n : Int) : arrV (notK n 128) = arrV (bitF (340282366920938463463374607431768211455 - n)) := by
  apply arrV_congr
  intro j hj
  unfold notK bitF
  rw [if_pos hj, not_bit n _ (by omega)]
  have : (2 : Int) ^ (128 - (127 - j)) = 2 * 2 ^ j := by rw [show 128 - (127 - j) = j + 1 by omega, Int.pow_succ, Int.mul_comm]
  rw [this]; generalize (2 : Int) ^ j = P; generalize n / 2 ^ (127 - j) = z; omega
theorem notK_zero (n : Int) : arrV (notK n 0) = bitsA n := by
  rw [bitsA_arrV]; apply arrV_congr; intro j hj; unfold notK; rw [if_neg (by omega)]
theorem notK_at (n : Int) (k : Nat) : notK n k k = bitF n k := by unfold notK; rw [if_neg (by omega)]
set_option maxRecDepth 100000 in
set_option maxHeartbeats 3200000 in
theorem refSub_t (A B : Int) (w : World) :
    Calls Try.prog 16 #[.agg #[.int .u64 (hi A), .int .u64 (lo A)], .agg #[.int .u64 (hi B), .int .u64 (lo B)]] w fun e w' =>
      e = .returned (.tuple #[.agg #[.int .u64 (hi (A - B)), .int .u64 (lo (A - B))], .bool (subB (A % MM) (B % MM))]) ∧ Below w.heap.size w w' := by
  go_enter Try.func16, Try.ntmps16
  have RA : Row (((w.alloc (.cells #[.int .u64 (hi A), .int .u64 (lo A)] 27)).alloc (.cells #[.int .u64 (hi B), .int .u64 (lo B)] 27)).alloc (.cells #[.int .u64 0, .int .u64 0] 27)) w.heap.size #[.int .u64 (hi A), .int .u64 (lo A)] 27 := by simpa using ((Row.new w #[.int .u64 (hi A), .int .u64 (lo A)] 27).alloc (.cells #[.int .u64 (hi B), .int .u64 (lo B)] 27)).alloc (.cells #[.int .u64 0, .int .u64 0] 27)
  have RB : Row (((w.alloc (.cells #[.int .u64 (hi A), .int .u64 (lo A)] 27)).alloc (.cells #[.int .u64 (hi B), .int .u64 (lo B)] 27)).alloc (.cells #[.int .u64 0, .int .u64 0] 27)) (w.heap.size + 1) #[.int .u64 (hi B), .int .u64 (lo B)] 27 := by simpa using (Row.new (w.alloc (.cells #[.int .u64 (hi A), .int .u64 (lo A)] 27)) #[.int .u64 (hi B), .int .u64 (lo B)] 27).alloc (.cells #[.int .u64 0, .int .u64 0] 27)
  have RR : Row (((w.alloc (.cells #[.int .u64 (hi A), .int .u64 (lo A)] 27)).alloc (.cells #[.int .u64 (hi B), .int .u64 (lo B)] 27)).alloc (.cells #[.int .u64 0, .int .u64 0] 27)) (w.heap.size + 1 + 1) #[.int .u64 0, .int .u64 0] 27 := by simpa using (Row.new ((w.alloc (.cells #[.int .u64 (hi A), .int .u64 (lo A)] 27)).alloc (.cells #[.int .u64 (hi B), .int .u64 (lo B)] 27)) #[.int .u64 0, .int .u64 0] 27)
  go_wp2_with fail
  refine (bits_h B _).mono ?_
  rintro e w1 ⟨rfl, hx1⟩
  have hb1 : Below w.heap.size w w1 := below_step (by repeat (first | exact Below.refl _ _ | assumption | (with_reducible refine Below.setCell ?_ ?h _; case h => first | omega | (simp; done) | (simp; omega)) | (with_reducible refine Below.alloc ?_ ?h _; case h => first | omega | (simp; done) | (simp; omega)) | (with_reducible refine Below.drew ?_) | (with_reducible refine Below.trans ?_ (hb4.mono ?h); case h => first | omega | (simp; done) | (simp; omega)) | (with_reducible refine Below.trans ?_ (hb3.mono ?h); case h => first | omega | (simp; done) | (simp; omega)) | (with_reducible refine Below.trans ?_ (hb2.mono ?h); case h => first | omega | (simp; done) | (simp; omega)) | (with_reducible refine Below.trans ?_ (hb.mono ?h); case h => first | omega | (simp; done) | (simp; omega)) | (with_reducible refine Below.trans ?_ (hb0.mono ?h); case h => first | omega | (simp; done) | (simp; omega)))) hx1
  replace RA := RA.later hx1
  replace RB := RB.later hx1
  replace RR := RR.later hx1
  have Ry := Row.new w1 Try.zeroCells85 85
  have hth := Ry.there (bitsA (B % MM)).size (by rw [bitsA_size, zeroA_size]; exact Nat.le_refl _)
  have hinf := bitsA_info (B % MM)
  have hone := bitsA_one (B % MM)
  go_wp2_with (refine wpList_store_mid rfl 85 (.tmp 6) (.tmp 11) rfl w1.heap.size 0 (bitsA (B % MM)) rfl rfl hth hinf hone ?_)
  clear hth hinf hone hx1
  have nA : w.heap.size ≠ w1.heap.size := Nat.ne_of_lt RA.lt
  have nB : w.heap.size + 1 ≠ w1.heap.size := Nat.ne_of_lt RB.lt
  have nR : w.heap.size + 1 + 1 ≠ w1.heap.size := Nat.ne_of_lt RR.lt
  have hgy : w.heap.size ≤ w1.heap.size := hb1.size
  replace RA := Row.setCells_far (g := w1.heap.size) (o := 0) (vs := (bitsA (B % MM)).toList) (RA.alloc (.cells Try.zeroCells85 85)) nA
  replace RB := Row.setCells_far (g := w1.heap.size) (o := 0) (vs := (bitsA (B % MM)).toList) (RB.alloc (.cells Try.zeroCells85 85)) nB
  replace RR := Row.setCells_far (g := w1.heap.size) (o := 0) (vs := (bitsA (B % MM)).toList) (RR.alloc (.cells Try.zeroCells85 85)) nR
  replace Ry := Ry.setAll (bitsA (B % MM)) (by rw [bitsA_size, zeroA_size])
  rw [← notK_zero] at Ry
  replace hb1 := below_setCells hgy (bitsA (B % MM)).toList 0 _ (hb1.alloc hgy (.cells Try.zeroCells85 85))
  rw [← notK_zero] at RA RB RR hb1
  have ez := notK_zero (B % MM)
  rw [← ez]
  clear ez
  generalize (w1.alloc (.cells Try.zeroCells85 85)).setCells w1.heap.size 0 (arrV (notK (B % MM) 0)).toList = wd at *
  generalize w1.heap.size = gy at *
  go_loopw [7] (fun i wr => ∃ k : Nat, k ≤ 128 ∧ i = .int .i64 k ∧ Row wr w.heap.size #[.int .u64 (hi A), .int .u64 (lo A)] 27 ∧ Row wr (w.heap.size + 1) #[.int .u64 (hi B), .int .u64 (lo B)] 27 ∧ Row wr (w.heap.size + 1 + 1) #[.int .u64 0, .int .u64 0] 27 ∧ Row wr gy (arrV (notK (B % MM) k)) 85 ∧ Below w.heap.size w wr) (fun i _ => 128 - (intOf i).toNat)
  case atStart => exact ⟨0, by omega, rfl, RA, RB, RR, Ry, hb1⟩
  case round =>
    clear RA RB RR Ry hb1
    obtain ⟨k, hk, rfl, RA, RB, RR, Ry, hb1⟩ := hrel
    by_cases hlt : k < 128
    · have hkb : decide ((k : Int) < 128) = true := by simp; omega
      have cy := (Ry.cell k).trans (arrV_get _ k hlt)
      rw [notK_at] at cy
      have fy := Ry.frozen k
      have b3 : (k : Int) < 128 := by omega
      have b4 : (0 : Int) ≤ (k : Int) := by omega
      have hX := bitF_01 (B % MM) k
      obtain ⟨X0, X1⟩ := hX
      go_wp2
      refine ⟨⟨k + 1, by omega, by go_num, RA.set_far _ _ nA, RB.set_far _ _ nB, RR.set_far _ _ nR, ?_, hb1.setCell hgy _⟩, by simp [intOf]; omega⟩
      have := Ry.set k (.int .u64 (1 - bitF (B % MM) k))
      rwa [notK_step _ k hlt] at this
    · obtain rfl : k = 128 := by omega
      rw [notK_all] at Ry
      generalize hN : 340282366920938463463374607431768211455 - B % MM = N at *
      have HN := Lib.hid hN; clear hN
      have a0 := RA.cell 0
      have a1 := RA.cell 1
      simp at a0 a1
      have hinf : (Try.prog.info? 85).map (·.size) = some (arrV (bitF N)).size := by rw [arrV_size]; kernel_rfl
      go_wp2
      go_cut [8] (fun s8 wx => ∃ g8 : Nat, s8 = .pointer (some ⟨g8, 0, none⟩) ∧ Row wx g8 #[.int .u64 (hi (A + N)), .int .u64 (lo (A + N))] 27 ∧ Row wx w.heap.size #[.int .u64 (hi A), .int .u64 (lo A)] 27 ∧ Row wx (w.heap.size + 1) #[.int .u64 (hi B), .int .u64 (lo B)] 27 ∧ Row wx (w.heap.size + 1 + 1) #[.int .u64 0, .int .u64 0] 27 ∧ w.heap.size ≠ g8 ∧ w.heap.size + 1 ≠ g8 ∧ w.heap.size + 1 + 1 ≠ g8 ∧ w.heap.size ≤ g8 ∧ Below w.heap.size w wx)
      case first =>
        refine region_any (S := (fun w' => w'.cell? ⟨w.heap.size, 0, none⟩ = some (.int .u64 (hi A)) ∧ w'.cell? ⟨w.heap.size, 1, none⟩ = some (.int .u64 (lo A)) ∧ Row w' gy (arrV (bitF N)) 85 ∧ Row w' w.heap.size #[.int .u64 (hi A), .int .u64 (lo A)] 27 ∧ Row w' (w.heap.size + 1) #[.int .u64 (hi B), .int .u64 (lo B)] 27 ∧ Row w' (w.heap.size + 1 + 1) #[.int .u64 0, .int .u64 0] 27 ∧ Below w.heap.size w w')) (by kernel_rfl) ?hSr8_ (fun wq hHeld => ?_)
        case hSr8_ => (first | exact ⟨a0, a1, Ry.drew, RA.drew, RB.drew, RR.drew, hb1.drew⟩ | exact ⟨cell_later hb hHeld.1, cell_later hb hHeld.2.1, hHeld.2.2.1.later hb, hHeld.2.2.2.1.later hb, hHeld.2.2.2.2.1.later hb, hHeld.2.2.2.2.2.1.later hb, below_step hHeld.2.2.2.2.2.2 hb⟩)
        refine wpAnyH_take (i := 0) (oi := { dst := some 23, op := Go.Op.load 27 (Go.Operand.tmp 2), type := 27, pos := _, after := #[], guard := none }) (v := ?vr8_1_0) rfl (by kernel_rfl) (by kernel_rfl) (by kernel_rfl) (fun _ _ _ h => h) (Or.inl ⟨by rfl, ?yr8_1_0⟩) hHeld ?_
        case yr8_1_0 => ((intro w hSw; (try dsimp only at hSw); go_simp) <;> with_reducible rfl)
        (try simp only [Act.put, List.setIfInBounds_toArray, List.set_cons_zero, List.set_cons_succ])
        refine wpAnyH_take (i := 1) (oi := { dst := some 24, op := Go.Op.load 85 (Go.Operand.tmp 6), type := 85, pos := _, after := #[], guard := none }) (v := ?vr8_2_1) rfl (by kernel_rfl) (by kernel_rfl) (by kernel_rfl) (fun _ _ _ h => h) (Or.inl ⟨by rfl, ?yr8_2_1⟩) hHeld ?_
        case yr8_2_1 => (intro wz hSw; (with_reducible refine exec_load_row 85 (.tmp 6) ?_ gy ?_ 85 (arrV (bitF N)) _ hSw.2.2.1 Try.underlying85 ?_ hinf) <;> rfl)
        (try simp only [Act.put, List.setIfInBounds_toArray, List.set_cons_zero, List.set_cons_succ])
        refine wpAnyH_ready (rs := [2, 7]) (by kernel_rfl) (by simp) ?_
        refine AllReadyH.cons (o := { dst := some 25, op := Go.Op.call { callee := Go.Callee.value (Go.Operand.func 58), args := #[Go.Operand.tmp 24], argTypes := #[85] }, type := 27, pos := _, after := #[{ on := 1, ground := Go.Ground.data }], guard := none }) rfl (fun K hK => ?_) ?_
        · go_simp
          ((refine (refOf_h _ _).mono ?_); (rintro e wn ⟨rfl, hb⟩); (try replace R8 := R8.later hb))
          go_wp2_with fail
          refine hK.out _ _ ?hSr8_3_2 (fun hHeld2 => ?_)
          case hSr8_3_2 => (first | exact ⟨a0, a1, Ry.drew, RA.drew, RB.drew, RR.drew, hb1.drew⟩ | exact ⟨cell_later hb hHeld.1, cell_later hb hHeld.2.1, hHeld.2.2.1.later hb, hHeld.2.2.2.1.later hb, hHeld.2.2.2.2.1.later hb, hHeld.2.2.2.2.2.1.later hb, below_step hHeld.2.2.2.2.2.2 hb⟩)
          clear hK K hHeld
          have hHeld := hHeld2
          clear hHeld2
          rename World => wq
          (try simp only [Act.put, List.setIfInBounds_toArray, List.set_cons_zero, List.set_cons_succ])
          refine wpAnyH_ready (rs := [3, 7]) (by kernel_rfl) (by simp) ?_
          refine AllReadyH.cons (o := { dst := some 26, op := Go.Op.call { callee := Go.Callee.value (Go.Operand.func 13), args := #[Go.Operand.tmp 23, Go.Operand.tmp 25], argTypes := #[27, 27] }, type := 28, pos := _, after := #[{ on := 0, ground := Go.Ground.data }, { on := 2, ground := Go.Ground.data }, { on := 2, ground := Go.Ground.chain }], guard := none }) rfl (fun K hK => ?_) ?_
          · go_simp
            ((refine (refAdd_t _ _ _).mono ?_); (rintro e wn ⟨rfl, hb⟩); (try replace R8 := R8.later hb))
            go_wp2_with fail
            refine hK.out _ _ ?hSr8_4_3 (fun hHeld2 => ?_)
            case hSr8_4_3 => (first | exact ⟨a0, a1, Ry.drew, RA.drew, RB.drew, RR.drew, hb1.drew⟩ | exact ⟨cell_later hb hHeld.1, cell_later hb hHeld.2.1, hHeld.2.2.1.later hb, hHeld.2.2.2.1.later hb, hHeld.2.2.2.2.1.later hb, hHeld.2.2.2.2.2.1.later hb, below_step hHeld.2.2.2.2.2.2 hb⟩)
            clear hK K hHeld
            have hHeld := hHeld2
            clear hHeld2
            rename World => wq
            (try simp only [Act.put, List.setIfInBounds_toArray, List.set_cons_zero, List.set_cons_succ])
            refine wpAnyH_take (i := 4) (oi := { dst := some 22, op := Go.Op.move (Go.Operand.tmp 26), type := 28, pos := _, after := #[{ on := 3, ground := Go.Ground.data }], guard := none }) (v := ?vr8_5_4) rfl (by kernel_rfl) (by kernel_rfl) (by kernel_rfl) (fun _ _ _ h => h) (Or.inl ⟨by rfl, ?yr8_5_4⟩) hHeld ?_
            case yr8_5_4 => ((intro w hSw; (try dsimp only at hSw); go_simp) <;> with_reducible rfl)
            (try simp only [Act.put, List.setIfInBounds_toArray, List.set_cons_zero, List.set_cons_succ])
            refine wpAnyH_take (i := 5) (oi := { dst := some 27, op := Go.Op.extract (Go.Operand.tmp 22) 0, type := 27, pos := _, after := #[{ on := 4, ground := Go.Ground.data }], guard := none }) (v := ?vr8_6_5) rfl (by kernel_rfl) (by kernel_rfl) (by kernel_rfl) (fun _ _ _ h => h) (Or.inl ⟨by rfl, ?yr8_6_5⟩) hHeld ?_
            case yr8_6_5 => ((intro w hSw; (try dsimp only at hSw); go_simp) <;> with_reducible rfl)
            (try simp only [Act.put, List.setIfInBounds_toArray, List.set_cons_zero, List.set_cons_succ])
            refine wpAnyH_take (i := 6) (oi := { dst := some 28, op := Go.Op.extract (Go.Operand.tmp 22) 1, type := 4, pos := _, after := #[{ on := 4, ground := Go.Ground.data }, { on := 8, ground := Go.Ground.gcOnly Go.Departure.lateStores }], guard := none }) (v := ?vr8_7_6) rfl (by kernel_rfl) (by kernel_rfl) (by kernel_rfl) (fun _ _ _ h => h) (Or.inl ⟨by rfl, ?yr8_7_6⟩) hHeld ?_
            case yr8_7_6 => ((intro w hSw; (try dsimp only at hSw); go_simp) <;> with_reducible rfl)
            (try simp only [Act.put, List.setIfInBounds_toArray, List.set_cons_zero, List.set_cons_succ])
            refine wpAnyH_ready (rs := [7]) (by kernel_rfl) (by simp) ?_
            refine AllReadyH.cons (o := { dst := some 8, op := Go.Op.alloc 27, type := 0, pos := _, after := #[], guard := none }) rfl (fun K hK => ?_) AllReadyH.nil
            (go_simp; (have n0 := Nat.ne_of_lt hHeld.2.2.2.1.lt); (have n1 := Nat.ne_of_lt hHeld.2.2.2.2.1.lt); (have n2 := Nat.ne_of_lt hHeld.2.2.2.2.2.1.lt); (have n3 := Nat.ne_of_lt hHeld.2.2.1.lt); (have m8 := hHeld.2.2.2.2.2.2.size); (have R8 := Row.new wq #[.int .u64 0, .int .u64 0] 27); (have hb : Below wq.heap.size wq (wq.alloc (.cells #[.int .u64 0, .int .u64 0] 27)) := (Below.refl _ _).alloc (Nat.le_refl _) _); (have hS8 := And.intro (cell_later hb hHeld.1) (And.intro (cell_later hb hHeld.2.1) (And.intro (hHeld.2.2.1.later hb) (And.intro (hHeld.2.2.2.1.later hb) (And.intro (hHeld.2.2.2.2.1.later hb) (And.intro (hHeld.2.2.2.2.2.1.later hb) (below_step hHeld.2.2.2.2.2.2 hb))))))); clear hb; generalize wq.alloc (.cells #[.int .u64 0, .int .u64 0] 27) = wn at *; generalize wq.heap.size = g8 at *)
            refine hK.out _ _ ?hSr8_8_7 (fun hHeld2 => ?_)
            case hSr8_8_7 => (exact hS8)
            clear hK K hHeld
            have hHeld := hHeld2
            clear hHeld2
            rename World => wq
            (try simp only [Act.put, List.setIfInBounds_toArray, List.set_cons_zero, List.set_cons_succ])
            refine wpAnyH_ready (rs := [8]) (by kernel_rfl) (by simp) ?_
            refine AllReadyH.cons (o := { dst := none, op := Go.Op.store 27 (Go.Operand.tmp 8) (Go.Operand.tmp 27), type := 0, pos := _, after := #[{ on := 7, ground := Go.Ground.data }, { on := 5, ground := Go.Ground.data }, { on := 3, ground := Go.Ground.chain }, { on := 0, ground := Go.Ground.phase }, { on := 1, ground := Go.Ground.phase }, { on := 2, ground := Go.Ground.phase }, { on := 3, ground := Go.Ground.phase }, { on := 4, ground := Go.Ground.phase }, { on := 5, ground := Go.Ground.phase }, { on := 6, ground := Go.Ground.textOnly Go.Departure.lateStores }, { on := 7, ground := Go.Ground.phase }], guard := none }) rfl (fun K hK => ?_) AllReadyH.nil
            ((have c0 := R8.cell 0); (have c1 := R8.cell 1); (simp at c0 c1); (have f0 := R8.frozen 0); (have f1 := R8.frozen 1); go_simp; clear c0 c1 f0 f1)
            refine hK.out _ _ ?hSr8_9_8 (fun hHeld2 => ?_)
            case hSr8_9_8 => (exact ⟨(World.cell?_setCell_far _ _ _ _ n0.symm).trans ((World.cell?_setCell_far _ _ _ _ n0.symm).trans hHeld.1), (World.cell?_setCell_far _ _ _ _ n0.symm).trans ((World.cell?_setCell_far _ _ _ _ n0.symm).trans hHeld.2.1), (hHeld.2.2.1.set_far _ _ n3).set_far _ _ n3, (hHeld.2.2.2.1.set_far _ _ n0).set_far _ _ n0, (hHeld.2.2.2.2.1.set_far _ _ n1).set_far _ _ n1, (hHeld.2.2.2.2.2.1.set_far _ _ n2).set_far _ _ n2, (hHeld.2.2.2.2.2.2.setCell m8 _).setCell m8 _⟩)
            clear hK K hHeld
            have hHeld := hHeld2
            clear hHeld2
            rename World => wq
            (try simp only [Act.put, List.setIfInBounds_toArray, List.set_cons_zero, List.set_cons_succ])
            refine wpAnyH_take (i := 9) (oi := { dst := some 9, op := Go.Op.assign (Go.Operand.tmp 28), type := 4, pos := _, after := #[{ on := 6, ground := Go.Ground.data }, { on := 8, ground := Go.Ground.chain }, { on := 0, ground := Go.Ground.phase }, { on := 1, ground := Go.Ground.phase }, { on := 2, ground := Go.Ground.phase }, { on := 3, ground := Go.Ground.phase }, { on := 4, ground := Go.Ground.phase }, { on := 5, ground := Go.Ground.phase }, { on := 6, ground := Go.Ground.phase }, { on := 7, ground := Go.Ground.phase }, { on := 8, ground := Go.Ground.phase }], guard := none }) (v := ?vr8_10_9) rfl (by kernel_rfl) (by kernel_rfl) (by kernel_rfl) (fun _ _ _ h => h) (Or.inl ⟨by rfl, ?yr8_10_9⟩) hHeld ?_
            case yr8_10_9 => ((intro w hSw; (try dsimp only at hSw); go_simp) <;> with_reducible rfl)
            (try simp only [Act.put, List.setIfInBounds_toArray, List.set_cons_zero, List.set_cons_succ])
            refine wpAnyH_done (by kernel_rfl) ?_ _
            (go_wp2_with fail; go_meet; exact ⟨g8, rfl, (by simpa using (R8.set 0 (.int .u64 (hi (A + N)))).set 1 (.int .u64 (lo (A + N)))), hHeld.2.2.2.1, hHeld.2.2.2.2.1, hHeld.2.2.2.2.2.1, n0, n1, n2, m8, hHeld.2.2.2.2.2.2⟩)
          refine AllReadyH.cons (o := { dst := some 8, op := Go.Op.alloc 27, type := 0, pos := _, after := #[], guard := none }) rfl (fun K hK => ?_) AllReadyH.nil
          · (go_simp; (have n0 := Nat.ne_of_lt hHeld.2.2.2.1.lt); (have n1 := Nat.ne_of_lt hHeld.2.2.2.2.1.lt); (have n2 := Nat.ne_of_lt hHeld.2.2.2.2.2.1.lt); (have n3 := Nat.ne_of_lt hHeld.2.2.1.lt); (have m8 := hHeld.2.2.2.2.2.2.size); (have R8 := Row.new wq #[.int .u64 0, .int .u64 0] 27); (have hb : Below wq.heap.size wq (wq.alloc (.cells #[.int .u64 0, .int .u64 0] 27)) := (Below.refl _ _).alloc (Nat.le_refl _) _); (have hS8 := And.intro (cell_later hb hHeld.1) (And.intro (cell_later hb hHeld.2.1) (And.intro (hHeld.2.2.1.later hb) (And.intro (hHeld.2.2.2.1.later hb) (And.intro (hHeld.2.2.2.2.1.later hb) (And.intro (hHeld.2.2.2.2.2.1.later hb) (below_step hHeld.2.2.2.2.2.2 hb))))))); clear hb; generalize wq.alloc (.cells #[.int .u64 0, .int .u64 0] 27) = wn at *; generalize wq.heap.size = g8 at *)
            refine hK.out _ _ ?hSr8_11_7 (fun hHeld2 => ?_)
            case hSr8_11_7 => (exact hS8)
            clear hK K hHeld
            have hHeld := hHeld2
            clear hHeld2
            rename World => wq
            (try simp only [Act.put, List.setIfInBounds_toArray, List.set_cons_zero, List.set_cons_succ])
            refine wpAnyH_ready (rs := [3]) (by kernel_rfl) (by simp) ?_
            refine AllReadyH.cons (o := { dst := some 26, op := Go.Op.call { callee := Go.Callee.value (Go.Operand.func 13), args := #[Go.Operand.tmp 23, Go.Operand.tmp 25], argTypes := #[27, 27] }, type := 28, pos := _, after := #[{ on := 0, ground := Go.Ground.data }, { on := 2, ground := Go.Ground.data }, { on := 2, ground := Go.Ground.chain }], guard := none }) rfl (fun K hK => ?_) AllReadyH.nil
            go_simp
            ((refine (refAdd_t _ _ _).mono ?_); (rintro e wn ⟨rfl, hb⟩); (try replace R8 := R8.later hb))
            go_wp2_with fail
            refine hK.out _ _ ?hSr8_12_3 (fun hHeld2 => ?_)
            case hSr8_12_3 => (first | exact ⟨a0, a1, Ry.drew, RA.drew, RB.drew, RR.drew, hb1.drew⟩ | exact ⟨cell_later hb hHeld.1, cell_later hb hHeld.2.1, hHeld.2.2.1.later hb, hHeld.2.2.2.1.later hb, hHeld.2.2.2.2.1.later hb, hHeld.2.2.2.2.2.1.later hb, below_step hHeld.2.2.2.2.2.2 hb⟩)
            clear hK K hHeld
            have hHeld := hHeld2
            clear hHeld2
            rename World => wq
            (try simp only [Act.put, List.setIfInBounds_toArray, List.set_cons_zero, List.set_cons_succ])
            refine wpAnyH_take (i := 4) (oi := { dst := some 22, op := Go.Op.move (Go.Operand.tmp 26), type := 28, pos := _, after := #[{ on := 3, ground := Go.Ground.data }], guard := none }) (v := ?vr8_13_4) rfl (by kernel_rfl) (by kernel_rfl) (by kernel_rfl) (fun _ _ _ h => h) (Or.inl ⟨by rfl, ?yr8_13_4⟩) hHeld ?_
            case yr8_13_4 => ((intro w hSw; (try dsimp only at hSw); go_simp) <;> with_reducible rfl)
            (try simp only [Act.put, List.setIfInBounds_toArray, List.set_cons_zero, List.set_cons_succ])
            refine wpAnyH_take (i := 5) (oi := { dst := some 27, op := Go.Op.extract (Go.Operand.tmp 22) 0, type := 27, pos := _, after := #[{ on := 4, ground := Go.Ground.data }], guard := none }) (v := ?vr8_14_5) rfl (by kernel_rfl) (by kernel_rfl) (by kernel_rfl) (fun _ _ _ h => h) (Or.inl ⟨by rfl, ?yr8_14_5⟩) hHeld ?_
            case yr8_14_5 => ((intro w hSw; (try dsimp only at hSw); go_simp) <;> with_reducible rfl)
            (try simp only [Act.put, List.setIfInBounds_toArray, List.set_cons_zero, List.set_cons_succ])
            refine wpAnyH_take (i := 6) (oi := { dst := some 28, op := Go.Op.extract (Go.Operand.tmp 22) 1, type := 4, pos := _, after := #[{ on := 4, ground := Go.Ground.data }, { on := 8, ground := Go.Ground.gcOnly Go.Departure.lateStores }], guard := none }) (v := ?vr8_15_6) rfl (by kernel_rfl) (by kernel_rfl) (by kernel_rfl) (fun _ _ _ h => h) (Or.inl ⟨by rfl, ?yr8_15_6⟩) hHeld ?_
            case yr8_15_6 => ((intro w hSw; (try dsimp only at hSw); go_simp) <;> with_reducible rfl)
            (try simp only [Act.put, List.setIfInBounds_toArray, List.set_cons_zero, List.set_cons_succ])
            refine wpAnyH_ready (rs := [8]) (by kernel_rfl) (by simp) ?_
            refine AllReadyH.cons (o := { dst := none, op := Go.Op.store 27 (Go.Operand.tmp 8) (Go.Operand.tmp 27), type := 0, pos := _, after := #[{ on := 7, ground := Go.Ground.data }, { on := 5, ground := Go.Ground.data }, { on := 3, ground := Go.Ground.chain }, { on := 0, ground := Go.Ground.phase }, { on := 1, ground := Go.Ground.phase }, { on := 2, ground := Go.Ground.phase }, { on := 3, ground := Go.Ground.phase }, { on := 4, ground := Go.Ground.phase }, { on := 5, ground := Go.Ground.phase }, { on := 6, ground := Go.Ground.textOnly Go.Departure.lateStores }, { on := 7, ground := Go.Ground.phase }], guard := none }) rfl (fun K hK => ?_) AllReadyH.nil
            ((have c0 := R8.cell 0); (have c1 := R8.cell 1); (simp at c0 c1); (have f0 := R8.frozen 0); (have f1 := R8.frozen 1); go_simp; clear c0 c1 f0 f1)
            refine hK.out _ _ ?hSr8_16_8 (fun hHeld2 => ?_)
            case hSr8_16_8 => (exact ⟨(World.cell?_setCell_far _ _ _ _ n0.symm).trans ((World.cell?_setCell_far _ _ _ _ n0.symm).trans hHeld.1), (World.cell?_setCell_far _ _ _ _ n0.symm).trans ((World.cell?_setCell_far _ _ _ _ n0.symm).trans hHeld.2.1), (hHeld.2.2.1.set_far _ _ n3).set_far _ _ n3, (hHeld.2.2.2.1.set_far _ _ n0).set_far _ _ n0, (hHeld.2.2.2.2.1.set_far _ _ n1).set_far _ _ n1, (hHeld.2.2.2.2.2.1.set_far _ _ n2).set_far _ _ n2, (hHeld.2.2.2.2.2.2.setCell m8 _).setCell m8 _⟩)
            clear hK K hHeld
            have hHeld := hHeld2
            clear hHeld2
            rename World => wq
            (try simp only [Act.put, List.setIfInBounds_toArray, List.set_cons_zero, List.set_cons_succ])
            refine wpAnyH_take (i := 9) (oi := { dst := some 9, op := Go.Op.assign (Go.Operand.tmp 28), type := 4, pos := _, after := #[{ on := 6, ground := Go.Ground.data }, { on := 8, ground := Go.Ground.chain }, { on := 0, ground := Go.Ground.phase }, { on := 1, ground := Go.Ground.phase }, { on := 2, ground := Go.Ground.phase }, { on := 3, ground := Go.Ground.phase }, { on := 4, ground := Go.Ground.phase }, { on := 5, ground := Go.Ground.phase }, { on := 6, ground := Go.Ground.phase }, { on := 7, ground := Go.Ground.phase }, { on := 8, ground := Go.Ground.phase }], guard := none }) (v := ?vr8_17_9) rfl (by kernel_rfl) (by kernel_rfl) (by kernel_rfl) (fun _ _ _ h => h) (Or.inl ⟨by rfl, ?yr8_17_9⟩) hHeld ?_
            case yr8_17_9 => ((intro w hSw; (try dsimp only at hSw); go_simp) <;> with_reducible rfl)
            (try simp only [Act.put, List.setIfInBounds_toArray, List.set_cons_zero, List.set_cons_succ])
            refine wpAnyH_done (by kernel_rfl) ?_ _
            (go_wp2_with fail; go_meet; exact ⟨g8, rfl, (by simpa using (R8.set 0 (.int .u64 (hi (A + N)))).set 1 (.int .u64 (lo (A + N)))), hHeld.2.2.2.1, hHeld.2.2.2.2.1, hHeld.2.2.2.2.2.1, n0, n1, n2, m8, hHeld.2.2.2.2.2.2⟩)
        refine AllReadyH.cons (o := { dst := some 8, op := Go.Op.alloc 27, type := 0, pos := _, after := #[], guard := none }) rfl (fun K hK => ?_) AllReadyH.nil
        · (go_simp; (have n0 := Nat.ne_of_lt hHeld.2.2.2.1.lt); (have n1 := Nat.ne_of_lt hHeld.2.2.2.2.1.lt); (have n2 := Nat.ne_of_lt hHeld.2.2.2.2.2.1.lt); (have n3 := Nat.ne_of_lt hHeld.2.2.1.lt); (have m8 := hHeld.2.2.2.2.2.2.size); (have R8 := Row.new wq #[.int .u64 0, .int .u64 0] 27); (have hb : Below wq.heap.size wq (wq.alloc (.cells #[.int .u64 0, .int .u64 0] 27)) := (Below.refl _ _).alloc (Nat.le_refl _) _); (have hS8 := And.intro (cell_later hb hHeld.1) (And.intro (cell_later hb hHeld.2.1) (And.intro (hHeld.2.2.1.later hb) (And.intro (hHeld.2.2.2.1.later hb) (And.intro (hHeld.2.2.2.2.1.later hb) (And.intro (hHeld.2.2.2.2.2.1.later hb) (below_step hHeld.2.2.2.2.2.2 hb))))))); clear hb; generalize wq.alloc (.cells #[.int .u64 0, .int .u64 0] 27) = wn at *; generalize wq.heap.size = g8 at *)
          refine hK.out _ _ ?hSr8_18_7 (fun hHeld2 => ?_)
          case hSr8_18_7 => (exact hS8)
          clear hK K hHeld
          have hHeld := hHeld2
          clear hHeld2
          rename World => wq
          (try simp only [Act.put, List.setIfInBounds_toArray, List.set_cons_zero, List.set_cons_succ])
          refine wpAnyH_ready (rs := [2]) (by kernel_rfl) (by simp) ?_
          refine AllReadyH.cons (o := { dst := some 25, op := Go.Op.call { callee := Go.Callee.value (Go.Operand.func 58), args := #[Go.Operand.tmp 24], argTypes := #[85] }, type := 27, pos := _, after := #[{ on := 1, ground := Go.Ground.data }], guard := none }) rfl (fun K hK => ?_) AllReadyH.nil
          go_simp
          ((refine (refOf_h _ _).mono ?_); (rintro e wn ⟨rfl, hb⟩); (try replace R8 := R8.later hb))
          go_wp2_with fail
          refine hK.out _ _ ?hSr8_19_2 (fun hHeld2 => ?_)
          case hSr8_19_2 => (first | exact ⟨a0, a1, Ry.drew, RA.drew, RB.drew, RR.drew, hb1.drew⟩ | exact ⟨cell_later hb hHeld.1, cell_later hb hHeld.2.1, hHeld.2.2.1.later hb, hHeld.2.2.2.1.later hb, hHeld.2.2.2.2.1.later hb, hHeld.2.2.2.2.2.1.later hb, below_step hHeld.2.2.2.2.2.2 hb⟩)
          clear hK K hHeld
          have hHeld := hHeld2
          clear hHeld2
          rename World => wq
          (try simp only [Act.put, List.setIfInBounds_toArray, List.set_cons_zero, List.set_cons_succ])
          refine wpAnyH_ready (rs := [3]) (by kernel_rfl) (by simp) ?_
          refine AllReadyH.cons (o := { dst := some 26, op := Go.Op.call { callee := Go.Callee.value (Go.Operand.func 13), args := #[Go.Operand.tmp 23, Go.Operand.tmp 25], argTypes := #[27, 27] }, type := 28, pos := _, after := #[{ on := 0, ground := Go.Ground.data }, { on := 2, ground := Go.Ground.data }, { on := 2, ground := Go.Ground.chain }], guard := none }) rfl (fun K hK => ?_) AllReadyH.nil
          go_simp
          ((refine (refAdd_t _ _ _).mono ?_); (rintro e wn ⟨rfl, hb⟩); (try replace R8 := R8.later hb))
          go_wp2_with fail
          refine hK.out _ _ ?hSr8_20_3 (fun hHeld2 => ?_)
          case hSr8_20_3 => (first | exact ⟨a0, a1, Ry.drew, RA.drew, RB.drew, RR.drew, hb1.drew⟩ | exact ⟨cell_later hb hHeld.1, cell_later hb hHeld.2.1, hHeld.2.2.1.later hb, hHeld.2.2.2.1.later hb, hHeld.2.2.2.2.1.later hb, hHeld.2.2.2.2.2.1.later hb, below_step hHeld.2.2.2.2.2.2 hb⟩)
          clear hK K hHeld
          have hHeld := hHeld2
          clear hHeld2
          rename World => wq
          (try simp only [Act.put, List.setIfInBounds_toArray, List.set_cons_zero, List.set_cons_succ])
          refine wpAnyH_take (i := 4) (oi := { dst := some 22, op := Go.Op.move (Go.Operand.tmp 26), type := 28, pos := _, after := #[{ on := 3, ground := Go.Ground.data }], guard := none }) (v := ?vr8_21_4) rfl (by kernel_rfl) (by kernel_rfl) (by kernel_rfl) (fun _ _ _ h => h) (Or.inl ⟨by rfl, ?yr8_21_4⟩) hHeld ?_
          case yr8_21_4 => ((intro w hSw; (try dsimp only at hSw); go_simp) <;> with_reducible rfl)
          (try simp only [Act.put, List.setIfInBounds_toArray, List.set_cons_zero, List.set_cons_succ])
          refine wpAnyH_take (i := 5) (oi := { dst := some 27, op := Go.Op.extract (Go.Operand.tmp 22) 0, type := 27, pos := _, after := #[{ on := 4, ground := Go.Ground.data }], guard := none }) (v := ?vr8_22_5) rfl (by kernel_rfl) (by kernel_rfl) (by kernel_rfl) (fun _ _ _ h => h) (Or.inl ⟨by rfl, ?yr8_22_5⟩) hHeld ?_
          case yr8_22_5 => ((intro w hSw; (try dsimp only at hSw); go_simp) <;> with_reducible rfl)
          (try simp only [Act.put, List.setIfInBounds_toArray, List.set_cons_zero, List.set_cons_succ])
          refine wpAnyH_take (i := 6) (oi := { dst := some 28, op := Go.Op.extract (Go.Operand.tmp 22) 1, type := 4, pos := _, after := #[{ on := 4, ground := Go.Ground.data }, { on := 8, ground := Go.Ground.gcOnly Go.Departure.lateStores }], guard := none }) (v := ?vr8_23_6) rfl (by kernel_rfl) (by kernel_rfl) (by kernel_rfl) (fun _ _ _ h => h) (Or.inl ⟨by rfl, ?yr8_23_6⟩) hHeld ?_
          case yr8_23_6 => ((intro w hSw; (try dsimp only at hSw); go_simp) <;> with_reducible rfl)
          (try simp only [Act.put, List.setIfInBounds_toArray, List.set_cons_zero, List.set_cons_succ])
          refine wpAnyH_ready (rs := [8]) (by kernel_rfl) (by simp) ?_
          refine AllReadyH.cons (o := { dst := none, op := Go.Op.store 27 (Go.Operand.tmp 8) (Go.Operand.tmp 27), type := 0, pos := _, after := #[{ on := 7, ground := Go.Ground.data }, { on := 5, ground := Go.Ground.data }, { on := 3, ground := Go.Ground.chain }, { on := 0, ground := Go.Ground.phase }, { on := 1, ground := Go.Ground.phase }, { on := 2, ground := Go.Ground.phase }, { on := 3, ground := Go.Ground.phase }, { on := 4, ground := Go.Ground.phase }, { on := 5, ground := Go.Ground.phase }, { on := 6, ground := Go.Ground.textOnly Go.Departure.lateStores }, { on := 7, ground := Go.Ground.phase }], guard := none }) rfl (fun K hK => ?_) AllReadyH.nil
          ((have c0 := R8.cell 0); (have c1 := R8.cell 1); (simp at c0 c1); (have f0 := R8.frozen 0); (have f1 := R8.frozen 1); go_simp; clear c0 c1 f0 f1)
          refine hK.out _ _ ?hSr8_24_8 (fun hHeld2 => ?_)
          case hSr8_24_8 => (exact ⟨(World.cell?_setCell_far _ _ _ _ n0.symm).trans ((World.cell?_setCell_far _ _ _ _ n0.symm).trans hHeld.1), (World.cell?_setCell_far _ _ _ _ n0.symm).trans ((World.cell?_setCell_far _ _ _ _ n0.symm).trans hHeld.2.1), (hHeld.2.2.1.set_far _ _ n3).set_far _ _ n3, (hHeld.2.2.2.1.set_far _ _ n0).set_far _ _ n0, (hHeld.2.2.2.2.1.set_far _ _ n1).set_far _ _ n1, (hHeld.2.2.2.2.2.1.set_far _ _ n2).set_far _ _ n2, (hHeld.2.2.2.2.2.2.setCell m8 _).setCell m8 _⟩)
          clear hK K hHeld
          have hHeld := hHeld2
          clear hHeld2
          rename World => wq
          (try simp only [Act.put, List.setIfInBounds_toArray, List.set_cons_zero, List.set_cons_succ])
          refine wpAnyH_take (i := 9) (oi := { dst := some 9, op := Go.Op.assign (Go.Operand.tmp 28), type := 4, pos := _, after := #[{ on := 6, ground := Go.Ground.data }, { on := 8, ground := Go.Ground.chain }, { on := 0, ground := Go.Ground.phase }, { on := 1, ground := Go.Ground.phase }, { on := 2, ground := Go.Ground.phase }, { on := 3, ground := Go.Ground.phase }, { on := 4, ground := Go.Ground.phase }, { on := 5, ground := Go.Ground.phase }, { on := 6, ground := Go.Ground.phase }, { on := 7, ground := Go.Ground.phase }, { on := 8, ground := Go.Ground.phase }], guard := none }) (v := ?vr8_25_9) rfl (by kernel_rfl) (by kernel_rfl) (by kernel_rfl) (fun _ _ _ h => h) (Or.inl ⟨by rfl, ?yr8_25_9⟩) hHeld ?_
          case yr8_25_9 => ((intro w hSw; (try dsimp only at hSw); go_simp) <;> with_reducible rfl)
          (try simp only [Act.put, List.setIfInBounds_toArray, List.set_cons_zero, List.set_cons_succ])
          refine wpAnyH_done (by kernel_rfl) ?_ _
          (go_wp2_with fail; go_meet; exact ⟨g8, rfl, (by simpa using (R8.set 0 (.int .u64 (hi (A + N)))).set 1 (.int .u64 (lo (A + N)))), hHeld.2.2.2.1, hHeld.2.2.2.2.1, hHeld.2.2.2.2.2.1, n0, n1, n2, m8, hHeld.2.2.2.2.2.2⟩)
      case rest =>
        clear RA RB RR Ry hb1 a0 a1
        obtain ⟨g8, rfl, R8, RA, RB, RR, n0, n1, n2, m8, hb1⟩ := hcut
        have d0 := R8.cell 0
        have d1 := R8.cell 1
        simp at d0 d1
        go_wp2_with fail
        have h1 : Calls Try.prog 13 #[.agg #[.int .u64 (hi (A + N)), .int .u64 (lo (A + N))], .agg #[.int .u64 0, .int .u64 1]] wc fun e w' => e = .returned (.tuple #[.agg #[.int .u64 (hi (A + N + 1)), .int .u64 (lo (A + N + 1))], .bool (addB ((A + N) % MM) (1 % MM))]) ∧ Below wc.heap.size wc w' := refAdd_t (A + N) 1 wc
        refine h1.mono ?_; rintro e w2 ⟨rfl, hb⟩
        clear h1 d0 d1
        replace R8 := R8.later hb
        replace RA := RA.later hb
        replace RB := RB.later hb
        replace RR := RR.later hb
        replace hb1 := below_step hb1 hb
        clear hb
        have eh : hi (A + N + 1) = hi (A - B) := hi_congr (by have h := HN.out; unfold MM at *; omega)
        have el : lo (A + N + 1) = lo (A - B) := lo_congr (by have h := HN.out; unfold MM at *; omega)
        have d0 := R8.cell 0
        have d1 := R8.cell 1
        simp at d0 d1
        have f0 := R8.frozen 0
        have f1 := R8.frozen 1
        go_wp2
        clear eh el d0 d1 f0 f1
        replace R8 := (R8.set 0 (.int .u64 (hi (A - B)))).set 1 (.int .u64 (lo (A - B)))
        replace RA := (RA.set_far ⟨g8, 0, none⟩ (.int .u64 (hi (A - B))) n0).set_far ⟨g8, 1, none⟩ (.int .u64 (lo (A - B))) n0
        replace RB := (RB.set_far ⟨g8, 0, none⟩ (.int .u64 (hi (A - B))) n1).set_far ⟨g8, 1, none⟩ (.int .u64 (lo (A - B))) n1
        replace RR := (RR.set_far ⟨g8, 0, none⟩ (.int .u64 (hi (A - B))) n2).set_far ⟨g8, 1, none⟩ (.int .u64 (lo (A - B))) n2
        replace hb1 := (hb1.setCell (p := ⟨g8, 0, none⟩) m8 (.int .u64 (hi (A - B)))).setCell (p := ⟨g8, 1, none⟩) m8 (.int .u64 (lo (A - B)))
        simp at R8
        generalize (w2.setCell ⟨g8, 0, none⟩ (.int .u64 (hi (A - B)))).setCell ⟨g8, 1, none⟩ (.int .u64 (lo (A - B))) = w3 at *
        have a0 := RA.cell 0
        have a1 := RA.cell 1
        have b0 := RB.cell 0
        have b1 := RB.cell 1
        have r0 := RR.cell 0
        have r1 := RR.cell 1
        have d0 := R8.cell 0
        have d1 := R8.cell 1
        simp at a0 a1 b0 b1 d0 d1 r0 r1
        have f0 := RR.frozen 0
        have f1 := RR.frozen 1
        have hsub : subB (A % MM) (B % MM) = decide (cmpI (A % MM) (B % MM) < 0) := (cmpI_neg _ _).symm
        have HSB := Lib.hid hsub; clear hsub
        go_region_held3 (fun w' => w'.cell? ⟨w.heap.size, 0, none⟩ = some (.int .u64 (hi A)) ∧ w'.cell? ⟨w.heap.size, 1, none⟩ = some (.int .u64 (lo A)) ∧ w'.cell? ⟨w.heap.size + 1, 0, none⟩ = some (.int .u64 (hi B)) ∧ w'.cell? ⟨w.heap.size + 1, 1, none⟩ = some (.int .u64 (lo B)) ∧ w'.cell? ⟨g8, 0, none⟩ = some (.int .u64 (hi (A - B))) ∧ w'.cell? ⟨g8, 1, none⟩ = some (.int .u64 (lo (A - B)))) (first | (simp [*]; done) | exact ⟨cell_later hb a0, cell_later hb a1, cell_later hb b0, cell_later hb b1, cell_later hb d0, cell_later hb d1⟩ | (go_split_ands; (repeat' apply And.intro) <;> (refine (World.cell?_setCell_far _ _ _ _ (by first | (simp; done) | (simp; omega))).trans ((World.cell?_setCell_far _ _ _ _ (by first | (simp; done) | (simp; omega))).trans ?_); assumption)))
          (first
            | (go_at_call 19; refine (refCmp_t _ _ _).mono ?_; rintro e w4 ⟨rfl, hb⟩; have r2 := cell_later hb r0; have r3 := cell_later hb r1; have f2 := (hb.frozen (p := ⟨w.heap.size + 1 + 1, 0, none⟩) RR.lt).trans f0; have f3 := (hb.frozen (p := ⟨w.heap.size + 1 + 1, 1, none⟩) RR.lt).trans f1))
        go_wp2
        refine bodyPost_ret (v := .tuple #[.agg #[.int .u64 (hi (A - B)), .int .u64 (lo (A - B))], .bool (decide (cmpI (A % MM) (B % MM) < 0))]) (by simp [results, Try.results16, go_sem, r2, r3]) rfl ⟨by rw [HSB.out], ?_⟩
        exact Below.setCell (Below.setCell (below_step hb1.drew hb) (by simp <;> omega) _) (by simp <;> omega) _
end Go.Proofs.Ytbofnfccejjolaa
