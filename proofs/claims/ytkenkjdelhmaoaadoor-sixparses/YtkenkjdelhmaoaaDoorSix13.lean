/- The run of zeros and the text of an address; Print of package six. No conditions beyond ranges. -/
import Derived.Test.YtkenkjdelhmaoaaDoorSix12
import Derived.Test.YtkenkjdelhmaoaaDoorFour5
namespace Go.Proofs.YtkenkjdelhmaoaaDoor
set_option linter.unusedVariables false
set_option linter.unusedSimpArgs false
open Go.RowKit
structure ScanIs (f : Nat → Int) (j : Nat) (s : Nat × Nat × Nat) : Prop where
  a : s.1 + s.2.1 ≤ j
  z : ∀ i, s.1 ≤ i → i < s.1 + s.2.1 → f i = 0
  l : s.2.2 ≤ j
  t : ∀ i, j - s.2.2 ≤ i → i < j → f i = 0
theorem scan_is (f : Nat → Int) : ∀ j, ScanIs f j (scan f j)
  | 0 => ⟨by simp [scan], fun i _ h => by simp [scan] at h, by simp [scan], fun i _ h => by omega⟩
  | j + 1 => by
    obtain ⟨ha, hz, hl, ht⟩ := scan_is f j
    rw [scan]
    generalize scan f j = s at *
    obtain ⟨a, m, l⟩ := s
    dsimp only at *
    have htz : f j = 0 → ∀ i, j - l ≤ i → i < j + 1 → f i = 0 := fun h0 i h1 h2 => by
      by_cases e : i = j
      · rw [e]; exact h0
      · exact ht i h1 (by omega)
    split
    · rename_i h0
      split
      · exact ⟨by dsimp only; omega, fun i h1 h2 => htz h0 i (by dsimp only at h1 h2; omega) (by dsimp only at h1 h2; omega), by dsimp only; omega, fun i h1 h2 => htz h0 i (by dsimp only at h1; omega) h2⟩
      · exact ⟨by dsimp only; omega, hz, by dsimp only; omega, fun i h1 h2 => htz h0 i (by dsimp only at h1; omega) h2⟩
    · exact ⟨by dsimp only; omega, hz, by dsimp only; omega, fun i h1 h2 => by dsimp only at h1; omega⟩
theorem runS_is (f : Nat → Int) : (runS f).1 + (runS f).2 ≤ 8 ∧ (∀ i, (runS f).1 ≤ i → i < (runS f).1 + (runS f).2 → f i = 0) ∧ ((runS f).2 = 0 ∧ (runS f).1 = 0 ∨ 2 ≤ (runS f).2) := by
  have h := scan_is f 8
  unfold runS
  split
  · exact ⟨by simp, fun i h1 h2 => by dsimp only at h1 h2; omega, Or.inl ⟨rfl, rfl⟩⟩
  · exact ⟨h.a, h.z, Or.inr (by dsimp only; omega)⟩
/-- the groups, as a list -/
def gl (f : Nat → Int) : List Nat := (List.range 8).map fun i => (f i).toNat
theorem gl_len (f : Nat → Int) : (gl f).length = 8 := by simp [gl]
theorem gl_get (f : Nat → Int) (j : Nat) (h : j < 8) : (gl f)[j]? = some (f j).toNat := by simp [gl, List.getElem?_range h]
theorem gl_lt {f : Nat → Int} (hf : ∀ k, 0 ≤ f k ∧ f k ≤ 65535) : ∀ x ∈ gl f, x < 65536 := by
  intro x hx
  unfold gl at hx
  obtain ⟨i, _, rfl⟩ := List.mem_map.1 hx
  have := hf i
  omega
/-- the text of eight groups -/
def print6 (f : Nat → Int) : List UInt8 := if (runS f).2 = 0 then joinH (gl f) else joinH ((gl f).take (runS f).1) ++ [58, 58] ++ joinH ((gl f).drop ((runS f).1 + (runS f).2))
theorem joinN_t (fs : List Nat) (n g o c : Nat) (hn : fs.length = n) (hl : n ≤ 8) (hf : ∀ x ∈ fs, x < 65536) (w : World) (hg : g < w.heap.size) (hE : Env6 w) (hc : ∀ (j x : Nat), fs[j]? = some x → w.cell? ⟨g, o + j, none⟩ = some (.int .u16 (x : Int))) : Calls Tryd.prog 42 #[.slice (some ⟨g, o, none⟩) n c] w fun e w' => e = .returned (.string ⟨(joinH fs).toArray⟩) ∧ Below w.heap.size w w' := by
  subst hn
  exact join_t fs g o c hl hf w hg hE hc
def cellsF (f : Nat → Int) : Array Value := #[.int .u16 (f 0), .int .u16 (f 1), .int .u16 (f 2), .int .u16 (f 3), .int .u16 (f 4), .int .u16 (f 5), .int .u16 (f 6), .int .u16 (f 7)]
theorem cellsF_get (f : Nat → Int) (i : Nat) (h : i < 8) : (cellsF f)[i]? = some (.int .u16 (f i)) := by
  rcases i with _ | _ | _ | _ | _ | _ | _ | _ | i <;> first | rfl | omega
theorem glcell {f : Nat → Int} (hf : ∀ k, 0 ≤ f k ∧ f k ≤ 65535) {w : World} {g : Nat} (R : Row w g (cellsF f) 42) (j x : Nat) (h : (gl f)[j]? = some x) : w.cell? ⟨g, j, none⟩ = some (.int .u16 (x : Int)) := by
  have hj : j < 8 := by have := (List.getElem?_eq_some_iff.1 h).1; rwa [gl_len] at this
  rw [gl_get f j hj] at h
  cases h
  rw [R.cell j, cellsF_get f j hj]
  have := hf j
  rw [Int.toNat_of_nonneg this.1]
def PS (w : World) (g : Nat) (f : Nat → Int) (w' : World) : Prop := Row w' g (cellsF f) 42 ∧ Env6 w' ∧ Below w.heap.size w w'
theorem PS.later {w : World} {g : Nat} {f : Nat → Int} {w1 w2 : World} (h : PS w g f w1) (hb : Below w1.heap.size w1 w2) : PS w g f w2 := ⟨h.1.later hb, h.2.1.later hb, below_step h.2.2 hb⟩
theorem PS.drew {w : World} {g : Nat} {f : Nat → Int} {w1 : World} (h : PS w g f w1) : PS w g f w1.drew := h.later ((Below.refl _ _).drew)
theorem jA {f : Nat → Int} (hf : ∀ k, 0 ≤ f k ∧ f k ≤ 65535) {w wq : World} {g : Nat} (h : PS w g f wq) : Calls Tryd.prog 42 #[.slice (some ⟨g, 0, none⟩) 8 8] wq fun e w' => e = .returned (.string ⟨(joinH (gl f)).toArray⟩) ∧ Below wq.heap.size wq w' :=
  joinN_t (gl f) 8 g 0 8 (gl_len f) (by omega) (gl_lt hf) wq h.1.lt h.2.1 (fun j x hx => by rw [Nat.zero_add]; exact glcell hf h.1 j x hx)
theorem j1 {f : Nat → Int} (hf : ∀ k, 0 ≤ f k ∧ f k ≤ 65535) {n : Nat} (hn : n ≤ 8) {w wq : World} {g : Nat} (h : PS w g f wq) : Calls Tryd.prog 42 #[.slice (some ⟨g, 0, none⟩) n 8] wq fun e w' => e = .returned (.string ⟨(joinH ((gl f).take n)).toArray⟩) ∧ Below wq.heap.size wq w' :=
  joinN_t ((gl f).take n) n g 0 8 (by simp [gl_len]; omega) hn (fun x hx => gl_lt hf x (List.mem_of_mem_take hx)) wq h.1.lt h.2.1 (fun j x hx => by
    rw [Nat.zero_add]
    have hj : j < n := by have := (List.getElem?_eq_some_iff.1 hx).1; simp at this; omega
    rw [List.getElem?_take_of_lt hj] at hx
    exact glcell hf h.1 j x hx)
theorem j2 {f : Nat → Int} (hf : ∀ k, 0 ≤ f k ∧ f k ≤ 65535) {k o n : Nat} (hk : k ≤ 8) (ho : o = if k = 8 then 0 else k) (hn : n = 8 - k) {w wq : World} {g : Nat} (h : PS w g f wq) : Calls Tryd.prog 42 #[.slice (some ⟨g, o, none⟩) n n] wq fun e w' => e = .returned (.string ⟨(joinH ((gl f).drop k)).toArray⟩) ∧ Below wq.heap.size wq w' :=
  joinN_t ((gl f).drop k) n g o n (by simp [gl_len]; omega) (by omega) (fun x hx => gl_lt hf x (List.mem_of_mem_drop hx)) wq h.1.lt h.2.1 (fun j x hx => by
    rw [List.getElem?_drop] at hx
    have hj : k + j < 8 := by have := (List.getElem?_eq_some_iff.1 hx).1; rwa [gl_len] at this
    rw [ho, if_neg (by omega)]
    exact glcell hf h.1 (k + j) x hx)
set_option maxRecDepth 100000 in
set_option maxHeartbeats 1600000 in
theorem print6_t (A : Int) (w : World) (hE : Env6 w) : Calls Tryd.prog 27 #[.agg #[.int .u64 (hi A), .int .u64 (lo A)]] w fun e w' => e = .returned (.string ⟨(print6 (grp A)).toArray⟩) ∧ Below w.heap.size w w' := by
  have hf := grp_range A
  obtain ⟨f, hfe⟩ : ∃ f, f = grp A := ⟨_, rfl⟩
  rw [← hfe] at hf ⊢
  have HPR : Hid (print6 f = if (runS f).2 = 0 then joinH (gl f) else joinH ((gl f).take (runS f).1) ++ [58, 58] ++ joinH ((gl f).drop ((runS f).1 + (runS f).2))) := Lib.hid rfl
  generalize print6 f = pt at *
  have HFE := Lib.hid hfe
  clear hfe
  go_enter Tryd.func27, Tryd.ntmps27
  go_wp2_with fail
  have hb0 : Below w.heap.size w (w.alloc (.cells #[.int .u64 (hi A), .int .u64 (lo A)] 40)) := (Below.refl _ _).alloc (Nat.le_refl _) _
  generalize w.alloc (.cells #[.int .u64 (hi A), .int .u64 (lo A)] 40) = w0 at *
  refine (groups_t A w0).mono ?_
  rintro e w1 ⟨rfl, hb1⟩
  have HB := Lib.hid (below_step hb0 hb1)
  clear hb0 hb1
  rw [← HFE.out]
  unfold arr8
  go_wp2_with fail
  have Rg := Row.new w1 (cellsF f) 42
  have hb2 : Below w1.heap.size w1 (w1.alloc (.cells (cellsF f) 42)) := (Below.refl _ _).alloc (Nat.le_refl _) _
  unfold cellsF at Rg hb2
  generalize w1.alloc (.cells #[.int .u16 (f 0), .int .u16 (f 1), .int .u16 (f 2), .int .u16 (f 3), .int .u16 (f 4), .int .u16 (f 5), .int .u16 (f 6), .int .u16 (f 7)] 42) = w2 at *
  refine (run_t f hf w2).mono ?_
  rintro e w3 ⟨rfl, hb3⟩
  have hPS : PS w w1.heap.size f w3 := ⟨Rg.later hb3, hE.later (below_step (below_step HB.out hb2) hb3), below_step (below_step HB.out hb2) hb3⟩
  generalize w1.heap.size = g at *
  have HPS := Lib.hid hPS
  clear Rg hb2 hb3 HB hPS
  obtain ⟨hr1, hr2, hr3⟩ := runS_is f
  clear hr2
  generalize runS f = r at *
  obtain ⟨at_, n⟩ := r
  dsimp only at *
  have HF := Lib.hid hf
  clear hf
  by_cases hn : n = 0
  · have HP := Lib.hid (HPR.out.trans (if_pos hn))
    subst hn
    clear HPR hr1 hr3
    have hca := fun wq => cutAll8 wq g
    go_wp2_with fail
    refine (jA HF.out HPS.out).mono ?_
    rintro e w4 ⟨rfl, hb4⟩
    have HB4 := Lib.hid (HPS.out.later hb4).2.2
    clear hb4 HPS hca
    go_wp2
    go_ret
    exact ⟨by rw [HP.out]; rfl, HB4.out⟩
  · have HP := Lib.hid (HPR.out.trans (if_neg hn))
    have hn' : ¬ (n : Int) = 0 := by omega
    have hnb : ((n : Int) == 0) = false := by rw [beq_eq_false_iff_ne]; omega
    clear HPR hr3
    obtain ⟨k, hk⟩ : ∃ k, k = at_ + n := ⟨_, rfl⟩
    obtain ⟨o, ho⟩ : ∃ o, o = if k = 8 then 0 else k := ⟨_, rfl⟩
    obtain ⟨m, hm⟩ : ∃ m, m = 8 - k := ⟨_, rfl⟩
    have hc1 := fun wq => cutH8 wq g at_ (by omega)
    have hc2 : ∀ wq : World, (Instr.sliceAt 42 (.pointer (some ⟨g, 0, none⟩)) (some (.int .i64 ((at_ : Int) + (n : Int)))) none none).run Tryd.prog wq = .ok (.slice (some ⟨g, o, none⟩) m m) wq := fun wq => by
      have h := cutL8 wq g k (by omega)
      rw [← ho, ← hm, hk] at h
      simpa using h
    have qw : IntKind.i64.wrap ((at_ : Int) + (n : Int)) = (at_ : Int) + (n : Int) := by simp [IntKind.wrap, IntKind.bits, IntKind.signed]; omega
    have HO := Lib.hid ho
    have HM := Lib.hid hm
    have HK := Lib.hid hk
    clear ho hm hk
    have hJ1 := fun wq (h : PS w g f wq) => j1 HF.out (show at_ ≤ 8 by omega) h
    have hJ2 := fun wq (h : PS w g f wq) => j2 HF.out (show k ≤ 8 by have := HK.out; omega) HO.out HM.out h
    have hl1 : (joinH ((gl f).take at_)).length ≤ 40 := Nat.le_trans (joinH_len _ (fun x hx => gl_lt HF.out x (List.mem_of_mem_take hx))) (by simp [gl_len]; omega)
    have hl2 : (joinH ((gl f).drop k)).length ≤ 40 := Nat.le_trans (joinH_len _ (fun x hx => gl_lt HF.out x (List.mem_of_mem_drop hx))) (by simp [gl_len]; omega)
    generalize joinH ((gl f).take at_) = s1 at *
    generalize hs2 : joinH ((gl f).drop k) = s2 at *
    have HS2 := Lib.hid hs2
    have HRES : Hid ((⟨s1.toArray⟩ : ByteArray) ++ ⟨#[58, 58]⟩ ++ ⟨s2.toArray⟩ = ⟨pt.toArray⟩) := Lib.hid (by rw [HP.out, ← HK.out, HS2.out, show (⟨#[58, 58]⟩ : ByteArray) = ⟨[58, 58].toArray⟩ from rfl, app_ll, app_ll])
    have hx1 : ¬ 9223372036854775807 < s1.length + 2 := by omega
    have hx2 : ¬ 9223372036854775807 < s1.length + 2 + s2.length := by omega
    clear hs2
    go_wp2_with fail
    refine wp_region_held_drew (S := (fun w' => PS w g f w')) (by kernel_rfl) ?hSr1_ (fun hHeld => ?_)
    case hSr1_ => (first | exact HPS.out.drew | exact hHeld.later hb)
    refine wpAnyH_take (i := 0) (oi := { dst := some 17, op := Go.Op.move (Go.Operand.tmp 4), type := 3, pos := _, after := #[], guard := none }) (v := ?vr1_1_0) rfl (by kernel_rfl) (by kernel_rfl) (by kernel_rfl) (fun _ _ _ h => h) (Or.inl ⟨by rfl, ?yr1_1_0⟩) hHeld ?_
    case yr1_1_0 => ((intro w hSw; (try dsimp only at hSw); go_simp) <;> with_reducible rfl)
    (try simp only [Act.put, List.setIfInBounds_toArray, List.set_cons_zero, List.set_cons_succ])
    refine wpAnyH_take (i := 1) (oi := { dst := some 18, op := Go.Op.slice 42 (Go.Operand.tmp 3) none (some (Go.Operand.tmp 17)) none, type := 76, pos := _, after := #[{ on := 0, ground := Go.Ground.data }], guard := none }) (v := ?vr1_2_1) rfl (by kernel_rfl) (by kernel_rfl) (by kernel_rfl) (fun _ _ _ h => h) (Or.inl ⟨by rfl, ?yr1_2_1⟩) hHeld ?_
    case yr1_2_1 => ((intro w hSw; (try dsimp only at hSw); go_simp) <;> with_reducible rfl)
    (try simp only [Act.put, List.setIfInBounds_toArray, List.set_cons_zero, List.set_cons_succ])
    refine wpAnyH_take (i := 4) (oi := { dst := some 21, op := Go.Op.move (Go.Operand.tmp 4), type := 3, pos := _, after := #[], guard := none }) (v := ?vr1_3_4) rfl (by kernel_rfl) (by kernel_rfl) (by kernel_rfl) (fun _ _ _ h => h) (Or.inl ⟨by rfl, ?yr1_3_4⟩) hHeld ?_
    case yr1_3_4 => ((intro w hSw; (try dsimp only at hSw); go_simp) <;> with_reducible rfl)
    (try simp only [Act.put, List.setIfInBounds_toArray, List.set_cons_zero, List.set_cons_succ])
    refine wpAnyH_take (i := 5) (oi := { dst := some 22, op := Go.Op.move (Go.Operand.tmp 5), type := 3, pos := _, after := #[], guard := none }) (v := ?vr1_4_5) rfl (by kernel_rfl) (by kernel_rfl) (by kernel_rfl) (fun _ _ _ h => h) (Or.inl ⟨by rfl, ?yr1_4_5⟩) hHeld ?_
    case yr1_4_5 => ((intro w hSw; (try dsimp only at hSw); go_simp) <;> with_reducible rfl)
    (try simp only [Act.put, List.setIfInBounds_toArray, List.set_cons_zero, List.set_cons_succ])
    refine wpAnyH_take (i := 6) (oi := { dst := some 23, op := Go.Op.binOp Go.BinOp.add 3 (Go.Operand.tmp 21) (Go.Operand.tmp 22) 3, type := 3, pos := _, after := #[{ on := 4, ground := Go.Ground.data }, { on := 5, ground := Go.Ground.data }], guard := none }) (v := ?vr1_5_6) rfl (by kernel_rfl) (by kernel_rfl) (by kernel_rfl) (fun _ _ _ h => h) (Or.inl ⟨by rfl, ?yr1_5_6⟩) hHeld ?_
    case yr1_5_6 => ((intro w hSw; (try dsimp only at hSw); go_simp) <;> with_reducible rfl)
    (try simp only [Act.put, List.setIfInBounds_toArray, List.set_cons_zero, List.set_cons_succ])
    refine wpAnyH_take (i := 7) (oi := { dst := some 24, op := Go.Op.slice 42 (Go.Operand.tmp 3) (some (Go.Operand.tmp 23)) none none, type := 76, pos := _, after := #[{ on := 6, ground := Go.Ground.data }], guard := none }) (v := ?vr1_6_7) rfl (by kernel_rfl) (by kernel_rfl) (by kernel_rfl) (fun _ _ _ h => h) (Or.inl ⟨by rfl, ?yr1_6_7⟩) hHeld ?_
    case yr1_6_7 => ((intro w hSw; (try dsimp only at hSw); go_simp) <;> with_reducible rfl)
    (try simp only [Act.put, List.setIfInBounds_toArray, List.set_cons_zero, List.set_cons_succ])
    refine wpAnyH_ready (rs := [2]) (by kernel_rfl) (by simp) ?_
    refine AllReadyH.cons (o := { dst := some 19, op := Go.Op.call { callee := Go.Callee.value (Go.Operand.func 42), args := #[Go.Operand.tmp 18], argTypes := #[76] }, type := 9, pos := _, after := #[{ on := 1, ground := Go.Ground.data }], guard := none }) rfl (fun K hK => ?_) AllReadyH.nil
    go_simp
    ((first | (with_reducible refine (hJ1 _ hHeld).mono ?_) | (with_reducible refine (hJ2 _ hHeld).mono ?_)); (rintro e wn ⟨rfl, hb⟩))
    go_wp2_with fail
    refine hK.out _ _ ?hSr1_7_2 (fun hHeld2 => ?_)
    case hSr1_7_2 => (first | exact HPS.out.drew | exact hHeld.later hb)
    clear hK K hHeld
    have hHeld := hHeld2
    clear hHeld2
    (try simp only [Act.put, List.setIfInBounds_toArray, List.set_cons_zero, List.set_cons_succ])
    refine wpAnyH_take (i := 3) (oi := { dst := some 20, op := Go.Op.binOp Go.BinOp.add 9 (Go.Operand.tmp 19) (Go.Operand.const (Go.Value.string { data := #[58, 58] })) 9, type := 9, pos := _, after := #[{ on := 2, ground := Go.Ground.data }], guard := none }) (v := ?vr1_8_3) rfl (by kernel_rfl) (by kernel_rfl) (by kernel_rfl) (fun _ _ _ h => h) (Or.inl ⟨by rfl, ?yr1_8_3⟩) hHeld ?_
    case yr1_8_3 => ((intro w hSw; (try dsimp only at hSw); go_simp) <;> with_reducible rfl)
    (try simp only [Act.put, List.setIfInBounds_toArray, List.set_cons_zero, List.set_cons_succ])
    refine wpAnyH_ready (rs := [8]) (by kernel_rfl) (by simp) ?_
    refine AllReadyH.cons (o := { dst := some 25, op := Go.Op.call { callee := Go.Callee.value (Go.Operand.func 42), args := #[Go.Operand.tmp 24], argTypes := #[76] }, type := 9, pos := _, after := #[{ on := 7, ground := Go.Ground.data }, { on := 2, ground := Go.Ground.chain }], guard := none }) rfl (fun K hK => ?_) AllReadyH.nil
    go_simp
    ((first | (with_reducible refine (hJ1 _ hHeld).mono ?_) | (with_reducible refine (hJ2 _ hHeld).mono ?_)); (rintro e wn ⟨rfl, hb⟩))
    go_wp2_with fail
    refine hK.out _ _ ?hSr1_9_8 (fun hHeld2 => ?_)
    case hSr1_9_8 => (first | exact HPS.out.drew | exact hHeld.later hb)
    clear hK K hHeld
    have hHeld := hHeld2
    clear hHeld2
    (try simp only [Act.put, List.setIfInBounds_toArray, List.set_cons_zero, List.set_cons_succ])
    refine wpAnyH_take (i := 9) (oi := { dst := some 26, op := Go.Op.binOp Go.BinOp.add 9 (Go.Operand.tmp 20) (Go.Operand.tmp 25) 9, type := 9, pos := _, after := #[{ on := 3, ground := Go.Ground.data }, { on := 8, ground := Go.Ground.data }], guard := none }) (v := ?vr1_10_9) rfl (by kernel_rfl) (by kernel_rfl) (by kernel_rfl) (fun _ _ _ h => h) (Or.inl ⟨by rfl, ?yr1_10_9⟩) hHeld ?_
    case yr1_10_9 => ((intro w hSw; (try dsimp only at hSw); go_simp) <;> with_reducible rfl)
    (try simp only [Act.put, List.setIfInBounds_toArray, List.set_cons_zero, List.set_cons_succ])
    refine wpAnyH_take (i := 10) (oi := { dst := some 2, op := Go.Op.assign (Go.Operand.tmp 26), type := 9, pos := _, after := #[{ on := 9, ground := Go.Ground.data }, { on := 8, ground := Go.Ground.chain }, { on := 0, ground := Go.Ground.phase }, { on := 1, ground := Go.Ground.phase }, { on := 2, ground := Go.Ground.phase }, { on := 3, ground := Go.Ground.phase }, { on := 4, ground := Go.Ground.phase }, { on := 5, ground := Go.Ground.phase }, { on := 6, ground := Go.Ground.phase }, { on := 7, ground := Go.Ground.phase }, { on := 8, ground := Go.Ground.phase }, { on := 9, ground := Go.Ground.phase }], guard := none }) (v := ?vr1_11_10) rfl (by kernel_rfl) (by kernel_rfl) (by kernel_rfl) (fun _ _ _ h => h) (Or.inl ⟨by rfl, ?yr1_11_10⟩) hHeld ?_
    case yr1_11_10 => ((intro w hSw; (try dsimp only at hSw); go_simp) <;> with_reducible rfl)
    (try simp only [Act.put, List.setIfInBounds_toArray, List.set_cons_zero, List.set_cons_succ])
    refine wpAnyH_done (by kernel_rfl) ?_ _
    (go_wp2; go_ret; exact ⟨congrArg (fun b => Ending.returned (Value.string b)) HRES.out, hHeld.2.2⟩)
end Go.Proofs.YtkenkjdelhmaoaaDoor
